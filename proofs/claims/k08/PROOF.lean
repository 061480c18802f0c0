import PyProof.Rows.All
import Wide.All
import OpenK.AllK
import Wide.FinOn
import HandS.ForMost
import HandS.Evl
import HandS.IsInst
import HandS.DeepEq
import HandS.ListItems
import HandS.HotCalls
import HandS.ExcCtx
import HandS.ExcIs
import HandS.ForExc
import HandS.DictComp
import HandS.Style
import HandS.FStr
import PyProof.Rows.SortShellAny
import PyProof.Rows.StrMeet
import HandS.ListEq
import HandS.Set
import HandS.SetFor
import HandS.Steps
import KE.KSortTupG
import PySem.Challenge.RW_threeroad_k08_joined
set_option Elab.async false
set_option linter.all false
set_option maxRecDepth 100000
set_option maxHeartbeats 40000000
set_option autoImplicit false
/-! Own layer: values of expressions over plain data (ints, texts as lists of signs, lists). -/
namespace Vf
open PySem PySem.Spec PyProof.Rows L2 TL Evl

/-! ## texts -/
abbrev Tx := List Nat
def mk (l : Tx) : Str := ⟨l.toArray⟩
def vs (l : Tx) : V := .str (mk l)
def tx (s : String) : Tx := s.toList.map Char.toNat
theorem tl_of (l : Tx) : tl (mk l) = l := rfl
theorem len_of (l : Tx) : (mk l).length = l.length := by rw [len_tl, tl_of]
theorem mk_of (x : Str) : mk (tl x) = x := ext_tl rfl
theorem app_of (a b : Tx) : mk a ++ mk b = mk (a ++ b) := ext_tl (by rw [tl_append, tl_of, tl_of, tl_of])
theorem mk_inj {a b : Tx} (h : mk a = mk b) : a = b := by rw [← tl_of a, h, tl_of]
theorem vs_inj {a b : Tx} (h : vs a = vs b) : a = b := mk_inj (V.str.inj h)
theorem lit_of (s : String) : Str.ofString s = mk (tx s) := ext_tl (tl_ofString s)
theorem vlit (s : String) : V.str (Str.ofString s) = vs (tx s) := congrArg V.str (lit_of s)
theorem dec_vs (a b : Tx) : decide (vs a = vs b) = decide (a = b) := by
  by_cases h : a = b
  · subst h
    rw [decide_eq_true rfl, decide_eq_true rfl]
  · rw [decide_eq_false h, decide_eq_false (fun e => h (vs_inj e))]
theorem dec_int (a b : Int) : decide (V.int a = V.int b) = decide (a = b) := by
  by_cases h : a = b
  · subst h
    rw [decide_eq_true rfl, decide_eq_true rfl]
  · rw [decide_eq_false h, decide_eq_false (fun e => h (V.int.inj e))]
theorem dec_bl (a b : Bool) : decide (V.bl a = V.bl b) = (a == b) := by
  cases a <;> cases b <;> decide

/-! ## places -/
theorem atI_get {α β : Type} (f : α → β) (l : List α) (d : α) {i : Int} (h0 : 0 ≤ i) (h1 : i < l.length) : atI (l.map f) i = some (f (l.getD i.toNat d)) := by
  have hj : i.toNat < l.length := by omega
  unfold atI ixN
  rw [if_pos h0, if_pos (by rw [List.length_map]; exact h1)]
  show (l.map f)[i.toNat]? = _
  rw [List.getElem?_map, List.getElem?_eq_getElem hj, List.getD_eq_getElem?_getD, List.getElem?_eq_getElem hj]
  rfl
theorem atI_getT (l : Tx) {i : Int} (h0 : 0 ≤ i) (h1 : i < l.length) : atI (mk l).cps.toList i = some (l.getD i.toNat 0) := by
  have h := atI_get (id : Nat → Nat) l 0 h0 h1
  rw [List.map_id] at h
  exact h
/-- slices, of anything -/
def cutG {α : Type} (l : List α) (lo hi : Option Int) : List α := (l.drop (HT.sIx l.length 0 lo)).take (HT.sIx l.length l.length hi - HT.sIx l.length 0 lo)
theorem cutV_map {α : Type} (f : α → V) (l : List α) (lo hi : Option Int) : cutV (l.map f) lo hi = (cutG l lo hi).map f := by
  unfold cutV cutG
  rw [List.length_map, List.map_take, List.map_drop]
theorem cutS_of (l : Tx) (lo hi : Option Int) : cutS (mk l) lo hi = mk (cutG l lo hi) := by
  unfold cutS cutG
  rw [len_of]
  rfl
theorem cutG_to {α : Type} (l : List α) (n : Nat) : cutG l none (some (n : Int)) = l.take n := by
  unfold cutG
  rw [HT.sIx_none, HT.sIx_nat, Nat.sub_zero, List.drop_zero]
  by_cases h : n ≤ l.length
  · rw [Nat.min_eq_left h]
  · rw [Nat.min_eq_right (by omega), List.take_length, List.take_of_length_le (by omega)]
theorem cutG_from {α : Type} (l : List α) (n : Nat) : cutG l (some (n : Int)) none = l.drop n := by
  unfold cutG
  rw [HT.sIx_none, HT.sIx_nat]
  by_cases h : n ≤ l.length
  · rw [Nat.min_eq_left h]
    exact List.take_of_length_le (by rw [List.length_drop]; omega)
  · rw [Nat.min_eq_right (by omega), Nat.sub_self, List.take_zero, List.drop_of_length_le (by omega)]

section
variable {K : PySem.W.Frag} {σ : L2.St} {H H' : Hp} {ta tb te tx' : TE} {t u : TT} {x y z v : V} {r : R2} {a b i j : Int} {p q : Tx}

/-! ## ints -/
theorem e_add (ha : Ev ta σ H (.int a)) (hb : Ev tb σ H (.int b)) : Ev (tOp (rI0 fun i j => .int (i + j)) ta tb) σ H (.int (a + b)) := ev_op ha hb rv_I0
theorem e_sub (ha : Ev ta σ H (.int a)) (hb : Ev tb σ H (.int b)) : Ev (tOp (rI0 fun i j => .int (i - j)) ta tb) σ H (.int (a - b)) := ev_op ha hb rv_I0
theorem e_mul (ha : Ev ta σ H (.int a)) (hb : Ev tb σ H (.int b)) (h : CMul a b) : Ev (tOp (rI CMul fun i j => .int (i * j)) ta tb) σ H (.int (a * b)) := ev_op ha hb (rv_I h)
theorem e_mod (ha : Ev ta σ H (.int a)) (hb : Ev tb σ H (.int b)) (h : 0 < b) : Ev (tOp (rI (fun _ j => 0 < j) fun i j => .int (i % j)) ta tb) σ H (.int (a % b)) := ev_op ha hb (rv_I (C := fun _ j => 0 < j) h)
theorem e_div (ha : Ev ta σ H (.int a)) (hb : Ev tb σ H (.int b)) (h : 0 < b ∧ b < 1073741824) : Ev (tOp (rI CDiv fun i j => .int (i / j)) ta tb) σ H (.int (a / b)) := ev_op ha hb (rv_I (C := CDiv) h)
theorem e_neg (ha : Ev ta σ H (.int a)) : Ev (tUn (rU fun i => .int (-i)) ta) σ H (.int (-a)) := ev_un ha ru_neg
theorem e_lt (ha : Ev ta σ H (.int a)) (hb : Ev tb σ H (.int b)) : Ev (tOp (rI0 fun i j => .bl (decide (i < j))) ta tb) σ H (.bl (decide (a < b))) := ev_op ha hb rv_I0
theorem e_le (ha : Ev ta σ H (.int a)) (hb : Ev tb σ H (.int b)) : Ev (tOp (rI0 fun i j => .bl (decide (i ≤ j))) ta tb) σ H (.bl (decide (a ≤ b))) := ev_op ha hb rv_I0
theorem e_gt (ha : Ev ta σ H (.int a)) (hb : Ev tb σ H (.int b)) : Ev (tOp (rI0 fun i j => .bl (decide (j < i))) ta tb) σ H (.bl (decide (b < a))) := ev_op ha hb rv_I0
theorem e_ge (ha : Ev ta σ H (.int a)) (hb : Ev tb σ H (.int b)) : Ev (tOp (rI0 fun i j => .bl (decide (j ≤ i))) ta tb) σ H (.bl (decide (b ≤ a))) := ev_op ha hb rv_I0
theorem e_eqI (ha : Ev ta σ H (.int a)) (hb : Ev tb σ H (.int b)) : Ev (tOp rEq ta tb) σ H (.bl (decide (a = b))) := dec_int a b ▸ ev_op ha hb (rv_eq rfl)
theorem e_neI (ha : Ev ta σ H (.int a)) (hb : Ev tb σ H (.int b)) : Ev (tOp rNe ta tb) σ H (.bl (!decide (a = b))) := dec_int a b ▸ ev_op ha hb (rv_ne rfl)
theorem e_eqT (ha : Ev ta σ H (vs p)) (hb : Ev tb σ H (vs q)) : Ev (tOp rEq ta tb) σ H (.bl (decide (p = q))) := dec_vs p q ▸ ev_op ha hb (rv_eq rfl)
theorem e_neT (ha : Ev ta σ H (vs p)) (hb : Ev tb σ H (vs q)) : Ev (tOp rNe ta tb) σ H (.bl (!decide (p = q))) := dec_vs p q ▸ ev_op ha hb (rv_ne rfl)
theorem e_eqB {c d : Bool} (ha : Ev ta σ H (.bl c)) (hb : Ev tb σ H (.bl d)) : Ev (tOp rEq ta tb) σ H (.bl (c == d)) := dec_bl c d ▸ ev_op ha hb (rv_eq rfl)
theorem e_neB {c d : Bool} (ha : Ev ta σ H (.bl c)) (hb : Ev tb σ H (.bl d)) : Ev (tOp rNe ta tb) σ H (.bl (!(c == d))) := dec_bl c d ▸ ev_op ha hb (rv_ne rfl)

/-! ## texts -/
theorem e_lit {s : String} : Ev (tC (.str (Str.ofString s))) σ H (vs (tx s)) := by
  rw [← vlit]
  exact ev_c
def rAddT : R2 := fun x y H Q => ∃ i j, x = .str i ∧ y = .str j ∧ i.length + j.length ≤ sizeLine ∧ Q (.str (i ++ j)) H
theorem op_addT {X : Cx} : OpR X (binaryOp .Add) rAddT := op_add_str
theorem rv_addT (h : p.length + q.length ≤ 100000) : RV rAddT (vs p) (vs q) H (vs (p ++ q)) := fun H1 _ Q k =>
  ⟨mk p, mk q, rfl, rfl, by rw [len_of, len_of]; exact sz_of h, by rw [app_of]; exact k H1 (Ex.refl H1)⟩
theorem e_addT (ha : Ev ta σ H (vs p)) (hb : Ev tb σ H (vs q)) (h : p.length + q.length ≤ 100000) : Ev (tOp rAddT ta tb) σ H (vs (p ++ q)) := ev_op ha hb (rv_addT h)
theorem e_ixS (ha : Ev ta σ H (vs p)) (hb : Ev tb σ H (.int i)) (h : 0 ≤ i ∧ i < p.length ∧ p.length ≤ 100000) : Ev (tOp rIxS ta tb) σ H (vs [p.getD i.toNat 0]) :=
  ev_op ha hb (rv_ixS (by rw [len_of]; exact h.2.2) (atI_getT p h.1 h.2.1))
theorem e_slS {tl' th : TO} {lo hi : Option Int} (h : Ev te σ H (vs p)) (h1 : EvO tl' σ H lo) (h2 : EvO th σ H hi) (hz : p.length ≤ 100000) : Ev (tSl rSlS te tl' th) σ H (vs (cutG p lo hi)) := fun H1 e Q k =>
  h H1 e _ fun H2 e2 => h1 H2 (e.trans e2) _ fun H3 e3 => h2 H3 ((e.trans e2).trans e3) _ fun H4 e4 =>
    ⟨mk p, rfl, by rw [len_of]; exact sz_of hz, by rw [cutS_of]; exact k H4 ((e2.trans e3).trans e4)⟩
def rLenT : List V → Hp → VK → Prop := fun xs H Q => ∃ z, xs = [.str z] ∧ z.length ≤ sizeLine ∧ Q (.int z.length) H
theorem call_lenT {X : Cx} : CallR X (.builtin "len") rLenT := call_len_str
theorem e_lenT (h : Ev te σ H (vs p)) (hz : p.length ≤ 100000) : Ev (tCB rLenT (tCons te tNil)) σ H (.int (p.length : Int)) := ev_cb (ea_cons h ea_nil) fun H1 _ Q k =>
  ⟨mk p, rfl, by rw [len_of]; exact sz_of hz, by rw [len_of]; exact k H1 (Ex.refl H1)⟩
/-- one sign in a text -/
def rInT : R2 := fun x y H Q => ∃ (c : Nat) (z : Str), x = .str ⟨#[c]⟩ ∧ y = .str z ∧ Q (.bl (decide (c ∈ z.cps.toList))) H
def rNiT : R2 := fun x y H Q => ∃ (c : Nat) (z : Str), x = .str ⟨#[c]⟩ ∧ y = .str z ∧ Q (.bl (!decide (c ∈ z.cps.toList))) H
theorem op_inT {X : Cx} : OpR X (compareOp .In) rInT := op_in_sign
theorem op_niT {X : Cx} : OpR X (compareOp .NotIn) rNiT := op_notIn_sign
theorem e_inT {c : Nat} (ha : Ev ta σ H (vs [c])) (hb : Ev tb σ H (vs p)) : Ev (tOp rInT ta tb) σ H (.bl (decide (c ∈ p))) := ev_op ha hb fun H1 _ Q k => ⟨c, mk p, rfl, rfl, k H1 (Ex.refl H1)⟩
theorem e_niT {c : Nat} (ha : Ev ta σ H (vs [c])) (hb : Ev tb σ H (vs p)) : Ev (tOp rNiT ta tb) σ H (.bl (!decide (c ∈ p))) := ev_op ha hb fun H1 _ Q k => ⟨c, mk p, rfl, rfl, k H1 (Ex.refl H1)⟩
/-- sep.join(list) -/
def rJoinT (K : PySem.W.Frag) : V → List V → Hp → VK → Prop := fun x xs H Q => ∃ a p, ∃ ys : List Str, x = .str a ∧ xs = [.ref p] ∧ (SqL K H p (ys.map V.str) ∨ SqT K H p (ys.map V.str)) ∧
  (ys.map (·.length)).sum + ys.length * a.length ≤ 16777216 ∧ Q (.str (Txt.join a ys)) H
theorem pe_joinT {X : Cx} {o e : Expr} {to te : TE} {apos pos : Pos} (ho : PE X o to) (he : PE X e te) (hs : starEach [e] X.env = [(false, eval e X.env)] := by rfl) (hbase : attributeBase o "join" X.env (eval o X.env) = eval o X.env := by rfl) (hline : (apos.endLine == pos.line) = true := by rfl) :
    PE X (.Call (.Attribute o "join" apos) [e] [] pos) (tM1 (rJoinT X.K) to te) := pe_join ho he hs hbase hline
def sumLen (l : List Tx) : Nat := (l.map List.length).sum
theorem map_vs (l : List Tx) : l.map vs = (l.map mk).map V.str := by rw [List.map_map]; rfl
theorem sum_mk (l : List Tx) : ((l.map mk).map (·.length)).sum = sumLen l := by
  unfold sumLen
  rw [List.map_map]
  congr 1
theorem join_of (s : Tx) (l : List Tx) : Txt.join (mk s) (l.map mk) = mk (joinL s l) := ext_tl (by
  rw [join_eq, tl_join, tl_of, tl_of, List.map_map]
  congr 1
  exact (List.map_congr_left fun x _ => tl_of x).trans (List.map_id l))
theorem jn_rule {s : Tx} {l : List Tx} {pl : Addr} {H1 : Hp} {Q : VK} (hS : SqL K H1 pl (l.map vs)) (hz : sumLen l + l.length * s.length ≤ 16777216) (k : Q (vs (joinL s l)) H1) : rJoinT K (vs s) [.ref pl] H1 Q :=
  ⟨mk s, pl, l.map mk, rfl, rfl, Or.inl (map_vs l ▸ hS), by rw [sum_mk, List.length_map, len_of]; exact hz, by rw [join_of]; exact k⟩
theorem jn_size {s : Tx} {l : List Tx} (hz : sumLen l ≤ 1000000 ∧ l.length ≤ 1000 ∧ s.length ≤ 1000) : sumLen l + l.length * s.length ≤ 16777216 := by
  have h := Nat.mul_le_mul hz.2.1 hz.2.2
  omega
theorem e_joinN {s : Tx} {l : List Tx} (h : Ev ta σ H (vs s)) (hl : EvL te σ H (l.map vs)) (hz : sumLen l ≤ 1000000 ∧ l.length ≤ 1000 ∧ s.length ≤ 1000) : Ev (tM1 (rJoinT K) ta te) σ H (vs (joinL s l)) := fun H1 e Q k =>
  h H1 e _ fun H2 e2 => ⟨⟨mk s, rfl⟩, hl H2 (e.trans e2) _ fun pl H3 _ e3 hp => jn_rule (sq_of hp) (jn_size hz) (k H3 (e2.trans e3))⟩
theorem e_joinR {s : Tx} {l : List Tx} {pl : Addr} (h : Ev ta σ H (vs s)) (hl : Ev te σ H (.ref pl)) (hS : SqL K H pl (l.map vs)) (hz : sumLen l ≤ 1000000 ∧ l.length ≤ 1000 ∧ s.length ≤ 1000) : Ev (tM1 (rJoinT K) ta te) σ H (vs (joinL s l)) := fun H1 e Q k =>
  h H1 e _ fun H2 e2 => ⟨⟨mk s, rfl⟩, hl H2 (e.trans e2) _ fun H3 e3 => jn_rule (ex_l ((e.trans e2).trans e3) hS) (jn_size hz) (k H3 (e2.trans e3))⟩
/-- x.split(one sign) -/
def rSplitT : V → List V → Hp → VK → Prop := fun x xs H Q => ∃ a b, x = .str a ∧ xs = [.str b] ∧ (b.length == 0) = false ∧ a.length + 2 ≤ sizeLine ∧ rNewStrs (Txt.split a b) H Q
theorem pe_splitT {X : Cx} {o e : Expr} {to te : TE} {apos pos : Pos} (ho : PE X o to) (he : PE X e te) (hs : starEach [e] X.env = [(false, eval e X.env)] := by rfl) (hbase : attributeBase o "split" X.env (eval o X.env) = eval o X.env := by rfl) (hline : (apos.endLine == pos.line) = true := by rfl) :
    PE X (.Call (.Attribute o "split" apos) [e] [] pos) (tM1 rSplitT to te) := pe_split ho he hs hbase hline
def cuts (c : Nat) (l : Tx) : List Tx := spl [c] 0 [] l
theorem split_of {c : Nat} (hc : c < 256) (l : Tx) : (Txt.split (mk l) (mk [c])).map V.str = (cuts c l).map vs := by
  have h := split_spl (mk l) (mk [c]) (by rw [tl_of]; simp) (kind_ok (by show (#[c] : Array Nat).all (· < 256) = true; simp [hc]))
  rw [tl_of, tl_of] at h
  show _ = (spl [c] 0 [] l).map vs
  rw [← h, List.map_map]
  exact List.map_congr_left fun y _ => by
    show V.str y = V.str (mk (tl y))
    rw [mk_of]
theorem l_split {c : Nat} (ha : Ev ta σ H (vs p)) (hb : Ev te σ H (vs [c])) (hc : c < 256) (hz : p.length ≤ 90000) : EvL (tM1 rSplitT ta te) σ H ((cuts c p).map vs) := fun H1 e Q k =>
  ha H1 e _ fun H2 e2 => ⟨⟨mk p, rfl⟩, hb H2 (e.trans e2) _ fun H3 e3 =>
    ⟨mk p, mk [c], rfl, rfl, by rw [len_of]; rfl, by rw [len_of]; exact sz_of (by omega), fun pl np => by
      have e4 := split_of hc p
      refine k pl _ (fresh_back (e2.trans e3) np) ((e2.trans e3).trans (Ex.new np)) ?_
      rw [upd_same, e4]⟩⟩
/-- startswith -/
theorem starts_of (p q : Tx) : Txt.startswith (mk p) (mk q) = q.isPrefixOf p := by
  show ((decide (0 + (mk q).length ≤ (mk p).length)) && Builtin.Str.subAt (mk p) (mk q) 0) = _
  rw [len_of, len_of, Nat.zero_add, PySem.StrLaws.subAt_eq, List.drop_zero, len_of]
  show (decide (q.length ≤ p.length) && (p.take q.length == q)) = q.isPrefixOf p
  cases h : q.isPrefixOf p with
  | true =>
    obtain ⟨r, rfl⟩ := List.isPrefixOf_iff_prefix.mp h
    simp
  | false =>
    have hn : ¬ q <+: p := fun z => by rw [List.isPrefixOf_iff_prefix.mpr z] at h; cases h
    have : ¬ p.take q.length = q := fun z => hn ⟨p.drop q.length, (congrArg (· ++ p.drop q.length) z).symm.trans (List.take_append_drop _ _)⟩
    rw [beq_eq_false_iff_ne.mpr this, Bool.and_false]
def rStartsT : V → List V → Hp → VK → Prop := fun x xs H Q => ∃ a b, x = .str a ∧ xs = [.str b] ∧ Q (.bl (Txt.startswith a b)) H
theorem pe_startsT {X : Cx} {o e : Expr} {to te : TE} {apos pos : Pos} (ho : PE X o to) (he : PE X e te) (hs : starEach [e] X.env = [(false, eval e X.env)] := by rfl) (hbase : attributeBase o "startswith" X.env (eval o X.env) = eval o X.env := by rfl) (hline : (apos.endLine == pos.line) = true := by rfl) :
    PE X (.Call (.Attribute o "startswith" apos) [e] [] pos) (tM1 rStartsT to te) := pe_m1 PySem.F.slot_str_startswith PySem.F.type_str_startswith mt_startswith ho he hs hbase hline
theorem e_starts (ha : Ev ta σ H (vs p)) (hb : Ev te σ H (vs q)) : Ev (tM1 rStartsT ta te) σ H (.bl (q.isPrefixOf p)) := fun H1 e Q k =>
  ha H1 e _ fun H2 e2 => ⟨⟨mk p, rfl⟩, hb H2 (e.trans e2) _ fun H3 e3 => ⟨mk p, mk q, rfl, rfl, by rw [starts_of]; exact k H3 (e2.trans e3)⟩⟩
/-! ## lists -/
theorem e_ixL {α : Type} {f : α → V} {l : List α} (d : α) {pl : Addr} (h : Ev ta σ H (.ref pl)) (hS : SqL K H pl (l.map f)) (hb : Ev tb σ H (.int i)) (hi : 0 ≤ i ∧ i < l.length) : Ev (tOp (rIxL K) ta tb) σ H (f (l.getD i.toNat d)) := ev_op h hb (rv_ixL hS (atI_get f l d hi.1 hi.2))
theorem e_ixN {α : Type} {f : α → V} {l : List α} (d : α) (h : EvL ta σ H (l.map f)) (hb : Ev tb σ H (.int i)) (hi : 0 ≤ i ∧ i < l.length) : Ev (tOp (rIxL K) ta tb) σ H (f (l.getD i.toNat d)) :=
  ev_opL1 h (fun _ e => hb.mono e) fun _ _ hp _ => rv_ixL (sq_of hp) (atI_get f l d hi.1 hi.2)
theorem e_lenL {α : Type} {f : α → V} {l : List α} {pl : Addr} (h : Ev ta σ H (.ref pl)) (hS : SqL K H pl (l.map f)) : Ev (tCB (rLenS K) (tCons ta tNil)) σ H (.int (l.length : Int)) := by
  have g := ev_len h hS
  rw [List.length_map] at g
  exact g
theorem e_lenN {α : Type} {f : α → V} {l : List α} (h : EvL ta σ H (l.map f)) : Ev (tCB (rLenS K) (tCons ta tNil)) σ H (.int (l.length : Int)) := by
  have g := ev_lenN (K := K) h
  rw [List.length_map] at g
  exact g
theorem call_lenQ {X : Cx} : CallR X (.builtin "len") (rLenS X.K) := call_len_seq
theorem l_slR {α : Type} {f : α → V} {l : List α} {tl' th : TO} {lo hi : Option Int} {pl : Addr} (h : Ev te σ H (.ref pl)) (hS : SqL K H pl (l.map f)) (h1 : EvO tl' σ H lo) (h2 : EvO th σ H hi) : EvL (tSl (rSlL K) te tl' th) σ H ((cutG l lo hi).map f) :=
  cutV_map f l lo hi ▸ el_sl h h1 h2 hS
theorem e_all {l : List Bool} (h : EvL ta σ H (l.map V.bl)) : Ev (tCB (rAll K) (tCons ta tNil)) σ H (.bl (l.all id)) := fun H1 e Q k =>
  h H1 e _ fun pl H2 _ e2 hp => ⟨pl, l, rfl, sq_of hp, k H2 e2⟩
theorem inV_vs (p : Tx) (l : List Tx) : inV (vs p) (l.map vs) = decide (p ∈ l) := by
  unfold inV
  rw [List.any_map]
  induction l with
  | nil => rfl
  | cons y r ih =>
    rw [List.any_cons, ih]
    show ((mk y == mk p) || _) = _
    by_cases h : y = p
    · subst h
      simp
    · have : (mk y == mk p) = false := beq_eq_false_iff_ne.mpr fun e => h (mk_inj e)
      rw [this]
      have h2 : ¬ p = y := fun e => h e.symm
      simp [h2]
theorem flat_vs (l : List Tx) : (l.map vs).all flatV = true := by
  rw [List.all_map]
  exact List.all_eq_true.mpr fun _ _ => rfl
theorem e_inN {l : List Tx} (ha : Ev ta σ H (vs p)) (hb : EvL tb σ H (l.map vs)) : Ev (tOp (rIn K false) ta tb) σ H (.bl (decide (p ∈ l))) := inV_vs p l ▸ ev_opL ha hb fun _ _ h _ => rv_isL (sq_of h) rfl (flat_vs l)
theorem e_inU {l : List Tx} (ha : Ev ta σ H (vs p)) (hb : EvU tb σ H (l.map vs)) : Ev (tOp (rIn K false) ta tb) σ H (.bl (decide (p ∈ l))) := inV_vs p l ▸ ev_inU ha hb rfl (flat_vs l)
theorem e_inR {l : List Tx} {pl : Addr} (ha : Ev ta σ H (vs p)) (hb : Ev tb σ H (.ref pl)) (hS : SqL K H pl (l.map vs)) : Ev (tOp (rIn K false) ta tb) σ H (.bl (decide (p ∈ l))) := inV_vs p l ▸ ev_op ha hb (rv_isL hS rfl (flat_vs l))

/-! ## comprehensions without ifs -/
theorem given_all (n : Nat) (g : Nat → V) : given n (fun _ => true) g = (List.range n).map g := by
  unfold given
  rw [List.filter_eq_self.mpr fun _ _ => rfl]
theorem l_mapR {α : Type} {f : α → V} {ta' : TA} {jx : Nat} {ws : List Nat} {n : Int} (g : Nat → α) (h : EvA ta' σ H [.int n]) (hn : 0 ≤ n ∧ n ≤ 40000) (he : ∀ k : Nat, (k : Int) < n → Ev te ((wipe σ ws).set jx (some (.int (k : Int)))) H (f (g k)))
    (hw : ∀ w, wipe ((wipe σ ws).set jx (some w)) ws = wipe σ ws := by exact fun _ => rfl) : EvL (tLc (iRng1 ta') (gName jx) tYes te ws) σ H (((List.range n.toNat).map g).map f) := by
  have q := el_lcR1 (t := tYes) (te := te) (fun _ => true) (fun k => f (g k)) h hn hw (fun _ _ _ _ => fun H1 _ Q k => k H1 (Ex.refl H1)) (fun k H1 e hk _ => (he k hk).mono e)
  rw [given_all] at q
  rw [List.map_map]
  exact q
theorem given_list {α β : Type} (f : β → V) (g : α → β) (l : List α) (d : α) : given l.length (fun _ => true) (fun k => f (g (l.getD k d))) = (l.map g).map f := by
  rw [given_all]
  apply List.ext_getElem
  · simp
  · intro k h1 h2
    simp only [List.getElem_map, List.getElem_range]
    rw [List.getD_eq_getElem?_getD, List.getElem?_eq_getElem (by simpa using h1)]
    rfl
theorem map_at {α : Type} {f : α → V} {l : List α} {k : Nat} {w : V} (d : α) (h : (l.map f)[k]? = some w) : l.getD k d ∈ l ∧ w = f (l.getD k d) := by
  rw [List.getElem?_map] at h
  cases e : l[k]? with
  | none => rw [e] at h; cases h
  | some y =>
    rw [e] at h
    have e2 : l.getD k d = y := by rw [List.getD_eq_getElem?_getD, e]; rfl
    rw [e2]
    exact ⟨List.mem_of_getElem? e, (Option.some.inj h).symm⟩
/-- over a list that stands -/
theorem l_mapL {α β : Type} {f : α → V} {f2 : β → V} {l : List α} {pl : Addr} {tl' : TE} {jx : Nat} {ws : List Nat} (d : α) (g : α → β) (h : Ev tl' σ H (.ref pl)) (hS : SqL K H pl (l.map f)) (hz : l.length ≤ 40000)
    (he : ∀ y ∈ l, Ev te ((wipe σ ws).set jx (some (f y))) H (f2 (g y))) (hw : ∀ w, wipe ((wipe σ ws).set jx (some w)) ws = wipe σ ws := by exact fun _ => rfl) : EvL (tLc (iList K tl') (gName jx) tYes te ws) σ H ((l.map g).map f2) := by
  have q := el_lcL (t := tYes) (te := te) (fun _ => true) (fun k => f2 (g (l.getD k d))) h hS (by rw [List.length_map]; exact hz) hw (fun _ _ _ _ _ => fun H1 _ Q k => k H1 (Ex.refl H1)) (fun k w H1 e hk _ => by
    obtain ⟨hm, ew⟩ := map_at d hk
    rw [ew]
    exact (he _ hm).mono e)
  rw [List.length_map, given_list] at q
  exact q
/-- over the signs of a text -/
theorem l_mapS {β : Type} {f2 : β → V} {tl' : TE} {jx : Nat} {ws : List Nat} (g : Nat → β) (h : Ev tl' σ H (vs p)) (hz : p.length ≤ 40000)
    (he : ∀ c ∈ p, Ev te ((wipe σ ws).set jx (some (vs [c]))) H (f2 (g c))) (hw : ∀ w, wipe ((wipe σ ws).set jx (some w)) ws = wipe σ ws := by exact fun _ => rfl) : EvL (tLc (iStr tl') (gName jx) tYes te ws) σ H ((p.map g).map f2) := fun H0 e0 Q q => h H0 e0 _ fun H1 e1 => ⟨mk p, rfl, fun D hD => by
  refine ⟨fun k m H2 => m = p.length - k ∧ k ≤ p.length ∧ Cw H1 (fun _ => true) (fun k => f2 (g (p.getD k 0))) D k H2, ⟨p.length, by simp, Nat.zero_le _, hD, Ex.new hD, upd_same⟩, fun k m H2 hW => ?_⟩
  obtain ⟨rfl, hk, hC⟩ := hW
  have hsz : (mk p).cps.size = p.length := by show p.toArray.size = _; simp
  by_cases hlt : k < p.length
  · refine Or.inr ⟨by show k < (mk p).cps.size; omega, fun H3 => Cw H1 (fun _ => true) (fun k => f2 (g (p.getD k 0))) D (k + 1) H3, fun H3 h3 => ⟨p.length - (k + 1), by omega, rfl, hlt, h3⟩, fun w H3 hy => ?_⟩
    obtain ⟨rfl, c, hc, rfl⟩ := hy
    have hc2 : p[k]? = some c := by
      have : (mk p).cps[k]? = p[k]? := by show p.toArray[k]? = _; simp
      rw [← this]; exact hc
    have hm : c ∈ p := List.mem_of_getElem? hc2
    have hd : p.getD k 0 = c := by rw [List.getD_eq_getElem?_getD, hc2]; rfl
    exact ⟨hw _, cw_turn hC (by omega) (fun H4 _ Q k => k H4 (Ex.refl H4)) (fun _ => by
      show Ev te _ H1 (f2 (g (p.getD k 0)))
      rw [hd]
      exact (he c hm).mono (e0.trans e1))⟩
  · have ek : k = p.length := by omega
    refine Or.inl ⟨by show (mk p).cps.size ≤ k; omega, ?_⟩
    subst ek
    have h3 := hC.2.2
    rw [given_list] at h3
    exact q D H2 (fresh_back e1 hC.1) (e1.trans hC.2.1) h3⟩

/-! ## displays -/
theorem a_one (h : Ev te σ H x) : EvA (tCons te tNil) σ H [x] := ea_cons h ea_nil
theorem a_two (h : Ev ta σ H x) (h2 : Ev tb σ H y) : EvA (tCons ta (tCons tb tNil)) σ H [x, y] := ea_cons h (a_one h2)
theorem tyx_lst {pl : Addr} {xs : List V} (h : SqL K H pl xs) : TyX K H (.ref pl) (.type "list") := by
  rcases h with (h | ⟨o, h⟩) | ⟨o, _, _, h, hc, _⟩
  · exact .base (.lst h)
  · exact .base (.frz h)
  · exact .kList h hc
/-! ## isinstance of plain values -/
theorem e_isi {w : V} {tw uw : Value} {c : V} {ok : Bool} (h : Ev ta σ H w) (hc : Ev tb σ H c) (k : ClsV c uw) (ty : ∀ H1, Ex H H1 → TyX K H1 w tw) (hk : PySem.W.kitOne K tw uw = some ok) : Ev (tCB (rIsi K) (tCons ta (tCons tb tNil))) σ H (.bl ok) :=
  ev_cb (a_two h hc) fun H1 e Q q => ⟨w, c, tw, uw, ok, rfl, k, ty H1 e, hk, q H1 (Ex.refl H1)⟩
end

/-! ## promises: a value, or a new list -/
/-- a pure def: called with such arguments it gives such a value, whatever else stands -/
def spP (R : List V → Hp → V → Prop) : Sp := fun vs' H Q _ => ∃ v, R vs' H v ∧ RetV v H Q
def spN (R : List V → Hp → List V → Prop) : Sp := fun vs' H Q _ => ∃ xs, R vs' H xs ∧ RetL xs H Q
theorem sv_of {R : List V → Hp → V → Prop} {ws : List V} {H : Hp} {v : V} (h : ∀ H1, Ex H H1 → R ws H1 v) : SpV (spP R) ws H v := fun H1 e Q q _ => ⟨v, h H1 e, q⟩
theorem sl_of {R : List V → Hp → List V → Prop} {ws : List V} {H : Hp} {xs : List V} (h : ∀ H1, Ex H H1 → R ws H1 xs) : SpL (spN R) ws H xs := fun H1 e Q q _ => ⟨xs, h H1 e, q⟩

/-! ## a def as its callers see it -/
structure Cal (P : Program) (w : World) (K : PySem.W.Frag) (mg : Str → Option Value) (base : Heap) (k : Nat) (x : Str) (ps : List Str) (sp : Sp) : Prop where
  ex : ∃ f fd, FnOk P w K mg base CX0 k f fd ps sp ∧ mg x = some (.ref f) ∧ PySem.W.keepIn K (.ref f) = true ∧ Binds K fd ps []
theorem pe_cal {X : Cx} {k : Nat} {x : Str} {ps : List Str} {sp : Sp} {e : Expr} {es : List Expr} {t : TA} {p pos : Pos} (C : Cal X.prog X.w X.K X.mg X.base k x ps sp) (hr : Room k X.A) (hg : Gl X x) (ha : PA X (e :: es) t)
    (hdb : (x == ("__debug__" : Str)) = false := by decide) (he : starEach (e :: es) X.env = (false, eval e X.env) :: starEach es X.env := by rfl) (hpl : (backTo pos (starEach es X.env)).any (·.1) = false := by rfl) :
    PE X (.Call (.Name x p) (e :: es) [] pos) (tCall sp [] E0 t) := by
  obtain ⟨f, fd, F, g, kp, b⟩ := C.ex
  exact pe_call (CX := CX0) (E := E0) F hr hg g kp b .nil pass0 ha hdb he hpl
/-- a def of the text, proved -/
theorem cal_of {P : Program} {w : World} {K : PySem.W.Frag} {mg : Str → Option Value} {base : Heap} {k : Nat} {x : Str} {ps : List Str} {sp : Sp} {f : Addr} {fd : FuncData} (F : FnOk P w K mg base CX0 k f fd ps sp) (g : mg x = some (.ref f)) (kp : PySem.W.keepIn K (.ref f) = true) (b : Binds K fd ps []) :
    Cal P w K mg base k x ps sp := ⟨f, fd, F, g, kp, b⟩
end Vf
namespace Vf
open PySem PySem.Spec PyProof.Rows L2 TL Evl

/-! ## loops as folds that may be left -/
inductive Stp (S R : Type) where
  | go (s : S) | brk (s : S) | ret (r : R)
def runL {α S R : Type} (f : S → α → Stp S R) : List α → S → Stp S R
  | [], s => .go s
  | x :: xs, s => match f s x with
    | .go s2 => runL f xs s2
    | .brk s2 => .brk s2
    | .ret r => .ret r
def aftL {S R : Type} (o : Stp S R) (g : S → R) : R := match o with
  | .go s => g s
  | .brk s => g s
  | .ret r => r
theorem runL_app {α S R : Type} (f : S → α → Stp S R) : ∀ (l m : List α) (s : S), runL f (l ++ m) s = match runL f l s with
    | .go s2 => runL f m s2
    | .brk s2 => .brk s2
    | .ret r => .ret r
  | [], m, s => rfl
  | x :: xs, m, s => by
    rw [List.cons_append]
    simp only [runL]
    cases h : f s x with
    | go s2 => exact runL_app f xs m s2
    | brk s2 => rfl
    | ret r => rfl
theorem runL_go {α S R : Type} {f : S → α → Stp S R} {y : α} {r : List α} {s s2 : S} (h : f s y = .go s2) : runL f (y :: r) s = runL f r s2 := by
  simp only [runL]
  rw [h]
theorem runL_ret {α S R : Type} {f : S → α → Stp S R} {y : α} {r : List α} {s : S} {q : R} (h : f s y = .ret q) : runL f (y :: r) s = .ret q := by
  simp only [runL]
  rw [h]
theorem runL_all {α S R : Type} (f : S → α → Stp S R) (g : S → α → S) (hf : ∀ s y, f s y = .go (g s y)) : ∀ (l : List α) (s : S), runL f l s = .go (l.foldl g s)
  | [], s => rfl
  | y :: r, s => by
    rw [runL_go (hf s y), runL_all f g hf r, List.foldl_cons]
theorem runL_next {α S R : Type} {f : S → α → Stp S R} {l : List α} {i : Nat} {y : α} {s0 s : S} (h : runL f (l.take i) s0 = .go s) (hy : l[i]? = some y) : runL f (l.take (i + 1)) s0 = f s y := by
  rw [List.take_add_one, hy, runL_app, h]
  show (match f s y with | .go s2 => runL f [] s2 | .brk s2 => .brk s2 | .ret r => .ret r) = _
  cases f s y <;> rfl
theorem runL_out {α S R : Type} {f : S → α → Stp S R} {l : List α} {i : Nat} {s0 : S} {o : Stp S R} (h : runL f (l.take i) s0 = o) (ho : ∀ s, o ≠ .go s) : runL f l s0 = o := by
  have e : l = l.take i ++ l.drop i := (List.take_append_drop i l).symm
  rw [e, runL_app, h]
  cases o with
  | go s => exact absurd rfl (ho s)
  | brk s => rfl
  | ret r => rfl

section
variable {K : PySem.W.Frag} {σ : L2.St} {H H' : Hp} {ta tb te tl' : TE} {D : Ends} {tu tw tz : TS} {α S R : Type}
/-- what a loop's body has to show -/
def BodyOk (tu : TS) (D : Ends) (j : Nat) (f : α → V) (step : S → α → Stp S R) (l : List α) (s0 : S) (Rep : S → L2.St → Hp → Prop) : Prop :=
  ∀ (Nx Bk : L2.St → Hp → Prop) (i : Nat) (s : S) (y : α) (σ1 : L2.St) (H1 : Hp), l[i]? = some y → runL step (l.take i) s0 = .go s → Rep s σ1 H1 → (∀ s2 σ2 H2, step s y = .go s2 → Rep s2 σ2 H2 → Nx σ2 H2) → (∀ s2 σ2 H2, step s y = .brk s2 → Rep s2 σ2 H2 → Bk σ2 H2) →
    (∀ r, step s y = .ret r → runL step l s0 = .ret r) → tu { D with nx := Nx, ct := Nx, bk := Bk } (σ1.set j (some (f y))) H1
def OutOk (tz : TS) (D : Ends) (step : S → α → Stp S R) (l : List α) (s0 : S) (Rep : S → L2.St → Hp → Prop) : Prop :=
  ∀ s σ1 H1, (runL step l s0 = .go s ∨ runL step l s0 = .brk s) → Rep s σ1 H1 → tz D σ1 H1
theorem loop_core {f : α → V} {l : List α} {step : S → α → Stp S R} {s0 : S} {Rep : S → L2.St → Hp → Prop} {j : Nat} (hb : BodyOk tu D j f step l s0 Rep) (ho : OutOk tz D step l s0 Rep) {i : Nat} {y : α} {σ1 : L2.St} {H1 : Hp} (hy : l[i]? = some y)
    (p : ∃ s, runL step (l.take i) s0 = .go s ∧ Rep s σ1 H1) : tu { D with nx := fun σ2 H2 => ∃ s, runL step (l.take (i + 1)) s0 = .go s ∧ Rep s σ2 H2, ct := fun σ2 H2 => ∃ s, runL step (l.take (i + 1)) s0 = .go s ∧ Rep s σ2 H2, bk := tz D } (σ1.set j (some (f y))) H1 := by
  obtain ⟨s, hr, hp⟩ := p
  have hn := runL_next hr hy
  exact hb _ _ i s y σ1 H1 hy hr hp (fun s2 σ2 H2 e q => ⟨s2, hn.trans e, q⟩) (fun s2 σ2 H2 e q => ho s2 σ2 H2 (Or.inr (runL_out (hn.trans e) (fun _ z => by cases z))) q) (fun r e => runL_out (hn.trans e) (fun _ z => by cases z))
theorem loop_end {l : List α} {step : S → α → Stp S R} {s0 : S} {Rep : S → L2.St → Hp → Prop} (ho : OutOk tz D step l s0 Rep) {n : Nat} (hn : n = l.length) {σ1 : L2.St} {H1 : Hp} (p : ∃ s, runL step (l.take n) s0 = .go s ∧ Rep s σ1 H1) : tz D σ1 H1 := by
  obtain ⟨s, hr, hp⟩ := p
  rw [hn, List.take_length] at hr
  exact ho s σ1 H1 (Or.inl hr) hp
/-- for x in a list that stands -/
theorem q_loopL {f : α → V} {l : List α} (step : S → α → Stp S R) (s0 : S) (Rep : S → L2.St → Hp → Prop) {j : Nat} {pl : Addr} (h : Ev tl' σ H (.ref pl)) (hS : SqL K H pl (l.map f)) (h0 : ∀ H1, Ex H H1 → Rep s0 σ H1) (hl : ∀ s σ1 H1, Rep s σ1 H1 → SqL K H1 pl (l.map f))
    (hb : BodyOk tu D j f step l s0 Rep) (ho : OutOk tz D step l s0 Rep) : tSeq (tFor (iList K tl') (gName j) tu) tz D σ H :=
  q_forLn h hS (fun i σ1 H1 => ∃ s, runL step (l.take i) s0 = .go s ∧ Rep s σ1 H1) (fun H1 e => ⟨s0, rfl, h0 H1 e⟩) (fun i σ1 H1 _ ⟨s, _, p⟩ => hl s σ1 H1 p) (fun i x σ1 H1 hx p => by
    rw [List.getElem?_map] at hx
    cases hy : l[i]? with
    | none => rw [hy] at hx; cases hx
    | some y =>
      rw [hy] at hx
      have ex : f y = x := Option.some.inj hx
      subst ex
      exact loop_core hb ho hy p) (fun σ1 H1 p => loop_end ho (List.length_map _ ) p)
/-- for x in a new list -/
theorem q_loopN {f : α → V} {l : List α} (step : S → α → Stp S R) (s0 : S) (Rep : Addr → S → L2.St → Hp → Prop) {j : Nat} (h : EvL tl' σ H (l.map f)) (h0 : ∀ p H1, H p = none → Ex H H1 → H1 p = some (.lst (l.map f)) → Rep p s0 σ H1) (hl : ∀ p s σ1 H1, Rep p s σ1 H1 → SqL K H1 p (l.map f))
    (hb : ∀ p, H p = none → BodyOk tu D j f step l s0 (Rep p)) (ho : ∀ p, H p = none → OutOk tz D step l s0 (Rep p)) : tSeq (tFor (iList K tl') (gName j) tu) tz D σ H :=
  q_forNLn h (fun p i σ1 H1 => ∃ s, runL step (l.take i) s0 = .go s ∧ H p = none ∧ Rep p s σ1 H1) (fun p H1 np e hp => ⟨s0, rfl, np, h0 p H1 np e hp⟩) (fun p i σ1 H1 _ ⟨s, _, _, q⟩ => hl p s σ1 H1 q) (fun p i x σ1 H1 hx q => by
    rw [List.getElem?_map] at hx
    cases hy : l[i]? with
    | none => rw [hy] at hx; cases hx
    | some y =>
      rw [hy] at hx
      have ex : f y = x := Option.some.inj hx
      subst ex
      obtain ⟨s, hr, np, hp⟩ := q
      have hn := runL_next hr hy
      exact hb p np _ _ i s y σ1 H1 hy hr hp (fun s2 σ2 H2 e q => ⟨s2, hn.trans e, np, q⟩) (fun s2 σ2 H2 e q => ho p np s2 σ2 H2 (Or.inr (runL_out (hn.trans e) (fun _ z => by cases z))) q) (fun r e => runL_out (hn.trans e) (fun _ z => by cases z))) (fun p σ1 H1 ⟨s, hr, np, q⟩ => loop_end (ho p np) (List.length_map _) ⟨s, hr, q⟩)
/-- for k in range(n) -/
theorem q_loopR {ta' : TA} {n : Int} (step : S → Nat → Stp S R) (s0 : S) (Rep : S → L2.St → Hp → Prop) {j : Nat} (h : EvA ta' σ H [.int n]) (hn : 0 ≤ n ∧ n ≤ 100000) (h0 : ∀ H1, Ex H H1 → Rep s0 σ H1)
    (hb : BodyOk tu D j (fun k : Nat => V.int (k : Int)) step (List.range n.toNat) s0 Rep) (ho : OutOk tz D step (List.range n.toNat) s0 Rep) : tSeq (tFor (iRng1 ta') (gName j) tu) tz D σ H :=
  q_forR1 h hn (fun i σ1 H1 => ∃ s, runL step ((List.range n.toNat).take i) s0 = .go s ∧ Rep s σ1 H1) (fun H1 e => ⟨s0, rfl, h0 H1 e⟩) (fun i σ1 H1 hi p => by
    have hy : (List.range n.toNat)[i]? = some i := by rw [List.getElem?_range (by omega)]
    exact loop_core (f := fun k : Nat => V.int (k : Int)) hb ho hy p) (fun σ1 H1 p => loop_end ho (by rw [List.length_range]) p)
/-- for k in range(a, b) -/
theorem q_loopR2 {ta' : TA} {lo n : Int} (step : S → Nat → Stp S R) (s0 : S) (Rep : S → L2.St → Hp → Prop) {j : Nat} (h : EvA ta' σ H [.int lo, .int n]) (hn : 0 ≤ lo ∧ lo ≤ 100000 ∧ -100000 ≤ n ∧ n ≤ 100000) (h0 : ∀ H1, Ex H H1 → Rep s0 σ H1)
    (hb : BodyOk tu D j (fun k : Nat => V.int (lo + (k : Int))) step (List.range (n - lo).toNat) s0 Rep) (ho : OutOk tz D step (List.range (n - lo).toNat) s0 Rep) : tSeq (tFor (iRng2 ta') (gName j) tu) tz D σ H :=
  q_forR2 h hn (fun i σ1 H1 => ∃ s, runL step ((List.range (n - lo).toNat).take i) s0 = .go s ∧ Rep s σ1 H1) (fun H1 e => ⟨s0, rfl, h0 H1 e⟩) (fun i σ1 H1 hi p => by
    have hy : (List.range (n - lo).toNat)[i]? = some i := by rw [List.getElem?_range (by omega)]
    exact loop_core (f := fun k : Nat => V.int (lo + (k : Int))) hb ho hy p) (fun σ1 H1 p => loop_end ho (by rw [List.length_range]) p)
/-- for c in a text -/
theorem q_loopS {p : Tx} (step : S → Nat → Stp S R) (s0 : S) (Rep : S → L2.St → Hp → Prop) {j : Nat} (h : Ev tl' σ H (vs p)) (h0 : ∀ H1, Ex H H1 → Rep s0 σ H1)
    (hb : BodyOk tu D j (fun c : Nat => vs [c]) step p s0 Rep) (ho : OutOk tz D step p s0 Rep) : tSeq (tFor (iStr tl') (gName j) tu) tz D σ H := h H (Ex.refl H) _ fun H1 e => ⟨mk p, rfl, by
  refine ⟨fun i m σ1 H2 => m = p.length - i ∧ i ≤ p.length ∧ ∃ s, runL step (p.take i) s0 = .go s ∧ Rep s σ1 H2, ⟨p.length, by simp, Nat.zero_le _, s0, rfl, h0 H1 e⟩, fun i m σ1 H2 hW => ?_⟩
  obtain ⟨rfl, hi, q⟩ := hW
  have hsz : (mk p).cps.size = p.length := by show p.toArray.size = _; simp
  by_cases hlt : i < p.length
  · refine Or.inr ⟨by show i < (mk p).cps.size; omega, fun σ2 H3 => ∃ s, runL step (p.take (i + 1)) s0 = .go s ∧ Rep s σ2 H3, fun σ2 H3 h3 => ⟨p.length - (i + 1), by omega, rfl, hlt, h3⟩, fun w H3 hy => ?_⟩
    obtain ⟨rfl, c, hc, rfl⟩ := hy
    have hc2 : p[i]? = some c := by
      have : (mk p).cps[i]? = p[i]? := by show p.toArray[i]? = _; simp
      rw [← this]; exact hc
    exact loop_core (f := fun c : Nat => vs [c]) hb ho hc2 q
  · have ei : i = p.length := by omega
    exact Or.inl ⟨by show (mk p).cps.size ≤ i; omega, loop_end ho ei q⟩⟩
/-! ## what is wanted, along the ways -/
theorem ret_T {β : Type} {f : β → V} {b : Bool} {x y : β} {Q : VK} (k : RetV (f (if b = true then x else y)) H Q) (hb : b = true) : RetV (f x) H Q := by
  rw [if_pos hb] at k
  exact k
theorem ret_F {β : Type} {f : β → V} {b : Bool} {x y : β} {Q : VK} (k : RetV (f (if b = true then x else y)) H Q) (hb : b = false) : RetV (f y) H Q := by
  rw [hb, if_neg Bool.false_ne_true] at k
  exact k
theorem retL_T {β : Type} {f : β → V} {b : Bool} {x y : List β} {Q : VK} (k : RetL ((if b = true then x else y).map f) H Q) (hb : b = true) : RetL (x.map f) H Q := by
  rw [if_pos hb] at k
  exact k
theorem retL_F {β : Type} {f : β → V} {b : Bool} {x y : List β} {Q : VK} (k : RetL ((if b = true then x else y).map f) H Q) (hb : b = false) : RetL (y.map f) H Q := by
  rw [hb, if_neg Bool.false_ne_true] at k
  exact k
theorem ret_run {β : Type} {f : β → V} {o : Stp S β} {g : S → β} {r : β} {Q : VK} (k : RetV (f (aftL o g)) H Q) (h : o = .ret r) : RetV (f r) H Q := by
  rw [h] at k
  exact k
theorem ret_go {β : Type} {f : β → V} {o : Stp S β} {g : S → β} {s : S} {Q : VK} (k : RetV (f (aftL o g)) H Q) (h : o = .go s ∨ o = .brk s) : RetV (f (g s)) H Q := by
  rcases h with h | h
  · rw [h] at k
    exact k
  · rw [h] at k
    exact k
theorem retL_run {β : Type} {f : β → V} {o : Stp S (List β)} {g : S → List β} {r : List β} {Q : VK} (k : RetL ((aftL o g).map f) H Q) (h : o = .ret r) : RetL (r.map f) H Q := by
  rw [h] at k
  exact k
theorem retL_go {β : Type} {f : β → V} {o : Stp S (List β)} {g : S → List β} {s : S} {Q : VK} (k : RetL ((aftL o g).map f) H Q) (h : o = .go s ∨ o = .brk s) : RetL ((g s).map f) H Q := by
  rcases h with h | h
  · rw [h] at k
    exact k
  · rw [h] at k
    exact k
/-! ## own lists that change -/
theorem q_appM {H0 : Hp} {pl : Addr} {f : α → V} {l : List α} {v : α} (e0 : Ex H0 H) (n0 : H0 pl = none) (hl : H pl = some (.lst (l.map f))) (ha : Ev ta σ H (.ref pl)) (h : Ev te σ H (f v)) (hz : l.length < 100000)
    (k : ∀ H1, Ex H0 H1 → H1 pl = some (.lst ((l ++ [v]).map f)) → (∀ q o, q ≠ pl → H q = some o → H1 q = some o) → tz D σ H1) : tSeq (tDrop (tBM K "list" rAppend ta (tCons te tNil))) tz D σ H :=
  q_app hl ha h (by rw [List.length_map]; exact hz) fun H1 e1 => k _ (Ex.mut (e0.trans e1) n0) (by rw [upd_same, List.map_append]; rfl) fun q o hq hh => by
    rw [upd_ne hq]
    exact e1 q o hh
theorem s_appM {H0 : Hp} {pl : Addr} {f : α → V} {l : List α} {v : α} (e0 : Ex H0 H) (n0 : H0 pl = none) (hl : H pl = some (.lst (l.map f))) (ha : Ev ta σ H (.ref pl)) (h : Ev te σ H (f v)) (hz : l.length < 100000)
    (k : ∀ H1, Ex H0 H1 → H1 pl = some (.lst ((l ++ [v]).map f)) → (∀ q o, q ≠ pl → H q = some o → H1 q = some o) → D.nx σ H1) : tDrop (tBM K "list" rAppend ta (tCons te tNil)) D σ H :=
  s_app hl ha h (by rw [List.length_map]; exact hz) fun H1 e1 => k _ (Ex.mut (e0.trans e1) n0) (by rw [upd_same, List.map_append]; rfl) fun q o hq hh => by
    rw [upd_ne hq]
    exact e1 q o hh
theorem ixN_at {n : Nat} {i : Int} {j : Nat} (h : (0 ≤ i ∧ i = j ∨ i < 0 ∧ i + n = j) ∧ j < n) : ixN n i = some j := by
  unfold ixN
  by_cases h0 : 0 ≤ i
  · rw [if_pos h0, if_pos (by omega)]
    congr 1
    omega
  · rw [if_neg h0, if_pos (by omega)]
    congr 1
    omega
theorem s_setM {H0 : Hp} {pl : Addr} {f : α → V} {l : List α} {v : α} {i : Int} (j : Nat) {tb' : TE} (e0 : Ex H0 H) (n0 : H0 pl = none) (hl : H pl = some (.lst (l.map f))) (h : Ev te σ H (f v)) (ha : Ev ta σ H (.ref pl)) (hi : Ev tb' σ H (.int i)) (hj : (0 ≤ i ∧ i = j ∨ i < 0 ∧ i + l.length = j) ∧ j < l.length)
    (k : ∀ H1, Ex H0 H1 → H1 pl = some (.lst ((l.set j v).map f)) → (∀ q o, q ≠ pl → H q = some o → H1 q = some o) → D.nx σ H1) : tAsg te (gSub ta tb' rSetL) D σ H := h H (Ex.refl H) _ fun H1 e1 => ha H1 e1 _ fun H2 e2 => hi H2 (e1.trans e2) _ fun H3 e3 =>
  ⟨pl, l.map f, i, j, rfl, rfl, ((e1.trans e2).trans e3) pl _ hl, ixN_at (by rw [List.length_map]; exact hj), k _ (Ex.mut (e0.trans ((e1.trans e2).trans e3)) n0) (by rw [upd_same, List.map_set]) fun q o hq hh => by
    rw [upd_ne hq]
    exact ((e1.trans e2).trans e3) q o hh⟩
theorem q_setM {H0 : Hp} {pl : Addr} {f : α → V} {l : List α} {v : α} {i : Int} (j : Nat) {tb' : TE} (e0 : Ex H0 H) (n0 : H0 pl = none) (hl : H pl = some (.lst (l.map f))) (h : Ev te σ H (f v)) (ha : Ev ta σ H (.ref pl)) (hi : Ev tb' σ H (.int i)) (hj : (0 ≤ i ∧ i = j ∨ i < 0 ∧ i + l.length = j) ∧ j < l.length)
    (k : ∀ H1, Ex H0 H1 → H1 pl = some (.lst ((l.set j v).map f)) → (∀ q o, q ≠ pl → H q = some o → H1 q = some o) → tz D σ H1) : tSeq (tAsg te (gSub ta tb' rSetL)) tz D σ H := s_setM (D := { D with nx := tz D }) j e0 n0 hl h ha hi hj k
/-! ## more -/
theorem el_is {xs ys : List V} (h : EvL te σ H xs) (e : xs = ys) : EvL te σ H ys := e ▸ h
def aftS {S S2 R : Type} (o : Stp S R) (g : S → Stp S2 R) : Stp S2 R := match o with
  | .go s => g s
  | .brk s => g s
  | .ret r => .ret r
theorem aftS_go {S2 : Type} {o : Stp S R} {g : S → Stp S2 R} {s : S} {q : Stp S2 R} (kq : q = aftS o g) (h : o = .go s ∨ o = .brk s) : q = g s := by
  rcases h with h | h
  · rw [h] at kq
    exact kq
  · rw [h] at kq
    exact kq
theorem aftS_ret {S2 : Type} {o : Stp S R} {g : S → Stp S2 R} {r : R} {q : Stp S2 R} (kq : q = aftS o g) (h : o = .ret r) : q = .ret r := by
  rw [h] at kq
  exact kq
theorem kq_T {β : Type} {b : Bool} {x y q : β} (kq : q = if b = true then x else y) (hb : b = true) : q = x := by
  rw [if_pos hb] at kq
  exact kq
theorem kq_F {β : Type} {b : Bool} {x y q : β} (kq : q = if b = true then x else y) (hb : b = false) : q = y := by
  rw [hb, if_neg Bool.false_ne_true] at kq
  exact kq
/-- if c: x = e -/
theorem set_same {β : Type} : ∀ {l : List (Option β)} {i : Nat} {y : β}, l[i]? = some (some y) → l.set i (some y) = l
  | [], _, _, h => by simp at h
  | a :: r, 0, y, h => by
    have e : a = some y := Option.some.inj h
    rw [e]
    rfl
  | a :: r, i + 1, y, h => by
    show a :: r.set i (some y) = a :: r
    rw [set_same (l := r) (i := i) h]
theorem q_ifSet {i : Nat} {b : Bool} {t : TT} {f : α → V} {x y z : α} (h : EvT t σ H b) (h1 : b = true → Ev te σ H (f x)) (h2 : σ[i]? = some (some (f y))) (hz : (if b = true then x else y) = z) (k : ∀ H1, Ex H H1 → tz D (σ.set i (some (f z))) H1) : tSeq (tIfS t (tAsg te (gName i)) tNext) tz D σ H := by
  subst hz
  exact q_ifAsg h (fun hb => by rw [if_pos hb]; exact h1 hb) (fun hb => by
    rw [hb, if_neg Bool.false_ne_true]
    exact set_same h2) k
theorem s_ifSet {i : Nat} {b : Bool} {t : TT} {f : α → V} {x y z : α} (h : EvT t σ H b) (h1 : b = true → Ev te σ H (f x)) (h2 : σ[i]? = some (some (f y))) (hz : (if b = true then x else y) = z) (k : ∀ H1, Ex H H1 → D.nx (σ.set i (some (f z))) H1) : tIfS t (tAsg te (gName i)) tNext D σ H := by
  subst hz
  exact s_ifAsg h (fun hb => by rw [if_pos hb]; exact h1 hb) (fun hb => by
    rw [hb, if_neg Bool.false_ne_true]
    exact set_same h2) k
theorem e_if {t : TT} {b : Bool} {f : α → V} {x y : α} (h : EvT t σ H b) (h1 : b = true → Ev ta σ H (f x)) (h2 : b = false → Ev tb σ H (f y)) : Ev (tIf t ta tb) σ H (f (if b = true then x else y)) :=
  ev_if h (fun hb => by rw [if_pos hb]; exact h1 hb) (fun hb => by rw [hb, if_neg Bool.false_ne_true]; exact h2 hb)
theorem e_chain {r r' : R2} {tc : TE} {x y z : V} {b c : Bool} (ha : Ev ta σ H x) (hb : Ev tb σ H y) (hc : Ev tc σ H z) (h1 : ∀ H1, Ex H H1 → RV r x y H1 (.bl b)) (h2 : ∀ H1, Ex H H1 → RV r' y z H1 (.bl c)) : Ev (tChain r r' ta tb tc) σ H (.bl (b && c)) := fun H1 e Q q =>
  ha H1 e _ fun H2 e2 => hb H2 (e.trans e2) _ fun H3 e3 => h1 H3 ((e.trans e2).trans e3) H3 (Ex.refl H3) _ fun H4 e4 => ⟨b, rfl, by
    cases b with
    | true => exact hc H4 (((e.trans e2).trans e3).trans e4) _ fun H5 e5 => h2 H5 ((((e.trans e2).trans e3).trans e4).trans e5) H5 (Ex.refl H5) Q fun H6 e6 => q H6 ((((e2.trans e3).trans e4).trans e5).trans e6)
    | false => exact q H4 ((e2.trans e3).trans e4)⟩
theorem e_min2 {i j : Int} (ha : Ev ta σ H (.int i)) (hb : Ev tb σ H (.int j)) : Ev (tCB (fun xs H Q => ∃ i j, xs = [.int i, .int j] ∧ Q (.int (if j < i then j else i)) H) (tCons ta (tCons tb tNil))) σ H (.int (min i j)) := fun H1 e Q q =>
  ha H1 e _ fun H2 e2 => hb H2 (e.trans e2) _ fun H3 e3 => ⟨i, j, rfl, by
    have : (if j < i then j else i) = min i j := by split <;> omega
    rw [this]
    exact q H3 (e2.trans e3)⟩
theorem e_max2 {i j : Int} (ha : Ev ta σ H (.int i)) (hb : Ev tb σ H (.int j)) : Ev (tCB (fun xs H Q => ∃ i j, xs = [.int i, .int j] ∧ Q (.int (if j > i then j else i)) H) (tCons ta (tCons tb tNil))) σ H (.int (max i j)) := fun H1 e Q q =>
  ha H1 e _ fun H2 e2 => hb H2 (e.trans e2) _ fun H3 e3 => ⟨i, j, rfl, by
    have : (if j > i then j else i) = max i j := by split <;> omega
    rw [this]
    exact q H3 (e2.trans e3)⟩
theorem l_mapR2 {α' : Type} {f : α' → V} {ta' : TA} {jx : Nat} {ws : List Nat} {lo n : Int} (g : Nat → α') (h : EvA ta' σ H [.int lo, .int n]) (hn : -100000 ≤ lo ∧ lo ≤ 100000 ∧ -100000 ≤ n ∧ n ≤ 100000 ∧ n - lo ≤ 40000) (he : ∀ k : Nat, lo + (k : Int) < n → Ev te ((wipe σ ws).set jx (some (.int (lo + (k : Int))))) H (f (g k)))
    (hw : ∀ w, wipe ((wipe σ ws).set jx (some w)) ws = wipe σ ws := by exact fun _ => rfl) : EvL (tLc (iRng2 ta') (gName jx) tYes te ws) σ H (((List.range (n - lo).toNat).map g).map f) := fun H0 e0 Q q => h H0 e0 _ fun H1 e1 => ⟨lo, n, rfl, ⟨by omega, by omega, by omega, by omega⟩, fun Dl hD =>
  lc_range (lo := lo) (n := (n - lo).toNat) (Cw H1 (fun _ => true) (fun k => f (g k)) Dl) ⟨hD, Ex.new hD, upd_same⟩ (fun i H2 hi p =>
    ⟨hw _, cw_turn p (by omega) (fun H4 _ Q k => k H4 (Ex.refl H4)) (fun _ => (he i (by omega)).mono (e0.trans e1))⟩) (fun H2 p => by
      have h3 := p.2.2
      rw [given_all] at h3
      exact q Dl H2 (fresh_back e1 p.1) (e1.trans p.2.1) (h3.trans (by rw [List.map_map]; rfl)))⟩
theorem e_ixLast {f : α → V} {l : List α} (d : α) {pl : Addr} (h : Ev ta σ H (.ref pl)) (hS : SqL K H pl (l.map f)) (hb : Ev tb σ H (.int (-1))) (hi : 0 < l.length) : Ev (tOp (rIxL K) ta tb) σ H (f (l.getLastD d)) :=
  ev_op h hb (rv_ixL hS (by
    unfold atI
    rw [ixN_at (j := l.length - 1) (by rw [List.length_map]; omega)]
    show (l.map f)[l.length - 1]? = _
    rw [List.getElem?_map, List.getElem?_eq_getElem (by omega)]
    show some _ = some _
    congr 2
    rw [List.getLastD_eq_getLast?, List.getLast?_eq_getElem?, List.getElem?_eq_getElem (by omega)]
    rfl))
/-- a filter ahead -/
theorem given_filter {β : Type} (f : β → V) (g : α → β) (c : α → Bool) (l : List α) (d : α) : given l.length (fun k => c (l.getD k d)) (fun k => f (g (l.getD k d))) = ((l.filter c).map g).map f := by
  unfold given
  rw [List.map_map]
  have e : l = (List.range l.length).map (fun k => l.getD k d) := by
    apply List.ext_getElem
    · simp
    · intro k h1 h2
      simp only [List.getElem_map, List.getElem_range]
      rw [List.getD_eq_getElem?_getD, List.getElem?_eq_getElem h1]
      rfl
  conv => rhs; rw [e, List.filter_map, List.map_map]
  rfl
theorem l_filL {β : Type} {f : α → V} {f2 : β → V} {l : List α} {pl : Addr} {jx : Nat} {ws : List Nat} {t : TT} (c : α → Bool) (g : α → β) (d : α) (h : Ev tl' σ H (.ref pl)) (hS : SqL K H pl (l.map f)) (hz : l.length ≤ 40000)
    (ht : ∀ y ∈ l, EvT t ((wipe σ ws).set jx (some (f y))) H (c y)) (he : ∀ y ∈ l, c y = true → Ev te ((wipe σ ws).set jx (some (f y))) H (f2 (g y))) (hw : ∀ w, wipe ((wipe σ ws).set jx (some w)) ws = wipe σ ws := by exact fun _ => rfl) :
    EvL (tLc (iList K tl') (gName jx) t te ws) σ H (((l.filter c).map g).map f2) := by
  have q := el_lcL (t := t) (te := te) (fun k => c (l.getD k d)) (fun k => f2 (g (l.getD k d))) h hS (by rw [List.length_map]; exact hz) hw (fun k w H1 e hk => by
    obtain ⟨hm, ew⟩ := map_at d hk
    rw [ew]
    exact (ht _ hm).mono e) (fun k w H1 e hk hc => by
    obtain ⟨hm, ew⟩ := map_at d hk
    rw [ew]
    exact (he _ hm hc).mono e)
  rw [List.length_map, given_filter] at q
  exact q
theorem paired_self {E : V → V → Prop} : ∀ {l : List V}, (∀ y ∈ l, E y y) → Paired E l l
  | [], _ => .nil
  | _ :: r, h => .cons (h _ List.mem_cons_self) (paired_self fun y hy => h y (List.mem_cons_of_mem _ hy))
/-- two new lists that are equal -/
theorem e_eqLL {f : α → V} {l l2 : List α} (hf : ∀ y, flatB (f y) = true) (ha : EvL ta σ H (l.map f)) (hb : EvL tb σ H (l2.map f)) (h : l = l2) : Ev (tOp (rEqV K) ta tb) σ H (.bl true) :=
  ev_opLL ha hb fun p q H1 hp hq _ => fun H2 e2 Q k => ⟨1, by decide, Or.inl ⟨p, q, _, _, rfl, rfl, sq_of (e2 p _ hp), sq_of (e2 q _ hq), by
    rw [← h]
    exact paired_self fun y hy => by
      obtain ⟨z, _, rfl⟩ := List.mem_map.mp hy
      exact Or.inl ⟨rfl, hf z⟩⟩, k H2 (Ex.refl H2)⟩
/-! ## a text many times -/
def rep (p : Tx) (n : Int) : Tx := (List.replicate n.toNat p).flatten
def rMulT : R2 := fun x y H Q => ∃ i n, x = .str i ∧ y = .int n ∧ MulOk i n ∧ Q (.str (Txt.mul i n)) H
theorem op_mulT {X : Cx} : OpR X (binaryOp .Mult) rMulT := by
  intro pins s σ H x y v u Q I rx ry h
  obtain ⟨i, n, rfl, rfl, hok, q⟩ := h
  obtain ⟨t, rfl⟩ := rx
  obtain ⟨t', rfl⟩ := ry
  exact SB.mul hok fun t' tk => ⟨.str (Txt.mul i n), H, I.tok _, ⟨_, rfl⟩, q⟩
theorem fold_tl : ∀ (k : Nat) (a p : Array Nat), ((List.replicate k p).foldl (· ++ ·) a).toList = a.toList ++ (List.replicate k p.toList).flatten
  | 0, a, p => by simp
  | k + 1, a, p => by
    rw [List.replicate_succ, List.foldl_cons, fold_tl k, List.replicate_succ, List.flatten_cons, Array.toList_append, List.append_assoc]
theorem mul_of (p : Tx) (n : Int) : Txt.mul (mk p) n = mk (rep p n) := by
  unfold Txt.mul rep
  by_cases h : n < 1
  · rw [if_pos h, show n.toNat = 0 by omega]
    rfl
  · rw [if_neg h]
    by_cases h2 : (n == 1 || (mk p).length == 0) = true
    · rw [if_pos h2]
      rcases Bool.or_eq_true_iff.mp h2 with h3 | h3
      · have : n = 1 := by simpa using h3
        subst this
        show mk p = mk ((List.replicate 1 p).flatten)
        simp
      · rw [len_of] at h3
        have : p = [] := List.length_eq_zero_iff.mp (by simpa using h3)
        subst this
        simp
    · rw [if_neg h2]
      exact ext_tl (by
        rw [tl_of]
        show ((List.replicate n.toNat (mk p).cps).foldl (· ++ ·) #[]).toList = _
        rw [fold_tl]
        rfl)
theorem mulok {p : Tx} {n : Int} (h : n ≤ 4096 ∧ p.length ≤ 4096 ∧ -4096 ≤ n) : MulOk (mk p) n := by
  have e : (mk p).length = p.length := len_of p
  refine ⟨by simp only [Bool.or_eq_false_iff, decide_eq_false_iff_not]; omega, fun h1 _ => ?_, fun h1 _ => ?_⟩
  · rw [e]
    have h5 : ((2 : Int) ^ 63 - 1) / 4096 ≤ (2 ^ 63 - 1) / n := by
      apply Int.le_ediv_of_mul_le (by omega)
      have : ((2 : Int) ^ 63 - 1) / 4096 * n ≤ ((2 : Int) ^ 63 - 1) / 4096 * 4096 := Int.mul_le_mul_of_nonneg_left h.1 (by decide)
      exact Int.le_trans this (by decide)
    have h6 : (4096 : Int) ≤ (2 ^ 63 - 1) / 4096 := by decide
    omega
  · rw [e]
    have h5 : p.length * n.toNat ≤ 4096 * 4096 := Nat.mul_le_mul h.2.1 (by omega)
    unfold Builtin.Str.tooLong
    simp only [decide_eq_false_iff_not]
    have : sizeLine = 16777216 := rfl
    omega
theorem e_mulT {p : Tx} {n : Int} (ha : Ev ta σ H (vs p)) (hb : Ev tb σ H (.int n)) (h : n ≤ 4096 ∧ p.length ≤ 4096 ∧ -4096 ≤ n) : Ev (tOp rMulT ta tb) σ H (vs (rep p n)) :=
  ev_op ha hb fun H1 _ Q k => ⟨mk p, n, rfl, rfl, mulok h, by rw [mul_of]; exact k H1 (Ex.refl H1)⟩
/-- the state behind a loop that nothing leaves by return -/
def outL [Inhabited S] : Stp S Unit → S
  | .go s => s
  | .brk s => s
  | .ret _ => default
theorem outL_of [Inhabited S] {o : Stp S Unit} {s : S} (h : o = .go s ∨ o = .brk s) : s = outL o := by
  rcases h with h | h
  · rw [h]
    rfl
  · rw [h]
    rfl
end
/-! ## rules whose answer hangs on the written part, with it named -/
section
variable {X : Cx}
theorem sl_listK (K : PySem.W.Frag) (h : X.K = K := by rfl) : SlR X (rSlL K) := h ▸ sl_list
theorem ix_listK (K : PySem.W.Frag) (h : X.K = K := by rfl) : IxR X (rIxL K) := h ▸ ix_list
theorem op_inK (K : PySem.W.Frag) (h : X.K = K := by rfl) : OpR X (compareOp .In) (rIn K false) := h ▸ op_in_seq
theorem call_lenK (K : PySem.W.Frag) (h : X.K = K := by rfl) : CallR X (.builtin "len") (rLenS K) := h ▸ call_lenQ
theorem cr_allK (K : PySem.W.Frag) (hc : X.calm = true) (h : X.K = K := by rfl) : CallR X (.builtin "all") (rAll K) := h ▸ cr_all hc
theorem call_isiK' (K : PySem.W.Frag) (h : X.K = K := by rfl) : CallR X (.builtin "isinstance") (rIsi K) := h ▸ call_isi
theorem op_eqVK (K : PySem.W.Frag) (hu : X.A.units + 64 < cLine) (h : X.K = K := by rfl) : OpR X (compareOp .Eq) (rEqV K) := h ▸ op_eqV hu
theorem pi_listK (K : PySem.W.Frag) {tg l : Expr} {tl' : TE} (hl : PE X l tl') (h : X.K = K := by rfl) : PI X tg l (iList K tl') := h ▸ pi_list hl
theorem pe_joinK (K : PySem.W.Frag) {o e : Expr} {to te : TE} {apos pos : Pos} (ho : PE X o to) (he : PE X e te) (h : X.K = K := by rfl) (hs : starEach [e] X.env = [(false, eval e X.env)] := by rfl) (hbase : attributeBase o "join" X.env (eval o X.env) = eval o X.env := by rfl) (hline : (apos.endLine == pos.line) = true := by rfl) :
    PE X (.Call (.Attribute o "join" apos) [e] [] pos) (tM1 (rJoinT K) to te) := h ▸ pe_joinT ho he hs hbase hline
end
/-! ## texts and their parts -/
theorem cuts_nil (c : Nat) : cuts c [] = [[]] := rfl
theorem spl_acc (c : Nat) : ∀ (l acc : Tx), spl [c] 0 acc l = match spl [c] 0 [] l with | [] => [] | p :: r => (acc ++ p) :: r
  | [], acc => by rw [spl_nil, spl_nil]; simp
  | d :: r, acc => by
    by_cases h : d = c
    · subst h
      have hp : pre [d] (d :: r) = true := by simp [pre]
      rw [spl_hit hp, spl_hit hp]
      simp
    · have hp : pre [c] (d :: r) = false := pre_of_head [] r h
      rw [spl_miss hp, spl_miss hp, spl_acc c r (acc ++ [d]), spl_acc c r ([] ++ [d])]
      cases spl [c] 0 [] r with
      | nil => rfl
      | cons p q => simp
theorem cuts_hit (c : Nat) (r : Tx) : cuts c (c :: r) = [] :: cuts c r := by
  have hp : pre [c] (c :: r) = true := by simp [pre]
  exact spl_hit hp
theorem cuts_miss {c d : Nat} (h : d ≠ c) (r : Tx) : cuts c (d :: r) = match cuts c r with | [] => [] | p :: q => (d :: p) :: q := by
  have hp : pre [c] (d :: r) = false := pre_of_head [] r h
  show spl [c] 0 [] (d :: r) = _
  rw [spl_miss hp, spl_acc]
  rfl
theorem cuts_ne (c : Nat) : ∀ l : Tx, cuts c l ≠ []
  | [] => by rw [cuts_nil]; simp
  | d :: r => by
    by_cases h : d = c
    · subst h
      rw [cuts_hit]
      simp
    · rw [cuts_miss h]
      have := cuts_ne c r
      cases e : cuts c r with
      | nil => exact absurd e this
      | cons p q => simp
theorem cuts_len (c : Nat) : ∀ l : Tx, (cuts c l).length ≤ l.length + 1
  | [] => by rw [cuts_nil]; simp
  | d :: r => by
    have ih := cuts_len c r
    by_cases h : d = c
    · subst h
      rw [cuts_hit]
      simp only [List.length_cons]
      omega
    · rw [cuts_miss h]
      cases e : cuts c r with
      | nil => simp
      | cons p q =>
        rw [e] at ih
        simp only [List.length_cons] at ih ⊢
        omega
theorem cuts_free (c : Nat) : ∀ (l : Tx), ∀ p ∈ cuts c l, c ∉ p
  | [], p, h => by
    rw [cuts_nil] at h
    rw [List.mem_singleton.mp h]
    simp
  | d :: r, p, h => by
    have ih := cuts_free c r
    by_cases e : d = c
    · subst e
      rw [cuts_hit] at h
      rcases List.mem_cons.mp h with z | z
      · rw [z]; simp
      · exact ih p z
    · rw [cuts_miss e] at h
      cases ec : cuts c r with
      | nil => exact absurd ec (cuts_ne c r)
      | cons q s =>
        rw [ec] at h ih
        rcases List.mem_cons.mp h with z | z
        · rw [z]
          intro m
          rcases List.mem_cons.mp m with y | y
          · exact e y.symm
          · exact ih q List.mem_cons_self y
        · exact ih p (List.mem_cons_of_mem _ z)
theorem sumLen_cons (p : Tx) (l : List Tx) : sumLen (p :: l) = p.length + sumLen l := by
  unfold sumLen
  rw [List.map_cons, List.sum_cons]
theorem sumLen_nil : sumLen [] = 0 := rfl
theorem sumLen_app (l m : List Tx) : sumLen (l ++ m) = sumLen l + sumLen m := by
  unfold sumLen
  rw [List.map_append, List.sum_append]
theorem cuts_sum (c : Nat) : ∀ l : Tx, sumLen (cuts c l) ≤ l.length
  | [] => by rw [cuts_nil]; decide
  | d :: r => by
    have ih := cuts_sum c r
    by_cases h : d = c
    · subst h
      rw [cuts_hit, sumLen_cons]
      simp only [List.length_cons, List.length_nil]
      omega
    · rw [cuts_miss h]
      cases e : cuts c r with
      | nil => simp [sumLen_nil]
      | cons p q =>
        rw [e, sumLen_cons] at ih
        show sumLen ((d :: p) :: q) ≤ _
        rw [sumLen_cons]
        simp only [List.length_cons]
        omega
theorem sumLen_mem : ∀ {l : List Tx} {k : Tx}, k ∈ l → k.length ≤ sumLen l
  | [], k, h => by cases h
  | p :: r, k, h => by
    rw [sumLen_cons]
    rcases List.mem_cons.mp h with e | e
    · subst e
      omega
    · have := sumLen_mem e
      omega
theorem cuts_mem (c : Nat) {l k : Tx} (h : k ∈ cuts c l) : k.length ≤ l.length := Nat.le_trans (sumLen_mem h) (cuts_sum c l)
theorem sumLen_take : ∀ (l : List Tx) (n : Nat), sumLen (l.take n) ≤ sumLen l
  | [], n => by simp
  | p :: r, 0 => by rw [List.take_zero, sumLen_nil]; omega
  | p :: r, n + 1 => by
    rw [List.take_succ_cons, sumLen_cons, sumLen_cons]
    have := sumLen_take r n
    omega
theorem sumLen_drop : ∀ (l : List Tx) (n : Nat), sumLen (l.drop n) ≤ sumLen l
  | [], n => by simp
  | p :: r, 0 => by rw [List.drop_zero]; omega
  | p :: r, n + 1 => by
    rw [List.drop_succ_cons, sumLen_cons]
    have := sumLen_drop r n
    omega
theorem cut_sum (l : List Tx) (a b : Option Int) : sumLen (cutG l a b) ≤ sumLen l := Nat.le_trans (sumLen_take _ _) (sumLen_drop _ _)
theorem cut_len {α : Type} (l : List α) (a b : Option Int) : (cutG l a b).length ≤ l.length := by
  unfold cutG
  rw [List.length_take, List.length_drop]
  omega
theorem joinL_len (s : Tx) : ∀ l : List Tx, (joinL s l).length ≤ sumLen l + l.length * s.length
  | [] => by simp [joinL]
  | [p] => by simp [joinL, sumLen]
  | p :: q :: r => by
    have ih := joinL_len s (q :: r)
    show (p ++ (s ++ joinL s (q :: r))).length ≤ _
    rw [sumLen_cons, List.length_append, List.length_append, List.length_cons, Nat.succ_mul]
    omega
theorem getD_le {l : List Tx} {n : Nat} (h : ∀ p ∈ l, p.length ≤ n) (i : Nat) : (l.getD i []).length ≤ n := by
  rw [List.getD_eq_getElem?_getD]
  cases e : l[i]? with
  | none => simp
  | some p => exact h p (List.mem_of_getElem? e)
end Vf

/-! Own layer, further: dicts with texts as keys, what is read while a thing is locked, own things that change. -/
namespace Vf
open PySem PySem.Spec PyProof.Rows L2 TL Evl

/-! ## the data of a dict -/
section
variable {α β : Type}
def ky (k : Tx) : Key := Sum.inr (mk k)
theorem ky_inj {a b : Tx} (h : ky a = ky b) : a = b := mk_inj (Sum.inr.inj h)
def kd (f : α → V) (l : List (Tx × α)) : List (Key × V) := l.map fun p => (ky p.1, f p.2)
def dget (l : List (Tx × α)) (k : Tx) : Option α := (l.find? fun p => decide (p.1 = k)).map (·.2)
def dput (l : List (Tx × α)) (k : Tx) (v : α) : List (Tx × α) := if (l.any fun p => decide (p.1 = k)) = true then l.map (fun p => if p.1 = k then (p.1, v) else p) else l ++ [(k, v)]
def ddel (l : List (Tx × α)) (k : Tx) : List (Tx × α) := l.filter fun p => decide (p.1 ≠ k)
def dkeys (l : List (Tx × α)) : List Tx := l.map (·.1)
theorem dec_ky (a b : Tx) : decide (ky a = ky b) = decide (a = b) := by
  by_cases h : a = b
  · subst h
    rw [decide_eq_true rfl, decide_eq_true rfl]
  · rw [decide_eq_false h, decide_eq_false (fun e => h (ky_inj e))]
theorem kd_len (f : α → V) (l : List (Tx × α)) : (kd f l).length = l.length := List.length_map _
theorem kd_get (f : α → V) (k : Tx) : ∀ l : List (Tx × α), valV (kd f l) (ky k) = (dget l k).map f
  | [] => rfl
  | p :: r => by
    have ih := kd_get f k r
    unfold valV dget kd at ih ⊢
    rw [List.map_cons, List.find?_cons, List.find?_cons]
    show (match decide (ky p.1 = ky k) with | true => some _ | false => _ : Option (Key × V)).map _ = _
    rw [dec_ky]
    cases decide (p.1 = k) with
    | true => rfl
    | false => exact ih
theorem kd_put (f : α → V) (l : List (Tx × α)) (k : Tx) (v : α) : putK (kd f l) (ky k) (f v) = kd f (dput l k v) := by
  have e : ((kd f l).any fun kv => decide (kv.1 = ky k)) = l.any fun p => decide (p.1 = k) := by
    unfold kd
    rw [List.any_map]
    congr 1
    funext p
    exact dec_ky p.1 k
  unfold putK dput
  rw [e]
  by_cases h : (l.any fun p => decide (p.1 = k)) = true
  · rw [if_pos h, if_pos h]
    unfold kd
    rw [List.map_map, List.map_map]
    apply List.map_congr_left
    intro p _
    show (if ky p.1 = ky k then (ky p.1, f v) else (ky p.1, f p.2)) = (ky (if p.1 = k then (p.1, v) else p).1, f (if p.1 = k then (p.1, v) else p).2)
    by_cases h2 : p.1 = k
    · rw [if_pos h2, if_pos (congrArg ky h2)]
    · rw [if_neg h2, if_neg (fun z => h2 (ky_inj z))]
  · rw [if_neg h, if_neg h]
    unfold kd
    rw [List.map_append]
    rfl
theorem kd_del (f : α → V) (l : List (Tx × α)) (k : Tx) : dropK (kd f l) (ky k) = kd f (ddel l k) := by
  unfold dropK ddel kd
  rw [List.filter_map]
  congr 1
  apply List.filter_congr
  intro p _
  show decide (ky p.1 ≠ ky k) = decide (p.1 ≠ k)
  by_cases h : p.1 = k
  · rw [decide_eq_false (fun z => z (congrArg ky h)), decide_eq_false (fun z => z h)]
  · exact (decide_eq_true (p := ky p.1 ≠ ky k) (fun z => h (ky_inj z))).trans (decide_eq_true (p := p.1 ≠ k) h).symm
theorem kd_keys (f : α → V) (l : List (Tx × α)) : ((kd f l).map fun kv => kV kv.1) = (dkeys l).map vs := by
  unfold kd dkeys
  rw [List.map_map, List.map_map]
  rfl
def dhas (l : List (Tx × α)) (k : Tx) : Bool := (dget l k).isSome
end

/-! ## what is read goes on to be read -/
def RX (H H2 : Hp) : Prop := ∀ a u, Rd H a u → Rd H2 a u
theorem RX.refl (H : Hp) : RX H H := fun _ _ h => h
theorem RX.trans {H H1 H2 : Hp} (a : RX H H1) (b : RX H1 H2) : RX H H2 := fun x u h => b x u (a x u h)
theorem rx_of {H H2 : Hp} (e : Ex H H2) : RX H H2 := fun _ _ h => ex_rd e h
theorem rx_l {K : PySem.W.Frag} {H H2 : Hp} {a : Addr} {xs : List V} (r : RX H H2) (h : SqL K H a xs) : SqL K H2 a xs := by
  rcases h with h | h
  · exact Or.inl (r a _ h)
  · exact Or.inr h
theorem rx_t {K : PySem.W.Frag} {H H2 : Hp} {a : Addr} {xs : List V} (r : RX H H2) (h : SqT K H a xs) : SqT K H2 a xs := by
  rcases h with h | h
  · exact Or.inl (r a _ h)
  · exact Or.inr h
/-- the locked things as they stood before -/
def unl (ls : List (Addr × HO)) (H : Hp) : Hp := ls.foldl (fun H p => upd H p.1 p.2) H
theorem ex_upd {H H2 : Hp} {a : Addr} {o : HO} (e : Ex H H2) : Ex (upd H a o) (upd H2 a o) := fun b u h => by
  by_cases hb : b = a
  · subst hb
    rw [upd_same] at h ⊢
    exact h
  · rw [upd_ne hb] at h ⊢
    exact e b u h
theorem unl_ex : ∀ {ls : List (Addr × HO)} {H H2 : Hp}, Ex H H2 → Ex (unl ls H) (unl ls H2)
  | [], _, _, e => e
  | p :: r, _, _, e => unl_ex (ls := r) (ex_upd e)
theorem unl_grow {ls : List (Addr × HO)} {H0 H H2 : Hp} (e : Ex H0 (unl ls H)) (e2 : Ex H H2) : Ex H0 (unl ls H2) := e.trans (unl_ex e2)
theorem upd_keep {H : Hp} {a b : Addr} {o u : HO} (hne : b ≠ a) (h : H b = some o) : upd H a u b = some o := by
  rw [upd_ne hne]
  exact h
theorem upd_self {H : Hp} {a : Addr} {o : HO} (h : H a = some o) : upd H a o = H := by
  funext b
  by_cases hb : b = a
  · subst hb
    rw [upd_same, h]
  · rw [upd_ne hb]
/-- an own thing at p has become X, behind whatever was made ahead of that -/
def Mu (H : Hp) (p : Addr) (X : HO) (H1 : Hp) : Prop := ∃ H2, Ex H H2 ∧ H1 = upd H2 p X
theorem Mu.at {H H1 : Hp} {p : Addr} {X : HO} (m : Mu H p X H1) : H1 p = some X := by
  obtain ⟨H2, _, rfl⟩ := m
  exact upd_same
theorem Mu.keep {H H1 : Hp} {p : Addr} {X : HO} (m : Mu H p X H1) {q : Addr} {o : HO} (hne : q ≠ p) (h : H q = some o) : H1 q = some o := by
  obtain ⟨H2, e, rfl⟩ := m
  exact upd_keep hne (e q o h)
theorem Mu.ex {H0 H H1 : Hp} {p : Addr} {X : HO} (m : Mu H p X H1) (e : Ex H0 H) (n : H0 p = none) : Ex H0 H1 := by
  obtain ⟨H2, e2, rfl⟩ := m
  exact Ex.mut (e.trans e2) n
theorem Mu.rx {H0 H H1 : Hp} {p : Addr} {X : HO} (m : Mu H p X H1) (r : RX H0 H) (n : H0 p = none) : RX H0 H1 := by
  obtain ⟨H2, e2, rfl⟩ := m
  intro a u h
  have ha : a ≠ p := fun z => by
    subst z
    rcases h with h | ⟨o, h⟩ <;> (rw [n] at h; cases h)
  rcases ex_rd e2 (r a u h) with h2 | ⟨o, h2⟩
  · exact Or.inl (upd_keep ha h2)
  · exact Or.inr ⟨o, upd_keep ha h2⟩
theorem ex_updn {H0 H : Hp} {p : Addr} {X : HO} (e : Ex H0 H) (n : H0 p = none) : Ex H0 (upd H p X) := Ex.mut e n
theorem unl_upd : ∀ {ls : List (Addr × HO)} {H0 H : Hp} {p : Addr} {X : HO}, H0 p = none → Ex H0 (unl ls H) → Ex H0 (unl ls (upd H p X))
  | [], _, _, _, _, n, e => Ex.mut e n
  | q :: r, H0, H, p, X, n, e => by
    show Ex H0 (unl r (upd (upd H p X) q.1 q.2))
    by_cases h : p = q.1
    · subst h
      rw [upd_upd]
      exact e
    · have e2 : upd (upd H p X) q.1 q.2 = upd (upd H q.1 q.2) p X := by
        funext b
        unfold upd
        by_cases h1 : b = q.1
        · subst h1
          rw [if_pos rfl, if_neg (fun z => h z.symm), if_pos rfl]
        · rw [if_neg h1]
          by_cases h2 : b = p
          · rw [if_pos h2, if_pos h2]
          · rw [if_neg h2, if_neg h2, if_neg h1]
      rw [e2]
      exact unl_upd n e
theorem Mu.unl {ls : List (Addr × HO)} {H0 H H1 : Hp} {p : Addr} {X : HO} (m : Mu H p X H1) (e : Ex H0 (unl ls H)) (n : H0 p = none) : Ex H0 (unl ls H1) := by
  obtain ⟨H2, e2, rfl⟩ := m
  exact unl_upd n (unl_grow e e2)
theorem rx_lock {H0 H : Hp} {d : Addr} {kvs : List (Key × V)} {o : Obj} (r : RX H0 H) (hd : H d = some (.dK kvs)) : RX H0 (upd H d (.frz o (.dK kvs))) := fun a u h => by
  have h2 := r a u h
  by_cases ha : a = d
  · subst ha
    have e : u = .dK kvs := by
      rcases h2 with z | ⟨_, z⟩
      · rw [hd] at z
        exact (Option.some.inj z).symm
      · rw [hd] at z
        cases z
    subst e
    exact Or.inr ⟨o, upd_same⟩
  · rcases h2 with z | ⟨q, z⟩
    · exact Or.inl (upd_keep ha z)
    · exact Or.inr ⟨q, upd_keep ha z⟩

section
variable {K : PySem.W.Frag} {σ : L2.St} {H H' : Hp} {ta tb te td : TE} {D : Ends} {tu tw tz : TS} {α S R : Type} {d : Addr} {k : Tx} {f : α → V} {l : List (Tx × α)}
/-! ## reading a dict -/
theorem dg_of (h : Rd H d (.dK (kd f l))) (k : Tx) : DGet H d (vs k) ((dget l k).map f) := Or.inl ⟨kd f l, ky k, h, rfl, (kd_get f k l).symm⟩
theorem e_inD (hk : Ev ta σ H (vs k)) (hd : Ev td σ H (.ref d)) (h : Rd H d (.dK (kd f l))) : Ev (tDIn ta td) σ H (.bl (dhas l k)) := fun H1 e Q q =>
  hk H1 e _ fun H2 e2 => hd H2 (e.trans e2) _ fun H3 e3 => ⟨d, _, rfl, dg_of (ex_rd ((e.trans e2).trans e3) h) k, by
    have : ((dget l k).map f).isSome = dhas l k := Option.isSome_map
    rw [this]
    exact q H3 (e2.trans e3)⟩
theorem e_niD (hk : Ev ta σ H (vs k)) (hd : Ev td σ H (.ref d)) (h : Rd H d (.dK (kd f l))) : Ev (tDNotIn ta td) σ H (.bl (!dhas l k)) := fun H1 e Q q =>
  hk H1 e _ fun H2 e2 => hd H2 (e.trans e2) _ fun H3 e3 => ⟨d, _, rfl, dg_of (ex_rd ((e.trans e2).trans e3) h) k, by
    have : ((dget l k).map f).isSome = dhas l k := Option.isSome_map
    rw [this]
    exact q H3 (e2.trans e3)⟩
theorem e_getD (dv : α) (hd : Ev td σ H (.ref d)) (hk : Ev ta σ H (vs k)) (h : Rd H d (.dK (kd f l))) (hh : dhas l k = true) : Ev (tDGet td ta) σ H (f ((dget l k).getD dv)) := fun H1 e Q q =>
  hd H1 e _ fun H2 e2 => hk H2 (e.trans e2) _ fun H3 e3 => ⟨d, _, rfl, by
    have g := dg_of (ex_rd ((e.trans e2).trans e3) h) k
    obtain ⟨v, hv⟩ := Option.isSome_iff_exists.mp (show (dget l k).isSome = true from hh)
    rw [hv] at g ⊢
    exact g, q H3 (e2.trans e3)⟩
/-- a text or nothing -/
def vo : Option Tx → V
  | none => .non
  | some t => vs t
theorem e_get1 {l : List (Tx × Tx)} (hd : Ev td σ H (.ref d)) (hk : Ev ta σ H (vs k)) (h : Rd H d (.dK (kd vs l))) : Ev (tDGet1 td ta) σ H (vo (dget l k)) := fun H1 e Q q =>
  hd H1 e _ fun H2 e2 => ⟨d, rfl, Or.inl ⟨_, ex_rd (e.trans e2) h⟩, hk H2 (e.trans e2) _ fun H3 e3 => ⟨_, dg_of (ex_rd ((e.trans e2).trans e3) h) k, by
    have : ((dget l k).map vs).getD .non = vo (dget l k) := by cases dget l k <;> rfl
    rw [this]
    exact q H3 (e2.trans e3)⟩⟩
def rLenD : List V → Hp → VK → Prop := fun xs H Q => ∃ a kvs, xs = [V.ref a] ∧ Rd H a (.dK kvs) ∧ Q (.int kvs.length) H
theorem e_lenD (hd : Ev td σ H (.ref d)) (h : H d = some (.dK (kd f l))) : Ev (tCB (fun xs H Q => ∃ a kvs, xs = [V.ref a] ∧ H a = some (.dK kvs) ∧ Q (.int kvs.length) H) (tCons td tNil)) σ H (.int (l.length : Int)) :=
  ev_cb (ea_cons hd ea_nil) fun H1 e Q q => ⟨d, _, rfl, e d _ h, by rw [kd_len]; exact q H1 (Ex.refl H1)⟩
theorem l_keysD (hd : Ev td σ H (.ref d)) (h : Rd H d (.dK (kd f l))) : EvL (tCB (fun xs H Q => ∃ (a : Addr) (kvs : List (Key × V)), xs = [.ref a] ∧ Rd H a (.dK kvs) ∧ ∀ p, H p = none → Q (.ref p) (upd H p (.lst (kvs.map fun kv => kV kv.1)))) (tCons td tNil)) σ H ((dkeys l).map vs) := fun H1 e Q q =>
  hd H1 e _ fun H2 e2 => ⟨d, _, rfl, ex_rd (e.trans e2) h, fun p np => q p _ (fresh_back e2 np) (e2.trans (Ex.new np)) (by rw [upd_same, kd_keys])⟩
/-- a new dict -/
def EvK (te : TE) (σ : L2.St) (H : Hp) (kvs : List (Key × V)) : Prop := ∀ H1, Ex H H1 → ∀ Q : VK, (∀ p H2, H1 p = none → Ex H1 H2 → H2 p = some (.dK kvs) → Q (.ref p) H2) → te σ H1 Q
theorem ek_is {a b : List (Key × V)} (h : EvK te σ H a) (e : a = b) : EvK te σ H b := e ▸ h
theorem k_new : EvK tDNewK σ H [] := fun H1 _ Q q p np => q p _ np (Ex.new np) upd_same
theorem k_copy (hd : Ev td σ H (.ref d)) (h : Rd H d (.dK (kd f l))) : EvK (tCB (fun xs H Q => ∃ (a : Addr) (kvs : List (Key × V)), xs = [.ref a] ∧ Rd H a (.dK kvs) ∧ ∀ p, H p = none → Q (.ref p) (upd H p (.dK kvs))) (tCons td tNil)) σ H (kd f l) := fun H1 e Q q =>
  hd H1 e _ fun H2 e2 => ⟨d, _, rfl, ex_rd (e.trans e2) h, fun p np => q p _ (fresh_back e2 np) (e2.trans (Ex.new np)) upd_same⟩
theorem s_asgK {i : Nat} {kvs : List (Key × V)} (h : EvK te σ H kvs) (k : ∀ p H1, H p = none → Ex H H1 → H1 p = some (.dK kvs) → D.nx (σ.set i (some (.ref p))) H1) : tAsg te (gName i) D σ H := h H (Ex.refl H) _ fun p H1 hp e h1 => k p H1 hp e h1
theorem q_asgK {i : Nat} {kvs : List (Key × V)} (h : EvK te σ H kvs) (k : ∀ p H1, H p = none → Ex H H1 → H1 p = some (.dK kvs) → tz D (σ.set i (some (.ref p))) H1) : tSeq (tAsg te (gName i)) tz D σ H := s_asgK (D := { D with nx := tz D }) h k
theorem s_retK {kvs : List (Key × V)} (h : EvK te σ H kvs) (k : ∀ p H1, H p = none → Ex H H1 → H1 p = some (.dK kvs) → D.rt (.ref p) H1) : tRet te D σ H := h H (Ex.refl H) _ k
/-! ## writing own things -/
theorem s_putD {v : α} (hv : Ev te σ H (f v)) (hd : Ev td σ H (.ref d)) (hk : Ev ta σ H (vs k)) (h : H d = some (.dK (kd f l))) (hz : l.length < 100000) (q : ∀ H1, Mu H d (.dK (kd f (dput l k v))) H1 → D.nx σ H1) : sDPut td ta te D σ H :=
  hv H (Ex.refl H) _ fun H1 e1 => hd H1 e1 _ fun H2 e2 => hk H2 (e1.trans e2) _ fun H3 e3 =>
    ⟨d, upd H3 d (.dK (kd f (dput l k v))), rfl, Or.inl ⟨kd f l, ky k, ((e1.trans e2).trans e3) d _ h, rfl, sz_lt (by rw [kd_len]; exact hz), by rw [kd_put]⟩, q _ ⟨H3, (e1.trans e2).trans e3, rfl⟩⟩
theorem q_putD {v : α} (hv : Ev te σ H (f v)) (hd : Ev td σ H (.ref d)) (hk : Ev ta σ H (vs k)) (h : H d = some (.dK (kd f l))) (hz : l.length < 100000) (q : ∀ H1, Mu H d (.dK (kd f (dput l k v))) H1 → tz D σ H1) : tSeq (sDPut td ta te) tz D σ H :=
  s_putD (D := { D with nx := tz D }) hv hd hk h hz q
theorem s_delD (hd : Ev td σ H (.ref d)) (hk : Ev ta σ H (vs k)) (h : H d = some (.dK (kd f l))) (hh : dhas l k = true) (q : ∀ H1, Mu H d (.dK (kd f (ddel l k))) H1 → D.nx σ H1) : sDDel td ta D σ H :=
  hd H (Ex.refl H) _ fun H1 e1 => hk H1 e1 _ fun H2 e2 => ⟨d, kd f l, ky k, rfl, (e1.trans e2) d _ h, rfl, by rw [kd_get, Option.isSome_map]; exact hh, q _ ⟨H2, e1.trans e2, by rw [kd_del]⟩⟩
theorem q_delD (hd : Ev td σ H (.ref d)) (hk : Ev ta σ H (vs k)) (h : H d = some (.dK (kd f l))) (hh : dhas l k = true) (q : ∀ H1, Mu H d (.dK (kd f (ddel l k))) H1 → tz D σ H1) : tSeq (sDDel td ta) tz D σ H :=
  s_delD (D := { D with nx := tz D }) hd hk h hh q
/-- d.pop(k) alone -/
theorem s_popD (dv : α) (hd : Ev td σ H (.ref d)) (hk : Ev ta σ H (vs k)) (h : H d = some (.dK (kd f l))) (hh : dhas l k = true) (q : ∀ H1, Mu H d (.dK (kd f (ddel l k))) H1 → D.nx σ H1) : tDrop (tDPop1 td ta) D σ H :=
  hd H (Ex.refl H) _ fun H1 e1 => ⟨d, rfl, Or.inl ⟨_, Or.inl (e1 d _ h)⟩, hk H1 e1 _ fun H2 e2 => ⟨kd f l, ky k, f ((dget l k).getD dv), (e1.trans e2) d _ h, rfl, by
    obtain ⟨v, hv⟩ := Option.isSome_iff_exists.mp (show (dget l k).isSome = true from hh)
    rw [kd_get, hv]
    rfl, q _ ⟨H2, e1.trans e2, by rw [kd_del]⟩⟩⟩
theorem q_popD (dv : α) (hd : Ev td σ H (.ref d)) (hk : Ev ta σ H (vs k)) (h : H d = some (.dK (kd f l))) (hh : dhas l k = true) (q : ∀ H1, Mu H d (.dK (kd f (ddel l k))) H1 → tz D σ H1) : tSeq (tDrop (tDPop1 td ta)) tz D σ H :=
  s_popD (D := { D with nx := tz D }) dv hd hk h hh q
/-- c[j] = d.pop(k), c another own dict -/
theorem s_putPop {tc tj : TE} {c : Addr} {j : Tx} {m : List (Tx × α)} (dv : α) (hd : Ev td σ H (.ref d)) (hk : Ev ta σ H (vs k)) (h : H d = some (.dK (kd f l))) (hh : dhas l k = true) (hc : ∀ H1, Ev tc σ H1 (.ref c)) (hj : ∀ H1, Ev tj σ H1 (vs j)) (h2 : H c = some (.dK (kd f m))) (hne : c ≠ d) (hz : m.length < 100000)
    (q : ∀ H1 H2, Mu H d (.dK (kd f (ddel l k))) H1 → Mu H1 c (.dK (kd f (dput m j ((dget l k).getD dv)))) H2 → D.nx σ H2) : sDPut tc tj (tDPop1 td ta) D σ H :=
  hd H (Ex.refl H) _ fun H1 e1 => ⟨d, rfl, Or.inl ⟨_, Or.inl (e1 d _ h)⟩, hk H1 e1 _ fun H2 e2 => ⟨kd f l, ky k, f ((dget l k).getD dv), (e1.trans e2) d _ h, rfl, by
    obtain ⟨v, hv⟩ := Option.isSome_iff_exists.mp (show (dget l k).isSome = true from hh)
    rw [kd_get, hv]
    rfl, by
    rw [kd_del]
    have hm : Mu H d (.dK (kd f (ddel l k))) (upd H2 d (.dK (kd f (ddel l k)))) := ⟨H2, e1.trans e2, rfl⟩
    exact hc _ _ (Ex.refl _) _ fun H3 e3 => hj H3 H3 (Ex.refl _) _ fun H4 e4 => ⟨c, upd H4 c (.dK (kd f (dput m j ((dget l k).getD dv)))), rfl, Or.inl ⟨kd f m, ky j, (e3.trans e4) c _ (hm.keep hne h2), rfl, sz_lt (by rw [kd_len]; exact hz), by rw [kd_put]⟩,
      q _ _ hm ⟨H4, e3.trans e4, rfl⟩⟩⟩⟩
theorem q_putPop {tc tj : TE} {c : Addr} {j : Tx} {m : List (Tx × α)} (dv : α) (hd : Ev td σ H (.ref d)) (hk : Ev ta σ H (vs k)) (h : H d = some (.dK (kd f l))) (hh : dhas l k = true) (hc : ∀ H1, Ev tc σ H1 (.ref c)) (hj : ∀ H1, Ev tj σ H1 (vs j)) (h2 : H c = some (.dK (kd f m))) (hne : c ≠ d) (hz : m.length < 100000)
    (q : ∀ H1 H2, Mu H d (.dK (kd f (ddel l k))) H1 → Mu H1 c (.dK (kd f (dput m j ((dget l k).getD dv)))) H2 → tz D σ H2) : tSeq (sDPut tc tj (tDPop1 td ta)) tz D σ H :=
  s_putPop (D := { D with nx := tz D }) dv hd hk h hh hc hj h2 hne hz q
/-- lists likewise -/
theorem s_appG {β : Type} {g : β → V} {pl : Addr} {m : List β} {v : β} (hl : H pl = some (.lst (m.map g))) (ha : Ev ta σ H (.ref pl)) (h : Ev te σ H (g v)) (hz : m.length < 100000)
    (q : ∀ H1, Mu H pl (.lst ((m ++ [v]).map g)) H1 → D.nx σ H1) : tDrop (tBM K "list" rAppend ta (tCons te tNil)) D σ H :=
  s_app hl ha h (by rw [List.length_map]; exact hz) fun H1 e1 => q _ ⟨H1, e1, by rw [List.map_append]; rfl⟩
theorem q_appG {β : Type} {g : β → V} {pl : Addr} {m : List β} {v : β} (hl : H pl = some (.lst (m.map g))) (ha : Ev ta σ H (.ref pl)) (h : Ev te σ H (g v)) (hz : m.length < 100000)
    (q : ∀ H1, Mu H pl (.lst ((m ++ [v]).map g)) H1 → tz D σ H1) : tSeq (tDrop (tBM K "list" rAppend ta (tCons te tNil))) tz D σ H := s_appG (D := { D with nx := tz D }) hl ha h hz q
theorem s_setG {β : Type} {g : β → V} {pl : Addr} {m : List β} {v : β} {i : Int} (j : Nat) {tb' : TE} (hl : H pl = some (.lst (m.map g))) (h : Ev te σ H (g v)) (ha : Ev ta σ H (.ref pl)) (hi : Ev tb' σ H (.int i)) (hj : (0 ≤ i ∧ i = j ∨ i < 0 ∧ i + m.length = j) ∧ j < m.length)
    (q : ∀ H1, Mu H pl (.lst ((m.set j v).map g)) H1 → D.nx σ H1) : tAsg te (gSub ta tb' rSetL) D σ H := h H (Ex.refl H) _ fun H1 e1 => ha H1 e1 _ fun H2 e2 => hi H2 (e1.trans e2) _ fun H3 e3 =>
  ⟨pl, m.map g, i, j, rfl, rfl, ((e1.trans e2).trans e3) pl _ hl, ixN_at (by rw [List.length_map]; exact hj), q _ ⟨H3, (e1.trans e2).trans e3, by rw [List.map_set]⟩⟩
theorem q_setG {β : Type} {g : β → V} {pl : Addr} {m : List β} {v : β} {i : Int} (j : Nat) {tb' : TE} (hl : H pl = some (.lst (m.map g))) (h : Ev te σ H (g v)) (ha : Ev ta σ H (.ref pl)) (hi : Ev tb' σ H (.int i)) (hj : (0 ≤ i ∧ i = j ∨ i < 0 ∧ i + m.length = j) ∧ j < m.length)
    (q : ∀ H1, Mu H pl (.lst ((m.set j v).map g)) H1 → tz D σ H1) : tSeq (tAsg te (gSub ta tb' rSetL)) tz D σ H := s_setG (D := { D with nx := tz D }) j hl h ha hi hj q

/-! ## a walk over a dict's keys -/
/-- the dict locked for the walk, or locked before -/
def tMay (t : TS) : TS := fun D σ H => t D σ H ∨ tLock t D σ H
theorem ps_may {X : Cx} {st : Stmt} {t : TS} (h : PS X st t) : PS X st (tMay t) := by
  refine ⟨fun pins s σ H D I hw => ?_⟩
  rcases hw with hw | hw
  · exact h.run pins s σ H D I hw
  · exact (ps_lock h).run pins s σ H D I hw
theorem keys_walk {t : TG} {step : S → Tx → Stp S R} {s0 : S} {Rep : S → L2.St → Hp → Prop} {i : Nat} {j : Nat} {o : Obj} {D' : Ends} (hσ : σ[i]? = some (some (.ref d))) (hd : H d = some (.frz o (.dK (kd f l)))) (h0 : Rep s0 σ H)
    (hk : ∀ s σ1 H1, Rep s σ1 H1 → H1 d = some (.frz o (.dK (kd f l)))) (hb : BodyOk tu D' j vs step (dkeys l) s0 Rep)
    (ho : ∀ s σ1 H1, (runL step (dkeys l) s0 = .go s ∨ runL step (dkeys l) s0 = .brk s) → Rep s σ1 H1 → D'.nx σ1 H1) : tFor (iKeys (tVar i)) (gName j) tu D' σ H := by
  have hbr : BodyOk tu D' j vs step (dkeys l) s0 Rep := hb
  refine ⟨.ref d, hσ, d, o, rfl, Or.inl ⟨kd f l, hd, ?_⟩⟩
  refine ⟨fun n m σ1 H2 => m = l.length - n ∧ n ≤ l.length ∧ ∃ s, runL step ((dkeys l).take n) s0 = .go s ∧ Rep s σ1 H2, ⟨l.length, by simp, Nat.zero_le _, s0, rfl, h0⟩, fun n m σ1 H2 hW => ?_⟩
  obtain ⟨rfl, hn, s, hr, hp⟩ := hW
  have hlen : (dkeys l).length = l.length := List.length_map _
  by_cases hlt : n < l.length
  · refine Or.inr ⟨⟨hk s σ1 H2 hp, by rw [kd_len]; exact hlt⟩, fun σ2 H3 => ∃ s, runL step ((dkeys l).take (n + 1)) s0 = .go s ∧ Rep s σ2 H3, fun σ2 H3 h3 => ⟨l.length - (n + 1), by omega, rfl, hlt, h3⟩, fun w H3 hy => ?_⟩
    obtain ⟨rfl, kk, vv, hkv, rfl⟩ := hy
    have hy2 : (dkeys l)[n]? = some (l[n]).1 := by
      unfold dkeys
      rw [List.getElem?_map, List.getElem?_eq_getElem hlt]
      rfl
    have ek : kV kk = vs (l[n]).1 := by
      unfold kd at hkv
      rw [List.getElem?_map, List.getElem?_eq_getElem hlt] at hkv
      have e : ky (l[n]).1 = kk := congrArg Prod.fst (Option.some.inj hkv)
      rw [← e]
      rfl
    rw [ek]
    have hnx := runL_next hr hy2
    exact hbr _ _ n s _ σ1 _ hy2 hr hp (fun s2 σ2 H2 e q => ⟨s2, hnx.trans e, q⟩) (fun s2 σ2 H2 e q => ho s2 σ2 H2 (Or.inr (runL_out (hnx.trans e) (fun _ z => by cases z))) q) (fun r e => runL_out (hnx.trans e) (fun _ z => by cases z))
  · have en : n = l.length := by omega
    subst en
    rw [← hlen, List.take_length] at hr
    exact Or.inl ⟨⟨hk s σ1 H2 hp, by rw [kd_len]; exact Nat.le_refl _⟩, ho s σ1 H2 (Or.inl hr) hp⟩
/-- for k in d -/
theorem q_loopK (step : S → Tx → Stp S R) (s0 : S) (Rep : HO → Obj → S → L2.St → Hp → Prop) {i j : Nat} (hσ : σ[i]? = some (some (.ref d))) (hd : Rd H d (.dK (kd f l)))
    (h0 : ∀ U o, H d = some U → (U = .dK (kd f l) ∨ U = .frz o (.dK (kd f l))) → Rep U o s0 σ (upd H d (.frz o (.dK (kd f l)))))
    (hk : ∀ U o s σ1 H1, Rep U o s σ1 H1 → H1 d = some (.frz o (.dK (kd f l))))
    (hb : ∀ U o (Rt : VK), H d = some U → (U = .dK (kd f l) ∨ U = .frz o (.dK (kd f l))) → (∀ v H1, H1 d = some (.frz o (.dK (kd f l))) → D.rt v (upd H1 d U) → Rt v H1) → BodyOk tu { D with rt := Rt } j vs step (dkeys l) s0 (Rep U o))
    (ho : ∀ U o s σ1 H1, H d = some U → (U = .dK (kd f l) ∨ U = .frz o (.dK (kd f l))) → (runL step (dkeys l) s0 = .go s ∨ runL step (dkeys l) s0 = .brk s) → Rep U o s σ1 H1 → tz D σ1 (upd H1 d U)) :
    tSeq (tMay (tFor (iKeys (tVar i)) (gName j) tu)) tz D σ H := by
  rcases hd with h | ⟨o, h⟩
  · refine Or.inr ⟨d, .dK (kd f l), h, trivial, fun od => ?_⟩
    have hb2 := hb (.dK (kd f l)) od (fun v H1 => H1 d = some (.frz od (.dK (kd f l))) ∧ D.rt v (upd H1 d (.dK (kd f l)))) h (Or.inl rfl) (fun v H1 a b => ⟨a, b⟩)
    exact keys_walk (t := gName j) (Rep := Rep (.dK (kd f l)) od) hσ upd_same (h0 _ od h (Or.inl rfl)) (hk _ od) hb2 (fun s σ1 H1 hr hp => ⟨hk _ od s σ1 H1 hp, ho _ od s σ1 H1 h (Or.inl rfl) hr hp⟩)
  · have hb2 := hb (.frz o (.dK (kd f l))) o D.rt h (Or.inr rfl) (fun v H1 a b => by rw [upd_self a] at b; exact b)
    have h02 := h0 _ o h (Or.inr rfl)
    rw [upd_self h] at h02
    exact Or.inl (keys_walk (t := gName j) (Rep := Rep (.frz o (.dK (kd f l))) o) hσ h h02 (hk _ o) hb2 (fun s σ1 H1 hr hp => by
      have q := ho _ o s σ1 H1 h (Or.inr rfl) hr hp
      rw [upd_self (hk _ o s σ1 H1 hp)] at q
      exact q))
theorem rx_may {H0 : Hp} {U : HO} {o : Obj} {kvs : List (Key × V)} (r : RX H0 H) (hd : H d = some U) (hU : U = .dK kvs ∨ U = .frz o (.dK kvs)) : RX H0 (upd H d (.frz o (.dK kvs))) := by
  rcases hU with rfl | rfl
  · exact rx_lock r hd
  · rw [upd_self hd]
    exact r
theorem unl_lock {ls : List (Addr × HO)} {H0 : Hp} {U W : HO} (e : Ex H0 (unl ls H)) (hd : H d = some U) : Ex H0 (unl ((d, U) :: ls) (upd H d W)) := by
  show Ex H0 (unl ls (upd (upd H d W) d U))
  rw [upd_upd, upd_self hd]
  exact e
theorem unl_open {ls : List (Addr × HO)} {H0 : Hp} {U : HO} (e : Ex H0 (unl ((d, U) :: ls) H)) : Ex H0 (unl ls (upd H d U)) := e
/-! ## small builtins -/
theorem e_intB {b : Bool} (h : Ev ta σ H (.bl b)) : Ev (tCB (fun xs H Q => (∃ i, xs = [.int i] ∧ Q (.int i) H) ∨ ∃ k, xs = [.bl k] ∧ Q (.int (if k then 1 else 0)) H) (tCons ta tNil)) σ H (.int (if b = true then 1 else 0)) :=
  ev_cb (ea_cons h ea_nil) fun H1 e Q q => Or.inr ⟨b, rfl, q H1 (Ex.refl H1)⟩
/-- str(n) -/
def dec (n : Int) : Tx := tl (toString n : String)
theorem e_strI {n : Int} (h : Ev ta σ H (.int n)) (hz : n.natAbs.log2 < 1920) : Ev (tCB (fun xs H Q => ∃ i, xs = [.int i] ∧ i.natAbs.log2 < 1920 ∧ Q (.str (toString i)) H) (tCons ta tNil)) σ H (vs (dec n)) :=
  ev_cb (ea_cons h ea_nil) fun H1 e Q q => ⟨n, rfl, hz, by
    have : V.str (toString n : String) = vs (dec n) := congrArg V.str (mk_of _).symm
    rw [this]
    exact q H1 (Ex.refl H1)⟩
end
end Vf
namespace Vf
open PySem PySem.Spec PyProof.Rows L2 TL Evl
section
variable {X : Cx}
theorem call_lenRd : CallR X (.builtin "len") rLenD := by
  intro pins s σ H xs us Q I r h
  obtain ⟨a, kvs, rfl, ha, q⟩ := h
  obtain ⟨u, rfl, ru⟩ := vals1 r
  cases ru
  exact d_len I ha fun t s' I' => ⟨.int kvs.length, H, I', ⟨t, rfl⟩, q⟩
theorem call_listDK (hc : X.calm = true) : CallR X (.type "list") (fun xs H Q => ∃ (a : Addr) (kvs : List (Key × V)), xs = [.ref a] ∧ Rd H a (.dK kvs) ∧ ∀ p, H p = none → Q (.ref p) (upd H p (.lst (kvs.map fun kv => kV kv.1)))) := call_listD hc
end
section
variable {σ : L2.St} {H : Hp} {td ta : TE} {α : Type} {f : α → V} {l : List (Tx × α)} {d : Addr} {x y : V}
theorem e_lenRd (hd : Ev td σ H (.ref d)) (h : Rd H d (.dK (kd f l))) : Ev (tCB rLenD (tCons td tNil)) σ H (.int (l.length : Int)) :=
  ev_cb (ea_cons hd ea_nil) fun H1 e Q q => ⟨d, _, rfl, ex_rd e h, by rw [kd_len]; exact q H1 (Ex.refl H1)⟩
theorem rx_updn {H0 : Hp} {p : Addr} {Y : HO} (r : RX H0 H) (n : H0 p = none) : RX H0 (upd H p Y) := fun a u h => by
  have ha : a ≠ p := fun z => by
    subst z
    rcases h with h | ⟨o, h⟩ <;> (rw [n] at h; cases h)
  rcases r a u h with h2 | ⟨o, h2⟩
  · exact Or.inl (upd_keep ha h2)
  · exact Or.inr ⟨o, upd_keep ha h2⟩
/-- what is read stands elsewhere than what is new -/
theorem ne_rdn {H0 : Hp} {a p : Addr} {u : HO} (h : Rd H0 a u) (n : H0 p = none) : a ≠ p := fun z => by
  subst z
  rcases h with h | ⟨o, h⟩ <;> (rw [n] at h; cases h)
theorem tyx_dct {K : PySem.W.Frag} {kvs : List (Key × V)} (h : Rd H d (.dK kvs)) : TyX K H (.ref d) (.type "dict") := by
  rcases h with h | ⟨o, h⟩
  · exact .base (.dK h)
  · exact .fDict h
theorem rx_free {H0 : Hp} {p : Addr} (r : RX H0 H) (n : H p = none) : H0 p = none := by
  cases h : H0 p with
  | none => rfl
  | some o =>
    rcases r p o (Or.inl h) with h2 | ⟨_, h2⟩ <;> (rw [n] at h2; cases h2)
/-! ## lists laid together -/
theorem l_catNR {β : Type} {g : β → V} {m1 m2 : List β} {pl : Addr} {tb : TE} (ha : EvL ta σ H (m1.map g)) (hb : Ev tb σ H (.ref pl)) (h : H pl = some (.lst (m2.map g))) (hz : m1.length + m2.length ≤ 100000) : EvL (tOp rCat ta tb) σ H ((m1 ++ m2).map g) := fun H1 e Q q =>
  ha H1 e _ fun p H2 np e2 hp => hb H2 (e.trans e2) _ fun H3 e3 => ⟨p, pl, m1.map g, m2.map g, rfl, rfl, e3 p _ hp, ((e.trans e2).trans e3) pl _ h, by rw [List.length_map, List.length_map]; exact sz_of hz, fun r nr =>
    q r _ (fresh_back (e2.trans e3) nr) ((e2.trans e3).trans (Ex.new nr)) (by rw [upd_same, List.map_append])⟩
theorem l_catNN {β : Type} {g : β → V} {m1 m2 : List β} {tb : TE} (ha : EvL ta σ H (m1.map g)) (hb : EvL tb σ H (m2.map g)) (hz : m1.length + m2.length ≤ 100000) : EvL (tOp rCat ta tb) σ H ((m1 ++ m2).map g) := fun H1 e Q q =>
  ha H1 e _ fun p H2 np e2 hp => hb H2 (e.trans e2) _ fun p2 H3 np2 e3 hp2 => ⟨p, p2, m1.map g, m2.map g, rfl, rfl, e3 p _ hp, hp2, by rw [List.length_map, List.length_map]; exact sz_of hz, fun r nr =>
    q r _ (fresh_back (e2.trans e3) nr) ((e2.trans e3).trans (Ex.new nr)) (by rw [upd_same, List.map_append])⟩
theorem l_catRN {β : Type} {g : β → V} {m1 m2 : List β} {pl : Addr} {tb : TE} (ha : Ev ta σ H (.ref pl)) (h : H pl = some (.lst (m1.map g))) (hb : EvL tb σ H (m2.map g)) (hz : m1.length + m2.length ≤ 100000) : EvL (tOp rCat ta tb) σ H ((m1 ++ m2).map g) := fun H1 e Q q =>
  ha H1 e _ fun H2 e2 => hb H2 (e.trans e2) _ fun p2 H3 np2 e3 hp2 => ⟨pl, p2, m1.map g, m2.map g, rfl, rfl, ((e.trans e2).trans e3) pl _ h, hp2, by rw [List.length_map, List.length_map]; exact sz_of hz, fun r nr =>
    q r _ (fresh_back (e2.trans e3) nr) ((e2.trans e3).trans (Ex.new nr)) (by rw [upd_same, List.map_append])⟩
/-- a slice of a new list -/
theorem l_slN {K : PySem.W.Frag} {β : Type} {g : β → V} {m : List β} {te : TE} {tl' th : TO} {lo hi : Option Int} (h : EvL te σ H (m.map g)) (h1 : EvO tl' σ H lo) (h2 : EvO th σ H hi) : EvL (tSl (rSlL K) te tl' th) σ H ((cutG m lo hi).map g) := fun H1 e Q q =>
  h H1 e _ fun p H2 np e2 hp => h1 H2 (e.trans e2) _ fun H3 e3 => h2 H3 ((e.trans e2).trans e3) _ fun H4 e4 => ⟨p, m.map g, rfl, sq_of (e4 p _ (e3 p _ hp)), fun r nr =>
    q r _ (fresh_back ((e2.trans e3).trans e4) nr) (((e2.trans e3).trans e4).trans (Ex.new nr)) (by rw [upd_same, cutV_map])⟩
/-! ## promises that give a new dict -/
def RetK (kvs : List (Key × V)) (H : Hp) (Q : VK) : Prop := ∀ p H2, H p = none → Ex H H2 → H2 p = some (.dK kvs) → Q (.ref p) H2
def spK (R : List V → Hp → List (Key × V) → Prop) : Sp := fun vs' H Q _ => ∃ xs, R vs' H xs ∧ RetK xs H Q
def SpK (sp : Sp) (ws : List V) (H : Hp) (xs : List (Key × V)) : Prop := ∀ H1, Ex H H1 → ∀ Q : VK, (∀ p H2, H1 p = none → Ex H1 H2 → H2 p = some (.dK xs) → Q (.ref p) H2) → ∀ E : XK, sp ws H1 Q E
theorem sk_of {R : List V → Hp → List (Key × V) → Prop} {ws : List V} {xs : List (Key × V)} (h : ∀ H1, Ex H H1 → R ws H1 xs) : SpK (spK R) ws H xs := fun H1 e Q q _ => ⟨xs, h H1 e, q⟩
theorem ek_call {sp : Sp} {dvs ws : List V} {xs : List (Key × V)} {E : XK} {ta : TA} (h : EvA ta σ H ws) (hs : SpK sp (ws ++ dvs) H xs) : EvK (tCall sp dvs E ta) σ H xs := fun H1 e Q q =>
  h H1 e _ fun H2 e2 => hs H2 (e.trans e2) Q (fun p H3 hp e3 h3 => q p H3 (fresh_back e2 hp) (e2.trans e3) h3) E
theorem RetK.go {xs : List (Key × V)} {Q : VK} {H' : Hp} (k : RetK xs H Q) (e : Ex H H') {p : Addr} {H2 : Hp} (hp : H' p = none) (e2 : Ex H' H2) (h : H2 p = some (.dK xs)) : Q (.ref p) H2 := k p H2 (fresh_back e hp) (e.trans e2) h
theorem retK_T {b : Bool} {x y : List (Tx × α)} {Q : VK} (k : RetK (kd f (if b = true then x else y)) H Q) (hb : b = true) : RetK (kd f x) H Q := by
  rw [if_pos hb] at k
  exact k
theorem retK_F {b : Bool} {x y : List (Tx × α)} {Q : VK} (k : RetK (kd f (if b = true then x else y)) H Q) (hb : b = false) : RetK (kd f y) H Q := by
  rw [hb, if_neg Bool.false_ne_true] at k
  exact k
theorem retK_run {S : Type} {o : Stp S (List (Tx × α))} {g : S → List (Tx × α)} {r : List (Tx × α)} {Q : VK} (k : RetK (kd f (aftL o g)) H Q) (h : o = .ret r) : RetK (kd f r) H Q := by
  rw [h] at k
  exact k
theorem retK_go {S : Type} {o : Stp S (List (Tx × α))} {g : S → List (Tx × α)} {s : S} {Q : VK} (k : RetK (kd f (aftL o g)) H Q) (h : o = .go s ∨ o = .brk s) : RetK (kd f (g s)) H Q := by
  rcases h with h | h
  · rw [h] at k
    exact k
  · rw [h] at k
    exact k
end
end Vf

/-! Own layer, further: lists of tuples of texts. -/
namespace Vf
open PySem PySem.Spec PyProof.Rows L2 TL Evl LiI
/-- no tuple stands there -/
def NT : HO → Prop
  | .lst _ => True
  | .dK _ => True
  | .frz _ (.dK _) => True
  | .frz _ (.lst _) => True
  | .ins _ _ _ => True
  | _ => False
section
variable {K : PySem.W.Frag} {H H1 H2 : Hp} {p t : Addr} {q : List V} {o X : HO}
theorem sqt_upd (hp : H p = some o) (nt : NT o) (h : SqT K H t q) : SqT K (upd H p X) t q := by
  rcases h with h | h
  · have ne : t ≠ p := fun z => by
      subst z
      rcases h with h | ⟨w, h⟩
      · rw [hp] at h
        cases h
        exact nt
      · rw [hp] at h
        cases h
        exact nt
    rcases h with h | ⟨w, h⟩
    · exact Or.inl (Or.inl (upd_keep ne h))
    · exact Or.inl (Or.inr ⟨w, upd_keep ne h⟩)
  · exact Or.inr h
theorem Mu.tup (m : Mu H p X H1) (hp : H p = some o) (nt : NT o) (h : SqT K H t q) : SqT K H1 t q := by
  obtain ⟨H2, e, rfl⟩ := m
  exact sqt_upd (e p _ hp) nt (ex_t e h)
abbrev TupsAt (K : PySem.W.Frag) (H : Hp) : List Addr → List (List V) → Prop := Paired fun t q => SqT K H t q
theorem tups_mono {ts : List Addr} {l : List (List V)} (f : ∀ t q, SqT K H t q → SqT K H2 t q) (h : TupsAt K H ts l) : TupsAt K H2 ts l := Paired.mapP h f
/-- a list of tuples at p -/
def IsLU (K : PySem.W.Frag) (H : Hp) (p : Addr) (l : List (List V)) : Prop := ∃ ts, H p = some (.lst (ts.map V.ref)) ∧ TupsAt K H ts l
theorem IsLU.ex {l : List (List V)} (h : IsLU K H p l) (e : Ex H H2) : IsLU K H2 p l := by
  obtain ⟨ts, a, b⟩ := h
  exact ⟨ts, e p _ a, tups_mono (fun _ _ => ex_t e) b⟩
theorem IsLU.mu {l : List (List V)} {r : Addr} (h : IsLU K H p l) (m : Mu H r X H1) (hne : p ≠ r) (hr : H r = some o) (nt : NT o) : IsLU K H1 p l := by
  obtain ⟨ts, a, b⟩ := h
  exact ⟨ts, m.keep hne a, tups_mono (fun _ _ => m.tup hr nt) b⟩
theorem IsLU.upd {l : List (List V)} {r : Addr} (h : IsLU K H p l) (hne : p ≠ r) (hr : H r = some o) (nt : NT o) : IsLU K (upd H r X) p l := by
  obtain ⟨ts, a, b⟩ := h
  exact ⟨ts, upd_keep hne a, tups_mono (fun _ _ => sqt_upd hr nt) b⟩
theorem IsLU.ne {l : List (List V)} {r : Addr} (h : IsLU K H p l) (n : H r = none) : p ≠ r := by
  obtain ⟨ts, a, _⟩ := h
  exact ne_of_none a n
theorem IsLU.sq {l : List (List V)} (h : IsLU K H p l) : ∃ ts, SqL K H p (ts.map V.ref) ∧ TupsAt K H ts l := by
  obtain ⟨ts, a, b⟩ := h
  exact ⟨ts, sq_of a, b⟩
end
section
variable {K : PySem.W.Frag} {σ : L2.St} {H H' : Hp} {ta tb te td : TE} {D : Ends} {tz : TS} {l l2 : List (List V)} {d p : Addr} {α : Type} {f : α → V} {m : List (Tx × α)}
/-- a new list of tuples -/
def EvU2 (K : PySem.W.Frag) (te : TE) (σ : L2.St) (H : Hp) (l : List (List V)) : Prop := ∀ H1, Ex H H1 → ∀ Q : VK, (∀ p H2, H1 p = none → Ex H1 H2 → IsLU K H2 p l → Q (.ref p) H2) → te σ H1 Q
theorem eu2_is (h : EvU2 K te σ H l) (e : l = l2) : EvU2 K te σ H l2 := e ▸ h
theorem s_asgU2 {i : Nat} (h : EvU2 K te σ H l) (k : ∀ p H1, H p = none → Ex H H1 → IsLU K H1 p l → D.nx (σ.set i (some (.ref p))) H1) : tAsg te (gName i) D σ H := h H (Ex.refl H) _ fun p H1 hp e h1 => k p H1 hp e h1
theorem q_asgU2 {i : Nat} (h : EvU2 K te σ H l) (k : ∀ p H1, H p = none → Ex H H1 → IsLU K H1 p l → tz D (σ.set i (some (.ref p))) H1) : tSeq (tAsg te (gName i)) tz D σ H := s_asgU2 (D := { D with nx := tz D }) h k
/-- list(d.items()), texts to texts -/
def ditems (m : List (Tx × Tx)) : List (List Tx) := m.map fun q => [q.1, q.2]
theorem u_items {m : List (Tx × Tx)} (hd : Ev td σ H (.ref d)) (h : H d = some (.dK (kd vs m))) : EvU2 K (tListItems td) σ H ((ditems m).map (List.map vs)) := fun H1 e Q q =>
  hd H1 e _ fun H2 e2 => ⟨d, kd vs m, rfl, (e.trans e2) d _ h, fun H3 p ts e3 np nts hp hl hpr => q p H3 (fresh_back e2 np) (e2.trans e3) ⟨ts, hl, by
    have e4 : (ditems m).map (List.map vs) = (kd vs m).map fun q => [kV q.1, q.2] := by
      unfold ditems kd
      rw [List.map_map, List.map_map]
      rfl
    rw [e4]
    clear hl nts hp
    revert hpr
    generalize kd vs m = kvs
    intro hpr
    induction hpr with
    | nil => exact .nil
    | cons a _ ih => exact .cons (st_of a) ih⟩⟩
/-- two lists of tuples of texts that are equal -/
def okT (p : Tx) : Prop := ∀ c ∈ p, c < 1114112
def duD (l : List (List Tx)) : PyData := .list (l.map fun q => .tuple (q.map fun p => .str (mk p)))
theorem dp_strs : ∀ q : List Tx, DpAll K H (q.map vs) (q.map fun p => PyData.str (mk p))
  | [] => .nil
  | p :: r => .cons (.str _) (dp_strs r)
theorem dp_tups {ts : List Addr} {l : List (List Tx)} (h : TupsAt K H ts (l.map (List.map vs))) : DpAll K H (ts.map V.ref) (l.map fun q => PyData.tuple (q.map fun p => .str (mk p))) := by
  induction l generalizing ts with
  | nil =>
    cases h
    exact .nil
  | cons q r ih =>
    cases h with
    | cons a b => exact .cons (.tup a (dp_strs q)) (ih b)
theorem dp_LU {l : List (List Tx)} (h : IsLU K H p (l.map (List.map vs))) : Dp K H (.ref p) (duD l) := by
  obtain ⟨ts, a, b⟩ := h
  exact .lst (sq_of a) (dp_tups b)
theorem lay_strs : ∀ {q : List Tx}, (∀ p ∈ q, okT p) → PyData.canLayAll0 (q.map fun p => PyData.str (mk p)) = true ∧ PyData.depthAll (q.map fun p => PyData.str (mk p)) = 0
  | [], _ => ⟨rfl, rfl⟩
  | p :: r, h => by
    obtain ⟨a, b⟩ := lay_strs (q := r) fun x hx => h x (List.mem_cons_of_mem _ hx)
    have hp := h p List.mem_cons_self
    refine ⟨?_, ?_⟩
    · show (PyData.canLay0 (.str (mk p)) && PyData.canLayAll0 _) = true
      rw [a, Bool.and_true]
      show (p.toArray.all (· < 0x110000)) = true
      rw [List.all_toArray]
      exact List.all_eq_true.mpr fun c hc => decide_eq_true (hp c hc)
    · show max 0 (PyData.depthAll _) = 0
      rw [b]
      rfl
theorem lay_tups : ∀ {l : List (List Tx)}, (∀ q ∈ l, ∀ p ∈ q, okT p) → PyData.canLayAll0 (l.map fun q => PyData.tuple (q.map fun p => .str (mk p))) = true ∧ PyData.depthAll (l.map fun q => PyData.tuple (q.map fun p => .str (mk p))) ≤ 1
  | [], _ => ⟨rfl, by decide⟩
  | q :: r, h => by
    obtain ⟨a, b⟩ := lay_tups (l := r) fun x hx => h x (List.mem_cons_of_mem _ hx)
    obtain ⟨a2, b2⟩ := lay_strs (h q List.mem_cons_self)
    refine ⟨?_, ?_⟩
    · show (PyData.canLayAll0 _ && PyData.canLayAll0 _) = true
      rw [a, Bool.and_true]
      exact a2
    · show max (PyData.depthAll _ + 1) (PyData.depthAll _) ≤ 1
      rw [b2]
      omega
theorem shaped_LU {l : List (List Tx)} (h : ∀ q ∈ l, ∀ p ∈ q, okT p) : SeqAt.shaped (duD l) = true := by
  obtain ⟨a, b⟩ := lay_tups h
  show ((PyData.canLayAll0 _) && decide (PyData.depthAll _ + 1 ≤ 64)) = true
  rw [a, Bool.true_and]
  exact decide_eq_true (by omega)
theorem e_eqLU {l l2 : List (List Tx)} (ha : EvU2 K ta σ H (l.map (List.map vs))) (hb : Ev tb σ H (.ref p)) (h : IsLU K H p (l2.map (List.map vs))) (e : l = l2) (ok : ∀ q ∈ l, ∀ p ∈ q, okT p) : Ev (tOp (rEqD K) ta tb) σ H (.bl true) := fun H1 e1 Q q =>
  ha H1 e1 _ fun r H2 _ e2 hr => hb H2 (e1.trans e2) _ fun H3 e3 => ⟨duD l, duD l, dp_LU (hr.ex e3), by
    rw [e]
    exact dp_LU (h.ex ((e1.trans e2).trans e3)), shaped_LU ok, shaped_LU ok, by
    rw [SeqAt.eqv_refl (duD l) (SeqAt.canLay_of_shaped (shaped_LU ok))]
    exact q H3 (e2.trans e3)⟩
theorem op_eqDK {X : Cx} (K : PySem.W.Frag) (hu : X.A.units + 64 < cLine) (h : X.K = K := by rfl) : OpR X (compareOp .Eq) (rEqD K) := h ▸ op_eqD hu
end
end Vf

/-! Own layer, the plain mathematics: dicts as rows of pairs, walks that hold a thing. -/
namespace Vf
section
variable {α β S R : Type}
theorem dkeys_len (l : List (Tx × α)) : (dkeys l).length = l.length := List.length_map _
theorem dkeys_app (l m : List (Tx × α)) : dkeys (l ++ m) = dkeys l ++ dkeys m := List.map_append
theorem mem_keys {l : List (Tx × α)} {q : Tx × α} (h : q ∈ l) : q.1 ∈ dkeys l := List.mem_map_of_mem h
theorem any_iff (l : List (Tx × α)) (k : Tx) : (l.any fun p => decide (p.1 = k)) = true ↔ k ∈ dkeys l := by
  rw [List.any_eq_true]
  constructor
  · rintro ⟨p, hp, e⟩
    rw [← of_decide_eq_true e]
    exact mem_keys hp
  · intro h
    obtain ⟨p, hp, e⟩ := List.mem_map.mp h
    exact ⟨p, hp, decide_eq_true e⟩
theorem get_cons (p : Tx × α) (r : List (Tx × α)) (k : Tx) : dget (p :: r) k = if p.1 = k then some p.2 else dget r k := by
  unfold dget
  rw [List.find?_cons]
  by_cases h : p.1 = k
  · rw [if_pos h, decide_eq_true h]
    rfl
  · rw [if_neg h, decide_eq_false h]
theorem has_iff (l : List (Tx × α)) (k : Tx) : dhas l k = true ↔ k ∈ dkeys l := by
  unfold dhas
  induction l with
  | nil => exact ⟨fun h => (by cases h), fun h => (by cases h)⟩
  | cons p r ih =>
    rw [get_cons]
    show _ ↔ k ∈ p.1 :: dkeys r
    by_cases h : p.1 = k
    · rw [if_pos h]
      exact ⟨fun _ => by rw [h]; exact List.mem_cons_self, fun _ => rfl⟩
    · rw [if_neg h, ih, List.mem_cons]
      exact ⟨Or.inr, fun z => z.resolve_left fun e => h e.symm⟩
theorem has_dec (l : List (Tx × α)) (k : Tx) : dhas l k = decide (k ∈ dkeys l) := by
  by_cases h : k ∈ dkeys l
  · rw [decide_eq_true h, (has_iff l k).mpr h]
  · rw [decide_eq_false h]
    cases e : dhas l k with
    | false => rfl
    | true => exact absurd ((has_iff l k).mp e) h
theorem get_none {l : List (Tx × α)} {k : Tx} (h : k ∉ dkeys l) : dget l k = none := by
  have := has_dec l k
  rw [decide_eq_false h] at this
  unfold dhas at this
  exact Option.isNone_iff_eq_none.mp (by rw [← Option.not_isSome, this]; rfl)
theorem get_mem {l : List (Tx × α)} {k : Tx} {v : α} (h : dget l k = some v) : (k, v) ∈ l := by
  induction l with
  | nil => cases h
  | cons p r ih =>
    rw [get_cons] at h
    by_cases e : p.1 = k
    · rw [if_pos e] at h
      cases h
      rw [← e]
      exact List.mem_cons_self
    · rw [if_neg e] at h
      exact List.mem_cons_of_mem _ (ih h)
theorem get_of {l : List (Tx × α)} (hn : (dkeys l).Nodup) {q : Tx × α} (h : q ∈ l) : dget l q.1 = some q.2 := by
  induction l with
  | nil => cases h
  | cons p r ih =>
    rw [get_cons]
    have hn2 : (p.1 :: dkeys r).Nodup := hn
    rw [List.nodup_cons] at hn2
    rcases List.mem_cons.mp h with e | e
    · rw [e, if_pos rfl]
    · rw [if_neg (fun z => hn2.1 (by rw [z]; exact mem_keys e))]
      exact ih hn2.2 e
theorem put_new {l : List (Tx × α)} {k : Tx} {v : α} (h : k ∉ dkeys l) : dput l k v = l ++ [(k, v)] := by
  unfold dput
  rw [if_neg fun z => h ((any_iff l k).mp z)]
theorem put_old {l : List (Tx × α)} {k : Tx} {v : α} (h : k ∈ dkeys l) : dput l k v = l.map (fun p => if p.1 = k then (p.1, v) else p) := by
  unfold dput
  rw [if_pos ((any_iff l k).mpr h)]
theorem keys_put (l : List (Tx × α)) (k : Tx) (v : α) : dkeys (dput l k v) = if k ∈ dkeys l then dkeys l else dkeys l ++ [k] := by
  by_cases h : k ∈ dkeys l
  · rw [if_pos h, put_old h]
    unfold dkeys
    rw [List.map_map]
    apply List.map_congr_left
    intro p _
    show (if p.1 = k then (p.1, v) else p).1 = p.1
    split <;> rfl
  · rw [if_neg h, put_new h, dkeys_app]
    rfl
theorem mem_keys_put {l : List (Tx × α)} {k j : Tx} {v : α} : j ∈ dkeys (dput l k v) ↔ j = k ∨ j ∈ dkeys l := by
  rw [keys_put]
  by_cases h : k ∈ dkeys l
  · rw [if_pos h]
    exact ⟨Or.inr, fun z => z.elim (fun e => by rw [e]; exact h) id⟩
  · rw [if_neg h, List.mem_append, List.mem_singleton, or_comm]
theorem nodup_put {l : List (Tx × α)} {k : Tx} {v : α} (h : (dkeys l).Nodup) : (dkeys (dput l k v)).Nodup := by
  rw [keys_put]
  by_cases hk : k ∈ dkeys l
  · rw [if_pos hk]
    exact h
  · rw [if_neg hk, List.nodup_append]
    exact ⟨h, List.nodup_cons.mpr ⟨by simp, List.nodup_nil⟩, fun a ha b hb e => hk (by rw [← List.mem_singleton.mp hb, ← e]; exact ha)⟩
theorem put_len (l : List (Tx × α)) (k : Tx) (v : α) : (dput l k v).length ≤ l.length + 1 := by
  rw [← dkeys_len, keys_put]
  split
  · rw [dkeys_len]; omega
  · rw [List.length_append, dkeys_len]; exact Nat.le_refl _
theorem mem_put {l : List (Tx × α)} {k : Tx} {v : α} {q : Tx × α} (h : q ∈ dput l k v) : q = (k, v) ∨ q ∈ l := by
  by_cases hk : k ∈ dkeys l
  · rw [put_old hk] at h
    obtain ⟨p, hp, e⟩ := List.mem_map.mp h
    by_cases e2 : p.1 = k
    · rw [if_pos e2] at e
      rw [← e, e2]
      exact Or.inl rfl
    · rw [if_neg e2] at e
      rw [← e]
      exact Or.inr hp
  · rw [put_new hk] at h
    rcases List.mem_append.mp h with e | e
    · exact Or.inr e
    · exact Or.inl (List.mem_singleton.mp e)
theorem get_app (l m : List (Tx × α)) (k : Tx) : dget (l ++ m) k = (dget l k).or (dget m k) := by
  induction l with
  | nil => simp [dget]
  | cons p r ih =>
    rw [List.cons_append, get_cons, get_cons, ih]
    split <;> rfl
theorem get_put (l : List (Tx × α)) (k : Tx) (v : α) (j : Tx) : dget (dput l k v) j = if j = k then some v else dget l j := by
  by_cases hk : k ∈ dkeys l
  · rw [put_old hk]
    induction l with
    | nil => cases hk
    | cons p r ih =>
      rw [List.map_cons, get_cons, get_cons]
      by_cases h1 : p.1 = k
      · rw [if_pos h1]
        by_cases h2 : j = k
        · rw [if_pos h2, if_pos (by rw [h1, h2])]
        · rw [if_neg h2, if_neg (fun z => h2 (by rw [← z]; exact h1)), if_neg (fun z => h2 (by rw [← z, h1]))]
          by_cases h3 : k ∈ dkeys r
          · rw [ih h3, if_neg h2]
          · have : r.map (fun p => if p.1 = k then (p.1, v) else p) = r := by
              conv => rhs; rw [← List.map_id r]
              apply List.map_congr_left
              intro q hq
              exact if_neg fun z => h3 (by rw [← z]; exact mem_keys hq)
            rw [this]
      · rw [if_neg h1]
        have hk2 : k ∈ dkeys r := (List.mem_cons.mp (show k ∈ p.1 :: dkeys r from hk)).resolve_left fun e => h1 e.symm
        rw [ih hk2]
        by_cases h2 : p.1 = j
        · rw [if_pos h2, if_pos h2, if_neg (fun z => h1 (by rw [h2, z]))]
        · rw [if_neg h2, if_neg h2]
  · rw [put_new hk, get_app]
    by_cases h2 : j = k
    · rw [if_pos h2, h2, get_none hk, get_cons, if_pos rfl]
      rfl
    · rw [if_neg h2, get_cons, if_neg (fun z => h2 z.symm)]
      cases dget l j <;> rfl
theorem keys_del (l : List (Tx × α)) (k : Tx) : dkeys (ddel l k) = (dkeys l).filter (fun j => decide (j ≠ k)) := by
  unfold dkeys ddel
  rw [List.filter_map]
  rfl
theorem mem_keys_del {l : List (Tx × α)} {k j : Tx} : j ∈ dkeys (ddel l k) ↔ j ∈ dkeys l ∧ j ≠ k := by
  rw [keys_del, List.mem_filter, decide_eq_true_eq]
theorem nodup_del {l : List (Tx × α)} {k : Tx} (h : (dkeys l).Nodup) : (dkeys (ddel l k)).Nodup := by
  rw [keys_del]
  exact h.filter _
theorem mem_del {l : List (Tx × α)} {k : Tx} {q : Tx × α} (h : q ∈ ddel l k) : q ∈ l := (List.mem_filter.mp h).1
theorem del_len (l : List (Tx × α)) (k : Tx) : (ddel l k).length ≤ l.length := List.length_filter_le _ _
theorem get_del (l : List (Tx × α)) (k j : Tx) : dget (ddel l k) j = if j = k then none else dget l j := by
  induction l with
  | nil =>
    show none = _
    split <;> rfl
  | cons p r ih =>
    rw [get_cons]
    by_cases h : p.1 = k
    · have e : ddel (p :: r) k = ddel r k := by
        unfold ddel
        rw [List.filter_cons, decide_eq_false (fun z => z h), if_neg Bool.false_ne_true]
      rw [e, ih]
      by_cases h2 : j = k
      · rw [if_pos h2, if_pos h2]
      · rw [if_neg h2, if_neg h2, if_neg (fun z => h2 (by rw [← z, h]))]
    · have e : ddel (p :: r) k = p :: ddel r k := by
        unfold ddel
        rw [List.filter_cons, decide_eq_true (p := p.1 ≠ k) h, if_pos rfl]
      rw [e, get_cons, ih]
      by_cases h2 : j = k
      · rw [if_pos h2, if_pos h2, if_neg (fun z => h (by rw [z, h2]))]
      · rw [if_neg h2, if_neg h2]
theorem del_same {l : List (Tx × α)} {k : Tx} (h : k ∉ dkeys l) : ddel l k = l := by
  unfold ddel
  rw [List.filter_eq_self]
  intro p hp
  exact decide_eq_true fun z => h (by rw [← z]; exact mem_keys hp)
theorem del_cons {p : Tx × α} {r : List (Tx × α)} (h : p.1 ∉ dkeys r) : ddel (p :: r) p.1 = r := by
  have e : ddel (p :: r) p.1 = ddel r p.1 := by
    unfold ddel
    rw [List.filter_cons, decide_eq_false (fun z => z rfl), if_neg Bool.false_ne_true]
  rw [e, del_same h]
/-! ## walks -/
theorem fold_inv {f : S → β → S} {I : S → Prop} : ∀ {ys : List β} {s : S}, I s → (∀ s y, y ∈ ys → I s → I (f s y)) → I (ys.foldl f s)
  | [], _, h, _ => h
  | y :: r, s, h, hs => fold_inv (ys := r) (hs s y List.mem_cons_self h) fun s2 z hz => hs s2 z (List.mem_cons_of_mem _ hz)
theorem out_all [Inhabited S] {step : S → β → Stp S Unit} {g : S → β → S} (hf : ∀ s y, step s y = .go (g s y)) (l : List β) (s : S) : outL (runL step l s) = l.foldl g s := by
  rw [runL_all step g hf]
  rfl
theorem run_is {step : S → β → Stp S R} {g : S → β → S} (hf : ∀ s y, step s y = .go (g s y)) {l : List β} {s0 s : S} (h : runL step l s0 = .go s) : s = l.foldl g s0 := by
  rw [runL_all step g hf] at h
  exact (Stp.go.inj h).symm
theorem run_inv {step : S → β → Stp S R} {g : S → β → S} (hf : ∀ s y, step s y = .go (g s y)) {I : S → Prop} {l : List β} {i : Nat} {s0 s : S} (h : runL step (l.take i) s0 = .go s) (h0 : I s0) (hs : ∀ s y, y ∈ l → I s → I (g s y)) : I s := by
  rw [run_is hf h]
  exact fold_inv h0 fun s y hy => hs s y (List.mem_of_mem_take hy)
/-- with the count of what has been walked -/
theorem fold_cnt {f : S → β → S} {I : Nat → S → Prop} {l : List β} {s0 : S} (h0 : I 0 s0) (hs : ∀ n s y, l[n]? = some y → I n s → I (n + 1) (f s y)) : ∀ i, i ≤ l.length → I i ((l.take i).foldl f s0)
  | 0, _ => by
    rw [List.take_zero]
    exact h0
  | i + 1, h => by
    have ih := fold_cnt h0 hs i (by omega)
    have e : l[i]? = some l[i] := List.getElem?_eq_getElem (by omega)
    rw [List.take_add_one, e, List.foldl_append]
    exact hs i _ _ e ih
theorem run_cnt {step : S → β → Stp S R} {g : S → β → S} (hf : ∀ s y, step s y = .go (g s y)) {I : Nat → S → Prop} {l : List β} {i : Nat} {s0 s : S} (h : runL step (l.take i) s0 = .go s) (hi : i ≤ l.length) (h0 : I 0 s0) (hs : ∀ n s y, l[n]? = some y → I n s → I (n + 1) (g s y)) : I i s := by
  rw [run_is hf h]
  exact fold_cnt h0 hs i hi
theorem out_cnt [Inhabited S] {step : S → β → Stp S Unit} {g : S → β → S} (hf : ∀ s y, step s y = .go (g s y)) {I : Nat → S → Prop} {l : List β} {s0 : S} (h0 : I 0 s0) (hs : ∀ n s y, l[n]? = some y → I n s → I (n + 1) (g s y)) : I l.length (outL (runL step l s0)) := by
  rw [out_all hf]
  have := fold_cnt (f := g) h0 hs l.length (Nat.le_refl _)
  rw [List.take_length] at this
  exact this
theorem fold_and (p : β → Bool) : ∀ (l : List β) (b : Bool), l.foldl (fun s y => s && !p y) b = (b && !l.any p)
  | [], b => by simp
  | y :: r, b => by
    rw [List.foldl_cons, fold_and p r, List.any_cons]
    cases b <;> cases p y <;> simp
theorem fold_puts [Inhabited α] {m : List (Tx × α)} (d : α) : ∀ {r l : List (Tx × α)}, (∀ q ∈ r, dget m q.1 = some q.2) → (dkeys (l ++ r)).Nodup → (dkeys r).foldl (fun s y => dput s y ((dget m y).getD d)) l = l ++ r
  | [], l, _, _ => by simp [dkeys]
  | p :: r, l, h, hn => by
    have hk : p.1 ∉ dkeys l := fun z => by
      rw [dkeys_app, List.nodup_append] at hn
      exact hn.2.2 _ z _ List.mem_cons_self rfl
    show (dkeys r).foldl _ (dput l p.1 ((dget m p.1).getD d)) = _
    rw [h p List.mem_cons_self, put_new hk]
    show (dkeys r).foldl _ (l ++ [p]) = _
    rw [fold_puts d (r := r) (l := l ++ [p]) (fun q hq => h q (List.mem_cons_of_mem _ hq)) (by rw [List.append_assoc]; exact hn), List.append_assoc]
    rfl
end
end Vf

/-! Own layer, exceptions: a list comprehension within an except suite. -/
namespace Vf
open PySem PySem.Spec PyProof.Rows L2 TL Evl HotX
section
variable {prog : Program} {w : World} {A : Around} {E : Value → Shared → Prop} {s : Shared}
/-- a list's iterator at its end, while an exception is handled -/
theorem lend_hot {it l x1 : Addr} {i : Nat} {items : Array Value} {Q : Option Value → Shared → Prop} (hot : HotAt A x1 s.heap) (hne : it ≠ x1) (hit : s.heap.IsListIter it l i) (hl : s.heap.IsList l items) (hx : items[i]? = none)
    (hQ : ∀ h', (∀ b o, b ≠ it → s.heap.get? b = some o → h'.get? b = some o) → Q none { s with heap := h' }) : wpAny (model prog w) A (pyNext (.ref it)) Q E s := by
  obtain ⟨o, ho, hc, hd⟩ := id hit
  obtain ⟨ol, hol, _, nl, hdl⟩ := hl
  obtain ⟨hh, o1, vs1, h1, d1, c1⟩ := hot
  unfold pyNext
  refine wpAny_bind (wpAny_attempt (wpAny_callSpecial?_slot (name := Str.ofString "__next__") hit.typeIs slot_listiter_next (wpAny_call_entry slot_listiter_next hit.typeIs entry_listiter_next ?_ (args_listiter_next _))))
  show wpAny _ _ (field (.ref it) 0 >>= _) _ _ s; refine wpAny_bind (wpAny_field ho hd (x := .ref l) rfl ?_); show wpAny _ _ (if (Value.ref l == Value.none) = true then _ else _) _ _ s; rw [if_neg (show ¬ ((Value.ref l == Value.none) = true) from Bool.false_ne_true)]
  show wpAny _ _ (field (.ref it) 1 >>= _) _ _ s; refine wpAny_bind (wpAny_field ho hd (x := .int i 0) rfl ?_); show wpAny _ _ (seqItems? (.ref l) >>= _) _ _ s; refine wpAny_bind (wpAny_seqItems hol hdl ?_)
  simp only [Int.toNat_natCast, hx]; refine wpAny_bind (wpAny_rule (wpAny_bind (wpAny_setField ho hd (by simp) ?_)))
  have h1b : (s.heap.update it (Obj.mapFields (·.setIfInBounds 0 .none))).get? x1 = some o1 := (Heap.get?_update_other _ _ hne).trans h1
  show wpAny _ _ (newExc (.type "StopIteration") [] >>= _) _ _ _; refine wpAny_bind ?_; simp only [newExc, newTuple]; refine wpAny_bind (wpAny_newObj_type ?_ (by size_fits))
  refine wpAny_bind (m := firstArgMember _ _) (wpAny_of_eq (a := Value.none) (by first | rfl | (simp only [firstArgMember]; rfl)) ?_); refine wpAny_newObj_type ?_ (by size_fits)
  refine raiseNew_hot ⟨hh, o1, vs1, Heap.get?_push_of_some _ (Heap.get?_push_of_some _ h1b), d1, c1⟩ (Nat.ne_of_lt (Heap.lt_size (Heap.get?_push_of_some _ h1b))) (Heap.get?_push_size _ rfl) rfl (by first | (simp; done) | (simp; omega) | (simp only [Array.size_append]; simp; omega)) ?_
  refine wpAny_bind (wpAny_isInstance (T := "StopIteration") (b := true) ⟨_, Heap.get?_update_self _ (Heap.get?_push_size _ rfl) rfl, rfl⟩ isSubtype_stop ?_)
  refine wpAny_pure (hQ _ fun b o2 hb e => ?_)
  have e2 : (s.heap.update it (Obj.mapFields (·.setIfInBounds 0 .none))).get? b = some o2 := (Heap.get?_update_other _ _ (Ne.symm hb)).trans e
  exact (Heap.get?_update_other _ _ (Nat.ne_of_gt (Heap.lt_size (Heap.get?_push_of_some _ e2)))).trans (Heap.get?_push_of_some _ (Heap.get?_push_of_some _ e2))
/-- a tuple's iterator at its end -/
theorem tend_hot {it t x1 : Addr} {i : Nat} {items : Array Value} {Q : Option Value → Shared → Prop} (hot : HotAt A x1 s.heap) (hne : it ≠ x1) (hit : IsTupIter s.heap it t i) (ht : IsTup s.heap t items) (hx : items[i]? = none)
    (hQ : ∀ h', (∀ b o, b ≠ it → s.heap.get? b = some o → h'.get? b = some o) → Q none { s with heap := h' }) : wpAny (model prog w) A (pyNext (.ref it)) Q E s := by
  obtain ⟨o, ho, hc, hd⟩ := id hit
  obtain ⟨ol, hol, _, nl, hdl⟩ := ht
  obtain ⟨hh, o1, vs1, h1, d1, c1⟩ := hot
  unfold pyNext
  refine wpAny_bind (wpAny_attempt (wpAny_callSpecial?_slot (name := Str.ofString "__next__") hit.typeIs slot_tupleiter_next (wpAny_call_entry slot_tupleiter_next hit.typeIs entry_tupleiter_next ?_ (args_tupleiter_next _))))
  show wpAny _ _ (field (.ref it) 0 >>= _) _ _ s; refine wpAny_bind (wpAny_field ho hd (x := .ref t) rfl ?_); show wpAny _ _ (if (Value.ref t == Value.none) = true then _ else _) _ _ s; rw [if_neg (show ¬ ((Value.ref t == Value.none) = true) from Bool.false_ne_true)]
  show wpAny _ _ (field (.ref it) 1 >>= _) _ _ s; refine wpAny_bind (wpAny_field ho hd (x := .int i 0) rfl ?_); show wpAny _ _ (seqItems? (.ref t) >>= _) _ _ s; refine wpAny_bind (wpAny_seqItems hol hdl ?_)
  simp only [Int.toNat_natCast, hx]; refine wpAny_bind (wpAny_rule (wpAny_bind (wpAny_setField ho hd (by simp) ?_)))
  have h1b : (s.heap.update it (Obj.mapFields (·.setIfInBounds 0 .none))).get? x1 = some o1 := (Heap.get?_update_other _ _ hne).trans h1
  show wpAny _ _ (newExc (.type "StopIteration") [] >>= _) _ _ _; refine wpAny_bind ?_; simp only [newExc, newTuple]; refine wpAny_bind (wpAny_newObj_type ?_ (by size_fits))
  refine wpAny_bind (m := firstArgMember _ _) (wpAny_of_eq (a := Value.none) (by first | rfl | (simp only [firstArgMember]; rfl)) ?_); refine wpAny_newObj_type ?_ (by size_fits)
  refine raiseNew_hot ⟨hh, o1, vs1, Heap.get?_push_of_some _ (Heap.get?_push_of_some _ h1b), d1, c1⟩ (Nat.ne_of_lt (Heap.lt_size (Heap.get?_push_of_some _ h1b))) (Heap.get?_push_size _ rfl) rfl (by first | (simp; done) | (simp; omega) | (simp only [Array.size_append]; simp; omega)) ?_
  refine wpAny_bind (wpAny_isInstance (T := "StopIteration") (b := true) ⟨_, Heap.get?_update_self _ (Heap.get?_push_size _ rfl) rfl, rfl⟩ isSubtype_stop ?_)
  refine wpAny_pure (hQ _ fun b o2 hb e => ?_)
  have e2 : (s.heap.update it (Obj.mapFields (·.setIfInBounds 0 .none))).get? b = some o2 := (Heap.get?_update_other _ _ (Ne.symm hb)).trans e
  exact (Heap.get?_update_other _ _ (Nat.ne_of_gt (Heap.lt_size (Heap.get?_push_of_some _ e2)))).trans (Heap.get?_push_of_some _ (Heap.get?_push_of_some _ e2))
theorem hot_keep {x1 : Addr} {h h2 : Heap} (hot : HotAt A x1 h) (k : ∀ b o, h.get? b = some o → h2.get? b = some o) : HotAt A x1 h2 := by
  obtain ⟨hh, o1, vs1, h1, d1, c1⟩ := hot
  exact ⟨hh, o1, vs1, k _ _ h1, d1, c1⟩
theorem hot_lt {x1 : Addr} {h : Heap} (hot : HotAt A x1 h) : x1 < h.objs.size := by
  obtain ⟨hh, o1, vs1, h1, d1, c1⟩ := hot
  exact Heap.lt_size h1
/-- a, b = t within an except suite -/
theorem unpack_hot {t x1 : Addr} {items : Array Value} {targets : List (Bool × (Value → Sem Unit))} {Q : Unit → Shared → Prop} (hot : HotAt A x1 s.heap) (ht : IsTup s.heap t items) (hn : targets.length = items.size) (hstar : targets.findIdx? (·.1) = none)
    (h : ∀ h', (∀ b o, s.heap.get? b = some o → h'.get? b = some o) → wpAny (model prog w) A (assignInOrder (targets.map (·.2)) items.toList) Q E { s with heap := h' }) : wpAny (model prog w) A (unpack (.ref t) targets) Q E s := by
  have hlt : t ≠ s.heap.objs.size := by obtain ⟨o, ho, _⟩ := ht; exact Nat.ne_of_lt (Heap.lt_size ho)
  have hx1 := hot_lt hot
  unfold unpack; rw [hn, hstar]
  refine wpAny_bind (wpAny_holding ?_)
  unfold unpackItems; refine wpAny_bind ?_; unfold notIterableAtAll
  refine wpAny_bind (wpAny_specialOf ht.typeIs slot_tuple_iter.lookup (wpAny_pure ?_))
  simp only [Bool.false_eq_true, if_false]; refine wpAny_bind (wpAny_holding (iter_tuple ht ?_))
  refine wpAny_bind (wpAny_holding (draw_tuple hlt items.size 0 _ _ ⟨_, Heap.get?_push_size _ rfl, rfl, rfl⟩ (ht.push _) (by omega) fun h3 hit3 hs3 => ?_))
  have hall : List.take items.size (List.drop 0 items.toList) = items.toList := (by rw [List.drop_zero]; exact List.take_of_length_le (by simp))
  rw [hall, if_neg (by simp)]
  have ht3 : IsTup h3 t items := (ht.push _).extBut hs3.extBut hlt
  have k3 : ∀ b o, s.heap.get? b = some o → h3.get? b = some o := fun b o e => hs3.extBut b o (Nat.ne_of_lt (Heap.lt_size e)) (Heap.get?_push_of_some _ e)
  refine wpAny_bind (wpAny_holding (tend_hot (s := { s with heap := h3 }) (hot_keep hot k3) (Nat.ne_of_gt hx1) hit3 ht3 (by simp) fun h4 he4 => ?_))
  simp only [Option.isSome_none, Bool.false_eq_true, if_false]
  exact wpAny_pure (h h4 fun b o e => he4 b o (Nat.ne_of_lt (Heap.lt_size e)) (k3 b o e))
end

section
variable {X : Cx}
theorem hot_pin {p : Addr × Obj} {pins : List (Addr × Obj)} {σ : L2.St} {H : Hp} {s : Shared} (h : L2H.Hot1 X.A p) (I : Inv X pins σ H s) (hp : p ∈ X.pn ++ pins) : HotAt X.A p.1 s.heap := by
  obtain ⟨hh, v1, e1, c1⟩ := h
  exact ⟨hh, p.2, v1, (I.pin p hp).1, e1, c1⟩
/-- the context of a block within an except suite -/
abbrev blkH (X : Cx) (p : Addr × Obj) (s : Shared) (H : Hp) (scope : Scope) (cenv : Env) (fp : List Addr) : Cx := { X.blk s H scope cenv fp with pn := [p] }
theorem inv_pn {X : Cx} {p : Addr × Obj} {s0 : Shared} {H0 : Hp} {scope : Scope} {cenv : Env} {fp : List Addr} {σ : L2.St} {H : Hp} {s : Shared} (I : Inv (X.blk s0 H0 scope cenv fp) [p] σ H s) : Inv (blkH X p s0 H0 scope cenv fp) [] σ H s :=
  ⟨⟨I.ok.mod, I.ok.kind, I.ok.glob, I.ok.blt, I.ok.above, I.ok.inj, I.ok.has, I.ok.cab, I.ok.hd, I.ok.frames, I.ok.stk, I.ok.exf, I.ok.bs, I.ok.bsz, I.ok.noex, I.ok.exfs, I.ok.funs, I.ok.frf⟩, I.os, I.bare, I.base, I.loc, I.cell, I.free, I.freeC, I.pin, I.hok, I.len⟩
/-- (a, b, ..) = a tuple, within an except suite -/
theorem pg_tupH {es : List Expr} {k n : Nat} {t : TGs} {pos : Pos} (hc : L2H.HotC X) (h : PGs X es t) (hn : (assignEach es X.env).length = n := by rfl) (hst : (assignEach es X.env).findIdx? (·.1) = none := by rfl) : PG X (.Tuple es k pos) (gTup X.K n t) := by
  refine ⟨fun pins s σ H v u Q I r hw => ?_⟩
  obtain ⟨x1, hot⟩ := hc.at I
  obtain ⟨a, xs, e1, hq, hl, hw⟩ := hw; subst e1; cases r
  obtain ⟨its, rv, ht, hz⟩ := I.tuple hq
  rw [PyProof.Rows.assign_Tuple]
  refine wpAny_bind (wpAny_standAt (unpack_hot hot ht (by simp [hn, ← hl, rv.length]) hst fun h2 hx => ?_))
  exact h.run pins _ σ H xs _ Q (I.kept (t' := s.toks) fun b o e => hx b o e) (by simpa using rv) hw
/-- the handled exception stays where it is while a block runs -/
theorem pin_blk {p : Addr × Obj} {pins : List (Addr × Obj)} {σ σ2 : L2.St} {H : Hp} {s s4 : Shared} {scope : Scope} {ce : Env} {fp : List Addr} (I : Inv X pins σ H s) (hp : p ∈ X.pn ++ pins) (J : Inv (X.blk s H scope ce fp) [] σ2 H s4)
    (k : ∀ b o, s.heap.get? b = some o → s4.heap.get? b = some o) (hL : s.heap.objs.size ≤ ce.locals) : Inv (X.blk s H scope ce fp) [p] σ2 H s4 :=
  J.pins_of fun q hq => by
    have e : q = p := List.mem_singleton.mp hq
    subst e
    obtain ⟨g, n, l, f, c⟩ := I.pin q hp
    refine ⟨k _ _ g, n, Nat.ne_of_lt (Nat.lt_of_lt_of_le (Heap.lt_size g) hL), ?_, c⟩
    show q.1 ∉ frs X.stack
    rcases I.ok.stk with e | ⟨e, ef⟩
    · rw [e]
      exact f
    · rw [e]
      intro hm
      obtain ⟨en, he, z⟩ := List.mem_filterMap.mp hm
      rcases List.mem_cons.mp he with e2 | e2
      · rw [e2, ef] at z
        exact l (Option.some.inj z).symm
      · exact f (List.mem_filterMap.mpr ⟨en, e2, z⟩)
/-- the list's iterator's turns while an exception is handled -/
theorem item_hot {tg : Expr} {a it : Addr} {i : Nat} {pins : List (Addr × Obj)} {s : Shared} {σ : L2.St} {H : Hp} {E : Value → Shared → Prop} (I : Inv X pins σ H s) (hf : FpOk X pins H it) (st : s.heap.IsListIter it a i) (hg : (Itl X.K a).go i H) :
    wpAny (model X.prog X.w) X.A (pyNext (.ref it)) (fun r s1 => ∃ u, r = some u ∧ wpAny (model X.prog X.w) X.A (letOwnedTupleGo tg (.ref it) u) (fun _ s2 => ∃ x, Inv X pins σ H s2 ∧ RelV x u ∧ (Itl X.K a).yld i H x H ∧ s2.heap.IsListIter it a (i + 1)) E s1) E s := by
  obtain ⟨xs, x, hq, hx⟩ := hg
  obtain ⟨its, rv, ph, hz⟩ := I.list hq
  obtain ⟨u, hu, ru⟩ := rv.get hx
  obtain ⟨f0, f1, f2, f3, f4, f5⟩ := hf
  refine wpAny_pyNext_list_item st ph.isList (x := u) (by simpa using hu) fun h2 st2 sb => ?_
  have J : Inv X pins σ H { s with heap := h2 } := I.turned (t' := s.toks) (fun b o hb e => (sb.2 b hb).trans e) f0 f1 f3 f4 f5
  obtain ⟨o, e, c, d⟩ := id st2
  exact ⟨u, rfl, go_of (s := { s with heap := h2 }) e c d (by decide) ⟨x, J, ru, ⟨rfl, fun ys hy => by rw [I.list_inj hy hq]; exact hx⟩, st2⟩⟩
theorem done_hot {a it x1 : Addr} {i : Nat} {pins : List (Addr × Obj)} {s : Shared} {σ : L2.St} {H : Hp} {E : Value → Shared → Prop} (hot : HotAt X.A x1 s.heap) (hne : it ≠ x1) (I : Inv X pins σ H s) (hf : FpOk X pins H it) (st : s.heap.IsListIter it a i) (hg : (Itl X.K a).stop i H) :
    wpAny (model X.prog X.w) X.A (pyNext (.ref it)) (fun r s1 => r = none ∧ Inv X pins σ H s1) E s := by
  obtain ⟨xs, hq, hx⟩ := hg
  obtain ⟨its, rv, ph, hz⟩ := I.list hq
  obtain ⟨f0, f1, f2, f3, f4, f5⟩ := hf
  have hl := rv.length
  exact lend_hot hot hne st ph.isList (by simp; omega) fun h2 eb => ⟨rfl, I.turned (t' := s.toks) (fun b o hb e => eb b o hb e) f0 f1 f3 f4 f5⟩
/-- a list comprehension within an except suite -/
theorem pe_lcH0 {elt tg l : Expr} {ifs : List Expr} {scope : Scope} {own : List (Str × Nat)} {pos : Pos} {tl : TE} {g : TG} {tt : TT} {te : TE} {p : Addr × Obj} (hp1 : L2H.Hot1 X.A p) (hp2 : p ∈ X.pn) (hN : X.N.Nodup) (hl : PE X l tl) (ok : BlkOk X.N X.env.scope scope own)
    (hg : ∀ (s : Shared) (H : Hp) (C : Addr) (cl : List (Str × Addr)) (fp : List Addr), PG (blkH X p s H scope (compEnvC scope cl C X.env) fp) tg g)
    (ht : ∀ (s : Shared) (H : Hp) (C : Addr) (cl : List (Str × Addr)) (fp : List Addr), PTs (blkH X p s H scope (compEnvC scope cl C X.env) fp) ifs tt)
    (he : ∀ (s : Shared) (H : Hp) (C : Addr) (cl : List (Str × Addr)) (fp : List Addr), PE (blkH X p s H scope (compEnvC scope cl C X.env) fp) elt te)
    (hs : ∀ x, foldedSetIterable l X.env x = pure x := by intro _; rfl) : PE X (.ListComp elt [⟨tg, l, ifs, 0⟩] scope pos) (tLc (iList X.K tl) g tt te (own.map (·.2))) := by
  refine ⟨fun pins s σ H Q I h => ?_⟩
  have hcap : ∀ y ∈ scope.names, y.2 = .free → ∃ c, X.env.cells.lookup y.1 = some c := fun y hy e => (ok.free y hy e).elim (fun k => I.ok.has _ (.inl k)) (fun k => I.ok.has _ (.inr k))
  rw [eval_ListComp]
  refine wpAny_comprehension_free (use := none) rfl hs (closure_ok hcap) ok.kind (fun y hy e => by rw [ok.uniq y hy, e]) (thn (hl.run pins s σ H _ I h) fun v s1 ⟨x, H2, I1, r1, q1⟩ => ?_)
  obtain ⟨a, e, ⟨xs, hq⟩, q⟩ := q1; subst e; cases r1
  obtain ⟨its, rv, ph, hz⟩ := I1.list hq
  refine wpAny_pyIter_list ph.isList ?_
  -- the iterator stands
  generalize hit : s1.heap.objs.size = it
  generalize hs2 : ({ s1 with heap := s1.heap.push { cls := .type "list_iterator", data := .fields #[.ref a, .int 0 0] } } : Shared) = s2
  have iv2 : Inv X pins σ H2 s2 := by
    rw [← hs2]
    exact I1.kept (t' := s1.toks) fun b o e => Heap.get?_push_of_some _ e
  have st2 : s2.heap.IsListIter it a 0 := by
    rw [← hs2, ← hit]
    exact ⟨_, Heap.get?_push_size _ rfl, rfl, rfl⟩
  have ff2 : FpOk X pins H2 it := by
    have z := I1.fpOk (H' := H2) (Nat.le_of_eq hit) (I1.hok.fresh (Nat.le_of_eq hit))
    exact z
  have it2 : it < s2.heap.objs.size := by
    obtain ⟨o, e, _⟩ := st2
    exact Heap.lt_size e
  refine wpAny_newObj_type (newEnv_comp ?_) (Nat.zero_le _)
  generalize hD : s2.heap.objs.size = D
  obtain ⟨W, ⟨m0, w0⟩, turn⟩ := q D (iv2.hok.fresh (Nat.le_of_eq hD))
  generalize hs3 : ({ s2 with heap := s2.heap.push { cls := .type "list", data := .seq ([] : List Value).toArray } } : Shared) = s3
  have iv3 : Inv X pins σ (upd H2 D (.lst [])) s3 := by
    rw [← hs3]
    exact iv2.laid (t' := s2.toks) (fun b o e => Heap.get?_push_of_some _ e) (Nat.le_of_eq hD) ⟨Nat.zero_le _, [], 0, .nil, (by rw [← hD]; exact Heap.get?_push_size _ rfl)⟩
  have hp3 : s3.heap = s2.heap.push { cls := .type "list", data := .seq ([] : List Value).toArray } := (by rw [← hs3])
  have it3 : it < s3.heap.objs.size := (by rw [hp3, Heap.size_push]; exact Nat.lt_succ_of_lt it2)
  have st3 : s3.heap.IsListIter it a 0 := by
    obtain ⟨o, e, c, d⟩ := st2
    exact ⟨o, (by rw [hp3]; exact Heap.get?_push_of_some _ e), c, d⟩
  have ff3 : FpOk X pins (upd H2 D (.lst [])) it := ⟨(by rw [upd_ne (by rw [← hD]; exact Nat.ne_of_lt it2)]; exact ff2.1), ff2.2⟩
  have iv4 := block_start (fp := [it]) iv3 ok hN (fun b hb => by rw [List.mem_singleton.mp hb]; exact ⟨ff3, it3⟩)
  have pg := hg s3 (upd H2 D (.lst [])) s3.heap.objs.size (cellsFrom (s3.heap.objs.size + 1) scope.names (cloFrom X.env.cells scope.names [])) [it]
  have pt := ht s3 (upd H2 D (.lst [])) s3.heap.objs.size (cellsFrom (s3.heap.objs.size + 1) scope.names (cloFrom X.env.cells scope.names [])) [it]
  have pe := he s3 (upd H2 D (.lst [])) s3.heap.objs.size (cellsFrom (s3.heap.objs.size + 1) scope.names (cloFrom X.env.cells scope.names [])) [it]
  show codeAny _ _ (.compStart (.ListComp elt [⟨tg, l, ifs, 0⟩] scope pos) 0 (.ref it) (.ref D) (compEnvC scope (cellsFrom (s3.heap.objs.size + 1) scope.names (cloFrom X.env.cells scope.names [])) s3.heap.objs.size X.env)) (compPost (model X.prog X.w) X.A X.xe none (EP X pins σ Q) (.ref D) s3.heap.objs.size) { s3 with heap := pushCells (s3.heap.push { cls := .type "dict", data := .dict #[] }) scope.names }
  generalize hce : compEnvC scope (cellsFrom (s3.heap.objs.size + 1) scope.names (cloFrom X.env.cells scope.names [])) s3.heap.objs.size X.env = ce at iv4 pg pt pe ⊢
  have cL : ce.locals = s3.heap.objs.size := (by subst hce; rfl)
  generalize hH3 : upd H2 D (.lst []) = H3 at iv3 iv4 pg pt pe w0 ff3
  have k4 : ∀ b o, s3.heap.get? b = some o → (pushCells (s3.heap.push { cls := .type "dict", data := .dict #[] }) scope.names).get? b = some o := fun b o e => pushCells_keeps _ _ _ _ (Heap.get?_push_of_some _ e)
  generalize hs4 : ({ s3 with heap := pushCells (s3.heap.push { cls := .type "dict", data := .dict #[] }) scope.names } : Shared) = s4 at iv4 ⊢
  have k4b : ∀ b o, s3.heap.get? b = some o → s4.heap.get? b = some o := (by rw [← hs4]; exact k4)
  have st4 : s4.heap.IsListIter it a 0 := (by obtain ⟨o, e, c, d⟩ := st3; exact ⟨o, k4b _ _ e, c, d⟩)
  have iv4p := inv_pn (pin_blk (p := p) iv3 (List.mem_append_left _ hp2) iv4 k4b (Nat.le_of_eq cL.symm))
  have hnep : p.1 ≠ it := ff2.2.2.2.2.2 p (List.mem_append_left _ hp2)
  have stat : ∀ {τ : L2.St} {H' : Hp} {s' : Shared}, Inv (blkH X p s3 H3 scope ce [it]) [] τ H' s' → H' it = none → FpOk (blkH X p s3 H3 scope ce [it]) [] H' it := fun {τ H' s'} J hn =>
    ⟨hn, (J.ok.exf it List.mem_cons_self).1, J.ok.exfs it List.mem_cons_self, .inl List.mem_cons_self, fun x c e => (J.ok.exf it List.mem_cons_self).2 x c e, fun r hr => by
      have e : r = p := List.mem_singleton.mp hr
      rw [e]
      exact hnep⟩
  have loop : codeAny (model X.prog X.w) X.A (.compLoop (.ListComp elt [⟨tg, l, ifs, 0⟩] scope pos) 0 (.ref it) (.ref D) ce) (compPost (model X.prog X.w) X.A X.xe none (EP X pins σ Q) (.ref D) s3.heap.objs.size) s4 := by
    refine compLoop_any (fun n s' => ∃ i H', Inv (blkH X p s3 H3 scope ce [it]) [] (wipe σ (own.map (·.2))) H' s' ∧ s'.heap.IsListIter it a i ∧ H' it = none ∧ W i n H') ?_ m0 ⟨0, H3, iv4p, st4, ff3.1, w0⟩
    rintro n s5 ⟨i, H5, iv5, st5, n5, w5⟩
    rcases turn i n H5 w5 with ⟨stop, qq⟩ | ⟨go, Nx, hNx, step⟩
    · have td := done_hot (E := fun _ _ => False) (hot_pin (X := blkH X p s3 H3 scope ce [it]) hp1 iv5 (List.mem_singleton.mpr rfl)) (Ne.symm hnep) iv5 (stat iv5 n5) st5 stop
      refine thnF td fun r s6 ⟨hr, iv6⟩ => ?_
      subst hr
      have iv7 : Inv X pins σ H5 s6 := iv3.call' (ch := [it]) iv6.os iv6.base iv6.hok iv6.bare fun b hb => by
        rw [List.mem_singleton.mp hb]
        exact ⟨ff3.2.2.2.1, ff3.2.1, ff3.2.2.2.2.1, ff3.2.2.2.2.2⟩
      have nC : H5 s3.heap.objs.size = none := (by have z : H5 ce.locals = none := iv6.free; rw [cL] at z; exact z)
      obtain ⟨m, hn, _⟩ := iv6.loc
      have hn : s6.heap.Ns ce.locals m := hn
      rw [cL] at hn
      have fc := iv3.fpOk (Nat.le_refl _) nC
      obtain ⟨f0, f1, f2, f3, f4, f5⟩ := fc
      exact ⟨m, hn, fun h3 sb => ⟨.ref D, H5, iv7.turned (t' := s6.toks) (fun b o hb e => (sb.2 b hb).trans e) f0 f1 f3 f4 f5, rfl, qq⟩⟩
    · have ti := item_hot (X := blkH X p s3 H3 scope ce [it]) (tg := tg) (E := fun _ _ => False) iv5 (stat iv5 n5) st5 go
      refine thnF ti fun r s6 ⟨u, hr, h6⟩ => ?_
      subst hr
      refine thnF h6 fun _ s7 ⟨x, iv7, r7, y7, st7⟩ => ?_
      have iv7p := iv7.pinned (fp := [it]) (fun b hb => by rw [List.mem_singleton.mp hb]; exact stat iv7 n5) (fun b hb => by
        obtain ⟨o, e, c, d⟩ := st7
        rw [List.mem_singleton.mp hb]
        exact ⟨o, e, fun v z => by rw [d] at z; cases z⟩)
      refine thnF (pg.run _ s7 _ H5 x u _ iv7p r7 (step x H5 y7)) fun _ s8 ⟨σ8, H8, iv8, hw8, q8⟩ => ?_
      refine thnF (pt.run _ s8 σ8 H8 _ iv8 q8) fun b s9 ⟨H9, iv9, q9⟩ => ?_
      have fin : ∀ {s' : Shared} {H' : Hp}, Inv (blkH X p s3 H3 scope ce [it]) ([] ++ pinsAt [it] s7.heap) σ8 H' s' → Nx H' → ∃ m, m < n ∧ ∃ i H', Inv (blkH X p s3 H3 scope ce [it]) [] (wipe σ (own.map (·.2))) H' s' ∧ s'.heap.IsListIter it a i ∧ H' it = none ∧ W i m H' := fun {s' H'} J nx => by
        obtain ⟨m2, hm, w2⟩ := hNx H' nx
        obtain ⟨o7, e7, c7, d7⟩ := st7
        have z := J.pin (it, o7) (List.mem_append_right _ (List.mem_append_right _ (mem_pinsAt (List.mem_singleton.mpr rfl) e7)))
        refine ⟨m2, hm, i + 1, H', (J.unpinned (pins := [])).weak (by rw [← hw8, wipe_length]) (fun j v e => ?_), ⟨o7, z.1, c7, d7⟩, z.2.1, w2⟩
        rw [← hw8] at e
        exact (wipe_some e).1
      cases b with
      | false =>
        simp only [Bool.false_eq_true, if_false] at q9 ⊢
        exact fin iv9 q9
      | true =>
        simp only [if_true] at q9 ⊢
        refine thnF (pe.run _ s9 σ8 H9 _ iv9 q9) fun z s10 ⟨yv, H10, iv10, r10, acc, hD10, hz10, nx⟩ => ?_
        exact app_ok (X := blkH X p s3 H3 scope ce [it]) iv10 hD10 hz10 r10 fun s11 iv11 => fin iv11 nx
  exact codeAny_compStart_list loop (wpAny_pyIter_listiter st4 loop)
/-- the same, the written part named -/
theorem pe_lcH (K : PySem.W.Frag) {elt tg l : Expr} {ifs : List Expr} {scope : Scope} {own : List (Str × Nat)} {pos : Pos} {tl : TE} {g : TG} {tt : TT} {te : TE} {p : Addr × Obj} (hp1 : L2H.Hot1 X.A p) (hp2 : p ∈ X.pn) (hN : X.N.Nodup) (hl : PE X l tl) (ok : BlkOk X.N X.env.scope scope own)
    (hg : ∀ (s : Shared) (H : Hp) (C : Addr) (cl : List (Str × Addr)) (fp : List Addr), PG (blkH X p s H scope (compEnvC scope cl C X.env) fp) tg g)
    (ht : ∀ (s : Shared) (H : Hp) (C : Addr) (cl : List (Str × Addr)) (fp : List Addr), PTs (blkH X p s H scope (compEnvC scope cl C X.env) fp) ifs tt)
    (he : ∀ (s : Shared) (H : Hp) (C : Addr) (cl : List (Str × Addr)) (fp : List Addr), PE (blkH X p s H scope (compEnvC scope cl C X.env) fp) elt te)
    (hs : ∀ x, foldedSetIterable l X.env x = pure x := by intro _; rfl) (h : X.K = K := by rfl) : PE X (.ListComp elt [⟨tg, l, ifs, 0⟩] scope pos) (tLc (iList K tl) g tt te (own.map (·.2))) := h ▸ pe_lcH0 hp1 hp2 hN hl ok hg ht he hs
theorem pg_tupHK (K : PySem.W.Frag) {es : List Expr} {k n : Nat} {t : TGs} {pos : Pos} (hc : L2H.HotC X) (h : PGs X es t) (hn : (assignEach es X.env).length = n := by rfl) (hst : (assignEach es X.env).findIdx? (·.1) = none := by rfl) (h2 : X.K = K := by rfl) : PG X (.Tuple es k pos) (gTup K n t) := h2 ▸ pg_tupH hc h hn hst
end
end Vf

/-! Own layer: pairs, defs that raise, what is caught. -/
namespace Vf
open PySem PySem.Spec PyProof.Rows L2 TL Evl
section
variable {K : PySem.W.Frag} {σ : L2.St} {H H' : Hp} {ta : TA} {tb te td : TE} {D : Ends} {tz : TS} {l l2 : List (List V)} {xs : List V} {p : Addr}
/-! ## written lists of tuples -/
def EvR (K : PySem.W.Frag) (ta : TA) (σ : L2.St) (H : Hp) (l : List (List V)) : Prop := ∀ H1, Ex H H1 → ∀ Q : List V → Hp → Prop, (∀ ts H2, Ex H1 H2 → TupsAt K H2 ts l → Q (ts.map V.ref) H2) → ta σ H1 Q
theorem er_nil : EvR K tNil σ H [] := fun H1 _ _ q => q [] H1 (Ex.refl H1) .nil
theorem er_cons (h : EvU te σ H xs) (hr : EvR K ta σ H l) : EvR K (tCons te ta) σ H (xs :: l) := fun H1 e _ q => h H1 e _ fun p H2 _ e2 hp => hr H2 (e.trans e2) _ fun ts H3 e3 ht => q (p :: ts) H3 (e2.trans e3) (.cons (st_of (e3 p _ hp)) ht)
theorem paired_len {α β : Type} {F : α → β → Prop} : ∀ {a : List α} {b : List β}, Paired F a b → a.length = b.length
  | _, _, .nil => rfl
  | _, _, .cons _ r => congrArg (· + 1) (paired_len r)
theorem paired_app {α β : Type} {F : α → β → Prop} : ∀ {a c : List α} {b d : List β}, Paired F a b → Paired F c d → Paired F (a ++ c) (b ++ d)
  | _, _, _, _, .nil, h => h
  | _, _, _, _, .cons x r, h => .cons x (paired_app r h)
theorem u2_lst (h : EvR K ta σ H l) (hz : l.length ≤ 100000) : EvU2 K (tLst ta) σ H l := fun H1 e Q q =>
  h H1 e _ fun ts H2 e2 ht => ⟨sz_of (by rw [List.length_map, paired_len ht]; exact hz), fun p np => q p _ (fresh_back e2 np) (e2.trans (Ex.new np)) ⟨ts, upd_same, tups_mono (fun _ _ => ex_t (Ex.new np)) ht⟩⟩
theorem u2_cat (ha : Ev te σ H (.ref p)) (h : IsLU K H p l) (hb : EvU2 K tb σ H l2) (hz : l.length + l2.length ≤ 100000) : EvU2 K (tOp rCat te tb) σ H (l ++ l2) := fun H1 e Q q =>
  ha H1 e _ fun H2 e2 => hb H2 (e.trans e2) _ fun r H3 _ e3 hr => by
    obtain ⟨ts, h1, h2⟩ := h.ex ((e.trans e2).trans e3)
    obtain ⟨us, h3, h4⟩ := hr
    exact ⟨p, r, _, _, rfl, rfl, h1, h3, by rw [List.length_map, List.length_map, paired_len h2, paired_len h4]; exact sz_of hz, fun z nz =>
      q z _ (fresh_back (e2.trans e3) nz) ((e2.trans e3).trans (Ex.new nz)) ⟨ts ++ us, by rw [upd_same, List.map_append], tups_mono (fun _ _ => ex_t (Ex.new nz)) (paired_app h2 h4)⟩⟩
/-! ## pairs of a text and a bool -/
def pb (l : List (Tx × Bool)) : List (List V) := l.map fun q => [vs q.1, V.bl q.2]
theorem pb_app (a b : List (Tx × Bool)) : pb (a ++ b) = pb a ++ pb b := List.map_append
/-- the words that fit -/
def fit (l : List (Tx × Bool)) : List Tx := (l.filter (·.2)).map (·.1)
theorem fit_snoc (l : List (Tx × Bool)) (q : Tx × Bool) : fit (l ++ [q]) = fit l ++ (if q.2 = true then [q.1] else []) := by
  unfold fit
  rw [List.filter_append, List.map_append]
  congr 1
  cases h : q.2
  · rw [List.filter_cons, h]
    rfl
  · rw [List.filter_cons, h]
    rfl
theorem fit_le (l : List (Tx × Bool)) : (fit l).length ≤ l.length := by
  unfold fit
  rw [List.length_map]
  exact List.length_filter_le _ _
theorem tup_at {ts : List Addr} {i : Nat} {x : V} : ∀ {l : List (List V)} {i : Nat} {ts : List Addr}, TupsAt K H ts l → (ts.map V.ref)[i]? = some x → ∃ t q, x = .ref t ∧ l[i]? = some q ∧ SqT K H t q
  | _, i, _, .nil, h => by simp at h
  | _, 0, _, .cons (a := t) (b := q) a r, h => by
    simp only [List.map_cons, List.getElem?_cons_zero, Option.some.injEq] at h
    exact ⟨t, q, h.symm, rfl, a⟩
  | _, i + 1, _, .cons (a := t) (b := q) a r, h => by
    simp only [List.map_cons, List.getElem?_cons_succ] at h
    obtain ⟨t2, q2, e, e2, f⟩ := tup_at (ts := ts) (i := i) r h
    exact ⟨t2, q2, e, by rw [List.getElem?_cons_succ]; exact e2, f⟩
/-- [word for word, fits in some if fits] -/
theorem l_fit {m : List (Tx × Bool)} {i j : Nat} {ws : List Nat} (h : Ev td σ H (.ref p)) (hp : IsLU K H p (pb m)) (hz : m.length ≤ 40000)
    (hw : ∀ w b, wipe (((wipe σ ws).set i (some w)).set j (some b)) ws = wipe σ ws) (hi : ∀ w b, (((wipe σ ws).set i (some w)).set j (some b))[i]? = some (some w)) (hj : ∀ w b, (((wipe σ ws).set i (some w)).set j (some b))[j]? = some (some b)) :
    EvL (tLc (iList K td) (gTup K 2 (gCons (gName i) (gCons (gName j) gNil))) (tB (tVar j)) (tVar i) ws) σ H ((fit m).map vs) := fun H0 e0 Q q => h H0 e0 _ fun H1 e1 => by
  obtain ⟨ts, h1, h2⟩ := (hp.ex (e0.trans e1)).sq
  refine ⟨p, rfl, ⟨_, h1⟩, fun D hD => ?_⟩
  have hlen : ts.length = m.length := by
    rw [paired_len h2]
    exact List.length_map _
  have hDp : D ≠ p := fun z => by
    obtain ⟨us, a, _⟩ := hp.ex (e0.trans e1)
    rw [← z, hD] at a
    cases a
  refine lc_list (xs := ts.map V.ref) (fun n H2 => n ≤ m.length ∧ ∃ H3, Ex H1 H3 ∧ H3 D = none ∧ H2 = upd H3 D (.lst ((fit (m.take n)).map vs))) ⟨Nat.zero_le _, H1, Ex.refl H1, hD, rfl⟩ (fun n H2 _ hI => ?_) (fun n x H2 hx hI => ?_) (fun H2 hI => ?_)
  · obtain ⟨_, H3, e3, n3, rfl⟩ := hI
    exact ex_l (e3.trans (Ex.new n3)) h1
  · obtain ⟨hn, H3, e3, n3, rfl⟩ := hI
    obtain ⟨t, y, rfl, hy, ht⟩ := tup_at (ts := ts) (i := n) h2 hx
    have hlt : n < m.length := by
      have := (List.getElem?_eq_some_iff.mp hx).1
      rw [List.length_map, hlen] at this
      exact this
    have ey : y = [vs (m[n]).1, V.bl (m[n]).2] := by
      unfold pb at hy
      rw [List.getElem?_map, List.getElem?_eq_getElem hlt] at hy
      exact (Option.some.inj hy).symm
    subst ey
    have hs : fit (m.take (n + 1)) = fit (m.take n) ++ (if (m[n]).2 = true then [(m[n]).1] else []) := by
      rw [List.take_add_one, List.getElem?_eq_getElem hlt]
      exact fit_snoc _ _
    refine ⟨t, _, rfl, ex_t (e3.trans (Ex.new n3)) ht, rfl, _, _, rfl, _, _, rfl, ⟨rfl, ?_⟩⟩
    refine ⟨hw _ _, _, hj _ _, (m[n]).2, rfl, ?_⟩
    cases hb : (m[n]).2 with
    | false =>
      rw [if_neg Bool.false_ne_true]
      rw [hb, if_neg Bool.false_ne_true, List.append_nil] at hs
      exact ⟨hlt, H3, e3, n3, by rw [hs]⟩
    | true =>
      rw [if_pos rfl]
      rw [hb, if_pos rfl] at hs
      refine ⟨_, hi _ _, _, upd_same, ?_, hlt, H3, e3, n3, ?_⟩
      · rw [List.length_map]
        have h5 := fit_le (m.take n)
        rw [List.length_take] at h5
        exact sz_lt (by omega)
      · rw [upd_upd, hs, List.map_append]
        rfl
  · obtain ⟨_, H3, e3, n3, rfl⟩ := hI
    rw [List.length_map, hlen, List.take_length]
    exact q D _ (fresh_back e1 hD) (e1.trans (e3.trans (Ex.new n3))) upd_same
end
/-! ## defs that raise: the class is told by a number -/
inductive Res (α : Type) where
  | ok (a : α) : Res α
  | exc (k : Nat) : Res α
def RetX (Cs : Nat → Addr) (k : Nat) (H : Hp) (E : XK) : Prop := ∀ H2, Ex H H2 → E (.ref (Cs k)) none H2
def PX {α : Type} (Cs : Nat → Addr) (Rp : α → Hp → VK → Prop) (r : Res α) (H : Hp) (Q : VK) (E : XK) : Prop := (∀ a, r = .ok a → Rp a H Q) ∧ ∀ k, r = .exc k → RetX Cs k H E
def spX {α : Type} (Cs : Nat → Addr) (Rp : α → Hp → VK → Prop) (R : List V → Hp → Res α → Prop) : Sp := fun ws H Q E => ∃ r, R ws H r ∧ PX Cs Rp r H Q E
section
variable {α S : Type} {Cs : Nat → Addr} {Rp : α → Hp → VK → Prop} {H : Hp} {Q : VK} {E : XK}
theorem retX_T {b : Bool} {x y : Res α} (k : PX Cs Rp (if b = true then x else y) H Q E) (hb : b = true) : PX Cs Rp x H Q E := by
  rw [if_pos hb] at k
  exact k
theorem retX_F {b : Bool} {x y : Res α} (k : PX Cs Rp (if b = true then x else y) H Q E) (hb : b = false) : PX Cs Rp y H Q E := by
  rw [if_neg (by rw [hb]; exact Bool.false_ne_true)] at k
  exact k
theorem retX_run {o : Stp S (Res α)} {g : S → Res α} {r : Res α} (k : PX Cs Rp (aftL o g) H Q E) (h : o = .ret r) : PX Cs Rp r H Q E := by
  rw [h] at k
  exact k
theorem retX_go {o : Stp S (Res α)} {g : S → Res α} {s : S} (k : PX Cs Rp (aftL o g) H Q E) (h : o = .go s ∨ o = .brk s) : PX Cs Rp (g s) H Q E := by
  rcases h with h | h
  · rw [h] at k
    exact k
  · rw [h] at k
    exact k
theorem PX.exc {k : Nat} {H2 : Hp} (p : PX Cs Rp (.exc k) H Q E) (e : Ex H H2) : E (.ref (Cs k)) none H2 := p.2 k rfl H2 e
theorem PX.ret {a : α} (p : PX Cs Rp (.ok a) H Q E) : Rp a H Q := p.1 a rfl
end
/-- what a class that is raised must say -/
structure ErrR (K : PySem.W.Frag) (Cs : Nat → Addr) (k : Nat) : Prop where
  x : PySem.W.excIn K (Cs k) [.type "ValueError", .type "Exception", .type "BaseException", .type "object"] "ValueError.__new__" = true
  kp : PySem.W.keepIn K (.ref (Cs k)) = true
  b : PySem.W.subIn K (.ref (Cs k)) (.type "BaseException") = some true
  t : PySem.W.typeIn K (.ref (Cs k)) = some (.type "type")
section
variable {P : Program} {w : World} {K : PySem.W.Frag} {mg : Str → Option Value} {base : Heap}
theorem okN {x qual : Str} {st : Stmt} {f : Addr} {fd : FuncData} {N ps : List Str} {k : Nat} {sp : Sp} (F : Fun K x qual st f fd) (S : FnScope N ps (defScope st)) (len : ∀ vs H Q E, sp vs H Q E → vs.length = ps.length)
    (hb : ∀ (cdv : Value) (A : Around) (outer : List Env) (s : Shared) (H : Hp) (vs : List V) (Q : VK) (E : XK), Room k (A.deeper (envOfC qual (defScope st) s.heap.objs.size f cdv)) → sp vs H Q E →
      ∃ t, PSs (cxOf (L2N.CX P w) P w K mg base N qual (defScope st) f cdv A outer s H E) (defBody st) t ∧ t { nx := fun _ H' => Q .non H', rt := Q } (start N vs) H) : FnOk P w K mg base (L2N.CX P w) (k + 1) f fd ps sp := by
  obtain ⟨oc, od, kV, doc, pm, an, cdv, ct, osl, rfl, lk, hcd⟩ := F.ex
  exact fn_of lk hcd S len fun A outer s H vs Q E hr hsp => hb cdv A outer s H vs Q E hr hsp
structure CalX (P : Program) (w : World) (K : PySem.W.Frag) (mg : Str → Option Value) (base : Heap) (k : Nat) (x : Str) (ps : List Str) (sp : Sp) : Prop where
  ex : ∃ f fd, FnOk P w K mg base (L2N.CX P w) k f fd ps sp ∧ mg x = some (.ref f) ∧ PySem.W.keepIn K (.ref f) = true ∧ Binds K fd ps []
theorem calX_of {k : Nat} {x : Str} {ps : List Str} {sp : Sp} {f : Addr} {fd : FuncData} (F : FnOk P w K mg base (L2N.CX P w) k f fd ps sp) (g : mg x = some (.ref f)) (kp : PySem.W.keepIn K (.ref f) = true) (b : Binds K fd ps []) :
    CalX P w K mg base k x ps sp := ⟨f, fd, F, g, kp, b⟩
theorem pe_calX {X : Cx} {W : WX} {k : Nat} {x : Str} {ps : List Str} {sp : Sp} {e : Expr} {es : List Expr} {t : TA} {p pos : Pos} (C : CalX X.prog X.w X.K X.mg X.base k x ps sp) (tk : L2N.Takes X W) (hr : Room k X.A) (hg : Gl X x) (ha : PA X (e :: es) t)
    (hdb : (x == ("__debug__" : Str)) = false := by decide) (he : starEach (e :: es) X.env = (false, eval e X.env) :: starEach es X.env := by rfl) (hpl : (backTo pos (starEach es X.env)).any (·.1) = false := by rfl) :
    PE X (.Call (.Name x p) (e :: es) [] pos) (tCallS sp (WE W) t) := by
  obtain ⟨f, fd, F, g, kp, b⟩ := C.ex
  exact pe_callS F hr hg g kp b (fun σ => L2N.passAt tk σ) ha hdb he hpl
end
/-- within a def that catches all -/
theorem takesN0 {X : Cx} : L2N.Takes X (fun _ _ _ _ => False) := fun _ _ ⟨_, _, _, _, _, _, _, _, _, _, _, _, _, _, _, _, w⟩ => w.elim
/-- a call that may raise, its answer used -/
theorem x_call {α : Type} {Cs : Nat → Addr} {Rp : α → Hp → VK → Prop} {R : List V → Hp → Res α → Prop} {E : L2.St → XK} {t : TA} {σ : L2.St} {H : Hp} {ws : List V} {r : Res α} {Q : VK} (h : EvA t σ H ws) (hR : ∀ H1, Ex H H1 → R ws H1 r)
    (ho : ∀ a, r = .ok a → ∀ H1, Ex H H1 → Rp a H1 Q) (hx : ∀ k, r = .exc k → ∀ H1, Ex H H1 → E σ (.ref (Cs k)) none H1) : tCallS (spX Cs Rp R) E t σ H Q :=
  h H (Ex.refl H) _ fun H1 e1 => ⟨r, hR H1 e1, fun a e => ho a e H1 e1, fun k e H2 e2 => hx k e H2 (e1.trans e2)⟩
/-- what isinstance asks, the class told by the reading -/
theorem call_isX {X : Cx} (K : PySem.W.Frag) {a : Addr} {oe : Obj} {cls : Value} {d : Option Addr} {pn : List (Addr × Obj)} (hz : L2N.Zn cls d oe) (hf : ∃ vs, oe.data = .fields vs) (hK : X.K = K := by rfl) :
    CallR (X.suite a ((a, oe) :: pn)) (.builtin "isinstance") (fun xs H Q => ∃ (D : Addr) (c : V) (cv : Value) (b : Bool), cls = .ref D ∧ d = none ∧ ExcC K D ∧ xs = [.ref a, c] ∧ (∀ u, RelV c u → u = cv) ∧ PySem.W.kitOne K (.ref D) cv = some b ∧ Q (.bl b) H) := by
  subst hK
  intro pins s σ H xs us Q I r ⟨D, c, cv, b, e1, e2, C, ex, hc, hk, q⟩
  subst e1 e2
  exact call_isE C hz.zc hf pins s σ H xs us Q I r ⟨c, cv, b, ex, hc, hk, q⟩
theorem e_isX {K : PySem.W.Frag} {σ : L2.St} {H : Hp} {ta tb : TE} {cls : Value} {d : Option Addr} {D a : Addr} {c : V} {cv : Value} {b : Bool} (h1 : cls = .ref D) (h2 : d = none) (C : ExcC K D) (ha : Ev ta σ H (.ref a)) (hb : Ev tb σ H c) (hc : ∀ u, RelV c u → u = cv) (hk : PySem.W.kitOne K (.ref D) cv = some b) :
    Ev (tCB (fun xs H Q => ∃ (D : Addr) (c : V) (cv : Value) (b : Bool), cls = .ref D ∧ d = none ∧ ExcC K D ∧ xs = [.ref a, c] ∧ (∀ u, RelV c u → u = cv) ∧ PySem.W.kitOne K (.ref D) cv = some b ∧ Q (.bl b) H) (tCons ta (tCons tb tNil))) σ H (.bl b) := fun H1 e Q q =>
  ha H1 e _ fun H2 e2 => hb H2 (e.trans e2) _ fun H3 e3 => ⟨D, c, cv, b, h1, h2, C, rfl, hc, hk, q H3 (e2.trans e3)⟩
theorem hot_suite {X : Cx} {a : Addr} {oe : Obj} {cls : Value} {d : Option Addr} {pn : List (Addr × Obj)} (hz : L2N.Zn cls d oe) (hf : ∃ vs, oe.data = .fields vs) : L2H.Hot1 (X.suite a ((a, oe) :: pn)).A (a, oe) := by
  obtain ⟨vs, e⟩ := hf
  exact ⟨rfl, vs, e, hz.2.2 vs e⟩
theorem relv_ref {a : Addr} : ∀ u, RelV (.ref a) u → u = .ref a := fun _ h => h
theorem relv_ty {n : String} : ∀ u, RelV (.ty n) u → u = .type n := fun _ h => h
section
variable {K : PySem.W.Frag} {σ : L2.St} {H : Hp} {ta te tb : TE} {p : Tx} {pl pm : Addr}
/-! ## how often a sign stands in a text -/
def rCountT : V → List V → Hp → VK → Prop := fun x xs H Q => ∃ a b, x = .str a ∧ xs = [.str b] ∧ Q (.int (Txt.count a b)) H
theorem pe_countT {X : Cx} {o e : Expr} {to te : TE} {apos pos : Pos} (ho : PE X o to) (he : PE X e te) (hs : starEach [e] X.env = [(false, eval e X.env)] := by rfl) (hbase : attributeBase o "count" X.env (eval o X.env) = eval o X.env := by rfl) (hline : (apos.endLine == pos.line) = true := by rfl) :
    PE X (.Call (.Attribute o "count" apos) [e] [] pos) (tM1 rCountT to te) := pe_m1 PySem.F.slot_str_count PySem.F.type_str_count mt_count ho he hs hbase hline
theorem count_of {c : Nat} (hc : c < 256) (p : Tx) : Txt.count (mk p) (mk [c]) = ((cuts c p).length : Int) - 1 := by
  have h := congrArg List.length (split_of hc p)
  rw [List.length_map, List.length_map] at h
  rw [← h]
  unfold Txt.split Txt.count
  have hk := kind_ok (x := mk p) (y := mk [c]) (by show (#[c] : Array Nat).all (· < 256) = true; simp [hc])
  cases p with
  | nil =>
    rw [if_pos (by rfl)]
    have h3 := StrLaws.found_one (mk []) c
    cases h4 : Builtin.Str.occurrences (mk []) (mk [c]) 0 (mk []).length ((mk []).length + 1) with
    | nil => rfl
    | cons a b =>
      have h5 : Builtin.Str.occurrences (mk []) ⟨#[c]⟩ 0 (mk []).length 1 = a :: b := h4
      rw [h5] at h3
      exact absurd h3 (by simp [mk])
  | cons d r =>
    rw [if_neg (by
      rw [Bool.or_eq_true, decide_eq_true_eq, decide_eq_true_eq]
      rintro (z | z)
      · rw [len_of, len_of] at z
        simp at z
      · exact hk z)]
    split
    · rename_i z
      rw [List.isEmpty_iff.mp z]
      rfl
    · rw [PySem.length_partsBetween]
      omega
theorem e_count {c : Nat} (ha : Ev ta σ H (vs p)) (hb : Ev te σ H (vs [c])) (hc : c < 256) : Ev (tM1 rCountT ta te) σ H (.int (((cuts c p).length : Int) - 1)) := fun H1 e Q k =>
  ha H1 e _ fun H2 e2 => ⟨⟨mk p, rfl⟩, hb H2 (e.trans e2) _ fun H3 e3 => ⟨mk p, mk [c], rfl, rfl, by rw [count_of hc]; exact k H3 (e2.trans e3)⟩⟩
/-- two own lists laid together -/
theorem l_catRR {β : Type} {g : β → V} {m1 m2 : List β} (ha : Ev ta σ H (.ref pl)) (h1 : H pl = some (.lst (m1.map g))) (hb : Ev tb σ H (.ref pm)) (h2 : H pm = some (.lst (m2.map g))) (hz : m1.length + m2.length ≤ 100000) : EvL (tOp rCat ta tb) σ H ((m1 ++ m2).map g) := fun H1 e Q q =>
  ha H1 e _ fun H2 e2 => hb H2 (e.trans e2) _ fun H3 e3 => ⟨pl, pm, m1.map g, m2.map g, rfl, rfl, ((e.trans e2).trans e3) pl _ h1, ((e.trans e2).trans e3) pm _ h2, by rw [List.length_map, List.length_map]; exact sz_of hz, fun r nr =>
    q r _ (fresh_back (e2.trans e3) nr) ((e2.trans e3).trans (Ex.new nr)) (by rw [upd_same, List.map_append])⟩
end
/-! ## the classes of errors, by number: 0 the base of all -/
structure ErrG (mg : Str → Option Value) (Cs : Nat → Addr) : Prop where
  g0 : mg "RoadError" = some (.ref (Cs 0))
  g1 : mg "NoPath" = some (.ref (Cs 1))
  g2 : mg "NoFile" = some (.ref (Cs 2))
  g3 : mg "InTheWay" = some (.ref (Cs 3))
  g4 : mg "NoClash" = some (.ref (Cs 4))
  g5 : mg "Clashed" = some (.ref (Cs 5))
  g6 : mg "NoVersion" = some (.ref (Cs 6))
  g7 : mg "SameVersion" = some (.ref (Cs 7))
/-- of a class that is raised -/
structure ErrC (K : PySem.W.Frag) (Cs : Nat → Addr) (k : Nat) : Prop where
  ec : ExcC K (Cs k)
  ex0 : PySem.W.exmOne K (.ref (Cs k)) (.ref (Cs 0)) = some true
  is : ∀ j < 8, PySem.W.kitOne K (.ref (Cs k)) (.ref (Cs j)) = some (decide (j = 0 ∨ j = k))
  ve : PySem.W.kitOne K (.ref (Cs k)) (.type "ValueError") = some true
def cs8 (C0 C1 C2 C3 C4 C5 C6 C7 : Addr) : Nat → Addr
  | 0 => C0
  | 1 => C1
  | 2 => C2
  | 3 => C3
  | 4 => C4
  | 5 => C5
  | 6 => C6
  | _ => C7
/-- what is promised of a told call: the word and the answer, or the error's word and True -/
def RetT (lMade : Tx) (word : Nat → Tx) (r : Res (List (Tx × Tx))) (H : Hp) (Q : VK) : Prop :=
  (∀ l, r = .ok l → ∀ p d H2, H p = none → H d = none → p ≠ d → Ex H H2 → H2 p = some (.tup [vs lMade, .ref d]) → H2 d = some (.dK (kd vs l)) → Q (.ref p) H2) ∧
  ∀ k, r = .exc k → ∀ p H2, H p = none → Ex H H2 → H2 p = some (.tup [vs (word k), .bl true]) → Q (.ref p) H2
def spTold (lMade : Tx) (word : Nat → Tx) (R : List V → Hp → Res (List (Tx × Tx)) → Prop) : Sp := fun ws H Q _ => ∃ r, R ws H r ∧ RetT lMade word r H Q
section
variable {X : Cx} {K : PySem.W.Frag} {σ : L2.St} {H : Hp} {ta tb : TE} {pl a b : Addr} {i : Int}
/-! ## tuples, by place; dicts that are alike -/
theorem ix_tupK (K : PySem.W.Frag) (h : X.K = K := by rfl) : IxR X (rIxT K) := h ▸ ix_tup
theorem e_ixU {α : Type} {f : α → V} {l : List α} (d : α) (h : Ev ta σ H (.ref pl)) (hS : SqT K H pl (l.map f)) (hb : Ev tb σ H (.int i)) (hi : 0 ≤ i ∧ i < l.length) : Ev (tOp (rIxT K) ta tb) σ H (f (l.getD i.toNat d)) := ev_op h hb (rv_ixT hS (atI_get f l d hi.1 hi.2))
theorem e_ixV {xs : List V} {v : V} (h : Ev ta σ H (.ref pl)) (hS : H pl = some (.tup xs)) (hb : Ev tb σ H (.int i)) (hv : atI xs i = some v) : Ev (tOp (rIxT K) ta tb) σ H v := ev_op h hb (rv_ixT (st_of hS) hv)
/-- the same files -/
def dsame (l m : List (Tx × Tx)) : Prop := l.length = m.length ∧ ∀ q ∈ l, dget m q.1 = some q.2
theorem dsame_kd {l m : List (Tx × Tx)} (h : dsame l m) : (kd vs l).length = (kd vs m).length ∧ ∀ p ∈ kd vs l, valV (kd vs m) p.1 = some p.2 ∧ flatB p.2 = true := by
  refine ⟨by rw [kd_len, kd_len]; exact h.1, fun p hp => ?_⟩
  obtain ⟨q, hq, rfl⟩ := List.mem_map.mp hp
  refine ⟨?_, rfl⟩
  show valV (kd vs m) (ky q.1) = _
  rw [kd_get, h.2 q hq]
  rfl
theorem dsame_refl {l : List (Tx × Tx)} (h : (dkeys l).Nodup) : dsame l l := ⟨rfl, fun q hq => get_of h hq⟩
theorem e_eqDD {l m : List (Tx × Tx)} (ha : Ev ta σ H (.ref a)) (hb : Ev tb σ H (.ref b)) (h1 : H a = some (.dK (kd vs l))) (h2 : H b = some (.dK (kd vs m))) (h : dsame l m) : Ev (tOp rEqDA ta tb) σ H (.bl true) := fun H1 e Q q =>
  ha H1 e _ fun H2 e2 => hb H2 (e.trans e2) _ fun H3 e3 => ⟨a, b, _, _, rfl, rfl, ((e.trans e2).trans e3) a _ h1, ((e.trans e2).trans e3) b _ h2, (dsame_kd h).1, (dsame_kd h).2, q H3 (e2.trans e3)⟩
theorem e_neDD {l m : List (Tx × Tx)} (ha : Ev ta σ H (.ref a)) (hb : Ev tb σ H (.ref b)) (h1 : H a = some (.dK (kd vs l))) (h2 : H b = some (.dK (kd vs m))) (h : dsame l m) : Ev (tOp rNeDA ta tb) σ H (.bl false) := fun H1 e Q q =>
  ha H1 e _ fun H2 e2 => hb H2 (e.trans e2) _ fun H3 e3 => ⟨a, b, _, _, rfl, rfl, ((e.trans e2).trans e3) a _ h1, ((e.trans e2).trans e3) b _ h2, (dsame_kd h).1, (dsame_kd h).2, q H3 (e2.trans e3)⟩
end
section
variable {K : PySem.W.Frag} {σ : L2.St} {H : Hp} {ta tb te : TE} {D : Ends} {tz : TS} {α : Type}
theorem eu_is {a b : List V} (h : EvU te σ H a) (e : a = b) : EvU te σ H b := e ▸ h
theorem e_isB {a b : Bool} (ha : Ev ta σ H (.bl a)) (hb : Ev tb σ H (.bl b)) : Ev (tOp rIsB ta tb) σ H (.bl (decide (a = b))) := fun H1 e Q q =>
  ha H1 e _ fun H2 e2 => hb H2 (e.trans e2) _ fun H3 e3 => ⟨a, b, rfl, rfl, q H3 (e2.trans e3)⟩
/-- by the answer's kind -/
def resM {β : Type} (r : Res α) (g : α → β) (x : Nat → β) : β := match r with
  | .ok a => g a
  | .exc k => x k
theorem ret_ok {β : Type} {f : β → V} {r : Res α} {g : α → β} {x : Nat → β} {a : α} {Q : VK} (k : RetV (f (resM r g x)) H Q) (h : r = .ok a) : RetV (f (g a)) H Q := by
  rw [h] at k
  exact k
theorem ret_exc {β : Type} {f : β → V} {r : Res α} {g : α → β} {x : Nat → β} {n : Nat} {Q : VK} (k : RetV (f (resM r g x)) H Q) (h : r = .exc n) : RetV (f (x n)) H Q := by
  rw [h] at k
  exact k
/-- found = told(..) -/
theorem q_told {lMade : Tx} {word : Nat → Tx} {R : List V → Hp → Res (List (Tx × Tx)) → Prop} {t : TA} {E : XK} {i : Nat} {ws : List V} {r : Res (List (Tx × Tx))} (h : EvA t σ H ws) (hR : ∀ H1, Ex H H1 → R ws H1 r)
    (ho : ∀ l, r = .ok l → ∀ p d H2, H p = none → H d = none → p ≠ d → Ex H H2 → H2 p = some (.tup [vs lMade, .ref d]) → H2 d = some (.dK (kd vs l)) → tz D (σ.set i (some (.ref p))) H2)
    (hx : ∀ k, r = .exc k → ∀ p H2, H p = none → Ex H H2 → H2 p = some (.tup [vs (word k), .bl true]) → tz D (σ.set i (some (.ref p))) H2) : tSeq (tAsg (tCall (spTold lMade word R) [] E t) (gName i)) tz D σ H :=
  h H (Ex.refl H) _ fun H1 e1 => ⟨r, by rw [List.append_nil]; exact hR H1 e1, fun l e p d H2 np nd ne e2 hp hd => ho l e p d H2 (fresh_back e1 np) (fresh_back e1 nd) ne (e1.trans e2) hp hd, fun k e p H2 np e2 hp => hx k e p H2 (fresh_back e1 np) (e1.trans e2) hp⟩
end
section
variable {K : PySem.W.Frag} {D C : Addr}
theorem kit_b {b : Bool} (i : PySem.W.isClsIn K C = true) (t : PySem.W.typeIn K (.ref C) = some (.type "type")) (s : PySem.W.subIn K (.ref D) (.ref C) = some b) : PySem.W.kitCls K (.ref D) (.ref C) = some b := by
  unfold PySem.W.kitCls
  show (if ((PySem.W.clsIn K C).isSome && PySem.W.typeIn K (.ref C) == some (.type "type")) = true then _ else none) = _
  have i2 : (PySem.W.clsIn K C).isSome = true := i
  rw [i2, t, if_pos (by rfl)]
  exact s
theorem kit_t (i : PySem.W.isClsIn K C = true) (t : PySem.W.typeIn K (.ref C) = some (.type "type")) (s : PySem.W.subIn K (.ref D) (.ref C) = some true) : PySem.W.kitOne K (.ref D) (.ref C) = some true := by
  unfold PySem.W.kitOne
  split
  · rfl
  · exact kit_b i t s
theorem kit_f (i : PySem.W.isClsIn K C = true) (t : PySem.W.typeIn K (.ref C) = some (.type "type")) (s : PySem.W.subIn K (.ref D) (.ref C) = some false) (r : PySem.W.subIn K (.ref D) (.ref D) = some true) : PySem.W.kitOne K (.ref D) (.ref C) = some false := by
  unfold PySem.W.kitOne
  split
  · rename_i h
    have e : Value.ref D = Value.ref C := by simpa using h
    rw [← e, r] at s
    cases s
  · exact kit_b i t s
theorem exm_t (b : PySem.W.subIn K (.ref C) (.type "BaseException") = some true) (i : PySem.W.isClsIn K C = true) (t : PySem.W.typeIn K (.ref C) = some (.type "type")) (s : PySem.W.subIn K (.ref D) (.ref C) = some true) : PySem.W.exmOne K (.ref D) (.ref C) = some true := by
  unfold PySem.W.exmOne
  rw [b, if_pos (by rfl)]
  exact kit_b i t s
theorem kit_ve (s : PySem.W.subIn K (.ref D) (.type "ValueError") = some true) : PySem.W.kitOne K (.ref D) (.type "ValueError") = some true := by
  unfold PySem.W.kitOne
  split
  · rfl
  · unfold PySem.W.kitCls
    show (if PySem.W.kitMeta "ValueError" = true then _ else none) = _
    rw [if_pos (by decide +kernel)]
    exact s
end
end Vf

/-! Own layer: comprehensions over dicts, two clauses, defs that give lists of tuples, messages. -/
namespace Vf
open PySem PySem.Spec PyProof.Rows L2 TL Evl
/-! ## the heap while a dict is walked -/
structure Lk (H : Hp) (d : Addr) (kvs : List (Key × V)) (HL : Hp) : Prop where
  at_ : ∃ o, (H d = some (.dK kvs) ∨ H d = some (.frz o (.dK kvs))) ∧ HL d = some (.frz o (.dK kvs))
  kp : ∀ b u, b ≠ d → H b = some u → HL b = some u
section
variable {H HL H1 H2 : Hp} {d p : Addr} {kvs : List (Key × V)} {K : PySem.W.Frag}
theorem Lk.rx (h : Lk H d kvs HL) : RX H HL := fun a u r => by
  by_cases ha : a = d
  · subst ha
    obtain ⟨o, h1, h2⟩ := h.at_
    rcases h1 with h1 | h1
    · rcases r with r | ⟨o2, r⟩
      · rw [h1] at r
        cases r
        exact Or.inr ⟨o, h2⟩
      · rw [h1] at r
        cases r
    · rcases r with r | ⟨o2, r⟩
      · rw [h1] at r
        cases r
        exact Or.inl h2
      · rw [h1] at r
        cases r
        exact Or.inr ⟨o, h2⟩
  · rcases r with r | ⟨o2, r⟩
    · exact Or.inl (h.kp a _ ha r)
    · exact Or.inr ⟨o2, h.kp a _ ha r⟩
theorem Lk.rd (h : Lk H d kvs HL) : Rd HL d (.dK kvs) := by
  obtain ⟨o, _, h2⟩ := h.at_
  exact Or.inr ⟨o, h2⟩
theorem Lk.keep (h : Lk H d kvs HL) {o : HO} (hne : p ≠ d) (e : H p = some o) : HL p = some o := h.kp p o hne e
theorem Lk.ex (h : Lk H d kvs HL) (e : Ex HL H2) : Lk H d kvs H2 := by
  obtain ⟨o, a, b⟩ := h.at_
  exact ⟨⟨o, a, e d _ b⟩, fun x u hx hu => e x _ (h.kp x u hx hu)⟩
theorem Lk.back (e : Ex H H1) (hd : Rd H d (.dK kvs)) (h : Lk H1 d kvs HL) : Lk H d kvs HL := by
  obtain ⟨o, a, b⟩ := h.at_
  refine ⟨⟨o, ?_, b⟩, fun x u hx hu => h.kp x u hx (e x u hu)⟩
  rcases hd with hd | ⟨o2, hd⟩
  · exact Or.inl hd
  · have h3 := e d _ hd
    rcases a with a | a
    · rw [h3] at a
      cases a
    · rw [h3] at a
      cases a
      exact Or.inr hd
theorem Lk.sqt (h : Lk H d kvs HL) {t : Addr} {q : List V} (s : SqT K H t q) : SqT K HL t q := rx_t h.rx s
theorem Lk.lu (h : Lk H d kvs HL) {l : List (List V)} (s : IsLU K H p l) : IsLU K HL p l := by
  obtain ⟨ts, a, b⟩ := s
  have hne : p ≠ d := fun z => by
    subst z
    obtain ⟨o, c, _⟩ := h.at_
    rcases c with c | c <;> (rw [a] at c; cases c)
  exact ⟨ts, h.kp p _ hne a, tups_mono (fun _ _ => h.sqt) b⟩
/-- under the walk's lock, or under one that is there already -/
def tMayE (t : TE) : TE := fun σ H Q => t σ H Q ∨ tLockE t σ H Q
theorem pe_may {X : Cx} {e : Expr} {t : TE} (h : PE X e t) : PE X e (tMayE t) := by
  refine ⟨fun pins s σ H Q I hw => ?_⟩
  rcases hw with hw | hw
  · exact h.run pins s σ H Q I hw
  · exact (pe_lock h).run pins s σ H Q I hw
theorem may_of {σ : L2.St} {t : TE} {Q : VK} {P : Addr → Hp → Prop} (hd : Rd H1 d (.dK kvs))
    (ht : ∀ o HB Q2, Lk H1 d kvs HB → HB d = some (.frz o (.dK kvs)) → (∀ D H', HB D = none → Ex HB H' → P D H' → Q2 (.ref D) H') → t σ HB Q2)
    (hP : ∀ o D H', D ≠ d → H' d = some (.frz o (.dK kvs)) → P D H' → P D (upd H' d (.dK kvs)))
    (q : ∀ D H2, H1 D = none → Ex H1 H2 → P D H2 → Q (.ref D) H2) : tMayE t σ H1 Q := by
  rcases hd with h | ⟨o, h⟩
  · refine Or.inr ⟨d, .dK kvs, h, trivial, fun od => ht od (upd H1 d (.frz od (.dK kvs))) _ ⟨⟨od, Or.inl h, upd_same⟩, fun b u hb hu => upd_keep hb hu⟩ upd_same fun D H' hD e hp => ?_⟩
    have ne : D ≠ d := fun z => by
      subst z
      rw [upd_same] at hD
      cases hD
    have hD2 : H1 D = none := by
      rw [upd_ne ne] at hD
      exact hD
    refine ⟨e d _ upd_same, q D _ hD2 (fun b u hu => ?_) (hP od D H' ne (e d _ upd_same) hp)⟩
    by_cases hb : b = d
    · subst hb
      rw [h] at hu
      cases hu
      exact upd_same
    · exact upd_keep hb (e b u (upd_keep hb hu))
  · exact Or.inl (ht o H1 Q ⟨⟨o, Or.inr h, h⟩, fun b u _ hu => hu⟩ h q)
end
section
variable {K : PySem.W.Frag} {σ : L2.St} {H : Hp} {ta tb te tl' tin : TE} {t t1 : TT} {α β : Type} {f : α → V} {f2 : β → V} {l : List (Tx × α)} {d : Addr} {i jx jy : Nat} {ws ws1 : List Nat} {D : Ends} {tz : TS}
/-! ## comprehensions over the keys of a dict -/
theorem key_at {k : Nat} {kk : Key} {v : V} (h : (kd f l)[k]? = some (kk, v)) : k < (dkeys l).length ∧ kV kk = vs ((dkeys l).getD k []) ∧ (dkeys l).getD k [] ∈ dkeys l := by
  unfold kd at h
  rw [List.getElem?_map] at h
  cases e : l[k]? with
  | none =>
    rw [e] at h
    cases h
  | some y =>
    rw [e] at h
    have e2 : (dkeys l)[k]? = some y.1 := by
      unfold dkeys
      rw [List.getElem?_map, e]
      rfl
    have e3 : (dkeys l).getD k [] = y.1 := by
      rw [List.getD_eq_getElem?_getD, e2]
      rfl
    have e4 : (ky y.1, f y.2) = (kk, v) := Option.some.inj h
    refine ⟨(List.getElem?_eq_some_iff.mp e2).1, ?_, ?_⟩
    · rw [e3]
      have e5 : ky y.1 = kk := congrArg Prod.fst e4
      rw [← e5]
      rfl
    · rw [e3]
      exact List.mem_of_getElem? e2
theorem l_filK (c : Tx → Bool) (g : Tx → β) (hσ : σ[i]? = some (some (.ref d))) (hd : Rd H d (.dK (kd f l))) (hz : l.length ≤ 40000)
    (ht : ∀ y ∈ dkeys l, ∀ HL, Lk H d (kd f l) HL → EvT t ((wipe σ ws).set jx (some (vs y))) HL (c y))
    (he : ∀ y ∈ dkeys l, ∀ HL, Lk H d (kd f l) HL → c y = true → Ev te ((wipe σ ws).set jx (some (vs y))) HL (f2 (g y)))
    (hw : ∀ w, wipe ((wipe σ ws).set jx (some w)) ws = wipe σ ws := by exact fun _ => rfl) :
    EvL (tMayE (tLc (iKeys (tVar i)) (gName jx) t te ws)) σ H ((((dkeys l).filter c).map g).map f2) := fun H1 e Q q => by
  refine may_of (P := fun D H' => H' D = some (.lst ((((dkeys l).filter c).map g).map f2))) (ex_rd e hd) (fun o HB Q2 lk hB q2 => ?_) (fun o D H' ne _ hp => upd_keep ne hp) (fun D H2 n e2 h2 => q D H2 n e2 h2)
  have lk0 := Lk.back e hd lk
  have hlen : (dkeys l).length = l.length := List.length_map _
  refine ⟨.ref d, hσ, d, o, rfl, Or.inl ⟨kd f l, hB, fun Dl hD => ⟨fun k m H2 => m = l.length - k ∧ k ≤ l.length ∧ Cw HB (fun k => c ((dkeys l).getD k [])) (fun k => f2 (g ((dkeys l).getD k []))) Dl k H2, ⟨l.length, by simp, Nat.zero_le _, hD, Ex.new hD, upd_same⟩, fun k m H2 hW => ?_⟩⟩⟩
  obtain ⟨rfl, hk, hC⟩ := hW
  by_cases hlt : k < l.length
  · refine Or.inr ⟨⟨hC.2.1 d _ hB, by rw [kd_len]; exact hlt⟩, fun H3 => Cw HB (fun k => c ((dkeys l).getD k [])) (fun k => f2 (g ((dkeys l).getD k []))) Dl (k + 1) H3, fun H3 h3 => ⟨l.length - (k + 1), by omega, rfl, hlt, h3⟩, fun w H3 hy => ?_⟩
    obtain ⟨rfl, kk, vv, hkv, rfl⟩ := hy
    obtain ⟨_, ek, hm⟩ := key_at hkv
    rw [ek]
    exact ⟨hw _, cw_turn hC (by omega) (ht _ hm HB lk0) (fun hc => he _ hm HB lk0 hc)⟩
  · have ek : k = l.length := by omega
    subst ek
    have h3 := hC.2.2
    rw [← hlen, given_filter] at h3
    exact Or.inl ⟨⟨hC.2.1 d _ hB, by rw [kd_len]; exact Nat.le_refl _⟩, q2 Dl H2 hC.1 hC.2.1 h3⟩
theorem filt_yes {α : Type} (l : List α) : l.filter (fun _ => true) = l := List.filter_eq_self.mpr fun _ _ => rfl
theorem et_yes : EvT tYes σ H true := fun H1 _ Q k => k H1 (Ex.refl H1)
theorem l_mapK (g : Tx → β) (hσ : σ[i]? = some (some (.ref d))) (hd : Rd H d (.dK (kd f l))) (hz : l.length ≤ 40000)
    (he : ∀ y ∈ dkeys l, ∀ HL, Lk H d (kd f l) HL → Ev te ((wipe σ ws).set jx (some (vs y))) HL (f2 (g y)))
    (hw : ∀ w, wipe ((wipe σ ws).set jx (some w)) ws = wipe σ ws := by exact fun _ => rfl) :
    EvL (tMayE (tLc (iKeys (tVar i)) (gName jx) tYes te ws)) σ H (((dkeys l).map g).map f2) := by
  have h := l_filK (t := tYes) (fun _ => true) g hσ hd hz (fun _ _ _ _ => et_yes) (fun y hy HL lk _ => he y hy HL lk) hw
  rw [filt_yes] at h
  exact h
/-- over a new list -/
theorem l_filN {γ : Type} {f : γ → V} {m : List γ} (c : γ → Bool) (g : γ → β) (dv : γ) (h : EvL tl' σ H (m.map f)) (hz : m.length ≤ 40000)
    (ht : ∀ y ∈ m, EvT t ((wipe σ ws).set jx (some (f y))) H (c y)) (he : ∀ y ∈ m, c y = true → Ev te ((wipe σ ws).set jx (some (f y))) H (f2 (g y)))
    (hw : ∀ w, wipe ((wipe σ ws).set jx (some w)) ws = wipe σ ws := by exact fun _ => rfl) :
    EvL (tLc (iList K tl') (gName jx) t te ws) σ H (((m.filter c).map g).map f2) := by
  have q := el_lcNL (K := K) (t := t) (te := te) (fun k => c (m.getD k dv)) (fun k => f2 (g (m.getD k dv))) h (by rw [List.length_map]; exact hz) hw (fun k w H1 e hk => by
    obtain ⟨hm, ew⟩ := map_at dv hk
    rw [ew]
    exact (ht _ hm).mono e) (fun k w H1 e hk hc => by
    obtain ⟨hm, ew⟩ := map_at dv hk
    rw [ew]
    exact (he _ hm hc).mono e)
  rw [List.length_map, given_filter] at q
  exact q
theorem l_mapN {γ : Type} {f : γ → V} {m : List γ} (g : γ → β) (dv : γ) (h : EvL tl' σ H (m.map f)) (hz : m.length ≤ 40000)
    (he : ∀ y ∈ m, Ev te ((wipe σ ws).set jx (some (f y))) H (f2 (g y)))
    (hw : ∀ w, wipe ((wipe σ ws).set jx (some w)) ws = wipe σ ws := by exact fun _ => rfl) :
    EvL (tLc (iList K tl') (gName jx) tYes te ws) σ H ((m.map g).map f2) := by
  have q := l_filN (K := K) (t := tYes) (fun _ => true) g dv h hz (fun _ _ => et_yes) (fun y hy _ => he y hy) hw
  rw [filt_yes] at q
  exact q
theorem cr_anyK {X : Cx} (K : PySem.W.Frag) (hc : X.calm = true) (h : X.K = K := by rfl) : CallR X (.builtin "any") (rAny K) := h ▸ cr_any hc
theorem e_any {m : List Bool} (h : EvL ta σ H (m.map V.bl)) : Ev (tCB (rAny K) (tCons ta tNil)) σ H (.bl (m.any id)) := fun H1 e Q q =>
  h H1 e _ fun p H2 _ e2 hp => ⟨p, m, rfl, sq_of hp, q H2 e2⟩
/-! ## a list of tuples that grows -/
def Tw (K : PySem.W.Frag) (HB : Hp) (Dl : Addr) (ls : List (List V)) (H' : Hp) : Prop := HB Dl = none ∧ Ex HB H' ∧ IsLU K H' Dl ls
theorem tw_new {HB : Hp} {Dl : Addr} (h : HB Dl = none) : Tw K HB Dl [] (upd HB Dl (.lst [])) := ⟨h, Ex.new h, [], upd_same, .nil⟩
theorem tw_turn {HB H' : Hp} {Dl : Addr} {ls : List (List V)} {q : List V} {b : Bool} {σ2 : L2.St} {Nx : Hp → Prop} (p : Tw K HB Dl ls H') (hz : ls.length < 50000) (ht : EvT t σ2 HB b) (he : b = true → EvU te σ2 HB q)
    (hN : ∀ H6, (∀ x u, x ≠ Dl → H' x = some u → H6 x = some u) → Tw K HB Dl (ls ++ if b = true then [q] else []) H6 → Nx H6) :
    t σ2 H' fun b2 H3 => if b2 = true then te σ2 H3 fun y H4 => ∃ acc, H4 Dl = some (.lst acc) ∧ acc.length < sizeLine ∧ Nx (upd H4 Dl (.lst (acc ++ [y]))) else Nx H3 := by
  obtain ⟨p1, p2, ts, p3, p4⟩ := p
  refine ht H' p2 _ fun H3 e3 => ?_
  cases b with
  | false =>
    rw [if_neg Bool.false_ne_true]
    refine hN H3 (fun x u _ hu => e3 x u hu) ⟨p1, p2.trans e3, ts, e3 Dl _ p3, ?_⟩
    rw [if_neg Bool.false_ne_true, List.append_nil]
    exact tups_mono (fun _ _ => ex_t e3) p4
  | true =>
    rw [if_pos rfl]
    refine he rfl H3 (p2.trans e3) _ fun r H4 nr e4 hr => ⟨ts.map V.ref, e4 Dl _ (e3 Dl _ p3), ?_, hN _ (fun x u hx hu => upd_keep hx ((e3.trans e4) x u hu)) ⟨p1, Ex.mut ((p2.trans e3).trans e4) p1, ts ++ [r], ?_, ?_⟩⟩
    · rw [List.length_map, paired_len p4]
      exact sz_lt (by omega)
    · rw [upd_same, List.map_append]
      rfl
    · have h4 : H4 Dl = some (.lst (ts.map V.ref)) := e4 Dl _ (e3 Dl _ p3)
      rw [if_pos rfl]
      exact paired_app (tups_mono (fun _ _ h => sqt_upd h4 trivial (ex_t (e3.trans e4) h)) p4) (.cons (sqt_upd h4 trivial (st_of hr)) .nil)
theorem flat_take {γ δ : Type} (F : γ → List δ) : ∀ (m : List γ) (k : Nat) (dv : γ), k < m.length → (m.take (k + 1)).flatMap F = (m.take k).flatMap F ++ F (m.getD k dv)
  | y :: r, 0, dv, _ => by simp
  | y :: r, k + 1, dv, h => by
    have ih := flat_take F r k dv (by simpa using h)
    rw [List.take_succ_cons, List.flatMap_cons, ih, List.take_succ_cons, List.flatMap_cons, List.append_assoc]
    rfl
theorem flat_len {γ δ : Type} {F : γ → List δ} {n : Nat} : ∀ {m : List γ}, (∀ y ∈ m, (F y).length ≤ n) → (m.flatMap F).length ≤ m.length * n
  | [], _ => by simp
  | y :: r, h => by
    have ih := flat_len (F := F) (n := n) (m := r) fun z hz => h z (List.mem_cons_of_mem _ hz)
    have h1 := h y List.mem_cons_self
    rw [List.flatMap_cons, List.length_append, List.length_cons, Nat.succ_mul]
    omega
theorem fil_take {γ : Type} (c : γ → Bool) (g : γ → List V) : ∀ (m : List γ) (k : Nat) (dv : γ), k < m.length → ((m.take (k + 1)).filter c).map g = ((m.take k).filter c).map g ++ (if c (m.getD k dv) = true then [g (m.getD k dv)] else [])
  | y :: r, 0, dv, _ => by
    show (([y].filter c).map g) = [] ++ (if c y = true then [g y] else [])
    rw [List.filter_cons, List.nil_append]
    cases c y <;> rfl
  | y :: r, k + 1, dv, h => by
    have ih := fil_take c g r k dv (by simpa using h)
    have e : (y :: r).getD (k + 1) dv = r.getD k dv := rfl
    rw [List.take_succ_cons, List.take_succ_cons, List.filter_cons, List.filter_cons, e]
    cases c y with
    | true =>
      rw [if_pos rfl, if_pos rfl, List.map_cons, List.map_cons, ih]
      rfl
    | false =>
      rw [if_neg Bool.false_ne_true, if_neg Bool.false_ne_true]
      exact ih
theorem flat_map2 {γ δ ε ζ : Type} (m : List γ) (F : γ → List δ) (h : γ → δ → ε) (k : ε → ζ) (c : γ → δ → Bool) : (m.flatMap fun y => ((F y).filter (c y)).map fun z => k (h y z)) = (m.flatMap fun y => ((F y).filter (c y)).map (h y)).map k := by
  induction m with
  | nil => rfl
  | cons y r ih => rw [List.flatMap_cons, List.flatMap_cons, List.map_append, ih, List.map_map]; rfl
theorem yes_go {A B : Prop} (h : A) : if true = true then A else B := by
  rw [if_pos rfl]
  exact h
/-- [tuple for x in d for y in inn(x) if c] -/
theorem u_lc2K (inn : Tx → List Tx) (c : Tx → Tx → Bool) (g : Tx → Tx → List V) (n1 : Nat) (hσ : σ[i]? = some (some (.ref d))) (hd : Rd H d (.dK (kd f l))) (hn1 : ∀ y ∈ dkeys l, (inn y).length ≤ n1) (hz : l.length * n1 ≤ 40000) (hz1 : n1 ≤ 1000)
    (hin : ∀ y ∈ dkeys l, ∀ HL, Lk H d (kd f l) HL → EvL tin ((wipe σ ws).set jx (some (vs y))) HL ((inn y).map vs))
    (ht : ∀ y ∈ dkeys l, ∀ z ∈ inn y, ∀ HL, Lk H d (kd f l) HL → EvT t1 ((wipe ((wipe σ ws).set jx (some (vs y))) ws1).set jy (some (vs z))) HL (c y z))
    (he : ∀ y ∈ dkeys l, ∀ z ∈ inn y, ∀ HL, Lk H d (kd f l) HL → c y z = true → EvU te ((wipe ((wipe σ ws).set jx (some (vs y))) ws1).set jy (some (vs z))) HL (g y z))
    (hw : ∀ w, wipe ((wipe σ ws).set jx (some w)) ws = wipe σ ws := by exact fun _ => rfl)
    (hw1 : ∀ w w2, wipe ((wipe ((wipe σ ws).set jx (some w)) ws1).set jy (some w2)) ws1 = wipe ((wipe σ ws).set jx (some w)) ws1 := by exact fun _ _ => rfl) :
    EvU2 K (tMayE (tLc2 (iKeys (tVar i)) (gName jx) tYes (iList K tin) (gName jy) t1 te ws ws1)) σ H ((dkeys l).flatMap fun y => ((inn y).filter (c y)).map (g y)) := fun H1 e Q q => by
  refine may_of (P := fun Dl H' => IsLU K H' Dl ((dkeys l).flatMap fun y => ((inn y).filter (c y)).map (g y))) (ex_rd e hd) (fun o HB Q2 lk hB q2 => ?_) (fun o Dl H' ne hr hp => hp.upd ne hr trivial) (fun Dl H2 n e2 h2 => q Dl H2 n e2 h2)
  have lk0 := Lk.back e hd lk
  have hlen : (dkeys l).length = l.length := List.length_map _
  have hF : ∀ y ∈ dkeys l, (((inn y).filter (c y)).map (g y)).length ≤ n1 := fun y hy => by
    rw [List.length_map]
    exact Nat.le_trans (List.length_filter_le _ _) (hn1 y hy)
  refine ⟨.ref d, hσ, d, o, rfl, Or.inl ⟨kd f l, hB, fun Dl hD => ⟨fun k m H2 => m = l.length - k ∧ k ≤ l.length ∧ Tw K HB Dl (((dkeys l).take k).flatMap fun y => ((inn y).filter (c y)).map (g y)) H2, ⟨l.length, by simp, Nat.zero_le _, by rw [List.take_zero]; exact tw_new hD⟩, fun k m H2 hW => ?_⟩⟩⟩
  obtain ⟨rfl, hk, hC⟩ := hW
  by_cases hlt : k < l.length
  · refine Or.inr ⟨⟨hC.2.1 d _ hB, by rw [kd_len]; exact hlt⟩, fun H3 => Tw K HB Dl (((dkeys l).take (k + 1)).flatMap fun y => ((inn y).filter (c y)).map (g y)) H3, fun H3 h3 => ⟨l.length - (k + 1), by omega, rfl, hlt, h3⟩, fun w H3 hy => ?_⟩
    obtain ⟨rfl, kk, vv, hkv, rfl⟩ := hy
    obtain ⟨hk2, ek, hm⟩ := key_at hkv
    rw [ek]
    have hsnoc := flat_take (fun y => ((inn y).filter (c y)).map (g y)) (dkeys l) k [] hk2
    generalize hy0 : (dkeys l).getD k [] = y0 at hm hsnoc ⊢
    have hz0 : (((dkeys l).take k).flatMap fun y => ((inn y).filter (c y)).map (g y)).length ≤ 40000 := by
      have h5 := flat_len (F := fun y => ((inn y).filter (c y)).map (g y)) (n := n1) (m := (dkeys l).take k) fun y hy => hF y (List.mem_of_mem_take hy)
      have h6 : ((dkeys l).take k).length * n1 ≤ l.length * n1 := Nat.mul_le_mul_right _ (by rw [List.length_take, hlen]; omega)
      omega
    generalize hA : (((dkeys l).take k).flatMap fun y => ((inn y).filter (c y)).map (g y)) = A at hC hsnoc hz0
    refine ⟨hw _, ?_⟩
    refine @yes_go _ False ?_
    rw [if_pos rfl]
    refine hin y0 hm HB lk0 H3 hC.2.1 _ fun p H4 np e4 hp => ⟨p, rfl, ⟨_, sq_of hp⟩, ?_⟩
    have hI : Tw K HB Dl A H4 := ⟨hC.1, hC.2.1.trans e4, hC.2.2.ex e4⟩
    have hpD : p ≠ Dl := fun z => by
      obtain ⟨us, a, _⟩ := hC.2.2
      rw [← z, np] at a
      cases a
    have hpB : HB p = none := fresh_back hC.2.1 np
    refine ⟨fun j m H5 => m = (inn y0).length - j ∧ j ≤ (inn y0).length ∧ H5 p = some (.lst ((inn y0).map vs)) ∧ Tw K HB Dl (A ++ (((inn y0).take j).filter (c y0)).map (g y0)) H5, ⟨(inn y0).length, by simp, Nat.zero_le _, hp, by
      rw [List.take_zero, List.filter_nil, List.map_nil, List.append_nil]
      exact hI⟩, fun j m H5 hW5 => ?_⟩
    obtain ⟨rfl, hj, hp5, hC5⟩ := hW5
    by_cases hlj : j < (inn y0).length
    · refine Or.inr ⟨⟨_, vs ((inn y0).getD j []), sq_of hp5, ?_⟩, fun H6 => H6 p = some (.lst ((inn y0).map vs)) ∧ Tw K HB Dl (A ++ (((inn y0).take (j + 1)).filter (c y0)).map (g y0)) H6, fun H6 h6 => ⟨(inn y0).length - (j + 1), by omega, rfl, hlj, h6.1, h6.2⟩, fun w H6 hy6 => ?_⟩
      · rw [List.getElem?_map, List.getD_eq_getElem?_getD, List.getElem?_eq_getElem hlj]
        rfl
      · obtain ⟨rfl, hx⟩ := hy6
        obtain ⟨hm2, ew⟩ := map_at (f := vs) [] (hx _ (sq_of hp5))
        rw [ew]
        have hst := fil_take (c y0) (g y0) (inn y0) j [] hlj
        generalize hz1y : (inn y0).getD j [] = z0 at hm2 hst ⊢
        have hjl : (((inn y0).take j).filter (c y0)).length ≤ 1000 := Nat.le_trans (List.length_filter_le _ _) (by
          rw [List.length_take]
          have := hn1 y0 hm
          omega)
        refine ⟨hw1 _ _, ?_⟩
        refine tw_turn (b := c y0 z0) (q := g y0 z0) hC5 (by rw [List.length_append, List.length_map]; omega) (ht y0 hm z0 hm2 HB lk0) (fun hc => he y0 hm z0 hm2 HB lk0 hc) fun H6 k6 h6 => ⟨k6 p _ hpD hp5, ?_⟩
        rw [List.append_assoc, ← hst] at h6
        exact h6
    · have ej : j = (inn y0).length := by omega
      subst ej
      rw [List.take_length] at hC5
      refine Or.inl ⟨⟨_, sq_of hp5, by rw [List.length_map]; exact Nat.le_refl _⟩, ?_⟩
      rw [hsnoc]
      exact hC5
  · have ek : k = l.length := by omega
    subst ek
    rw [← hlen, List.take_length] at hC
    exact Or.inl ⟨⟨hC.2.1 d _ hB, by rw [kd_len]; exact Nat.le_refl _⟩, q2 Dl H2 hC.1 hC.2.1 hC.2.2⟩
/-! ## defs that give a new list of tuples -/
def RetU2 (K : PySem.W.Frag) (l : List (List V)) (H : Hp) (Q : VK) : Prop := ∀ p H2, H p = none → Ex H H2 → IsLU K H2 p l → Q (.ref p) H2
def spU2 (K : PySem.W.Frag) (R : List V → Hp → List (List V) → Prop) : Sp := fun vs' H Q _ => ∃ xs, R vs' H xs ∧ RetU2 K xs H Q
def SpU2 (K : PySem.W.Frag) (sp : Sp) (ws : List V) (H : Hp) (xs : List (List V)) : Prop := ∀ H1, Ex H H1 → ∀ Q : VK, (∀ p H2, H1 p = none → Ex H1 H2 → IsLU K H2 p xs → Q (.ref p) H2) → ∀ E : XK, sp ws H1 Q E
theorem su2_of {R : List V → Hp → List (List V) → Prop} {ws : List V} {xs : List (List V)} (h : ∀ H1, Ex H H1 → R ws H1 xs) : SpU2 K (spU2 K R) ws H xs := fun H1 e Q q _ => ⟨xs, h H1 e, q⟩
theorem eu2_call {sp : Sp} {dvs ws : List V} {xs : List (List V)} {E : XK} {ta : TA} (h : EvA ta σ H ws) (hs : SpU2 K sp (ws ++ dvs) H xs) : EvU2 K (tCall sp dvs E ta) σ H xs := fun H1 e Q q =>
  h H1 e _ fun H2 e2 => hs H2 (e.trans e2) Q (fun p H3 hp e3 h3 => q p H3 (fresh_back e2 hp) (e2.trans e3) h3) E
theorem RetU2.go {xs : List (List V)} {Q : VK} {H' : Hp} (k : RetU2 K xs H Q) (e : Ex H H') {p : Addr} {H2 : Hp} (hp : H' p = none) (e2 : Ex H' H2) (h : IsLU K H2 p xs) : Q (.ref p) H2 := k p H2 (fresh_back e hp) (e.trans e2) h
theorem s_retU2 {xs : List (List V)} (h : EvU2 K te σ H xs) (k : ∀ p H1, H p = none → Ex H H1 → IsLU K H1 p xs → D.rt (.ref p) H1) : tRet te D σ H := h H (Ex.refl H) _ fun p H1 hp e h1 => k p H1 hp e h1
theorem retU_T {b : Bool} {x y : List (List Tx)} {Q : VK} (k : RetU2 K ((if b = true then x else y).map (List.map vs)) H Q) (hb : b = true) : RetU2 K (x.map (List.map vs)) H Q := by
  rw [if_pos hb] at k
  exact k
theorem retU_F {b : Bool} {x y : List (List Tx)} {Q : VK} (k : RetU2 K ((if b = true then x else y).map (List.map vs)) H Q) (hb : b = false) : RetU2 K (y.map (List.map vs)) H Q := by
  rw [hb, if_neg Bool.false_ne_true] at k
  exact k
/-- compared with the empty list -/
theorem e_eqNil {l : List (List Tx)} (ha : EvU2 K ta σ H (l.map (List.map vs))) (hb : EvL tb σ H []) (ok : ∀ q ∈ l, ∀ p ∈ q, okT p) : Ev (tOp (rEqD K) ta tb) σ H (.bl (decide (l = []))) := fun H1 e1 Q q =>
  ha H1 e1 _ fun r H2 _ e2 hr => hb H2 (e1.trans e2) _ fun r2 H3 _ e3 hr2 => ⟨duD l, duD [], dp_LU (hr.ex e3), .lst (sq_of hr2) .nil, shaped_LU ok, by decide +kernel, by
    cases l with
    | nil =>
      rw [SeqAt.eqv_refl (duD []) (SeqAt.canLay_of_shaped (shaped_LU ok))]
      exact q H3 (e2.trans e3)
    | cons x y => exact q H3 (e2.trans e3)⟩
theorem e_neNil {l : List (List Tx)} (ha : EvU2 K ta σ H (l.map (List.map vs))) (hb : EvL tb σ H []) (ok : ∀ q ∈ l, ∀ p ∈ q, okT p) : Ev (tOp (rNeD K) ta tb) σ H (.bl (!decide (l = []))) := fun H1 e1 Q q =>
  ha H1 e1 _ fun r H2 _ e2 hr => hb H2 (e1.trans e2) _ fun r2 H3 _ e3 hr2 => ⟨duD l, duD [], dp_LU (hr.ex e3), .lst (sq_of hr2) .nil, shaped_LU ok, by decide +kernel, by
    cases l with
    | nil =>
      rw [SeqAt.eqv_refl (duD []) (SeqAt.canLay_of_shaped (shaped_LU ok))]
      exact q H3 (e2.trans e3)
    | cons x y => exact q H3 (e2.trans e3)⟩
/-! ## messages -/
theorem x_msg {s : String} {p : Tx} {Q : Hp → Prop} (h : Ev te σ H (vs p)) (hz : (tx s).length + p.length ≤ 90000) (k : ∀ H1, Ex H H1 → Q H1) : tJs [tC (.str (Str.ofString s)), tFmt te] Str.empty σ H (fun _ H1 => Q H1) := by
  refine ⟨Str.ofString s, rfl, ?_, h H (Ex.refl H) _ fun H1 e => Or.inl ⟨mk p, rfl, ?_, mk p, rfl, ?_, k H1 e⟩⟩
  · rw [lit_of]
    show (mk [] ++ mk (tx s)).length ≤ _
    rw [app_of, len_of, List.nil_append]
    exact sz_of (by omega)
  · rw [len_of]
    exact sz_of (by omega)
  · rw [lit_of]
    show (mk [] ++ mk (tx s) ++ mk p).length ≤ _
    rw [app_of, app_of, len_of, List.nil_append, List.length_append]
    exact sz_of (by omega)
end
/-- an own error made with any one argument -/
theorem pmk_any {X : Cx} {C : Addr} {bmB : List Value} {B newId initId : String} {x : Str} {e : Expr} {ta : TE} {p pos : Pos} (F : ExcBaseFacts B newId initId bmB) (qx : PySem.W.excIn X.K C bmB newId = true) (gC : X.mg x = some (.ref C)) (kC : PySem.W.keepIn X.K (.ref C) = true)
    (r : Raises X (.ref C)) (hg : Gl X x) (he : PE X e ta) (hs : starEach [e] X.env = (false, eval e X.env) :: starEach [] X.env := by rfl) (hdb : (x == ("__debug__" : Str)) = false := by decide) :
    L2N.PMk X (.Call (.Name x p) [e] [] pos) (fun σ H Q => ta σ H fun _ H1 => Q (.ref C) none H1) := by
  intro pins s σ H Q I h
  refine wpAny_Call_Name_kw (ld_glob I hg gC ?_ hdb)
  refine PySem.W.callWith_K (h₀ := X.base) I.ok.mod.kin kC ?_ hs (by rfl)
  rw [hs]
  refine Calls.spliced_cons (thn (he.run pins s σ H _ I h) fun u s1 hv => ?_)
  obtain ⟨v, H1, I1, r1, q1⟩ := hv
  refine Calls.spliced_nil ⟨I1.kIn, ?_⟩
  obtain ⟨_, _, _, _, _, _, _, _, _, _, _, _, _, _, _, _, _, hC, hN, hni, T⟩ := exc_obj I1.kIn qx
  refine wpAny_call_exc_subT F T hC hN hni (fun h' e2 hm => ?_) (by show 1 ≤ sizeLine; rw [sizeLine_eq]; omega)
  exact L2N.mk_of I1 hm r q1 (I1.hok.gone hm.new)
end Vf

/-! Own layer: texts in order; sorted dicts of any size. -/
namespace Vf
open PySem PySem.Spec PyProof.Rows L2 TL Evl
/-! ## texts in order -/
def srt (l : List Tx) : List Tx := l.mergeSort fun a b => decide (a ≤ b)
theorem srt_perm (l : List Tx) : (srt l).Perm l := List.mergeSort_perm _ _
theorem mem_srt {l : List Tx} {p : Tx} : p ∈ srt l ↔ p ∈ l := (srt_perm l).mem_iff
theorem srt_len (l : List Tx) : (srt l).length = l.length := (srt_perm l).length_eq
theorem tle_trans {a b c : Tx} (h1 : a ≤ b) (h2 : b ≤ c) : a ≤ c := List.le_trans h1 h2
theorem tle_total (a b : Tx) : a ≤ b ∨ b ≤ a := List.le_total a b
theorem tle_anti {a b : Tx} (h1 : a ≤ b) (h2 : b ≤ a) : a = b := List.le_antisymm h1 h2
theorem srt_pw (l : List Tx) : (srt l).Pairwise (· ≤ ·) := by
  have h := List.pairwise_mergeSort (le := fun a b : Tx => decide (a ≤ b)) (fun a b c h1 h2 => decide_eq_true (tle_trans (of_decide_eq_true h1) (of_decide_eq_true h2))) (fun a b => by
    rcases tle_total a b with h | h
    · rw [decide_eq_true h]
      rfl
    · rw [decide_eq_true h, Bool.or_true]) l
  exact h.imp fun h => of_decide_eq_true h
theorem srt_uniq {l m : List Tx} (h : m.Perm l) (hs : m.Pairwise (· ≤ ·)) : m = srt l :=
  List.Perm.eq_of_pairwise (le := (· ≤ ·)) (fun a b _ _ h1 h2 => tle_anti h1 h2) hs (srt_pw l) (h.trans (srt_perm l).symm)
theorem srt_congr {l m : List Tx} (h : m.Perm l) : srt m = srt l := srt_uniq ((srt_perm m).trans h) (srt_pw m)
theorem srt_nodup {l : List Tx} (h : l.Nodup) : (srt l).Nodup := (srt_perm l).nodup_iff.mpr h
theorem lt_of_cps (a b : Tx) : ltCps (mk a).cps.toList (mk b).cps.toList = decide (a < b) := ltCps_eq a b
theorem rising_pw : ∀ (l : List Tx) (p : Tx), risingS (mk p) (l.map mk) = true → (p :: l).Pairwise (· ≤ ·)
  | [], p, _ => List.pairwise_cons.mpr ⟨fun _ h => (nomatch h), .nil⟩
  | x :: r, p, h => by
    have h2 : (!ltCps (mk x).cps.toList (mk p).cps.toList && risingS (mk x) (r.map mk)) = true := h
    rw [Bool.and_eq_true, lt_of_cps] at h2
    have ih := rising_pw r x h2.2
    have hx : p ≤ x := by
      have h3 : decide (x < p) = false := by
        have := h2.1
        cases e : decide (x < p)
        · rfl
        · rw [e] at this
          cases this
      exact List.not_lt.mp (of_decide_eq_false h3)
    refine List.pairwise_cons.mpr ⟨fun y hy => ?_, ih⟩
    rcases List.mem_cons.mp hy with e | e
    · rw [e]
      exact hx
    · exact tle_trans hx ((List.pairwise_cons.mp ih).1 y e)
theorem map_mk_tl (ys : List Str) : (ys.map tl).map mk = ys := by
  rw [List.map_map]
  conv => rhs; rw [← List.map_id ys]
  exact List.map_congr_left fun y _ => mk_of y
theorem sorted_srt {ys : List Str} {l : List Tx} (h : ys.Perm (l.map mk)) (hs : sortedS ys = true) : ys = (srt l).map mk := by
  rw [← map_mk_tl ys] at hs
  have hp : (ys.map tl).Perm l := by
    have h2 := h.map tl
    rw [List.map_map] at h2
    have e : l.map (tl ∘ mk) = l := by
      conv => rhs; rw [← List.map_id l]
      exact List.map_congr_left fun y _ => tl_of y
    rw [e] at h2
    exact h2
  have hpw : (ys.map tl).Pairwise (· ≤ ·) := by
    revert hs
    cases ys.map tl with
    | nil => exact fun _ => .nil
    | cons x r => exact fun hs => rising_pw r x hs
  rw [← srt_uniq hp hpw, map_mk_tl]
/-! ## sorted(d) -/
def rSrtD : List V → Hp → VK → Prop := fun xs H Q => ∃ (a : Addr) (kvs : List (Key × V)) (ks : List Str), xs = [.ref a] ∧ Rd H a (.dK kvs) ∧ kvs.map (·.1) = ks.map Sum.inr ∧ ks.length ≤ sizeLine ∧
    ∀ ys p, ys.Perm ks → sortedS ys = true → H p = none → Q (.ref p) (upd H p (.lst (ys.map V.str)))
section
variable {X : Cx}
theorem call_srtD (hcalm : X.calm = true) : CallR X (.builtin "sorted") rSrtD := by
  intro pins s σ H xs us Q I r ⟨a, kvs, ks, ex, hd, hks, hsz, q⟩
  subst ex
  obtain ⟨u, eu, rx⟩ := vals1 r
  subst eu
  cases rx
  obtain ⟨z, lo, wv, rel, dd⟩ := dk_rd I.hok hd
  obtain ⟨ep, hat⟩ := dd.dictAt
  have hkeys : wv.map (·.1) = ks.map Sum.inr := rel.keys.symm.trans hks
  have hl : wv.length = ks.length := by
    have e := congrArg List.length hkeys
    rw [List.length_map, List.length_map] at e
    exact e
  refine Calls.call_function_entry PyProof.Rows.kind_sorted PyProof.Rows.plain_sorted PyProof.Rows.entry_sorted (PyProof.Rows.args_sorted1 _) ?_
  unfold Builtin.«sorted»
  refine wpAny_bind (m := checkCount "sorted" 1 1 _) (wpAny_pure ?_)
  refine wpAny_bind (PySem.W.kdu_collect (A := X.A.in1) (PySem.W.kdl_dict (knd := mixKind X.prog X.w) (kvs := wv) (ep := ep) lo) (I.ok.hd hcalm) hat (by rw [hl]; exact hsz) fun h2 tk acc hk hacc => ?_)
  have hal : acc.toList.length = ks.length := by rw [Array.length_toList, hacc.1, hl]
  have hS : StrsAre acc.toList ks := strs_at hal fun j v e => by
    obtain ⟨k, x, e1, e2⟩ := hacc.2 j v (by rw [← Array.getElem?_toList]; exact e)
    have e3 : (wv.map (·.1))[j]? = some k := by
      rw [List.getElem?_map, e1]
      rfl
    rw [hkeys, List.getElem?_map] at e3
    cases e4 : ks[j]? with
    | none =>
      rw [e4] at e3
      cases e3
    | some y =>
      rw [e4] at e3
      have e5 : Sum.inr y = k := Option.some.inj e3
      subst e5
      obtain ⟨t, ev⟩ := Value.isStrOf_shape (x := y) (v := v) e2
      exact ⟨y, t, rfl, ev⟩
  have I1 : Inv X pins σ H { s with heap := h2, toks := tk } := I.kept hk
  refine wpAny_bind (wpAny_newList ?_ (by rw [hal]; exact hsz))
  have hoL : (h2.push (seqObj "list" acc.toList.toArray 0)).get? h2.objs.size = some (seqObj "list" acc.toList.toArray 0) := Heap.get?_push_size _ rfl
  refine wpAny_bind (wpAny_holding (wpAny_call_entry PyProof.Rows.slot_list_sort ⟨_, hoL, rfl⟩ PyProof.Rows.entry_list_sort
    (list_sort_treeKAny strKind_oneLt (s := { s with heap := h2.push (seqObj "list" acc.toList.toArray 0), toks := tk }) hoL hS.keysOf (fun v₁ v₂ rest e => keyKind_strs (by rw [← e]; exact hS)) (by rw [hal]; exact hsz) fun st2 hp hs => ⟨_, rfl, ?_⟩)
    (PyProof.Rows.args_list_sort _)))
  obtain ⟨ys, g1, g2, g3⟩ := sorted_out_str hS hp hs
  obtain ⟨e2, he2⟩ := PyProof.Rows.sortedHeap_at (vs := acc.toList) (out := (arrOf st2).map (·.2)) hoL
  refine wpAny_pure ⟨_, rfl, .ref h2.objs.size, upd H h2.objs.size (.lst (ys.map V.str)), I1.laid (t' := tk) (fun b u e => ?_) (Nat.le_refl _)
    (show ObjOk X.prog X.w _ _ _ (.lst (ys.map V.str)) from ⟨by rw [List.length_map, g2.length_eq]; exact hsz, ((arrOf st2).map (·.2)).toList, e2, vals_of_strs g1, by rw [Array.toArray_toList]; exact he2⟩), rfl, q ys _ g2 g3 (I1.hok.fresh (Nat.le_refl _))⟩
  have hb : b < h2.objs.size := Heap.lt_size e
  rw [PyProof.Rows.sortedHeap_old (Nat.ne_of_lt hb) (by rw [size_push']; exact Nat.lt_succ_of_lt hb)]
  exact Heap.get?_push_of_some _ e
end
section
variable {σ : L2.St} {H : Hp} {ta : TE} {α : Type} {f : α → V} {l : List (Tx × α)} {d : Addr}
theorem l_srtD (hd : Ev ta σ H (.ref d)) (h : Rd H d (.dK (kd f l))) (hz : l.length ≤ 40000) : EvL (tCB rSrtD (tCons ta tNil)) σ H ((srt (dkeys l)).map vs) := fun H1 e Q q =>
  hd H1 e _ fun H2 e2 => ⟨d, kd f l, (dkeys l).map mk, rfl, ex_rd (e.trans e2) h, by
    unfold kd dkeys
    rw [List.map_map, List.map_map, List.map_map]
    rfl, by
    unfold dkeys
    rw [List.length_map, List.length_map]
    exact sz_of (by omega), fun ys p hp hs np => by
    rw [sorted_srt hp hs, ← map_vs]
    exact q p _ (fresh_back e2 np) (e2.trans (Ex.new np)) upd_same⟩
end
end Vf

/-! Own layer: lists of tuples, further; tuples that are read; walks over lists of tuples. -/
namespace Vf
open PySem PySem.Spec PyProof.Rows L2 TL Evl
section
variable {K : PySem.W.Frag} {σ : L2.St} {H H1 H2 : Hp} {ta tb te td tl' : TE} {p d : Addr} {l m : List (List V)} {kvs : List (Key × V)}
/-- a list of tuples that is read -/
def IsLUr (K : PySem.W.Frag) (H : Hp) (p : Addr) (l : List (List V)) : Prop := ∃ ts, SqL K H p (ts.map V.ref) ∧ TupsAt K H ts l
theorem IsLU.r (h : IsLU K H p l) : IsLUr K H p l := h.sq
theorem IsLUr.ex (h : IsLUr K H p l) (e : Ex H H2) : IsLUr K H2 p l := by
  obtain ⟨ts, a, b⟩ := h
  exact ⟨ts, ex_l e a, tups_mono (fun _ _ => ex_t e) b⟩
theorem IsLUr.rx (h : IsLUr K H p l) (r : RX H H2) : IsLUr K H2 p l := by
  obtain ⟨ts, a, b⟩ := h
  exact ⟨ts, rx_l r a, tups_mono (fun _ _ => rx_t r) b⟩
/-- a tuple, new or not -/
def EvTu (K : PySem.W.Frag) (te : TE) (σ : L2.St) (H : Hp) (xs : List V) : Prop := ∀ H1, Ex H H1 → ∀ Q : VK, (∀ t H2, Ex H1 H2 → SqT K H2 t xs → Q (.ref t) H2) → te σ H1 Q
theorem tu_new {xs : List V} (h : EvU te σ H xs) : EvTu K te σ H xs := fun H1 e Q q => h H1 e Q fun t H2 _ e2 ht => q t H2 e2 (st_of ht)
theorem tu_of {xs : List V} {t : Addr} (h : Ev te σ H (.ref t)) (ht : SqT K H t xs) : EvTu K te σ H xs := fun H1 e Q q => h H1 e Q fun H2 e2 => q t H2 e2 (ex_t (e.trans e2) ht)
theorem tu_is {xs ys : List V} (h : EvTu K te σ H xs) (e : xs = ys) : EvTu K te σ H ys := e ▸ h
theorem er_consT {ta : TA} {xs : List V} (h : EvTu K te σ H xs) (hr : EvR K ta σ H l) : EvR K (tCons te ta) σ H (xs :: l) := fun H1 e _ q => h H1 e _ fun p H2 e2 hp => hr H2 (e.trans e2) _ fun ts H3 e3 ht => q (p :: ts) H3 (e2.trans e3) (.cons (ex_t e3 hp) ht)
/-- an item of a list of tuples -/
theorem tup_get {ts : List Addr} {l : List (List V)} (h : TupsAt K H ts l) {i : Int} (h0 : 0 ≤ i ∧ i < l.length) : ∃ t, atI (ts.map V.ref) i = some (.ref t) ∧ SqT K H t (l.getD i.toNat []) := by
  have hl := paired_len h
  obtain ⟨n, rfl⟩ := Int.eq_ofNat_of_zero_le h0.1
  have hn : n < ts.length := by omega
  have e : (ts.map V.ref)[n]? = some (.ref (ts[n])) := by
    rw [List.getElem?_map, List.getElem?_eq_getElem hn]
    rfl
  obtain ⟨t, q, e2, e3, e4⟩ := tup_at (ts := ts) (i := n) h e
  refine ⟨t, ?_, ?_⟩
  · have h5 := atI_get V.ref ts 0 h0.1 (by omega)
    rw [h5]
    have e6 : ts.getD (n : Int).toNat 0 = ts[n] := by
      rw [List.getD_eq_getElem?_getD, Int.toNat_natCast, List.getElem?_eq_getElem hn]
      rfl
    rw [e6, e2]
  · have e6 : l.getD (n : Int).toNat [] = q := by
      rw [List.getD_eq_getElem?_getD, Int.toNat_natCast, e3]
      rfl
    rw [e6]
    exact e4
theorem tu_ixR {i : Int} (h : Ev ta σ H (.ref p)) (hp : IsLUr K H p l) (hb : Ev tb σ H (.int i)) (hi : 0 ≤ i ∧ i < l.length) : EvTu K (tOp (rIxL K) ta tb) σ H (l.getD i.toNat []) := fun H1 e Q q =>
  h H1 e _ fun H2 e2 => hb H2 (e.trans e2) _ fun H3 e3 => by
    obtain ⟨ts, h1, h2⟩ := hp.ex ((e.trans e2).trans e3)
    obtain ⟨t, a, b⟩ := tup_get h2 hi
    exact ⟨p, _, i, _, rfl, rfl, h1, a, q t H3 (e2.trans e3) b⟩
theorem tu_ixN {i : Int} (h : EvU2 K ta σ H l) (hb : Ev tb σ H (.int i)) (hi : 0 ≤ i ∧ i < l.length) : EvTu K (tOp (rIxL K) ta tb) σ H (l.getD i.toNat []) := fun H1 e Q q =>
  h H1 e _ fun p H2 _ e2 hp => hb H2 (e.trans e2) _ fun H3 e3 => by
    obtain ⟨ts, h1, h2⟩ := (hp.ex e3).sq
    obtain ⟨t, a, b⟩ := tup_get h2 hi
    exact ⟨p, _, i, _, rfl, rfl, h1, a, q t H3 (e2.trans e3) b⟩
theorem getD_mapU {α : Type} (f : α → V) (l : List (List α)) (n : Nat) : (l.map (List.map f)).getD n [] = (l.getD n []).map f := by
  rw [List.getD_eq_getElem?_getD, List.getD_eq_getElem?_getD, List.getElem?_map]
  cases l[n]? <;> rfl
theorem s_asgTu {D : Ends} {i : Nat} {xs : List V} (h : EvTu K te σ H xs) (k : ∀ t H1, Ex H H1 → SqT K H1 t xs → D.nx (σ.set i (some (.ref t))) H1) : tAsg te (gName i) D σ H := h H (Ex.refl H) _ fun t H1 e ht => k t H1 e ht
theorem q_asgTu {D : Ends} {tz : TS} {i : Nat} {xs : List V} (h : EvTu K te σ H xs) (k : ∀ t H1, Ex H H1 → SqT K H1 t xs → tz D (σ.set i (some (.ref t))) H1) : tSeq (tAsg te (gName i)) tz D σ H := s_asgTu (D := { D with nx := tz D }) h k
theorem s_retTu {D : Ends} {xs : List V} (h : EvTu K te σ H xs) (k : ∀ t H1, Ex H H1 → SqT K H1 t xs → D.rt (.ref t) H1) : tRet te D σ H := h H (Ex.refl H) _ fun t H1 e ht => k t H1 e ht
/-! defs that give a tuple -/
def RetTu (K : PySem.W.Frag) (xs : List V) (H : Hp) (Q : VK) : Prop := ∀ t H2, Ex H H2 → SqT K H2 t xs → Q (.ref t) H2
def spTu (K : PySem.W.Frag) (R : List V → Hp → List V → Prop) : Sp := fun ws H Q _ => ∃ xs, R ws H xs ∧ RetTu K xs H Q
theorem tu_call {R : List V → Hp → List V → Prop} {ws xs : List V} {E : XK} {ta : TA} (h : EvA ta σ H ws) (hs : ∀ H1, Ex H H1 → R ws H1 xs) : EvTu K (tCall (spTu K R) [] E ta) σ H xs := fun H1 e Q q =>
  h H1 e _ fun H2 e2 => ⟨xs, by rw [List.append_nil]; exact hs H2 (e.trans e2), fun t H3 e3 ht => q t H3 (e2.trans e3) ht⟩
theorem RetTu.go {xs : List V} {Q : VK} {H' : Hp} (k : RetTu K xs H Q) (e : Ex H H') {t : Addr} {H2 : Hp} (e2 : Ex H' H2) (h : SqT K H2 t xs) : Q (.ref t) H2 := k t H2 (e.trans e2) h
/-! slices, sums, copies -/
theorem paired_take {α β : Type} {F : α → β → Prop} : ∀ {a : List α} {b : List β} (n : Nat), Paired F a b → Paired F (a.take n) (b.take n)
  | _, _, 0, _ => .nil
  | _, _, n + 1, .nil => .nil
  | _, _, n + 1, .cons x r => .cons x (paired_take n r)
theorem paired_drop {α β : Type} {F : α → β → Prop} : ∀ {a : List α} {b : List β} (n : Nat), Paired F a b → Paired F (a.drop n) (b.drop n)
  | _, _, 0, h => h
  | _, _, n + 1, .nil => .nil
  | _, _, n + 1, .cons x r => paired_drop n r
theorem paired_cut {α β : Type} {F : α → β → Prop} {a : List α} {b : List β} (h : Paired F a b) (lo hi : Option Int) : Paired F (cutG a lo hi) (cutG b lo hi) := by
  unfold cutG
  rw [paired_len h]
  exact paired_take _ (paired_drop _ h)
theorem u2_slR {tlo thi : TO} {lo hi : Option Int} (h : Ev te σ H (.ref p)) (hp : IsLUr K H p l) (h1 : EvO tlo σ H lo) (h2 : EvO thi σ H hi) : EvU2 K (tSl (rSlL K) te tlo thi) σ H (cutG l lo hi) := fun H1 e Q q =>
  h H1 e _ fun H2 e2 => h1 H2 (e.trans e2) _ fun H3 e3 => h2 H3 ((e.trans e2).trans e3) _ fun H4 e4 => by
    obtain ⟨ts, a, b⟩ := hp.ex (((e.trans e2).trans e3).trans e4)
    refine ⟨p, _, rfl, a, fun r nr => q r _ (fresh_back ((e2.trans e3).trans e4) nr) (((e2.trans e3).trans e4).trans (Ex.new nr)) ⟨cutG ts lo hi, by rw [upd_same, cutV_map], tups_mono (fun _ _ => ex_t (Ex.new nr)) (paired_cut b lo hi)⟩⟩
theorem cutG_map {α β : Type} (f : α → β) (l : List α) (lo hi : Option Int) : cutG (l.map f) lo hi = (cutG l lo hi).map f := by
  unfold cutG
  rw [List.length_map, List.map_take, List.map_drop]
theorem cat_core {ts us : List Addr} {r : Addr} {Q : VK} (h1 : H p = some (.lst (ts.map V.ref))) (h2 : TupsAt K H ts l) (h3 : H r = some (.lst (us.map V.ref))) (h4 : TupsAt K H us m) (hz : l.length + m.length ≤ 100000)
    (q : ∀ z, H z = none → IsLU K (upd H z (.lst ((ts ++ us).map V.ref))) z (l ++ m) → Q (.ref z) (upd H z (.lst ((ts ++ us).map V.ref)))) : rCat (.ref p) (.ref r) H Q :=
  ⟨p, r, _, _, rfl, rfl, h1, h3, by rw [List.length_map, List.length_map, paired_len h2, paired_len h4]; exact sz_of hz, fun z nz => by
    rw [← List.map_append]
    exact q z nz ⟨ts ++ us, upd_same, tups_mono (fun _ _ => ex_t (Ex.new nz)) (paired_app h2 h4)⟩⟩
theorem u2_catRR {r : Addr} (ha : Ev ta σ H (.ref p)) (h : IsLU K H p l) (hb : Ev tb σ H (.ref r)) (h2 : IsLU K H r m) (hz : l.length + m.length ≤ 100000) : EvU2 K (tOp rCat ta tb) σ H (l ++ m) := fun H1 e Q q =>
  ha H1 e _ fun H2 e2 => hb H2 (e.trans e2) _ fun H3 e3 => by
    obtain ⟨ts, a1, a2⟩ := h.ex ((e.trans e2).trans e3)
    obtain ⟨us, b1, b2⟩ := h2.ex ((e.trans e2).trans e3)
    exact cat_core a1 a2 b1 b2 hz fun z nz hi => q z _ (fresh_back (e2.trans e3) nz) ((e2.trans e3).trans (Ex.new nz)) hi
theorem u2_catNN (ha : EvU2 K ta σ H l) (hb : EvU2 K tb σ H m) (hz : l.length + m.length ≤ 100000) : EvU2 K (tOp rCat ta tb) σ H (l ++ m) := fun H1 e Q q =>
  ha H1 e _ fun p H2 _ e2 hp => hb H2 (e.trans e2) _ fun r H3 _ e3 hr => by
    obtain ⟨ts, a1, a2⟩ := hp.ex e3
    obtain ⟨us, b1, b2⟩ := hr
    exact cat_core a1 a2 b1 b2 hz fun z nz hi => q z _ (fresh_back (e2.trans e3) nz) ((e2.trans e3).trans (Ex.new nz)) hi
theorem u2_catNR {r : Addr} (ha : EvU2 K ta σ H l) (hb : Ev tb σ H (.ref r)) (h2 : IsLU K H r m) (hz : l.length + m.length ≤ 100000) : EvU2 K (tOp rCat ta tb) σ H (l ++ m) := fun H1 e Q q =>
  ha H1 e _ fun p H2 _ e2 hp => hb H2 (e.trans e2) _ fun H3 e3 => by
    obtain ⟨ts, a1, a2⟩ := hp.ex e3
    obtain ⟨us, b1, b2⟩ := h2.ex ((e.trans e2).trans e3)
    exact cat_core a1 a2 b1 b2 hz fun z nz hi => q z _ (fresh_back (e2.trans e3) nz) ((e2.trans e3).trans (Ex.new nz)) hi
theorem call_listK {X : Cx} (K : PySem.W.Frag) (h : X.K = K := by rfl) : CallR X (.type "list") (rListS K) := h ▸ call_list_of
theorem u2_list (h : Ev te σ H (.ref p)) (hp : IsLUr K H p l) : EvU2 K (tCB (rListS K) (tCons te tNil)) σ H l := fun H1 e Q q =>
  h H1 e _ fun H2 e2 => by
    obtain ⟨ts, a, b⟩ := hp.ex (e.trans e2)
    exact ⟨p, _, rfl, Or.inl a, fun r nr => q r _ (fresh_back e2 nr) (e2.trans (Ex.new nr)) ⟨ts, upd_same, tups_mono (fun _ _ => ex_t (Ex.new nr)) b⟩⟩
/-! lengths -/
theorem e_lenLU (h : Ev te σ H (.ref p)) (hp : IsLUr K H p l) : Ev (tCB (rLenS K) (tCons te tNil)) σ H (.int (l.length : Int)) := fun H1 e Q q =>
  h H1 e _ fun H2 e2 => by
    obtain ⟨ts, a, b⟩ := hp.ex (e.trans e2)
    refine ⟨p, _, rfl, Or.inl a, ?_⟩
    rw [List.length_map, paired_len b]
    exact q H2 e2
theorem e_lenTu {α : Type} {f : α → V} {xs : List α} {t : Addr} (h : Ev te σ H (.ref t)) (hp : SqT K H t (xs.map f)) : Ev (tCB (rLenS K) (tCons te tNil)) σ H (.int (xs.length : Int)) := fun H1 e Q q =>
  h H1 e _ fun H2 e2 => ⟨t, _, rfl, Or.inr (ex_t (e.trans e2) hp), by
    rw [List.length_map]
    exact q H2 e2⟩
/-! the sort of a tuple -/
theorem tyx_tup {t : Addr} {xs : List V} (h : SqT K H t xs) : TyX K H (.ref t) (.type "tuple") := by
  rcases h with (h | ⟨o, h⟩) | ⟨o, _, _, h, hc, _⟩
  · exact .base (.tup h)
  · exact .fTuple h
  · exact .kTuple h hc
end
end Vf

/-! Own layer: == of tuples whose items are equal by a way of their own (dicts among them). -/
namespace PySem.SeqAt
open AutoSeq1 (wpAny_loadPart')
open MeetsSeq MeetsSeq2 MeetsSeq3 SeqRoads2
section
variable {P : Program} {w : World}
theorem vf_tuple_eqIn (a b : Addr) (xs ys : Array Value) (m m2 : Nat) (d1 d2 : Option Addr) (z1 z2 : Array (Option Value)) (hsz : xs.size = ys.size) :
    MeetsIn P w (Builtin.«tuple.__eq__» ⟨[.ref a, .ref b], []⟩)
      (fun A R s => s.heap.get? a = some { cls := .type "tuple", dict := d1, data := .seq xs m, slots := z1 } ∧ s.heap.get? b = some { cls := .type "tuple", dict := d2, data := .seq ys m2, slots := z2 } ∧
        (∀ j (h1 : j < xs.size) (h2 : j < ys.size), EqP P w A.in1 s xs[j] ys[j] true) ∧ R (.ok (.ret (.bool true))) s) := by
  intro A R s h
  obtain ⟨hp, g, d, tk, os⟩ := s
  obtain ⟨ha, hb, he, hR⟩ := h
  have f2 := AutoSeq1.sub_tuple_tuple
  have hZ : (xs.toList.zip ys.toList).length = xs.size := by simp [hsz]
  wp_walk using wpAny_loadPart' ha, wpAny_loadPart' hb, wpAny_forIn_list _ (fun rest b s' => b.1 = none ∧ s' = ⟨hp, g, d, tk, os⟩ ∧ ∃ i, rest = (xs.toList.zip ys.toList).drop i) _
  case turn =>
    rintro ⟨y, x⟩ rest b2 s2 ⟨hb2, rfl, i, hz⟩
    have hlt : i < (xs.toList.zip ys.toList).length := by
      rcases Nat.lt_or_ge i (xs.toList.zip ys.toList).length with h2 | h2
      · exact h2
      · rw [List.drop_of_length_le h2] at hz
        cases hz
    have h1 : i < xs.size := hZ ▸ hlt
    have h2 : i < ys.size := hsz ▸ h1
    rw [List.drop_eq_getElem_cons hlt] at hz
    injection hz with hyx hrest
    have hy : y = xs[i] := by
      have := congrArg Prod.fst hyx
      simpa using this
    have hx : x = ys[i] := by
      have := congrArg Prod.snd hyx
      simpa using this
    subst hy hx
    refine wpAny_bind (he i h1 h2 _ _ ?_)
    wp_walk
    exact ⟨rfl, rfl, i + 1, hrest⟩
  case fin =>
    rintro ⟨b1, b2⟩ s2 ⟨hb2, rfl, i, hz⟩
    simp only at hb2
    subst hb2
    wp_walk
    exact by simpa [Builtin.Tuple.tupleCompareSizes, hsz] using hR
  case h => exact ⟨rfl, rfl, 0, rfl⟩
theorem vf_rcP_tuples {A : Around} {s : Shared} {a b : Addr} {xs ys : Array Value} (ha : s.heap.IsTuple a xs) (hb : s.heap.IsTuple b ys) (hsz : xs.size = ys.size) (hu : A.units < cLine)
    (he : ∀ j (h1 : j < xs.size) (h2 : j < ys.size), EqP P w A.in1 s xs[j] ys[j] true) (E Q : Value → Shared → Prop) (h : Q (.bool true) s) : wpAny (model P w) A (richCompare .Eq (.ref a) (.ref b)) Q E s := by
  obtain ⟨⟨c1, e1, f1, z1⟩, ho, hc, m, hd⟩ := id ha
  obtain ⟨⟨c2, e2, f2, z2⟩, ho2, hc2, m2, hd2⟩ := id hb
  simp only at hc hd hc2 hd2
  subst hc hd hc2 hd2
  have ta : s.TypeIs (.ref a) "tuple" := ⟨_, ho, rfl⟩
  have tb : s.TypeIs (.ref b) "tuple" := ⟨_, ho2, rfl⟩
  exact wpAny_richCompare_same_room (op := .Eq) ta tb F.slot_tuple_eq (call_meetsIn F.slot_tuple_eq ta F.entry_tuple_eq (F.args_tuple_eq_2 _ _) (vf_tuple_eqIn a b xs ys m m2 e1 e2 z1 z2 hsz)
    ⟨ho, ho2, he, show Value.bool true ≠ Value.notImplemented ∧ Q (.bool true) s from ⟨(fun x => nomatch x), h⟩⟩) hu
theorem vf_tuple_neIn (a b : Addr) (xs ys : Array Value) (m m2 : Nat) (d1 d2 : Option Addr) (z1 z2 : Array (Option Value)) (hsz : xs.size = ys.size) :
    MeetsIn P w (Builtin.«tuple.__ne__» ⟨[.ref a, .ref b], []⟩)
      (fun A R s => s.heap.get? a = some { cls := .type "tuple", dict := d1, data := .seq xs m, slots := z1 } ∧ s.heap.get? b = some { cls := .type "tuple", dict := d2, data := .seq ys m2, slots := z2 } ∧
        (∀ j (h1 : j < xs.size) (h2 : j < ys.size), EqP P w A.in1 s xs[j] ys[j] true) ∧ R (.ok (.ret (.bool false))) s) := by
  intro A R s h
  obtain ⟨hp, g, d, tk, os⟩ := s
  obtain ⟨ha, hb, he, hR⟩ := h
  have f2 := AutoSeq1.sub_tuple_tuple
  have hZ : (xs.toList.zip ys.toList).length = xs.size := by simp [hsz]
  wp_walk using wpAny_loadPart' ha, wpAny_loadPart' hb, wpAny_forIn_list _ (fun rest b s' => b.1 = none ∧ s' = ⟨hp, g, d, tk, os⟩ ∧ ∃ i, rest = (xs.toList.zip ys.toList).drop i) _
  case turn =>
    rintro ⟨y, x⟩ rest b2 s2 ⟨hb2, rfl, i, hz⟩
    have hlt : i < (xs.toList.zip ys.toList).length := by
      rcases Nat.lt_or_ge i (xs.toList.zip ys.toList).length with h2 | h2
      · exact h2
      · rw [List.drop_of_length_le h2] at hz
        cases hz
    have h1 : i < xs.size := hZ ▸ hlt
    have h2 : i < ys.size := hsz ▸ h1
    rw [List.drop_eq_getElem_cons hlt] at hz
    injection hz with hyx hrest
    have hy : y = xs[i] := by
      have := congrArg Prod.fst hyx
      simpa using this
    have hx : x = ys[i] := by
      have := congrArg Prod.snd hyx
      simpa using this
    subst hy hx
    refine wpAny_bind (he i h1 h2 _ _ ?_)
    wp_walk
    exact ⟨rfl, rfl, i + 1, hrest⟩
  case fin =>
    rintro ⟨b1, b2⟩ s2 ⟨hb2, rfl, i, hz⟩
    simp only at hb2
    subst hb2
    wp_walk
    exact by simpa [Builtin.Tuple.tupleCompareSizes, hsz] using hR
  case h => exact ⟨rfl, rfl, 0, rfl⟩
theorem vf_rcP_tuples_ne {A : Around} {s : Shared} {a b : Addr} {xs ys : Array Value} (ha : s.heap.IsTuple a xs) (hb : s.heap.IsTuple b ys) (hsz : xs.size = ys.size) (hu : A.units < cLine)
    (he : ∀ j (h1 : j < xs.size) (h2 : j < ys.size), EqP P w A.in1 s xs[j] ys[j] true) (E Q : Value → Shared → Prop) (h : Q (.bool false) s) : wpAny (model P w) A (richCompare .NotEq (.ref a) (.ref b)) Q E s := by
  obtain ⟨⟨c1, e1, f1, z1⟩, ho, hc, m, hd⟩ := id ha
  obtain ⟨⟨c2, e2, f2, z2⟩, ho2, hc2, m2, hd2⟩ := id hb
  simp only at hc hd hc2 hd2
  subst hc hd hc2 hd2
  have ta : s.TypeIs (.ref a) "tuple" := ⟨_, ho, rfl⟩
  have tb : s.TypeIs (.ref b) "tuple" := ⟨_, ho2, rfl⟩
  exact wpAny_richCompare_same_room (op := .NotEq) ta tb F.slot_tuple_ne (call_meetsIn F.slot_tuple_ne ta F.entry_tuple_ne (F.args_tuple_ne_2 _ _) (vf_tuple_neIn a b xs ys m m2 e1 e2 z1 z2 hsz)
    ⟨ho, ho2, he, show Value.bool false ≠ Value.notImplemented ∧ Q (.bool false) s from ⟨(fun x => nomatch x), h⟩⟩) hu
end
end PySem.SeqAt

namespace Vf
open PySem PySem.Spec PyProof.Rows L2 TL Evl
/-! ## things that are equal item by item -/
def QR (K : PySem.W.Frag) (H : Hp) (E : V → V → Prop) (x y : V) : Prop := EqR K H E x y ∨ ∃ a b xs ys, x = .ref a ∧ y = .ref b ∧ SqT K H a xs ∧ SqT K H b ys ∧ Paired E xs ys
def QV (K : PySem.W.Frag) (H : Hp) : Nat → V → V → Prop
  | 0 => fun _ _ => False
  | n + 1 => fun x y => (x = y ∧ flatB x = true) ∨ (∃ a, x = .ref a ∧ y = .ref a) ∨ QR K H (QV K H n) x y
section
variable {X : Cx} {pins : List (Addr × Obj)} {σ : L2.St} {H : Hp} {s : Shared}
theorem tups_in {A : Around} {F : V → V → Prop} (I : Inv X pins σ H s) (ih : ∀ x y v u, F x y → RelV x v → RelV y u → SeqAt.EqP X.prog X.w A.in1 s v u true) {a b : Addr} {xs ys : List V} (ha : SqT X.K H a xs) (hb : SqT X.K H b ys) (hp : Paired F xs ys) :
    ∃ us ws : Array Value, s.heap.IsTuple a us ∧ s.heap.IsTuple b ws ∧ us.size = ws.size ∧ ∀ j (h1 : j < us.size) (h2 : j < ws.size), SeqAt.EqP X.prog X.w A.in1 s us[j] ws[j] true := by
  obtain ⟨us, r1, p1, _⟩ := I.tuple ha
  obtain ⟨ws, r2, p2, _⟩ := I.tuple hb
  refine ⟨us.toArray, ws.toArray, p1, p2, ?_, fun j h1 h2 => ?_⟩
  · rw [List.size_toArray, List.size_toArray, ← r1.length, ← r2.length]
    exact paired_len hp
  · have k := items_run ih hp r1 r2 j (by simpa using h1) (by simpa using h2)
    simpa using k
theorem qR_run (I : Inv X pins σ H s) {A : Around} {F : V → V → Prop} (hu : A.units < cLine) (ih : ∀ x y v u, F x y → RelV x v → RelV y u → SeqAt.EqP X.prog X.w A.in1 s v u true) {x y : V} {v u : Value} (h : QR X.K H F x y) (rx : RelV x v) (ry : RelV y u)
    (E Q : Value → Shared → Prop) (q : Q (.bool true) s) : wpAny (model X.prog X.w) A (richCompare .Eq v u) Q E s := by
  rcases h with h | ⟨a, b, xs, ys, rfl, rfl, ha, hb, hp⟩
  · exact eqR_run I hu ih h rx ry E Q q
  · cases (show v = Value.ref a from rx)
    cases (show u = Value.ref b from ry)
    obtain ⟨us, ws, p1, p2, hsz, hj⟩ := tups_in I ih ha hb hp
    exact SeqAt.vf_rcP_tuples p1 p2 hsz hu hj E Q q
theorem qV_run (I : Inv X pins σ H s) : ∀ (n : Nat) (A : Around), A.units + n < cLine → ∀ (x y : V) (v u : Value), QV X.K H n x y → RelV x v → RelV y u → SeqAt.EqP X.prog X.w A s v u true
  | 0, _, _, _, _, _, _, h, _, _ => (show False from h).elim
  | n + 1, A, hu, x, y, v, u, h, rx, ry => by
    rcases h with ⟨rfl, f⟩ | ⟨a, rfl, rfl⟩ | h
    · exact (eqAt_same rx ry f).eqP
    · cases (show v = Value.ref a from rx)
      cases (show u = Value.ref a from ry)
      exact (SeqAt.EqAt.same _).eqP
    · have step := qR_run I (A := A) (by omega) (qV_run I n A.in1 (by show A.units + 1 + n < cLine; omega)) h rx ry
      obtain ⟨a, b, rfl, rfl⟩ : ∃ a b, x = .ref a ∧ y = .ref b := by
        rcases h with (⟨a, b, _, _, e1, e2, _⟩ | ⟨a, b, _, _, e1, e2, _⟩) | ⟨a, b, _, _, e1, e2, _⟩ <;> exact ⟨a, b, e1, e2⟩
      cases (show v = Value.ref a from rx)
      cases (show u = Value.ref b from ry)
      by_cases e : a = b
      · subst e
        exact (SeqAt.EqAt.same _).eqP
      · exact SeqAt.eqP_refs e step
/-- equal, whatever the items; for lists, dicts and tuples -/
def rQEq (K : PySem.W.Frag) : R2 := fun x y H Q => ∃ n, n ≤ 60 ∧ QR K H (QV K H n) x y ∧ Q (.bl true) H
theorem op_qEqK (K : PySem.W.Frag) (hu : X.A.units + 64 < cLine) (h : X.K = K := by rfl) : OpR X (compareOp .Eq) (rQEq K) := by
  subst h
  intro pins s σ H x y v u Q I rx ry ⟨n, hn, h, q⟩
  exact qR_run I (A := X.A) (by omega) (qV_run I n X.A.in1 (by show X.A.units + 1 + n < cLine; omega)) h rx ry _ _ ⟨.bl true, H, I, rfl, q⟩
/-- not unequal: two tuples -/
def rQNeT (K : PySem.W.Frag) : R2 := fun x y H Q => ∃ n, n ≤ 60 ∧ (∃ a b xs ys, x = .ref a ∧ y = .ref b ∧ SqT K H a xs ∧ SqT K H b ys ∧ Paired (QV K H n) xs ys) ∧ Q (.bl false) H
theorem op_qNeTK (K : PySem.W.Frag) (hu : X.A.units + 64 < cLine) (h : X.K = K := by rfl) : OpR X (compareOp .NotEq) (rQNeT K) := by
  subst h
  intro pins s σ H x y v u Q I rx ry ⟨n, hn, ⟨a, b, xs, ys, e1, e2, ha, hb, hp⟩, q⟩
  subst e1 e2
  cases (show v = Value.ref a from rx)
  cases (show u = Value.ref b from ry)
  obtain ⟨us, ws, p1, p2, hsz, hj⟩ := tups_in (A := X.A) I (qV_run I n X.A.in1 (by show X.A.units + 1 + n < cLine; omega)) ha hb hp
  exact SeqAt.vf_rcP_tuples_ne p1 p2 hsz (by omega) hj _ _ ⟨.bl false, H, I, rfl, q⟩
end
end Vf

/-! Own layer: comprehensions to tuples; walks over lists of tuples; tuples of dicts; a text or a dict; calls that may raise. -/
namespace Vf
open PySem PySem.Spec PyProof.Rows L2 TL Evl
section
variable {K : PySem.W.Frag} {σ : L2.St} {H H1 H2 : Hp} {ta tb te td tl' : TE} {t : TT} {p pl d : Addr} {kvs : List (Key × V)} {jx i : Nat} {ws : List Nat} {D : Ends} {tz tu : TS}
/-! ## comprehensions to tuples, over lists -/
theorem u_filC {γ : Type} {f : γ → V} {m : List γ} (c : γ → Bool) (g : γ → List V) (dv : γ) {HB : Hp} {Q : VK} (hS : SqL K HB pl (m.map f)) (hz : m.length ≤ 40000)
    (ht : ∀ y ∈ m, EvT t ((wipe σ ws).set jx (some (f y))) HB (c y)) (he : ∀ y ∈ m, c y = true → EvU te ((wipe σ ws).set jx (some (f y))) HB (g y)) (hw : ∀ w, wipe ((wipe σ ws).set jx (some w)) ws = wipe σ ws)
    (q : ∀ Dl H', HB Dl = none → Ex HB H' → IsLU K H' Dl ((m.filter c).map g) → Q (.ref Dl) H') : ∀ Dl, HB Dl = none → ∃ W : Nat → Nat → Hp → Prop, (∃ n, W 0 n (upd HB Dl (.lst []))) ∧ ∀ k n H', W k n H' →
      ((Itl K pl).stop k H' ∧ Q (.ref Dl) H') ∨ ((Itl K pl).go k H' ∧ ∃ Nx : Hp → Prop, (∀ H3, Nx H3 → ∃ n', n' < n ∧ W (k + 1) n' H3) ∧ ∀ x H3, (Itl K pl).yld k H' x H3 → (gName jx) x (wipe σ ws) H3 fun σ2 H4 => wipe σ2 ws = wipe σ ws ∧ t σ2 H4 fun b H5 =>
        if b = true then te σ2 H5 fun y H6 => ∃ acc, H6 Dl = some (.lst acc) ∧ acc.length < sizeLine ∧ Nx (upd H6 Dl (.lst (acc ++ [y]))) else Nx H5) := fun Dl hD =>
  lc_list (xs := m.map f) (fun k H' => k ≤ m.length ∧ Tw K HB Dl (((m.take k).filter c).map g) H') ⟨Nat.zero_le _, by rw [List.take_zero]; exact tw_new hD⟩ (fun k H' _ hI => ex_l hI.2.2.1 hS) (fun k x H' hx hI => by
    obtain ⟨hk, hC⟩ := hI
    have hlt : k < m.length := by
      have := (List.getElem?_eq_some_iff.mp hx).1
      rw [List.length_map] at this
      exact this
    obtain ⟨hm, ew⟩ := map_at dv hx
    rw [ew]
    have hst := fil_take c g m k dv hlt
    have hl : (((m.take k).filter c).map g).length < 50000 := by
      rw [List.length_map]
      have h1 := List.length_filter_le c (m.take k)
      rw [List.length_take] at h1
      omega
    refine ⟨hw _, tw_turn hC hl (ht _ hm) (he _ hm) fun H6 _ h6 => ⟨hlt, ?_⟩⟩
    rw [hst]
    exact h6) (fun H' hI => by
    rw [List.length_map, List.take_length] at hI
    exact q Dl H' hI.2.1 hI.2.2.1 hI.2.2.2)
theorem u_filL {γ : Type} {f : γ → V} {m : List γ} (c : γ → Bool) (g : γ → List V) (dv : γ) (h : Ev tl' σ H (.ref pl)) (hS : SqL K H pl (m.map f)) (hz : m.length ≤ 40000)
    (ht : ∀ y ∈ m, EvT t ((wipe σ ws).set jx (some (f y))) H (c y)) (he : ∀ y ∈ m, c y = true → EvU te ((wipe σ ws).set jx (some (f y))) H (g y)) (hw : ∀ w, wipe ((wipe σ ws).set jx (some w)) ws = wipe σ ws := by exact fun _ => rfl) :
    EvU2 K (tLc (iList K tl') (gName jx) t te ws) σ H ((m.filter c).map g) := fun H0 e0 Q q => h H0 e0 _ fun H1 e1 => ⟨pl, rfl, ⟨_, ex_l (e0.trans e1) hS⟩,
  u_filC c g dv (ex_l (e0.trans e1) hS) hz (fun y hy => fun H3 e3 => ht y hy H3 ((e0.trans e1).trans e3)) (fun y hy hc => fun H3 e3 => he y hy hc H3 ((e0.trans e1).trans e3)) hw fun Dl H' hD e' hI => q Dl H' (fresh_back e1 hD) (e1.trans e') hI⟩
theorem u_filN {γ : Type} {f : γ → V} {m : List γ} (c : γ → Bool) (g : γ → List V) (dv : γ) (h : EvL tl' σ H (m.map f)) (hz : m.length ≤ 40000)
    (ht : ∀ y ∈ m, EvT t ((wipe σ ws).set jx (some (f y))) H (c y)) (he : ∀ y ∈ m, c y = true → EvU te ((wipe σ ws).set jx (some (f y))) H (g y)) (hw : ∀ w, wipe ((wipe σ ws).set jx (some w)) ws = wipe σ ws := by exact fun _ => rfl) :
    EvU2 K (tLc (iList K tl') (gName jx) t te ws) σ H ((m.filter c).map g) := fun H0 e0 Q q => h H0 e0 _ fun pl H1 np e1 hp => ⟨pl, rfl, ⟨_, sq_of hp⟩,
  u_filC c g dv (sq_of hp) hz (fun y hy => fun H3 e3 => ht y hy H3 ((e0.trans e1).trans e3)) (fun y hy hc => fun H3 e3 => he y hy hc H3 ((e0.trans e1).trans e3)) hw fun Dl H' hD e' hI => q Dl H' (fresh_back e1 hD) (e1.trans e') hI⟩
/-- over a tuple of plain things -/
theorem l_filU {β γ : Type} {f : γ → V} {f2 : β → V} {m : List γ} {tp : Addr} (c : γ → Bool) (g : γ → β) (dv : γ) (h : Ev tl' σ H (.ref tp)) (hS : SqT K H tp (m.map f)) (hz : m.length ≤ 40000)
    (ht : ∀ y ∈ m, EvT t ((wipe σ ws).set jx (some (f y))) H (c y)) (he : ∀ y ∈ m, c y = true → Ev te ((wipe σ ws).set jx (some (f y))) H (f2 (g y))) (hw : ∀ w, wipe ((wipe σ ws).set jx (some w)) ws = wipe σ ws := by exact fun _ => rfl) :
    EvL (tLc (iTup K tl') (gName jx) t te ws) σ H (((m.filter c).map g).map f2) := fun H0 e0 Q q => h H0 e0 _ fun H1 e1 => ⟨tp, rfl, ⟨_, ex_t (e0.trans e1) hS⟩, fun Dl hD =>
  lc_tup (xs := m.map f) (Cw H1 (fun k => c (m.getD k dv)) (fun k => f2 (g (m.getD k dv))) Dl) ⟨hD, Ex.new hD, upd_same⟩ (fun k H' _ hC => ex_t ((e0.trans e1).trans hC.2.1) hS) (fun k x H' hx hC => by
    obtain ⟨hm, ew⟩ := map_at dv hx
    have hlt := (List.getElem?_eq_some_iff.mp hx).1
    rw [List.length_map] at hlt
    rw [ew]
    exact ⟨hw _, cw_turn hC (by omega) (fun H3 e3 => ht _ hm H3 ((e0.trans e1).trans e3)) (fun hc => fun H3 e3 => he _ hm hc H3 ((e0.trans e1).trans e3))⟩) (fun H' hC => by
    have h3 := hC.2.2
    rw [List.length_map, given_filter] at h3
    exact q Dl H' (fresh_back e1 hC.1) (e1.trans hC.2.1) h3)⟩
/-- those of a list of tuples that fit: how many there are -/
theorem e_lenFil {l : List (List Tx)} (c : List Tx → Bool) (h : Ev tl' σ H (.ref pl)) (hp : IsLUr K H pl (l.map (List.map vs))) (hz : l.length ≤ 40000)
    (ht : ∀ q ∈ l, ∀ a H3, Ex H H3 → SqT K H3 a (q.map vs) → EvT t ((wipe σ ws).set jx (some (.ref a))) H3 (c q)) (he : ∀ a H3, Ev te ((wipe σ ws).set jx (some (.ref a))) H3 (.ref a)) (hw : ∀ w, wipe ((wipe σ ws).set jx (some w)) ws = wipe σ ws := by exact fun _ => rfl) :
    Ev (tCB (rLenS K) (tCons (tLc (iList K tl') (gName jx) t te ws) tNil)) σ H (.int ((l.filter c).length : Int)) := fun H0 e0 Q q => h H0 e0 _ fun H1 e1 => by
  obtain ⟨ts, h1, h2⟩ := hp.ex (e0.trans e1)
  refine ⟨pl, rfl, ⟨_, h1⟩, fun Dl hD => ?_⟩
  have hlen : ts.length = l.length := by rw [paired_len h2, List.length_map]
  refine lc_list (xs := ts.map V.ref) (fun k H' => k ≤ l.length ∧ H1 Dl = none ∧ Ex H1 H' ∧ ∃ us : List V, H' Dl = some (.lst us) ∧ us.length = ((l.take k).filter c).length) ⟨Nat.zero_le _, hD, Ex.new hD, [], upd_same, rfl⟩ (fun k H' _ hI => ex_l hI.2.2.1 h1) (fun k x H' hx hI => ?_) (fun H' hI => ?_)
  · obtain ⟨hk, _, e2, us, hu, hul⟩ := hI
    obtain ⟨a, y, rfl, hy, ha⟩ := tup_at (ts := ts) (i := k) h2 hx
    rw [List.getElem?_map] at hy
    cases hy2 : l[k]? with
    | none =>
      rw [hy2] at hy
      cases hy
    | some y2 =>
      rw [hy2] at hy
      have ey : y2.map vs = y := Option.some.inj hy
      subst ey
      have hlt := (List.getElem?_eq_some_iff.mp hy2).1
      have hst : (l.take (k + 1)).filter c = (l.take k).filter c ++ (if c y2 = true then [y2] else []) := by
        rw [List.take_add_one, hy2, List.filter_append]
        congr 1
        show [y2].filter c = _
        rw [List.filter_cons]
        rfl
      have hle : us.length ≤ 40000 := by
        rw [hul]
        have h5 := List.length_filter_le c (l.take k)
        rw [List.length_take] at h5
        omega
      refine ⟨hw _, ht y2 (List.mem_of_getElem? hy2) a H' ((e0.trans e1).trans e2) (ex_t e2 ha) H' (Ex.refl H') _ fun H3 e3 => ?_⟩
      cases hc : c y2 with
      | false =>
        rw [if_neg Bool.false_ne_true]
        rw [hc, if_neg Bool.false_ne_true, List.append_nil] at hst
        exact ⟨hlt, hD, e2.trans e3, us, e3 Dl _ hu, by rw [hst]; exact hul⟩
      | true =>
        rw [if_pos rfl]
        rw [hc, if_pos rfl] at hst
        refine he a H3 H3 (Ex.refl H3) _ fun H4 e4 => ⟨us, e4 Dl _ (e3 Dl _ hu), sz_lt (by omega), hlt, hD, Ex.mut ((e2.trans e3).trans e4) hD, us ++ [.ref a], upd_same, ?_⟩
        rw [hst, List.length_append, List.length_append, hul]
        rfl
  · obtain ⟨_, _, e2, us, hu, hul⟩ := hI
    rw [List.length_map, hlen, List.take_length] at hul
    refine ⟨Dl, us, rfl, Or.inl (sq_of hu), ?_⟩
    rw [hul]
    exact q H' (e1.trans e2)
/-! ## a walk over a list of tuples -/
def BodyOkU (K : PySem.W.Frag) {S R : Type} (tu : TS) (D : Ends) (j : Nat) (step : S → List Tx → Stp S R) (l : List (List Tx)) (s0 : S) (Rep : S → L2.St → Hp → Prop) : Prop :=
  ∀ (Nx Bk : L2.St → Hp → Prop) (i : Nat) (s : S) (y : List Tx) (a : Addr) (σ1 : L2.St) (H1 : Hp), l[i]? = some y → runL step (l.take i) s0 = .go s → Rep s σ1 H1 → SqT K H1 a (y.map vs) → (∀ s2 σ2 H2, step s y = .go s2 → Rep s2 σ2 H2 → Nx σ2 H2) → (∀ s2 σ2 H2, step s y = .brk s2 → Rep s2 σ2 H2 → Bk σ2 H2) →
    (∀ r, step s y = .ret r → runL step l s0 = .ret r) → tu { D with nx := Nx, ct := Nx, bk := Bk } (σ1.set j (some (.ref a))) H1
theorem q_loopU {S R : Type} {l : List (List Tx)} (step : S → List Tx → Stp S R) (s0 : S) (Rep : List Addr → S → L2.St → Hp → Prop) {j : Nat} {H0 : Hp} (h : Ev tl' σ H (.ref pl)) (hS : IsLUr K H0 pl (l.map (List.map vs))) (r0 : RX H0 H)
    (h0 : ∀ ts H1, Ex H H1 → SqL K H0 pl (ts.map V.ref) → TupsAt K H0 ts (l.map (List.map vs)) → Rep ts s0 σ H1) (hl : ∀ ts s σ1 H1, SqL K H0 pl (ts.map V.ref) → TupsAt K H0 ts (l.map (List.map vs)) → Rep ts s σ1 H1 → SqL K H1 pl (ts.map V.ref) ∧ TupsAt K H1 ts (l.map (List.map vs)))
    (hb : ∀ ts, BodyOkU K tu D j step l s0 (Rep ts)) (ho : ∀ ts, OutOk tz D step l s0 (Rep ts)) : tSeq (tFor (iList K tl') (gName j) tu) tz D σ H := by
  obtain ⟨ts, hA, hB⟩ := hS
  have hlen : ts.length = l.length := by
    rw [paired_len hB, List.length_map]
  refine q_forLn h (rx_l r0 hA) (fun i σ1 H1 => ∃ s, runL step (l.take i) s0 = .go s ∧ Rep ts s σ1 H1) (fun H1 e => ⟨s0, rfl, h0 ts H1 e hA hB⟩) (fun i σ1 H1 _ ⟨s, _, q⟩ => (hl ts s σ1 H1 hA hB q).1) (fun i x σ1 H1 hx q => ?_) (fun σ1 H1 q => loop_end (ho ts) (by rw [List.length_map]; exact hlen) q)
  obtain ⟨s, hr, hq⟩ := q
  obtain ⟨a, y, rfl, hy, ha⟩ := tup_at (ts := ts) (i := i) (hl ts s σ1 H1 hA hB hq).2 hx
  cases hy2 : l[i]? with
  | none =>
    rw [List.getElem?_map, hy2] at hy
    cases hy
  | some y2 =>
    rw [List.getElem?_map, hy2] at hy
    have e : y2.map vs = y := Option.some.inj hy
    subst e
    have hn := runL_next hr hy2
    exact hb ts _ _ i s y2 a σ1 H1 hy2 hr hq ha (fun s2 σ2 H2 e q => ⟨s2, hn.trans e, q⟩) (fun s2 σ2 H2 e q => ho ts s2 σ2 H2 (Or.inr (runL_out (hn.trans e) (fun _ z => by cases z))) q) (fun r e => runL_out (hn.trans e) (fun _ z => by cases z))
/-! ## deep data compared -/
def EvP (K : PySem.W.Frag) (te : TE) (σ : L2.St) (H : Hp) (d : PyData) : Prop := ∀ H1, Ex H H1 → ∀ Q : VK, (∀ v H2, Ex H1 H2 → Dp K H2 v d → Q v H2) → te σ H1 Q
theorem dp_LUr {l : List (List Tx)} (h : IsLUr K H p (l.map (List.map vs))) : Dp K H (.ref p) (duD l) := by
  obtain ⟨ts, a, b⟩ := h
  exact .lst a (dp_tups b)
theorem ep_u2 {l : List (List Tx)} (h : EvU2 K te σ H (l.map (List.map vs))) : EvP K te σ H (duD l) := fun H1 e Q q => h H1 e _ fun p H2 _ e2 hp => q _ H2 e2 (dp_LUr hp.r)
theorem ep_lu {l : List (List Tx)} (h : Ev te σ H (.ref p)) (hp : IsLUr K H p (l.map (List.map vs))) : EvP K te σ H (duD l) := fun H1 e Q q => h H1 e _ fun H2 e2 => q _ H2 e2 (dp_LUr (hp.ex (e.trans e2)))
theorem dp_ex {v : V} {d : PyData} (e : Ex H H2) (h : Dp K H v d) : Dp K H2 v d := by
  refine Dp.rec (motive_1 := fun v d _ => Dp K H2 v d) (motive_2 := fun v d _ => DpAll K H2 v d) .non .bl .int .str (fun a _ ih => .lst (ex_l e a) ih) (fun a _ ih => .tup (ex_t e a) ih) .nil (fun _ _ a b => .cons a b) h
theorem e_eqP {a b : PyData} (ha : EvP K ta σ H a) (hb : EvP K tb σ H b) (sa : SeqAt.shaped a = true) (sb : SeqAt.shaped b = true) : Ev (tOp (rEqD K) ta tb) σ H (.bl (PyData.eqv a b)) := fun H1 e1 Q q =>
  ha H1 e1 _ fun v H2 e2 hv => hb H2 (e1.trans e2) _ fun u H3 e3 hu => ⟨a, b, dp_ex e3 hv, hu, sa, sb, q H3 (e2.trans e3)⟩
theorem e_neP {a b : PyData} (ha : EvP K ta σ H a) (hb : EvP K tb σ H b) (sa : SeqAt.shaped a = true) (sb : SeqAt.shaped b = true) : Ev (tOp (rNeD K) ta tb) σ H (.bl (!PyData.eqv a b)) := fun H1 e1 Q q =>
  ha H1 e1 _ fun v H2 e2 hv => hb H2 (e1.trans e2) _ fun u H3 e3 hu => ⟨a, b, dp_ex e3 hv, hu, sa, sb, q H3 (e2.trans e3)⟩
theorem op_neDK {X : Cx} (K : PySem.W.Frag) (hu : X.A.units + 64 < cLine) (h : X.K = K := by rfl) : OpR X (compareOp .NotEq) (rNeD K) := h ▸ op_neD hu
theorem eqv_strs : ∀ q r : List Tx, PyData.eqvAll (q.map fun p => PyData.str (mk p)) (r.map fun p => PyData.str (mk p)) = decide (q = r)
  | [], [] => rfl
  | [], _ :: _ => rfl
  | _ :: _, [] => rfl
  | a :: q, b :: r => by
    have ih := eqv_strs q r
    show (PyData.eqv (.str (mk a)) (.str (mk b)) && PyData.eqvAll _ _) = _
    rw [ih]
    have h1 : PyData.eqv (.str (mk a)) (.str (mk b)) = decide (a = b) := by
      show (mk a == mk b) = _
      by_cases h : a = b
      · subst h
        rw [decide_eq_true rfl]
        exact beq_self_eq_true _
      · rw [decide_eq_false h]
        exact beq_eq_false_iff_ne.mpr fun z => h (mk_inj z)
    rw [h1]
    by_cases h : a = b
    · subst h
      by_cases h2 : q = r
      · subst h2
        simp
      · simp [h2]
    · simp [h]
theorem eqv_tups : ∀ l m : List (List Tx), PyData.eqvAll (l.map fun q => PyData.tuple (q.map fun p => .str (mk p))) (m.map fun q => PyData.tuple (q.map fun p => .str (mk p))) = decide (l = m)
  | [], [] => rfl
  | [], _ :: _ => rfl
  | _ :: _, [] => rfl
  | a :: q, b :: r => by
    have ih := eqv_tups q r
    have h1 : PyData.eqv (.tuple (a.map fun p => .str (mk p))) (.tuple (b.map fun p => .str (mk p))) = decide (a = b) := eqv_strs a b
    show (PyData.eqv _ _ && PyData.eqvAll _ _) = _
    rw [ih, h1]
    by_cases h : a = b
    · subst h
      by_cases h2 : q = r
      · subst h2
        simp
      · simp [h2]
    · simp [h]
theorem eqv_duD (l m : List (List Tx)) : PyData.eqv (duD l) (duD m) = decide (l = m) := eqv_tups l m
theorem e_eqLUd {l m : List (List Tx)} (ha : EvP K ta σ H (duD l)) (hb : EvP K tb σ H (duD m)) (sa : ∀ q ∈ l, ∀ p ∈ q, okT p) (sb : ∀ q ∈ m, ∀ p ∈ q, okT p) : Ev (tOp (rEqD K) ta tb) σ H (.bl (decide (l = m))) := eqv_duD l m ▸ e_eqP ha hb (shaped_LU sa) (shaped_LU sb)
theorem e_neLUd {l m : List (List Tx)} (ha : EvP K ta σ H (duD l)) (hb : EvP K tb σ H (duD m)) (sa : ∀ q ∈ l, ∀ p ∈ q, okT p) (sb : ∀ q ∈ m, ∀ p ∈ q, okT p) : Ev (tOp (rNeD K) ta tb) σ H (.bl (!decide (l = m))) := eqv_duD l m ▸ e_neP ha hb (shaped_LU sa) (shaped_LU sb)
end
end Vf

/-! Own layer: several except clauses, each with a name. -/
namespace Vf
open PySem PySem.Spec PyProof.Rows L2 TL Evl
abbrev HL := List (Value × (Addr → Value → Option Addr → TS))
/-- what named clauses wish of an error of the body -/
def wManyA (K : PySem.W.Frag) (i : Nat) (Wz : WX) (D : Ends) : HL → WX
  | [] => Wz
  | (c, ts) :: r => fun cls d σ H => ∃ b, PySem.W.exmOne K cls c = some b ∧ (b = true → ∀ a, H a = none → ts a cls d { D with nx := fun σ2 H2 => D.nx (σ2.set i none) H2, bk := fun σ2 H2 => D.bk (σ2.set i none) H2, ct := fun σ2 H2 => D.ct (σ2.set i none) H2 } (σ.set i (some (.ref a))) H) ∧ (b = false → wManyA K i Wz D r cls d σ H)
inductive HdsA (X : Cx) (n : Str) : List ExceptHandler → HL → Prop
  | nil : HdsA X n [] []
  | cons {x : Str} {c : Value} {ts : Addr → Value → Option Addr → TS} {b0 : Stmt} {su : List Stmt} {np pz : Pos} {hds : List ExceptHandler} {l : HL} (hc : Names X x c)
      (hsu : ∀ (a : Addr) (oe : Obj) (cls : Value) (d : Option Addr) (pn : List (Addr × Obj)), L2N.Zn cls d oe → (∃ us, oe.data = .fields us) → PSs (X.suite a ((a, oe) :: pn)) (b0 :: su) (ts a cls d)) (r : HdsA X n hds l) :
      HdsA X n (.ExceptHandler (some (.Name x np)) (some n) (b0 :: su) pz :: hds) ((c, ts) :: l)
section
variable {X : Cx} {body : List Stmt} {n : Str} {i : Nat} {h0 : ExceptHandler} {hds : List ExceptHandler} {l : HL} {pos : Pos} {tb : WX → TS} {Wz : WX}
theorem ps_try_manyA (hs : X.stack = X.env :: X.outer) (hf : X.env.frame = some X.env.locals) (hN : X.N.Nodup) (hi : X.N[i]? = some n) (hln : X.env.kindOf n = some .local) (tk : L2N.Takes X Wz)
    (hb : ∀ (W : WX) (pn : List (Addr × Obj)) (xe : Value → Shared → Prop), L2N.Takes (X.tr pn xe) W → PassesOwn (model X.prog X.w) X.A X.env xe → PSs (X.tr pn xe) body (tb W))
    (hh : HdsA X n (h0 :: hds) l) : PS X (.Try body (h0 :: hds) [] [] pos) (fun D σ H => tb (wManyA X.K i Wz D l) D σ H) := by
  refine ⟨fun pins s σ H D I h => ?_⟩
  have ok := I.ok
  have hfrm : X.A.frames = some (X.env :: X.outer) := by rw [ok.frames, hs]
  have hloc2 : Loc X.env.scope n := .inl hln
  refine wpAny_Try_except ?_
  refine wpAny_mono ((hb (wManyA X.K i Wz D l) (X.pn ++ pins) (fun e s1 => wpAny (model X.prog X.w) X.A (noteFrame e X.env) (fun _ s2 => wpAny (model X.prog X.w) X.A (setFlight e none) (fun _ s3 =>
    wpAny (model X.prog X.w) X.A (handleBy e X.env (h0 :: hds)) (SP X pins D) X.xe s3) X.xe s2) X.xe s1) (fun u sb xx => ?_) PassesOwn.looking).run [] s σ H D (I.toTry _) h) (fun f s1 hsp => ?_) (fun e s1 he => he)
  · obtain ⟨a, B, sI, pinsb, σb, Hb, cls, d, rfl, Jb, nb, up, sky, na, os, ag, w⟩ := xx
    have J : Inv X pins σb Hb sI := Jb.ofTry ok
    have skyb : Sky B (X.env :: X.outer) a (L2N.Zn cls d) X.env.locals sb.heap := by rw [← hs]; exact sky
    show wpAny (model X.prog X.w) X.A (noteFrame (.ref a) X.env) _ _ _
    refine L2N.Sky.land L2N.Zn.steady hfrm hf skyb fun hA fA upA => ?_
    have JA : Inv X pins σb Hb { sb with heap := hA } := J.landed nb fA.1 (up.trans upA) os ag
    obtain ⟨oeA, vsA, heA, hzA, hdA⟩ := fA.there
    have notF : ∀ {h : Heap} {o : Obj} {us : Array Value}, h.FunFrames B (X.env :: X.outer) → h.get? a = some o → o.data = .fields us → a ∉ frs (X.env :: X.outer) := fun {h o us} ff e dd hm => by
      obtain ⟨_, o2, e2, hnf⟩ := ff.mem hm
      rw [e] at e2
      cases e2
      exact hnf _ dd
    have nfrA := notF fA.2.2.1 heA hdA
    have nLA : a ≠ X.env.locals := fun z => nfrA (List.mem_filterMap.mpr ⟨X.env, List.mem_cons_self, by rw [hf, z]⟩)
    have nFA : a ∉ X.fs := fun hm => by
      obtain ⟨e, he, q⟩ := List.mem_filterMap.mp hm
      exact nfrA (List.mem_filterMap.mpr ⟨e, List.mem_cons_of_mem _ he, q⟩)
    have SA := JA.suite heA hdA na nLA nFA
    have go : ∀ {hds2 : List ExceptHandler} {l2 : HL}, HdsA X n hds2 l2 → wManyA X.K i Wz D l2 cls d σb Hb → wpAny (model X.prog X.w) X.A (handleBy (.ref a) X.env hds2) (SP X pins D) X.xe { sb with heap := hA } := by
      intro hds2 l2 hk
      induction hk with
      | nil =>
        intro w
        refine wpAny_handleBy_nil ?_
        obtain ⟨k1, k2, k3, oe, us, T, oT, tsb, he, hz, hd, h1, hr⟩ := id fA
        unfold PySem.passOn
        refine wpAny_bind (wpAny_field he hd h1 ?_)
        rw [if_neg (show ¬ ((Value.ref T == Value.none) = true) by simp)]
        have fin : wpAny (model X.prog X.w) X.A (setFlight (.ref a) X.env.frame) (fun _ s4 => wpAny (model X.prog X.w) X.A (throw (.ref a) : Sem Flow) (SP X pins D) X.xe s4) X.xe { sb with heap := hA } := by
          rw [hf]
          refine HandSPX.setFlight_upZ fA fun hB hhB upB => wpAny_throw (tk _ _ ?_)
          exact ⟨a, B, sI, pins, σb, Hb, cls, d, rfl, J, nb, (up.trans upA).trans upB, .inr (.inr (by rw [hs]; exact hhB)), na, os, ag, w⟩
        first
          | exact wpAny_bind (wpAny_pure (wpAny_bind fin))
          | exact wpAny_bind fin
      | @cons x c ts b0 su np pz hds3 l3 hc hsu r ih =>
        intro w
        obtain ⟨b, hb1, hyes, hno⟩ := w
        refine wpAny_handleBy_cons (codeAny_handlers_test ?_) (by intro q; cases q)
        have LT : PySem.W.Looks (model X.prog X.w) hA (typeOf (.ref a)) cls := fun A Q E s k q => wpAny_typeOf_ref (k _ _ heA) (by rw [hzA.1]; exact q)
        have LM := PySem.W.exm_one (M := model X.prog X.w) JA.kIn LT hb1
        have test : ∀ {Q : Value → Shared → Prop} {E : Value → Shared → Prop}, Q c { sb with heap := hA } → wpAny (model X.prog X.w) (X.A.mark (some (.ref a))) (eval (.Name x np) X.env) Q E { sb with heap := hA } := fun {Q E} q => by
          obtain ⟨hg, hdbg, hm | ⟨hm, hv, hnn⟩⟩ := hc
          · exact ld_glob (X := X.suite a ((a, oeA) :: (X.pn ++ pins))) SA hg hm q hdbg
          · exact ld_blt (X := X.suite a ((a, oeA) :: (X.pn ++ pins))) SA hg hm hv q hnn hdbg
        refine test (LM.here ?_)
        cases b with
        | true =>
          refine codeAny_handlers_suite_as ?_
          refine HandSPX.lands_againZ fA fun hB fB upB => ?_
          have JB : Inv X pins σb Hb { sb with heap := hB } := J.landed nb fB.1 ((up.trans upA).trans upB) os ag
          obtain ⟨oeB, vsB, heB, hzB, hdB⟩ := fB.there
          have SB := JB.suite heB hdB na nLA nFA
          refine store_ok (X := X.suite a ((a, oeB) :: (X.pn ++ pins))) (v := .ref a) SB hN hi hloc2 rfl (fun s5 S5 => ?_) (.inr hln)
          refine wpAny_mono ((hsu a oeB cls d (X.pn ++ pins) hzB ⟨_, hdB⟩).run [] s5 _ Hb _ S5 (hyes rfl a na)) (fun f s6 hsp => ?_) (fun _ _ z => False.elim z)
          have fin : ∀ {σ6 : L2.St} {H6 : Hp} {Q : Shared → Prop}, Inv (X.suite a ((a, oeB) :: (X.pn ++ pins))) [] σ6 H6 s6 → (∀ s7, Inv X pins (σ6.set i none) H6 s7 → Q s7) →
              wpAny (model X.prog X.w) X.A (do bindName X.env n .none; unbindBehindTheSuite X.env n pz) (fun _ s7 => Q s7) X.xe s6 := fun {σ6 H6 Q} S6 hq => gone_ok (S6.unsuite ok) hN hi hln hq
          cases f with
          | next =>
            obtain ⟨σ6, H6, S6, q6⟩ := hsp
            exact fin S6 fun s7 J7 => ⟨_, _, J7, q6⟩
          | brk =>
            obtain ⟨σ6, H6, S6, q6⟩ := hsp
            exact fin S6 fun s7 J7 => ⟨_, _, J7, q6⟩
          | cont =>
            obtain ⟨σ6, H6, S6, q6⟩ := hsp
            exact fin S6 fun s7 J7 => ⟨_, _, J7, q6⟩
          | ret u =>
            obtain ⟨v6, σ6, H6, S6, r6, q6⟩ := hsp
            exact fin S6 fun s7 J7 => ⟨_, _, _, J7, r6, q6⟩
        | false =>
          show wpAny _ X.A (handleBy (.ref a) X.env hds3) _ _ _
          exact ih (hno rfl)
    exact go hh w
  · cases f with
    | next =>
      obtain ⟨σb, Hb, Jb, q⟩ := hsp
      exact wpAny_execs_nil ⟨σb, Hb, Jb.ofTry ok, q⟩
    | brk =>
      obtain ⟨σb, Hb, Jb, q⟩ := hsp
      exact ⟨σb, Hb, Jb.ofTry ok, q⟩
    | cont =>
      obtain ⟨σb, Hb, Jb, q⟩ := hsp
      exact ⟨σb, Hb, Jb.ofTry ok, q⟩
    | ret u =>
      obtain ⟨v, σb, Hb, Jb, r, q⟩ := hsp
      exact ⟨v, σb, Hb, Jb.ofTry ok, r, q⟩
end
end Vf

/-! Own layer: tuples of dicts; a text or a dict; calls that may raise. -/
namespace Vf
open PySem PySem.Spec PyProof.Rows L2 TL Evl
section
variable {K : PySem.W.Frag} {σ : L2.St} {H H1 H2 : Hp} {ta tb tc te td tl' : TE} {t : TT} {p pl d a b c : Addr} {k1 k2 k3 : List (Key × V)} {i j k : Nat} {D : Ends} {tz tu : TS}
/-! ## tuples of dicts -/
def RetT2 (k1 k2 : List (Key × V)) (H : Hp) (Q : VK) : Prop := ∀ p a b H2, H p = none → H a = none → H b = none → a ≠ b → Ex H H2 → H2 p = some (.tup [.ref a, .ref b]) → H2 a = some (.dK k1) → H2 b = some (.dK k2) → Q (.ref p) H2
def RetT3 (k1 k2 k3 : List (Key × V)) (H : Hp) (Q : VK) : Prop := ∀ p a b c H2, H p = none → H a = none → H b = none → H c = none → a ≠ b → a ≠ c → b ≠ c → Ex H H2 → H2 p = some (.tup [.ref a, .ref b, .ref c]) → H2 a = some (.dK k1) → H2 b = some (.dK k2) → H2 c = some (.dK k3) → Q (.ref p) H2
def spT2 (R : List V → Hp → List (Key × V) × List (Key × V) → Prop) : Sp := fun ws H Q _ => ∃ r, R ws H r ∧ RetT2 r.1 r.2 H Q
def spT3 (R : List V → Hp → List (Key × V) × List (Key × V) × List (Key × V) → Prop) : Sp := fun ws H Q _ => ∃ r, R ws H r ∧ RetT3 r.1 r.2.1 r.2.2 H Q
theorem pg_tupK {X : Cx} (K : PySem.W.Frag) {es : List Expr} {k n : Nat} {pos : Pos} {t : TGs} (hc : X.calm = true) (h : PGs X es t) (hK : X.K = K := by rfl)
    (hn : (assignEach es X.env).length = n := by rfl) (hst : (assignEach es X.env).findIdx? (·.1) = none := by rfl) : PG X (.Tuple es k pos) (gTup K n t) := hK ▸ pg_tup hc h hn hst
theorem ne_dt {x y : Addr} {o u : HO} (h1 : H x = some o) (h2 : H y = some u) (h : o ≠ u) : x ≠ y := fun z => by
  subst z
  rw [h1] at h2
  exact h (Option.some.inj h2)
theorem s_unpT2 {R : List V → Hp → List (Key × V) × List (Key × V) → Prop} {t : TA} {E : XK} {ws : List V} (h : EvA t σ H ws) (hR : ∀ H1, Ex H H1 → R ws H1 (k1, k2))
    (q : ∀ a b H1, H a = none → H b = none → a ≠ b → Ex H H1 → H1 a = some (.dK k1) → H1 b = some (.dK k2) → D.nx ((σ.set i (some (.ref a))).set j (some (.ref b))) H1) :
    tAsg (tCall (spT2 R) [] E t) (gTup K 2 (gCons (gName i) (gCons (gName j) gNil))) D σ H :=
  h H (Ex.refl H) _ fun H1 e1 => ⟨(k1, k2), by rw [List.append_nil]; exact hR H1 e1, fun p a b H2 np na nb ne e2 hp ha hb =>
    ⟨p, _, rfl, st_of hp, rfl, _, _, rfl, _, _, rfl, ⟨rfl, q a b H2 (fresh_back e1 na) (fresh_back e1 nb) ne (e1.trans e2) ha hb⟩⟩⟩
theorem q_unpT2 {R : List V → Hp → List (Key × V) × List (Key × V) → Prop} {t : TA} {E : XK} {ws : List V} (h : EvA t σ H ws) (hR : ∀ H1, Ex H H1 → R ws H1 (k1, k2))
    (q : ∀ a b H1, H a = none → H b = none → a ≠ b → Ex H H1 → H1 a = some (.dK k1) → H1 b = some (.dK k2) → tz D ((σ.set i (some (.ref a))).set j (some (.ref b))) H1) :
    tSeq (tAsg (tCall (spT2 R) [] E t) (gTup K 2 (gCons (gName i) (gCons (gName j) gNil)))) tz D σ H := s_unpT2 (D := { D with nx := tz D }) h hR q
theorem s_unpT3 {R : List V → Hp → List (Key × V) × List (Key × V) × List (Key × V) → Prop} {t : TA} {E : XK} {ws : List V} (h : EvA t σ H ws) (hR : ∀ H1, Ex H H1 → R ws H1 (k1, k2, k3))
    (q : ∀ a b c H1, H a = none → H b = none → H c = none → a ≠ b → a ≠ c → b ≠ c → Ex H H1 → H1 a = some (.dK k1) → H1 b = some (.dK k2) → H1 c = some (.dK k3) → D.nx (((σ.set i (some (.ref a))).set j (some (.ref b))).set k (some (.ref c))) H1) :
    tAsg (tCall (spT3 R) [] E t) (gTup K 3 (gCons (gName i) (gCons (gName j) (gCons (gName k) gNil)))) D σ H :=
  h H (Ex.refl H) _ fun H1 e1 => ⟨(k1, k2, k3), by rw [List.append_nil]; exact hR H1 e1, fun p a b c H2 np na nb nc n1 n2 n3 e2 hp ha hb hc =>
    ⟨p, _, rfl, st_of hp, rfl, _, _, rfl, _, _, rfl, _, _, rfl, ⟨rfl, q a b c H2 (fresh_back e1 na) (fresh_back e1 nb) (fresh_back e1 nc) n1 n2 n3 (e1.trans e2) ha hb hc⟩⟩⟩
theorem q_unpT3 {R : List V → Hp → List (Key × V) × List (Key × V) × List (Key × V) → Prop} {t : TA} {E : XK} {ws : List V} (h : EvA t σ H ws) (hR : ∀ H1, Ex H H1 → R ws H1 (k1, k2, k3))
    (q : ∀ a b c H1, H a = none → H b = none → H c = none → a ≠ b → a ≠ c → b ≠ c → Ex H H1 → H1 a = some (.dK k1) → H1 b = some (.dK k2) → H1 c = some (.dK k3) → tz D (((σ.set i (some (.ref a))).set j (some (.ref b))).set k (some (.ref c))) H1) :
    tSeq (tAsg (tCall (spT3 R) [] E t) (gTup K 3 (gCons (gName i) (gCons (gName j) (gCons (gName k) gNil))))) tz D σ H := s_unpT3 (D := { D with nx := tz D }) h hR q
theorem q_asgT2 (ha : EvK ta σ H k1) (hb : EvK tb σ H k2)
    (q : ∀ p a b H1, H p = none → H a = none → H b = none → a ≠ b → Ex H H1 → H1 p = some (.tup [.ref a, .ref b]) → H1 a = some (.dK k1) → H1 b = some (.dK k2) → tz D (σ.set i (some (.ref p))) H1) :
    tSeq (tAsg (tTup (tCons ta (tCons tb tNil))) (gName i)) tz D σ H :=
  ha H (Ex.refl H) _ fun a H1 na e1 h1 => hb H1 e1 _ fun b H2 nb e2 h2 => ⟨sz_of (by simp), fun p np =>
    q p a b _ (fresh_back (e1.trans e2) np) na (fresh_back e1 nb) (ne_of_none h1 nb) ((e1.trans e2).trans (Ex.new np)) upd_same (Ex.new np a _ (e2 a _ h1)) (Ex.new np b _ h2)⟩
theorem q_asgT3 (ha : EvK ta σ H k1) (hb : EvK tb σ H k2) (hc : EvK tc σ H k3)
    (q : ∀ p a b c H1, H p = none → H a = none → H b = none → H c = none → a ≠ b → a ≠ c → b ≠ c → Ex H H1 → H1 p = some (.tup [.ref a, .ref b, .ref c]) → H1 a = some (.dK k1) → H1 b = some (.dK k2) → H1 c = some (.dK k3) → tz D (σ.set i (some (.ref p))) H1) :
    tSeq (tAsg (tTup (tCons ta (tCons tb (tCons tc tNil)))) (gName i)) tz D σ H :=
  ha H (Ex.refl H) _ fun a H1 na e1 h1 => hb H1 e1 _ fun b H2 nb e2 h2 => hc H2 (e1.trans e2) _ fun c H3 nc e3 h3 => ⟨sz_of (by simp), fun p np =>
    q p a b c _ (fresh_back ((e1.trans e2).trans e3) np) na (fresh_back e1 nb) (fresh_back (e1.trans e2) nc) (ne_of_none h1 nb) (ne_of_none (e2 a _ h1) nc) (ne_of_none h2 nc) (((e1.trans e2).trans e3).trans (Ex.new np)) upd_same
      (Ex.new np a _ (e3 a _ (e2 a _ h1))) (Ex.new np b _ (e3 b _ h2)) (Ex.new np c _ h3)⟩
/-! == of tuples of dicts -/
theorem qv_dict {l m : List (Tx × Tx)} (h1 : H a = some (.dK (kd vs l))) (h2 : H b = some (.dK (kd vs m))) (h : dsame l m) : QV K H 2 (.ref a) (.ref b) :=
  Or.inr (Or.inr (Or.inl (Or.inr ⟨a, b, _, _, rfl, rfl, h1, h2, (dsame_kd h).1, fun q hq => ⟨q.2, ((dsame_kd h).2 q hq).1, Or.inl ⟨rfl, ((dsame_kd h).2 q hq).2⟩⟩⟩)))
theorem e_eqTs {xs ys : List V} (h : EvU ta σ H xs) (hb : Ev tb σ H (.ref p)) (hp : H p = some (.tup ys)) (hq : ∀ H1, Ex H H1 → Paired (QV K H1 2) xs ys) : Ev (tOp (rQEq K) ta tb) σ H (.bl true) := fun H1 e1 Q q =>
  h H1 e1 _ fun r H2 _ e2 hr => hb H2 (e1.trans e2) _ fun H3 e3 => ⟨2, by decide, Or.inr ⟨r, p, xs, ys, rfl, rfl, st_of (e3 r _ hr), st_of (((e1.trans e2).trans e3) p _ hp), hq H3 ((e1.trans e2).trans e3)⟩, q H3 (e2.trans e3)⟩
theorem e_neTs {xs ys : List V} (h : EvU ta σ H xs) (hb : Ev tb σ H (.ref p)) (hp : H p = some (.tup ys)) (hq : ∀ H1, Ex H H1 → Paired (QV K H1 2) xs ys) : Ev (tOp (rQNeT K) ta tb) σ H (.bl false) := fun H1 e1 Q q =>
  h H1 e1 _ fun r H2 _ e2 hr => hb H2 (e1.trans e2) _ fun H3 e3 => ⟨2, by decide, ⟨r, p, xs, ys, rfl, rfl, st_of (e3 r _ hr), st_of (((e1.trans e2).trans e3) p _ hp), hq H3 ((e1.trans e2).trans e3)⟩, q H3 (e2.trans e3)⟩
end
/-! ## a text or a dict -/
inductive Wd where
  | txt (t : Tx) : Wd
  | dct (l : List (Tx × Tx)) : Wd
deriving DecidableEq
def RetW (r : Wd) (H : Hp) (Q : VK) : Prop := match r with
  | .txt t => RetV (vs t) H Q
  | .dct l => RetK (kd vs l) H Q
def spW (R : List V → Hp → Wd → Prop) : Sp := fun ws H Q _ => ∃ r, R ws H r ∧ RetW r H Q
/-- what stands at a name that has either -/
def WAt (H : Hp) (v : V) (r : Wd) : Prop := match r with
  | .txt t => v = vs t
  | .dct l => ∃ p, v = .ref p ∧ H p = some (.dK (kd vs l))
section
variable {K : PySem.W.Frag} {σ : L2.St} {H H1 H2 : Hp} {ta tb te : TE} {i : Nat} {D : Ends} {tz : TS} {r r2 : Wd} {v : V} {Q : VK} {S : Type} {d : Addr}
theorem WAt.ex (h : WAt H v r) (e : Ex H H2) : WAt H2 v r := by
  cases r with
  | txt t => exact h
  | dct l =>
    obtain ⟨p, a, b⟩ := h
    exact ⟨p, a, e p _ b⟩
def EvW (te : TE) (σ : L2.St) (H : Hp) (r : Wd) : Prop := ∀ H1, Ex H H1 → ∀ Q : VK, (∀ v H2, Ex H1 H2 → WAt H2 v r → Q v H2) → te σ H1 Q
theorem ew_call {R : List V → Hp → Wd → Prop} {ws : List V} {E : XK} {t : TA} (h : EvA t σ H ws) (hR : ∀ H1, Ex H H1 → R ws H1 r) : EvW (tCall (spW R) [] E t) σ H r := fun H1 e Q q =>
  h H1 e _ fun H2 e2 => ⟨r, by rw [List.append_nil]; exact hR H2 (e.trans e2), by
    cases r with
    | txt t => exact fun H3 e3 => q _ H3 (e2.trans e3) rfl
    | dct l => exact fun p H3 np e3 hp => q _ H3 (e2.trans e3) ⟨p, rfl, hp⟩⟩
theorem ew_var {n : Nat} (hs : σ[n]? = some (some v)) (h : WAt H v r) : EvW (tVar n) σ H r := fun H1 e Q q => ⟨v, hs, q v H1 (Ex.refl H1) (h.ex e)⟩
theorem q_asgW (h : EvW te σ H r) (k : ∀ v H1, Ex H H1 → WAt H1 v r → tz D (σ.set i (some v)) H1) : tSeq (tAsg te (gName i)) tz D σ H := h H (Ex.refl H) _ fun v H1 e hv => k v H1 e hv
theorem retW_T {b : Bool} {x y : Wd} (k : RetW (if b = true then x else y) H Q) (hb : b = true) : RetW x H Q := by
  rw [if_pos hb] at k
  exact k
theorem retW_F {b : Bool} {x y : Wd} (k : RetW (if b = true then x else y) H Q) (hb : b = false) : RetW y H Q := by
  rw [hb, if_neg Bool.false_ne_true] at k
  exact k
theorem retW_run {o : Stp S Wd} {g : S → Wd} {r : Wd} (k : RetW (aftL o g) H Q) (h : o = .ret r) : RetW r H Q := by
  rw [h] at k
  exact k
theorem retW_go {o : Stp S Wd} {g : S → Wd} {s : S} (k : RetW (aftL o g) H Q) (h : o = .go s ∨ o = .brk s) : RetW (g s) H Q := by
  rcases h with h | h
  · rw [h] at k
    exact k
  · rw [h] at k
    exact k
/-- a rule by either of two -/
theorem op_or {X : Cx} {f : Value → Value → Sem Value} {r1 r2 : R2} (h1 : OpR X f r1) (h2 : OpR X f r2) : OpR X f (fun x y H Q => r1 x y H Q ∨ r2 x y H Q) := by
  intro pins s σ H x y v u Q I rx ry h
  rcases h with h | h
  · exact h1 pins s σ H x y v u Q I rx ry h
  · exact h2 pins s σ H x y v u Q I rx ry h
/-- two of these that are alike -/
def alikeW (r r2 : Wd) : Prop := match r, r2 with
  | .txt t, .txt u => t = u
  | .dct l, .dct m => dsame l m
  | _, _ => False
theorem e_eqWW (ha : EvW ta σ H r) (hb : EvW tb σ H r2) (h : alikeW r r2) : Ev (tOp (fun x y H Q => rEq x y H Q ∨ rEqDA x y H Q) ta tb) σ H (.bl true) := fun H1 e Q q =>
  ha H1 e _ fun v H2 e2 hv => hb H2 (e.trans e2) _ fun u H3 e3 hu => by
    have hv3 := hv.ex e3
    cases r with
    | txt t =>
      cases r2 with
      | txt t2 =>
        have hv4 : v = vs t := hv3
        have hu4 : u = vs t2 := hu
        have h4 : t = t2 := h
        subst h4
        subst hv4 hu4
        refine Or.inl ?_
        have h5 := rv_eq (x := vs t) (y := vs t) (H := H3) rfl H3 (Ex.refl H3) Q fun H4 e4 => by
          rw [decide_eq_true rfl]
          exact q H4 ((e2.trans e3).trans e4)
        exact h5
      | dct m => exact absurd h id
    | dct l =>
      cases r2 with
      | txt t2 => exact absurd h id
      | dct m =>
        obtain ⟨p, ep, hp⟩ := hv3
        obtain ⟨p2, ep2, hp2⟩ := hu
        have h4 : dsame l m := h
        exact Or.inr ⟨p, p2, _, _, ep, ep2, hp, hp2, (dsame_kd h4).1, (dsame_kd h4).2, q H3 (e2.trans e3)⟩
theorem e_neWD {l m : List (Tx × Tx)} (ha : EvW ta σ H r) (hb : Ev tb σ H (.ref d)) (hd : H d = some (.dK (kd vs m))) (hr : r = .dct l) (h : dsame l m) : Ev (tOp rNeDA ta tb) σ H (.bl false) := fun H1 e Q q =>
  ha H1 e _ fun v H2 e2 hv => hb H2 (e.trans e2) _ fun H3 e3 => by
    have hv3 := hv.ex e3
    rw [hr] at hv3
    obtain ⟨p, ep, hp⟩ := hv3
    exact ⟨p, d, _, _, ep, rfl, hp, ((e.trans e2).trans e3) d _ hd, (dsame_kd h).1, (dsame_kd h).2, q H3 (e2.trans e3)⟩
end
/-! ## arguments of which some are new -/
def EvAx (t : TA) (σ : L2.St) (H : Hp) (P : List V → Hp → Prop) : Prop := ∀ H1, Ex H H1 → ∀ Q : List V → Hp → Prop, (∀ ws H2, Ex H1 H2 → P ws H2 → Q ws H2) → t σ H1 Q
section
variable {K : PySem.W.Frag} {σ : L2.St} {H : Hp} {te : TE} {tr : TA} {P : List V → Hp → Prop}
theorem ax_nil : EvAx tNil σ H (fun ws _ => ws = []) := fun H1 _ Q q => q [] H1 (Ex.refl H1) rfl
theorem ax_v {v : V} (h : Ev te σ H v) (hr : EvAx tr σ H P) : EvAx (tCons te tr) σ H (fun ws H2 => ∃ w2, ws = v :: w2 ∧ P w2 H2) := fun H1 e Q q => h H1 e _ fun H2 e2 => hr H2 (e.trans e2) _ fun ws H3 e3 hp => q (v :: ws) H3 (e2.trans e3) ⟨ws, rfl, hp⟩
theorem ax_u2 {l : List (List V)} (h : EvU2 K te σ H l) (hr : EvAx tr σ H P) : EvAx (tCons te tr) σ H (fun ws H2 => ∃ p w2, ws = .ref p :: w2 ∧ IsLU K H2 p l ∧ P w2 H2) := fun H1 e Q q => h H1 e _ fun p H2 _ e2 h2 => hr H2 (e.trans e2) _ fun ws H3 e3 hp => q (.ref p :: ws) H3 (e2.trans e3) ⟨p, ws, rfl, h2.ex e3, hp⟩
theorem ax_k {kvs : List (Key × V)} (h : EvK te σ H kvs) (hr : EvAx tr σ H P) : EvAx (tCons te tr) σ H (fun ws H2 => ∃ p w2, ws = .ref p :: w2 ∧ H2 p = some (.dK kvs) ∧ P w2 H2) := fun H1 e Q q => h H1 e _ fun p H2 _ e2 h2 => hr H2 (e.trans e2) _ fun ws H3 e3 hp => q (.ref p :: ws) H3 (e2.trans e3) ⟨p, ws, rfl, e3 p _ h2, hp⟩
theorem x_callA {α : Type} {Cs : Nat → Addr} {Rp : α → Hp → VK → Prop} {R : List V → Hp → Res α → Prop} {E : L2.St → XK} {t : TA} {r : Res α} {Q : VK} (h : EvAx t σ H P) (hR : ∀ ws H1, Ex H H1 → P ws H1 → R ws H1 r)
    (ho : ∀ a, r = .ok a → ∀ H1, Ex H H1 → Rp a H1 Q) (hx : ∀ k, r = .exc k → ∀ H1, Ex H H1 → E σ (.ref (Cs k)) none H1) : tCallS (spX Cs Rp R) E t σ H Q :=
  h H (Ex.refl H) _ fun ws H1 e1 hp => ⟨r, hR ws H1 e1 hp, fun a e => ho a e H1 e1, fun k e H2 e2 => hx k e H2 (e1.trans e2)⟩
end
/-! ## calls that may raise -/
section
variable {α β γ : Type} {Cs : Nat → Addr} {Rp : α → Hp → VK → Prop} {H : Hp} {Q : VK} {E : XK} {K : PySem.W.Frag} {σ : L2.St} {i : Nat} {D : Ends} {tz : TS}
theorem retX_ok {r : Res β} {g : β → Res α} {x : Nat → Res α} {a : β} (k : PX Cs Rp (resM r g x) H Q E) (h : r = .ok a) : PX Cs Rp (g a) H Q E := by
  rw [h] at k
  exact k
theorem retX_exc {r : Res β} {g : β → Res α} {x : Nat → Res α} {n : Nat} (k : PX Cs Rp (resM r g x) H Q E) (h : r = .exc n) : PX Cs Rp (x n) H Q E := by
  rw [h] at k
  exact k
theorem kq_ok {r : Res β} {g : β → γ} {x : Nat → γ} {a : β} {q : γ} (kq : q = resM r g x) (h : r = .ok a) : q = g a := by
  rw [kq, h]
  rfl
theorem kq_exc {r : Res β} {g : β → γ} {x : Nat → γ} {n : Nat} {q : γ} (kq : q = resM r g x) (h : r = .exc n) : q = x n := by
  rw [kq, h]
  rfl
theorem s_asgX {R : List V → Hp → Res α → Prop} {t : TA} {F : L2.St → XK} {ws : List V} {r : Res α} (h : EvA t σ H ws) (hR : ∀ H1, Ex H H1 → R ws H1 r)
    (ho : ∀ a, r = .ok a → ∀ H1, Ex H H1 → Rp a H1 (fun v H2 => D.nx (σ.set i (some v)) H2)) (hx : ∀ k, r = .exc k → ∀ H1, Ex H H1 → F σ (.ref (Cs k)) none H1) : tAsg (tCallS (spX Cs Rp R) F t) (gName i) D σ H :=
  x_call h hR ho hx
theorem q_asgX {R : List V → Hp → Res α → Prop} {t : TA} {F : L2.St → XK} {ws : List V} {r : Res α} (h : EvA t σ H ws) (hR : ∀ H1, Ex H H1 → R ws H1 r)
    (ho : ∀ a, r = .ok a → ∀ H1, Ex H H1 → Rp a H1 (fun v H2 => tz D (σ.set i (some v)) H2)) (hx : ∀ k, r = .exc k → ∀ H1, Ex H H1 → F σ (.ref (Cs k)) none H1) : tSeq (tAsg (tCallS (spX Cs Rp R) F t) (gName i)) tz D σ H :=
  x_call h hR ho hx
theorem q_asgXA {P : List V → Hp → Prop} {R : List V → Hp → Res α → Prop} {t : TA} {F : L2.St → XK} {r : Res α} (h : EvAx t σ H P) (hR : ∀ ws H1, Ex H H1 → P ws H1 → R ws H1 r)
    (ho : ∀ a, r = .ok a → ∀ H1, Ex H H1 → Rp a H1 (fun v H2 => tz D (σ.set i (some v)) H2)) (hx : ∀ k, r = .exc k → ∀ H1, Ex H H1 → F σ (.ref (Cs k)) none H1) : tSeq (tAsg (tCallS (spX Cs Rp R) F t) (gName i)) tz D σ H :=
  x_callA h hR ho hx
end
section
variable {K : PySem.W.Frag} {σ : L2.St} {H : Hp} {ta tb te : TE} {D : Ends} {tz : TS} {p : Addr}
theorem pi_tupK (K : PySem.W.Frag) {X : Cx} {tg l : Expr} {tl' : TE} (hl : PE X l tl') (h : X.K = K := by rfl) : PI X tg l (iTup K tl') := h ▸ pi_tup hl
theorem dec_vo (x : Option Tx) (y : Tx) : decide (vo x = vs y) = decide (x = some y) := by
  cases x with
  | none => rw [decide_eq_false (fun h : (none : Option Tx) = some y => nomatch h)]; exact decide_eq_false (fun h => nomatch h)
  | some z =>
    show decide (vs z = vs y) = _
    rw [dec_vs]
    by_cases h : z = y
    · subst h
      rw [decide_eq_true rfl, decide_eq_true rfl]
    · rw [decide_eq_false h, decide_eq_false (fun e => h (Option.some.inj e))]
theorem e_neOT {x : Option Tx} {y : Tx} (ha : Ev ta σ H (vo x)) (hb : Ev tb σ H (vs y)) : Ev (tOp rNe ta tb) σ H (.bl (!decide (x = some y))) := dec_vo x y ▸ ev_op ha hb (rv_ne (by cases x <;> rfl))
/-- x.clear() -/
theorem s_clearU {l : List (List V)} (ha : Ev ta σ H (.ref p)) (h : IsLU K H p l) (q : ∀ H1, Mu H p (.lst []) H1 → D.nx σ H1) : tDrop (tBM0 K "list" rClear ta) D σ H := by
  obtain ⟨ts, h1, _⟩ := h
  exact ha H (Ex.refl H) _ fun H1 e1 => ⟨Or.inl ⟨rfl, _, sq_of (e1 p _ h1)⟩, p, _, rfl, rfl, e1 p _ h1, q _ ⟨H1, e1, rfl⟩⟩
theorem q_clearU {l : List (List V)} (ha : Ev ta σ H (.ref p)) (h : IsLU K H p l) (q : ∀ H1, Mu H p (.lst []) H1 → tz D σ H1) : tSeq (tDrop (tBM0 K "list" rClear ta)) tz D σ H := s_clearU (D := { D with nx := tz D }) ha h q

end
section
variable {K : PySem.W.Frag} {D C : Addr} {b : Bool}
theorem exm_bb (h : PySem.W.subIn K (.ref C) (.type "BaseException") = some true) (i : PySem.W.isClsIn K C = true) (t : PySem.W.typeIn K (.ref C) = some (.type "type")) (s : PySem.W.subIn K (.ref D) (.ref C) = some b) : PySem.W.exmOne K (.ref D) (.ref C) = some b := by
  unfold PySem.W.exmOne
  rw [h]
  exact kit_b i t s
/-- of a class that is raised, where several clauses wait -/
structure ErrD (K : PySem.W.Frag) (Cs : Nat → Addr) (js : List Nat) (k : Nat) : Prop where
  ec : ExcC K (Cs k)
  kit : PySem.W.kitOne K (.ref (Cs k)) (.ref (Cs 0)) = some true
  ex : ∀ j ∈ js, PySem.W.exmOne K (.ref (Cs k)) (.ref (Cs j)) = some (decide (j = k))
end
theorem map_map2 {α β γ : Type} (g : β → γ) (f : α → β) (l : List α) : l.map (fun y => g (f y)) = (l.map f).map g := by
  rw [List.map_map]
  rfl
theorem of_notF {b : Bool} (h : (!b) = false) : b = true := by
  cases b
  · cases h
  · rfl
theorem rep_one (p : Tx) : rep p (if true = true then 1 else 0) = p := by
  unfold rep
  show (List.replicate 1 p).flatten = p
  simp
end Vf

/-! Own layer: a set's table can always be laid anew. -/
namespace Vf
open PySem
/-! ## the walk of a probe meets every slot -/
def xs5 : Nat → Nat
  | 0 => 0
  | n + 1 => 5 * xs5 n + 1
theorem pow5 (n : Nat) : 5 ^ n = 4 * xs5 n + 1 := by
  induction n with
  | zero => rfl
  | succ n ih =>
    rw [Nat.pow_succ, ih]
    show _ = 4 * (5 * xs5 n + 1) + 1
    omega
theorem xs5_add (n d : Nat) : xs5 (n + d) = 5 ^ n * xs5 d + xs5 n := by
  induction n with
  | zero =>
    rw [Nat.zero_add, Nat.pow_zero, Nat.one_mul]
    rfl
  | succ n ih =>
    have e : n + 1 + d = (n + d) + 1 := by omega
    rw [e]
    show 5 * xs5 (n + d) + 1 = 5 ^ (n + 1) * xs5 d + (5 * xs5 n + 1)
    rw [ih, Nat.pow_succ, Nat.mul_add, ← Nat.mul_assoc, Nat.mul_comm 5 (5 ^ n)]
    omega
theorem xs5_par (n : Nat) : xs5 n % 2 = n % 2 := by
  induction n with
  | zero => rfl
  | succ n ih =>
    show (5 * xs5 n + 1) % 2 = _
    omega
theorem xs5_dbl (e : Nat) : xs5 (e + e) = 2 * (xs5 e * (2 * xs5 e + 1)) := by
  rw [xs5_add, pow5]
  have h : (4 * xs5 e + 1) * xs5 e + xs5 e = 2 * (xs5 e * (2 * xs5 e + 1)) := by
    rw [Nat.add_mul, Nat.mul_add, Nat.mul_one, Nat.one_mul]
    have h2 : 4 * xs5 e * xs5 e = 2 * (xs5 e * (2 * xs5 e)) := by
      rw [Nat.mul_left_comm (xs5 e) 2, ← Nat.mul_assoc 2 2, Nat.mul_assoc]
    rw [h2]
    omega
  exact h
theorem two_odd : ∀ (k a b : Nat), b % 2 = 1 → 2 ^ k ∣ a * b → 2 ^ k ∣ a
  | 0, a, b, _, _ => by
    rw [Nat.pow_zero]
    exact Nat.one_dvd a
  | k + 1, a, b, hb, h => by
    rw [Nat.pow_succ] at h ⊢
    have h2 : 2 ∣ a * b := Nat.dvd_trans (Nat.dvd_mul_left 2 (2 ^ k)) h
    have ha : a % 2 = 0 := by
      have h3 : (a * b) % 2 = 0 := Nat.mod_eq_zero_of_dvd h2
      rw [Nat.mul_mod, hb, Nat.mul_one, Nat.mod_mod] at h3
      exact h3
    obtain ⟨c, hc⟩ := Nat.dvd_of_mod_eq_zero ha
    rw [hc] at h ⊢
    have h4 : 2 ^ k ∣ c * b := by
      obtain ⟨d, hd⟩ := h
      refine ⟨d, ?_⟩
      have h5 : 2 * (c * b) = 2 * (2 ^ k * d) := by
        rw [← Nat.mul_assoc, hd]
        rw [Nat.mul_comm (2 ^ k) 2, Nat.mul_assoc]
      exact Nat.eq_of_mul_eq_mul_left (by decide) h5
    obtain ⟨d, hd⟩ := two_odd k c b hb h4
    exact ⟨d, by rw [hd, Nat.mul_comm (2 ^ k) 2, Nat.mul_assoc]⟩
theorem xs5_dvd : ∀ (k d : Nat), 2 ^ k ∣ xs5 d → 2 ^ k ∣ d
  | 0, d, _ => by
    rw [Nat.pow_zero]
    exact Nat.one_dvd d
  | k + 1, d, h => by
    have h2 : 2 ∣ xs5 d := by
      rw [Nat.pow_succ] at h
      exact Nat.dvd_trans (Nat.dvd_mul_left 2 (2 ^ k)) h
    have hp := xs5_par d
    have h3 := Nat.mod_eq_zero_of_dvd h2
    have he : d = d / 2 + d / 2 := by omega
    generalize d / 2 = e at he
    subst he
    rw [xs5_dbl, Nat.pow_succ, Nat.mul_comm (2 ^ k) 2] at h
    have h4 : 2 ^ k ∣ xs5 e * (2 * xs5 e + 1) := Nat.dvd_of_mul_dvd_mul_left (by decide) h
    obtain ⟨c, hc⟩ := xs5_dvd k e (two_odd k _ _ (by omega) h4)
    refine ⟨c, ?_⟩
    rw [hc, Nat.pow_succ, Nat.mul_assoc, Nat.mul_comm 2 c, ← Nat.mul_assoc, Nat.mul_comm (2 ^ k * c) 2]
    omega
/-- the place behind n leaps without perturbation -/
def lp (M i : Nat) : Nat → Nat
  | 0 => i
  | n + 1 => (lp M i n * 5 + 1) % M
theorem lp_is (M i n : Nat) (hi : i < M) : lp M i n = (5 ^ n * i + xs5 n) % M := by
  induction n with
  | zero =>
    show i = _
    rw [Nat.pow_zero, Nat.one_mul]
    exact (Nat.mod_eq_of_lt hi).symm
  | succ n ih =>
    show (lp M i n * 5 + 1) % M = (5 ^ (n + 1) * i + (5 * xs5 n + 1)) % M
    rw [ih]
    have e : 5 ^ (n + 1) * i + (5 * xs5 n + 1) = (5 ^ n * i + xs5 n) * 5 + 1 := by
      rw [Nat.pow_succ, Nat.add_mul, Nat.mul_comm (5 ^ n) 5, Nat.mul_assoc, Nat.mul_comm 5 (5 ^ n * i), Nat.mul_comm 5 (xs5 n)]
      omega
    rw [e]
    conv => rhs; rw [Nat.add_mod, Nat.mul_mod]
    conv => lhs; rw [Nat.add_mod, Nat.mul_mod, Nat.mod_mod]
theorem lp_inj (k i m d : Nat) (hi : i < 2 ^ k) (h : lp (2 ^ k) i m = lp (2 ^ k) i (m + d)) : 2 ^ k ∣ d := by
  rw [lp_is _ _ _ hi, lp_is _ _ _ hi] at h
  have e : 5 ^ (m + d) * i + xs5 (m + d) = (5 ^ m * i + xs5 m) + xs5 d * (5 ^ m * (4 * i + 1)) := by
    rw [xs5_add, Nat.pow_add, pow5 d]
    have h2 : 5 ^ m * (4 * xs5 d + 1) * i = 5 ^ m * i + xs5 d * (5 ^ m * (4 * i)) := by
      rw [Nat.mul_add, Nat.mul_one, Nat.add_mul, Nat.add_comm]
      congr 1
      rw [Nat.mul_left_comm (xs5 d), Nat.mul_assoc (5 ^ m), Nat.mul_left_comm (xs5 d) 4, Nat.mul_assoc 4]
    have h3 : xs5 d * (5 ^ m * (4 * i + 1)) = xs5 d * (5 ^ m * (4 * i)) + 5 ^ m * xs5 d := by
      rw [Nat.mul_add (5 ^ m), Nat.mul_add (xs5 d), Nat.mul_one, Nat.mul_comm (xs5 d) (5 ^ m)]
    rw [h2, h3]
    omega
  rw [e] at h
  generalize 5 ^ m * i + xs5 m = a at h
  have hb : 2 ^ k ∣ xs5 d * (5 ^ m * (4 * i + 1)) := by
    generalize xs5 d * (5 ^ m * (4 * i + 1)) = b at h
    have h4 := Nat.div_add_mod a (2 ^ k)
    have h5 := Nat.div_add_mod (a + b) (2 ^ k)
    have h6 : 2 ^ k * (a / 2 ^ k) ≤ 2 ^ k * ((a + b) / 2 ^ k) := Nat.mul_le_mul_left _ (Nat.div_le_div_right (Nat.le_add_right a b))
    refine ⟨(a + b) / 2 ^ k - a / 2 ^ k, ?_⟩
    rw [Nat.mul_sub]
    omega
  refine xs5_dvd k d (two_odd k _ _ ?_ hb)
  rw [Nat.mul_mod, pow5]
  have h1 : (4 * xs5 m + 1) % 2 = 1 := by omega
  have h2 : (4 * i + 1) % 2 = 1 := by omega
  rw [h1, h2]
theorem nodup_le : ∀ (M : Nat) (l : List Nat), l.Nodup → (∀ x ∈ l, x < M) → l.length ≤ M
  | 0, l, _, h => by
    cases l with
    | nil => exact Nat.le_refl _
    | cons x r => exact absurd (h x List.mem_cons_self) (Nat.not_lt_zero x)
  | M + 1, l, nd, h => by
    have h2 := nodup_le M (l.erase M) (nd.erase M) fun x hx => by
      have h3 := (nd.mem_erase_iff).mp hx
      have := h x h3.2
      omega
    by_cases hm : M ∈ l
    · rw [List.length_erase_of_mem hm] at h2
      omega
    · rw [List.erase_of_not_mem hm] at h2
      omega
theorem lp_all (k i j : Nat) (hi : i < 2 ^ k) (hj : j < 2 ^ k) : ∃ n, n < 2 ^ k ∧ lp (2 ^ k) i n = j := by
  have hlt : ∀ n, lp (2 ^ k) i n < 2 ^ k := fun n => by
    rw [lp_is _ _ _ hi]
    exact Nat.mod_lt _ (Nat.two_pow_pos k)
  have nd : ((List.range (2 ^ k)).map (lp (2 ^ k) i)).Nodup := by
    rw [List.nodup_iff_pairwise_ne, List.pairwise_map]
    refine List.Pairwise.imp_of_mem (fun {a b} ha hb (hab : a < b) e => ?_) List.pairwise_lt_range
    have hb2 := List.mem_range.mp hb
    have e2 : b = a + (b - a) := by omega
    rw [e2] at e
    have h3 := Nat.le_of_dvd (by omega) (lp_inj k i a (b - a) hi e)
    omega
  by_cases h : j ∈ (List.range (2 ^ k)).map (lp (2 ^ k) i)
  · obtain ⟨n, hn, e⟩ := List.mem_map.mp h
    exact ⟨n, List.mem_range.mp hn, e⟩
  · have h2 := nodup_le (2 ^ k) (j :: (List.range (2 ^ k)).map (lp (2 ^ k) i)) (List.nodup_cons.mpr ⟨h, nd⟩) fun x hx => by
      rcases List.mem_cons.mp hx with e | e
      · rw [e]
        exact hj
      · obtain ⟨n, _, e2⟩ := List.mem_map.mp e
        rw [← e2]
        exact hlt n
    rw [List.length_cons, List.length_map, List.length_range] at h2
    omega
/-! ## a free slot is found -/
abbrev Own := Array (Option Nat)
def noneAt (owner : Own) (j : Nat) : Prop := (owner.getD j (some 0)).isNone = true
theorem runEnd_le (m i : Nat) (h : i ≤ m) : SetTable.runEnd m i ≤ m := by
  unfold SetTable.runEnd
  split <;> omega
theorem runEnd_ge (m i : Nat) : i ≤ SetTable.runEnd m i := by
  unfold SetTable.runEnd
  split <;> omega
theorem free_hit {m : Nat} {owner : Own} {f i p k : Nat} (hi : i ≤ m) (h : (List.range (SetTable.runEnd m i + 1 - i)).find? (fun k => (owner.getD (i + k) (some 0)).isNone) = some k) :
    ∃ j, SetTable.layClean.free m owner (f + 1) i p = some j ∧ noneAt owner j ∧ j ≤ m := by
  refine ⟨i + k, ?_, List.find?_some (p := fun k => (owner.getD (i + k) (some 0)).isNone) h, ?_⟩
  · rw [SetTable.layClean.free, h]
  · have h2 := List.mem_range.mp (List.mem_of_find?_eq_some h)
    have h3 := runEnd_le m i hi
    omega
theorem free_calm (m : Nat) (owner : Own) : ∀ (n f i : Nat), n ≤ f → i ≤ m → (∃ t, t < n ∧ noneAt owner (lp (m + 1) i t)) → ∃ j, SetTable.layClean.free m owner f i 0 = some j ∧ noneAt owner j ∧ j ≤ m
  | 0, _, _, _, _, h => by
    obtain ⟨t, ht, _⟩ := h
    exact absurd ht (Nat.not_lt_zero t)
  | n + 1, 0, _, hf, _, _ => absurd hf (by omega)
  | n + 1, f + 1, i, hf, hi, h => by
    cases e : (List.range (SetTable.runEnd m i + 1 - i)).find? (fun k => (owner.getD (i + k) (some 0)).isNone) with
    | some k => exact free_hit hi e
    | none =>
      have hn : ¬ noneAt owner i := fun z => by
        have h2 := List.find?_eq_none.mp e 0 (List.mem_range.mpr (by have := runEnd_ge m i; omega))
        rw [Nat.add_zero] at h2
        exact h2 z
      obtain ⟨t, ht, h3⟩ := h
      have e2 : SetTable.layClean.free m owner (f + 1) i 0 = SetTable.layClean.free m owner f ((i * 5 + 1 + 0 / 32) % (m + 1)) (0 / 32) := by
        rw [SetTable.layClean.free, e]
        rfl
      rw [e2]
      show ∃ j, SetTable.layClean.free m owner f ((i * 5 + 1) % (m + 1)) 0 = some j ∧ _
      cases t with
      | zero => exact absurd h3 hn
      | succ t =>
        have e3 : ∀ t, lp (m + 1) i (t + 1) = lp (m + 1) ((i * 5 + 1) % (m + 1)) t := fun t => by
          induction t with
          | zero => rfl
          | succ t ih =>
            show (lp (m + 1) i (t + 1) * 5 + 1) % (m + 1) = _
            rw [ih]
            rfl
        rw [e3] at h3
        exact free_calm m owner n f _ (by omega) (by have := Nat.mod_lt (i * 5 + 1) (show 0 < m + 1 by omega); omega) ⟨t, by omega, h3⟩
theorem free_ok {k : Nat} {m : Nat} (hm : m + 1 = 2 ^ k) {owner : Own} (h : ∃ j, j ≤ m ∧ noneAt owner j) : ∀ (s f i p : Nat), p < 32 ^ s → m + 1 + s ≤ f → i ≤ m → ∃ j, SetTable.layClean.free m owner f i p = some j ∧ noneAt owner j ∧ j ≤ m
  | 0, f, i, p, hp, hf, hi => by
    have h0 : p = 0 := by
      rw [Nat.pow_zero] at hp
      omega
    subst h0
    obtain ⟨j, hj, hn⟩ := h
    obtain ⟨t, ht, e⟩ := lp_all k i j (by omega) (by omega)
    exact free_calm m owner (m + 1) f i (by omega) hi ⟨t, by omega, by rw [hm, e]; exact hn⟩
  | s + 1, 0, _, _, _, hf, _ => absurd hf (by omega)
  | s + 1, f + 1, i, p, hp, hf, hi => by
    cases e : (List.range (SetTable.runEnd m i + 1 - i)).find? (fun k => (owner.getD (i + k) (some 0)).isNone) with
    | some k => exact free_hit hi e
    | none =>
      have e2 : SetTable.layClean.free m owner (f + 1) i p = SetTable.layClean.free m owner f ((i * 5 + 1 + p / 32) % (m + 1)) (p / 32) := by
        rw [SetTable.layClean.free, e]
        rfl
      rw [e2]
      have hp2 : p / 32 < 32 ^ s := by
        rw [Nat.pow_succ] at hp
        exact Nat.div_lt_of_lt_mul (by omega)
      exact free_ok hm h s f _ _ hp2 (by omega) (by have := Nat.mod_lt (i * 5 + 1 + p / 32) (show 0 < m + 1 by omega); omega)
theorem bits_lt (h : Int) : SetTable.bits h < 32 ^ 13 := by
  unfold SetTable.bits
  have h1 := Int.emod_lt_of_pos h (b := (2 : Int) ^ 64) (by decide)
  have h2 := Int.emod_nonneg h (b := (2 : Int) ^ 64) (by decide)
  have h3 : (2 : Int) ^ 64 = 18446744073709551616 := by decide
  have h4 : (32 : Nat) ^ 13 = 36893488147419103232 := by decide
  omega
/-! ## all are laid -/
def ordOf (m : Nat) (owner : Own) : List Nat := (List.range (m + 1)).filterMap fun j => owner.getD j none
theorem filterMap_cg {α β : Type} {f g : α → Option β} : ∀ {l : List α}, (∀ x ∈ l, f x = g x) → l.filterMap f = l.filterMap g
  | [], _ => rfl
  | x :: r, h => by
    have ih := filterMap_cg (f := f) (g := g) (l := r) fun y hy => h y (List.mem_cons_of_mem _ hy)
    have hx := h x List.mem_cons_self
    cases e : g x with
    | none => rw [List.filterMap_cons_none (by rw [hx]; exact e), List.filterMap_cons_none e, ih]
    | some y => rw [List.filterMap_cons_some (by rw [hx]; exact e), List.filterMap_cons_some e, ih]
theorem filterMap_set {g g2 : Nat → Option Nat} {j x : Nat} (h0 : g j = none) (h1 : g2 j = some x) (h2 : ∀ i, i ≠ j → g2 i = g i) : ∀ l : List Nat, l.Nodup → j ∈ l → (l.filterMap g2).Perm (x :: l.filterMap g)
  | [], _, h => nomatch h
  | i :: r, nd, h => by
    have nd2 := List.nodup_cons.mp nd
    by_cases e : i = j
    · subst e
      have e2 : r.filterMap g2 = r.filterMap g := filterMap_cg fun y hy => h2 y fun z => nd2.1 (z ▸ hy)
      rw [List.filterMap_cons_some h1, List.filterMap_cons_none h0, e2]
    · have hj : j ∈ r := (List.mem_cons.mp h).resolve_left fun z => e z.symm
      have ih := filterMap_set h0 h1 h2 r nd2.2 hj
      cases e3 : g i with
      | none =>
        rw [List.filterMap_cons_none (by rw [h2 i e]; exact e3), List.filterMap_cons_none e3]
        exact ih
      | some y =>
        rw [List.filterMap_cons_some (by rw [h2 i e]; exact e3), List.filterMap_cons_some e3]
        exact (ih.cons y).trans (List.Perm.swap x y _)
theorem filterMap_full {g : Nat → Option Nat} : ∀ l : List Nat, (∀ j ∈ l, g j ≠ none) → (l.filterMap g).length = l.length
  | [], _ => rfl
  | i :: r, h => by
    cases e : g i with
    | none => exact absurd e (h i List.mem_cons_self)
    | some y => rw [List.filterMap_cons_some e, List.length_cons, List.length_cons, filterMap_full r fun j hj => h j (List.mem_cons_of_mem _ hj)]
def LayOk (m : Nat) (n : Nat) (owner : Own) : Prop := owner.size = m + 1 ∧ (ordOf m owner).Perm (List.range n)
theorem lay_none {m n : Nat} {owner : Own} (h : LayOk m n owner) (hn : n ≤ m) : ∃ j, j ≤ m ∧ noneAt owner j := by
  refine Classical.byContradiction fun z => ?_
  have h2 : (ordOf m owner).length = m + 1 := by
    unfold ordOf
    rw [filterMap_full]
    · exact List.length_range
    · intro j hj e
      refine z ⟨j, by have := List.mem_range.mp hj; omega, ?_⟩
      have hj2 : j < owner.size := by
        rw [h.1]
        exact List.mem_range.mp hj
      unfold noneAt
      rw [Array.getD_eq_getD_getElem?, Array.getElem?_eq_getElem hj2] at e ⊢
      rw [show owner[j] = none from e]
      rfl
  have h3 := h.2.length_eq
  rw [List.length_range] at h3
  omega
theorem lay_put {m n j : Nat} {owner : Own} (h : LayOk m n owner) (hj : j ≤ m) (hn : noneAt owner j) : LayOk m (n + 1) (owner.setIfInBounds j (some n)) := by
  have hj2 : j < owner.size := by
    rw [h.1]
    omega
  refine ⟨by rw [Array.size_setIfInBounds]; exact h.1, ?_⟩
  have e0 : owner.getD j none = none := by
    unfold noneAt at hn
    rw [Array.getD_eq_getD_getElem?, Array.getElem?_eq_getElem hj2] at hn ⊢
    cases e : owner[j] with
    | none => rfl
    | some x =>
      rw [e] at hn
      cases hn
  have hp := filterMap_set (g := fun i => owner.getD i none) (g2 := fun i => (owner.setIfInBounds j (some n)).getD i none) (x := n) e0 (by
    show (owner.setIfInBounds j (some n)).getD j none = _
    rw [Array.getD_eq_getD_getElem?, Array.getElem?_setIfInBounds_self_of_lt hj2]
    rfl) (fun i hi => by
    show (owner.setIfInBounds j (some n)).getD i none = _
    rw [Array.getD_eq_getD_getElem?, Array.getElem?_setIfInBounds_ne (fun z => hi z.symm), ← Array.getD_eq_getD_getElem?]) (List.range (m + 1)) List.nodup_range (List.mem_range.mpr (by omega))
  refine hp.trans ?_
  rw [List.range_succ (n := n)]
  exact (h.2.cons n).trans (List.perm_append_singleton n _).symm
theorem lay_fold {k m : Nat} (hm : m + 1 = 2 ^ k) : ∀ (hs : List Int) (n : Nat) (owner : Own), LayOk m n owner → n + hs.length ≤ m → ∃ o2, LayOk m (n + hs.length) o2 ∧
    hs.foldl (fun (acc : Option (Own × Nat)) h => do
      let (owner, k) ← acc
      let j ← SetTable.layClean.free m owner (SetTable.turns m) (SetTable.bits h % (m + 1)) (SetTable.bits h)
      pure (owner.setIfInBounds j (some k), k + 1)) (some (owner, n)) = some (o2, n + hs.length)
  | [], n, owner, h, _ => ⟨owner, h, rfl⟩
  | x :: r, n, owner, h, hl => by
    rw [List.length_cons] at hl
    obtain ⟨j, e, hn, hj⟩ := free_ok hm (lay_none h (by omega)) 13 (SetTable.turns m) (SetTable.bits x % (m + 1)) (SetTable.bits x) (bits_lt x) (by unfold SetTable.turns; omega) (by have := Nat.mod_lt (SetTable.bits x) (show 0 < m + 1 by omega); omega)
    obtain ⟨o2, h2, e2⟩ := lay_fold hm r (n + 1) _ (lay_put h hj hn) (by omega)
    refine ⟨o2, by rw [List.length_cons, show n + (r.length + 1) = n + 1 + r.length by omega]; exact h2, ?_⟩
    rw [List.foldl_cons, List.length_cons, show n + (r.length + 1) = n + 1 + r.length by omega, ← e2]
    congr 1
    show (do let j ← SetTable.layClean.free m owner (SetTable.turns m) (SetTable.bits x % (m + 1)) (SetTable.bits x); pure (owner.setIfInBounds j (some n), n + 1) : Option (Own × Nat)) = _
    rw [e]
    rfl
theorem lay_start (m : Nat) : LayOk m 0 (Array.replicate (m + 1) none) := by
  refine ⟨Array.size_replicate, ?_⟩
  unfold ordOf
  have e : (List.range (m + 1)).filterMap (fun j => (Array.replicate (m + 1) (none : Option Nat)).getD j none) = [] := by
    rw [List.filterMap_eq_nil_iff]
    intro j hj
    rw [Array.getD_eq_getD_getElem?, Array.getElem?_replicate]
    split <;> rfl
  rw [e]
  exact List.Perm.refl _
theorem laid_ok {k m : Nat} (hm : m + 1 = 2 ^ k) (fg mv : Nat) (led plain : Bool) (hs : Array Int) (hl : hs.size ≤ m) : ∃ t order, SetTable.laid m fg mv led plain hs = some (t, order) ∧ t.mask = m ∧ t.led = led ∧ t.dummies = #[] ∧ t.place.size = hs.size ∧ L2.Ris t.place.toList ∧ order.toList.Perm (List.range hs.size) := by
  obtain ⟨o2, h2, e2⟩ := lay_fold hm hs.toList 0 _ (lay_start m) (by rw [Nat.zero_add, Array.length_toList]; exact hl)
  rw [Nat.zero_add, Array.length_toList] at h2 e2
  have e : SetTable.layClean m hs = some o2 := by
    unfold SetTable.layClean
    rw [← Array.foldl_toList]
    have e3 := congrArg (Option.map (fun x : Own × Nat => x.1)) e2
    exact e3
  have e4 : ∀ l : List Nat, (l.filterMap fun j => (o2.getD j none).map (j, ·)).map (·.2) = l.filterMap fun j => o2.getD j none := fun l => by
    induction l with
    | nil => rfl
    | cons j r ih =>
      cases e5 : o2.getD j none with
      | none => rw [List.filterMap_cons_none (f := fun j => (o2.getD j none).map (j, ·)) (by show Option.map _ (o2.getD j none) = none; rw [e5]; rfl), List.filterMap_cons_none (f := fun j => o2.getD j none) e5, ih]
      | some x => rw [List.filterMap_cons_some (f := fun j => (o2.getD j none).map (j, ·)) (b := (j, x)) (by show Option.map _ (o2.getD j none) = _; rw [e5]; rfl), List.filterMap_cons_some (f := fun j => o2.getD j none) e5, List.map_cons, ih]
  have ep : ((List.range (m + 1)).filterMap fun j => (o2.getD j none).map (j, ·)).length = hs.size := by
    have h6 := h2.2.length_eq
    unfold ordOf at h6
    rw [← e4, List.length_map, List.length_range] at h6
    exact h6
  refine ⟨_, _, by unfold SetTable.laid; rw [e]; rfl, rfl, rfl, rfl, ?_, ?_, ?_⟩
  · show (((List.range (m + 1)).filterMap fun j => (o2.getD j none).map (j, ·)).map (·.1)).toArray.size = _
    rw [List.size_toArray, List.length_map]
    exact ep
  · exact (L2.ris_live (fun j => o2.getD j none) (List.range (m + 1)) (by unfold L2.Ris; exact List.pairwise_lt_range)).1
  · show (((List.range (m + 1)).filterMap fun j => (o2.getD j none).map (j, ·)).map (·.2)).Perm _
    rw [e4]
    exact h2.2
theorem sizeAbove_go : ∀ (f k n : Nat), n < 2 ^ (k + f) → ∃ j, SetTable.sizeAbove.go n f (2 ^ k) = 2 ^ j ∧ n < 2 ^ j ∧ k ≤ j ∧ (2 ^ j = 2 ^ k ∨ 2 ^ j ≤ 2 * n)
  | 0, k, n, h => ⟨k, rfl, h, Nat.le_refl _, Or.inl rfl⟩
  | f + 1, k, n, h => by
    show ∃ j, (if 2 ^ k ≤ n then SetTable.sizeAbove.go n f (2 ^ k * 2) else 2 ^ k) = 2 ^ j ∧ _
    by_cases hk : 2 ^ k ≤ n
    · rw [if_pos hk, ← Nat.pow_succ]
      obtain ⟨j, e, h1, h2, h3⟩ := sizeAbove_go f (k + 1) n (by rw [show k + 1 + f = k + (f + 1) by omega]; exact h)
      refine ⟨j, e, h1, by omega, Or.inr ?_⟩
      rcases h3 with h3 | h3
      · rw [h3, Nat.pow_succ]
        omega
      · exact h3
    · rw [if_neg hk]
      exact ⟨k, rfl, by omega, Nat.le_refl _, Or.inl rfl⟩
theorem sizeAbove_ok {n : Nat} (h : n ≤ 100000) : ∃ j, SetTable.sizeAbove n = 2 ^ j ∧ n < 2 ^ j ∧ 3 ≤ j ∧ 2 ^ j ≤ 200008 := by
  obtain ⟨j, e, h1, h2, h3⟩ := sizeAbove_go 64 3 n (Nat.lt_of_le_of_lt h (by decide))
  refine ⟨j, e, h1, h2, ?_⟩
  rcases h3 with h3 | h3
  · rw [h3]
    decide
  · omega
/-- what is reordered is the same -/
theorem take_order {α : Type} (es : Array α) (order : Array Nat) (h : order.toList.Perm (List.range es.size)) : (order.filterMap (es[·]?)).toList.Perm es.toList := by
  rw [Array.toList_filterMap]
  refine (h.filterMap (fun i => es[i]?)).trans ?_
  have e : ∀ (l : List α), (List.range l.length).filterMap (fun i => l[i]?) = l := fun l => by
    induction l with
    | nil => rfl
    | cons x r ih =>
      rw [List.length_cons, List.range_succ_eq_map, List.filterMap_cons_some (f := fun i => (x :: r)[i]?) (b := x) rfl, List.filterMap_map]
      exact congrArg (x :: ·) ih
  have e2 := e es.toList
  rw [Array.length_toList] at e2
  have e3 : (List.range es.size).filterMap (fun i => es[i]?) = (List.range es.size).filterMap (fun i => es.toList[i]?) := filterMap_cg fun i _ => Array.getElem?_toList.symm
  rw [e3, e2]
end Vf

/-! Own layer: sets of keys (texts, numbers), whatever is done to them. -/
namespace Vf
open PySem PySem.Spec PyProof.Rows L2
def kf (e : Int × Value) : Key := match e.2 with
  | .int i _ => Sum.inl i
  | .str x _ => Sum.inr x
  | _ => Sum.inl 0
theorem kf_of {k : Key} {v : Value} {i : Int} (h : keyIs k v = true) : kf (i, v) = k := by
  rcases keyIs_shape h with ⟨j, t, rfl, rfl⟩ | ⟨x, t, rfl, rfl⟩ <;> rfl
def GoodM (w : World) (e : Int × Value) : Prop := keyIs (kf e) e.2 = true ∧ e.1 = keyH w (kf e)
theorem scan_of {k : Key} {v : Value} (h : keyIs k v = true) : v.scannable = true := by
  rcases keyIs_shape h with ⟨j, t, rfl, rfl⟩ | ⟨x, t, rfl, rfl⟩ <;> rfl
instance memKeyDec (k : Key) (l : List Key) : Decidable (k ∈ l) := @List.instDecidableMemOfLawfulBEq Key (@instBEqOfDecidableEq Key inferInstance) inferInstance k l
/-- the set at a holds l -/
def SetM (w : World) (h : Heap) (a : Addr) (l : List Key) : Prop :=
  ∃ o es ep t, h.get? a = some o ∧ o.ExactSet ∧ o.data = .set es ep t ∧ (∀ e ∈ es.toList, GoodM w e) ∧ (es.toList.map kf).Perm l ∧ l.Nodup ∧ es.size < scanBound ∧ t.fits es.size = true ∧ Ris t.place.toList ∧ (w.params.followText "set-order" = true ∨ t.led = true) ∧ (es.size = 0 → ∃ j, t.mask + 1 = 2 ^ j)
section
variable {P : Program} {w : World} {h h2 : Heap} {a : Addr} {l m : List Key}
theorem SetM.keep (R : SetM w h a l) (k : ∀ o, h.get? a = some o → h2.get? a = some o) : SetM w h2 a l := by
  obtain ⟨o, es, ep, t, ho, r⟩ := R
  exact ⟨o, es, ep, t, k o ho, r⟩
theorem SetM.lt (R : SetM w h a l) : a < h.objs.size := by
  obtain ⟨o, es, ep, t, ho, r⟩ := R
  exact Heap.lt_size ho
theorem SetM.perm (R : SetM w h a l) (p : l.Perm m) : SetM w h a m := by
  obtain ⟨o, es, ep, t, ho, x1, x2, x3, x4, x5, x6⟩ := R
  exact ⟨o, es, ep, t, ho, x1, x2, x3, x4.trans p, p.nodup_iff.mp x5, x6⟩
theorem SetM.len (R : SetM w h a l) : l.length < scanBound := by
  obtain ⟨o, es, ep, t, ho, x1, x2, x3, x4, x5, x6, x7⟩ := R
  rw [← x4.length_eq, List.length_map, Array.length_toList]
  exact x6
theorem SetM.typeIs {s : Shared} (R : SetM w s.heap a l) : s.TypeIs (.ref a) "set" := by
  obtain ⟨o, es, ep, t, ho, x1, _⟩ := R
  exact ⟨o, ho, x1.1⟩
theorem good_els {es : List (Int × Value)} (g : ∀ e ∈ es, GoodM w e) : ElemsOf (mixKind P w) es := fun e he => ⟨⟨kf e, (g e he).1, (g e he).2⟩, scan_of (g e he).1⟩
theorem good_in {es : List (Int × Value)} (g : ∀ e ∈ es, GoodM w e) (k : Key) : k ∈ es.map kf ↔ ∃ e ∈ es, (mixKind P w).is k e.2 = true := by
  rw [List.mem_map]
  constructor
  · rintro ⟨e, he, rfl⟩
    exact ⟨e, he, (g e he).1⟩
  · rintro ⟨e, he, q⟩
    exact ⟨e, he, kf_of (i := e.1) q⟩
theorem SetM.setOf (R : SetM w h a l) : h.SetOf (mixKind P w) a (fun k => decide (k ∈ l)) l.length := by
  obtain ⟨o, es, ep, t, ho, x1, x2, x3, x4, x5, x6, x7, x8, x9, _⟩ := R
  refine ⟨o, es, ep, t, ho, x1, x2, good_els x3, fun k => ?_, x6, x7, ?_⟩
  · rw [decide_eq_true_eq, ← x4.mem_iff]
    exact good_in x3 k
  · rw [← x4.length_eq, List.length_map, Array.length_toList]
end
section
variable {P : Program} {w : World} {A : Around} {E : Value → Shared → Prop} {s : Shared} {a : Addr} {l : List Key}
theorem putAt {h : Heap} {o : Obj} {es es2 : Array (Int × Value)} {ep : Nat} {t t2 : SetTable} (ho : h.get? a = some o) (hd : o.data = .set es ep t) :
    (h.update a (Obj.putSet es2 t2)).get? a = some { o with data := .set es2 (ep + 1) t2 } := store_at ho hd
/-- what is stored anew, and laid anew where the table is too full -/
theorem setM_tail {gv : Bool → Sem Unit} (hg : ∀ (b : Bool) (s1 : Shared) (Q1 : Unit → Shared → Prop), Q1 () s1 → wpAny (model P w) A (gv b) Q1 E s1) {o : Obj} {es : Array (Int × Value)} {ep : Nat} {t : SetTable}
    (ho : s.heap.get? a = some o) (hx : o.ExactSet) (hd : o.data = .set es ep t) {e1 : Array (Int × Value)} {t1 : SetTable} (g1 : ∀ e ∈ e1.toList, GoodM w e) (p1 : (e1.toList.map kf).Perm l) (nd : l.Nodup) (hb1 : e1.size < scanBound) (f1 : t1.fits e1.size = true)
    (r1 : Ris t1.place.toList) (l1 : w.params.followText "set-order" = true ∨ t1.led = true) (ne : e1.size ≠ 0) {wd : Bool} {R : Option Bool → Shared → Prop} (hR : ∀ h2, Heap.SameBut a s.heap h2 → SetM w h2 a l → R (some true) { s with heap := h2 }) :
    wpAny (model P w) A (do
        storeSet a e1 t1
        if (!wd && t1.tooFull) = true then do
            gv (relayAll t1 e1 (SetTable.grown e1.size)).2.2
            storeSet a (relayAll t1 e1 (SetTable.grown e1.size)).1 (relayAll t1 e1 (SetTable.grown e1.size)).2.1
            pure (some true)
          else pure (some true)) R E s := by
  refine wpAny_bind (wpAny_storeSet_of ho hd ?_ (fits_of_scanBound hb1))
  have ho1 := putAt (es2 := e1) (t2 := t1) ho hd
  have b1 := Heap.SameBut.update s.heap a (Obj.putSet e1 t1)
  split
  · have pm := relayAll_perm t1 e1 (SetTable.grown e1.size)
    have f2 := relayAll_fits t1 e1 (SetTable.grown e1.size)
    have r2 := relayAll_ris t1 e1 (SetTable.grown e1.size)
    have l2 := relayAll_led t1 e1 (SetTable.grown e1.size)
    generalize relayAll t1 e1 (SetTable.grown e1.size) = Y at pm f2 r2 l2 ⊢
    obtain ⟨e2, t2, gave⟩ := Y
    dsimp only at pm f2 r2 l2 ⊢
    have hz : e2.size = e1.size := by rw [← Array.length_toList, pm.length_eq, Array.length_toList]
    have hb2 : e2.size < scanBound := hz ▸ hb1
    refine wpAny_bind (hg _ _ _ ?_)
    refine wpAny_bind (wpAny_storeSet_of ho1 rfl ?_ (fits_of_scanBound hb2))
    have ho2 := putAt (es2 := e2) (t2 := t2) ho1 rfl
    exact wpAny_pure (hR _ (b1.trans (Heap.SameBut.update _ a _)) ⟨_, e2, _, t2, ho2, hx, rfl, fun e he => g1 e (pm.mem_iff.mp he), (pm.map kf).trans p1, nd, hb2, f2, r2, l1.imp id fun z => l2.trans z, fun z => absurd (hz.symm.trans z) ne⟩)
  · exact wpAny_pure (hR _ b1 ⟨_, e1, _, t1, ho1, hx, rfl, g1, p1, nd, hb1, f1, r1, l1, fun z => absurd z ne⟩)
def addK (l : List Key) (k : Key) : List Key := if k ∈ l then l else l ++ [k]
theorem setM_add {k : Key} {x : Value} {Q : Bool → Shared → Prop} (hk : keyIs k x = true) (R : SetM w s.heap a l) (room : l.length + 1 < scanBound)
    (hQ : ∀ h2 b, Heap.SameBut a s.heap h2 → SetM w h2 a (addK l k) → Q b { s with heap := h2 }) : wpAny (model P w) A (setAddHashed a x (keyH w k)) Q E s := by
  have R0 := R
  obtain ⟨o, es, ep, t, ho, hx, hd, g, p, nd, hb, hf, hr, hl, _⟩ := R
  have hkey : (mixKind P w).is k x = true := hk
  have hsc : x.scannable = true := scan_of hk
  have hel : ElemsOf (mixKind P w) es.toList := good_els g
  unfold setAddHashed setAddHashedIn
  refine wpAny_holding (wpAny_bind (wpAny_setState_of ho hd hf ?_))
  dsimp only
  rw [byScan_of hsc hb hel]
  simp only [↓reduceIte]
  unfold setAddByScan
  refine wpAny_bind ?_
  refine wpAny_bind (wpAny_rule ?_)
  refine wpAny_bind (wpAny_setScan_of (knd := mixKind P w) hkey ho hd hf hel ?_)
  cases hi : List.findIdx? (fun e => (mixKind P w).is k e.2) es.toList with
  | some j =>
    dsimp only
    obtain ⟨hj, pj, _⟩ := List.findIdx?_eq_some_iff_getElem.mp hi
    have hin : k ∈ l := p.mem_iff.mp ((good_in (P := P) g k).mpr ⟨es.toList[j], List.getElem_mem hj, pj⟩)
    refine wpAny_pure (wpAny_pure ?_)
    refine hQ s.heap _ (Heap.SameBut.refl a s.heap) ?_
    unfold addK
    rw [if_pos hin]
    exact R0
  | none =>
    dsimp only
    have hnot : k ∉ es.toList.map kf := fun z => by
      obtain ⟨e, he, q⟩ := (good_in (P := P) g k).mp z
      have c := List.findIdx?_eq_none_iff.mp hi e he
      rw [q] at c
      cases c
    have hnl : k ∉ l := fun z => hnot (p.mem_iff.mpr z)
    have hgw : ∀ (b : Bool) {s1 : Shared} {Q1 : Unit → Shared → Prop}, Q1 () s1 → wpAny (model P w) A (match b with | true => rule "set.scan.the-table-gave-way" | false => pure ()) Q1 E s1 :=
      fun b s1 Q1 q => by cases b <;> first | exact wpAny_pure q | exact wpAny_rule q
    have pm := layNew_perm t es (keyH w k) x
    have f1 := layNew_fits t es (keyH w k) x
    have r1 := layNew_ris t es (keyH w k) x hr
    have l1 := layNew_led t es (keyH w k) x
    generalize layNew t es (keyH w k) x = Z at pm f1 r1 l1 ⊢
    obtain ⟨e1, t1, wd, gave⟩ := Z
    dsimp only at pm f1 r1 l1 ⊢
    rw [Array.toList_push] at pm
    have pc : e1.toList.Perm ((keyH w k, x) :: es.toList) := pm.trans (List.perm_append_singleton _ _)
    have kx : kf (keyH w k, x) = k := kf_of hk
    have pk : (e1.toList.map kf).Perm (k :: es.toList.map kf) := by
      have q := pc.map kf
      rw [List.map_cons, kx] at q
      exact q
    have g1 : ∀ e ∈ e1.toList, GoodM w e := fun e he => by
      rcases List.mem_cons.mp (pc.mem_iff.mp he) with z | z
      · rw [z]
        exact ⟨by rw [kx]; exact hk, by rw [kx]⟩
      · exact g e z
    have ea : addK l k = l ++ [k] := if_neg hnl
    have p1 : (e1.toList.map kf).Perm (addK l k) := by
      rw [ea]
      exact (pk.trans (p.cons k)).trans (List.perm_append_singleton _ _).symm
    have nd1 : (addK l k).Nodup := by
      rw [ea]
      exact (List.perm_append_singleton _ _).nodup_iff.mpr (List.nodup_cons.mpr ⟨hnl, nd⟩)
    have hb1 : e1.size < scanBound := by
      rw [← Array.length_toList, pc.length_eq, List.length_cons, ← List.length_map (f := kf), p.length_eq]
      exact room
    have ne1 : e1.size ≠ 0 := by
      rw [← Array.length_toList, pc.length_eq, List.length_cons]
      exact Nat.succ_ne_zero _
    have hled : w.params.followText "set-order" = true ∨ t1.led = true := hl.imp id fun z => by rw [l1]; exact z
    refine wpAny_bind (hgw _ ?_)
    split
    · refine wpAny_bind ?_
      rw [hashByValue_scannable 8 hsc]
      refine wpAny_pure ?_
      refine setM_tail ?_ ho hx hd g1 p1 nd1 hb1 ?_ ?_ ?_ ?_ ?_
      · intro b s1 Q1 q; cases b <;> first | exact wpAny_pure q | exact wpAny_rule q
      · first | (split <;> first | exact f1 | exact SetTable.fits_plain_off f1) | exact f1
      · first | (split <;> exact r1) | exact r1
      · first | (split <;> exact hled) | exact hled
      · exact ne1
      · intro h2 sb r; dsimp only; exact wpAny_pure (hQ h2 true sb r)
    · refine wpAny_bind (wpAny_pure ?_)
      simp only [↓reduceIte]
      refine setM_tail ?_ ho hx hd g1 p1 nd1 hb1 f1 r1 hled ne1 ?_
      · intro b s1 Q1 q; cases b <;> first | exact wpAny_pure q | exact wpAny_rule q
      · intro h2 sb r; dsimp only; exact wpAny_pure (hQ h2 true sb r)
end
end Vf

/-! Own layer: a set walked unseen, a set merged into another one, a dict or a list taken into a set. -/
namespace Vf
open PySem PySem.Spec PyProof.Rows L2
section
variable {P : Program} {w : World} {A : Around} {E : Value → Shared → Prop} {s : Shared} {a b : Addr} {l m : List Key}
theorem not_ref {e : Int × Value} (g : GoodM w e) (c : Addr) : e.2 ≠ .ref c := fun z => by
  have q := g.1
  rw [z] at q
  cases hk : kf e with
  | inl i =>
    rw [hk] at q
    exact Bool.noConfusion (show false = true from q)
  | inr i =>
    rw [hk] at q
    exact Bool.noConfusion (show false = true from q)
theorem quiet_one {es : List (Int × Value)} (g : ∀ e ∈ es, GoodM w e) {F : (Int × Value) → (Option Bool × Unit) → Sem (ForInStep (Option Bool × Unit))}
    (hF : ∀ e r, (∀ c, e.2 ≠ .ref c) → F e r = pure (.yield (none, ()))) {Q : Option Bool × Unit → Shared → Prop} (h : Q (none, ()) s) : wpAny (model P w) A (forIn es (none, ()) F) Q E s := by
  refine wpAny_forIn_list F (fun rest r s1 => r = (none, ()) ∧ s1 = s ∧ ∀ e ∈ rest, GoodM w e) _ ?_ ?_ _ _ ⟨rfl, rfl, g⟩
  · rintro e rest r s1 ⟨rfl, rfl, hall⟩
    rw [hF e _ (not_ref (hall e List.mem_cons_self))]
    exact wpAny_pure ⟨rfl, rfl, fun u hu => hall u (List.mem_cons_of_mem _ hu)⟩
  · rintro r s1 ⟨rfl, rfl, _⟩
    exact h
theorem quiet_sets {Q : Bool → Shared → Prop} {sets : List Addr} (hs : ∀ c ∈ sets, ∃ l, SetM w s.heap c l) (h : Q true s) : wpAny (model P w) A (setsQuiet sets) Q E s := by
  unfold setsQuiet
  refine wpAny_bind (wpAny_forIn_list _ (fun rest r s1 => r = (none, ()) ∧ s1 = s ∧ ∀ c ∈ rest, ∃ l, SetM w s.heap c l) _ ?_ ?_ _ _ ⟨rfl, rfl, hs⟩)
  · rintro c rest r s1 ⟨rfl, rfl, hall⟩
    obtain ⟨l, o, es, ep, t, ho, hx, hd, g, p, nd, hb, hf, _⟩ := hall c List.mem_cons_self
    refine wpAny_bind (wpAny_setEntries_of ho hd hf ?_)
    refine wpAny_bind ?_
    show wpAny _ _ (forIn es _ _) _ _ _
    rw [← Array.forIn_toList]
    refine quiet_one g ?_ ?_
    · rintro ⟨i, x⟩ ⟨r1, r2⟩ hx
      cases x <;> first | rfl | exact absurd rfl (hx _)
    · exact wpAny_pure ⟨rfl, rfl, fun u hu => hall u (List.mem_cons_of_mem _ hu)⟩
  · rintro r s1 ⟨rfl, rfl, _⟩
    exact wpAny_pure h
theorem SetM.marks {h : Heap} {o : Obj} {es es0 : Array (Int × Value)} {ep : Nat} {t t2 : SetTable} (ho : h.get? a = some o) (hx : o.ExactSet) (hd : o.data = .set es0 ep t) (g : ∀ e ∈ es.toList, GoodM w e) (p : (es.toList.map kf).Perm l) (nd : l.Nodup) (hb : es.size < scanBound)
    (hf : t2.fits es.size = true) (hr : Ris t2.place.toList) (hl : w.params.followText "set-order" = true ∨ t2.led = true) (hz : es.size = 0 → ∃ j, t2.mask + 1 = 2 ^ j) : SetM w (h.update a (Obj.putSet es t2)) a l :=
  ⟨_, es, _, t2, putAt ho hd, hx, rfl, g, p, nd, hb, hf, hr, hl, hz⟩
/-- the walk of the set at a, of which nobody sees the order -/
theorem walk_unseen {others : List Addr} {Q : Array (Int × Value) → Shared → Prop} (R : SetM w s.heap a l) (Rb : SetM w s.heap b m) (hab : a ≠ b) (ho : ∀ c ∈ others, ∃ l, SetM w s.heap c l)
    (hQ : ∀ h2 es, Heap.SameBut b s.heap h2 → SetM w h2 b m → (∀ e ∈ es.toList, GoodM w e) → (es.toList.map kf).Perm l → Q es { s with heap := h2 }) :
    wpAny (model P w) A (setWalkUnseen a others (some b)) Q E s := by
  have R0 := R
  have Rb0 := Rb
  obtain ⟨o, es, ep, t, hoa, hx, hd, g, p, nd, hb, hf, hr, hl, hz⟩ := R
  unfold setWalkUnseen
  refine wpAny_bind (wpAny_setState_of hoa hd hf ?_)
  dsimp only
  refine wpAny_bind (wpAny_byText ?_)
  by_cases c : (w.params.followText "set-order" || (t.led && t.plain) || decide (es.size ≤ 1)) = true
  · refine wp_if_pos c ?_
    unfold setWalk
    refine wpAny_bind (wpAny_setState_of hoa hd hf ?_)
    dsimp only
    refine wpAny_bind (wpAny_byText ?_)
    by_cases c1 : w.params.followText "set-order" = true
    · refine wp_if_pos c1 ?_
      refine wpAny_bind (wpAny_askSetting (wpAny_pure ?_))
      have q := pick_perm (w.params.setOrder a ep) es
      exact hQ s.heap _ (Heap.SameBut.refl b s.heap) Rb0 (fun e he => g e (q.mem_iff.mp he)) ((q.map kf).trans p)
    · refine wp_if_neg c1 ?_
      have c2 : (!t.plain && decide (es.size > 1)) = false := by
        rw [Bool.not_eq_true] at c1
        rw [c1, Bool.false_or, Bool.or_eq_true, Bool.and_eq_true, decide_eq_true_eq] at c
        rcases c with c | c
        · rw [c.2]
          rfl
        · rw [decide_eq_false (by omega), Bool.and_false]
      refine wp_if_neg (by show ¬ ((!t.plain && decide (es.size > 1)) = true); rw [c2]; exact Bool.false_ne_true) ?_
      have hled : t.led = true := hl.resolve_left c1
      refine wpAny_bind (wpAny_of_eq (a := ()) ?_ ?_)
      · show (if (!t.led && decide (es.size > 1)) = true then unsupported "set:maker-not-led" else pure ()) = pure ()
        rw [hled]
        rfl
      · exact wpAny_pure (hQ s.heap _ (Heap.SameBut.refl b s.heap) Rb0 g p)
  · refine wp_if_neg c ?_
    refine wpAny_bind (quiet_sets (fun c hc => ?_) ?_)
    · rcases List.mem_cons.mp hc with z | z
      · exact ⟨l, z ▸ R0⟩
      · exact ho c z
    · refine wp_if_neg (by simp) ?_
      refine wpAny_bind (wpAny_rule ?_)
      obtain ⟨ob, ef, epf, tf, hob, xb, db, gb, pb, nb, bb, fb, rb, lb, zb⟩ := Rb
      refine wpAny_bind (wpAny_setState_of hob db fb ?_)
      dsimp only
      have c1 : w.params.followText "set-order" = false := by
        cases q : w.params.followText "set-order" with
        | false => rfl
        | true => exact absurd (by rw [q]; rfl) c
      have hled : t.led = true := hl.resolve_left (by rw [c1]; exact Bool.false_ne_true)
      split
      · refine wpAny_bind (wpAny_storeSet_of hob db ?_ (fits_of_scanBound bb))
        refine wpAny_pure (hQ _ _ (Heap.SameBut.update s.heap b _) (SetM.marks hob xb db gb pb nb bb fb rb ?_ zb) g p)
        refine lb.imp id fun z => ?_
        show (tf.led && t.led) = true
        rw [z, hled]
        rfl
      · exact wpAny_pure (hQ s.heap _ (Heap.SameBut.refl b s.heap) Rb0 g p)
/-- the table of the set at a has room for n -/
def RoomAt (h : Heap) (a : Addr) (n : Nat) : Prop := ∃ o es ep t, h.get? a = some o ∧ o.data = .set es ep t ∧ n ≤ t.mask
/-- a set laid anew with room for more -/
theorem relay_at {n : Nat} {Q : Unit → Shared → Prop} (R : SetM w s.heap a l) (hn : l.length ≤ n) (hn2 : n ≤ 100000) (hQ : ∀ h2, Heap.SameBut a s.heap h2 → RoomAt h2 a n → SetM w h2 a l → Q () { s with heap := h2 }) : wpAny (model P w) A (setRelay a n) Q E s := by
  obtain ⟨o, es, ep, t, ho, hx, hd, g, p, nd, hb, hf, hr, hl, hz⟩ := R
  obtain ⟨j, e1, h1, h2, h3⟩ := sizeAbove_ok hn2
  have hsz : es.size = l.length := by rw [← p.length_eq, List.length_map, Array.length_toList]
  have hm : SetTable.sizeAbove n - 1 + 1 = 2 ^ j := by
    have : 0 < 2 ^ j := Nat.pow_pos (by decide)
    omega
  obtain ⟨t2, order, e2, m2, l2, d2, z2, r2, o2⟩ := laid_ok hm t.finger (t.movedTo (SetTable.sizeAbove n - 1)) t.led t.plain (es.map (·.1)) (by rw [Array.size_map]; omega)
  rw [Array.size_map] at z2 o2
  have pe := take_order es order o2
  have er : t.relaid (es.map (·.1)) n = some (t2, order) := e2
  unfold setRelay
  refine wpAny_bind (wpAny_setState_of ho hd hf ?_)
  dsimp only
  refine wp_if_neg (by rw [e1, sizeLine_eq]; omega) ?_
  rw [er]
  generalize hes2 : order.filterMap (es[·]?) = es2 at pe
  have hz2 : es2.size = es.size := by rw [← Array.length_toList, pe.length_eq, Array.length_toList]
  refine wpAny_bind (wpAny_of_eq (a := (es2, t2)) ?_ ?_)
  · show (if (order.filterMap (es[·]?)).size != es.size then unsupported "internal:set-table-lost-an-element" else pure (order.filterMap (es[·]?), t2)) = pure (es2, t2)
    rw [hes2, hz2]
    simp
  · dsimp only
    refine wpAny_storeSet_of ho hd ?_ (fits_of_scanBound (hz2 ▸ hb))
    refine hQ _ (Heap.SameBut.update s.heap a _) ⟨_, _, _, t2, putAt ho hd, rfl, by rw [m2]; omega⟩ (SetM.marks ho hx hd (fun e he => g e (pe.mem_iff.mp he)) ((pe.map kf).trans p) nd (hz2 ▸ hb) ?_ r2 (hl.imp id fun z => l2.trans z) fun _ => ⟨j, ?_⟩)
    · unfold SetTable.fits SetTable.fill
      rw [z2, d2, m2, hz2]
      simp
      omega
    · rw [m2]
      exact hm
theorem room_at {n : Nat} {Q : Unit → Shared → Prop} (R : SetM w s.heap a l) (hn2 : (l.length + n) * 2 ≤ 100000) (hQ : ∀ h2, Heap.SameBut a s.heap h2 → RoomAt h2 a n → SetM w h2 a l → Q () { s with heap := h2 }) : wpAny (model P w) A (setRoomFor a n) Q E s := by
  have R0 := R
  obtain ⟨o, es, ep, t, ho, hx, hd, g, p, nd, hb, hf, hr, hl, hz⟩ := R
  have hsz : es.size = l.length := by rw [← p.length_eq, List.length_map, Array.length_toList]
  have hps : t.place.size = es.size := by
    have q := hf
    unfold SetTable.fits at q
    rw [Bool.and_eq_true, beq_iff_eq] at q
    exact q.1
  unfold setRoomFor
  refine wpAny_bind (wpAny_setState_of ho hd hf ?_)
  dsimp only
  unfold SetTable.roomFor
  by_cases c : (t.fill + n) * 5 ≥ t.mask * 3
  · rw [if_pos c]
    refine relay_at R0 (by omega) (by omega) fun h2 sb ra r => hQ h2 sb ?_ r
    obtain ⟨o2, e2, ep2, t2, x1, x2, x3⟩ := ra
    exact ⟨o2, e2, ep2, t2, x1, x2, by omega⟩
  · rw [if_neg c]
    exact wpAny_pure (hQ s.heap (Heap.SameBut.refl a s.heap) ⟨o, es, ep, t, ho, hd, by omega⟩ R0)
end
def uniK (l m : List Key) : List Key := m.foldl addK l
theorem addK_len (l : List Key) (k : Key) : (addK l k).length ≤ l.length + 1 := by
  unfold addK
  split
  · omega
  · rw [List.length_append, List.length_singleton]
    exact Nat.le_refl _
theorem mem_addK {l : List Key} {k j : Key} : j ∈ addK l k ↔ j ∈ l ∨ j = k := by
  unfold addK
  split
  · next c => exact ⟨Or.inl, fun h => h.elim id fun e => e ▸ c⟩
  · rw [List.mem_append, List.mem_singleton]
theorem nodup_addK {l : List Key} {k : Key} (h : l.Nodup) : (addK l k).Nodup := by
  unfold addK
  split
  · exact h
  · next c => exact (List.perm_append_singleton _ _).nodup_iff.mpr (List.nodup_cons.mpr ⟨c, h⟩)
theorem mem_uniK {m : List Key} : ∀ {l : List Key} {j : Key}, j ∈ uniK l m ↔ j ∈ l ∨ j ∈ m := by
  induction m with
  | nil => intro l j; simp [uniK]
  | cons x m ih =>
    intro l j
    show j ∈ uniK (addK l x) m ↔ _
    rw [ih, mem_addK, List.mem_cons, or_assoc]
theorem nodup_uniK {m : List Key} : ∀ {l : List Key}, l.Nodup → (uniK l m).Nodup := by
  induction m with
  | nil => intro l h; exact h
  | cons x m ih => intro l h; exact ih (nodup_addK h)
theorem uniK_app {m : List Key} : ∀ {l : List Key}, (l ++ m).Nodup → uniK l m = l ++ m := by
  induction m with
  | nil => intro l h; exact (List.append_nil l).symm
  | cons x m ih =>
    intro l h
    have hx : x ∉ l := fun z => (List.nodup_append.mp h).2.2 x z x List.mem_cons_self rfl
    have e : addK l x = l ++ [x] := if_neg hx
    show uniK (addK l x) m = _
    rw [e, ih (by rw [List.append_assoc]; exact h), List.append_assoc]
    rfl
theorem perm_of_mem : ∀ {l m : List Key}, l.Nodup → m.Nodup → (∀ k, k ∈ l ↔ k ∈ m) → l.Perm m
  | [], m, _, _, h => by
    have e : m = [] := List.eq_nil_iff_forall_not_mem.mpr fun k hk => by have := (h k).mpr hk; cases this
    rw [e]
  | x :: l, m, hl, hm, h => by
    obtain ⟨h1, h2⟩ := List.nodup_cons.mp hl
    obtain ⟨a, b, e⟩ := List.append_of_mem ((h x).mp List.mem_cons_self)
    subst e
    have pm : (a ++ x :: b).Perm (x :: (a ++ b)) := List.perm_middle
    obtain ⟨m1, m2⟩ := List.nodup_cons.mp (pm.nodup_iff.mp hm)
    refine ((perm_of_mem h2 m2 fun k => ⟨fun hk => ?_, fun hk => ?_⟩).cons x).trans pm.symm
    · have q := pm.mem_iff.mp ((h k).mp (List.mem_cons_of_mem _ hk))
      rcases List.mem_cons.mp q with z | z
      · exact absurd (z ▸ hk) h1
      · exact z
    · have q := (h k).mpr (pm.mem_iff.mpr (List.mem_cons_of_mem _ hk))
      rcases List.mem_cons.mp q with z | z
      · exact absurd (z ▸ hk) m1
      · exact z
section
variable {P : Program} {w : World} {A : Around} {E : Value → Shared → Prop} {s : Shared} {a b : Addr} {l m : List Key}
theorem merge_one {each : Sem Unit} {n : Nat} {F : (Int × Value) → PUnit → Sem (ForInStep PUnit)} {Q : PUnit → Shared → Prop} {es : List (Int × Value)} {h0 : Heap}
    (hF : ∀ h x u, F (h, x) u = (do
      let _ ← holding [x] (setAddHashed a x h)
      each
      let z ← setState b
      if (z.2.1 != n) = true then do
          unsupported "set.changed-during-merge"
          pure (ForInStep.yield PUnit.unit)
        else pure (ForInStep.yield PUnit.unit)))
    (hab : a ≠ b) {ob : Obj} {eb : Array (Int × Value)} {tb : SetTable} (hob : h0.get? b = some ob) (db : ob.data = .set eb n tb) (fb : tb.fits eb.size = true)
    (heach : ∀ (h1 : Heap) (Q1 : Unit → Shared → Prop), h1.get? b = some ob → Q1 () { s with heap := h1 } → wpAny (model P w) A each Q1 E { s with heap := h1 })
    (R : SetM w h0 a l) (g : ∀ e ∈ es, GoodM w e) (hn : l.length + es.length < scanBound) (hQ : ∀ h2, Heap.SameBut a h0 h2 → SetM w h2 a (uniK l (es.map kf)) → Q ⟨⟩ { s with heap := h2 }) : wpAny (model P w) A (forIn es ⟨⟩ F) Q E { s with heap := h0 } := by
  refine wpAny_forIn_list F (fun rest _ s1 => ∃ h2 l1, s1 = { s with heap := h2 } ∧ Heap.SameBut a h0 h2 ∧ SetM w h2 a l1 ∧ (∀ e ∈ rest, GoodM w e) ∧ uniK l1 (rest.map kf) = uniK l (es.map kf) ∧ l1.length + rest.length < scanBound) _ ?_ ?_ _ _
    ⟨h0, l, rfl, Heap.SameBut.refl a h0, R, g, rfl, hn⟩
  · rintro ⟨h, x⟩ rest u s1 ⟨h2, l1, rfl, sb, R1, g1, q1, n1⟩
    rw [hF]
    obtain ⟨g2, g3⟩ := g1 (h, x) List.mem_cons_self
    have g3' : h = keyH w (kf (h, x)) := g3
    rw [List.length_cons] at n1
    refine wpAny_bind (wpAny_holding ?_)
    have main : wpAny (model P w) A (setAddHashed a x (keyH w (kf (h, x)))) (fun _ s2 => ∃ h3, s2 = { s with heap := h3 } ∧ Heap.SameBut a h2 h3 ∧ SetM w h3 a (addK l1 (kf (h, x)))) E { s with heap := h2 } :=
      setM_add (s := { s with heap := h2 }) g2 R1 (by omega) fun h3 _ sb3 R3 => ⟨h3, rfl, sb3, R3⟩
    rw [← g3'] at main
    refine wpAny_mono main (fun r s2 => ?_) fun _ _ z => z
    rintro ⟨h3, rfl, sb3, R3⟩
    have sb4 := sb.trans sb3
    have hb3 : h3.get? b = some ob := (sb4.2 b (Ne.symm hab)).trans hob
    refine wpAny_bind (heach h3 _ hb3 ?_)
    refine wpAny_bind (wpAny_setState_of (s := { s with heap := h3 }) hb3 db fb ?_)
    dsimp only
    rw [if_neg (by simp)]
    refine wpAny_pure ⟨h3, addK l1 (kf (h, x)), rfl, sb4, R3, fun e he => g1 e (List.mem_cons_of_mem _ he), q1, ?_⟩
    have := addK_len l1 (kf (h, x))
    omega
  · rintro u s1 ⟨h2, l1, rfl, sb, R1, _, q1, _⟩
    refine hQ h2 sb ?_
    have e : l1 = uniK l (es.map kf) := q1
    rw [← e]
    exact R1
theorem merge_at {each : Sem Unit} {Q : Unit → Shared → Prop} (R : SetM w s.heap a l) (Rb : SetM w s.heap b m) (hab : a ≠ b) (hn : l.length + m.length < scanBound)
    (heach : ∀ (h1 : Heap) (Q1 : Unit → Shared → Prop), h1.get? b = s.heap.get? b → Q1 () { s with heap := h1 } → wpAny (model P w) A each Q1 E { s with heap := h1 })
    (hQ : ∀ h2, Heap.SameBut a s.heap h2 → SetM w h2 a (uniK l m) → Q () { s with heap := h2 }) : wpAny (model P w) A (setMerge a b each) Q E s := by
  have R0 := R
  have Rb0 := Rb
  obtain ⟨ob, eb, epb, tb, hob, xb, db, gb, pb, nb, bb, fb, rb, lb, zb⟩ := Rb
  have hnm : eb.size = m.length := by rw [← pb.length_eq, List.length_map, Array.length_toList]
  have hsb : scanBound = 4096 := rfl
  unfold setMerge
  refine wp_if_neg (by simp [hab]) ?_
  refine wpAny_bind (wpAny_setState_of hob db fb ?_)
  dsimp only
  by_cases hz : eb.size = 0
  · rw [if_pos (by simp [Array.isEmpty, hz])]
    refine wpAny_pure (hQ s.heap (Heap.SameBut.refl a s.heap) ?_)
    have e : m = [] := List.length_eq_zero_iff.mp (by omega)
    rw [e]
    exact R0
  rw [if_neg (by simp [Array.isEmpty, hz])]
  refine wpAny_bind (room_at R0 (by omega) fun h2 sb ra R2 => ?_)
  obtain ⟨o, es, ep, t, ho, hx, hd, g, p, nd, hb, hf, hr, hl, hz2⟩ := R2
  obtain ⟨o', es', ep', t', ho', hd', hmask⟩ := ra
  rw [ho] at ho'
  cases ho'
  rw [hd] at hd'
  cases hd'
  have hob2 : h2.get? b = some ob := (sb.2 b (Ne.symm hab)).trans hob
  refine wpAny_bind (wpAny_setState_of (s := { s with heap := h2 }) ho hd hf ?_)
  dsimp only
  have hps : t.place.size = es.size := by
    have q := hf
    unfold SetTable.fits at q
    rw [Bool.and_eq_true, beq_iff_eq] at q
    exact q.1
  have clear : t.fill = 0 → l = [] ∧ es.size = 0 := fun z => by
    unfold SetTable.fill at z
    have h1 : es.size = 0 := by omega
    exact ⟨List.length_eq_zero_iff.mp (by rw [← p.length_eq, List.length_map, Array.length_toList]; exact h1), h1⟩
  have hled : w.params.followText "set-order" = true ∨ (t.led && tb.led) = true := by
    rcases hl with z | z
    · exact Or.inl z
    · rcases lb with y | y
      · exact Or.inl y
      · exact Or.inr (by rw [z, y]; rfl)
  have hmem : ∀ {x : List Key}, x.Perm m → l = [] → x.Perm (uniK l m) := fun px z => by
    rw [z, uniK_app (l := []) (by rw [List.nil_append]; exact nb)]
    exact px
  unfold SetTable.road
  by_cases hfill : (t.fill != 0) = true
  · rw [if_pos hfill]
    dsimp only
    have Ra2 : SetM w h2 a l := ⟨o, es, ep, t, ho, hx, hd, g, p, nd, hb, hf, hr, hl, hz2⟩
    refine wpAny_bind (walk_unseen (s := { s with heap := h2 }) (Rb0.keep fun u hu => (sb.2 b (Ne.symm hab)).trans hu) Ra2 (Ne.symm hab) (fun c hc => ⟨l, by rw [List.mem_singleton.mp hc]; exact Ra2⟩) fun h3 er sb3 R3 g3 p3 => ?_)
    have hob3 : h3.get? b = some ob := (sb3.2 b (Ne.symm hab)).trans hob2
    refine wpAny_bind ?_
    rw [← Array.forIn_toList]
    refine merge_one (s := s) (each := each) (n := epb) (l := l) (fun h x u => rfl) hab hob3 db fb (fun h1 Q1 q1 q2 => heach h1 Q1 (q1.trans hob.symm) q2) R3 g3 ?_ fun h4 sb4 R4 => ?_
    · have q := p3.length_eq
      rw [List.length_map] at q
      omega
    · refine wpAny_pure (hQ h4 ((sb.trans sb3).trans sb4) (R4.perm (by
      exact perm_of_mem (nodup_uniK nd) (nodup_uniK nd) fun k => by rw [mem_uniK, mem_uniK, p3.mem_iff])))
  · rw [if_neg hfill]
    have hfz : t.fill = 0 := by
      rw [bne_iff_ne, ne_eq, Classical.not_not] at hfill
      exact hfill
    obtain ⟨el, ez⟩ := clear hfz
    obtain ⟨j, hj⟩ := hz2 ez
    by_cases hroad : (t.mask == tb.mask && tb.dummies.isEmpty) = true
    · rw [if_pos hroad]
      refine wpAny_storeSet_of (s := { s with heap := h2 }) ho hd ?_ (fits_of_scanBound bb)
      refine hQ _ (sb.trans (Heap.SameBut.update h2 a _)) (SetM.marks ho hx hd gb (hmem pb el) ?_ bb ?_ ?_ hled fun z => absurd z hz)
      · exact nodup_uniK nd
      · exact fb
      · exact rb
    · rw [if_neg hroad]
      dsimp only
      obtain ⟨t2, order, e2, m2, l2, d2, z2, r2, o2⟩ := laid_ok hj t.finger t.moves (t.led && tb.led) (t.plain && tb.plain) (eb.map (·.1)) (by rw [Array.size_map]; exact hmask)
      rw [Array.size_map] at z2 o2
      have pe := take_order eb order o2
      rw [e2]
      generalize hes2 : order.filterMap (eb[·]?) = es2 at pe
      have hzz : es2.size = eb.size := by rw [← Array.length_toList, pe.length_eq, Array.length_toList]
      refine wpAny_bind (wpAny_of_eq (a := (es2, t2)) ?_ ?_)
      · show (if (order.filterMap (eb[·]?)).size != eb.size then unsupported "internal:set-table-lost-an-element" else pure (order.filterMap (eb[·]?), t2)) = pure (es2, t2)
        rw [hes2, hzz]
        simp
      · dsimp only
        refine wpAny_storeSet_of (s := { s with heap := h2 }) ho hd ?_ (fits_of_scanBound (hzz ▸ bb))
        refine hQ _ (sb.trans (Heap.SameBut.update h2 a _)) (SetM.marks ho hx hd (fun e he => gb e (pe.mem_iff.mp he)) (hmem ((pe.map kf).trans pb) el) (nodup_uniK nd) (hzz ▸ bb) ?_ r2 (hled.imp id fun z => l2.trans z) fun z => absurd (hzz.symm.trans z) hz)
        unfold SetTable.fits SetTable.fill
        rw [z2, d2, m2, hzz]
        simp
        exact hmask
end
end Vf

/-! Own layer: sets made: set(d), a | b, a & b, sorted(a). -/
namespace Vf
open PySem PySem.Spec PyProof.Rows L2
/-- a set without members, just made -/
def set0 (w : World) : Obj := { cls := .type "set", dict := none, data := .set #[] 0 (.fresh 0 0 (!w.params.followText "set-order")) }
theorem setM_new {w : World} {h : Heap} {a : Addr} (ho : h.get? a = some (set0 w)) : SetM w h a [] :=
  ⟨_, #[], 0, _, ho, ⟨rfl, rfl, rfl⟩, rfl, (fun e he => by simp at he), (by simp), List.nodup_nil, (by decide), (by rfl), List.Pairwise.nil, by
    show _ ∨ (!w.params.followText "set-order") = true
    cases w.params.followText "set-order"
    · exact .inr rfl
    · exact .inl rfl, fun _ => ⟨3, rfl⟩⟩
section
variable {P : Program} {w : World} {A : Around} {E : Value → Shared → Prop} {s : Shared} {a b d : Addr} {l m : List Key}
theorem newSet_at {Q : Value → Shared → Prop} (h : Q (.ref s.heap.objs.size) { s with heap := s.heap.push (set0 w) }) : wpAny (model P w) A (newSet (.type "set")) Q E s := by
  unfold newSet setsByText
  refine wpAny_bind (wpAny_bind (wpAny_askSetting (wpAny_pure ?_)))
  dsimp only
  simp only [newObj]
  exact wpAny_bind (wpAny_alloc (wpAny_pure h))
theorem anySet_no {v : Value} {T : String} {Q : Bool → Shared → Prop} (hT : s.TypeIs v T) (h1 : isSubtype (.type T) (.type "set") = pure false) (h2 : isSubtype (.type T) (.type "frozenset") = pure false) (h : Q false s) : wpAny (model P w) A (Builtin.Frozenset.isAnySet v) Q E s := by
  unfold Builtin.Frozenset.isAnySet orM
  refine wpAny_bind (wpAny_isInstance hT h1 ?_)
  exact wpAny_isInstance hT h2 h
theorem anySet_yes {v : Value} {Q : Bool → Shared → Prop} (hT : s.TypeIs v "set") (h : Q true s) : wpAny (model P w) A (Builtin.Frozenset.isAnySet v) Q E s := by
  unfold Builtin.Frozenset.isAnySet orM
  refine wpAny_bind (wpAny_isInstance hT sub_set_self ?_)
  exact wpAny_pure h
/-- a dict's keys taken into a set -/
theorem upd_dict {kvs : List (Key × Value)} {id : String} {Q : Unit → Shared → Prop} (R : SetM w s.heap a l) (D : s.heap.DictOf (mixKind P w) d kvs) (lo : (d == sysModules) = false) (hn : l.length + kvs.length < scanBound)
    (hQ : ∀ h2, Heap.SameBut a s.heap h2 → SetM w h2 a (uniK l (kvs.map (·.1))) → Q () { s with heap := h2 }) : wpAny (model P w) A (Builtin.Frozenset.updateFrom id a (.ref d)) Q E s := by
  have hsb : scanBound = 4096 := rfl
  obtain ⟨o, es, ep, hd, hx, hdat, hk, hp, hnd⟩ := D
  have hT : s.TypeIs (.ref d) "dict" := ⟨o, hd, hx.1⟩
  have hlen : es.size = kvs.length := by rw [← hp.length, Array.length_toList]
  have had : d ≠ a := fun z => by
    obtain ⟨o2, es2, ep2, t2, ho2, hx2, _⟩ := R
    rw [z, ho2] at hd
    cases hd
    exact absurd (Value.type.inj (hx.1.symm.trans hx2.1)) (by decide)
  unfold Builtin.Frozenset.updateFrom
  refine wpAny_bind (anySet_no hT PySem.F.sub_dict_set PySem.F.sub_dict_frozenset ?_)
  refine wp_if_neg Bool.false_ne_true ?_
  refine wpAny_bind (wpAny_typeOf hT ?_)
  refine wp_if_pos (by decide) ?_
  refine wpAny_bind (wpAny_rule ?_)
  refine wpAny_bind (m := Builtin.Frozenset.addrOf (.ref d)) (wpAny_pure ?_)
  refine wp_if_neg (by rw [lo]; exact Bool.false_ne_true) ?_
  refine wpAny_bind (wpAny_dictEpoch hd hdat ?_)
  refine wpAny_bind (wpAny_dictEntries hd hdat ?_)
  refine wpAny_bind (room_at R (by omega) fun h0 sb0 _ R0 => ?_)
  have hd0 : h0.get? d = some o := (sb0.2 d had).trans hd
  refine wpAny_bind (wpAny_dictEntries hd0 hdat ?_)
  refine wpAny_bind ?_
  rw [Std.Legacy.Range.forIn_eq_forIn_range']
  simp only [Std.Legacy.Range.size, Nat.sub_zero, Nat.add_sub_cancel, Nat.div_one]
  refine wpAny_forIn_list _
    (fun rest _ s2 => ∃ h2 i, s2 = { s with heap := h2 } ∧ rest = List.range' i (es.size - i) ∧ i ≤ es.size ∧ SetM w h2 a (uniK l ((kvs.map (·.1)).take i)) ∧ (uniK l ((kvs.map (·.1)).take i)).length ≤ l.length + i ∧ h2.get? d = some o ∧ Heap.SameBut a s.heap h2)
    _ ?_ ?_ _ _ ⟨h0, 0, rfl, by simp, Nat.zero_le _, R0, Nat.le_refl _, hd0, sb0⟩
  · rintro x rest u s2 ⟨h2, i, rfl, hr, hi, R2, n2, hd2, sb2⟩
    have hlt : i < es.size := by
      rcases Nat.lt_or_ge i es.size with h | h
      · exact h
      · rw [Nat.sub_eq_zero_of_le h] at hr
        simp at hr
    obtain ⟨rfl, hrest⟩ : x = i ∧ rest = List.range' (i + 1) (es.size - (i + 1)) := by
      have e : es.size - i = (es.size - (i + 1)) + 1 := by omega
      rw [e, List.range'_succ] at hr
      injection hr with h1 h2
      exact ⟨h1, h2⟩
    refine wpAny_bind (wpAny_dictEntries hd2 hdat ?_)
    rw [Array.getElem?_eq_getElem hlt]
    have hlk : x < kvs.length := hlen ▸ hlt
    have hkv : kvs[x]? = some kvs[x] := List.getElem?_eq_getElem hlk
    obtain ⟨hkey, hval⟩ := hp.get? (e := es[x]) (by simp [hlt]) hkv
    obtain ⟨k2, hkey2, hhash⟩ := hk es[x] (Array.getElem_mem hlt)
    obtain rfl : k2 = kvs[x].1 := (mixKind P w).inj _ _ _ hkey2 hkey
    dsimp only
    rw [hhash]
    refine wpAny_bind (wpAny_holding ?_)
    have et : uniK l ((kvs.map (·.1)).take (x + 1)) = addK (uniK l ((kvs.map (·.1)).take x)) kvs[x].1 := by
      rw [List.take_add_one, List.getElem?_map, hkv]
      show uniK l ((kvs.map (·.1)).take x ++ [kvs[x].1]) = _
      unfold uniK
      rw [List.foldl_append]
      rfl
    refine setM_add (s := { s with heap := h2 }) hkey2 R2 (by omega) fun h3 _ sb3 R3 => ?_
    have hd3 : h3.get? d = some o := (sb3.2 d had).trans hd2
    refine wpAny_bind (wpAny_dictEpoch (s := { s with heap := h3 }) hd3 hdat ?_)
    rw [if_neg (by simp)]
    have n3 := addK_len (uniK l ((kvs.map (·.1)).take x)) kvs[x].1
    exact wpAny_pure ⟨h3, x + 1, rfl, hrest, hlt, by rw [et]; exact R3, by rw [et]; omega, hd3, sb2.trans sb3⟩
  · rintro u s2 ⟨h2, i, rfl, hr, hi, R2, n2, hd2, sb2⟩
    have hin : i = es.size := by
      rcases Nat.lt_or_ge i es.size with h | h
      · have e : es.size - i = (es.size - (i + 1)) + 1 := by omega
        rw [e, List.range'_succ] at hr
        cases hr
      · omega
    refine wpAny_pure (hQ h2 sb2 ?_)
    have e : (kvs.map (·.1)).take i = kvs.map (·.1) := List.take_of_length_le (by rw [List.length_map, hin, hlen]; exact Nat.le_refl _)
    rw [e] at R2
    exact R2
set_option maxRecDepth 100000 in
set_option maxHeartbeats 3200000 in
/-- set(x), by what x gives -/
theorem call_setX {x : Value} {K : Shared → Prop} {Q : Value → Shared → Prop} (upd : ∀ (A2 : Around), A2.handled = A.handled → wpAny (model P w) A2 (Builtin.Frozenset.updateFrom "set.__init__" s.heap.objs.size x) (fun _ s2 => K s2) E { s with heap := s.heap.push (set0 w) })
    (h : ∀ s2, K s2 → Q (.ref s.heap.objs.size) s2) : wpAny (model P w) A (call (.type "set") [x]) Q E s := by
  obtain ⟨c, tl, hmro⟩ := PySem.F.called_set.mro
  have hmade := PySem.F.called_set.made
  have hsub := PySem.F.called_set.sub
  refine wpAny_call (codeAny_of_tree ?_)
  show wpAny _ _ (callAny (.type "set") _) _ _ _
  refine wpAny_pure ⟨Code.quiet_builtin _ (by decide +kernel), codeAny_builtin PySem.F.entry_type_call ?_⟩
  rw [Around.under_plain (weight_type_call_type "set" [x] []) rfl]
  have h1 := PySem.F.called_set.notType
  have h2 := PySem.F.called_set.canCreate
  have hct := PySem.F.typeCall_set_1 x
  repeat (any_goals (first | assumption | wp_step))
  refine codeAny_mono (code_set_led1 x (E := E) (Q₁ := fun obj z => obj = .ref s.heap.objs.size ∧ z = { s with heap := s.heap.push (set0 w) }) ⟨rfl, rfl⟩) fun r z hr => ?_
  cases r with
  | error e => exact hr
  | ok fl =>
    cases fl with
    | ret obj =>
      obtain ⟨rfl, rfl⟩ := hr
      have hS : (s.heap.push (set0 w)).get? s.heap.objs.size = some (set0 w) := Heap.get?_push_size _ rfl
      have hT : Shared.TypeIs { s with heap := s.heap.push (set0 w) } (.ref s.heap.objs.size) "set" := ⟨_, hS, rfl⟩
      have hli := PySem.F.called_set.init.lookup
      have hbi := PySem.F.called_set.init.bind (.ref s.heap.objs.size)
      repeat (any_goals (first | assumption | wp_step))
      refine codeAny_mono (codeAny_call_builtin (R := wants (fun r z2 => r = .none ∧ K z2) E) PySem.F.called_set.init.plain PySem.F.entry_set_init (check_set_init_1 hT ?_)) fun r2 z2 hr2 => ?_
      · unfold Builtin.«set.__init__» noKeywords
        generalize hU : Builtin.Frozenset.updateFrom = U
        wp_walk
        subst hU
        refine wpAny_mono (upd A.in1.in1 (by first | rfl | simp)) (fun _ s2 k => ?_) fun e s2 z => z
        exact wpAny_pure ⟨rfl, k⟩
      · cases r2 with
        | error e => exact hr2
        | ok fl2 =>
          cases fl2 with
          | ret r =>
            obtain ⟨rfl, k⟩ := hr2
            repeat (any_goals (first | assumption | wp_step))
            exact h _ k
          | _ => exact hr2.elim
    | _ => exact hr.elim
/-! ### copies, a | b, a & b -/
theorem baseOf_at {Q : Value → Shared → Prop} (hT : s.TypeIs (.ref a) "set") (h : Q (.type "set") s) : wpAny (model P w) A (Builtin.Frozenset.baseOf a) Q E s := by
  unfold Builtin.Frozenset.baseOf
  refine wpAny_bind (wpAny_isInstance hT sub_set_self ?_)
  exact wpAny_pure h
theorem nil_perm {x : List Key} (h : l.Nodup) (e : uniK [] l = x) : x = l := by
  rw [← e, uniK_app (l := []) (by rw [List.nil_append]; exact h)]
  rfl
theorem SetM.nodup {h : Heap} (R : SetM w h a l) : l.Nodup := by
  obtain ⟨o, es, ep, t, ho, x1, x2, x3, x4, x5, _⟩ := R
  exact x5
theorem copy_at {Q : Value → Shared → Prop} (R : SetM w s.heap a l) (h : ∀ h2, (∀ b u, s.heap.get? b = some u → h2.get? b = some u) → SetM w h2 s.heap.objs.size l → Q (.ref s.heap.objs.size) { s with heap := h2 }) :
    wpAny (model P w) A (Builtin.Frozenset.copyOf a) Q E s := by
  unfold Builtin.Frozenset.copyOf
  refine wpAny_bind (baseOf_at R.typeIs ?_)
  refine wpAny_bind (newSet_at ?_)
  refine wpAny_bind (m := Builtin.Frozenset.addrOf _) (wpAny_pure ?_)
  have hlt : a < s.heap.objs.size := R.lt
  have hne : s.heap.objs.size ≠ a := Nat.ne_of_gt hlt
  have hl := R.len
  refine wpAny_bind (merge_at (s := { s with heap := s.heap.push (set0 w) }) (l := []) (m := l) (setM_new (Heap.get?_push_size _ rfl)) (R.keep fun o e => Heap.get?_push_of_some _ e) hne (by rw [List.length_nil, Nat.zero_add]; exact hl) (fun h1 Q1 _ q => wpAny_pure q) fun h2 sb R2 => ?_)
  refine wpAny_pure (h h2 (fun b u e => ?_) ?_)
  · exact (sb.2 b (Nat.ne_of_lt (Heap.lt_size e))).trans (Heap.get?_push_of_some _ e)
  · rw [nil_perm R.nodup rfl] at R2
    exact R2
theorem upd_set {id : String} {Q : Unit → Shared → Prop} (R : SetM w s.heap a l) (Rb : SetM w s.heap b m) (hab : a ≠ b) (hn : l.length + m.length < scanBound)
    (hQ : ∀ h2, Heap.SameBut a s.heap h2 → SetM w h2 a (uniK l m) → Q () { s with heap := h2 }) : wpAny (model P w) A (Builtin.Frozenset.updateFrom id a (.ref b)) Q E s := by
  unfold Builtin.Frozenset.updateFrom
  refine wpAny_bind (anySet_yes Rb.typeIs ?_)
  refine wp_if_pos rfl ?_
  refine wpAny_bind (m := Builtin.Frozenset.addrOf _) (wpAny_pure ?_)
  unfold Builtin.Frozenset.merge
  have Rb2 := Rb
  obtain ⟨ob, eb, epb, tb, hob, xb, db, gb, pb, nb, bb, fb, rest⟩ := Rb2
  refine wpAny_bind (wpAny_setEpoch_of hob db fb ?_)
  refine merge_at R Rb hab hn (fun h1 Q1 e q => ?_) hQ
  unfold Builtin.Frozenset.unchanged
  refine wpAny_bind (wpAny_setEpoch_of (s := { s with heap := h1 }) (e.trans hob) db fb ?_)
  rw [if_neg (by simp)]
  exact wpAny_pure q
end
end Vf

/-! Own layer: sets: a | b, a & b, sorted(a). -/
namespace Vf
open PySem PySem.Spec PyProof.Rows L2
theorem slot_set_or : Slot "set" (dunder "or") "set.__or__" :=
  .of (owner := "set") (n := "__or__") (by rw [typeLookup_type, builtinLookup_eq_fast]; kernel_rfl) (by decide +kernel) (by decide +kernel) (by decide +kernel)
    (by first | exact .inl (by decide +kernel) | exact .inr (by decide +kernel)) (by rw [isSubtype_type]; kernel_rfl)
theorem slot_set_and : Slot "set" (dunder "and") "set.__and__" :=
  .of (owner := "set") (n := "__and__") (by rw [typeLookup_type, builtinLookup_eq_fast]; kernel_rfl) (by decide +kernel) (by decide +kernel) (by decide +kernel)
    (by first | exact .inl (by decide +kernel) | exact .inr (by decide +kernel)) (by rw [isSubtype_type]; kernel_rfl)
theorem fills_set_or : fillsNumberSlot (.type "set") "or" = pure true :=
  fillsNumberSlot_of (id := "set.__or__") (r := some (.builtin "set.__ror__")) (by rw [typeLookup_type, builtinLookup_eq_fast]; kernel_rfl) (by decide +kernel) (by rw [typeLookup_type, builtinLookup_eq_fast]; kernel_rfl)
theorem fills_set_and : fillsNumberSlot (.type "set") "and" = pure true :=
  fillsNumberSlot_of (id := "set.__and__") (r := some (.builtin "set.__rand__")) (by rw [typeLookup_type, builtinLookup_eq_fast]; kernel_rfl) (by decide +kernel) (by rw [typeLookup_type, builtinLookup_eq_fast]; kernel_rfl)
theorem entry_set_or : entryFor table "set.__or__" = some Builtin.«frozenset.__or__» :=
  entryFor_alias (id' := "frozenset.__or__") (by kernel_rfl) rfl (by decide +kernel) (by kernel_rfl)
theorem entry_set_and : entryFor table "set.__and__" = some Builtin.«frozenset.__and__» :=
  entryFor_alias (id' := "frozenset.__and__") (by kernel_rfl) rfl (by decide +kernel) (by kernel_rfl)
theorem args_set_or (a b : Value) : argsOk "set.__or__" ⟨[a, b], []⟩ := by unfold argsOk; kernel_rfl
theorem args_set_and (a b : Value) : argsOk "set.__and__" ⟨[a, b], []⟩ := by unfold argsOk; kernel_rfl
section
variable {P : Program} {w : World} {A : Around} {E : Value → Shared → Prop} {s : Shared} {a b d : Addr} {l m : List Key}
/-- a | b of two sets that are not the same -/
theorem or_sets {Q : Value → Shared → Prop} (R : SetM w s.heap a l) (Rb : SetM w s.heap b m) (hab : a ≠ b) (hn : l.length + m.length < scanBound)
    (h : ∀ h2, (∀ b u, s.heap.get? b = some u → h2.get? b = some u) → SetM w h2 s.heap.objs.size (uniK l m) → Q (.ref s.heap.objs.size) { s with heap := h2 }) : wpAny (model P w) A (binaryOp .BitOr (.ref a) (.ref b)) Q E s := by
  refine wpAny_binaryOp_same (op := .BitOr) (T := "set") R.typeIs Rb.typeIs fills_set_or slot_set_or (wpAny_call_entry slot_set_or R.typeIs entry_set_or ?_ (args_set_or _ _))
  unfold Builtin.«frozenset.__or__»
  refine wpAny_bind (m := Builtin.Frozenset.slot1 "__or__" _) (wpAny_of_eq (a := (.ref a, .ref b)) (by rfl) ?_)
  dsimp only
  refine wpAny_bind (wpAny_bind (anySet_yes R.typeIs ?_))
  refine anySet_yes Rb.typeIs ?_
  refine wp_if_neg (by decide) ?_
  refine wpAny_bind (m := Builtin.Frozenset.addrOf _) (wpAny_pure ?_)
  refine wpAny_bind ?_
  refine wpAny_bind (copy_at R fun h1 k1 R1 => ?_)
  have hb1 : b ≠ s.heap.objs.size := Nat.ne_of_lt Rb.lt
  refine wp_if_pos (by simp [hab, Ne.symm hab]) ?_
  refine wpAny_bind (m := Builtin.Frozenset.addrOf _) (wpAny_pure ?_)
  refine wpAny_bind (wpAny_holding ?_)
  refine upd_set (s := { s with heap := h1 }) R1 (Rb.keep fun o e => k1 b o e) (Ne.symm hb1) hn fun h2 sb2 R2 => ?_
  refine wpAny_pure (wpAny_pure ⟨_, rfl, Value.noConfusion, h h2 (fun c u e => ?_) R2⟩)
  exact (sb2.2 c (Nat.ne_of_lt (Heap.lt_size e))).trans (k1 c u e)
end
end Vf

/-! Own layer: sets among the tracked objects: set(d), a | b, sorted(a). -/
namespace Vf
open PySem PySem.Spec PyProof.Rows L2 TL Evl
theorem strs_out : ∀ {out : List Value}, (∀ v ∈ out, ∃ x t, v = Value.str x t) → ∃ ks, StrsAre out ks ∧ out.map (fun v => kf (0, v)) = ks.map Sum.inr
  | [], _ => ⟨[], .nil, rfl⟩
  | v :: out, h => by
    obtain ⟨x, t, e⟩ := h v List.mem_cons_self
    obtain ⟨ks, a, b⟩ := strs_out fun u hu => h u (List.mem_cons_of_mem _ hu)
    subst e
    exact ⟨x :: ks, .cons _ _ a, by rw [List.map_cons, b]; rfl⟩
theorem kf_snd (e : Int × Value) : kf (0, e.2) = kf e := rfl
theorem perm_inr {ks ms : List Str} (h : (ks.map Sum.inr : List Key).Perm (ms.map Sum.inr)) : ks.Perm ms := by
  have q := h.map (fun k : Key => match k with | .inr x => x | .inl _ => (⟨#[]⟩ : Str))
  rw [List.map_map, List.map_map] at q
  have e : ∀ l : List Str, l.map ((fun k : Key => match k with | .inr x => x | .inl _ => (⟨#[]⟩ : Str)) ∘ Sum.inr) = l := fun l => by
    conv => rhs; rw [← List.map_id l]
    exact List.map_congr_left fun _ _ => rfl
  rw [e, e] at q
  exact q
section
variable {P : Program} {w : World} {A : Around} {E : Value → Shared → Prop} {s : Shared} {a : Addr}
theorem sorted_setM {ks : List Str} {Q : Value → Shared → Prop} (R : SetM w s.heap a (ks.map Sum.inr)) (hh : A.handled = none)
    (hQ : ∀ s2 p (out : Array Value) (c : Nat) (ys : List Str), (∀ b o, s.heap.get? b = some o → s2.heap.get? b = some o) → s2.gens = s.gens → s2.os = s.os → s.heap.objs.size ≤ p →
      s2.heap.get? p = some (seqObj "list" out c) → StrsAre out.toList ys → ys.Perm ks → sortedS ys = true → Q (.ref p) s2) :
    wpAny (model P w) A (call (.builtin "sorted") [.ref a]) Q E s := by
  obtain ⟨o, es, ep, t, ho, hex, hd, g, pm0, nd, hb, hf, hr, hl, _⟩ := R
  refine Calls.call_function_entry PyProof.Rows.kind_sorted PyProof.Rows.plain_sorted PyProof.Rows.entry_sorted (PyProof.Rows.args_sorted1 _) ?_
  unfold Builtin.«sorted»
  refine wpAny_bind (m := checkCount "sorted" 1 1 _) (wpAny_pure ?_)
  refine wpAny_bind (collect_set (A := A.in1) hh ⟨o, ho, hex.1, hd⟩ hf hb hr hl fun s1 out k1 hz g1 o1 pm => ?_)
  have hmem : ∀ v ∈ out, ∃ x t, v = Value.str x t := fun v hv => by
    obtain ⟨e, he, ev⟩ := List.mem_map.mp (pm.mem_iff.mp hv)
    have hk : kf e ∈ ks.map Sum.inr := pm0.mem_iff.mp (List.mem_map_of_mem he)
    obtain ⟨x, hx, ex⟩ := List.mem_map.mp hk
    have q := (g e he).1
    rw [← ex] at q
    obtain ⟨t, et⟩ := Value.isStrOf_shape (x := x) (v := e.2) q
    exact ⟨x, t, ev.symm.trans et⟩
  obtain ⟨ms, hS, em⟩ := strs_out hmem
  have pk : ms.Perm ks := by
    refine perm_inr ?_
    rw [← em]
    refine (pm.map _).trans ?_
    rw [List.map_map]
    exact pm0
  have hal : out.length ≤ sizeLine := by
    rw [pm.length_eq, List.length_map, Array.length_toList]
    exact fits_of_scanBound hb
  refine wpAny_bind (wpAny_newList ?_ hal)
  have hoL : (s1.heap.push (seqObj "list" out.toArray 0)).get? s1.heap.objs.size = some (seqObj "list" out.toArray 0) := Heap.get?_push_size _ rfl
  refine wpAny_bind (wpAny_holding (wpAny_call_entry PyProof.Rows.slot_list_sort ⟨_, hoL, rfl⟩ PyProof.Rows.entry_list_sort
    (list_sort_treeKAny strKind_oneLt (s := { s1 with heap := s1.heap.push (seqObj "list" out.toArray 0) }) hoL hS.keysOf (fun v1 v2 rest e => keyKind_strs (by rw [← e]; exact hS)) hal fun st2 hp hs => ⟨_, rfl, ?_⟩)
    (PyProof.Rows.args_list_sort _)))
  obtain ⟨ys, q1, q2, q3⟩ := sorted_out_str hS hp hs
  obtain ⟨e2, he2⟩ := PyProof.Rows.sortedHeap_at (vs := out) (out := (arrOf st2).map (·.2)) hoL
  refine wpAny_pure ⟨_, rfl, hQ _ s1.heap.objs.size _ e2 ys (fun b u e => ?_) g1 o1 hz he2 q1 (q2.trans pk) q3⟩
  have q := k1 b u e
  have hlt := Heap.lt_size q
  show (sortedHeap (s1.heap.push (seqObj "list" out.toArray 0)) s1.heap.objs.size out _).get? b = some u
  rw [PyProof.Rows.sortedHeap_old (Nat.ne_of_lt hlt) (by rw [size_push']; exact Nat.lt_succ_of_lt hlt)]
  exact Heap.get?_push_of_some _ q
end
/-- the set of keys at a, among the tracked objects -/
def KS (w : World) (a : Addr) (l : List Key) : HO := .ext fun h => SetM w h a l
section
variable {X : Cx}
theorem ks_new {w : World} {P : Program} {H : Hp} {h : Heap} {a : Addr} {l : List Key} (R : SetM w h a l) : ObjOk P w H h a (KS w a l) := by
  have ⟨o, _, _, _, ho, _⟩ := R
  exact ⟨R, ⟨o, ho⟩, fun h1 h2 p k => p.keep k⟩
theorem ks_get {pins : List (Addr × Obj)} {σ : L2.St} {H : Hp} {s : Shared} {a : Addr} {l : List Key} (I : Inv X pins σ H s) (ha : H a = some (KS X.w a l)) : SetM X.w s.heap a l := (I.hok a _ ha).1
/-- set(d) of a dict -/
def rSetD (w : World) : List V → Hp → VK → Prop := fun xs H Q => ∃ (d : Addr) (kvs : List (Key × V)), xs = [.ref d] ∧ Rd H d (.dK kvs) ∧ kvs.length < scanBound ∧ ∀ p, H p = none → Q (.ref p) (upd H p (KS w p (kvs.map (·.1))))
theorem call_setD : CallR X (.type "set") (rSetD X.w) := by
  intro pins s σ H xs us Q I r ⟨d, kvs, ex, hd, hn, q⟩
  subst ex
  obtain ⟨u, eu, rx⟩ := vals1 r
  subst eu
  cases rx
  obtain ⟨z, lo, wv, rel, dd⟩ := dk_rd I.hok hd
  have hkeys : wv.map (·.1) = kvs.map (·.1) := rel.keys.symm
  have hl : wv.length = kvs.length := by
    have e := congrArg List.length hkeys
    rw [List.length_map, List.length_map] at e
    exact e
  have hnd : (kvs.map (·.1)).Nodup := by
    obtain ⟨_, _, _, _, _, _, _, _, nd⟩ := dd
    rw [← hkeys]
    exact nd
  have dd2 : Heap.DictOf (mixKind X.prog X.w) (s.heap.push (set0 X.w)) d wv := by
    obtain ⟨o, es, ep, ho, r⟩ := dd
    exact ⟨o, es, ep, Heap.get?_push_of_some _ ho, r⟩
  refine call_setX (K := fun s2 => ∃ h2, s2 = { s with heap := h2 } ∧ (∀ b u, s.heap.get? b = some u → h2.get? b = some u) ∧ SetM X.w h2 s.heap.objs.size (kvs.map (·.1))) (fun A2 _ => ?_) ?_
  · refine upd_dict (s := { s with heap := s.heap.push (set0 X.w) }) (l := []) (setM_new (Heap.get?_push_size _ rfl)) dd2 lo (by rw [hl, List.length_nil, Nat.zero_add]; exact hn) fun h2 sb R2 => ⟨h2, rfl, fun b u e => (sb.2 b (Nat.ne_of_lt (Heap.lt_size e))).trans (Heap.get?_push_of_some _ e), ?_⟩
    rw [uniK_app (l := []) (by rw [hkeys, List.nil_append]; exact hnd), hkeys] at R2
    exact R2
  · rintro s2 ⟨h2, rfl, k2, R2⟩
    exact ⟨.ref s.heap.objs.size, upd H s.heap.objs.size (KS X.w s.heap.objs.size (kvs.map (·.1))), I.laid (t' := s.toks) k2 (Nat.le_refl _) (ks_new R2), rfl, q _ (I.hok.fresh (Nat.le_refl _))⟩
/-- a | b -/
def rOrM (w : World) : V → V → Hp → VK → Prop := fun x y H Q => ∃ (a b : Addr) (l m : List Key), x = .ref a ∧ y = .ref b ∧ H a = some (KS w a l) ∧ H b = some (KS w b m) ∧ a ≠ b ∧ l.length + m.length < scanBound ∧ ∀ p, H p = none → Q (.ref p) (upd H p (KS w p (uniK l m)))
theorem op_orM : OpR X (binaryOp .BitOr) (rOrM X.w) := by
  intro pins s σ H x y v u Q I rx ry h
  obtain ⟨a, b, l, m, rfl, rfl, ha, hb, hab, hn, q⟩ := h
  cases rx
  cases ry
  refine or_sets (ks_get I ha) (ks_get I hb) hab hn fun h2 k2 R2 => ?_
  exact ⟨.ref s.heap.objs.size, upd H s.heap.objs.size (KS X.w s.heap.objs.size (uniK l m)), I.laid (t' := s.toks) k2 (Nat.le_refl _) (ks_new R2), rfl, q _ (I.hok.fresh (Nat.le_refl _))⟩
/-- sorted(a) -/
def rSrtM (w : World) : List V → Hp → VK → Prop := fun xs H Q => ∃ (a : Addr) (ks : List Str), xs = [.ref a] ∧ H a = some (KS w a (ks.map Sum.inr)) ∧ ∀ ys p, ys.Perm ks → sortedS ys = true → H p = none → Q (.ref p) (upd H p (.lst (ys.map V.str)))
theorem call_srtM (hcalm : X.calm = true) : CallR X (.builtin "sorted") (rSrtM X.w) := by
  intro pins s σ H xs us Q I r ⟨a, ks, ex, ha, q⟩
  subst ex
  have R := ks_get I ha
  have hsz : ks.length < scanBound := by
    have e := R.len
    rw [List.length_map] at e
    exact e
  rw [Vals.ref1 r]
  refine sorted_setM R (I.ok.hd hcalm) fun s2 p out c ys k g o hp hg hi hpm hs => ?_
  have hlen : (ys.map V.str).length ≤ sizeLine := by
    rw [List.length_map, hpm.length_eq]
    exact fits_of_scanBound hsz
  have hn : H p = none := I.hok.fresh hp
  have J : Inv X pins σ (upd H p (.lst (ys.map V.str))) { s with heap := s2.heap, gens := s2.gens, drawn := s2.drawn, toks := s2.toks } :=
    I.call (ch := []) (Un.laid k hp hn) (I.hok.laid k hp ⟨hlen, out.toList, c, vals_of_strs hi, by rw [Array.toArray_toList]; exact hg⟩) (by rw [g]; exact I.bare) (fun _ z => nomatch z)
  have e : s2 = { s with heap := s2.heap, gens := s2.gens, drawn := s2.drawn, toks := s2.toks } := by
    cases s2
    cases s
    cases o
    rfl
  rw [e]
  exact ⟨.ref p, _, J, rfl, q ys p hpm hs hn⟩
end
end Vf

/-! Own layer: set(l) of a list of keys. -/
namespace Vf
open PySem PySem.Spec PyProof.Rows L2 TL Evl
theorem uniK_len : ∀ (m l : List Key), (uniK l m).length ≤ l.length + m.length
  | [], l => Nat.le_refl _
  | x :: m, l => by
    have h1 := uniK_len m (addK l x)
    have h2 := addK_len l x
    show (uniK (addK l x) m).length ≤ l.length + (m.length + 1)
    omega
theorem uniK_snoc {l m : List Key} {k : Key} : uniK l (m ++ [k]) = addK (uniK l m) k := by
  unfold uniK
  rw [List.foldl_append]
  rfl
section
variable {P : Program} {w : World} {A : Around} {E : Value → Shared → Prop} {s : Shared}
/-- the loop of set.update over keys -/
theorem loop_keys {J : Addr} {fp wr : List Addr} {G : Array GenState → Array GenState → Prop} {n : Nat} {Pv : Nat → Value → Prop} {St : Nat → Shared → Prop} {R : Result → Shared → Prop}
    (W : WalksS P w A.in1 J fp wr G n Pv St) (c : Addr) (hc : c ∉ fp) (ks l0 : List Key) (hn : n = ks.length) (hb : l0.length + ks.length < scanBound) (hv : ∀ i v, Pv i v → ∃ k, ks[i]? = some k ∧ keyIs k v = true) :
    ∀ (j i : Nat) (z : Shared), n - i = j → i ≤ n → St i z → SetM w z.heap c (uniK l0 (ks.take i)) → (∀ z2, Moved (c :: wr) G z z2 → SetM w z2.heap c (uniK l0 ks) → R (.ok (.ret .none)) z2) →
      codeAny (model P w) A (.builtin "set.update.loop" ⟨[.ref c, .ref J], []⟩) R z := by
  have hcw : c ∉ wr := fun h => hc (W.sub _ h)
  have hsub : ∀ b ∈ wr, b ∈ c :: wr := fun b hb => List.mem_cons_of_mem _ hb
  intro j
  induction j with
  | zero =>
    intro i z hj hi hst hS hR
    have hin : i = n := by omega
    subst hin
    refine codeAny_builtin F.entry_set_update_loop ?_
    rw [Around.under_plainId F.plain_set_update_loop _]
    show wpAny _ A.in1 (pyNext (.ref J) >>= _) _ _ z
    refine wpAny_bind (W.done z _ _ hst fun z2 hm => ?_)
    show wpAny _ A.in1 (ret Value.none) _ _ z2
    have e : ks.take i = ks := List.take_of_length_le (by omega)
    rw [e] at hS
    exact wpAny_pure (hR z2 (hm.mono hsub) (hS.keep fun o e => hm.heap c o hcw e))
  | succ j ih =>
    intro i z hj hi hst hS hR
    have hlt : i < n := by omega
    refine codeAny_builtin F.entry_set_update_loop ?_
    rw [Around.under_plainId F.plain_set_update_loop _]
    show wpAny _ A.in1 (pyNext (.ref J) >>= _) _ _ z
    refine wpAny_bind (W.item i z _ _ hlt hst fun v z2 hP hst2 hm => ?_)
    obtain ⟨k, hk, hkv⟩ := hv i v hP
    have hS2 : SetM w z2.heap c (uniK l0 (ks.take i)) := hS.keep fun o e => hm.heap c o hcw e
    have et : uniK l0 (ks.take (i + 1)) = addK (uniK l0 (ks.take i)) k := by
      rw [List.take_add_one, hk]
      exact uniK_snoc
    have hl := uniK_len (ks.take i) l0
    rw [List.length_take] at hl
    show wpAny _ A.in1 (holding [v] (setAdd c v) >>= _) _ _ z2
    refine wpAny_bind (wpAny_holding ?_)
    unfold setAdd
    refine wpAny_holding ?_
    refine wpAny_bind ((mixKind P w).pyHash (k := k) hkv ?_)
    refine setM_add (s := { z2 with toks := z2.toks + 1 }) hkv hS2 (by omega) fun h2 _ hsb hS3 => ?_
    rw [← et] at hS3
    refine wpAny_pure ⟨plainId_quiet F.plain_set_update_loop _, ih (i + 1) _ (by omega) hlt (W.frame _ z2 _ _ hst2 (Nat.le_succ _) fun b hb o e => ?_) hS3 fun z3 hm3 hS4 => ?_⟩
    · rw [hsb.2 b (fun h : b = c => hc (h ▸ hb))]
      exact e
    · refine hR z3 (Moved.trans W.gtrans ((hm.mono hsub).then_heap (Nat.le_succ _) fun b o hb e => ?_) hm3) hS4
      rw [hsb.2 b (fun h : b = c => hb (by rw [h]; exact List.mem_cons_self))]
      exact e
/-- a list's keys taken into a set -/
theorem upd_list {c p : Addr} {items : Array Value} {ks l0 : List Key} {id : String} {Q : Unit → Shared → Prop} (hh : A.handled = none) (R : SetM w s.heap c l0) (hl : s.heap.IsList p items) (hn : items.size = ks.length) (hb : l0.length + ks.length < scanBound)
    (hv : ∀ (i : Nat) (v : Value), items[i]? = some v → ∃ k, ks[i]? = some k ∧ keyIs k v = true) (hQ : ∀ h2 tk, (∀ b u, b ≠ c → s.heap.get? b = some u → h2.get? b = some u) → SetM w h2 c (uniK l0 ks) → Q () { s with heap := h2, toks := tk }) :
    wpAny (model P w) A (Builtin.Frozenset.updateFrom id c (.ref p)) Q E s := by
  have hl0 := hl
  obtain ⟨ol, hol, hcl, nl, hdl⟩ := hl0
  have hT : s.TypeIs (.ref p) "list" := ⟨ol, hol, hcl⟩
  have hpc : p ≠ c := fun z => by
    obtain ⟨o2, es2, ep2, t2, ho2, hx2, _⟩ := R
    rw [z, ho2] at hol
    cases hol
    exact absurd (Value.type.inj (hcl.symm.trans hx2.1)) (by decide)
  have hpl : p < s.heap.objs.size := Heap.lt_size hol
  have hcs : c < s.heap.objs.size := R.lt
  unfold Builtin.Frozenset.updateFrom
  refine wpAny_bind (anySet_no hT PySem.F.sub_list_set PySem.F.sub_list_frozenset ?_)
  refine wp_if_neg Bool.false_ne_true ?_
  refine wpAny_bind (wpAny_typeOf hT ?_)
  refine wp_if_neg (by decide) ?_
  refine wpAny_bind (wpAny_pyIter_list hl ?_)
  refine wpAny_bind (wpAny_runValue ?_)
  have hne : p ≠ s.heap.objs.size := Nat.ne_of_lt hpl
  have hcf : c ∉ [s.heap.objs.size, p] := by
    simp only [List.mem_cons, List.mem_singleton, List.not_mem_nil, or_false, not_or]
    exact ⟨Nat.ne_of_lt hcs, Ne.symm hpc⟩
  refine loop_keys ((Walks.list (A := A.in1) (by simp [hh]) _ p hne items).toS) c hcf ks l0 hn hb hv (items.size - 0) 0 _ (by omega) (Nat.zero_le _) ⟨⟨_, Heap.get?_push_size _ rfl, rfl, rfl⟩, (hl.push _)⟩ (R.keep fun o e => Heap.get?_push_of_some _ e) fun z hm hS => ?_
  obtain ⟨h2, g2, d2, tk2, os2⟩ := z
  have eg : g2 = s.gens := hm.gens
  have ed : d2 = s.drawn := hm.drawn
  have eo : os2 = s.os := hm.os
  subst eg
  subst ed
  subst eo
  refine wpAny_pure ?_
  refine hQ h2 tk2 (fun b u hb2 e => ?_) hS
  refine hm.heap b u ?_ (Heap.get?_push_of_some _ e)
  have hbs : b ≠ s.heap.objs.size := Nat.ne_of_lt (Heap.lt_size e)
  simp only [List.mem_cons, List.mem_singleton, List.not_mem_nil, or_false, not_or]
  exact ⟨hb2, hbs⟩
end
section
variable {X : Cx}
/-- set(l) of a list of texts -/
def rSetLs (w : World) (K : PySem.W.Frag) : List V → Hp → VK → Prop := fun xs H Q => ∃ (p : Addr) (ks : List Str), xs = [.ref p] ∧ SqL K H p (ks.map V.str) ∧ ks.length < scanBound ∧ ∀ q, H q = none → Q (.ref q) (upd H q (KS w q (uniK [] (ks.map Sum.inr))))
theorem call_setL (hcalm : X.calm = true) : CallR X (.type "set") (rSetLs X.w X.K) := by
  intro pins s σ H xs us Q I r ⟨p, ks, ex, hs, hn, q⟩
  subst ex
  rw [Vals.ref1 r]
  obtain ⟨its, rv, ⟨⟨cls, dd, data, sl⟩, n, ho, hc, hdn, hd⟩, hlen⟩ := I.list hs
  simp only at hc hd
  subst hc hd
  have hS : StrsAre its ks := strs_of_vals rv
  have hL : (s.heap.push (set0 X.w)).IsList p its.toArray := ⟨_, Heap.get?_push_of_some _ ho, rfl, n, rfl⟩
  have hil : its.length = ks.length := hS.length
  refine call_setX (K := fun s2 => ∃ h2 tk, s2 = { s with heap := h2, toks := tk } ∧ (∀ b u, s.heap.get? b = some u → h2.get? b = some u) ∧ SetM X.w h2 s.heap.objs.size (uniK [] (ks.map Sum.inr))) (fun A2 hA => ?_) ?_
  · refine upd_list (s := { s with heap := s.heap.push (set0 X.w) }) (l0 := []) (ks := ks.map Sum.inr) (hA.trans (I.ok.hd hcalm)) (setM_new (Heap.get?_push_size _ rfl)) hL (by rw [List.size_toArray, List.length_map]; exact hil) (by rw [List.length_map, List.length_nil, Nat.zero_add]; exact hn) (fun i v e => ?_) fun h2 tk k2 R2 => ⟨h2, tk, rfl, fun b u e => k2 b u (Nat.ne_of_lt (Heap.lt_size e)) (Heap.get?_push_of_some _ e), R2⟩
    rw [List.getElem?_toArray] at e
    have hi : i < ks.length := hil ▸ (List.getElem?_eq_some_iff.mp e).1
    have e1 : ks[i]? = some ks[i] := List.getElem?_eq_getElem hi
    obtain ⟨t, e2⟩ := StrsAre.at hS e1
    rw [e] at e2
    have e3 : v = Value.str ks[i] t := Option.some.inj e2
    exact ⟨Sum.inr ks[i], by rw [List.getElem?_map, e1]; rfl, by rw [e3]; exact mixKind_str X.prog X.w ks[i] t⟩
  · rintro s2 ⟨h2, tk, rfl, k2, R2⟩
    exact ⟨.ref s.heap.objs.size, upd H s.heap.objs.size (KS X.w s.heap.objs.size (uniK [] (ks.map Sum.inr))), I.laid (t' := tk) k2 (Nat.le_refl _) (ks_new R2), rfl, q _ (I.hok.fresh (Nat.le_refl _))⟩
end
end Vf

/-! Own layer: sets of texts as readings. -/
namespace Vf
open PySem PySem.Spec PyProof.Rows L2 TL Evl
def addT (l : List Tx) (k : Tx) : List Tx := if k ∈ l then l else l ++ [k]
/-- what two rows of texts have, without the second of like ones -/
def uniT (l m : List Tx) : List Tx := m.foldl addT l
theorem mem_ky {l : List Tx} {k : Tx} : ky k ∈ l.map ky ↔ k ∈ l := by
  rw [List.mem_map]
  exact ⟨fun ⟨q, h, e⟩ => ky_inj e ▸ h, fun h => ⟨k, h, rfl⟩⟩
theorem addK_ky (l : List Tx) (k : Tx) : addK (l.map ky) (ky k) = (addT l k).map ky := by
  unfold addK addT
  by_cases h : k ∈ l
  · rw [if_pos (mem_ky.mpr h), if_pos h]
  · rw [if_neg fun z => h (mem_ky.mp z), if_neg h, List.map_append]
    rfl
theorem uniK_ky : ∀ (m l : List Tx), uniK (l.map ky) (m.map ky) = (uniT l m).map ky
  | [], l => rfl
  | x :: m, l => by
    show uniK (addK (l.map ky) (ky x)) (m.map ky) = _
    rw [addK_ky, uniK_ky m (addT l x)]
    rfl
theorem mem_addT {l : List Tx} {k j : Tx} : j ∈ addT l k ↔ j ∈ l ∨ j = k := by
  unfold addT
  split
  · next c => exact ⟨Or.inl, fun h => h.elim id fun e => e ▸ c⟩
  · rw [List.mem_append, List.mem_singleton]
theorem mem_uniT {m : List Tx} : ∀ {l : List Tx} {j : Tx}, j ∈ uniT l m ↔ j ∈ l ∨ j ∈ m := by
  induction m with
  | nil => intro l j; simp [uniT]
  | cons x m ih =>
    intro l j
    show j ∈ uniT (addT l x) m ↔ _
    rw [ih, mem_addT, List.mem_cons, or_assoc]
theorem nodup_addT {l : List Tx} {k : Tx} (h : l.Nodup) : (addT l k).Nodup := by
  unfold addT
  split
  · exact h
  · next c => exact (List.perm_append_singleton _ _).nodup_iff.mpr (List.nodup_cons.mpr ⟨c, h⟩)
theorem nodup_uniT {m : List Tx} : ∀ {l : List Tx}, l.Nodup → (uniT l m).Nodup := by
  induction m with
  | nil => intro l h; exact h
  | cons x m ih => intro l h; exact ih (nodup_addT h)
theorem uniT_len : ∀ (m l : List Tx), (uniT l m).length ≤ l.length + m.length
  | [], l => Nat.le_refl _
  | x :: m, l => by
    have h1 := uniT_len m (addT l x)
    have h2 : (addT l x).length ≤ l.length + 1 := by
      unfold addT
      split
      · omega
      · rw [List.length_append, List.length_singleton]
        exact Nat.le_refl _
    show (uniT (addT l x) m).length ≤ l.length + (m.length + 1)
    omega
/-- what has the same members, once each, is the same in order -/
theorem srt_same {l m : List Tx} (hl : l.Nodup) (hm : m.Nodup) (h : ∀ k, k ∈ l ↔ k ∈ m) : srt l = srt m := by
  refine srt_congr ?_
  have q := perm_of_mem (l := l.map ky) (m := m.map ky) (List.Pairwise.map _ (fun a b n e => n (ky_inj e)) hl) (List.Pairwise.map _ (fun a b n e => n (ky_inj e)) hm) fun k => by
    constructor
    · intro z
      obtain ⟨x, hx, rfl⟩ := List.mem_map.mp z
      exact mem_ky.mpr ((h x).mp hx)
    · intro z
      obtain ⟨x, hx, rfl⟩ := List.mem_map.mp z
      exact mem_ky.mpr ((h x).mpr hx)
  have e : ∀ l : List Tx, (l.map ky).map (fun k : Key => match k with | .inr x => tl x | .inl _ => []) = l := fun l => by
    rw [List.map_map]
    conv => rhs; rw [← List.map_id l]
    exact List.map_congr_left fun x _ => tl_of x
  have q2 := q.map (fun k : Key => match k with | .inr x => tl x | .inl _ => [])
  rw [e, e] at q2
  exact q2
/-- a new set of texts -/
def EvS (w : World) (te : TE) (σ : L2.St) (H : Hp) (l : List Tx) : Prop := ∀ H1, Ex H H1 → ∀ Q : VK, (∀ p H2, H1 p = none → Ex H1 H2 → H2 p = some (KS w p (l.map ky)) → Q (.ref p) H2) → te σ H1 Q
section
variable {σ : L2.St} {H : Hp} {ta tb : TE} {α : Type} {f : α → V} {l m : List Tx} {dl : List (Tx × α)} {d : Addr} {w : World} {K : PySem.W.Frag}
theorem es_is {a b : List Tx} {te : TE} (h : EvS w te σ H a) (e : a = b) : EvS w te σ H b := e ▸ h
theorem s_setD (hd : Ev ta σ H (.ref d)) (h : Rd H d (.dK (kd f dl))) (hz : dl.length < 4096) : EvS w (tCB (rSetD w) (tCons ta tNil)) σ H (dkeys dl) := fun H1 e Q q =>
  hd H1 e _ fun H2 e2 => ⟨d, kd f dl, rfl, ex_rd (e.trans e2) h, by rw [kd_len]; exact hz, fun p np => by
    have ek : (kd f dl).map (·.1) = (dkeys dl).map ky := by
      unfold kd dkeys
      rw [List.map_map, List.map_map]
      rfl
    rw [ek]
    exact q p _ (fresh_back e2 np) (e2.trans (Ex.new np)) upd_same⟩
theorem s_setL (h : EvL ta σ H (l.map vs)) (hz : l.length < 4096) : EvS w (tCB (rSetLs w K) (tCons ta tNil)) σ H (uniT [] l) := fun H1 e Q q =>
  h H1 e _ fun p H2 np e2 hp => ⟨p, l.map mk, rfl, by
    rw [map_vs] at hp
    exact Or.inl (Or.inl hp), by rw [List.length_map]; exact hz, fun r nr => by
    have ek : uniK [] ((l.map mk).map Sum.inr) = (uniT [] l).map ky := by
      rw [← uniK_ky, List.map_map]
      rfl
    rw [ek]
    exact q r _ (fresh_back e2 nr) (e2.trans (Ex.new nr)) upd_same⟩
theorem s_orS (ha : EvS w ta σ H l) (hb : EvS w tb σ H m) (hz : l.length + m.length < 4096) : EvS w (tOp (rOrM w) ta tb) σ H (uniT l m) := fun H1 e Q q =>
  ha H1 e _ fun a H2 na e2 h2 => hb H2 (e.trans e2) _ fun b H3 nb e3 h3 => ⟨a, b, l.map ky, m.map ky, rfl, rfl, e3 a _ h2, h3, (fun z => by
    rw [z, nb] at h2
    cases h2), by rw [List.length_map, List.length_map]; exact hz, fun p np => by
    rw [uniK_ky]
    exact q p _ (fresh_back e2 (fresh_back e3 np)) ((e2.trans e3).trans (Ex.new np)) upd_same⟩
theorem l_srtS (h : EvS w ta σ H l) : EvL (tCB (rSrtM w) (tCons ta tNil)) σ H ((srt l).map vs) := fun H1 e Q q =>
  h H1 e _ fun a H2 na e2 h2 => ⟨a, l.map mk, rfl, by
    rw [h2, List.map_map]
    rfl, fun ys p hp hs np => by
    rw [sorted_srt hp hs, ← map_vs]
    exact q p _ (fresh_back e2 np) (e2.trans (Ex.new np)) upd_same⟩
end
end Vf

/-! Own layer: a text or None; tuples put behind a list. -/
namespace Vf
open PySem PySem.Spec PyProof.Rows L2 TL Evl
theorem vo_inj {x y : Option Tx} (h : vo x = vo y) : x = y := by
  cases x with
  | none =>
    cases y with
    | none => rfl
    | some b => cases h
  | some a =>
    cases y with
    | none => cases h
    | some b => exact congrArg some (mk_inj (V.str.inj h))
theorem dec_voo (x y : Option Tx) : decide (vo x = vo y) = decide (x = y) := by
  by_cases h : x = y
  · rw [decide_eq_true h, decide_eq_true (congrArg vo h)]
  · rw [decide_eq_false h, decide_eq_false fun z => h (vo_inj z)]
theorem vo_some {x : Option Tx} (h : x.isSome = true) : vo x = vs (x.getD []) := by
  cases x with
  | none => cases h
  | some a => rfl
theorem scal_vo (x y : Option Tx) : scal (vo x) (vo y) = true := by cases x <;> cases y <;> rfl
theorem paired_snoc {α β : Type} {F : α → β → Prop} {x : α} {y : β} (h : F x y) : ∀ {l : List α} {m : List β}, Paired F l m → Paired F (l ++ [x]) (m ++ [y])
  | [], _, .nil => .cons h .nil
  | _ :: _, _, .cons a b => .cons a (paired_snoc h b)
section
variable {K : PySem.W.Frag} {σ : L2.St} {H : Hp} {ta tb te : TE} {D : Ends} {tz : TS} {p : Addr}
theorem e_eqOO {x y : Option Tx} (ha : Ev ta σ H (vo x)) (hb : Ev tb σ H (vo y)) : Ev (tOp rEq ta tb) σ H (.bl (decide (x = y))) := dec_voo x y ▸ ev_op ha hb (rv_eq (scal_vo x y))
theorem e_neOO {x y : Option Tx} (ha : Ev ta σ H (vo x)) (hb : Ev tb σ H (vo y)) : Ev (tOp rNe ta tb) σ H (.bl (!decide (x = y))) := dec_voo x y ▸ ev_op ha hb (rv_ne (scal_vo x y))
theorem e_isN {x : Option Tx} (ha : Ev ta σ H (vo x)) (hb : Ev tb σ H .non) : Ev (tOp rIsN ta tb) σ H (.bl (!x.isSome)) := ev_op ha hb fun H1 _ _ q => ⟨rfl, by
  have e : decide (vo x = .non) = !x.isSome := by cases x <;> rfl
  rw [e]
  exact q H1 (Ex.refl H1)⟩
theorem e_notN {x : Option Tx} (ha : Ev ta σ H (vo x)) (hb : Ev tb σ H .non) : Ev (tOp rNotN ta tb) σ H (.bl x.isSome) := ev_op ha hb fun H1 _ _ q => ⟨rfl, by
  have e : (!decide (vo x = .non)) = x.isSome := by cases x <;> rfl
  rw [e]
  exact q H1 (Ex.refl H1)⟩
theorem s_appLU {l : List (List V)} {xs : List V} (h0 : IsLU K H p l) (ha : Ev ta σ H (.ref p)) (h : EvTu K te σ H xs) (hz : l.length < 100000) (q : ∀ (us : List Addr) H1, Mu H p (.lst (us.map V.ref)) H1 → IsLU K H1 p (l ++ [xs]) → D.nx σ H1) : tDrop (tBM K "list" rAppend ta (tCons te tNil)) D σ H := by
  obtain ⟨ts, a, b⟩ := h0
  have hl : ts.length = l.length := b.length
  exact ha H (Ex.refl H) _ fun H1 e1 => ⟨Or.inl ⟨rfl, _, sq_of (e1 p _ a)⟩, h H1 e1 _ fun t H2 e2 ht => ⟨p, ts.map V.ref, .ref t, rfl, rfl, e2 p _ (e1 p _ a), sz_lt (by rw [List.length_map, hl]; exact hz), by
    have e : ts.map V.ref ++ [.ref t] = (ts ++ [t]).map V.ref := by rw [List.map_append]; rfl
    rw [e]
    have hp2 : H2 p = some (.lst (ts.map V.ref)) := e2 p _ (e1 p _ a)
    exact q (ts ++ [t]) _ ⟨H2, e1.trans e2, rfl⟩ ⟨ts ++ [t], upd_same, paired_snoc (sqt_upd hp2 trivial ht) (tups_mono (fun _ _ z => sqt_upd hp2 trivial (ex_t (e1.trans e2) z)) b)⟩⟩⟩
theorem q_appLU {l : List (List V)} {xs : List V} (h0 : IsLU K H p l) (ha : Ev ta σ H (.ref p)) (h : EvTu K te σ H xs) (hz : l.length < 100000) (q : ∀ (us : List Addr) H1, Mu H p (.lst (us.map V.ref)) H1 → IsLU K H1 p (l ++ [xs]) → tz D σ H1) : tSeq (tDrop (tBM K "list" rAppend ta (tCons te tNil))) tz D σ H :=
  s_appLU (D := { D with nx := tz D }) h0 ha h hz q
end
end Vf

/-! Own layer: a for over a written list of two, its body read once for each. -/
namespace Vf
open PySem PySem.Spec PyProof.Rows L2 TL Evl
section
variable {K : PySem.W.Frag} {σ : L2.St} {H : Hp} {a1 a2 b1 b2 te : TE} {D : Ends} {tz tu : TS} {i j : Nat} {l1 l2 : List (List V)} {v1 v2 : V}
/-- behind the second turn -/
def Nz (K : PySem.W.Frag) (p : Addr) (xs : List V) (tz : TS) (D : Ends) : L2.St → Hp → Prop := fun σ2 H2 => SqL K H2 p xs ∧ tz D σ2 H2
/-- behind the first turn, the pair's names told anew -/
def N1 (K : PySem.W.Frag) (p t : Addr) (xs : List V) (x y : V) (i j : Nat) (tu tz : TS) (D : Ends) : L2.St → Hp → Prop := fun σ2 H2 =>
  SqL K H2 p xs ∧ SqT K H2 t [x, y] ∧ tu { D with nx := Nz K p xs tz D, ct := Nz K p xs tz D, bk := tz D } ((σ2.set i (some x)).set j (some y)) H2
theorem two_list {g : TG} {p : Addr} {x1 x2 : V} {σ : L2.St} {H : Hp} (tb : TS) (D : Ends) (W1 : L2.St → Hp → Prop) (hl1 : ∀ σ2 H2, W1 σ2 H2 → SqL K H2 p [x1, x2]) (hs : SqL K H p [x1, x2])
    (h1 : g x1 σ H fun σ2 H2 => tb { D with nx := W1, ct := W1, bk := D.nx } σ2 H2)
    (h2 : ∀ σ2 H2, W1 σ2 H2 → g x2 σ2 H2 fun σ3 H3 => tb { D with nx := fun σ4 H4 => SqL K H4 p [x1, x2] ∧ D.nx σ4 H4, ct := fun σ4 H4 => SqL K H4 p [x1, x2] ∧ D.nx σ4 H4, bk := D.nx } σ3 H3) :
    ∃ W : Nat → Nat → L2.St → Hp → Prop, (∃ m, W 0 m σ H) ∧ ∀ i m σ H, W i m σ H →
      ((Itl K p).stop i H ∧ D.nx σ H) ∨ ((Itl K p).go i H ∧ ∃ N : L2.St → Hp → Prop, (∀ σ2 H2, N σ2 H2 → ∃ m2, m2 < m ∧ W (i + 1) m2 σ2 H2) ∧ ∀ x H2, (Itl K p).yld i H x H2 → g x σ H2 fun σ3 H3 => tb { D with nx := N, ct := N, bk := D.nx } σ3 H3) := by
  refine for_list (xs := [x1, x2]) (fun n σ2 H2 => match n with
    | 0 => SqL K H2 p [x1, x2] ∧ g x1 σ2 H2 fun σ3 H3 => tb { D with nx := W1, ct := W1, bk := D.nx } σ3 H3
    | 1 => W1 σ2 H2
    | 2 => SqL K H2 p [x1, x2] ∧ D.nx σ2 H2
    | _ => False) ⟨hs, h1⟩ (fun n σ2 H2 hn q => ?_) (fun n x σ2 H2 hx q => ?_) (fun σ2 H2 q => q.2)
  · match n, hn, q with
    | 0, _, q => exact q.1
    | 1, _, q => exact hl1 _ _ q
    | 2, _, q => exact q.1
    | n + 3, hn, _ => exact absurd hn (by simp)
  · match n, hx, q with
    | 0, hx, q =>
      obtain rfl : x1 = x := Option.some.inj hx
      exact q.2
    | 1, hx, q =>
      obtain rfl : x2 = x := Option.some.inj hx
      exact h2 _ _ q
    | n + 2, hx, _ => exact absurd hx (by simp)
theorem q_two (h : ∀ Q : VK, (∀ p x1 x2 y1 y2 u1 u2 H1, Ex H H1 → H p = none → H1 p = some (.lst [.ref u1, .ref u2]) → SqT K H1 u1 [x1, y1] → SqT K H1 u2 [x2, y2] →
      tu { D with nx := N1 K p u2 [.ref u1, .ref u2] x2 y2 i j tu tz D, ct := N1 K p u2 [.ref u1, .ref u2] x2 y2 i j tu tz D, bk := tz D } ((σ.set i (some x1)).set j (some y1)) H1 → Q (.ref p) H1) → te σ H Q) :
    tSeq (tFor (iList K te) (gTup K 2 (gCons (gName i) (gCons (gName j) gNil))) tu) tz D σ H := by
  refine h _ fun p x1 x2 y1 y2 u1 u2 H1 e np hp s1 s2 q => ⟨p, rfl, ⟨_, sq_of hp⟩, ?_⟩
  refine two_list (x1 := .ref u1) (x2 := .ref u2) tu { D with nx := tz D } (N1 K p u2 [.ref u1, .ref u2] x2 y2 i j tu tz D) (fun σ2 H2 z => z.1) (sq_of hp) ?_ fun σ2 H2 z => ?_
  · exact ⟨u1, _, rfl, s1, rfl, _, _, rfl, _, _, rfl, ⟨rfl, q⟩⟩
  · exact ⟨u2, _, rfl, z.2.1, rfl, _, _, rfl, _, _, rfl, ⟨rfl, z.2.2⟩⟩
/-- for a, b in [(new list of tuples, known), (new list of tuples, known)] -/
theorem q_twoU (ha1 : EvU2 K a1 σ H l1) (hb1 : Ev b1 σ H v1) (ha2 : EvU2 K a2 σ H l2) (hb2 : Ev b2 σ H v2)
    (q : ∀ f1 f2 u1 u2 p H1, H f1 = none → H f2 = none → H p = none → f1 ≠ f2 → f1 ≠ p → f2 ≠ p → Ex H H1 → IsLU K H1 f1 l1 → IsLU K H1 f2 l2 → H1 p = some (.lst [.ref u1, .ref u2]) → SqT K H1 u2 [.ref f2, v2] →
      tu { D with nx := N1 K p u2 [.ref u1, .ref u2] (.ref f2) v2 i j tu tz D, ct := N1 K p u2 [.ref u1, .ref u2] (.ref f2) v2 i j tu tz D, bk := tz D } ((σ.set i (some (.ref f1))).set j (some v1)) H1) :
    tSeq (tFor (iList K (tLst (tCons (tTup (tCons a1 (tCons b1 tNil))) (tCons (tTup (tCons a2 (tCons b2 tNil))) tNil)))) (gTup K 2 (gCons (gName i) (gCons (gName j) gNil))) tu) tz D σ H :=
  q_two fun Q k => ha1 H (Ex.refl H) _ fun f1 H1 n1 e1 h1 => hb1 H1 e1 _ fun H2 e2 => ⟨sz_of (by simp), fun u1 m1 =>
    have e3 : Ex H (upd H2 u1 (.tup [.ref f1, v1])) := (e1.trans e2).trans (Ex.new m1)
    ha2 _ e3 _ fun f2 H4 n4 e4 h4 => hb2 H4 (e3.trans e4) _ fun H5 e5 => ⟨sz_of (by simp), fun u2 m2 =>
      have e6 : Ex H5 (upd H5 u2 (.tup [.ref f2, v2])) := Ex.new m2
      ⟨sz_of (by simp), fun p np => by
        have e7 : Ex (upd H5 u2 (.tup [.ref f2, v2])) (upd (upd H5 u2 (.tup [.ref f2, v2])) p (.lst [.ref u1, .ref u2])) := Ex.new np
        have w1 : IsLU K (upd (upd H5 u2 (.tup [.ref f2, v2])) p (.lst [.ref u1, .ref u2])) f1 l1 := (((((h1.ex e2).ex (Ex.new m1)).ex e4).ex e5).ex e6).ex e7
        have w2 : IsLU K (upd (upd H5 u2 (.tup [.ref f2, v2])) p (.lst [.ref u1, .ref u2])) f2 l2 := ((h4.ex e5).ex e6).ex e7
        have w0 : IsLU K (upd H5 u2 (.tup [.ref f2, v2])) f1 l1 := ((((h1.ex e2).ex (Ex.new m1)).ex e4).ex e5).ex e6
        have w02 : IsLU K (upd H5 u2 (.tup [.ref f2, v2])) f2 l2 := (h4.ex e5).ex e6
        have s1 : SqT K (upd H2 u1 (.tup [.ref f1, v1])) u1 [.ref f1, v1] := st_of upd_same
        have s2 : SqT K (upd H5 u2 (.tup [.ref f2, v2])) u2 [.ref f2, v2] := st_of upd_same
        have eall : Ex H (upd (upd H5 u2 (.tup [.ref f2, v2])) p (.lst [.ref u1, .ref u2])) := (((e3.trans e4).trans e5).trans e6).trans e7
        exact k p (.ref f1) (.ref f2) v1 v2 u1 u2 _ eall (fresh_back (((e3.trans e4).trans e5).trans e6) np) upd_same (ex_t (((e4.trans e5).trans e6).trans e7) s1) (ex_t e7 s2)
          (q f1 f2 u1 u2 p _ n1 (fresh_back e3 n4) (fresh_back (((e3.trans e4).trans e5).trans e6) np) (((h1.ex e2).ex (Ex.new m1)).ne n4) (w0.ne np) (w02.ne np) eall w1 w2 upd_same (ex_t e7 s2))⟩⟩⟩
end
section
variable {K : PySem.W.Frag} {σ : L2.St} {H : Hp} {tl' : TE} {D : Ends} {tz tu : TS} {pl : Addr}
/-- an own list of tuples, with its tuples named -/
def IsLV (K : PySem.W.Frag) (H : Hp) (p : Addr) (ts : List Addr) (l : List (List V)) : Prop := H p = some (.lst (ts.map V.ref)) ∧ TupsAt K H ts l
theorem IsLV.ex {H2 : Hp} {ts : List Addr} {l : List (List V)} (h : IsLV K H pl ts l) (e : Ex H H2) : IsLV K H2 pl ts l := ⟨e _ _ h.1, tups_mono (fun _ _ => ex_t e) h.2⟩
theorem IsLV.lu {ts : List Addr} {l : List (List V)} (h : IsLV K H pl ts l) : IsLU K H pl l := ⟨ts, h.1, h.2⟩
/-- for t in own list of tuples, which the body leaves as it is -/
theorem q_loopV {S R : Type} {l : List (List Tx)} (step : S → List Tx → Stp S R) (s0 : S) (Rep : List Addr → S → L2.St → Hp → Prop) {j : Nat} (h : Ev tl' σ H (.ref pl)) (hS : IsLU K H pl (l.map (List.map vs)))
    (h0 : ∀ ts H1, Ex H H1 → IsLV K H1 pl ts (l.map (List.map vs)) → Rep ts s0 σ H1) (hl : ∀ ts s σ1 H1, Rep ts s σ1 H1 → IsLV K H1 pl ts (l.map (List.map vs)))
    (hb : ∀ ts, BodyOkU K tu D j step l s0 (Rep ts)) (ho : ∀ ts, OutOk tz D step l s0 (Rep ts)) : tSeq (tFor (iList K tl') (gName j) tu) tz D σ H := by
  obtain ⟨ts, hA, hB⟩ := hS
  have hlen : ts.length = l.length := by
    rw [paired_len hB, List.length_map]
  refine q_forLn h (sq_of hA) (fun i σ1 H1 => ∃ s, runL step (l.take i) s0 = .go s ∧ Rep ts s σ1 H1) (fun H1 e => ⟨s0, rfl, h0 ts H1 e (IsLV.ex ⟨hA, hB⟩ e)⟩) (fun i σ1 H1 _ ⟨s, _, q⟩ => sq_of (hl ts s σ1 H1 q).1) (fun i x σ1 H1 hx q => ?_) (fun σ1 H1 q => loop_end (ho ts) (by rw [List.length_map]; exact hlen) q)
  obtain ⟨s, hr, hq⟩ := q
  obtain ⟨a, y, rfl, hy, ha⟩ := tup_at (ts := ts) (i := i) (hl ts s σ1 H1 hq).2 hx
  cases hy2 : l[i]? with
  | none =>
    rw [List.getElem?_map, hy2] at hy
    cases hy
  | some y2 =>
    rw [List.getElem?_map, hy2] at hy
    have e : y2.map vs = y := Option.some.inj hy
    subst e
    have hn := runL_next hr hy2
    exact hb ts _ _ i s y2 a σ1 H1 hy2 hr hq ha (fun s2 σ2 H2 e q => ⟨s2, hn.trans e, q⟩) (fun s2 σ2 H2 e q => ho ts s2 σ2 H2 (Or.inr (runL_out (hn.trans e) (fun _ z => by cases z))) q) (fun r e => runL_out (hn.trans e) (fun _ z => by cases z))
end
end Vf

/-! Own layer: sorted of a list of tuples of texts. -/
namespace Vf
open PySem PySem.Spec PyProof.Rows L2 TL Evl
def tkey (q : List Tx) : List (Int ⊕ List Nat) := q.map Sum.inr
theorem tkey_inj {p q : List Tx} (h : tkey p = tkey q) : p = q := by
  have e := congrArg (List.map fun x : Int ⊕ List Nat => match x with | .inr y => y | .inl _ => []) h
  unfold tkey at e
  rw [List.map_map, List.map_map] at e
  have i : ∀ l : List Tx, l.map ((fun x : Int ⊕ List Nat => match x with | .inr y => y | .inl _ => []) ∘ Sum.inr) = l := fun l => by
    conv => rhs; rw [← List.map_id l]
    exact List.map_congr_left fun _ _ => rfl
  rw [i, i] at e
  exact e
abbrev TO : KeyOrd := listOrd itemOrd
/-- a does not stand behind b -/
def ule (a b : List Tx) : Bool := !TO.blt (tkey b) (tkey a)
theorem ule_kle {a b : List Tx} : ule a b = true ↔ TO.kle (tkey a) (tkey b) := by
  unfold ule KeyOrd.kle
  rw [Bool.not_eq_true']
theorem ule_trans (a b c : List Tx) (h1 : ule a b = true) (h2 : ule b c = true) : ule a c = true := ule_kle.mpr (KeyOrd.kle_trans (ule_kle.mp h1) (ule_kle.mp h2))
theorem ule_anti {a b : List Tx} (h1 : ule a b = true) (h2 : ule b a = true) : a = b := tkey_inj (KeyOrd.kle_antisymm (ule_kle.mp h1) (ule_kle.mp h2))
theorem ule_total (a b : List Tx) : (ule a b || ule b a) = true := by
  cases h : ule a b with
  | true => rfl
  | false =>
    have h2 : TO.blt (tkey b) (tkey a) = true := by
      unfold ule at h
      rw [Bool.not_eq_false'] at h
      exact h
    rw [Bool.false_or]
    exact ule_kle.mpr (KeyOrd.klt_asymm h2)
/-- the rows in order -/
def srtU (l : List (List Tx)) : List (List Tx) := l.mergeSort ule
theorem srtU_perm (l : List (List Tx)) : (srtU l).Perm l := List.mergeSort_perm _ _
theorem mem_srtU {l : List (List Tx)} {p : List Tx} : p ∈ srtU l ↔ p ∈ l := (srtU_perm l).mem_iff
theorem srtU_len (l : List (List Tx)) : (srtU l).length = l.length := (srtU_perm l).length_eq
theorem srtU_pw (l : List (List Tx)) : (srtU l).Pairwise (fun a b => ule a b = true) := List.pairwise_mergeSort ule_trans ule_total l
theorem srtU_uniq {l m : List (List Tx)} (h : m.Perm l) (hs : m.Pairwise (fun a b => ule a b = true)) : m = srtU l :=
  List.Perm.eq_of_pairwise (le := fun a b => ule a b = true) (fun a b _ _ h1 h2 => ule_anti h1 h2) hs (srtU_pw l) (h.trans (srtU_perm l).symm)
theorem srtU_congr {l m : List (List Tx)} (h : m.Perm l) : srtU m = srtU l := srtU_uniq ((srtU_perm m).trans h) (srtU_pw m)
/-- what is put in another order keeps its pairs -/
theorem paired_perm {α β : Type} {F : α → β → Prop} {l l2 : List α} (p : l2.Perm l) : ∀ {m : List β}, Paired F l m → ∃ m2, m2.Perm m ∧ Paired F l2 m2 := by
  induction p with
  | nil => intro m h; exact ⟨m, .refl m, h⟩
  | cons x _ ih =>
    intro m h
    cases h with
    | cons a b =>
      obtain ⟨m2, q, r⟩ := ih b
      exact ⟨_ :: m2, q.cons _, .cons a r⟩
  | swap x y l =>
    intro m h
    cases h with
    | cons a b =>
      cases b with
      | cons c d => exact ⟨_, List.Perm.swap _ _ _, .cons c (.cons a d)⟩
  | trans _ _ ih1 ih2 =>
    intro m h
    obtain ⟨m2, q, r⟩ := ih2 h
    obtain ⟨m3, q2, r2⟩ := ih1 r
    exact ⟨m3, q2.trans q, r2⟩
/-- the key of a tuple of texts -/
theorem items_key : ∀ {q : List Tx} {its : List Value} (n : Nat), Vals (q.map vs) its → tupItems (fun _ => true) n its = some (tkey q)
  | [], its, n, h => by
    cases h
    rfl
  | p :: q, its, n, h => by
    cases h with
    | cons a b =>
      obtain ⟨t, e⟩ := a
      subst e
      rw [tupItems, if_pos rfl, items_key (n + 1) b]
      rfl
theorem vals_refs : ∀ {ts : List Addr} {its : List Value}, Vals (ts.map V.ref) its → its = ts.map Value.ref
  | [], its, h => by
    cases h
    rfl
  | a :: ts, its, h => by
    cases h with
    | cons x y =>
      have e : _ = Value.ref a := x
      rw [e, vals_refs y]
      rfl
theorem refs_vals : ∀ (ts : List Addr), Vals (ts.map V.ref) (ts.map Value.ref)
  | [] => .nil
  | a :: ts => .cons rfl (refs_vals ts)
theorem paired_unmap {α β γ : Type} {F : α → γ → Prop} {f : β → γ} : ∀ {l : List α} {m : List β}, Paired F l (m.map f) → Paired (fun a b => F a (f b)) l m
  | [], [], _ => .nil
  | _ :: _, _ :: _, .cons a b => .cons a (paired_unmap b)
  | [], _ :: _, h => by cases h
  | _ :: _, [], h => by cases h
theorem paired_map {α β γ : Type} {F : α → γ → Prop} {f : β → γ} : ∀ {l : List α} {m : List β}, Paired (fun a b => F a (f b)) l m → Paired F l (m.map f)
  | _, _, .nil => .nil
  | _, _, .cons a b => .cons a (paired_map b)
theorem paired_get {α β : Type} {F : α → β → Prop} : ∀ {l : List α} {m : List β}, Paired F l m → ∀ {i : Nat} {a : α}, l[i]? = some a → ∃ b, m[i]? = some b ∧ F a b
  | _, _, .cons x y, 0, a, e => by
    have e2 := Option.some.inj e
    subst e2
    exact ⟨_, rfl, x⟩
  | _, _, .cons x y, i + 1, a, e => paired_get y (i := i) e
  | _, _, .nil, i, a, e => by cases e
def adr : Value → Addr
  | .ref a => a
  | _ => 0
/-- sorted(l) of a list of tuples of texts, each with one at least -/
def rSrtU (K : PySem.W.Frag) : List V → Hp → VK → Prop := fun xs H Q => ∃ (p : Addr) (ts : List Addr) (l : List (List Tx)), xs = [.ref p] ∧ SqL K H p (ts.map V.ref) ∧ TupsAt K H ts (l.map (List.map vs)) ∧ (∀ q ∈ l, q ≠ []) ∧ l.length ≤ 40000 ∧
  ∀ us r, TupsAt K H us ((srtU l).map (List.map vs)) → H r = none → Q (.ref r) (upd H r (.lst (us.map V.ref)))
section
variable {X : Cx}
theorem tup_keyC {pins : List (Addr × Obj)} {σ : L2.St} {H : Hp} {s : Shared} (I : Inv X pins σ H s) {t : Addr} {q : List Tx} (h : SqT X.K H t (q.map vs)) :
    G.tupKeyC s.heap (fun _ => true) (.ref t) = some (tkey q) ∧ (q ≠ [] → ∃ f, TupOf s.heap (fun _ => true) (.ref t) f) := by
  obtain ⟨its, rv, ⟨o, ho, hc, n, hd⟩, _⟩ := I.tuple h
  constructor
  · have h1 : G.isTupObj s.heap (.ref t) = true := by
      unfold G.isTupObj
      dsimp only
      rw [ho]
      dsimp only
      rw [hc]
      rfl
    unfold G.tupKeyC tupKey
    rw [if_pos h1]
    dsimp only
    rw [ho]
    dsimp only
    rw [hd]
    exact items_key 0 rv
  · intro hq
    cases q with
    | nil => exact absurd rfl hq
    | cons x r =>
      cases rv with
      | cons a b =>
        obtain ⟨tk, e⟩ := a
        subst e
        exact ⟨_, t, o, _, n, rfl, ho, hc, hd, rfl, (fun z => Bool.noConfusion z), (fun _ => ⟨_, _, rfl⟩)⟩
theorem tups_ofs {h : Heap} {sh : Nat → Bool} : ∀ {ts : List Addr}, (∀ t ∈ ts, ∃ f, TupOf h sh (.ref t) f) → ∃ fs, TupsOf h sh (ts.map Value.ref) fs
  | [], _ => ⟨[], .nil⟩
  | t :: ts, h => by
    obtain ⟨f, a⟩ := h t List.mem_cons_self
    obtain ⟨fs, b⟩ := tups_ofs fun u hu => h u (List.mem_cons_of_mem _ hu)
    exact ⟨f :: fs, .cons a b⟩
theorem call_srtU : CallR X (.builtin "sorted") (rSrtU X.K) := by
  intro pins s σ H xs us0 Q I r ⟨p, ts, l, ex, hs, ht, hne, hz, q⟩
  subst ex
  rw [Vals.ref1 r]
  obtain ⟨its, rv, ⟨⟨cls, dd, data, sl⟩, n, ho, hc, hdn, hd⟩, hlen⟩ := I.list hs
  simp only at hc hd
  subst hc hd
  have ei := vals_refs rv
  subst ei
  have hP := paired_unmap ht
  have hpl := hP.length
  have hL : s.heap.IsList p (ts.map Value.ref).toArray := ⟨_, ho, rfl, n, rfl⟩
  have hmem : ∀ t ∈ ts, ∃ q ∈ l, SqT X.K H t (q.map vs) := fun t h => by
    obtain ⟨i, hi⟩ := List.mem_iff_getElem?.mp h
    obtain ⟨b, hb, hF⟩ := paired_get hP hi
    exact ⟨b, List.mem_of_getElem? hb, hF⟩
  obtain ⟨fs, hfs⟩ := tups_ofs (h := s.heap) (sh := fun _ => true) (ts := ts) fun t h => by
    obtain ⟨b, hb, hF⟩ := hmem t h
    exact (tup_keyC I hF).2 (hne b hb)
  have hsz : (ts.map Value.ref).length ≤ sizeLine := by
    rw [List.length_map, hpl, sizeLine_eq]
    omega
  refine G.sorted_tups (shape := fun _ => true) hL hfs (fun v hv => ?_) hsz fun st2 hp hso _ => ?_
  · obtain ⟨t, h, rfl⟩ := List.mem_map.mp hv
    obtain ⟨b, hb, hF⟩ := hmem t h
    exact ⟨_, (tup_keyC I hF).1⟩
  · have hl2 : ((arrOf st2).map (·.2)).toList.Perm (ts.map Value.ref) := by
      rw [Array.toList_map]
      have h1 := (Array.perm_iff_toList_perm.mp hp).map (·.2)
      rw [pairsOf_toList] at h1
      refine h1.trans ?_
      rw [List.map_snd_zip (Nat.le_refl _)]
    have h12 : ∀ e ∈ (arrOf st2).toList, e.1 = e.2 := fun e he => by
      have h1 := (Array.perm_iff_toList_perm.mp hp).mem_iff.mp he
      rw [pairsOf_toList] at h1
      exact (mem_zip_self h1).1
    generalize hout : (arrOf st2).map (·.2) = out at hl2 ⊢
    have hus : out.toList = (out.toList.map adr).map Value.ref := by
      rw [List.map_map]
      conv => lhs; rw [← List.map_id out.toList]
      exact List.map_congr_left fun v hv => by
        obtain ⟨t, _, rfl⟩ := List.mem_map.mp (hl2.mem_iff.mp hv)
        rfl
    have hup : (out.toList.map adr).Perm ts := by
      have h1 := hl2.map adr
      rw [List.map_map] at h1
      have e : ts.map (adr ∘ Value.ref) = ts := by
        conv => rhs; rw [← List.map_id ts]
        exact List.map_congr_left fun _ _ => rfl
      rw [e] at h1
      exact h1
    generalize out.toList.map adr = us at hus hup
    obtain ⟨m, hm, hF⟩ := paired_perm hup hP
    have hpw : m.Pairwise (fun a b => ule a b = true) := by
      rw [List.pairwise_iff_getElem]
      intro i j hi hj hij
      have hul : us.length = m.length := hF.length
      have hsz2 : (arrOf st2).size = out.toList.length := by rw [← hout, Array.length_toList, Array.size_map]
      have hol : out.toList.length = us.length := by rw [hus, List.length_map]
      have hps : (pairsOf (ts.map Value.ref)).size = (arrOf st2).size := (Array.perm_iff_toList_perm.mp hp).length_eq.symm
      have key : ∀ k (hk : k < m.length), KK (G.tupKindC s.heap fun _ => true) (arrOf st2) k = tkey m[k] := fun k hk => by
        have hk2 : k < (arrOf st2).size := by omega
        have hus2 : k < us.length := by omega
        have e1 : (arrOf st2)[k]? = some (arrOf st2)[k] := Array.getElem?_eq_getElem hk2
        have e2 : (arrOf st2)[k].1 = (arrOf st2)[k].2 := h12 _ (by simp)
        have e3 : out.toList[k]? = some (arrOf st2)[k].2 := by
          rw [← hout, Array.getElem?_toList, Array.getElem?_map, e1]
          rfl
        have e4 : (arrOf st2)[k].2 = Value.ref us[k] := by
          rw [hus, List.getElem?_map, List.getElem?_eq_getElem hus2] at e3
          exact (Option.some.inj e3).symm
        obtain ⟨b, hb, hFb⟩ := paired_get hF (List.getElem?_eq_getElem hus2)
        have e5 : b = m[k] := by
          rw [List.getElem?_eq_getElem hk] at hb
          exact (Option.some.inj hb).symm
        unfold KK
        rw [e1]
        show (G.tupKeyC s.heap (fun _ => true) (arrOf st2)[k].1).getD [] = _
        rw [e2, e4, (tup_keyC I hFb).1, e5]
        rfl
      have h3 := hso i j (Nat.le_of_lt hij) (by omega)
      rw [key i hi, key j hj] at h3
      exact ule_kle.mpr h3
    have em := srtU_uniq hm hpw
    obtain ⟨e0, he0⟩ := sortedAll_at s.heap (ts.map Value.ref) out
    refine ⟨.ref (s.heap.objs.size + 1), upd H (s.heap.objs.size + 1) (.lst (us.map V.ref)), I.laid (t' := s.toks) (fun b u e => sortedAll_old e) (Nat.le_succ _)
      (show ObjOk X.prog X.w _ _ _ (.lst (us.map V.ref)) from ⟨by rw [List.length_map, hup.length_eq, hpl, sizeLine_eq]; omega, us.map Value.ref, e0, refs_vals us, by rw [← hus, Array.toArray_toList]; exact he0⟩), rfl,
      q us _ (paired_map (by rw [← em]; exact hF)) (I.hok.fresh (Nat.le_succ _))⟩
end
section
variable {σ : L2.St} {H : Hp} {ta : TE} {K : PySem.W.Frag} {l : List (List Tx)} {p : Addr}
theorem u_srt (h : EvU2 K ta σ H (l.map (List.map vs))) (hn : ∀ q ∈ l, q ≠ []) (hz : l.length ≤ 40000) : EvU2 K (tCB (rSrtU K) (tCons ta tNil)) σ H ((srtU l).map (List.map vs)) := fun H1 e Q q =>
  h H1 e _ fun a H2 na e2 h2 => by
    obtain ⟨ts, x, y⟩ := h2
    exact ⟨a, ts, l, rfl, sq_of x, y, hn, hz, fun us r hu nr => q r _ (fresh_back e2 nr) (e2.trans (Ex.new nr)) ⟨us, upd_same, tups_mono (fun _ _ => ex_t (Ex.new nr)) hu⟩⟩
theorem u_srtR (h : Ev ta σ H (.ref p)) (hp : IsLUr K H p (l.map (List.map vs))) (hn : ∀ q ∈ l, q ≠ []) (hz : l.length ≤ 40000) : EvU2 K (tCB (rSrtU K) (tCons ta tNil)) σ H ((srtU l).map (List.map vs)) := fun H1 e Q q =>
  h H1 e _ fun H2 e2 => by
    obtain ⟨ts, x, y⟩ := hp.ex (e.trans e2)
    exact ⟨p, ts, l, rfl, x, y, hn, hz, fun us r hu nr => q r _ (fresh_back e2 nr) (e2.trans (Ex.new nr)) ⟨us, upd_same, tups_mono (fun _ _ => ex_t (Ex.new nr)) hu⟩⟩
end
end Vf

/-! Own layer: a comprehension over a new list of pairs, its names told from the pair. -/
namespace Vf
open PySem PySem.Spec PyProof.Rows L2 TL Evl
theorem two_of {q : List Tx} (h : q.length = 2) : q = [q.getD 0 [], q.getD 1 []] := by
  match q, h with
  | [a, b], _ => rfl
section
variable {K : PySem.W.Frag} {σ : L2.St} {H : Hp} {tl' te : TE} {t : TT} {ws : List Nat} {i j : Nat} {β : Type} {f2 : β → V}
theorem l_filP {l : List (List Tx)} (c : List Tx → Bool) (g : List Tx → β) (h : EvU2 K tl' σ H (l.map (List.map vs))) (h2 : ∀ q ∈ l, q.length = 2) (hz : l.length ≤ 40000)
    (ht : ∀ q ∈ l, EvT t (((wipe σ ws).set i (some (vs (q.getD 0 [])))).set j (some (vs (q.getD 1 [])))) H (c q))
    (he : ∀ q ∈ l, c q = true → Ev te (((wipe σ ws).set i (some (vs (q.getD 0 [])))).set j (some (vs (q.getD 1 [])))) H (f2 (g q)))
    (hw : ∀ v w, wipe (((wipe σ ws).set i (some v)).set j (some w)) ws = wipe σ ws := by exact fun _ _ => rfl) :
    EvL (tLc (iList K tl') (gTup K 2 (gCons (gName i) (gCons (gName j) gNil))) t te ws) σ H (((l.filter c).map g).map f2) := fun H0 e0 Q q => h H0 e0 _ fun pl H1 npl e1 hU => by
  obtain ⟨ts, h1, h3⟩ := hU
  refine ⟨pl, rfl, ⟨_, sq_of h1⟩, fun Dl hD => ?_⟩
  have hlen : ts.length = l.length := by rw [paired_len h3, List.length_map]
  refine lc_list (xs := ts.map V.ref) (fun k H5 => k ≤ l.length ∧ H1 Dl = none ∧ Ex H1 H5 ∧ H5 Dl = some (.lst ((((l.take k).filter c).map g).map f2))) ⟨Nat.zero_le _, hD, Ex.new hD, upd_same⟩ (fun k H5 _ hI => sq_of (hI.2.2.1 pl _ h1)) (fun k x H5 hx hI => ?_) (fun H5 hI => ?_)
  · obtain ⟨hk, _, e2, hu⟩ := hI
    obtain ⟨a, y, rfl, hy, ha⟩ := tup_at (ts := ts) (i := k) h3 hx
    rw [List.getElem?_map] at hy
    cases hy2 : l[k]? with
    | none =>
      rw [hy2] at hy
      cases hy
    | some y2 =>
      rw [hy2] at hy
      have ey : y2.map vs = y := Option.some.inj hy
      subst ey
      have hlt := (List.getElem?_eq_some_iff.mp hy2).1
      have hm := List.mem_of_getElem? hy2
      have hst : (l.take (k + 1)).filter c = (l.take k).filter c ++ (if c y2 = true then [y2] else []) := by
        rw [List.take_add_one, hy2, List.filter_append]
        congr 1
        show [y2].filter c = _
        rw [List.filter_cons]
        rfl
      have e25 : y2.map vs = [vs (y2.getD 0 []), vs (y2.getD 1 [])] := by
        conv => lhs; rw [two_of (h2 y2 hm)]
        rfl
      have eH : Ex H H5 := (e0.trans e1).trans e2
      refine ⟨a, _, rfl, ex_t e2 ha, by rw [List.length_map]; exact h2 y2 hm, ?_⟩
      rw [e25]
      refine ⟨_, _, rfl, _, _, rfl, rfl, hw _ _, ht y2 hm H5 eH _ fun H3 e3 => ?_⟩
      cases hc : c y2 with
      | false =>
        rw [if_neg Bool.false_ne_true]
        rw [hc, if_neg Bool.false_ne_true, List.append_nil] at hst
        exact ⟨hlt, hD, e2.trans e3, by rw [hst]; exact e3 Dl _ hu⟩
      | true =>
        rw [if_pos rfl]
        rw [hc, if_pos rfl] at hst
        refine he y2 hm hc H3 (eH.trans e3) _ fun H4 e4 => ⟨_, e4 Dl _ (e3 Dl _ hu), sz_lt ?_, hlt, hD, Ex.mut ((e2.trans e3).trans e4) hD, ?_⟩
        · rw [List.length_map, List.length_map]
          have h5 := List.length_filter_le c (l.take k)
          rw [List.length_take] at h5
          omega
        · rw [hst, List.map_append, List.map_append, upd_same]
          rfl
  · obtain ⟨_, _, e2, hu⟩ := hI
    rw [List.length_map, hlen, List.take_length] at hu
    exact q Dl H5 (fresh_back e1 hD) (e1.trans e2) hu
end
end Vf

/-! Own layer: a for over a new list of pairs, with two names. -/
namespace Vf
open PySem PySem.Spec PyProof.Rows L2 TL Evl
section
variable {K : PySem.W.Frag} {σ : L2.St} {H : Hp} {te : TE} {D : Ends} {tz tu : TS} {i j : Nat}
theorem IsLV.mu {p r : Addr} {ts : List Addr} {l : List (List V)} {H1 : Hp} {o X : HO} (h : IsLV K H p ts l) (m : Mu H r X H1) (hne : p ≠ r) (hr : H r = some o) (nt : NT o) : IsLV K H1 p ts l := ⟨m.keep hne h.1, tups_mono (fun _ _ => m.tup hr nt) h.2⟩
theorem IsLV.ne {p r : Addr} {ts : List Addr} {l : List (List V)} (h : IsLV K H p ts l) (n : H r = none) : p ≠ r := ne_of_none h.1 n
/-- the body, the two names of a pair told -/
def BodyOkP {S R : Type} (tu : TS) (D : Ends) (i j : Nat) (step : S → List Tx → Stp S R) (l : List (List Tx)) (s0 : S) (Rep : S → L2.St → Hp → Prop) : Prop :=
  ∀ (Nx Bk : L2.St → Hp → Prop) (n : Nat) (s : S) (y : List Tx) (σ1 : L2.St) (H1 : Hp), l[n]? = some y → runL step (l.take n) s0 = .go s → Rep s σ1 H1 → (∀ s2 σ2 H2, step s y = .go s2 → Rep s2 σ2 H2 → Nx σ2 H2) → (∀ s2 σ2 H2, step s y = .brk s2 → Rep s2 σ2 H2 → Bk σ2 H2) →
    (∀ r, step s y = .ret r → runL step l s0 = .ret r) → tu { D with nx := Nx, ct := Nx, bk := Bk } ((σ1.set i (some (vs (y.getD 0 [])))).set j (some (vs (y.getD 1 [])))) H1
theorem q_loopP {S R : Type} {l : List (List Tx)} (step : S → List Tx → Stp S R) (s0 : S) (Rep : Addr → List Addr → S → L2.St → Hp → Prop) (h : EvU2 K te σ H (l.map (List.map vs))) (h2 : ∀ q ∈ l, q.length = 2)
    (h0 : ∀ p ts H1, H p = none → Ex H H1 → IsLV K H1 p ts (l.map (List.map vs)) → Rep p ts s0 σ H1) (hl : ∀ p ts s σ1 H1, Rep p ts s σ1 H1 → IsLV K H1 p ts (l.map (List.map vs)))
    (hb : ∀ p ts, H p = none → BodyOkP tu D i j step l s0 (Rep p ts)) (ho : ∀ p ts, H p = none → OutOk tz D step l s0 (Rep p ts)) : tSeq (tFor (iList K te) (gTup K 2 (gCons (gName i) (gCons (gName j) gNil))) tu) tz D σ H := by
  refine h H (Ex.refl H) _ fun p H1 np e1 hU => ?_
  obtain ⟨ts, h1, h3⟩ := hU
  have hlen : ts.length = l.length := by rw [paired_len h3, List.length_map]
  refine ⟨p, rfl, ⟨_, sq_of h1⟩, ?_⟩
  refine for_list (xs := ts.map V.ref) (D := { D with nx := tz D }) (fun n σ1 H2 => ∃ s, runL step (l.take n) s0 = .go s ∧ Rep p ts s σ1 H2) ⟨s0, rfl, h0 p ts H1 np e1 ⟨h1, h3⟩⟩ (fun n σ1 H2 _ hq => ?_) (fun n x σ1 H2 hx hq => ?_) (fun σ1 H2 hq => loop_end (ho p ts np) (by rw [List.length_map]; exact hlen) hq)
  · obtain ⟨s, _, q⟩ := hq
    exact sq_of (hl p ts s σ1 H2 q).1
  · obtain ⟨s, hr, q⟩ := hq
    obtain ⟨a, y, rfl, hy, ha⟩ := tup_at (ts := ts) (i := n) (hl p ts s σ1 H2 q).2 hx
    cases hy2 : l[n]? with
    | none =>
      rw [List.getElem?_map, hy2] at hy
      cases hy
    | some y2 =>
      rw [List.getElem?_map, hy2] at hy
      have ey : y2.map vs = y := Option.some.inj hy
      subst ey
      have hm := List.mem_of_getElem? hy2
      have hn := runL_next hr hy2
      have e25 : y2.map vs = [vs (y2.getD 0 []), vs (y2.getD 1 [])] := by
        conv => lhs; rw [two_of (h2 y2 hm)]
        rfl
      refine ⟨a, _, rfl, ha, by rw [List.length_map]; exact h2 y2 hm, ?_⟩
      rw [e25]
      refine ⟨_, _, rfl, _, _, rfl, rfl, ?_⟩
      exact hb p ts np _ _ n s y2 σ1 H2 hy2 hr q (fun s2 σ2 H3 e q => ⟨s2, hn.trans e, q⟩) (fun s2 σ2 H3 e q => ho p ts np s2 σ2 H3 (Or.inr (runL_out (hn.trans e) (fun _ z => by cases z))) q) (fun r e => runL_out (hn.trans e) (fun _ z => by cases z))
end
/-! ## a def that changes the dict that is handed in -/
/-- what it answers: None, the dict at d holding kvs then -/
def RetM (d : Addr) (kvs : List (Key × V)) (H : Hp) (Q : VK) : Prop := ∀ H1, Mu H d (.dK kvs) H1 → Q .non H1
section
variable {σ : L2.St} {H : Hp} {D : Ends} {tz : TS} {t : TA} {d : Addr} {kvs : List (Key × V)}
def spM (R : List V → Hp → Addr → List (Key × V) → Prop) : Sp := fun ws H Q _ => ∃ d kvs, R ws H d kvs ∧ RetM d kvs H Q
theorem q_callM {R : List V → Hp → Addr → List (Key × V) → Prop} {E : XK} {ws : List V} (h : EvA t σ H ws) (hR : ∀ H1, Ex H H1 → R ws H1 d kvs) (q : ∀ H1, Mu H d (.dK kvs) H1 → tz D σ H1) : tSeq (tDrop (tCall (spM R) [] E t)) tz D σ H :=
  h H (Ex.refl H) _ fun H1 e1 => ⟨d, kvs, by rw [List.append_nil]; exact hR H1 e1, fun H2 m => q H2 (by
    obtain ⟨H3, e3, rfl⟩ := m
    exact ⟨H3, e1.trans e3, rfl⟩)⟩
theorem s_callM {R : List V → Hp → Addr → List (Key × V) → Prop} {E : XK} {ws : List V} (h : EvA t σ H ws) (hR : ∀ H1, Ex H H1 → R ws H1 d kvs) (q : ∀ H1, Mu H d (.dK kvs) H1 → D.nx σ H1) : tDrop (tCall (spM R) [] E t) D σ H :=
  h H (Ex.refl H) _ fun H1 e1 => ⟨d, kvs, by rw [List.append_nil]; exact hR H1 e1, fun H2 m => q H2 (by
    obtain ⟨H3, e3, rfl⟩ := m
    exact ⟨H3, e1.trans e3, rfl⟩)⟩
end
theorem ddel_none {α : Type} {l : List (Tx × α)} {k : Tx} (h : dget l k = none) : ddel l k = l := by
  unfold ddel
  refine List.filter_eq_self.mpr fun q hq => ?_
  unfold dget at h
  have h2 := List.find?_eq_none.mp (Option.map_eq_none_iff.mp h) q hq
  exact decide_eq_true fun e => h2 (decide_eq_true e)
section
variable {α : Type} {f : α → V} {σ : L2.St} {H : Hp} {D : Ends} {tz : TS} {td tk tx : TE} {d : Addr} {l : List (Tx × α)} {k : Tx}
/-- d.pop(k, None) alone -/
theorem s_pop2D (hd : Ev td σ H (.ref d)) (hk : Ev tk σ H (vs k)) (hx : Ev tx σ H .non) (h : H d = some (.dK (kd f l))) (q : ∀ H1, Mu H d (.dK (kd f (ddel l k))) H1 → D.nx σ H1) : tDrop (tDPop2 td tk tx) D σ H :=
  hd H (Ex.refl H) _ fun H1 e1 => ⟨d, rfl, Or.inl ⟨_, Or.inl (e1 d _ h)⟩, hk H1 e1 _ fun H2 e2 => hx H2 (e1.trans e2) _ fun H3 e3 => ⟨kd f l, ky k, ((e1.trans e2).trans e3) d _ h, rfl, fun v _ => by
    rw [kd_del]
    exact q _ ⟨H3, (e1.trans e2).trans e3, rfl⟩, fun hv => by
    rw [kd_get] at hv
    have hn : dget l k = none := Option.map_eq_none_iff.mp hv
    refine q H3 ⟨H3, (e1.trans e2).trans e3, ?_⟩
    rw [ddel_none hn]
    exact (upd_self (((e1.trans e2).trans e3) d _ h)).symm⟩⟩
theorem q_pop2D (hd : Ev td σ H (.ref d)) (hk : Ev tk σ H (vs k)) (hx : Ev tx σ H .non) (h : H d = some (.dK (kd f l))) (q : ∀ H1, Mu H d (.dK (kd f (ddel l k))) H1 → tz D σ H1) : tSeq (tDrop (tDPop2 td tk tx)) tz D σ H :=
  s_pop2D (D := { D with nx := tz D }) hd hk hx h q
end
section
variable {K : PySem.W.Frag} {σ : L2.St} {H : Hp} {tl' te : TE} {ws : List Nat} {jx : Nat}
/-- a tuple for each of a new list -/
theorem u_mapN {γ : Type} {f : γ → V} {m : List γ} (g : γ → List V) (dv : γ) (h : EvL tl' σ H (m.map f)) (hz : m.length ≤ 40000)
    (he : ∀ y ∈ m, EvU te ((wipe σ ws).set jx (some (f y))) H (g y)) (hw : ∀ w, wipe ((wipe σ ws).set jx (some w)) ws = wipe σ ws := by exact fun _ => rfl) :
    EvU2 K (tLc (iList K tl') (gName jx) tYes te ws) σ H (m.map g) := by
  have q := u_filN (K := K) (t := tYes) (fun _ => true) g dv h hz (fun _ _ => et_yes) (fun y hy _ => he y hy) hw
  rw [filt_yes] at q
  exact q
end
section
variable {K : PySem.W.Frag} {σ : L2.St} {H : Hp} {t : TA}
/-- a told list of tuples, some of the arguments new -/
theorem u_callA {P : List V → Hp → Prop} {R : List V → Hp → List (List V) → Prop} {E : XK} {xs : List (List V)} (h : EvAx t σ H P) (hR : ∀ ws H1, Ex H H1 → P ws H1 → R ws H1 xs) : EvU2 K (tCall (spU2 K R) [] E t) σ H xs := fun H1 e Q q =>
  h H1 e _ fun ws H2 e2 hp => ⟨xs, by rw [List.append_nil]; exact hR ws H2 (e.trans e2) hp, fun p H3 np e3 h3 => q p H3 (fresh_back e2 np) (e2.trans e3) h3⟩
end
section
variable {K : PySem.W.Frag} {σ : L2.St} {H : Hp} {a1 a2 te : TE} {D : Ends} {tz tu : TS} {i : Nat} {l1 l2 : List (List V)}
/-- behind the first turn, the one name told anew -/
def M1 (K : PySem.W.Frag) (p f : Addr) (xs : List V) (i : Nat) (tu tz : TS) (D : Ends) : L2.St → Hp → Prop := fun σ2 H2 =>
  SqL K H2 p xs ∧ tu { D with nx := Nz K p xs tz D, ct := Nz K p xs tz D, bk := tz D } (σ2.set i (some (.ref f))) H2
/-- for a in [new list of tuples, new list of tuples] -/
theorem q_twoS (ha1 : EvU2 K a1 σ H l1) (ha2 : EvU2 K a2 σ H l2)
    (q : ∀ f1 f2 p H1, H f1 = none → H f2 = none → H p = none → f1 ≠ f2 → f1 ≠ p → f2 ≠ p → Ex H H1 → IsLU K H1 f1 l1 → IsLU K H1 f2 l2 → H1 p = some (.lst [.ref f1, .ref f2]) →
      tu { D with nx := M1 K p f2 [.ref f1, .ref f2] i tu tz D, ct := M1 K p f2 [.ref f1, .ref f2] i tu tz D, bk := tz D } (σ.set i (some (.ref f1))) H1) :
    tSeq (tFor (iList K (tLst (tCons a1 (tCons a2 tNil)))) (gName i) tu) tz D σ H :=
  ha1 H (Ex.refl H) _ fun f1 H1 n1 e1 h1 => ha2 H1 e1 _ fun f2 H2 n2 e2 h2 => ⟨sz_of (by simp), fun p np => by
    have e3 : Ex H2 (upd H2 p (.lst [.ref f1, .ref f2])) := Ex.new np
    have w1 := (h1.ex e2).ex e3
    have w2 := h2.ex e3
    have hp : (upd H2 p (.lst [.ref f1, .ref f2])) p = some (.lst [.ref f1, .ref f2]) := upd_same
    refine ⟨p, rfl, ⟨_, sq_of hp⟩, ?_⟩
    exact two_list (x1 := .ref f1) (x2 := .ref f2) (g := gName i) tu { D with nx := tz D } (M1 K p f2 [.ref f1, .ref f2] i tu tz D) (fun σ2 H5 z => z.1) (sq_of hp)
      (q f1 f2 p _ n1 (fresh_back e1 n2) (fresh_back (e1.trans e2) np) (h1.ne n2) ((h1.ex e2).ne np) (h2.ne np) ((e1.trans e2).trans e3) w1 w2 hp) fun σ2 H5 z => z.2⟩
end
/-! ## {a: b, c: d, e: f}.get(x, z) of numbers -/
def pick3 (a1 b1 a2 b2 a3 b3 x z : Int) : Int := if x = a1 then b1 else if x = a2 then b2 else if x = a3 then b3 else z
theorem pick3_val {a1 b1 a2 b2 a3 b3 x z : Int} (h : a1 ≠ a2 ∧ a1 ≠ a3 ∧ a2 ≠ a3) :
    (valV (mergeK [] [((Sum.inl a1 : Key), V.int b1), (Sum.inl a2, V.int b2), (Sum.inl a3, V.int b3)]) (Sum.inl x)).getD (V.int z) = V.int (pick3 a1 b1 a2 b2 a3 b3 x z) := by
  obtain ⟨n1, n2, n3⟩ := h
  have i1 : ¬ (Sum.inl a1 : Key) = Sum.inl a2 := fun e => n1 (Sum.inl.inj e)
  have i2 : ¬ (Sum.inl a1 : Key) = Sum.inl a3 := fun e => n2 (Sum.inl.inj e)
  have i3 : ¬ (Sum.inl a2 : Key) = Sum.inl a3 := fun e => n3 (Sum.inl.inj e)
  have hm : mergeK [] [((Sum.inl a1 : Key), V.int b1), (Sum.inl a2, V.int b2), (Sum.inl a3, V.int b3)] = [((Sum.inl a1 : Key), V.int b1), (Sum.inl a2, V.int b2), (Sum.inl a3, V.int b3)] := by
    simp [mergeK, putK, n1, n2, n3]
  rw [hm]
  unfold pick3
  by_cases c1 : x = a1
  · rw [if_pos c1, valV_pos (congrArg Sum.inl c1.symm)]
    rfl
  · rw [if_neg c1, valV_neg (fun e => c1 (Sum.inl.inj e).symm)]
    by_cases c2 : x = a2
    · rw [if_pos c2, valV_pos (congrArg Sum.inl c2.symm)]
      rfl
    · rw [if_neg c2, valV_neg (fun e => c2 (Sum.inl.inj e).symm)]
      by_cases c3 : x = a3
      · rw [if_pos c3, valV_pos (congrArg Sum.inl c3.symm)]
        rfl
      · rw [if_neg c3, valV_neg (fun e => c3 (Sum.inl.inj e).symm)]
        rfl
section
variable {σ : L2.St} {H : Hp} {k1 k2 k3 u1 u2 u3 tx tz : TE} {a1 b1 a2 b2 a3 b3 x z : Int}
theorem e_pick3 (c1 : ∀ H, Ev k1 σ H (.int a1)) (d1 : ∀ H, Ev u1 σ H (.int b1)) (c2 : ∀ H, Ev k2 σ H (.int a2)) (d2 : ∀ H, Ev u2 σ H (.int b2)) (c3 : ∀ H, Ev k3 σ H (.int a3)) (d3 : ∀ H, Ev u3 σ H (.int b3))
    (hx : Ev tx σ H (.int x)) (hz : Ev tz σ H (.int z)) (hn : a1 ≠ a2 ∧ a1 ≠ a3 ∧ a2 ≠ a3) : Ev (tDGet2 (tDisp [(k1, u1), (k2, u2), (k3, u3)]) tx tz) σ H (.int (pick3 a1 b1 a2 b2 a3 b3 x z)) := fun H0 e0 Q q p np =>
  have en : Ex H0 (upd H0 p (.dK [])) := Ex.new np
  c1 _ _ (Ex.refl _) _ fun H1 e1 => d1 _ _ (Ex.refl _) _ fun H2 e2 => c2 _ _ (Ex.refl _) _ fun H3 e3 => d2 _ _ (Ex.refl _) _ fun H4 e4 => c3 _ _ (Ex.refl _) _ fun H5 e5 => d3 _ _ (Ex.refl _) _ fun H6 e6 => by
    have e16 := ((((e1.trans e2).trans e3).trans e4).trans e5).trans e6
    have hp : H6 p = some (.dK []) := e16 p _ upd_same
    have eM : Ex H0 (upd H6 p (.dK (mergeK [] [((Sum.inl a1 : Key), V.int b1), (Sum.inl a2, V.int b2), (Sum.inl a3, V.int b3)]))) := Ex.mut (en.trans e16) np
    refine ⟨hp, [((Sum.inl a1 : Key), V.int b1), (Sum.inl a2, V.int b2), (Sum.inl a3, V.int b3)], rfl, by simp, p, rfl, Or.inl ⟨_, Or.inl upd_same⟩, ?_⟩
    refine hx _ (e0.trans eM) _ fun H7 e7 => hz H7 ((e0.trans eM).trans e7) _ fun H8 e8 => ⟨_, DGet.k (k := Sum.inl x) ((e7.trans e8) p _ upd_same), ?_⟩
    rw [pick3_val hn]
    exact q H8 ((eM.trans e7).trans e8)
end
/-! ## a number in a new list of numbers -/
theorem inV_int (n : Int) (l : List Int) : inV (.int n) (l.map V.int) = decide (n ∈ l) := by
  unfold inV
  rw [List.any_map]
  induction l with
  | nil => rfl
  | cons y r ih =>
    rw [List.any_cons, ih]
    show ((y == n) || _) = _
    by_cases h : y = n
    · subst h
      simp
    · have h2 : ¬ n = y := fun e => h e.symm
      simp [h, h2]
theorem flat_int (l : List Int) : (l.map V.int).all flatV = true := by
  rw [List.all_map]
  exact List.all_eq_true.mpr fun _ _ => rfl
theorem op_niK {X : Cx} (K : PySem.W.Frag) (h : X.K = K := by rfl) : OpR X (compareOp .NotIn) (rIn K true) := h ▸ op_notIn_seq
section
variable {K : PySem.W.Frag} {σ : L2.St} {H : Hp} {ta tb : TE} {n : Int} {l : List Int}
theorem e_inNI (ha : Ev ta σ H (.int n)) (hb : EvL tb σ H (l.map V.int)) : Ev (tOp (rIn K false) ta tb) σ H (.bl (decide (n ∈ l))) := inV_int n l ▸ ev_opL ha hb fun _ _ h _ => rv_isL (sq_of h) rfl (flat_int l)
theorem e_niNI (ha : Ev ta σ H (.int n)) (hb : EvL tb σ H (l.map V.int)) : Ev (tOp (rIn K true) ta tb) σ H (.bl (!decide (n ∈ l))) := inV_int n l ▸ ev_opL ha hb fun _ _ h _ => rv_niL (sq_of h) rfl (flat_int l)
end
/-! ## for x in a tuple that stands -/
section
variable {K : PySem.W.Frag} {σ : L2.St} {H : Hp} {tl' : TE} {D : Ends} {tz tu : TS}
theorem q_loopT {α S R : Type} {f : α → V} {l : List α} (step : S → α → Stp S R) (s0 : S) (Rep : S → L2.St → Hp → Prop) {j : Nat} {pl : Addr} (h : Ev tl' σ H (.ref pl)) (hS : SqT K H pl (l.map f)) (h0 : ∀ H1, Ex H H1 → Rep s0 σ H1)
    (hl : ∀ s σ1 H1, Rep s σ1 H1 → SqT K H1 pl (l.map f)) (hb : BodyOk tu D j f step l s0 Rep) (ho : OutOk tz D step l s0 Rep) : tSeq (tFor (iTup K tl') (gName j) tu) tz D σ H :=
  q_forT h hS (fun i σ1 H1 => ∃ s, runL step (l.take i) s0 = .go s ∧ Rep s σ1 H1) (fun H1 e => ⟨s0, rfl, h0 H1 e⟩) (fun i σ1 H1 _ ⟨s, _, p⟩ => hl s σ1 H1 p) (fun i x σ1 H1 hx p => by
    rw [List.getElem?_map] at hx
    cases hy : l[i]? with
    | none =>
      rw [hy] at hx
      cases hx
    | some y =>
      rw [hy] at hx
      have ex : f y = x := Option.some.inj hx
      subst ex
      exact loop_core hb ho hy p) (fun σ1 H1 p => loop_end ho (List.length_map _) p)
end
/-! ## what fits of a range -/
theorem given_range {α : Type} (n : Nat) (c : Nat → Bool) (g : Nat → α) (f : α → V) : given n c (fun k => f (g k)) = (((List.range n).filter c).map g).map f := by
  unfold given
  rw [List.map_map]
  rfl
section
variable {σ : L2.St} {H : Hp} {te : TE} {t : TT}
theorem l_filR {α : Type} {f : α → V} {ta' : TA} {jx : Nat} {ws : List Nat} {n : Int} (c : Nat → Bool) (g : Nat → α) (h : EvA ta' σ H [.int n]) (hn : 0 ≤ n ∧ n ≤ 40000) (ht : ∀ k : Nat, (k : Int) < n → EvT t ((wipe σ ws).set jx (some (.int (k : Int)))) H (c k))
    (he : ∀ k : Nat, (k : Int) < n → c k = true → Ev te ((wipe σ ws).set jx (some (.int (k : Int)))) H (f (g k)))
    (hw : ∀ w, wipe ((wipe σ ws).set jx (some w)) ws = wipe σ ws := by exact fun _ => rfl) : EvL (tLc (iRng1 ta') (gName jx) t te ws) σ H ((((List.range n.toNat).filter c).map g).map f) := by
  have q := el_lcR1 (t := t) (te := te) c (fun k => f (g k)) h hn hw (fun k H1 e hk => (ht k hk).mono e) (fun k H1 e hk hc => (he k hk hc).mono e)
  rw [given_range] at q
  exact q
end
end Vf

/-! Own layer: != of lists whose items are equal by a way of their own. -/
namespace PySem.SeqAt
open AutoSeq1 (wpAny_loadPart')
open MeetsSeq MeetsSeq2 MeetsSeq3 SeqRoads2
section
variable {P : Program} {w : World}
theorem vf_ne_loopIn (a b : Addr) (xs ys : Array Value) (m m2 : Nat) (d1 d2 : Option Addr) (z1 z2 : Array (Option Value)) (hsz : xs.size = ys.size) : ∀ (k i : Nat), xs.size - i = k →
    MeetsIn P w (Builtin.«list.__eq__.loop» ⟨[.ref a, .ref b, rawInt i, rawInt 3], []⟩)
      (fun A R s => s.heap.get? a = some { cls := .type "list", dict := d1, data := .seq xs m, slots := z1 } ∧ s.heap.get? b = some { cls := .type "list", dict := d2, data := .seq ys m2, slots := z2 } ∧
        (∀ j (h1 : j < xs.size) (h2 : j < ys.size), EqP P w A.in1 s xs[j] ys[j] true) ∧ R (.ok (.ret (.bool false))) s)
  | 0, i, hk => by
    intro A R s h
    obtain ⟨hp, g, d, tk, os⟩ := s
    obtain ⟨ha, hb, he, hR⟩ := h
    have f2 := AutoSeq1.sub_list_list
    have h1 : ¬ i < xs.size := by omega
    have h2 : ¬ i < ys.size := by omega
    wp_walk using wpAny_loadPart' ha, wpAny_loadPart' hb
    have g1 : xs[((i : Int)).toNat]? = none := by
      rw [Int.toNat_natCast]
      exact Array.getElem?_eq_none (by omega)
    rw [g1]
    wp_walk using wpAny_loadPart' ha, wpAny_loadPart' hb
    rw [hsz]
    show R (Except.ok (Flow.ret (Value.bool (ys.size != ys.size)))) _
    simpa using hR
  | k + 1, i, hk => by
    intro A R s h
    obtain ⟨hp, g, d, tk, os⟩ := s
    obtain ⟨ha, hb, he, hR⟩ := h
    have f2 := AutoSeq1.sub_list_list
    have h1 : i < xs.size := by omega
    have h2 : i < ys.size := by omega
    wp_walk using wpAny_loadPart' ha, wpAny_loadPart' hb
    have g1 : xs[((i : Int)).toNat]? = some xs[i] := by
      rw [Int.toNat_natCast]
      exact Array.getElem?_eq_getElem h1
    have g2 : ys[((i : Int)).toNat]? = some ys[i] := by
      rw [Int.toNat_natCast]
      exact Array.getElem?_eq_getElem h2
    rw [g1, g2]
    refine wpAny_bind (he i h1 h2 _ _ ?_)
    wp_walk
    refine ⟨Code.quiet_builtin _ (by decide +kernel), codeAny_builtin (by rfl) ?_⟩
    have e : rawInt ((i : Int) + 1) = rawInt ((i + 1 : Nat) : Int) := rfl
    rw [e]
    exact vf_ne_loopIn a b xs ys m m2 d1 d2 z1 z2 hsz k (i + 1) (by omega) A R _ ⟨ha, hb, he, hR⟩
theorem vf_list_neIn (a b : Addr) (xs ys : Array Value) (m m2 : Nat) (d1 d2 : Option Addr) (z1 z2 : Array (Option Value)) (hsz : xs.size = ys.size) :
    MeetsIn P w (Builtin.«list.__ne__» ⟨[.ref a, .ref b], []⟩)
      (fun A R s => s.heap.get? a = some { cls := .type "list", dict := d1, data := .seq xs m, slots := z1 } ∧ s.heap.get? b = some { cls := .type "list", dict := d2, data := .seq ys m2, slots := z2 } ∧
        (∀ j (h1 : j < xs.size) (h2 : j < ys.size), EqP P w A.in1 s xs[j] ys[j] true) ∧ R (.ok (.ret (.bool false))) s) := by
  intro A R s h
  obtain ⟨hp, g, d, tk, os⟩ := s
  obtain ⟨ha, hb, he, hR⟩ := h
  have f2 := AutoSeq1.sub_list_list
  wp_walk using wpAny_loadPart' ha, wpAny_loadPart' hb
  refine ⟨Code.quiet_builtin _ (by decide +kernel), codeAny_builtin (by rfl) ?_⟩
  exact vf_ne_loopIn a b xs ys m m2 d1 d2 z1 z2 hsz xs.size 0 (by omega) A R _ ⟨ha, hb, he, hR⟩
theorem vf_rcP_lists_ne {A : Around} {s : Shared} {a b : Addr} {xs ys : Array Value} (ha : s.heap.IsList a xs) (hb : s.heap.IsList b ys) (hsz : xs.size = ys.size) (hu : A.units < cLine)
    (he : ∀ j (h1 : j < xs.size) (h2 : j < ys.size), EqP P w A.in1 s xs[j] ys[j] true) (E Q : Value → Shared → Prop) (h : Q (.bool false) s) : wpAny (model P w) A (richCompare .NotEq (.ref a) (.ref b)) Q E s := by
  obtain ⟨⟨c1, e1, f1, z1⟩, ho, hc, m, hd⟩ := id ha
  obtain ⟨⟨c2, e2, f2, z2⟩, ho2, hc2, m2, hd2⟩ := id hb
  simp only at hc hd hc2 hd2
  subst hc hd hc2 hd2
  have ta : s.TypeIs (.ref a) "list" := ⟨_, ho, rfl⟩
  have tb : s.TypeIs (.ref b) "list" := ⟨_, ho2, rfl⟩
  exact wpAny_richCompare_same_room (op := .NotEq) ta tb F.slot_list_ne (call_meetsIn F.slot_list_ne ta F.entry_list_ne (F.args_list_ne_2 _ _) (vf_list_neIn a b xs ys m m2 e1 e2 z1 z2 hsz)
    ⟨ho, ho2, he, show Value.bool false ≠ Value.notImplemented ∧ Q (.bool false) s from ⟨(fun x => nomatch x), h⟩⟩) hu
end
end PySem.SeqAt
namespace Vf
open PySem PySem.Spec PyProof.Rows L2 TL Evl
section
variable {X : Cx} {pins : List (Addr × Obj)} {σ : L2.St} {H : Hp} {s : Shared}
theorem lists_in {A : Around} {F : V → V → Prop} (I : Inv X pins σ H s) (ih : ∀ x y v u, F x y → RelV x v → RelV y u → SeqAt.EqP X.prog X.w A.in1 s v u true) {a b : Addr} {xs ys : List V} (ha : SqL X.K H a xs) (hb : SqL X.K H b ys) (hp : Paired F xs ys) :
    ∃ us ws : Array Value, s.heap.IsList a us ∧ s.heap.IsList b ws ∧ us.size = ws.size ∧ ∀ j (h1 : j < us.size) (h2 : j < ws.size), SeqAt.EqP X.prog X.w A.in1 s us[j] ws[j] true := by
  obtain ⟨us, r1, p1, _⟩ := I.list ha
  obtain ⟨ws, r2, p2, _⟩ := I.list hb
  have g : ∀ {c : Addr} {vs : Array Value}, PlainL s.heap c vs → s.heap.IsList c vs := fun z => by
    obtain ⟨o, n, ho, hc, _, hd⟩ := z
    exact ⟨o, ho, hc, n, hd⟩
  refine ⟨us.toArray, ws.toArray, g p1, g p2, ?_, fun j h1 h2 => ?_⟩
  · rw [List.size_toArray, List.size_toArray, ← r1.length, ← r2.length]
    exact paired_len hp
  · have k := items_run ih hp r1 r2 j (by simpa using h1) (by simpa using h2)
    simpa using k
/-- not unequal: two lists -/
def rQNeL (K : PySem.W.Frag) : R2 := fun x y H Q => ∃ n, n ≤ 60 ∧ (∃ a b xs ys, x = .ref a ∧ y = .ref b ∧ SqL K H a xs ∧ SqL K H b ys ∧ Paired (QV K H n) xs ys) ∧ Q (.bl false) H
theorem op_qNeLK (K : PySem.W.Frag) (hu : X.A.units + 64 < cLine) (h : X.K = K := by rfl) : OpR X (compareOp .NotEq) (rQNeL K) := by
  subst h
  intro pins s σ H x y v u Q I rx ry ⟨n, hn, ⟨a, b, xs, ys, e1, e2, ha, hb, hp⟩, q⟩
  subst e1 e2
  cases (show v = Value.ref a from rx)
  cases (show u = Value.ref b from ry)
  obtain ⟨us, ws, p1, p2, hsz, hj⟩ := lists_in (A := X.A) I (qV_run I n X.A.in1 (by show X.A.units + 1 + n < cLine; omega)) ha hb hp
  exact SeqAt.vf_rcP_lists_ne p1 p2 hsz (by omega) hj _ _ ⟨.bl false, H, I, rfl, q⟩
end
section
variable {K : PySem.W.Frag} {σ : L2.St} {H H1 H2 : Hp} {ta tb tc te td tl' tq : TE} {p pl a b c d : Addr} {i j jx jy : Nat} {ws ws1 : List Nat} {D : Ends} {tz tu : TS} {k1 k2 k3 k4 : List (Key × V)}
theorem e_neLs {xs ys : List V} (h : EvL ta σ H xs) (hb : Ev tb σ H (.ref p)) (hp : H p = some (.lst ys)) (hq : ∀ H1, Ex H H1 → Paired (QV K H1 2) xs ys) : Ev (tOp (rQNeL K) ta tb) σ H (.bl false) := fun H1 e1 Q q =>
  h H1 e1 _ fun r H2 _ e2 hr => hb H2 (e1.trans e2) _ fun H3 e3 => ⟨2, by decide, ⟨r, p, xs, ys, rfl, rfl, sq_of (e3 r _ hr), sq_of (((e1.trans e2).trans e3) p _ hp), hq H3 ((e1.trans e2).trans e3)⟩, q H3 (e2.trans e3)⟩
theorem e_eqLs {xs ys : List V} (h : EvL ta σ H xs) (hb : Ev tb σ H (.ref p)) (hp : H p = some (.lst ys)) (hq : ∀ H1, Ex H H1 → Paired (QV K H1 2) xs ys) : Ev (tOp (rQEq K) ta tb) σ H (.bl true) := fun H1 e1 Q q =>
  h H1 e1 _ fun r H2 _ e2 hr => hb H2 (e1.trans e2) _ fun H3 e3 => ⟨2, by decide, Or.inl (Or.inl ⟨r, p, xs, ys, rfl, rfl, sq_of (e3 r _ hr), sq_of (((e1.trans e2).trans e3) p _ hp), hq H3 ((e1.trans e2).trans e3)⟩), q H3 (e2.trans e3)⟩
/-- a dict of texts or nothing and its copy -/
theorem flat_vo (x : Option Tx) : flatB (vo x) = true := by cases x <;> rfl
theorem qv_dictO {l : List (Tx × Option Tx)} (hn : (dkeys l).Nodup) (h1 : H a = some (.dK (kd vo l))) (h2 : H b = some (.dK (kd vo l))) : QV K H 2 (.ref a) (.ref b) := by
  refine Or.inr (Or.inr (Or.inl (Or.inr ⟨a, b, _, _, rfl, rfl, h1, h2, rfl, fun q hq => ?_⟩)))
  unfold kd at hq
  obtain ⟨x, hx, rfl⟩ := List.mem_map.mp hq
  refine ⟨vo x.2, ?_, Or.inl ⟨rfl, flat_vo _⟩⟩
  show valV (kd vo l) (ky x.1) = some (vo x.2)
  rw [kd_get, get_of hn hx]
  rfl
theorem q_asgL4 (ha : EvK ta σ H k1) (hb : EvK tb σ H k2) (hc : EvK tc σ H k3) (hd : EvK td σ H k4)
    (q : ∀ p a b c d H1, H p = none → H a = none → H b = none → H c = none → H d = none → a ≠ b → a ≠ c → a ≠ d → b ≠ c → b ≠ d → c ≠ d → Ex H H1 → H1 p = some (.lst [.ref a, .ref b, .ref c, .ref d]) → H1 a = some (.dK k1) → H1 b = some (.dK k2) → H1 c = some (.dK k3) → H1 d = some (.dK k4) → tz D (σ.set i (some (.ref p))) H1) :
    tSeq (tAsg (tLst (tCons ta (tCons tb (tCons tc (tCons td tNil))))) (gName i)) tz D σ H :=
  ha H (Ex.refl H) _ fun a H1 na e1 h1 => hb H1 e1 _ fun b H2 nb e2 h2 => hc H2 (e1.trans e2) _ fun c H3 nc e3 h3 => hd H3 ((e1.trans e2).trans e3) _ fun d H4 nd e4 h4 => ⟨sz_of (by simp), fun p np =>
    q p a b c d _ (fresh_back (((e1.trans e2).trans e3).trans e4) np) na (fresh_back e1 nb) (fresh_back (e1.trans e2) nc) (fresh_back ((e1.trans e2).trans e3) nd) (ne_of_none h1 nb) (ne_of_none (e2 a _ h1) nc) (ne_of_none (e3 a _ (e2 a _ h1)) nd) (ne_of_none h2 nc) (ne_of_none (e3 b _ h2) nd) (ne_of_none h3 nd)
      ((((e1.trans e2).trans e3).trans e4).trans (Ex.new np)) upd_same (Ex.new np a _ (e4 a _ (e3 a _ (e2 a _ h1)))) (Ex.new np b _ (e4 b _ (e3 b _ h2))) (Ex.new np c _ (e4 c _ h3)) (Ex.new np d _ h4)⟩
theorem e_niR {l : List Tx} {p : Tx} (ha : Ev ta σ H (vs p)) (hb : Ev tb σ H (.ref pl)) (hS : SqL K H pl (l.map vs)) : Ev (tOp (rIn K true) ta tb) σ H (.bl (!decide (p ∈ l))) := fun H1 e Q q =>
  ha H1 e _ fun H2 e2 => hb H2 (e.trans e2) _ fun H3 e3 => ⟨pl, l.map vs, rfl, Or.inl (ex_l ((e.trans e2).trans e3) hS), rfl, flat_vs l, by
    rw [if_pos rfl, inV_vs p l]
    exact q H3 (e2.trans e3)⟩
/-- three dicts told as a list -/
theorem rd_three {a0 a1 a2 : Addr} {d0 d1 d2 : List (Tx × Tx)} {i : Int} (h0 : Rd H a0 (.dK (kd vs d0))) (h1 : Rd H a1 (.dK (kd vs d1))) (h2 : Rd H a2 (.dK (kd vs d2))) (hi : 0 ≤ i ∧ i ≤ 2) :
    Rd H ([a0, a1, a2].getD i.toNat 0) (.dK (kd vs ([d0, d1, d2].getD i.toNat []))) := by
  have h : i = 0 ∨ i = 1 ∨ i = 2 := by omega
  rcases h with e | e | e
  · rw [e]
    exact h0
  · rw [e]
    exact h1
  · rw [e]
    exact h2
/-- [x for q in new list of tuples for x in q] -/
theorem l_flatU {l : List (List Tx)} (h : EvU2 K tl' σ H (l.map (List.map vs))) (hz : l.flatten.length ≤ 90000)
    (hin : ∀ (a : Addr) H5, Ev tq ((wipe σ ws).set jx (some (.ref a))) H5 (.ref a))
    (he : ∀ (a : Addr) (p : Tx) H5, Ev te ((wipe ((wipe σ ws).set jx (some (.ref a))) ws1).set jy (some (vs p))) H5 (vs p))
    (hw : ∀ v, wipe ((wipe σ ws).set jx (some v)) ws = wipe σ ws := by exact fun _ => rfl)
    (hw1 : ∀ v v2, wipe ((wipe ((wipe σ ws).set jx (some v)) ws1).set jy (some v2)) ws1 = wipe ((wipe σ ws).set jx (some v)) ws1 := by exact fun _ _ => rfl) :
    EvL (tLc2 (iList K tl') (gName jx) tYes (iTup K tq) (gName jy) tYes te ws ws1) σ H (l.flatten.map vs) := fun H0 e0 Q q => h H0 e0 _ fun pl H1 npl e1 hU => by
  obtain ⟨ts, h1, h3⟩ := hU
  have hlen : ts.length = l.length := by rw [paired_len h3, List.length_map]
  refine ⟨pl, rfl, ⟨_, sq_of h1⟩, fun Dl hD => ?_⟩
  refine ⟨fun k m H5 => m = l.length - k ∧ k ≤ l.length ∧ Ex H1 H5 ∧ H5 Dl = some (.lst (((l.take k).flatten).map vs)), ⟨l.length, by simp, Nat.zero_le _, Ex.new hD, upd_same⟩, fun k m H5 hW => ?_⟩
  obtain ⟨rfl, hk, e2, hu⟩ := hW
  by_cases hlt : k < l.length
  · have hts : k < ts.length := by omega
    have hat : (ts.map V.ref)[k]? = some (.ref ts[k]) := by rw [List.getElem?_map, List.getElem?_eq_getElem hts]; rfl
    refine Or.inr ⟨⟨_, _, sq_of (e2 pl _ h1), hat⟩, fun H6 => Ex H1 H6 ∧ H6 Dl = some (.lst (((l.take (k + 1)).flatten).map vs)), fun H6 h6 => ⟨l.length - (k + 1), by omega, rfl, hlt, h6.1, h6.2⟩, fun x H6 hy => ?_⟩
    obtain ⟨rfl, hx⟩ := hy
    have hx2 := hx _ (sq_of (e2 pl _ h1))
    obtain ⟨a, y, rfl, hy2, ha⟩ := tup_at (ts := ts) (i := k) h3 hx2
    have hst : (l.take (k + 1)).flatten = (l.take k).flatten ++ l[k] := by
      rw [List.take_add_one, List.getElem?_eq_getElem hlt, List.flatten_append]
      simp
    have ey : l[k].map vs = y := by
      rw [List.getElem?_map, List.getElem?_eq_getElem hlt] at hy2
      exact Option.some.inj hy2
    subst ey
    have hfl : ((l.take k).flatten).length + l[k].length ≤ 90000 := by
      have h7 : ((l.take (k + 1)).flatten).length ≤ l.flatten.length := by
        conv => rhs; rw [← List.take_append_drop (k + 1) l, List.flatten_append, List.length_append]
        omega
      rw [hst, List.length_append] at h7
      omega
    refine ⟨hw _, ?_⟩
    refine @yes_go _ False ?_
    rw [if_pos rfl]
    refine hin a H6 H6 (Ex.refl H6) _ fun H7 e7 => ⟨a, rfl, ⟨_, ex_t (e2.trans e7) ha⟩, ?_⟩
    refine ⟨fun j m H8 => m = l[k].length - j ∧ j ≤ l[k].length ∧ Ex H1 H8 ∧ H8 Dl = some (.lst ((((l.take k).flatten) ++ l[k].take j).map vs)), ⟨l[k].length, by simp, Nat.zero_le _, e2.trans e7, by rw [List.take_zero, List.append_nil]; exact e7 Dl _ hu⟩, fun j m H8 hW8 => ?_⟩
    obtain ⟨rfl, hj, e8, hu8⟩ := hW8
    by_cases hlj : j < l[k].length
    · have hjat : (l[k].map vs)[j]? = some (vs l[k][j]) := by rw [List.getElem?_map, List.getElem?_eq_getElem hlj]; rfl
      refine Or.inr ⟨⟨_, _, ex_t e8 ha, hjat⟩, fun H9 => Ex H1 H9 ∧ H9 Dl = some (.lst ((((l.take k).flatten) ++ l[k].take (j + 1)).map vs)), fun H9 h9 => ⟨l[k].length - (j + 1), by omega, rfl, hlj, h9.1, h9.2⟩, fun x2 H9 hy9 => ?_⟩
      obtain ⟨rfl, hx9⟩ := hy9
      have hx10 := hx9 _ (ex_t e8 ha)
      rw [hjat] at hx10
      obtain rfl := Option.some.inj hx10
      refine ⟨hw1 _ _, ?_⟩
      refine @yes_go _ False ?_
      rw [if_pos rfl]
      refine he a _ H9 H9 (Ex.refl H9) _ fun H10 e10 => ⟨_, e10 Dl _ hu8, sz_lt ?_, Ex.mut (e8.trans e10) hD, ?_⟩
      · rw [List.length_map, List.length_append, List.length_take]
        omega
      · have e11 : (l.take k).flatten ++ l[k].take (j + 1) = ((l.take k).flatten ++ l[k].take j) ++ [l[k][j]] := by
          rw [List.take_add_one, List.getElem?_eq_getElem hlj, List.append_assoc]
          rfl
        rw [upd_same, e11, List.map_append (l₂ := [l[k][j]])]
        rfl
    · have ej : j = l[k].length := by omega
      subst ej
      rw [List.take_length] at hu8
      refine Or.inl ⟨⟨_, ex_t e8 ha, by rw [List.length_map]; exact Nat.le_refl _⟩, e8, ?_⟩
      rw [hst]
      exact hu8
  · have ek : k = l.length := by omega
    subst ek
    rw [List.take_length] at hu
    exact Or.inl ⟨⟨_, sq_of (e2 pl _ h1), by rw [List.length_map, hlen]; exact Nat.le_refl _⟩, q Dl H5 (fresh_back e1 hD) (e1.trans e2) hu⟩

/-! ## for a, b in d.items() -/
/-- of a loop over the pairs of a dict: the body at a pair -/
def BodyOkI {S R α : Type} (tu : TS) (D : Ends) (i j : Nat) (f : α → V) (step : S → Tx × α → Stp S R) (l : List (Tx × α)) (s0 : S) (Rep : S → L2.St → Hp → Prop) : Prop :=
  ∀ (Nx Bk : L2.St → Hp → Prop) (n : Nat) (s : S) (y : Tx × α) (σ1 : L2.St) (H1 : Hp), l[n]? = some y → runL step (l.take n) s0 = .go s → Rep s σ1 H1 → (∀ s2 σ2 H2, step s y = .go s2 → Rep s2 σ2 H2 → Nx σ2 H2) → (∀ s2 σ2 H2, step s y = .brk s2 → Rep s2 σ2 H2 → Bk σ2 H2) →
    (∀ r, step s y = .ret r → runL step l s0 = .ret r) → tu { D with nx := Nx, ct := Nx, bk := Bk } ((σ1.set i (some (vs y.1))).set j (some (f y.2))) H1
theorem items_walk {S R α : Type} {f : α → V} {l : List (Tx × α)} {step : S → Tx × α → Stp S R} {s0 : S} {Rep : S → L2.St → Hp → Prop} {n : Nat} {o : Obj} {D' : Ends} (hσ : σ[n]? = some (some (.ref d))) (hd : H d = some (.frz o (.dK (kd f l)))) (h0 : Rep s0 σ H)
    (hk : ∀ s σ1 H1, Rep s σ1 H1 → H1 d = some (.frz o (.dK (kd f l)))) (hg : ∀ s σ1 H1 H2, Rep s σ1 H1 → Ex H1 H2 → Rep s σ1 H2) (hb : BodyOkI tu D' i j f step l s0 Rep)
    (ho : ∀ s σ1 H1, (runL step l s0 = .go s ∨ runL step l s0 = .brk s) → Rep s σ1 H1 → D'.nx σ1 H1) : tFor (iItems (tVar n)) (gTup K 2 (gCons (gName i) (gCons (gName j) gNil))) tu D' σ H := by
  refine ⟨.ref d, hσ, d, o, kd f l, rfl, hd, ?_⟩
  refine ⟨fun n m σ1 H2 => m = l.length - n ∧ n ≤ l.length ∧ ∃ s, runL step (l.take n) s0 = .go s ∧ Rep s σ1 H2, ⟨l.length, by simp, Nat.zero_le _, s0, rfl, h0⟩, fun n m σ1 H2 hW => ?_⟩
  obtain ⟨rfl, hn, s, hr, hp⟩ := hW
  by_cases hlt : n < l.length
  · refine Or.inr ⟨⟨hk s σ1 H2 hp, by rw [kd_len]; exact hlt⟩, fun σ2 H3 => ∃ s, runL step (l.take (n + 1)) s0 = .go s ∧ Rep s σ2 H3, fun σ2 H3 h3 => ⟨l.length - (n + 1), by omega, rfl, hlt, h3⟩, fun w H3 hy => ?_⟩
    obtain ⟨T, kk, vv, hkv, rfl, nT, rfl⟩ := hy
    have hy2 : l[n]? = some l[n] := List.getElem?_eq_getElem hlt
    have ekv : kV kk = vs l[n].1 ∧ vv = f l[n].2 := by
      unfold kd at hkv
      rw [List.getElem?_map, hy2] at hkv
      have e1 : ky l[n].1 = kk := congrArg Prod.fst (Option.some.inj hkv)
      have e2 : f l[n].2 = vv := congrArg Prod.snd (Option.some.inj hkv)
      rw [← e1, ← e2]
      exact ⟨rfl, rfl⟩
    rw [ekv.1, ekv.2]
    have hnx := runL_next hr hy2
    refine ⟨T, _, rfl, st_of upd_same, rfl, _, _, rfl, _, _, rfl, rfl, ?_⟩
    exact hb _ _ n s _ σ1 _ hy2 hr (hg s σ1 H2 _ hp (Ex.new nT)) (fun s2 σ2 H2 e q => ⟨s2, hnx.trans e, q⟩) (fun s2 σ2 H2 e q => ho s2 σ2 H2 (Or.inr (runL_out (hnx.trans e) (fun _ z => by cases z))) q) (fun r e => runL_out (hnx.trans e) (fun _ z => by cases z))
  · have en : n = l.length := by omega
    subst en
    rw [List.take_length] at hr
    exact Or.inl ⟨⟨hk s σ1 H2 hp, by rw [kd_len]; exact Nat.le_refl _⟩, ho s σ1 H2 (Or.inl hr) hp⟩
theorem q_loopI {S R α : Type} {f : α → V} {l : List (Tx × α)} (step : S → Tx × α → Stp S R) (s0 : S) (Rep : HO → Obj → S → L2.St → Hp → Prop) {n : Nat} (hσ : σ[n]? = some (some (.ref d))) (hd : Rd H d (.dK (kd f l)))
    (h0 : ∀ U o, H d = some U → (U = .dK (kd f l) ∨ U = .frz o (.dK (kd f l))) → Rep U o s0 σ (upd H d (.frz o (.dK (kd f l)))))
    (hk : ∀ U o s σ1 H1, Rep U o s σ1 H1 → H1 d = some (.frz o (.dK (kd f l))))
    (hg : ∀ U o s σ1 H1 H2, Rep U o s σ1 H1 → Ex H1 H2 → Rep U o s σ1 H2)
    (hb : ∀ U o (Rt : VK), H d = some U → (U = .dK (kd f l) ∨ U = .frz o (.dK (kd f l))) → (∀ v H1, H1 d = some (.frz o (.dK (kd f l))) → D.rt v (upd H1 d U) → Rt v H1) → BodyOkI tu { D with rt := Rt } i j f step l s0 (Rep U o))
    (ho : ∀ U o s σ1 H1, H d = some U → (U = .dK (kd f l) ∨ U = .frz o (.dK (kd f l))) → (runL step l s0 = .go s ∨ runL step l s0 = .brk s) → Rep U o s σ1 H1 → tz D σ1 (upd H1 d U)) :
    tSeq (tMay (tFor (iItems (tVar n)) (gTup K 2 (gCons (gName i) (gCons (gName j) gNil))) tu)) tz D σ H := by
  rcases hd with h | ⟨o, h⟩
  · refine Or.inr ⟨d, .dK (kd f l), h, trivial, fun od => ?_⟩
    have hb2 := hb (.dK (kd f l)) od (fun v H1 => H1 d = some (.frz od (.dK (kd f l))) ∧ D.rt v (upd H1 d (.dK (kd f l)))) h (Or.inl rfl) (fun v H1 a b => ⟨a, b⟩)
    exact items_walk (K := K) (Rep := Rep (.dK (kd f l)) od) hσ upd_same (h0 _ od h (Or.inl rfl)) (hk _ od) (hg _ od) hb2 (fun s σ1 H1 hr hp => ⟨hk _ od s σ1 H1 hp, ho _ od s σ1 H1 h (Or.inl rfl) hr hp⟩)
  · have hb2 := hb (.frz o (.dK (kd f l))) o D.rt h (Or.inr rfl) (fun v H1 a b => by rw [upd_self a] at b; exact b)
    have h02 := h0 _ o h (Or.inr rfl)
    rw [upd_self h] at h02
    exact Or.inl (items_walk (K := K) (Rep := Rep (.frz o (.dK (kd f l))) o) hσ h h02 (hk _ o) (hg _ o) hb2 (fun s σ1 H1 hr hp => by
      have q := ho _ o s σ1 H1 h (Or.inr rfl) hr hp
      rw [upd_self (hk _ o s σ1 H1 hp)] at q
      exact q))
/-! ## for a, b in [(x, y), (z, w)], all known -/
theorem q_twoR {tx1 ty1 tx2 ty2 : TE} {x1 y1 x2 y2 : V} (hx1 : ∀ H, Ev tx1 σ H x1) (hy1 : ∀ H, Ev ty1 σ H y1) (hx2 : ∀ H, Ev tx2 σ H x2) (hy2 : ∀ H, Ev ty2 σ H y2)
    (q : ∀ u1 u2 p H1, H p = none → Ex H H1 → H1 p = some (.lst [.ref u1, .ref u2]) → SqT K H1 u2 [x2, y2] →
      tu { D with nx := N1 K p u2 [.ref u1, .ref u2] x2 y2 i j tu tz D, ct := N1 K p u2 [.ref u1, .ref u2] x2 y2 i j tu tz D, bk := tz D } ((σ.set i (some x1)).set j (some y1)) H1) :
    tSeq (tFor (iList K (tLst (tCons (tTup (tCons tx1 (tCons ty1 tNil))) (tCons (tTup (tCons tx2 (tCons ty2 tNil))) tNil)))) (gTup K 2 (gCons (gName i) (gCons (gName j) gNil))) tu) tz D σ H :=
  q_two fun Q k => hx1 H H (Ex.refl H) _ fun H1 e1 => hy1 H1 H1 (Ex.refl H1) _ fun H2 e2 => ⟨sz_of (by simp), fun u1 m1 =>
    have e3 : Ex H (upd H2 u1 (.tup [x1, y1])) := (e1.trans e2).trans (Ex.new m1)
    hx2 _ _ (Ex.refl _) _ fun H4 e4 => hy2 H4 H4 (Ex.refl H4) _ fun H5 e5 => ⟨sz_of (by simp), fun u2 m2 =>
      have e6 : Ex H5 (upd H5 u2 (.tup [x2, y2])) := Ex.new m2
      ⟨sz_of (by simp), fun p np => by
        have e7 : Ex (upd H5 u2 (.tup [x2, y2])) (upd (upd H5 u2 (.tup [x2, y2])) p (.lst [.ref u1, .ref u2])) := Ex.new np
        have s1 : SqT K (upd H2 u1 (.tup [x1, y1])) u1 [x1, y1] := st_of upd_same
        have s2 : SqT K (upd H5 u2 (.tup [x2, y2])) u2 [x2, y2] := st_of upd_same
        have eall : Ex H (upd (upd H5 u2 (.tup [x2, y2])) p (.lst [.ref u1, .ref u2])) := (((e3.trans e4).trans e5).trans e6).trans e7
        have npH : H p = none := fresh_back (((e3.trans e4).trans e5).trans e6) np
        exact k p x1 x2 y1 y2 u1 u2 _ eall npH upd_same (ex_t (((e4.trans e5).trans e6).trans e7) s1) (ex_t e7 s2) (q u1 u2 p _ npH eall upd_same (ex_t e7 s2))⟩⟩⟩
end
/-! ## a dict or None -/
def optM {α β : Type} (r : Option α) (g : α → β) (x : β) : β := match r with
  | some a => g a
  | none => x
def RetNd (r : Option (List (Tx × Tx))) (H : Hp) (Q : VK) : Prop := match r with
  | none => RetV .non H Q
  | some l => RetK (kd vs l) H Q
def spNd (R : List V → Hp → Option (List (Tx × Tx)) → Prop) : Sp := fun ws H Q _ => ∃ r, R ws H r ∧ RetNd r H Q
section
variable {α : Type} {K : PySem.W.Frag} {σ : L2.St} {H : Hp} {D : Ends} {tz : TS} {i : Nat} {r : Option (List (Tx × Tx))} {Q : VK} {S : Type}
theorem retNd_T {b : Bool} {x y : Option (List (Tx × Tx))} (k : RetNd (if b = true then x else y) H Q) (hb : b = true) : RetNd x H Q := by
  rw [if_pos hb] at k
  exact k
theorem retNd_F {b : Bool} {x y : Option (List (Tx × Tx))} (k : RetNd (if b = true then x else y) H Q) (hb : b = false) : RetNd y H Q := by
  rw [hb, if_neg Bool.false_ne_true] at k
  exact k
theorem retNd_run {o : Stp S (Option (List (Tx × Tx)))} {g : S → Option (List (Tx × Tx))} {r : Option (List (Tx × Tx))} (k : RetNd (aftL o g) H Q) (h : o = .ret r) : RetNd r H Q := by
  rw [h] at k
  exact k
theorem retNd_go {o : Stp S (Option (List (Tx × Tx)))} {g : S → Option (List (Tx × Tx))} {s : S} (k : RetNd (aftL o g) H Q) (h : o = .go s ∨ o = .brk s) : RetNd (g s) H Q := by
  rcases h with h | h
  · rw [h] at k
    exact k
  · rw [h] at k
    exact k
theorem q_asgN {R : List V → Hp → Option (List (Tx × Tx)) → Prop} {t : TA} {E : XK} {ws : List V} (h : EvA t σ H ws) (hR : ∀ H1, Ex H H1 → R ws H1 r)
    (ho : ∀ l, r = some l → ∀ p H1, H p = none → Ex H H1 → H1 p = some (.dK (kd vs l)) → tz D (σ.set i (some (.ref p))) H1) (hn : r = none → ∀ H1, Ex H H1 → tz D (σ.set i (some .non)) H1) :
    tSeq (tAsg (tCall (spNd R) [] E t) (gName i)) tz D σ H :=
  h H (Ex.refl H) _ fun H1 e1 => ⟨r, by rw [List.append_nil]; exact hR H1 e1, by
    cases hr : r with
    | none => exact fun H2 e2 => hn hr H2 (e1.trans e2)
    | some l => exact fun p H2 np e2 hp => ho l hr p H2 (fresh_back e1 np) (e1.trans e2) hp⟩
theorem ret_some {β : Type} {f : β → V} {r : Option α} {g : α → β} {x : β} {a : α} (k : RetV (f (optM r g x)) H Q) (h : r = some a) : RetV (f (g a)) H Q := by
  rw [h] at k
  exact k
theorem ret_none {β : Type} {f : β → V} {r : Option α} {g : α → β} {x : β} (k : RetV (f (optM r g x)) H Q) (h : r = none) : RetV (f x) H Q := by
  rw [h] at k
  exact k
/-- x is None, of a thing -/
theorem e_isNR {ta tb : TE} {p : Addr} (ha : Ev ta σ H (.ref p)) (hb : Ev tb σ H .non) : Ev (tOp rIsN ta tb) σ H (.bl false) := ev_op ha hb (fun H1 e1 Q q => ⟨rfl, by
  rw [decide_eq_false (fun z => nomatch z)]
  exact q H1 (Ex.refl H1)⟩)
theorem e_isNN {ta tb : TE} (ha : Ev ta σ H .non) (hb : Ev tb σ H .non) : Ev (tOp rIsN ta tb) σ H (.bl true) := ev_op ha hb (fun H1 e1 Q q => ⟨rfl, by
  rw [decide_eq_true rfl]
  exact q H1 (Ex.refl H1)⟩)
end
section
variable {K : PySem.W.Frag} {σ : L2.St} {H : Hp} {te ta tb : TE} {t tr : TA} {P : List V → Hp → Prop}
theorem e_notBl {a b : Bool} (ha : Ev ta σ H (.bl a)) (hb : Ev tb σ H (.bl b)) : Ev (tOp rNotB ta tb) σ H (.bl (!decide (a = b))) := ev_op ha hb (fun H1 e1 Q q => ⟨a, b, rfl, rfl, q H1 (Ex.refl H1)⟩)
theorem ax_l {xs : List V} (h : EvL te σ H xs) (hr : EvAx tr σ H P) : EvAx (tCons te tr) σ H (fun ws H2 => ∃ p w2, ws = .ref p :: w2 ∧ H2 p = some (.lst xs) ∧ P w2 H2) := fun H1 e Q q => h H1 e _ fun p H2 _ e2 h2 => hr H2 (e.trans e2) _ fun ws H3 e3 hp => q (.ref p :: ws) H3 (e2.trans e3) ⟨p, ws, rfl, e3 p _ h2, hp⟩
theorem k_callA {R : List V → Hp → List (Key × V) → Prop} {E : XK} {kvs : List (Key × V)} (h : EvAx t σ H P) (hR : ∀ ws H1, Ex H H1 → P ws H1 → R ws H1 kvs) : EvK (tCall (spK R) [] E t) σ H kvs := fun H1 e Q q =>
  h H1 e _ fun ws H2 e2 hp => ⟨kvs, by rw [List.append_nil]; exact hR ws H2 (e.trans e2) hp, fun p H3 np e3 h3 => q p H3 (fresh_back e2 np) (e2.trans e3) h3⟩
end
/-! ## a raise out of a walk over a dict -/
theorem takes_un {X : Cx} {W : Value → Option Addr → L2N.St → Hp → Prop} (h : L2N.Takes X W) : L2N.Takes X fun cls d σ H => W cls d σ H ∨ ∃ dd od u, H dd = some (.frz od u) ∧ (∀ o' u', X.H_0 dd ≠ some (.frz o' u')) ∧ W cls d σ (upd H dd u) := by
  intro u s' hx
  obtain ⟨a, B, sI, pins, σ, H, cls, d, e1, I, h1, h2, h3, h4, h5, h6, h7⟩ := hx
  rcases h7 with h7 | ⟨dd, od, v, hd, h0, h7⟩
  · exact h u s' ⟨a, B, sI, pins, σ, H, cls, d, e1, I, h1, h2, h3, h4, h5, h6, h7⟩
  · refine h u s' ⟨a, B, sI, pins, σ, upd H dd v, cls, d, e1, I.unlock hd h0, h1, h2, h3, ?_, h5, h6, h7⟩
    have ne : a ≠ dd := fun z => by
      rw [z, hd] at h4
      cases h4
    show (if a = dd then some v else H a) = none
    rw [if_neg ne]
    exact h4
theorem exc_may {H H1 HX : Hp} {d : Addr} {U : HO} {o : Obj} {kvs : List (Key × V)} {B : Hp → Prop} (e1 : Ex H H1) (hU : H1 d = some U) (hUd : U = .dK kvs ∨ U = .frz o (.dK kvs)) (h : HX d = some (.frz o (.dK kvs))) (e : Ex H (unl [(d, U)] HX))
    (k : ∀ H2, Ex H H2 → B H2) : B HX ∨ ∃ dd od u, HX dd = some (.frz od u) ∧ (∀ o' u', H dd ≠ some (.frz o' u')) ∧ B (upd HX dd u) := by
  have e2 : Ex H (upd HX d U) := e
  rcases hUd with z | z
  · subst z
    refine Or.inr ⟨d, o, .dK kvs, h, fun o' u' z => ?_, k _ e2⟩
    have := e1 d _ z
    rw [hU] at this
    cases this
  · subst z
    rw [upd_self h] at e2
    exact Or.inl (k _ e2)
end Vf


namespace K08
open PySem PySem.Spec PyProof.Rows L2 TL Evl Vf
/-! ## written texts -/
def lSl : Tx := tx "/"
theorem len_lSl : lSl.length = 1 := by decide +kernel
def l_b79634d7 : Tx := tx "alike"
theorem len_l_b79634d7 : l_b79634d7.length = 5 := by decide +kernel
def l_fe05bcdc : Tx := tx "one"
theorem len_l_fe05bcdc : l_fe05bcdc.length = 3 := by decide +kernel
def l_d0941e68 : Tx := tx "other"
theorem len_l_d0941e68 : l_d0941e68.length = 5 := by decide +kernel
def l_4581fc00 : Tx := tx "clash"
theorem len_l_4581fc00 : l_4581fc00.length = 5 := by decide +kernel
def lSigns : Tx := tx "abcdefghijklmnopqrstuvwxyzABCDEFGHIJKLMNOPQRSTUVWXYZ0123456789.-_"
theorem len_lSigns : lSigns.length = 65 := by decide +kernel
def lNil : Tx := tx ""
theorem len_lNil : lNil.length = 0 := by decide +kernel
def lDot : Tx := tx "."
theorem len_lDot : lDot.length = 1 := by decide +kernel
def lDots : Tx := tx ".."
theorem len_lDots : lDots.length = 2 := by decide +kernel
def l0x : Tx := tx "0x"
theorem len_l0x : l0x.length = 2 := by decide +kernel
def lAny1 : Tx := tx " !\"#$&'()*+,-./0123456789:;<=>?@ABCDEFGHIJKLMNOPQRSTUVWXYZ[\\]^_`"
theorem len_lAny1 : lAny1.length = 64 := by decide +kernel
def lAny2 : Tx := tx "abcdefghijklmnopqrstuvwxyz{|}~\n\t"
theorem len_lAny2 : lAny2.length = 32 := by decide +kernel
def lTops : Tx := tx "tops"
theorem len_lTops : lTops.length = 4 := by decide +kernel
def lSlx : Tx := tx "/x"
theorem len_lSlx : lSlx.length = 2 := by decide +kernel
def l_12c0f1fb : Tx := tx "left"
theorem len_l_12c0f1fb : l_12c0f1fb.length = 4 := by decide +kernel
def l_d27a1f11 : Tx := tx "right"
theorem len_l_d27a1f11 : l_d27a1f11.length = 5 := by decide +kernel
def lMade : Tx := tx "made"
theorem len_lMade : lMade.length = 4 := by decide +kernel
def l_20ed7699 : Tx := tx "Clashed"
theorem len_l_20ed7699 : l_20ed7699.length = 7 := by decide +kernel
def l_f8be0e12 : Tx := tx "tops1/x"
theorem len_l_f8be0e12 : l_f8be0e12.length = 7 := by decide +kernel
def l_82bac741 : Tx := tx "no/such/path/here"
theorem len_l_82bac741 : l_82bac741.length = 17 := by decide +kernel
def l_7dbde935 : Tx := tx "a b"
theorem len_l_7dbde935 : l_7dbde935.length = 3 := by decide +kernel
def lX : Tx := tx "x"
theorem len_lX : lX.length = 1 := by decide +kernel
def l_0cd5a837 : Tx := tx "NoClash"
theorem len_l_0cd5a837 : l_0cd5a837.length = 7 := by decide +kernel
def lY : Tx := tx "y"
theorem len_lY : lY.length = 1 := by decide +kernel

/-- the word of a class of errors -/
def word : Nat → Tx
  | 1 => tx "NoPath"
  | 2 => tx "NoFile"
  | 3 => tx "InTheWay"
  | 4 => tx "NoClash"
  | 5 => tx "Clashed"
  | 6 => tx "NoVersion"
  | _ => tx "SameVersion"

/-! ## mirrors -/
/-! ### above -/
def m_above_v1 (ppath : Tx) : List Tx := (cuts 47 ppath)
def m_above (ppath : Tx) : List Tx := ((List.range (((m_above_v1 ppath).length : Int) - (1 : Int)).toNat).map (fun k0 : Nat => (joinL lSl (cutG (m_above_v1 ppath) none (some ((1 : Int) + (k0 : Int)))))))
/-! ### overlaps -/
def m_overlaps (pfiles : List (Tx × Tx)) : List (List Tx) := ((dkeys pfiles).flatMap (fun k0 => (((m_above k0)).filter (fun k1 : Tx => (dhas pfiles k1))).map (fun k1 : Tx => [k1, k0])))
/-! ### mark_of -/
def m_mark_of (pbefore : Option Tx) (pleft : Option Tx) (pright : Option Tx) : Option Tx := (if (decide (pleft = pright)) = true then (if (decide (pleft = pbefore)) = true then none else (some l_b79634d7)) else (if (decide (pright = pbefore)) = true then (some l_fe05bcdc) else (if (decide (pleft = pbefore)) = true then (some l_d0941e68) else (some l_4581fc00))))
/-! ### marks -/
def m_marks_v1  : List (List Tx) := []
def m_marks_v2 (pelder : List (Tx × Tx)) (y1 : Tx) (pone : List (Tx × Tx)) (pother : List (Tx × Tx)) : Option Tx := (m_mark_of (dget pelder y1) (dget pone y1) (dget pother y1))
def m_marks_v3 (s1 : List (List Tx)) (y1 : Tx) (pelder : List (Tx × Tx)) (pone : List (Tx × Tx)) (pother : List (Tx × Tx)) : List (List Tx) := s1 ++ [[y1, ((m_marks_v2 pelder y1 pone pother).getD [])]]
def m_marks_v4 (pelder : List (Tx × Tx)) (y1 : Tx) (pone : List (Tx × Tx)) (pother : List (Tx × Tx)) (s1 : List (List Tx)) : List (List Tx) := if ((m_marks_v2 pelder y1 pone pother).isSome) = true then (m_marks_v3 s1 y1 pelder pone pother) else s1
def m_marks_step1 (pelder : List (Tx × Tx)) (pone : List (Tx × Tx)) (pother : List (Tx × Tx)) : List (List Tx) → Tx → Stp (List (List Tx)) (Unit) := fun s1 y1 => (Stp.go (m_marks_v4 pelder y1 pone pother s1))
def m_marks_v5 (pelder : List (Tx × Tx)) (pone : List (Tx × Tx)) (pother : List (Tx × Tx)) : List (List Tx) := outL (runL (m_marks_step1 pelder pone pother) (srt (uniT (uniT (dkeys pelder) (dkeys pone)) (dkeys pother))) m_marks_v1)
def m_marks (pelder : List (Tx × Tx)) (pone : List (Tx × Tx)) (pother : List (Tx × Tx)) : List (List Tx) := (m_marks_v5 pelder pone pother)
/-! ### single_clashes -/
def m_single_clashes (pelder : List (Tx × Tx)) (pone : List (Tx × Tx)) (pother : List (Tx × Tx)) : List Tx := (((m_marks pelder pone pother).filter (fun k0 : List Tx => (decide ((k0.getD 1 []) = l_4581fc00)))).map (fun k0 : List Tx => (k0.getD 0 [])))
/-! ### settle -/
def m_settle (pfiles : List (Tx × Tx)) (ppath : Tx) (ptext : Option Tx) : List (Tx × Tx) := match ptext with
  | none => ddel pfiles ppath
  | some t => dput pfiles ppath t
/-! ### agreed -/
def m_agreed_v1 (pelder : List (Tx × Tx)) : List (Tx × Tx) := pelder
def m_agreed_v2 (s1 : List (Tx × Tx)) (y1 : List Tx) : List (Tx × Tx) := m_settle s1 (y1.getD 0 []) none
def m_agreed_v3 (s1 : List (Tx × Tx)) (y1 : List Tx) (pother : List (Tx × Tx)) : List (Tx × Tx) := m_settle s1 (y1.getD 0 []) (dget pother (y1.getD 0 []))
def m_agreed_v4 (s1 : List (Tx × Tx)) (y1 : List Tx) (pone : List (Tx × Tx)) : List (Tx × Tx) := m_settle s1 (y1.getD 0 []) (dget pone (y1.getD 0 []))
def m_agreed_v5 (y1 : List Tx) (s1 : List (Tx × Tx)) (pother : List (Tx × Tx)) (pone : List (Tx × Tx)) : List (Tx × Tx) := if (decide ((y1.getD 1 []) = l_d0941e68)) = true then (m_agreed_v3 s1 y1 pother) else (m_agreed_v4 s1 y1 pone)
def m_agreed_v6 (y1 : List Tx) (s1 : List (Tx × Tx)) (pother : List (Tx × Tx)) (pone : List (Tx × Tx)) : List (Tx × Tx) := if (decide ((y1.getD 1 []) = l_4581fc00)) = true then (m_agreed_v2 s1 y1) else (m_agreed_v5 y1 s1 pother pone)
def m_agreed_step1 (pone : List (Tx × Tx)) (pother : List (Tx × Tx)) : List (Tx × Tx) → List Tx → Stp (List (Tx × Tx)) (Unit) := fun s1 y1 => (Stp.go (m_agreed_v6 y1 s1 pother pone))
def m_agreed_v7 (pone : List (Tx × Tx)) (pother : List (Tx × Tx)) (pelder : List (Tx × Tx)) : List (Tx × Tx) := outL (runL (m_agreed_step1 pone pother) (m_marks pelder pone pother) (m_agreed_v1 pelder))
def m_agreed (pelder : List (Tx × Tx)) (pone : List (Tx × Tx)) (pother : List (Tx × Tx)) : List (Tx × Tx) := (m_agreed_v7 pone pother pelder)
/-! ### clashes -/
def m_clashes_v1 (pelder : List (Tx × Tx)) (pone : List (Tx × Tx)) (pother : List (Tx × Tx)) : List (List Tx) := ((m_single_clashes pelder pone pother).map (fun k0 : Tx => [k0]))
def m_clashes (pelder : List (Tx × Tx)) (pone : List (Tx × Tx)) (pother : List (Tx × Tx)) : List (List Tx) := (srtU ((m_clashes_v1 pelder pone pother) ++ (m_overlaps (m_agreed pelder pone pother))))
/-! ### joined -/
def m_joined_v1 (pelder : List (Tx × Tx)) (pone : List (Tx × Tx)) (pother : List (Tx × Tx)) : List Tx := ((m_clashes pelder pone pother)).flatten
def m_joined_step1 (pelder : List (Tx × Tx)) (pone : List (Tx × Tx)) (pother : List (Tx × Tx)) : Unit → Tx → Stp (Unit) ((Res (List (Tx × Tx)))) := fun s1 y1 => (if (!decide (y1 ∈ (m_joined_v1 pelder pone pother))) = true then (Stp.ret (.exc 4)) else (Stp.go ()))
def m_joined_step2 (ppicks : List (Tx × Option Tx)) : Unit → Tx → Stp (Unit) ((Res (List (Tx × Tx)))) := fun s2 y2 => (if (!dhas ppicks y2) = true then (Stp.ret (.exc 5)) else (Stp.go ()))
def m_joined_v2 (pelder : List (Tx × Tx)) (pone : List (Tx × Tx)) (pother : List (Tx × Tx)) : List (Tx × Tx) := (m_agreed pelder pone pother)
def m_joined_v3 (s3 : List (Tx × Tx)) (y3 : (Tx × Option Tx)) : List (Tx × Tx) := m_settle s3 y3.1 y3.2
def m_joined_step3  : List (Tx × Tx) → (Tx × Option Tx) → Stp (List (Tx × Tx)) (Unit) := fun s3 y3 => (Stp.go (m_joined_v3 s3 y3))
def m_joined_v4 (ppicks : List (Tx × Option Tx)) (pelder : List (Tx × Tx)) (pone : List (Tx × Tx)) (pother : List (Tx × Tx)) : List (Tx × Tx) := outL (runL m_joined_step3 ppicks (m_joined_v2 pelder pone pother))
def m_joined (pelder : List (Tx × Tx)) (pone : List (Tx × Tx)) (pother : List (Tx × Tx)) (ppicks : List (Tx × Option Tx)) : Res (List (Tx × Tx)) := (aftL (runL (m_joined_step1 pelder pone pother) (dkeys ppicks) ()) (fun s1 => (aftL (runL (m_joined_step2 ppicks) (m_single_clashes pelder pone pother) ()) (fun s2 => (if (!decide ((m_overlaps (m_joined_v4 ppicks pelder pone pother)) = [])) = true then (.exc 5) else (.ok (m_joined_v4 ppicks pelder pone pother)))))))
/-! ### _law_cell_at -/
def m_law_cell_at (p_script : List Int) (p_k : Int) : Int := (if (decide (p_k < (p_script.length : Int))) = true then (p_script.getD p_k.toNat 0) else (0 : Int))
/-! ### _law_sign_by -/
def m_law_sign_by (p_k : Int) : Tx := [lSigns.getD (p_k % (65 : Int)).toNat 0]
/-! ### _law_name_by -/
def m_law_name_by_v1  : Int := (1 : Int)
def m_law_name_by_v2 (p_shift : Int) : Int := if (decide (((p_shift / (65 : Int)) % (3 : Int)) = (1 : Int))) = true then ((1 : Int) + ((p_shift / (195 : Int)) % (12 : Int))) else m_law_name_by_v1
def m_law_name_by_v3 (p_shift : Int) : Int := ((p_shift / (5 : Int)) % (4 : Int))
def m_law_name_by_v4 (p_shift : Int) (p_k : Int) : List Tx := ((List.range (12 : Int).toNat).map (fun k0 : Nat => (m_law_sign_by (((p_shift / (195 : Int)) + ((7 : Int) * (k0 : Int))) + (p_k * (if (decide ((m_law_name_by_v3 p_shift) = (0 : Int))) = true then (1 : Int) else 0))))))
def m_law_name_by_v5 (p_shift : Int) : Int := (((p_shift / (20 : Int)) % (m_law_name_by_v2 p_shift)) * (if (decide ((m_law_name_by_v3 p_shift) = (1 : Int))) = true then (1 : Int) else 0))
def m_law_name_by_v6 (p_shift : Int) (p_k : Int) : Tx := (m_law_sign_by (p_shift + (p_k * ([(1 : Int), (26 : Int)].getD (if (decide ((m_law_name_by_v3 p_shift) = (3 : Int))) = true then (1 : Int) else 0).toNat 0))))
def m_law_name_by_v7 (p_shift : Int) (p_k : Int) : Tx := (((joinL lNil (cutG (m_law_name_by_v4 p_shift p_k) none (some (m_law_name_by_v5 p_shift)))) ++ (m_law_name_by_v6 p_shift p_k)) ++ (joinL lNil (cutG (m_law_name_by_v4 p_shift p_k) (some (m_law_name_by_v5 p_shift)) (some ((m_law_name_by_v2 p_shift) - (1 : Int))))))
def m_law_name_by_v8 (p_shift : Int) (p_k : Int) : Tx := if (decide ((m_law_name_by_v3 p_shift) = (2 : Int))) = true then (joinL lNil (cutG (m_law_name_by_v4 p_shift p_k) none (some ((1 : Int) + (((p_shift / (65 : Int)) + p_k) % (12 : Int)))))) else (m_law_name_by_v7 p_shift p_k)
def m_law_name_by (p_k : Int) (p_shift : Int) : Tx := (if ((decide ((m_law_name_by_v8 p_shift p_k) = lDot)) || (decide ((m_law_name_by_v8 p_shift p_k) = lDots))) = true then l0x else (m_law_name_by_v8 p_shift p_k))
/-! ### _law_path_by -/
def m_law_path_by_v1 (p_cell : Int) (p_shift : Int) : List Tx := ((List.range ([(1 : Int), (1 : Int), (2 : Int), (2 : Int), (3 : Int)].getD (p_cell % (5 : Int)).toNat 0).toNat).map (fun k0 : Nat => (m_law_name_by (((p_cell / (5 : Int)) / ([(1 : Int), (3 : Int), (9 : Int)].getD (k0 : Int).toNat 0)) % (3 : Int)) p_shift)))
def m_law_path_by_v2 (p_shift : Int) : List Tx := ((List.range ((1 : Int) + ((p_shift / (7 : Int)) % (5 : Int))).toNat).map (fun k0 : Nat => (m_law_name_by ((3 : Int) + (k0 : Int)) p_shift)))
def m_law_path_by (p_cell : Int) (p_shift : Int) : Tx := (if (!decide ((p_shift % (7 : Int)) = (3 : Int))) = true then (joinL lSl (m_law_path_by_v1 p_cell p_shift)) else (if (decide ((p_cell % (13 : Int)) = (6 : Int))) = true then (joinL lSl (cutG ((m_law_path_by_v2 p_shift) ++ (m_law_path_by_v1 p_cell p_shift)) none (some ((1 : Int) + ((p_cell / (13 : Int)) % (((m_law_path_by_v2 p_shift).length : Int) + ((m_law_path_by_v1 p_cell p_shift).length : Int))))))) else (joinL lSl ((m_law_path_by_v2 p_shift) ++ (m_law_path_by_v1 p_cell p_shift)))))
/-! ### _law_line_by -/
def m_law_line_by_v1  : Tx := lAny1
def m_law_line_by_v2  : Tx := (m_law_line_by_v1 ++ lAny2)
def m_law_line_by_v3 (p_shift : Int) : List Int := [(0 : Int), (1 : Int), (2 : Int), ((3 : Int) + ([(p_shift % (60 : Int)), ((p_shift / (240 : Int)) % (600 : Int))].getD (if (decide (((p_shift / (60 : Int)) % (4 : Int)) = (3 : Int))) = true then (1 : Int) else 0).toNat 0))]
def m_law_line_by (p_k : Int) (p_shift : Int) : Tx := (joinL lNil ((List.range ((m_law_line_by_v3 p_shift).getD (p_k % (4 : Int)).toNat 0).toNat).map (fun k0 : Nat => [m_law_line_by_v2.getD (((p_shift + ((5 : Int) * p_k)) + (k0 : Int)) % (96 : Int)).toNat 0])))
/-! ### _law_is_free -/
def m_law_is_free_step1 (p_path : Tx) : Unit → Tx → Stp (Unit) ((Bool)) := fun s1 y1 => (if (((p_path ++ lSl).isPrefixOf y1) || ((y1 ++ lSl).isPrefixOf p_path)) = true then (Stp.ret false) else (Stp.go ()))
def m_law_is_free (p_tree : List (Tx × Tx)) (p_path : Tx) : Bool := (aftL (runL (m_law_is_free_step1 p_path) (dkeys p_tree) ()) (fun s1 => true))
/-! ### _law_grown -/
def m_law_grown_v1 (p_cell : Int) (p_shift : Int) : Tx := (m_law_path_by p_cell p_shift)
def m_law_grown_v2 (p_cell : Int) : Bool := (decide ((p_cell % (11 : Int)) = (4 : Int)))
def m_law_grown_v3 (p_tree : List (Tx × Tx)) (p_cell : Int) : Tx := ((dkeys p_tree).getD ((p_cell / (3 : Int)) % (p_tree.length : Int)).toNat [])
def m_law_grown_v4 (p_cell : Int) (p_shift : Int) : Tx := if (m_law_grown_v2 p_cell) = true then ((lTops ++ (dec ((p_cell / (11 : Int)) % ([(40 : Int), (170 : Int)].getD ((p_cell / (440 : Int)) % (2 : Int)).toNat 0)))) ++ lSlx) else (m_law_grown_v1 p_cell p_shift)
def m_law_grown_v5 (p_cell : Int) (p_tree : List (Tx × Tx)) (p_shift : Int) : Tx := if ((decide ((p_cell % (3 : Int)) = (2 : Int))) && (decide ((0 : Int) < (p_tree.length : Int)) && decide ((p_tree.length : Int) < (30 : Int)))) = true then (m_law_grown_v3 p_tree p_cell) else (m_law_grown_v4 p_cell p_shift)
def m_law_grown_v6 (p_tree : List (Tx × Tx)) : List (Tx × Tx) := p_tree
def m_law_grown_v7 (p_tree : List (Tx × Tx)) (p_cell : Int) (p_shift : Int) : List (Tx × Tx) := dput (m_law_grown_v6 p_tree) (m_law_grown_v5 p_cell p_tree p_shift) (m_law_line_by (p_cell / (405 : Int)) p_shift)
def m_law_grown_v8 (p_cell : Int) (p_tree : List (Tx × Tx)) (p_shift : Int) : List (Tx × Tx) := if ((!(m_law_grown_v2 p_cell)) && (m_law_is_free (m_law_grown_v6 p_tree) (m_law_grown_v5 p_cell p_tree p_shift))) = true then (m_law_grown_v7 p_tree p_cell p_shift) else (m_law_grown_v6 p_tree)
def m_law_grown_v9 (p_tree : List (Tx × Tx)) (p_cell : Int) (p_shift : Int) : List (Tx × Tx) := ddel (m_law_grown_v6 p_tree) (m_law_grown_v5 p_cell p_tree p_shift)
def m_law_grown_v10 (p_tree : List (Tx × Tx)) (p_cell : Int) (p_shift : Int) : List (Tx × Tx) := dput (m_law_grown_v6 p_tree) (m_law_grown_v5 p_cell p_tree p_shift) (m_law_line_by (p_cell / (405 : Int)) p_shift)
def m_law_grown_v11 (p_cell : Int) (p_tree : List (Tx × Tx)) (p_shift : Int) : List (Tx × Tx) := if (decide (((p_cell / (135 : Int)) % (3 : Int)) = (0 : Int))) = true then (m_law_grown_v9 p_tree p_cell p_shift) else (m_law_grown_v10 p_tree p_cell p_shift)
def m_law_grown_v12 (p_cell : Int) (p_tree : List (Tx × Tx)) (p_shift : Int) : List (Tx × Tx) := if (!dhas (m_law_grown_v6 p_tree) (m_law_grown_v5 p_cell p_tree p_shift)) = true then (m_law_grown_v8 p_cell p_tree p_shift) else (m_law_grown_v11 p_cell p_tree p_shift)
def m_law_grown (p_tree : List (Tx × Tx)) (p_cell : Int) (p_shift : Int) : List (Tx × Tx) := (m_law_grown_v12 p_cell p_tree p_shift)
/-! ### _law_trees -/
def m_law_trees_v1 (p_script : List Int) : Int := (m_law_cell_at p_script (0 : Int))
def m_law_trees_v2 (p_script : List Int) : Int := (m_law_cell_at p_script (1 : Int))
def m_law_trees_v3  : List (Tx × Tx) := []
def m_law_trees_v4 (s1 : List (Tx × Tx)) (p_script : List Int) (y1 : Nat) : List (Tx × Tx) := (m_law_grown s1 (m_law_cell_at p_script ((4 : Int) + (y1 : Int))) (m_law_trees_v1 p_script))
def m_law_trees_step1 (p_script : List Int) : List (Tx × Tx) → Nat → Stp (List (Tx × Tx)) (Unit) := fun s1 y1 => (Stp.go (m_law_trees_v4 s1 p_script y1))
def m_law_trees_v5 (p_script : List Int) : List (Tx × Tx) := outL (runL (m_law_trees_step1 p_script) (List.range ([(0 : Int), ((m_law_trees_v2 p_script) % (7 : Int))].getD (((m_law_trees_v2 p_script) / (56 : Int)) % (2 : Int)).toNat 0).toNat) m_law_trees_v3)
def m_law_trees_v6 (s2 : List (Tx × Tx)) (y2 : Nat) (p_script : List Int) : List (Tx × Tx) := dput s2 ((lTops ++ (dec (y2 : Int))) ++ lSlx) (m_law_line_by ((y2 : Int) % (3 : Int)) (m_law_trees_v1 p_script))
def m_law_trees_v7 (y2 : Nat) (s2 : List (Tx × Tx)) (p_script : List Int) : List (Tx × Tx) := if (!dhas s2 (lTops ++ (dec (y2 : Int)))) = true then (m_law_trees_v6 s2 y2 p_script) else s2
def m_law_trees_step2 (p_script : List Int) : List (Tx × Tx) → Nat → Stp (List (Tx × Tx)) (Unit) := fun s2 y2 => (Stp.go (m_law_trees_v7 y2 s2 p_script))
def m_law_trees_v8 (p_script : List Int) : List (Tx × Tx) := outL (runL (m_law_trees_step2 p_script) (List.range ([(0 : Int), (40 : Int), (0 : Int), (0 : Int), (0 : Int), (0 : Int), (170 : Int), (0 : Int), (0 : Int), (40 : Int), (0 : Int), (0 : Int), (0 : Int), (0 : Int), (0 : Int), (0 : Int)].getD (((m_law_trees_v2 p_script) / (7 : Int)) % (16 : Int)).toNat 0).toNat) (m_law_trees_v5 p_script))
def m_law_trees_v9 (p_script : List Int) : List (Tx × Tx) := (m_law_trees_v8 p_script)
def m_law_trees_v10 (s3 : List (Tx × Tx)) (p_script : List Int) (y3 : Nat) : List (Tx × Tx) := (m_law_grown s3 (m_law_cell_at p_script ((10 : Int) + (y3 : Int))) (m_law_trees_v1 p_script))
def m_law_trees_step3 (p_script : List Int) : List (Tx × Tx) → Nat → Stp (List (Tx × Tx)) (Unit) := fun s3 y3 => (Stp.go (m_law_trees_v10 s3 p_script y3))
def m_law_trees_v11 (p_script : List Int) : List (Tx × Tx) := outL (runL (m_law_trees_step3 p_script) (List.range ((m_law_cell_at p_script (2 : Int)) % (9 : Int)).toNat) (m_law_trees_v9 p_script))
def m_law_trees_v12 (p_script : List Int) : List (Tx × Tx) := (m_law_trees_v8 p_script)
def m_law_trees_v13 (s4 : List (Tx × Tx)) (p_script : List Int) (y4 : Nat) : List (Tx × Tx) := (m_law_grown s4 (m_law_cell_at p_script ((18 : Int) + (y4 : Int))) (m_law_trees_v1 p_script))
def m_law_trees_step4 (p_script : List Int) : List (Tx × Tx) → Nat → Stp (List (Tx × Tx)) (Unit) := fun s4 y4 => (Stp.go (m_law_trees_v13 s4 p_script y4))
def m_law_trees_v14 (p_script : List Int) : List (Tx × Tx) := outL (runL (m_law_trees_step4 p_script) (List.range ((m_law_cell_at p_script (3 : Int)) % (9 : Int)).toNat) (m_law_trees_v12 p_script))
def m_law_trees_v15 (p_script : List Int) : Int := (((m_law_cell_at p_script (2 : Int)) / (9 : Int)) % (150 : Int))
def m_law_trees_v16 (y5 : Nat) (p_script : List Int) : Tx := ((lTops ++ (dec ((m_law_trees_v15 p_script) + (y5 : Int)))) ++ lSlx)
def m_law_trees_v17 (s5 : (List (Tx × Tx) × List (Tx × Tx))) (y5 : Nat) (p_script : List Int) : List (Tx × Tx) := dput s5.1 (m_law_trees_v16 y5 p_script) l_12c0f1fb
def m_law_trees_v18 (s5 : (List (Tx × Tx) × List (Tx × Tx))) (y5 : Nat) (p_script : List Int) : List (Tx × Tx) := dput s5.2 (m_law_trees_v16 y5 p_script) (l_d27a1f11 ++ (dec (((m_law_trees_v15 p_script) + (y5 : Int)) % (2 : Int))))
def m_law_trees_v19 (y5 : Nat) (p_script : List Int) (s5 : (List (Tx × Tx) × List (Tx × Tx))) : List (Tx × Tx) := if ((dhas s5.1 (m_law_trees_v16 y5 p_script)) && (dhas s5.2 (m_law_trees_v16 y5 p_script))) = true then (m_law_trees_v17 s5 y5 p_script) else s5.1
def m_law_trees_v20 (y5 : Nat) (p_script : List Int) (s5 : (List (Tx × Tx) × List (Tx × Tx))) : List (Tx × Tx) := if ((dhas s5.1 (m_law_trees_v16 y5 p_script)) && (dhas s5.2 (m_law_trees_v16 y5 p_script))) = true then (m_law_trees_v18 s5 y5 p_script) else s5.2
def m_law_trees_step5 (p_script : List Int) : (List (Tx × Tx) × List (Tx × Tx)) → Nat → Stp (List (Tx × Tx) × List (Tx × Tx)) (Unit) := fun s5 y5 => (Stp.go ((m_law_trees_v19 y5 p_script s5), (m_law_trees_v20 y5 p_script s5)))
def m_law_trees_v21 (p_script : List Int) : List (Tx × Tx) × List (Tx × Tx) := outL (runL (m_law_trees_step5 p_script) (List.range (((m_law_trees_v15 p_script) + ((40 : Int) * (((m_law_trees_v2 p_script) / (112 : Int)) % (2 : Int)))) - (m_law_trees_v15 p_script)).toNat) ((m_law_trees_v11 p_script), (m_law_trees_v14 p_script)))
def m_law_trees (p_script : List Int) : (List (Tx × Tx)) × (List (Tx × Tx)) × (List (Tx × Tx)) := ((m_law_trees_v8 p_script), (m_law_trees_v21 p_script).1, (m_law_trees_v21 p_script).2)
/-! ### _law_at -/
def m_law_at (p_was : Option Tx) (p_left : Option Tx) (p_right : Option Tx) : Option Tx := (if ((decide (p_left = p_right)) || (decide (p_right = p_was))) = true then p_left else p_right)
/-! ### _law_splits -/
def m_law_splits (p_was : Option Tx) (p_left : Option Tx) (p_right : Option Tx) : Bool := ((!decide (p_left = p_right)) && ((!decide (p_left = p_was)) && (!decide (p_right = p_was))))
/-! ### _law_uppers -/
def m_law_uppers (p_path : Tx) : List Tx := (((List.range (p_path.length : Int).toNat).filter (fun k0 : Nat => (decide ([p_path.getD (k0 : Int).toNat 0] = lSl)))).map (fun k0 : Nat => (cutG p_path none (some (k0 : Int)))))
/-! ### _law_places -/
def m_law_places_v1  : List (Tx × Bool) := []
def m_law_places_v2  : List (Tx × Bool) := []
def m_law_places_v3 (s1 : (List (Tx × Bool) × List (Tx × Bool))) (y1 : Tx) : List (Tx × Bool) := dput s1.2 y1 true
def m_law_places_v4 (s1 : (List (Tx × Bool) × List (Tx × Bool))) (y1 : Tx) : List (Tx × Bool) := dput s1.1 y1 true
def m_law_places_v5 (p_elder : List (Tx × Tx)) (y1 : Tx) (p_one : List (Tx × Tx)) (p_other : List (Tx × Tx)) (s1 : (List (Tx × Bool) × List (Tx × Bool))) : List (Tx × Bool) := if ((m_law_at (dget p_elder y1) (dget p_one y1) (dget p_other y1)).isSome) = true then (m_law_places_v4 s1 y1) else s1.1
def m_law_places_v6 (p_elder : List (Tx × Tx)) (y1 : Tx) (p_one : List (Tx × Tx)) (p_other : List (Tx × Tx)) (s1 : (List (Tx × Bool) × List (Tx × Bool))) : List (Tx × Bool) := if (m_law_splits (dget p_elder y1) (dget p_one y1) (dget p_other y1)) = true then s1.1 else (m_law_places_v5 p_elder y1 p_one p_other s1)
def m_law_places_v7 (p_elder : List (Tx × Tx)) (y1 : Tx) (p_one : List (Tx × Tx)) (p_other : List (Tx × Tx)) (s1 : (List (Tx × Bool) × List (Tx × Bool))) : List (Tx × Bool) := if (m_law_splits (dget p_elder y1) (dget p_one y1) (dget p_other y1)) = true then (m_law_places_v3 s1 y1) else s1.2
def m_law_places_step1 (p_elder : List (Tx × Tx)) (p_one : List (Tx × Tx)) (p_other : List (Tx × Tx)) : (List (Tx × Bool) × List (Tx × Bool)) → Tx → Stp (List (Tx × Bool) × List (Tx × Bool)) (Unit) := fun s1 y1 => (Stp.go ((m_law_places_v6 p_elder y1 p_one p_other s1), (m_law_places_v7 p_elder y1 p_one p_other s1)))
def m_law_places_v8 (p_elder : List (Tx × Tx)) (p_one : List (Tx × Tx)) (p_other : List (Tx × Tx)) : List (Tx × Bool) × List (Tx × Bool) := outL (runL (m_law_places_step1 p_elder p_one p_other) (srt (uniT [] (((dkeys p_elder) ++ (dkeys p_one)) ++ (dkeys p_other)))) (m_law_places_v1, m_law_places_v2))
def m_law_places_v9 (s3 : List (Tx × Bool)) (y3 : Tx) : List (Tx × Bool) := dput s3 y3 true
def m_law_places_v10 (s3 : List (Tx × Bool)) (y3 : Tx) (y2 : Tx) : List (Tx × Bool) := dput (m_law_places_v9 s3 y3) y2 true
def m_law_places_v11 (y3 : Tx) (p_elder : List (Tx × Tx)) (p_one : List (Tx × Tx)) (p_other : List (Tx × Tx)) (s3 : List (Tx × Bool)) (y2 : Tx) : List (Tx × Bool) := if (dhas (m_law_places_v8 p_elder p_one p_other).1 y3) = true then (m_law_places_v10 s3 y3 y2) else s3
def m_law_places_step3 (p_elder : List (Tx × Tx)) (p_one : List (Tx × Tx)) (p_other : List (Tx × Tx)) (y2 : Tx) : List (Tx × Bool) → Tx → Stp (List (Tx × Bool)) (Unit) := fun s3 y3 => (Stp.go (m_law_places_v11 y3 p_elder p_one p_other s3 y2))
def m_law_places_v12 (p_elder : List (Tx × Tx)) (p_one : List (Tx × Tx)) (p_other : List (Tx × Tx)) (y2 : Tx) (s2 : List (Tx × Bool)) : List (Tx × Bool) := outL (runL (m_law_places_step3 p_elder p_one p_other y2) (m_law_uppers y2) s2)
def m_law_places_step2 (p_elder : List (Tx × Tx)) (p_one : List (Tx × Tx)) (p_other : List (Tx × Tx)) : List (Tx × Bool) → Tx → Stp (List (Tx × Bool)) (Unit) := fun s2 y2 => (Stp.go (m_law_places_v12 p_elder p_one p_other y2 s2))
def m_law_places_v13 (p_elder : List (Tx × Tx)) (p_one : List (Tx × Tx)) (p_other : List (Tx × Tx)) : List (Tx × Bool) := outL (runL (m_law_places_step2 p_elder p_one p_other) (dkeys (m_law_places_v8 p_elder p_one p_other).1) (m_law_places_v8 p_elder p_one p_other).2)
def m_law_places (p_elder : List (Tx × Tx)) (p_one : List (Tx × Tx)) (p_other : List (Tx × Tx)) : List Tx := (srt (dkeys (m_law_places_v13 p_elder p_one p_other)))
/-! ### _law_picks -/
def m_law_picks_v1  : List (Tx × Option Tx) := []
def m_law_picks_v2 (p_script : List Int) (y1 : Nat) : Int := (((((m_law_cell_at p_script (26 : Int)) + ((5 : Int) * (y1 : Int))) * (48271 : Int)) % (65537 : Int)) % (6 : Int))
def m_law_picks_v3 (p_script : List Int) (y1 : Nat) : Int := if (decide (((m_law_cell_at p_script (26 : Int)) % (3 : Int)) = (2 : Int))) = true then ((1 : Int) + ((m_law_picks_v2 p_script y1) % (5 : Int))) else (m_law_picks_v2 p_script y1)
def m_law_picks_v4 (s1 : List (Tx × Option Tx)) (p_places_here : List Tx) (y1 : Nat) (p_script : List Int) : List (Tx × Option Tx) := dput s1 (p_places_here.getD (y1 : Int).toNat []) (some (m_law_line_by ((1 : Int) + (y1 : Int)) (m_law_cell_at p_script (27 : Int))))
def m_law_picks_v5 (s1 : List (Tx × Option Tx)) (p_places_here : List Tx) (y1 : Nat) : List (Tx × Option Tx) := dput s1 (p_places_here.getD (y1 : Int).toNat []) (some lNil)
def m_law_picks_v6 (s1 : List (Tx × Option Tx)) (p_places_here : List Tx) (y1 : Nat) : List (Tx × Option Tx) := dput s1 (p_places_here.getD (y1 : Int).toNat []) none
def m_law_picks_v7 (s1 : List (Tx × Option Tx)) (p_places_here : List Tx) (y1 : Nat) (p_trees_here0 : List (Tx × Tx)) (p_trees_here1 : List (Tx × Tx)) (p_trees_here2 : List (Tx × Tx)) (p_script : List Int) : List (Tx × Option Tx) := dput s1 (p_places_here.getD (y1 : Int).toNat []) (dget ([p_trees_here0, p_trees_here1, p_trees_here2].getD ((m_law_picks_v3 p_script y1) - (3 : Int)).toNat []) (p_places_here.getD (y1 : Int).toNat []))
def m_law_picks_v8 (p_script : List Int) (y1 : Nat) (s1 : List (Tx × Option Tx)) (p_places_here : List Tx) (p_trees_here0 : List (Tx × Tx)) (p_trees_here1 : List (Tx × Tx)) (p_trees_here2 : List (Tx × Tx)) : List (Tx × Option Tx) := if (decide ((m_law_picks_v3 p_script y1) > (3 : Int))) = true then (m_law_picks_v7 s1 p_places_here y1 p_trees_here0 p_trees_here1 p_trees_here2 p_script) else s1
def m_law_picks_v9 (p_script : List Int) (y1 : Nat) (s1 : List (Tx × Option Tx)) (p_places_here : List Tx) (p_trees_here0 : List (Tx × Tx)) (p_trees_here1 : List (Tx × Tx)) (p_trees_here2 : List (Tx × Tx)) : List (Tx × Option Tx) := if (decide ((m_law_picks_v3 p_script y1) = (3 : Int))) = true then (m_law_picks_v6 s1 p_places_here y1) else (m_law_picks_v8 p_script y1 s1 p_places_here p_trees_here0 p_trees_here1 p_trees_here2)
def m_law_picks_v10 (p_script : List Int) (y1 : Nat) (s1 : List (Tx × Option Tx)) (p_places_here : List Tx) (p_trees_here0 : List (Tx × Tx)) (p_trees_here1 : List (Tx × Tx)) (p_trees_here2 : List (Tx × Tx)) : List (Tx × Option Tx) := if (decide ((m_law_picks_v3 p_script y1) = (2 : Int))) = true then (m_law_picks_v5 s1 p_places_here y1) else (m_law_picks_v9 p_script y1 s1 p_places_here p_trees_here0 p_trees_here1 p_trees_here2)
def m_law_picks_v11 (p_script : List Int) (y1 : Nat) (s1 : List (Tx × Option Tx)) (p_places_here : List Tx) (p_trees_here0 : List (Tx × Tx)) (p_trees_here1 : List (Tx × Tx)) (p_trees_here2 : List (Tx × Tx)) : List (Tx × Option Tx) := if (decide ((m_law_picks_v3 p_script y1) = (1 : Int))) = true then (m_law_picks_v4 s1 p_places_here y1 p_script) else (m_law_picks_v10 p_script y1 s1 p_places_here p_trees_here0 p_trees_here1 p_trees_here2)
def m_law_picks_step1 (p_places_here : List Tx) (p_script : List Int) (p_trees_here0 : List (Tx × Tx)) (p_trees_here1 : List (Tx × Tx)) (p_trees_here2 : List (Tx × Tx)) : List (Tx × Option Tx) → Nat → Stp (List (Tx × Option Tx)) (Unit) := fun s1 y1 => (Stp.go (m_law_picks_v11 p_script y1 s1 p_places_here p_trees_here0 p_trees_here1 p_trees_here2))
def m_law_picks_v12 (p_places_here : List Tx) (p_script : List Int) (p_trees_here0 : List (Tx × Tx)) (p_trees_here1 : List (Tx × Tx)) (p_trees_here2 : List (Tx × Tx)) : List (Tx × Option Tx) := outL (runL (m_law_picks_step1 p_places_here p_script p_trees_here0 p_trees_here1 p_trees_here2) (List.range (p_places_here.length : Int).toNat) m_law_picks_v1)
def m_law_picks (p_places_here : List Tx) (p_script : List Int) (p_trees_here0 p_trees_here1 p_trees_here2 : List (Tx × Tx)) : List (Tx × Option Tx) := (m_law_picks_v12 p_places_here p_script p_trees_here0 p_trees_here1 p_trees_here2)
/-! ### _law_told -/
def m_law_told (p_elder : List (Tx × Tx)) (p_one : List (Tx × Tx)) (p_other : List (Tx × Tx)) (p_picks_here : List (Tx × Option Tx)) : Res (List (Tx × Tx)) := m_joined p_elder p_one p_other p_picks_here
/-! ### _law_due -/
def m_law_due_v1  : List (Tx × Tx) := []
def m_law_due_v2 (p_elder : List (Tx × Tx)) (y1 : Tx) (p_one : List (Tx × Tx)) (p_other : List (Tx × Tx)) : Option Tx := (m_law_at (dget p_elder y1) (dget p_one y1) (dget p_other y1))
def m_law_due_v3 (p_picks_here : List (Tx × Option Tx)) (y1 : Tx) : Option Tx := ((dget p_picks_here y1).getD none)
def m_law_due_v4 (s1 : List (Tx × Tx)) (y1 : Tx) (p_picks_here : List (Tx × Option Tx)) : List (Tx × Tx) := dput s1 y1 ((m_law_due_v3 p_picks_here y1).getD [])
def m_law_due_v5 (p_picks_here : List (Tx × Option Tx)) (y1 : Tx) (s1 : List (Tx × Tx)) : List (Tx × Tx) := if ((m_law_due_v3 p_picks_here y1).isSome) = true then (m_law_due_v4 s1 y1 p_picks_here) else s1
def m_law_due_v6 (s1 : List (Tx × Tx)) (y1 : Tx) (p_elder : List (Tx × Tx)) (p_one : List (Tx × Tx)) (p_other : List (Tx × Tx)) : List (Tx × Tx) := dput s1 y1 ((m_law_due_v2 p_elder y1 p_one p_other).getD [])
def m_law_due_v7 (p_elder : List (Tx × Tx)) (y1 : Tx) (p_one : List (Tx × Tx)) (p_other : List (Tx × Tx)) (s1 : List (Tx × Tx)) : List (Tx × Tx) := if ((m_law_due_v2 p_elder y1 p_one p_other).isSome) = true then (m_law_due_v6 s1 y1 p_elder p_one p_other) else s1
def m_law_due_step1 (p_elder : List (Tx × Tx)) (p_one : List (Tx × Tx)) (p_other : List (Tx × Tx)) (p_picks_here : List (Tx × Option Tx)) : List (Tx × Tx) → Tx → Stp (List (Tx × Tx)) ((Option (List (Tx × Tx)))) := fun s1 y1 => (if (dhas p_picks_here y1) = true then (Stp.go (m_law_due_v5 p_picks_here y1 s1)) else (if (m_law_splits (dget p_elder y1) (dget p_one y1) (dget p_other y1)) = true then (Stp.ret none) else (Stp.go (m_law_due_v7 p_elder y1 p_one p_other s1))))
def m_law_due_step2 (s1 : List (Tx × Tx)) : Unit → Tx → Stp (Unit) ((Option (List (Tx × Tx)))) := fun s2 y2 => (if (decide (((((m_law_uppers y2).filter (fun k0 : Tx => (dhas s1 k0))).map (fun k0 : Tx => k0)).length : Int) > (0 : Int))) = true then (Stp.ret none) else (Stp.go ()))
def m_law_due (p_elder : List (Tx × Tx)) (p_one : List (Tx × Tx)) (p_other : List (Tx × Tx)) (p_picks_here : List (Tx × Option Tx)) : Option (List (Tx × Tx)) := (aftL (runL (m_law_due_step1 p_elder p_one p_other p_picks_here) (srt (uniT [] (((dkeys p_elder) ++ (dkeys p_one)) ++ (dkeys p_other)))) m_law_due_v1) (fun s1 => (aftL (runL (m_law_due_step2 s1) (dkeys s1) ()) (fun s2 => (some s1)))))
/-! ### law -/
def m_law_v1 (p_script : List Int) : List (Tx × Tx) := (m_law_trees p_script).1
def m_law_v2 (p_script : List Int) : List (Tx × Tx) := (m_law_trees p_script).2.1
def m_law_v3 (p_script : List Int) : List (Tx × Tx) := (m_law_trees p_script).2.2
def m_law_v4 (p_script : List Int) : List Tx := (m_law_places (m_law_v1 p_script) (m_law_v2 p_script) (m_law_v3 p_script))
def m_law_v5 (p_script : List Int) : List (Tx × Option Tx) := (m_law_picks (m_law_v4 p_script) p_script (m_law_v1 p_script) (m_law_v2 p_script) (m_law_v3 p_script))
def m_law_v6  : Tx := lMade
def m_law_v7  : Tx := if false = true then l_20ed7699 else m_law_v6
def m_law_v8 (p_script : List Int) : Tx := ([l_f8be0e12, l_82bac741, l_7dbde935].getD (((m_law_cell_at p_script (28 : Int)) / (6 : Int)) % (3 : Int)).toNat [])
def m_law_v9 (p_script : List Int) : List (Tx × Option Tx) := dput (m_law_v5 p_script) (m_law_v8 p_script) ([(some lX), none].getD (((m_law_cell_at p_script (28 : Int)) / (18 : Int)) % (2 : Int)).toNat none)
def m_law_v10  : Tx := l_0cd5a837
def m_law_v11 (p_script : List Int) : List (Tx × Option Tx) := if (!decide ((m_law_v8 p_script) ∈ (m_law_v4 p_script))) = true then (m_law_v9 p_script) else (m_law_v5 p_script)
def m_law_v12 (p_script : List Int) : Tx := if (!decide ((m_law_v8 p_script) ∈ (m_law_v4 p_script))) = true then m_law_v10 else m_law_v7
def m_law_v13 (p_script : List Int) : List (Tx × Option Tx) := if (decide (((m_law_cell_at p_script (28 : Int)) % (6 : Int)) = (1 : Int))) = true then (m_law_v11 p_script) else (m_law_v5 p_script)
def m_law_v14 (p_script : List Int) : Tx := if (decide (((m_law_cell_at p_script (28 : Int)) % (6 : Int)) = (1 : Int))) = true then (m_law_v12 p_script) else m_law_v7
def m_law_v15 (p_script : List Int) : List (Tx × Tx) := (m_law_v1 p_script)
def m_law_v16 (p_script : List Int) : List (Tx × Tx) := (m_law_v2 p_script)
def m_law_v17 (p_script : List Int) : List (Tx × Tx) := (m_law_v3 p_script)
def m_law_v18 (p_script : List Int) : List (Tx × Option Tx) := (m_law_v13 p_script)
def m_law_v19 (lT14 : List (Tx × Tx)) : List (Tx × Tx) := dput lT14 lX lY
def m_law_v20 (lT22 : List (Tx × Tx)) : List (Tx × Tx) := dput lT22 lX lY
def m_law_v21 (lT42 : List (Tx × Tx)) : List (Tx × Tx) := dput lT42 lX lY
def m_law_v22  : Tx := if true = true then l_20ed7699 else m_law_v6
def m_law_v23 (p_script : List Int) : Tx := ([l_f8be0e12, l_82bac741, l_7dbde935].getD (((m_law_cell_at p_script (28 : Int)) / (6 : Int)) % (3 : Int)).toNat [])
def m_law_v24 (p_script : List Int) : List (Tx × Option Tx) := dput (m_law_v5 p_script) (m_law_v23 p_script) ([(some lX), none].getD (((m_law_cell_at p_script (28 : Int)) / (18 : Int)) % (2 : Int)).toNat none)
def m_law_v25  : Tx := l_0cd5a837
def m_law_v26 (p_script : List Int) : List (Tx × Option Tx) := if (!decide ((m_law_v23 p_script) ∈ (m_law_v4 p_script))) = true then (m_law_v24 p_script) else (m_law_v5 p_script)
def m_law_v27 (p_script : List Int) : Tx := if (!decide ((m_law_v23 p_script) ∈ (m_law_v4 p_script))) = true then m_law_v25 else m_law_v22
def m_law_v28 (p_script : List Int) : List (Tx × Option Tx) := if (decide (((m_law_cell_at p_script (28 : Int)) % (6 : Int)) = (1 : Int))) = true then (m_law_v26 p_script) else (m_law_v5 p_script)
def m_law_v29 (p_script : List Int) : Tx := if (decide (((m_law_cell_at p_script (28 : Int)) % (6 : Int)) = (1 : Int))) = true then (m_law_v27 p_script) else m_law_v22
def m_law_v30 (p_script : List Int) : List (Tx × Tx) := (m_law_v1 p_script)
def m_law_v31 (p_script : List Int) : List (Tx × Tx) := (m_law_v2 p_script)
def m_law_v32 (p_script : List Int) : List (Tx × Tx) := (m_law_v3 p_script)
def m_law_v33 (p_script : List Int) : List (Tx × Option Tx) := (m_law_v28 p_script)
def m_law (p_script : List Int) : Bool := (optM (m_law_due (m_law_v1 p_script) (m_law_v2 p_script) (m_law_v3 p_script) (m_law_v5 p_script)) (fun lT5 => (resM (m_law_told (m_law_v1 p_script) (m_law_v2 p_script) (m_law_v3 p_script) (m_law_v13 p_script)) (fun lT14 => (if ((!decide (lMade = (m_law_v14 p_script))) || false) = true then false else (if ((!decide ((m_law_v14 p_script) = lMade)) && true) = true then false else (if (decide ((m_law_v14 p_script) = lMade)) = true then (if ((!true) || false) = true then false else (resM (m_law_told (m_law_v1 p_script) (m_law_v3 p_script) (m_law_v2 p_script) (m_law_v13 p_script)) (fun lT22 => (if ((!decide (lMade = (m_law_v14 p_script))) || false) = true then false else (if ((!decide ((m_law_v14 p_script) = lMade)) && true) = true then false else (if (decide ((m_law_v14 p_script) = lMade)) = true then (if ((!true) || false) = true then false else true) else false)))) (fun kT22 => (if ((!decide ((word kT22) = (m_law_v14 p_script))) || false) = true then false else (if ((!decide ((m_law_v14 p_script) = lMade)) && (!decide (true = true))) = true then false else (if (decide ((m_law_v14 p_script) = lMade)) = true then false else true)))))) else false)))) (fun kT14 => (if ((!decide ((word kT14) = (m_law_v14 p_script))) || false) = true then false else (if ((!decide ((m_law_v14 p_script) = lMade)) && (!decide (true = true))) = true then false else (if (decide ((m_law_v14 p_script) = lMade)) = true then false else (resM (m_law_told (m_law_v1 p_script) (m_law_v3 p_script) (m_law_v2 p_script) (m_law_v13 p_script)) (fun lT42 => (if ((!decide (lMade = (m_law_v14 p_script))) || false) = true then false else (if ((!decide ((m_law_v14 p_script) = lMade)) && true) = true then false else (if (decide ((m_law_v14 p_script) = lMade)) = true then (if ((!true) || false) = true then false else true) else false)))) (fun kT42 => (if ((!decide ((word kT42) = (m_law_v14 p_script))) || false) = true then false else (if ((!decide ((m_law_v14 p_script) = lMade)) && (!decide (true = true))) = true then false else (if (decide ((m_law_v14 p_script) = lMade)) = true then false else true))))))))))) (resM (m_law_told (m_law_v1 p_script) (m_law_v2 p_script) (m_law_v3 p_script) (m_law_v28 p_script)) (fun lT65 => false) (fun kT65 => (if ((!decide ((word kT65) = (m_law_v29 p_script))) || false) = true then false else (if ((!decide ((m_law_v29 p_script) = lMade)) && (!decide (true = true))) = true then false else (if (decide ((m_law_v29 p_script) = lMade)) = true then false else (resM (m_law_told (m_law_v1 p_script) (m_law_v3 p_script) (m_law_v2 p_script) (m_law_v28 p_script)) (fun lT71 => false) (fun kT71 => (if ((!decide ((word kT71) = (m_law_v29 p_script))) || false) = true then false else (if ((!decide ((m_law_v29 p_script) = lMade)) && (!decide (true = true))) = true then false else (if (decide ((m_law_v29 p_script) = lMade)) = true then false else true)))))))))))

theorem lNil_eq : lNil = [] := rfl
theorem lSl_eq : lSl = [47] := rfl
theorem b01 (b : Bool) : 0 ≤ (if b = true then (1 : Int) else 0) ∧ (if b = true then (1 : Int) else 0) ≤ 1 := by cases b <;> decide
theorem g26 (n : Nat) : 0 ≤ [(1 : Int), (26 : Int)].getD n 0 ∧ [(1 : Int), (26 : Int)].getD n 0 ≤ 26 := by
  match n with
  | 0 => decide
  | 1 => decide
  | n + 2 => exact ⟨by simp, by simp⟩
theorem jl_nil : ∀ l : List Tx, joinL [] l = l.flatten
  | [] => rfl
  | [p] => by simp [joinL]
  | p :: q :: r => by
    show p ++ ([] ++ joinL [] (q :: r)) = _
    rw [jl_nil (q :: r)]
    simp
theorem sumLen_flat : ∀ l : List Tx, l.flatten.length = sumLen l
  | [] => rfl
  | p :: r => by rw [List.flatten_cons, List.length_append, sumLen_flat r, sumLen_cons]
theorem jl0 (l : List Tx) : (joinL lNil l).length = sumLen l := by rw [lNil_eq, jl_nil, sumLen_flat]
theorem sum_ones {α : Type} (g : α → Tx) (hg : ∀ k, (g k).length = 1) : ∀ l : List α, sumLen (l.map g) = l.length
  | [] => rfl
  | k :: r => by
    rw [List.map_cons, sumLen_cons, hg, sum_ones g hg r, List.length_cons]
    omega
theorem sum_le {n : Nat} : ∀ {l : List Tx}, (∀ p ∈ l, p.length ≤ n) → sumLen l ≤ n * l.length
  | [], _ => by simp [sumLen_nil]
  | p :: r, h => by
    have h1 := h p List.mem_cons_self
    have h2 := sum_le (l := r) (fun q hq => h q (List.mem_cons_of_mem _ hq))
    rw [sumLen_cons, List.length_cons, Nat.mul_succ]
    omega
theorem getD_mem {l : List Nat} {i : Nat} (h : i < l.length) : l.getD i 0 ∈ l := by
  rw [List.getD_eq_getElem?_getD, List.getElem?_eq_getElem h]
  exact List.getElem_mem h
theorem mem_cut {α : Type} {l : List α} {a b : Option Int} {x : α} (h : x ∈ cutG l a b) : x ∈ l := List.mem_of_mem_drop (List.mem_of_mem_take h)

/-! names -/
/-- a part of a path, as the document has it -/
def Part (p : Tx) : Prop := (1 ≤ p.length ∧ p.length ≤ 12) ∧ (∀ c ∈ p, c ∈ lSigns) ∧ p ≠ lDot ∧ p ≠ lDots
instance (p : Tx) : Decidable (Part p) := by unfold Part; exact inferInstance
theorem signs_ne : ∀ c ∈ lSigns, c ≠ 47 ∧ c < 128 := by decide +kernel
theorem Part.no {p : Tx} (h : Part p) : 47 ∉ p := fun m => (signs_ne _ (h.2.1 _ m)).1 rfl
theorem sign_mem (k : Int) : ∀ c ∈ m_law_sign_by k, c ∈ lSigns := fun c h => by
  unfold m_law_sign_by at h
  rw [List.mem_singleton.mp h]
  exact getD_mem (by rw [len_lSigns]; omega)
theorem name_v2 (s : Int) : 1 ≤ m_law_name_by_v2 s ∧ m_law_name_by_v2 s ≤ 12 := by
  unfold m_law_name_by_v2 m_law_name_by_v1
  split <;> omega
theorem name_v4 (s k : Int) : sumLen (m_law_name_by_v4 s k) = 12 := sum_ones _ (fun _ => rfl) _
theorem name_v5 (s : Int) : 0 ≤ m_law_name_by_v5 s ∧ m_law_name_by_v5 s < m_law_name_by_v2 s := by
  have h2 := name_v2 s
  unfold m_law_name_by_v5
  have h3 := Int.emod_nonneg (s / 20) (b := m_law_name_by_v2 s) (by omega)
  have h4 := Int.emod_lt_of_pos (s / 20) (b := m_law_name_by_v2 s) (by omega)
  cases decide (m_law_name_by_v3 s = 1)
  · rw [if_neg (by decide), Int.mul_zero]
    omega
  · rw [if_pos rfl, Int.mul_one]
    omega
theorem v4_one (s k : Int) : ∀ p ∈ m_law_name_by_v4 s k, p.length = 1 ∧ ∀ c ∈ p, c ∈ lSigns := fun p h => by
  obtain ⟨j, _, rfl⟩ := List.mem_map.mp h
  exact ⟨rfl, sign_mem _⟩
theorem flat_ones : ∀ {l : List Tx}, (∀ p ∈ l, p.length = 1 ∧ ∀ c ∈ p, c ∈ lSigns) → l.flatten.length = l.length ∧ ∀ c ∈ l.flatten, c ∈ lSigns
  | [], _ => ⟨rfl, fun c h => by cases h⟩
  | p :: r, h => by
    obtain ⟨a, b⟩ := flat_ones (l := r) fun q hq => h q (List.mem_cons_of_mem _ hq)
    obtain ⟨c, d⟩ := h p List.mem_cons_self
    refine ⟨by rw [List.flatten_cons, List.length_append, a, c, List.length_cons]; omega, fun x hx => ?_⟩
    rw [List.flatten_cons] at hx
    rcases List.mem_append.mp hx with e | e
    · exact d x e
    · exact b x e
theorem cut_ones (s k : Int) (a b : Option Int) : (joinL lNil (cutG (m_law_name_by_v4 s k) a b)).length = (cutG (m_law_name_by_v4 s k) a b).length ∧ ∀ c ∈ joinL lNil (cutG (m_law_name_by_v4 s k) a b), c ∈ lSigns := by
  rw [lNil_eq, jl_nil]
  exact flat_ones fun p hp => v4_one s k p (mem_cut hp)
theorem cut_to {α : Type} (l : List α) {i : Int} (h : 0 ≤ i) : cutG l none (some i) = l.take i.toNat := by
  obtain ⟨n, rfl⟩ := Int.eq_ofNat_of_zero_le h
  exact cutG_to l n
theorem cut_mid_len {α : Type} (l : List α) {i j : Int} (h : 0 ≤ i) (hj : i ≤ j) (hl : j ≤ l.length) : ((cutG l (some i) (some j)).length : Int) = j - i := by
  obtain ⟨n, rfl⟩ := Int.eq_ofNat_of_zero_le h
  obtain ⟨m, rfl⟩ := Int.eq_ofNat_of_zero_le (Int.le_trans h hj)
  unfold cutG
  rw [HT.sIx_nat, HT.sIx_nat, List.length_take, List.length_drop]
  omega
theorem name_len (s k : Int) : (1 ≤ (m_law_name_by_v8 s k).length ∧ (m_law_name_by_v8 s k).length ≤ 12) ∧ ∀ c ∈ m_law_name_by_v8 s k, c ∈ lSigns := by
  have h2 := name_v2 s
  have h5 := name_v5 s
  have hl : (m_law_name_by_v4 s k).length = 12 := rfl
  unfold m_law_name_by_v8
  split
  · have h := cut_ones s k none (some (1 + ((s / 65 + k) % 12)))
    refine ⟨?_, h.2⟩
    rw [h.1, cut_to _ (by omega), List.length_take, hl]
    omega
  · unfold m_law_name_by_v7
    have ha := cut_ones s k none (some (m_law_name_by_v5 s))
    have hb := cut_ones s k (some (m_law_name_by_v5 s)) (some (m_law_name_by_v2 s - 1))
    have hc := cut_mid_len (m_law_name_by_v4 s k) h5.1 (show m_law_name_by_v5 s ≤ m_law_name_by_v2 s - 1 by omega) (by rw [hl]; omega)
    have h6 : (m_law_name_by_v6 s k).length = 1 := rfl
    refine ⟨?_, fun c h => ?_⟩
    · rw [List.length_append, List.length_append, ha.1, hb.1, h6, cut_to _ h5.1, List.length_take, hl]
      omega
    · rcases List.mem_append.mp h with e | e
      · rcases List.mem_append.mp e with e | e
        · exact ha.2 c e
        · exact sign_mem _ c e
      · exact hb.2 c e
theorem name_part (k s : Int) : Part (m_law_name_by k s) := by
  have h := name_len s k
  unfold m_law_name_by
  cases e : (decide (m_law_name_by_v8 s k = lDot) || decide (m_law_name_by_v8 s k = lDots)) with
  | true =>
    rw [if_pos rfl]
    exact ⟨by decide, by decide, by decide, by decide⟩
  | false =>
    rw [if_neg Bool.false_ne_true]
    have e2 := Bool.or_eq_false_iff.mp e
    exact ⟨h.1, h.2, of_decide_eq_false e2.1, of_decide_eq_false e2.2⟩

/-! paths as rows of parts -/
def Parts (l : List Tx) : Prop := (1 ≤ l.length ∧ l.length ≤ 8) ∧ ∀ p ∈ l, Part p
instance (l : List Tx) : Decidable (Parts l) := by unfold Parts; exact inferInstance
theorem Parts.sum {l : List Tx} (h : Parts l) : sumLen l ≤ 96 := by
  have h1 := sum_le (n := 12) (l := l) fun p hp => (h.2 p hp).1.2
  have h2 := h.1
  omega
theorem Parts.len {l : List Tx} (h : Parts l) : (joinL lSl l).length ≤ 104 := by
  have h1 := joinL_len lSl l
  have h2 := h.sum
  have h3 := h.1
  rw [lSl_eq] at h1 ⊢
  simp only [List.length_cons, List.length_nil] at h1
  omega
/-- the text of a path -/
def Pth (p : Tx) : Prop := ∃ l, Parts l ∧ p = joinL lSl l
theorem Pth.len {p : Tx} (h : Pth p) : p.length ≤ 104 := by
  obtain ⟨l, hl, rfl⟩ := h
  exact hl.len
theorem Parts.cuts {l : List Tx} (h : Parts l) : cuts 47 (joinL lSl l) = l := spl_join (List.length_pos_iff.mp h.1.1) fun p hp => (h.2 p hp).no
theorem cuts_two : ∀ (a r : Tx), cuts 47 (a ++ 47 :: r) = cuts 47 a ++ cuts 47 r
  | [], r => by rw [List.nil_append, cuts_hit, cuts_nil]; rfl
  | d :: a, r => by
    rw [List.cons_append]
    by_cases h : d = 47
    · subst h
      rw [cuts_hit, cuts_hit, cuts_two a r]
      rfl
    · rw [cuts_miss h, cuts_miss h, cuts_two a r]
      cases e : cuts 47 a with
      | nil => exact absurd e (cuts_ne 47 a)
      | cons p q => rfl
theorem joinL_two (c : Nat) : ∀ (P R : List Tx), P ≠ [] → R ≠ [] → joinL [c] (P ++ R) = joinL [c] P ++ c :: joinL [c] R
  | [], _, h, _ => absurd rfl h
  | [p], R, _, h => by
    cases R with
    | nil => exact absurd rfl h
    | cons q r => rfl
  | p :: q :: r, R, _, h => by
    have ih := joinL_two c (q :: r) R (by simp) h
    show p ++ ([c] ++ joinL [c] ((q :: r) ++ R)) = _
    rw [ih]
    simp [joinL]
/-- a text's parts put together again are the text -/
theorem join_cuts : ∀ p : Tx, joinL [47] (cuts 47 p) = p
  | [] => rfl
  | d :: r => by
    have ih := join_cuts r
    by_cases h : d = 47
    · subst h
      rw [cuts_hit]
      cases e : cuts 47 r with
      | nil => exact absurd e (cuts_ne 47 r)
      | cons p q =>
        rw [e] at ih
        show [] ++ ([47] ++ joinL [47] (p :: q)) = 47 :: r
        rw [ih]
        rfl
    · rw [cuts_miss h]
      cases e : cuts 47 r with
      | nil => exact absurd e (cuts_ne 47 r)
      | cons p q =>
        rw [e] at ih
        rw [← ih]
        cases q <;> rfl
instance (p : Tx) : Decidable (Pth p) := decidable_of_iff (Parts (cuts 47 p)) ⟨fun h => ⟨_, h, (join_cuts p).symm⟩, fun ⟨l, h, e⟩ => by rw [e, h.cuts]; exact h⟩
theorem pth_iff (p : Tx) : Pth p ↔ Parts (cuts 47 p) := ⟨fun ⟨l, h, e⟩ => by rw [e, h.cuts]; exact h, fun h => ⟨_, h, (join_cuts p).symm⟩⟩
/-- the one lies beneath the other -/
def Ben (p u : Tx) : Prop := (cuts 47 u).length < (cuts 47 p).length ∧ (cuts 47 p).take (cuts 47 u).length = cuts 47 u
instance (p u : Tx) : Decidable (Ben p u) := by unfold Ben; exact inferInstance
theorem prefix_ben (p u : Tx) : (u ++ lSl).isPrefixOf p = decide (Ben p u) := by
  rw [lSl_eq]
  by_cases h : Ben p u
  · rw [decide_eq_true h]
    have e : cuts 47 p = cuts 47 u ++ (cuts 47 p).drop (cuts 47 u).length := by
      conv => lhs; rw [← List.take_append_drop (cuts 47 u).length (cuts 47 p), h.2]
    have hd : (cuts 47 p).drop (cuts 47 u).length ≠ [] := fun z => by
      have := congrArg List.length z
      rw [List.length_drop, List.length_nil] at this
      have := h.1
      omega
    have e2 := congrArg (joinL [47]) e
    rw [joinL_two 47 _ _ (cuts_ne 47 u) hd, join_cuts, join_cuts] at e2
    rw [e2]
    exact List.isPrefixOf_iff_prefix.mpr ⟨joinL [47] ((cuts 47 p).drop (cuts 47 u).length), by simp⟩
  · rw [decide_eq_false h]
    cases e : (u ++ [47]).isPrefixOf p with
    | false => rfl
    | true =>
      obtain ⟨r, hr⟩ := List.isPrefixOf_iff_prefix.mp e
      have h1 := congrArg (cuts 47) hr
      rw [List.append_assoc, show [47] ++ r = 47 :: r from rfl, cuts_two] at h1
      have h2 : 0 < (cuts 47 r).length := List.length_pos_iff.mpr (cuts_ne 47 r)
      exact absurd ⟨by rw [← h1, List.length_append]; omega, by rw [← h1, List.take_left]⟩ h
theorem cuts_inj {p q : Tx} (h : cuts 47 p = cuts 47 q) : p = q := by rw [← join_cuts p, h, join_cuts]

theorem above_mem {p u : Tx} : u ∈ m_above p ↔ Ben p u := by
  have e : m_above p = (List.range ((cuts 47 p).length - 1)).map fun k => joinL [47] ((cuts 47 p).take (k + 1)) := by
    unfold m_above m_above_v1
    rw [lSl_eq]
    have e3 : (((cuts 47 p).length : Nat) : Int) - 1 = (((cuts 47 p).length - 1 : Nat) : Int) := by
      have := List.length_pos_iff.mpr (cuts_ne 47 p)
      omega
    rw [e3, Int.toNat_natCast]
    apply List.map_congr_left
    intro k hk
    show joinL [47] (cutG (cuts 47 p) none (some ((1 : Int) + (k : Int)))) = _
    rw [show (1 : Int) + (k : Int) = ((k + 1 : Nat) : Int) by omega, cutG_to]
  have nost : ∀ (n : Nat), ∀ x ∈ (cuts 47 p).take n, 47 ∉ x := fun n x hx => cuts_free 47 p x (List.mem_of_mem_take hx)
  rw [e]
  constructor
  · intro hm
    obtain ⟨k, hk, rfl⟩ := List.mem_map.mp hm
    have hk2 := List.mem_range.mp hk
    have hne : (cuts 47 p).take (k + 1) ≠ [] := fun z => by
      have h5 := congrArg List.length z
      rw [List.length_take, List.length_nil] at h5
      have := List.length_pos_iff.mpr (cuts_ne 47 p)
      omega
    have ec : cuts 47 (joinL [47] ((cuts 47 p).take (k + 1))) = (cuts 47 p).take (k + 1) := spl_join hne (nost _)
    refine ⟨by rw [ec, List.length_take]; omega, ?_⟩
    rw [ec, List.length_take, Nat.min_eq_left (by omega)]
  · intro h
    have hu := List.length_pos_iff.mpr (cuts_ne 47 u)
    refine List.mem_map.mpr ⟨(cuts 47 u).length - 1, List.mem_range.mpr (by have := h.1; omega), ?_⟩
    rw [Nat.sub_add_cancel hu, h.2, join_cuts]

theorem above_cnt (p : Tx) : (m_above p).length ≤ p.length := by
  have h := cuts_len 47 p
  unfold m_above m_above_v1
  rw [List.length_map, List.length_range]
  omega

theorem over_mem {l : List (Tx × Tx)} {q : List Tx} : q ∈ m_overlaps l ↔ ∃ p ∈ dkeys l, ∃ u ∈ dkeys l, Ben p u ∧ q = [u, p] := by
  unfold m_overlaps
  constructor
  · intro h
    obtain ⟨p, hp, h2⟩ := List.mem_flatMap.mp h
    obtain ⟨u, hu, rfl⟩ := List.mem_map.mp h2
    obtain ⟨hu1, hu2⟩ := List.mem_filter.mp hu
    exact ⟨p, hp, u, (has_iff _ _).mp hu2, above_mem.mp hu1, rfl⟩
  · rintro ⟨p, hp, u, hu, hb, rfl⟩
    exact List.mem_flatMap.mpr ⟨p, hp, List.mem_map.mpr ⟨u, List.mem_filter.mpr ⟨above_mem.mpr hb, (has_iff _ _).mpr hu⟩, rfl⟩⟩
theorem over_okT {l : List (Tx × Tx)} (h : ∀ k ∈ dkeys l, okT k) : ∀ q ∈ m_overlaps l, ∀ p ∈ q, okT p := fun q hq p hp => by
  obtain ⟨a, ha, u, hu, _, rfl⟩ := over_mem.mp hq
  rcases List.mem_cons.mp hp with e | e
  · rw [e]
    exact h u hu
  · rw [List.mem_singleton.mp e]
    exact h a ha
theorem over_none (l : List (Tx × Tx)) : m_overlaps l = [] ↔ ∀ a ∈ dkeys l, ∀ b ∈ dkeys l, ¬ Ben b a := by
  rw [List.eq_nil_iff_forall_not_mem]
  constructor
  · intro h a ha b hb hB
    exact h [a, b] (over_mem.mpr ⟨b, hb, a, ha, hB, rfl⟩)
  · intro h q hq
    obtain ⟨p, hp, u, hu, hB, _⟩ := over_mem.mp hq
    exact h u hu p hp hB

theorem above_sum (p : Tx) : sumLen (m_above_v1 p) ≤ p.length := cuts_sum 47 p
theorem above_cuts (p : Tx) : (m_above p).length ≤ (cuts 47 p).length := by
  unfold m_above m_above_v1
  rw [List.length_map, List.length_range]
  omega

/-! paths -/
theorem path_n (c : Int) : 1 ≤ [(1 : Int), (1 : Int), (2 : Int), (2 : Int), (3 : Int)].getD (c % 5).toNat 0 ∧ [(1 : Int), (1 : Int), (2 : Int), (2 : Int), (3 : Int)].getD (c % 5).toNat 0 ≤ 3 := by
  have h : ∀ n : Nat, n < 5 → 1 ≤ [(1 : Int), (1 : Int), (2 : Int), (2 : Int), (3 : Int)].getD n 0 ∧ [(1 : Int), (1 : Int), (2 : Int), (2 : Int), (3 : Int)].getD n 0 ≤ 3 := by decide
  exact h _ (by omega)
theorem g139 (n : Nat) : 0 ≤ [(1 : Int), (3 : Int), (9 : Int)].getD n 0 ∧ [(1 : Int), (3 : Int), (9 : Int)].getD n 0 ≤ 9 ∧ (n < 3 → 0 < [(1 : Int), (3 : Int), (9 : Int)].getD n 0) := by
  match n with
  | 0 => decide
  | 1 => decide
  | 2 => decide
  | n + 3 => exact ⟨by simp, by simp, fun h => by omega⟩
theorem map_parts {n : Nat} (g : Nat → Int) (s : Int) : ∀ p ∈ (List.range n).map (fun k => m_law_name_by (g k) s), Part p := fun p hp => by
  obtain ⟨k, _, rfl⟩ := List.mem_map.mp hp
  exact name_part _ _
theorem path_v1 (c s : Int) : (1 ≤ (m_law_path_by_v1 c s).length ∧ (m_law_path_by_v1 c s).length ≤ 3) ∧ ∀ p ∈ m_law_path_by_v1 c s, Part p := by
  have hn := path_n c
  refine ⟨?_, map_parts _ _⟩
  unfold m_law_path_by_v1
  rw [List.length_map, List.length_range]
  omega
theorem path_v2 (s : Int) : (1 ≤ (m_law_path_by_v2 s).length ∧ (m_law_path_by_v2 s).length ≤ 5) ∧ ∀ p ∈ m_law_path_by_v2 s, Part p := by
  refine ⟨?_, map_parts _ _⟩
  unfold m_law_path_by_v2
  rw [List.length_map, List.length_range]
  omega
theorem path_p1 (c s : Int) : Parts (m_law_path_by_v1 c s) := ⟨by have := (path_v1 c s).1; omega, (path_v1 c s).2⟩
theorem path_p2 (c s : Int) : Parts (m_law_path_by_v2 s ++ m_law_path_by_v1 c s) := by
  have h1 := path_v1 c s
  have h2 := path_v2 s
  refine ⟨by rw [List.length_append]; omega, fun p hp => ?_⟩
  rcases List.mem_append.mp hp with e | e
  · exact h2.2 p e
  · exact h1.2 p e
theorem path_ix (c s : Int) : 0 ≤ (c / 13) % (((m_law_path_by_v2 s).length : Int) + ((m_law_path_by_v1 c s).length : Int)) ∧ (c / 13) % (((m_law_path_by_v2 s).length : Int) + ((m_law_path_by_v1 c s).length : Int)) < ((m_law_path_by_v2 s).length : Int) + ((m_law_path_by_v1 c s).length : Int) := by
  have h1 := path_v1 c s
  have h2 := path_v2 s
  exact ⟨Int.emod_nonneg _ (by omega), Int.emod_lt_of_pos _ (by omega)⟩
theorem path_p3 (c s : Int) : Parts (cutG ((m_law_path_by_v2 s) ++ (m_law_path_by_v1 c s)) none (some ((1 : Int) + ((c / (13 : Int)) % (((m_law_path_by_v2 s).length : Int) + ((m_law_path_by_v1 c s).length : Int)))))) := by
  have h := path_p2 c s
  have hx := path_ix c s
  refine ⟨?_, fun p hp => h.2 p (mem_cut hp)⟩
  have h3 := h.1
  rw [cut_to _ (by omega), List.length_take]
  rw [List.length_append] at h3 ⊢
  omega
/-- the parts of a path that the law makes -/
theorem path_shape (c s : Int) : ∃ l, Parts l ∧ m_law_path_by c s = joinL lSl l ∧ ∃ k r, l = m_law_name_by k s :: r := by
  have first : ∀ {n : Nat} (g : Nat → Int), 1 ≤ n → ∃ k r, (List.range n).map (fun j => m_law_name_by (g j) s) = m_law_name_by k s :: r := fun {n} g hn => by
    obtain ⟨m, rfl⟩ := Nat.exists_eq_add_of_le' hn
    rw [List.range_succ_eq_map, List.map_cons]
    exact ⟨_, _, rfl⟩
  have h1 := path_n c
  have f1 : ∃ k r, m_law_path_by_v1 c s = m_law_name_by k s :: r := first (n := ([(1 : Int), (1 : Int), (2 : Int), (2 : Int), (3 : Int)].getD (c % 5).toNat 0).toNat) _ (by omega)
  have f2 : ∃ k r, m_law_path_by_v2 s ++ m_law_path_by_v1 c s = m_law_name_by k s :: r := by
    obtain ⟨k, r, e⟩ := first (n := ((1 : Int) + ((s / (7 : Int)) % (5 : Int))).toNat) (fun j => (3 : Int) + (j : Int)) (by omega)
    unfold m_law_path_by_v2
    rw [e]
    exact ⟨k, _, rfl⟩
  unfold m_law_path_by
  split
  · exact ⟨_, path_p1 c s, rfl, f1⟩
  · split
    · refine ⟨_, path_p3 c s, rfl, ?_⟩
      obtain ⟨k, r, e⟩ := f2
      have hx := path_ix c s
      rw [cut_to _ (by omega), e]
      obtain ⟨m, hm⟩ := Nat.exists_eq_add_of_le' (show 1 ≤ (1 + ((c / 13) % (((m_law_path_by_v2 s).length : Int) + ((m_law_path_by_v1 c s).length : Int)))).toNat by omega)
      rw [hm]
      exact ⟨k, r.take m, rfl⟩
    · exact ⟨_, path_p2 c s, rfl, f2⟩
theorem path_ok (c s : Int) : Pth (m_law_path_by c s) := by
  obtain ⟨l, hl, e, _⟩ := path_shape c s
  exact ⟨l, hl, e⟩
theorem path_cuts (c s : Int) : ∃ k r, cuts 47 (m_law_path_by c s) = m_law_name_by k s :: r := by
  obtain ⟨l, hl, e, f⟩ := path_shape c s
  rw [e, hl.cuts]
  exact f
/-! texts -/
theorem anys : ∀ c ∈ m_law_line_by_v2, c < 128 := by decide +kernel
theorem two_ix {x y m : Int} (b : Bool) (hx : 0 ≤ x ∧ x ≤ m) (hy : 0 ≤ y ∧ y ≤ m) : 0 ≤ [x, y].getD (if b = true then (1 : Int) else 0).toNat 0 ∧ [x, y].getD (if b = true then (1 : Int) else 0).toNat 0 ≤ m := by
  cases b
  · exact hx
  · exact hy
theorem line_sizes (s k : Int) : 0 ≤ (m_law_line_by_v3 s).getD (k % (4 : Int)).toNat 0 ∧ (m_law_line_by_v3 s).getD (k % (4 : Int)).toNat 0 ≤ 602 := by
  have h := two_ix (m := 599) (decide (((s / (60 : Int)) % (4 : Int)) = (3 : Int))) (x := s % (60 : Int)) (y := (s / (240 : Int)) % (600 : Int)) (by omega) (by omega)
  have h4 : (k % 4).toNat < 4 := by omega
  unfold m_law_line_by_v3
  generalize ([(s % (60 : Int)), ((s / (240 : Int)) % (600 : Int))].getD (if (decide (((s / (60 : Int)) % (4 : Int)) = (3 : Int))) = true then (1 : Int) else 0).toNat 0) = z at h ⊢
  match e : (k % 4).toNat, h4 with
  | 0, _ => exact ⟨show (0 : Int) ≤ 0 by decide, show (0 : Int) ≤ 602 by decide⟩
  | 1, _ => exact ⟨show (0 : Int) ≤ 1 by decide, show (1 : Int) ≤ 602 by decide⟩
  | 2, _ => exact ⟨show (0 : Int) ≤ 2 by decide, show (2 : Int) ≤ 602 by decide⟩
  | 3, _ => exact ⟨show (0 : Int) ≤ 3 + z by omega, show 3 + z ≤ (602 : Int) by omega⟩
theorem line_sumk (k s n : Int) : sumLen ((List.range n.toNat).map (fun k0 : Nat => [m_law_line_by_v2.getD (((s + ((5 : Int) * k)) + (k0 : Int)) % (96 : Int)).toNat 0])) = n.toNat := by
  rw [sum_ones _ (fun _ => rfl), List.length_range]
theorem line_ok (k s : Int) : (m_law_line_by k s).length ≤ 602 ∧ ∀ c ∈ m_law_line_by k s, c < 128 := by
  unfold m_law_line_by
  have h6 := line_sizes s k
  refine ⟨by rw [jl0, line_sumk]; omega, fun c hc => ?_⟩
  rw [lNil_eq, jl_nil] at hc
  obtain ⟨p, hp, hcp⟩ := List.mem_flatten.mp hc
  obtain ⟨j, _, rfl⟩ := List.mem_map.mp hp
  rw [List.mem_singleton.mp hcp]
  exact anys _ (getD_mem (by rw [show List.length m_law_line_by_v2 = 96 by decide +kernel]; omega))

/-! names that are no tops -/
def sg (n : Int) : Nat := lSigns.getD (n % 65).toNat 0
theorem sg_mod (n : Int) : sg n = sg ((n % 65).toNat : Int) := by
  unfold sg
  congr 1
  omega
theorem sg_add (n : Int) : sg (n + 7) = sg (((n % 65).toNat : Int) + 7) := by
  unfold sg
  congr 1
  omega
theorem sg_no : ∀ m < 65, ¬ (sg ((m : Nat) : Int) = 116 ∧ sg ((m : Int) + 7) = 111) ∧ ¬ (sg (m : Int) = 111 ∧ sg ((m : Int) + 7) = 112) ∧ ¬ (sg (m : Int) = 112 ∧ sg ((m : Int) + 7) = 115) := by decide +kernel
theorem sg_gap (n : Int) : ¬ (sg n = 116 ∧ sg (n + 7) = 111) ∧ ¬ (sg n = 111 ∧ sg (n + 7) = 112) ∧ ¬ (sg n = 112 ∧ sg (n + 7) = 115) := by
  rw [sg_mod n, sg_add n]
  exact sg_no _ (by omega)
def rest (s k : Int) : Tx := (List.range 12).map fun j : Nat => sg (((s / 195) + 7 * (j : Int)) + (k * (if (decide (m_law_name_by_v3 s = 0)) = true then 1 else 0)))
theorem flat_map1 {α : Type} (g : α → Nat) : ∀ l : List α, (l.map fun x => [g x]).flatten = l.map g
  | [] => rfl
  | x :: r => by rw [List.map_cons, List.flatten_cons, flat_map1 g r]; rfl
theorem rest_cut (s k : Int) (lo hi : Option Int) : joinL lNil (cutG (m_law_name_by_v4 s k) lo hi) = cutG (rest s k) lo hi := by
  have e : m_law_name_by_v4 s k = (List.range 12).map fun j : Nat => [sg (((s / 195) + 7 * (j : Int)) + (k * (if (decide (m_law_name_by_v3 s = 0)) = true then 1 else 0)))] := rfl
  rw [lNil_eq, jl_nil, e, cutG_map, flat_map1]
  unfold rest
  rw [cutG_map]
theorem rest_is (s k : Int) : ∃ a : Int, rest s k = [sg a, sg (a + 7), sg (a + 7 + 7)] ++ (rest s k).drop 3 := by
  refine ⟨(s / 195) + (k * (if (decide (m_law_name_by_v3 s = 0)) = true then 1 else 0)), ?_⟩
  show rest s k = _
  conv => lhs; rw [← List.take_append_drop 3 (rest s k)]
  congr 1
  generalize hB : (k * (if (decide (m_law_name_by_v3 s = 0)) = true then 1 else 0)) = B
  have e : (rest s k).take 3 = [sg (s / 195 + 7 * (0 : Int) + B), sg (s / 195 + 7 * (1 : Int) + B), sg (s / 195 + 7 * (2 : Int) + B)] := by
    rw [← hB]
    rfl
  rw [e, show s / 195 + 7 * (0 : Int) + B = s / 195 + B by omega, show s / 195 + 7 * (1 : Int) + B = s / 195 + B + 7 by omega, show s / 195 + 7 * (2 : Int) + B = s / 195 + B + 7 + 7 by omega]
theorem rest_len (s k : Int) : (rest s k).length = 12 := by
  unfold rest
  rw [List.length_map, List.length_range]
theorem no_tops_text {a : Int} {r : Tx} {t : Nat} {n : Nat} {d : Tx} (i : Nat) (hn : i ≤ n) : ([sg a, sg (a + 7), sg (a + 7 + 7)] ++ r).take i ++ ([t] ++ (([sg a, sg (a + 7), sg (a + 7 + 7)] ++ r).drop i).take (n - i)) ≠ [116, 111, 112, 115] ++ d := by
  have g1 := sg_gap a
  have g2 := sg_gap (a + 7)
  intro h
  match i with
  | 0 =>
    rw [List.take_zero, List.drop_zero, List.nil_append] at h
    match n with
    | 0 => simp at h
    | 1 => simp at h
    | n + 2 =>
      simp at h
      exact g1.2.1 ⟨h.2.1, h.2.2.1⟩
  | 1 =>
    match n, hn with
    | 1, _ => simp at h
    | 2, _ => simp at h
    | n + 3, _ =>
      simp at h
      exact g2.2.2 ⟨h.2.2.1, h.2.2.2.1⟩
  | i + 2 =>
    simp at h
    exact g1.1 ⟨h.1, h.2.1⟩
theorem name_no_tops (s k : Int) (d : Tx) : m_law_name_by k s ≠ [116, 111, 112, 115] ++ d := by
  have h2 := name_v2 s
  have h5 := name_v5 s
  obtain ⟨a, ha⟩ := rest_is s k
  unfold m_law_name_by
  split
  · intro h
    have : l0x = [48, 120] := rfl
    rw [this] at h
    simp at h
  · unfold m_law_name_by_v8
    split
    · rw [rest_cut, cut_to _ (by omega), ha]
      intro h
      generalize hm : (1 + ((s / 65 + k) % 12)).toNat = m at h
      match m with
      | 0 => simp at h
      | 1 => simp at h
      | m + 2 =>
        simp at h
        exact (sg_gap a).1 ⟨h.1, h.2.1⟩
    · unfold m_law_name_by_v7
      have e6 : m_law_name_by_v6 s k = [sg (s + (k * ([(1 : Int), (26 : Int)].getD (if (decide ((m_law_name_by_v3 s) = (3 : Int))) = true then (1 : Int) else 0).toNat 0)))] := rfl
      rw [rest_cut, rest_cut, e6, cut_to _ h5.1]
      have e7 : cutG (rest s k) (some (m_law_name_by_v5 s)) (some (m_law_name_by_v2 s - 1)) = ((rest s k).drop (m_law_name_by_v5 s).toNat).take ((m_law_name_by_v2 s - 1).toNat - (m_law_name_by_v5 s).toNat) := by
        obtain ⟨x, hx⟩ := Int.eq_ofNat_of_zero_le h5.1
        obtain ⟨y, hy⟩ := Int.eq_ofNat_of_zero_le (show 0 ≤ m_law_name_by_v2 s - 1 by omega)
        rw [hx, hy]
        unfold cutG
        rw [HT.sIx_nat, HT.sIx_nat, rest_len]
        have h12 : y ≤ 12 := by omega
        have h13 : x ≤ 12 := by omega
        rw [Nat.min_eq_left h12, Nat.min_eq_left h13]
        rfl
      rw [e7, ha, List.append_assoc]
      exact no_tops_text _ (by omega)

/-- nothing beneath the path, nothing above it -/
def Free (ks : List Tx) (p : Tx) : Prop := ∀ k ∈ ks, ¬ Ben k p ∧ ¬ Ben p k
instance (ks : List Tx) (p : Tx) : Decidable (Free ks p) := by unfold Free; exact inferInstance
theorem free_run (p : Tx) : ∀ ks : List Tx, aftL (runL (m_law_is_free_step1 p) ks ()) (fun s1 => true) = decide (Free ks p)
  | [] => (decide_eq_true (fun k h => nomatch h)).symm
  | y :: r => by
    have ih := free_run p r
    have e : ((p ++ lSl).isPrefixOf y || (y ++ lSl).isPrefixOf p) = (decide (Ben y p) || decide (Ben p y)) := by rw [prefix_ben, prefix_ben]
    by_cases h : (decide (Ben y p) || decide (Ben p y)) = true
    · have h1 : m_law_is_free_step1 p () y = .ret false := by
        show (if _ = true then _ else _) = _
        rw [e, if_pos h]
      have hf : ¬ Free (y :: r) p := fun f => by
        have := f y List.mem_cons_self
        rw [Bool.or_eq_true, decide_eq_true_eq, decide_eq_true_eq] at h
        exact h.elim this.1 this.2
      rw [runL_ret h1, decide_eq_false hf]
      rfl
    · have h1 : m_law_is_free_step1 p () y = .go () := by
        show (if _ = true then _ else _) = _
        rw [e, if_neg h]
      rw [runL_go h1, ih]
      have hn : ¬ Ben y p ∧ ¬ Ben p y := by
        rw [Bool.or_eq_true, decide_eq_true_eq, decide_eq_true_eq, not_or] at h
        exact h
      by_cases f : Free r p
      · rw [decide_eq_true f]
        exact (decide_eq_true (p := Free (y :: r) p) fun k hk => (List.mem_cons.mp hk).elim (fun z => by rw [z]; exact hn) (f k)).symm
      · rw [decide_eq_false f]
        exact (decide_eq_false (p := Free (y :: r) p) fun g => f fun k hk => g k (List.mem_cons_of_mem _ hk)).symm
theorem free_of (l : List (Tx × Tx)) (p : Tx) : m_law_is_free l p = decide (Free (dkeys l) p) := free_run p _

/-! files -/
def okV (t : Tx) : Prop := t.length ≤ 602 ∧ ∀ c ∈ t, c < 128
structure Good (l : List (Tx × Tx)) : Prop where
  nd : (dkeys l).Nodup
  pth : ∀ k ∈ dkeys l, Pth k
  val : ∀ q ∈ l, okV q.2
theorem Good.nil : Good [] := ⟨List.nodup_nil, fun k h => (nomatch h), fun q h => (nomatch h)⟩
theorem Good.put {l : List (Tx × Tx)} {k v : Tx} (g : Good l) (hk : Pth k) (hv : okV v) : Good (dput l k v) :=
  ⟨nodup_put g.nd, fun j h => (mem_keys_put.mp h).elim (fun e => e ▸ hk) (g.pth j), fun q h => (mem_put h).elim (fun e => by rw [e]; exact hv) (g.val q)⟩
theorem Good.del {l : List (Tx × Tx)} {k : Tx} (g : Good l) : Good (ddel l k) :=
  ⟨nodup_del g.nd, fun j h => g.pth j (mem_keys_del.mp h).1, fun q h => g.val q (mem_del h)⟩
theorem Good.len {l : List (Tx × Tx)} (g : Good l) : ∀ k ∈ dkeys l, k.length ≤ 104 := fun k h => (g.pth k h).len
theorem pth_sign {p : Tx} (h : Pth p) : ∀ c ∈ p, c < 128 := by
  obtain ⟨l, hl, rfl⟩ := h
  have h2 := hl.2
  clear hl
  rw [lSl_eq]
  induction l with
  | nil => exact fun c h => nomatch h
  | cons q r ih =>
    have hq : ∀ c ∈ q, c < 128 := fun c hc => (signs_ne c ((h2 q List.mem_cons_self).2.1 c hc)).2
    cases r with
    | nil => exact hq
    | cons q2 r2 =>
      intro c hc
      have hc2 : c ∈ q ++ ([47] ++ joinL [47] (q2 :: r2)) := hc
      rcases List.mem_append.mp hc2 with e | e
      · exact hq c e
      · rcases List.mem_append.mp e with e | e
        · rw [List.mem_singleton.mp e]
          decide
        · exact ih (fun p hp => h2 p (List.mem_cons_of_mem _ hp)) c e
theorem Good.le9 {l : List (Tx × Tx)} (g : Good l) : ∀ k ∈ dkeys l, k.length ≤ 900 := fun k h => Nat.le_trans (g.len k h) (by decide)
theorem has_of_not {b : Bool} (h : (!b) = false) : b = true := by
  cases b
  · cases h
  · rfl

/-! trees -/
theorem Good.old {l : List (Tx × Tx)} {k v : Tx} (g : Good l) (hk : k ∈ dkeys l) (hv : okV v) : Good (dput l k v) := g.put (g.pth k hk) hv
structure GT (l : List (Tx × Tx)) : Prop where
  g : Good l
  tree : ∀ a ∈ dkeys l, ∀ b ∈ dkeys l, ¬ Ben b a
theorem GT.nil : GT [] := ⟨Good.nil, fun a h => (nomatch h)⟩
theorem ben_irr (p : Tx) : ¬ Ben p p := fun h => Nat.lt_irrefl _ h.1
theorem GT.put {l : List (Tx × Tx)} {k v : Tx} (h : GT l) (hk : Pth k) (hv : okV v) (f : Free (dkeys l) k) : GT (dput l k v) := by
  refine ⟨h.g.put hk hv, fun a ha b hb => ?_⟩
  rcases mem_keys_put.mp ha with e | e
  · rcases mem_keys_put.mp hb with e2 | e2
    · rw [e, e2]
      exact ben_irr k
    · rw [e]
      exact (f b e2).1
  · rcases mem_keys_put.mp hb with e2 | e2
    · rw [e2]
      exact (f a e).2
    · exact h.tree a e b e2
theorem GT.old {l : List (Tx × Tx)} {k v : Tx} (h : GT l) (hk : k ∈ dkeys l) (hv : okV v) : GT (dput l k v) :=
  h.put (h.g.pth k hk) hv fun j hj => ⟨h.tree k hk j hj, h.tree j hj k hk⟩
theorem GT.del {l : List (Tx × Tx)} {k : Tx} (h : GT l) : GT (ddel l k) :=
  ⟨h.g.del, fun a ha b hb => h.tree a (mem_keys_del.mp ha).1 b (mem_keys_del.mp hb).1⟩
def tops (j : Nat) : Tx := lTops ++ dec (j : Int)
theorem dec_all : ∀ y < 200, (dec ((y : Nat) : Int)).length ≤ 3 ∧ Part (lTops ++ dec (y : Int)) := by decide +kernel
theorem dec_len (y : Nat) (h : y < 200) : (dec (y : Int)).length ≤ 3 := (dec_all y h).1
theorem small_log (y : Nat) (h : y < 200) : (y : Int).natAbs.log2 < 1920 := by
  have h2 : (y : Int).natAbs < 200 := by omega
  have h3 : ∀ n < 200, n.log2 < 1920 := by decide +kernel
  exact h3 _ h2
theorem tops_parts (y : Nat) (h : y < 200) : Parts [tops y, tx "x"] := ⟨⟨(by simp), (by simp)⟩, fun p hp => by
  rcases List.mem_cons.mp hp with e | e
  · rw [e]
    exact (dec_all y h).2
  · rw [List.mem_singleton.mp e]
    decide⟩
theorem tops_pth (y : Nat) (h : y < 200) : Pth ((lTops ++ (dec (y : Int))) ++ lSlx) := ⟨[tops y, tx "x"], tops_parts y h, rfl⟩
theorem tops_cuts (y : Nat) (h : y < 200) : cuts 47 ((lTops ++ (dec (y : Int))) ++ lSlx) = [tops y, tx "x"] := (tops_parts y h).cuts
theorem tops_one (y : Nat) (h : y < 200) : cuts 47 (tops y) = [tops y] := (show Parts [tops y] from ⟨⟨(by simp), (by simp)⟩, fun p hp => by rw [List.mem_singleton.mp hp]; exact (dec_all y h).2⟩).cuts
/-- what the elder tree is ahead of the tops -/
def Nm (sh : Int) (l : List (Tx × Tx)) : Prop := ∀ k ∈ dkeys l, (∃ j r, cuts 47 k = m_law_name_by j sh :: r) ∨ (cuts 47 k).length ≤ 2
theorem tops_free {sh : Int} {l : List (Tx × Tx)} (y : Nat) (h : y < 200) (hN : Nm sh l) (hn : tops y ∉ dkeys l) : Free (dkeys l) ((lTops ++ (dec (y : Int))) ++ lSlx) := fun k hk => by
  refine ⟨fun b => ?_, fun b => ?_⟩
  · have b1 := b.1
    have b2 := b.2
    rw [tops_cuts y h] at b1 b2
    rcases hN k hk with ⟨j, r, e⟩ | e
    · rw [e] at b2
      have b3 : m_law_name_by j sh = tops y := by
        have := congrArg (fun z => z.getD 0 []) b2
        exact this
      exact name_no_tops sh j (dec (y : Int)) b3
    · have b4 : [tops y, tx "x"].length = 2 := rfl
      omega
  · have b1 := b.1
    have b2 := b.2
    rw [tops_cuts y h] at b1 b2
    have hp := List.length_pos_iff.mpr (cuts_ne 47 k)
    have b4 : [tops y, tx "x"].length = 2 := rfl
    have h1 : (cuts 47 k).length = 1 := by omega
    rw [h1] at b2
    have e : cuts 47 k = cuts 47 (tops y) := by
      rw [tops_one y h, ← b2]
      rfl
    exact hn ((cuts_inj e) ▸ hk)
def topN (c : Int) : Int := (c / (11 : Int)) % ([(40 : Int), (170 : Int)].getD ((c / (440 : Int)) % (2 : Int)).toNat 0)
theorem top_ix (c : Int) : [(40 : Int), (170 : Int)].getD ((c / (440 : Int)) % (2 : Int)).toNat 0 = 40 ∨ [(40 : Int), (170 : Int)].getD ((c / (440 : Int)) % (2 : Int)).toNat 0 = 170 := by
  have h : ∀ n : Nat, n < 2 → [(40 : Int), (170 : Int)].getD n 0 = 40 ∨ [(40 : Int), (170 : Int)].getD n 0 = 170 := by decide
  exact h _ (by omega)
theorem topN_lt (c : Int) : 0 ≤ topN c ∧ topN c < 170 := by
  unfold topN
  rcases top_ix c with e | e
  · rw [e]
    omega
  · rw [e]
    omega
theorem topN_nat (c : Int) : ∃ y : Nat, y < 200 ∧ topN c = (y : Int) := by
  have h := topN_lt c
  exact ⟨(topN c).toNat, by omega, by omega⟩
theorem topN_dec (c : Int) : (dec (topN c)).length ≤ 3 ∧ (topN c).natAbs.log2 < 1920 := by
  obtain ⟨y, hy, e⟩ := topN_nat c
  rw [e]
  exact ⟨dec_len y hy, small_log y hy⟩
theorem topN_plain (c : Int) : (dec ((c / (11 : Int)) % ([(40 : Int), (170 : Int)].getD ((c / (440 : Int)) % (2 : Int)).toNat 0))).length ≤ 3 ∧ ((c / (11 : Int)) % ([(40 : Int), (170 : Int)].getD ((c / (440 : Int)) % (2 : Int)).toNat 0)).natAbs.log2 < 1920 := topN_dec c
theorem dkeys_at {l : List (Tx × Tx)} {i : Nat} (h : i < l.length) : (dkeys l).getD i [] ∈ dkeys l := by
  have h2 : i < (dkeys l).length := by rw [dkeys_len]; exact h
  rw [List.getD_eq_getElem?_getD, List.getElem?_eq_getElem h2]
  exact List.getElem_mem h2

theorem grown_pos {t : List (Tx × Tx)} {c : Int} (h : ((decide ((c % (3 : Int)) = (2 : Int))) && (decide ((0 : Int) < (t.length : Int)) && decide ((t.length : Int) < (30 : Int)))) = true) : 0 < t.length := by
  have h3 := of_decide_eq_true (Bool.and_eq_true_iff.mp (Bool.and_eq_true_iff.mp h).2).1
  omega
theorem grown_ix {t : List (Tx × Tx)} (c : Int) (h : 0 < t.length) : 0 ≤ (c / (3 : Int)) % (t.length : Int) ∧ (c / (3 : Int)) % (t.length : Int) < (t.length : Int) :=
  ⟨Int.emod_nonneg _ (by omega), Int.emod_lt_of_pos _ (by omega)⟩
theorem grown_at (c : Int) (t : List (Tx × Tx)) (s : Int) : m_law_grown_v5 c t s ∈ dkeys t ∨ (m_law_grown_v2 c = true ∧ m_law_grown_v5 c t s = ((lTops ++ dec (topN c)) ++ lSlx)) ∨ m_law_grown_v5 c t s = m_law_path_by c s := by
  unfold m_law_grown_v5
  split
  · rename_i h
    have hx := grown_ix c (grown_pos h)
    exact Or.inl (dkeys_at (by omega))
  · unfold m_law_grown_v4
    split
    · rename_i h
      exact Or.inr (Or.inl ⟨h, rfl⟩)
    · exact Or.inr (Or.inr rfl)
theorem grown_v5 {t : List (Tx × Tx)} (g : Good t) (c s : Int) : Pth (m_law_grown_v5 c t s) := by
  rcases grown_at c t s with e | e | e
  · exact g.pth _ e
  · obtain ⟨y, hy, e2⟩ := topN_nat c
    rw [e.2, e2]
    exact tops_pth y hy
  · rw [e]
    exact path_ok c s
theorem grown_free {t : List (Tx × Tx)} {c s : Int} (h : ((!(m_law_grown_v2 c)) && (m_law_is_free (m_law_grown_v6 t) (m_law_grown_v5 c t s))) = true) :
    m_law_grown_v5 c t s ∈ dkeys t ∨ (m_law_grown_v5 c t s = m_law_path_by c s ∧ Free (dkeys t) (m_law_grown_v5 c t s)) := by
  have e2 := Bool.and_eq_true_iff.mp h
  have hf := e2.2
  rw [free_of] at hf
  rcases grown_at c t s with z | z | z
  · exact Or.inl z
  · rw [z.1] at e2
    exact absurd e2.1 (by decide)
  · exact Or.inr ⟨z, of_decide_eq_true hf⟩
theorem grown_in {t : List (Tx × Tx)} {c s : Int} (h : ¬ (!dhas (m_law_grown_v6 t) (m_law_grown_v5 c t s)) = true) : m_law_grown_v5 c t s ∈ dkeys t := by
  refine (has_iff _ _).mp ?_
  cases e : dhas t (m_law_grown_v5 c t s) with
  | true => rfl
  | false =>
    have e3 : dhas (m_law_grown_v6 t) (m_law_grown_v5 c t s) = false := e
    rw [e3] at h
    exact absurd rfl h
theorem grown_keys (t : List (Tx × Tx)) (c s : Int) : ∀ k ∈ dkeys (m_law_grown t c s), k ∈ dkeys t ∨ k = m_law_path_by c s := fun k hk => by
  unfold m_law_grown m_law_grown_v12 at hk
  split at hk
  · unfold m_law_grown_v8 at hk
    split at hk
    · rename_i hf
      rcases mem_keys_put.mp hk with e | e
      · rcases grown_free hf with z | z
        · exact Or.inl (e ▸ z)
        · exact Or.inr (e.trans z.1)
      · exact Or.inl e
    · exact Or.inl hk
  · rename_i hn
    have hin := grown_in hn
    unfold m_law_grown_v11 at hk
    split at hk
    · exact Or.inl (mem_keys_del.mp hk).1
    · rcases mem_keys_put.mp hk with e | e
      · exact Or.inl (e ▸ hin)
      · exact Or.inl e
theorem grown_ok (t : List (Tx × Tx)) (c s : Int) (n : Nat) (h : t.length ≤ n ∧ GT t) : (m_law_grown t c s).length ≤ n + 1 ∧ GT (m_law_grown t c s) := by
  unfold m_law_grown m_law_grown_v12
  split
  · unfold m_law_grown_v8
    split
    · rename_i hf
      refine ⟨Nat.le_trans (put_len _ _ _) (Nat.succ_le_succ h.1), ?_⟩
      rcases grown_free hf with z | z
      · exact h.2.old z (line_ok _ _)
      · exact h.2.put (grown_v5 h.2.g c s) (line_ok _ _) z.2
    · exact ⟨Nat.le_succ_of_le h.1, h.2⟩
  · rename_i hn
    have hin := grown_in hn
    unfold m_law_grown_v11
    split
    · exact ⟨Nat.le_trans (del_len _ _) (Nat.le_succ_of_le h.1), h.2.del⟩
    · exact ⟨Nat.le_trans (put_len _ _ _) (Nat.succ_le_succ h.1), h.2.old hin (line_ok _ _)⟩
/-! the trees -/
def many1 (sc : List Int) : Nat := ([(0 : Int), ((m_law_trees_v2 sc) % (7 : Int))].getD (((m_law_trees_v2 sc) / (56 : Int)) % (2 : Int)).toNat 0).toNat
theorem many1_ix (z : Int) (n : Nat) (hn : n < 2) : 0 ≤ [(0 : Int), (z % (7 : Int))].getD n 0 ∧ [(0 : Int), (z % (7 : Int))].getD n 0 ≤ 6 := by
  match n, hn with
  | 0, _ => exact ⟨show (0 : Int) ≤ 0 by decide, show (0 : Int) ≤ 6 by decide⟩
  | 1, _ => exact ⟨show (0 : Int) ≤ z % 7 by omega, show z % 7 ≤ (6 : Int) by omega⟩
theorem many1_in (sc : List Int) : 0 ≤ [(0 : Int), ((m_law_trees_v2 sc) % (7 : Int))].getD (((m_law_trees_v2 sc) / (56 : Int)) % (2 : Int)).toNat 0 ∧ [(0 : Int), ((m_law_trees_v2 sc) % (7 : Int))].getD (((m_law_trees_v2 sc) / (56 : Int)) % (2 : Int)).toNat 0 ≤ 6 := many1_ix _ _ (by omega)
theorem many1_le (sc : List Int) : many1 sc ≤ 6 := by
  have h := many1_in sc
  unfold many1
  omega
theorem trees1 {sc : List Int} {i y : Nat} {s : List (Tx × Tx)} (h : runL (m_law_trees_step1 sc) ((List.range (many1 sc)).take i) m_law_trees_v3 = .go s) (hy : (List.range (many1 sc))[i]? = some y) : Good s ∧ s.length ≤ 1000 := by
  have hi := (List.getElem?_eq_some_iff.mp hy).1
  have := run_cnt (g := fun s y => m_law_trees_v4 s sc y) (fun _ _ => rfl) (I := fun n s => s.length ≤ n ∧ GT s) h (Nat.le_of_lt hi) ⟨Nat.le_refl _, GT.nil⟩ fun n s y _ h => grown_ok _ _ _ n h
  have h2 := many1_le sc
  rw [List.length_range] at hi
  exact ⟨this.2.g, by have := this.1; omega⟩
theorem trees_v5 (sc : List Int) : ((m_law_trees_v5 sc).length ≤ 6 ∧ GT (m_law_trees_v5 sc)) ∧ Nm (m_law_trees_v1 sc) (m_law_trees_v5 sc) := by
  have := out_cnt (step := m_law_trees_step1 sc) (g := fun s y => m_law_trees_v4 s sc y) (fun _ _ => rfl) (I := fun n s => (s.length ≤ n ∧ GT s) ∧ Nm (m_law_trees_v1 sc) s) (l := List.range (many1 sc)) (s0 := m_law_trees_v3) ⟨⟨Nat.le_refl _, GT.nil⟩, fun k h => (nomatch h)⟩ fun n s y _ h =>
    ⟨grown_ok _ _ _ n h.1, fun k hk => (grown_keys _ _ _ k hk).elim (h.2 k) fun e => Or.inl (by rw [e]; exact path_cuts _ _)⟩
  rw [List.length_range] at this
  have h2 := many1_le sc
  exact ⟨⟨Nat.le_trans this.1.1 h2, this.1.2⟩, this.2⟩
def many2 (sc : List Int) : Nat := ([(0 : Int), (40 : Int), (0 : Int), (0 : Int), (0 : Int), (0 : Int), (170 : Int), (0 : Int), (0 : Int), (40 : Int), (0 : Int), (0 : Int), (0 : Int), (0 : Int), (0 : Int), (0 : Int)].getD (((m_law_trees_v2 sc) / (7 : Int)) % (16 : Int)).toNat 0).toNat
theorem many2_all : ∀ n < 16, 0 ≤ [(0 : Int), (40 : Int), (0 : Int), (0 : Int), (0 : Int), (0 : Int), (170 : Int), (0 : Int), (0 : Int), (40 : Int), (0 : Int), (0 : Int), (0 : Int), (0 : Int), (0 : Int), (0 : Int)].getD n 0 ∧ [(0 : Int), (40 : Int), (0 : Int), (0 : Int), (0 : Int), (0 : Int), (170 : Int), (0 : Int), (0 : Int), (40 : Int), (0 : Int), (0 : Int), (0 : Int), (0 : Int), (0 : Int), (0 : Int)].getD n 0 ≤ 170 := by decide
theorem many2_in (sc : List Int) : 0 ≤ [(0 : Int), (40 : Int), (0 : Int), (0 : Int), (0 : Int), (0 : Int), (170 : Int), (0 : Int), (0 : Int), (40 : Int), (0 : Int), (0 : Int), (0 : Int), (0 : Int), (0 : Int), (0 : Int)].getD (((m_law_trees_v2 sc) / (7 : Int)) % (16 : Int)).toNat 0 ∧ [(0 : Int), (40 : Int), (0 : Int), (0 : Int), (0 : Int), (0 : Int), (170 : Int), (0 : Int), (0 : Int), (40 : Int), (0 : Int), (0 : Int), (0 : Int), (0 : Int), (0 : Int), (0 : Int)].getD (((m_law_trees_v2 sc) / (7 : Int)) % (16 : Int)).toNat 0 ≤ 170 := many2_all _ (by omega)
theorem many2_le (sc : List Int) : many2 sc ≤ 170 := by
  have h := many2_in sc
  unfold many2
  omega
theorem trees_step2 (sc : List Int) (n : Nat) (s : List (Tx × Tx)) (y : Nat) (hy : y < 170) (h : (s.length ≤ 6 + n ∧ GT s) ∧ Nm (m_law_trees_v1 sc) s) : ((m_law_trees_v7 y s sc).length ≤ 6 + (n + 1) ∧ GT (m_law_trees_v7 y s sc)) ∧ Nm (m_law_trees_v1 sc) (m_law_trees_v7 y s sc) := by
  unfold m_law_trees_v7
  split
  · rename_i hb
    have hn : tops y ∉ dkeys s := fun z => by
      rw [has_dec, decide_eq_true (show lTops ++ dec (y : Int) ∈ dkeys s from z)] at hb
      cases hb
    refine ⟨⟨Nat.le_trans (put_len _ _ _) (Nat.succ_le_succ h.1.1), h.1.2.put (tops_pth y (by omega)) (line_ok _ _) (tops_free y (by omega) h.2 hn)⟩, fun k hk => ?_⟩
    rcases mem_keys_put.mp hk with e | e
    · rw [e, tops_cuts y (by omega)]
      exact Or.inr (Nat.le_refl _)
    · exact h.2 k e
  · exact ⟨⟨Nat.le_succ_of_le h.1.1, h.1.2⟩, h.2⟩
theorem trees_y {sc : List Int} {n y : Nat} (hy : (List.range (many2 sc))[n]? = some y) : y < 170 := by
  have := List.mem_range.mp (List.mem_of_getElem? hy)
  have := many2_le sc
  omega
theorem trees2 {sc : List Int} {i y : Nat} {s : List (Tx × Tx)} (h : runL (m_law_trees_step2 sc) ((List.range (many2 sc)).take i) (m_law_trees_v5 sc) = .go s) (hy : (List.range (many2 sc))[i]? = some y) : s.length ≤ 176 ∧ y < 170 := by
  have hi := (List.getElem?_eq_some_iff.mp hy).1
  have := run_cnt (g := fun s y => m_law_trees_v7 y s sc) (fun _ _ => rfl) (I := fun n s => (s.length ≤ 6 + n ∧ GT s) ∧ Nm (m_law_trees_v1 sc) s) h (Nat.le_of_lt hi) (trees_v5 sc) fun n s y e h => trees_step2 sc n s y (trees_y e) h
  rw [List.length_range] at hi
  have h2 := many2_le sc
  exact ⟨by have := this.1.1; omega, trees_y hy⟩
theorem trees_v8 (sc : List Int) : (m_law_trees_v8 sc).length ≤ 176 ∧ GT (m_law_trees_v8 sc) := by
  have := out_cnt (step := m_law_trees_step2 sc) (g := fun s y => m_law_trees_v7 y s sc) (fun _ _ => rfl) (I := fun n s => (s.length ≤ 6 + n ∧ GT s) ∧ Nm (m_law_trees_v1 sc) s) (l := List.range (many2 sc)) (s0 := m_law_trees_v5 sc) (trees_v5 sc) fun n s y e h => trees_step2 sc n s y (trees_y e) h
  rw [List.length_range] at this
  have h2 := many2_le sc
  exact ⟨Nat.le_trans this.1.1 (by omega), this.1.2⟩
theorem trees3 (sc : List Int) {i y : Nat} {s : List (Tx × Tx)} (h : runL (m_law_trees_step3 sc) ((List.range ((m_law_cell_at sc (2 : Int)) % (9 : Int)).toNat).take i) (m_law_trees_v9 sc) = .go s) (hy : (List.range ((m_law_cell_at sc (2 : Int)) % (9 : Int)).toNat)[i]? = some y) : Good s ∧ s.length ≤ 1000 := by
  have hi := (List.getElem?_eq_some_iff.mp hy).1
  have := run_cnt (g := fun s y => m_law_trees_v10 s sc y) (fun _ _ => rfl) (I := fun n s => s.length ≤ 176 + n ∧ GT s) h (Nat.le_of_lt hi) (trees_v8 sc) fun n s y _ h => grown_ok _ _ _ (176 + n) h
  rw [List.length_range] at hi
  exact ⟨this.2.g, by have := this.1; omega⟩
theorem trees_v11 (sc : List Int) : (m_law_trees_v11 sc).length ≤ 184 ∧ GT (m_law_trees_v11 sc) := by
  have := out_cnt (step := m_law_trees_step3 sc) (g := fun s y => m_law_trees_v10 s sc y) (fun _ _ => rfl) (I := fun n s => s.length ≤ 176 + n ∧ GT s) (l := List.range ((m_law_cell_at sc (2 : Int)) % (9 : Int)).toNat) (s0 := m_law_trees_v9 sc) (trees_v8 sc) fun n s y _ h => grown_ok _ _ _ (176 + n) h
  rw [List.length_range] at this
  exact ⟨Nat.le_trans this.1 (by omega), this.2⟩
theorem trees4 (sc : List Int) {i y : Nat} {s : List (Tx × Tx)} (h : runL (m_law_trees_step4 sc) ((List.range ((m_law_cell_at sc (3 : Int)) % (9 : Int)).toNat).take i) (m_law_trees_v12 sc) = .go s) (hy : (List.range ((m_law_cell_at sc (3 : Int)) % (9 : Int)).toNat)[i]? = some y) : Good s ∧ s.length ≤ 1000 := by
  have hi := (List.getElem?_eq_some_iff.mp hy).1
  have := run_cnt (g := fun s y => m_law_trees_v13 s sc y) (fun _ _ => rfl) (I := fun n s => s.length ≤ 176 + n ∧ GT s) h (Nat.le_of_lt hi) (trees_v8 sc) fun n s y _ h => grown_ok _ _ _ (176 + n) h
  rw [List.length_range] at hi
  exact ⟨this.2.g, by have := this.1; omega⟩
theorem trees_v14 (sc : List Int) : (m_law_trees_v14 sc).length ≤ 184 ∧ GT (m_law_trees_v14 sc) := by
  have := out_cnt (step := m_law_trees_step4 sc) (g := fun s y => m_law_trees_v13 s sc y) (fun _ _ => rfl) (I := fun n s => s.length ≤ 176 + n ∧ GT s) (l := List.range ((m_law_cell_at sc (3 : Int)) % (9 : Int)).toNat) (s0 := m_law_trees_v12 sc) (trees_v8 sc) fun n s y _ h => grown_ok _ _ _ (176 + n) h
  rw [List.length_range] at this
  exact ⟨Nat.le_trans this.1 (by omega), this.2⟩
theorem old_len {l : List (Tx × Tx)} {k v : Tx} (h : k ∈ dkeys l) : (dput l k v).length = l.length := by
  rw [← dkeys_len, keys_put, if_pos h, dkeys_len]
theorem small_dec : ∀ n < 2, (dec ((n : Nat) : Int)).length ≤ 3 ∧ ∀ c ∈ dec (n : Int), c < 128 := by decide +kernel
theorem left_ok : okV l_12c0f1fb := ⟨by rw [len_l_12c0f1fb]; omega, by decide +kernel⟩
theorem right_ok (x : Int) : okV (l_d27a1f11 ++ (dec (x % (2 : Int)))) := by
  have h2 : x % 2 = (((x % 2).toNat : Nat) : Int) := by omega
  have hd := small_dec (x % 2).toNat (by omega)
  rw [h2]
  refine ⟨by rw [List.length_append, len_l_d27a1f11]; omega, fun c hc => ?_⟩
  rcases List.mem_append.mp hc with z | z
  · have : ∀ c ∈ l_d27a1f11, c < 128 := by decide +kernel
    exact this c z
  · exact hd.2 c z
theorem right_two (x : Int) : (dec (x % (2 : Int))).length ≤ 3 ∧ (x % (2 : Int)).natAbs.log2 < 1920 := by
  have h2 : x % 2 = (((x % 2).toNat : Nat) : Int) := by omega
  rw [h2]
  exact ⟨(small_dec (x % 2).toNat (by omega)).1, small_log _ (by omega)⟩
theorem trees_step5 (sc : List Int) (s : List (Tx × Tx) × List (Tx × Tx)) (y : Nat) (h : (s.1.length ≤ 184 ∧ GT s.1) ∧ (s.2.length ≤ 184 ∧ GT s.2)) : ((m_law_trees_v19 y sc s).length ≤ 184 ∧ GT (m_law_trees_v19 y sc s)) ∧ ((m_law_trees_v20 y sc s).length ≤ 184 ∧ GT (m_law_trees_v20 y sc s)) := by
  unfold m_law_trees_v19 m_law_trees_v20
  split
  · rename_i hb
    have h1 := (has_iff _ _).mp (Bool.and_eq_true_iff.mp hb).1
    have h2 := (has_iff _ _).mp (Bool.and_eq_true_iff.mp hb).2
    exact ⟨⟨by unfold m_law_trees_v17; rw [old_len h1]; exact h.1.1, h.1.2.old h1 left_ok⟩, ⟨by unfold m_law_trees_v18; rw [old_len h2]; exact h.2.1, h.2.2.old h2 (right_ok _)⟩⟩
  · exact h
theorem many5_le (sc : List Int) : (((m_law_trees_v15 sc) + ((40 : Int) * (((m_law_trees_v2 sc) / (112 : Int)) % (2 : Int)))) - (m_law_trees_v15 sc)).toNat ≤ 40 := by omega
theorem trees5 {sc : List Int} {i : Nat} {s : List (Tx × Tx) × List (Tx × Tx)} (h : runL (m_law_trees_step5 sc) ((List.range (((m_law_trees_v15 sc) + ((40 : Int) * (((m_law_trees_v2 sc) / (112 : Int)) % (2 : Int)))) - (m_law_trees_v15 sc)).toNat).take i) ((m_law_trees_v11 sc), (m_law_trees_v14 sc)) = .go s) : s.1.length ≤ 184 ∧ s.2.length ≤ 184 := by
  have := run_inv (g := fun (s : List (Tx × Tx) × List (Tx × Tx)) (y : Nat) => (m_law_trees_v19 y sc s, m_law_trees_v20 y sc s)) (fun _ _ => rfl) (I := fun s => (s.1.length ≤ 184 ∧ GT s.1) ∧ (s.2.length ≤ 184 ∧ GT s.2)) h ⟨trees_v11 sc, trees_v14 sc⟩ (by intro s y _ h; exact trees_step5 sc s y h)
  exact ⟨this.1.1, this.2.1⟩
theorem trees_nat (sc : List Int) (y : Nat) (hy : y < 40) : ∃ n : Nat, n < 200 ∧ ((m_law_trees_v15 sc) + (y : Int)) = (n : Int) := by
  unfold m_law_trees_v15
  exact ⟨((((m_law_cell_at sc (2 : Int)) / (9 : Int)) % (150 : Int)) + (y : Int)).toNat, by omega, by omega⟩
theorem trees_dec (sc : List Int) {y : Nat} (hy : y < (((m_law_trees_v15 sc) + ((40 : Int) * (((m_law_trees_v2 sc) / (112 : Int)) % (2 : Int)))) - (m_law_trees_v15 sc)).toNat) : (dec ((m_law_trees_v15 sc) + (y : Int))).length ≤ 3 ∧ ((m_law_trees_v15 sc) + (y : Int)).natAbs.log2 < 1920 := by
  obtain ⟨n, hn, e⟩ := trees_nat sc y (Nat.lt_of_lt_of_le hy (many5_le sc))
  rw [e]
  exact ⟨dec_len n hn, small_log n hn⟩
theorem trees_v15 (sc : List Int) : 0 ≤ m_law_trees_v15 sc ∧ m_law_trees_v15 sc < 150 := by
  unfold m_law_trees_v15
  omega
theorem trees_v21 (sc : List Int) : ((m_law_trees_v21 sc).1.length ≤ 184 ∧ GT (m_law_trees_v21 sc).1) ∧ ((m_law_trees_v21 sc).2.length ≤ 184 ∧ GT (m_law_trees_v21 sc).2) := by
  unfold m_law_trees_v21
  rw [out_all (step := m_law_trees_step5 sc) (g := fun s y => (m_law_trees_v19 y sc s, m_law_trees_v20 y sc s)) (fun _ _ => rfl)]
  refine fold_inv (f := fun (s : List (Tx × Tx) × List (Tx × Tx)) (y : Nat) => (m_law_trees_v19 y sc s, m_law_trees_v20 y sc s)) (I := fun s => (s.1.length ≤ 184 ∧ GT s.1) ∧ (s.2.length ≤ 184 ∧ GT s.2)) ⟨trees_v11 sc, trees_v14 sc⟩ ?_
  intro s y _ h
  exact trees_step5 sc s y h

theorem marks_loop {e o t : List (Tx × Tx)} (hp : e.length ≤ 1000 ∧ o.length ≤ 1000 ∧ t.length ≤ 1000) {i : Nat} {s : List (List Tx)} {y : Tx} (h : runL (m_marks_step1 e o t) ((srt (uniT (uniT (dkeys e) (dkeys o)) (dkeys t))).take i) m_marks_v1 = .go s) (hy : (srt (uniT (uniT (dkeys e) (dkeys o)) (dkeys t)))[i]? = some y) : s.length ≤ 3000 := by
  have hi := (List.getElem?_eq_some_iff.mp hy).1
  have h1 := run_cnt (g := fun s y => m_marks_v4 e y o t s) (fun _ _ => rfl) (I := fun n s => s.length ≤ n) h (Nat.le_of_lt hi) (Nat.le_refl 0) (fun n s y _ hs => by
    show (m_marks_v4 e y o t s).length ≤ n + 1
    unfold m_marks_v4 m_marks_v3
    split
    · rw [List.length_append, List.length_singleton]
      exact Nat.succ_le_succ hs
    · exact Nat.le_succ_of_le hs)
  rw [srt_len] at hi
  have a1 := uniT_len (dkeys o) (dkeys e)
  have a2 := uniT_len (dkeys t) (uniT (dkeys e) (dkeys o))
  have b1 := dkeys_len e
  have b2 := dkeys_len o
  have b3 := dkeys_len t
  have c1 := hp.1
  have c2 := hp.2.1
  have c3 := hp.2.2
  have h2 : s.length ≤ i := h1
  omega

/-! what marks tells -/
def put1 {α β : Type} (f : α → Option β) (s : List β) (y : α) : List β := match f y with
  | some b => s ++ [b]
  | none => s
theorem fold_fm {α β : Type} (f : α → Option β) {g : List β → α → List β} (hg : ∀ s y, g s y = put1 f s y) : ∀ (l : List α) (s : List β), l.foldl g s = s ++ l.filterMap f
  | [], s => (List.append_nil s).symm
  | y :: l, s => by
    rw [List.foldl_cons, fold_fm f hg l, hg]
    unfold put1
    cases e : f y with
    | none => rw [List.filterMap_cons_none e]
    | some b => rw [List.filterMap_cons_some e, List.append_assoc]; rfl
theorem fold_pair {α β γ : Type} {g : β × γ → α → β × γ} {g1 : β → α → β} {g2 : γ → α → γ} (h : ∀ s y, g s y = (g1 s.1 y, g2 s.2 y)) : ∀ (l : List α) (a : β) (b : γ), l.foldl g (a, b) = (l.foldl g1 a, l.foldl g2 b)
  | [], _, _ => rfl
  | y :: l, a, b => by
    rw [List.foldl_cons, h, fold_pair h l]
    rfl
def mkF (e o t : List (Tx × Tx)) (p : Tx) : Option (List Tx) := (m_mark_of (dget e p) (dget o p) (dget t p)).map fun w => [p, w]
theorem marks_is (e o t : List (Tx × Tx)) : m_marks e o t = (srt (uniT (uniT (dkeys e) (dkeys o)) (dkeys t))).filterMap (mkF e o t) := by
  show outL (runL (m_marks_step1 e o t) _ m_marks_v1) = _
  rw [out_all (step := m_marks_step1 e o t) (g := fun s y => m_marks_v4 e y o t s) (fun _ _ => rfl), fold_fm (mkF e o t) (fun s y => ?_) _ _]
  · rfl
  · unfold m_marks_v4 m_marks_v3 m_marks_v2 put1 mkF
    cases m_mark_of (dget e y) (dget o y) (dget t y) <;> rfl
theorem mark_words (a b c : Option Tx) : ∀ w, m_mark_of a b c = some w → ∀ x ∈ w, x < 128 := by
  intro w h
  unfold m_mark_of at h
  have h1 : ∀ x ∈ l_fe05bcdc, x < 128 := by decide +kernel
  have h2 : ∀ x ∈ l_d0941e68, x < 128 := by decide +kernel
  have h3 : ∀ x ∈ l_b79634d7, x < 128 := by decide +kernel
  have h4 : ∀ x ∈ l_4581fc00, x < 128 := by decide +kernel
  split at h
  · split at h
    · cases h
    · cases h
      exact h3
  · split at h
    · cases h
      exact h1
    · split at h
      · cases h
        exact h2
      · cases h
        exact h4
theorem marks_okT {e o t : List (Tx × Tx)} (ge : Good e) (go : Good o) (gt : Good t) : ∀ q ∈ m_marks e o t, ∀ p ∈ q, okT p := by
  intro q hq p hp c hc
  rw [marks_is] at hq
  obtain ⟨k, hk, hm⟩ := List.mem_filterMap.mp hq
  have hkk := mem_uniT.mp (mem_srt.mp hk)
  have hpk : Pth k := by
    rcases hkk with z | z
    · rcases mem_uniT.mp z with z | z
      · exact ge.pth k z
      · exact go.pth k z
    · exact gt.pth k z
  unfold mkF at hm
  obtain ⟨w, hw, rfl⟩ := Option.map_eq_some_iff.mp hm
  have h128 : c < 128 := by
    rcases List.mem_cons.mp hp with z | z
    · exact pth_sign hpk c (z ▸ hc)
    · rw [List.mem_singleton.mp z] at hc
      exact mark_words _ _ _ w hw c hc
  exact Nat.lt_of_lt_of_le h128 (by decide)

theorem marks_two {e o t : List (Tx × Tx)} : ∀ q ∈ m_marks e o t, q.length = 2 := by
  intro q hq
  rw [marks_is] at hq
  obtain ⟨k, hk, hm⟩ := List.mem_filterMap.mp hq
  unfold mkF at hm
  obtain ⟨w, hw, rfl⟩ := Option.map_eq_some_iff.mp hm
  rfl
theorem marks_len {e o t : List (Tx × Tx)} (hp : e.length ≤ 1000 ∧ o.length ≤ 1000 ∧ t.length ≤ 1000) : (m_marks e o t).length ≤ 3000 := by
  rw [marks_is]
  have h0 := List.length_filterMap_le (mkF e o t) (srt (uniT (uniT (dkeys e) (dkeys o)) (dkeys t)))
  rw [srt_len] at h0
  have a1 := uniT_len (dkeys o) (dkeys e)
  have a2 := uniT_len (dkeys t) (uniT (dkeys e) (dkeys o))
  have b1 := dkeys_len e
  have b2 := dkeys_len o
  have b3 := dkeys_len t
  have c1 := hp.1
  have c2 := hp.2.1
  have c3 := hp.2.2
  omega

/-! what stands without any pick -/
def agF (b l r : Option Tx) : Option Tx := if l = r then l else if r = b then l else if l = b then r else none
def clsh (b l r : Option Tx) : Bool := !decide (l = r) && (!decide (l = b) && !decide (r = b))
theorem clsh_sym (b l r : Option Tx) : clsh b r l = clsh b l r := by
  unfold clsh
  have e : decide (r = l) = decide (l = r) := decide_eq_decide.mpr ⟨Eq.symm, Eq.symm⟩
  rw [e, Bool.and_comm (!decide (r = b))]
theorem agF_sym (b l r : Option Tx) : agF b r l = agF b l r := by
  unfold agF
  by_cases h1 : l = r
  · rw [if_pos h1, if_pos h1.symm, h1]
  · rw [if_neg h1, if_neg (fun z => h1 z.symm)]
    by_cases h2 : r = b
    · by_cases h3 : l = b
      · exact absurd (h3.trans h2.symm) h1
      · rw [if_neg h3, if_pos h2, if_pos h2]
    · rw [if_neg h2, if_neg h2]
theorem mark_clash (b l r : Option Tx) : (m_mark_of b l r = some l_4581fc00) ↔ clsh b l r = true := by
  have n1 : ¬ l_b79634d7 = l_4581fc00 := by decide +kernel
  have n2 : ¬ l_fe05bcdc = l_4581fc00 := by decide +kernel
  have n3 : ¬ l_d0941e68 = l_4581fc00 := by decide +kernel
  unfold m_mark_of clsh
  by_cases h1 : l = r
  · subst h1
    by_cases h2 : l = b
    · simp [h2]
    · simp [h2, n1]
  · by_cases h2 : r = b
    · subst h2
      simp [h1, n2]
    · by_cases h3 : l = b
      · subst h3
        simp [h1, h2, n3]
      · simp [h1, h2, h3]
theorem get_settle (l : List (Tx × Tx)) (k : Tx) (x : Option Tx) (j : Tx) : dget (m_settle l k x) j = if j = k then x else dget l j := by
  cases x with
  | none => exact get_del l k j
  | some t => exact get_put l k t j
theorem nodup_settle {l : List (Tx × Tx)} {k : Tx} {x : Option Tx} (h : (dkeys l).Nodup) : (dkeys (m_settle l k x)).Nodup := by
  cases x with
  | none => exact nodup_del h
  | some t => exact nodup_put h
theorem settle_len (l : List (Tx × Tx)) (k : Tx) (x : Option Tx) : (m_settle l k x).length ≤ l.length + 1 := by
  cases x with
  | none => exact Nat.le_trans (del_len _ _) (Nat.le_succ _)
  | some t => exact put_len _ _ _
def AG (e o t : List (Tx × Tx)) (p : Tx) : Option Tx := agF (dget e p) (dget o p) (dget t p)
def CLp (e o t : List (Tx × Tx)) (p : Tx) : Bool := clsh (dget e p) (dget o p) (dget t p)
def unK (e o t : List (Tx × Tx)) : List Tx := srt (uniT (uniT (dkeys e) (dkeys o)) (dkeys t))
theorem mem_unK {e o t : List (Tx × Tx)} {p : Tx} : p ∈ unK e o t ↔ (p ∈ dkeys e ∨ p ∈ dkeys o) ∨ p ∈ dkeys t := by
  unfold unK
  rw [mem_srt, mem_uniT, mem_uniT]
theorem nodup_unK {e : List (Tx × Tx)} (o t : List (Tx × Tx)) (ge : (dkeys e).Nodup) : (unK e o t).Nodup := srt_nodup (nodup_uniT (nodup_uniT ge))
theorem get_isSome {l : List (Tx × Tx)} {p : Tx} : (dget l p).isSome = true ↔ p ∈ dkeys l := has_iff l p
theorem unK_none {e o t : List (Tx × Tx)} {p : Tx} (h : p ∉ unK e o t) : dget e p = none ∧ dget o p = none ∧ dget t p = none :=
  ⟨get_none fun z => h (mem_unK.mpr (Or.inl (Or.inl z))), get_none fun z => h (mem_unK.mpr (Or.inl (Or.inr z))), get_none fun z => h (mem_unK.mpr (Or.inr z))⟩
theorem AG_un {e o t : List (Tx × Tx)} {p : Tx} (h : (AG e o t p).isSome = true) : p ∈ unK e o t := Classical.byContradiction fun n => by
  obtain ⟨a, b, c⟩ := unK_none n
  unfold AG at h
  rw [a, b, c] at h
  cases h
theorem CL_un {e o t : List (Tx × Tx)} {p : Tx} (h : CLp e o t p = true) : p ∈ unK e o t := Classical.byContradiction fun n => by
  obtain ⟨a, b, c⟩ := unK_none n
  unfold CLp at h
  rw [a, b, c] at h
  cases h
/-- one step of agreed at a path -/
def agS (e o t : List (Tx × Tx)) (s : List (Tx × Tx)) (p : Tx) : List (Tx × Tx) := match mkF e o t p with
  | some q => m_agreed_v6 q s t o
  | none => s
theorem agreed_is (e o t : List (Tx × Tx)) : m_agreed e o t = (unK e o t).foldl (agS e o t) e := by
  show outL (runL (m_agreed_step1 o t) (m_marks e o t) (m_agreed_v1 e)) = _
  rw [out_all (step := m_agreed_step1 o t) (g := fun s y => m_agreed_v6 y s t o) (fun _ _ => rfl), marks_is, List.foldl_filterMap]
  show (unK e o t).foldl _ e = _
  congr 1
  funext s p
  unfold agS
  cases mkF e o t p <;> rfl
theorem agS_some {e o t s : List (Tx × Tx)} {p : Tx} {w : Tx} (h : m_mark_of (dget e p) (dget o p) (dget t p) = some w) : agS e o t s p = m_settle s p (AG e o t p) := by
  have n1 : ¬ l_b79634d7 = l_4581fc00 := by decide +kernel
  have n2 : ¬ l_fe05bcdc = l_4581fc00 := by decide +kernel
  have n3 : ¬ l_d0941e68 = l_4581fc00 := by decide +kernel
  have n4 : ¬ l_b79634d7 = l_d0941e68 := by decide +kernel
  have n5 : ¬ l_fe05bcdc = l_d0941e68 := by decide +kernel
  have em : mkF e o t p = some [p, w] := by
    unfold mkF
    rw [h]
    rfl
  have eS : agS e o t s p = m_agreed_v6 [p, w] s t o := by
    unfold agS
    rw [em]
  rw [eS]
  unfold m_agreed_v6 m_agreed_v5 m_agreed_v4 m_agreed_v3 m_agreed_v2 AG agF
  show (if decide (w = l_4581fc00) = true then m_settle s p none else if decide (w = l_d0941e68) = true then m_settle s p (dget t p) else m_settle s p (dget o p)) = _
  generalize dget e p = b at *
  generalize dget o p = l at *
  generalize dget t p = r at *
  unfold m_mark_of at h
  by_cases h1 : l = r
  · rw [if_pos (decide_eq_true h1)] at h
    by_cases h2 : l = b
    · rw [if_pos (decide_eq_true h2)] at h
      cases h
    · rw [if_neg (by rw [decide_eq_false h2]; exact Bool.false_ne_true)] at h
      cases h
      rw [if_neg (by rw [decide_eq_false n1]; exact Bool.false_ne_true), if_neg (by rw [decide_eq_false n4]; exact Bool.false_ne_true), if_pos h1]
  · rw [if_neg (by rw [decide_eq_false h1]; exact Bool.false_ne_true)] at h
    by_cases h2 : r = b
    · rw [if_pos (decide_eq_true h2)] at h
      cases h
      rw [if_neg (by rw [decide_eq_false n2]; exact Bool.false_ne_true), if_neg (by rw [decide_eq_false n5]; exact Bool.false_ne_true), if_neg h1, if_pos h2]
    · rw [if_neg (by rw [decide_eq_false h2]; exact Bool.false_ne_true)] at h
      by_cases h3 : l = b
      · rw [if_pos (decide_eq_true h3)] at h
        cases h
        rw [if_neg (by rw [decide_eq_false n3]; exact Bool.false_ne_true), if_pos (decide_eq_true rfl), if_neg h1, if_neg h2, if_pos h3]
      · rw [if_neg (by rw [decide_eq_false h3]; exact Bool.false_ne_true)] at h
        cases h
        rw [if_pos (decide_eq_true rfl), if_neg h1, if_neg h2, if_neg h3]
theorem mark_none {b l r : Option Tx} (h : m_mark_of b l r = none) : l = r ∧ l = b := by
  unfold m_mark_of at h
  by_cases h1 : l = r
  · rw [if_pos (decide_eq_true h1)] at h
    by_cases h2 : l = b
    · exact ⟨h1, h2⟩
    · rw [if_neg (by rw [decide_eq_false h2]; exact Bool.false_ne_true)] at h
      cases h
  · rw [if_neg (by rw [decide_eq_false h1]; exact Bool.false_ne_true)] at h
    split at h
    · cases h
    · split at h <;> cases h
theorem agS_none {e o t s : List (Tx × Tx)} {p : Tx} (h : m_mark_of (dget e p) (dget o p) (dget t p) = none) : agS e o t s p = s := by
  have em : mkF e o t p = none := by
    unfold mkF
    rw [h]
    rfl
  unfold agS
  rw [em]
theorem agS_get (e o t s : List (Tx × Tx)) (p j : Tx) (hs : dget s p = dget e p) : dget (agS e o t s p) j = if j = p then AG e o t p else dget s j := by
  cases h : m_mark_of (dget e p) (dget o p) (dget t p) with
  | some w => rw [agS_some h, get_settle]
  | none =>
    rw [agS_none h]
    by_cases hj : j = p
    · rw [if_pos hj, hj, hs]
      obtain ⟨h1, h2⟩ := mark_none h
      unfold AG agF
      rw [if_pos h1, h2]
    · rw [if_neg hj]
theorem agS_fold (e o t : List (Tx × Tx)) (j : Tx) : ∀ (l : List Tx) (s : List (Tx × Tx)), l.Nodup → (∀ p ∈ l, dget s p = dget e p) → dget (l.foldl (agS e o t) s) j = if j ∈ l then AG e o t j else dget s j
  | [], s, _, _ => rfl
  | p :: l, s, hn, hs => by
    rw [List.nodup_cons] at hn
    have h1 := agS_get e o t s p
    rw [List.foldl_cons, agS_fold e o t j l _ hn.2 fun q hq => by
      rw [h1 q (hs p List.mem_cons_self), if_neg (fun z : q = p => hn.1 (z ▸ hq))]
      exact hs q (List.mem_cons_of_mem _ hq)]
    rw [h1 j (hs p List.mem_cons_self)]
    by_cases h2 : j ∈ l
    · rw [if_pos h2, if_pos (List.mem_cons_of_mem _ h2)]
    · rw [if_neg h2]
      by_cases h3 : j = p
      · rw [if_pos h3, if_pos (by rw [h3]; exact List.mem_cons_self), h3]
      · rw [if_neg h3, if_neg fun z => (List.mem_cons.mp z).elim h3 h2]
theorem agreed_get {e : List (Tx × Tx)} (o t : List (Tx × Tx)) (ge : (dkeys e).Nodup) (p : Tx) : dget (m_agreed e o t) p = AG e o t p := by
  rw [agreed_is, agS_fold e o t p _ _ (nodup_unK o t ge) fun _ _ => rfl]
  by_cases h : p ∈ unK e o t
  · rw [if_pos h]
  · rw [if_neg h]
    obtain ⟨a, b, c⟩ := unK_none h
    unfold AG
    rw [a, b, c]
    rfl
theorem agS_inv {I : List (Tx × Tx) → Prop} (h : ∀ s k x, I s → I (m_settle s k x)) (e o t s : List (Tx × Tx)) (p : Tx) (hs : I s) : I (agS e o t s p) := by
  cases hm : m_mark_of (dget e p) (dget o p) (dget t p) with
  | some w =>
    rw [agS_some hm]
    exact h _ _ _ hs
  | none =>
    rw [agS_none hm]
    exact hs
theorem agreed_nd {e : List (Tx × Tx)} (o t : List (Tx × Tx)) (ge : (dkeys e).Nodup) : (dkeys (m_agreed e o t)).Nodup := by
  rw [agreed_is]
  exact fold_inv (I := fun s => (dkeys s).Nodup) ge fun s y _ h => agS_inv (I := fun s => (dkeys s).Nodup) (fun _ _ _ z => nodup_settle z) e o t s y h
theorem unK_len {e o t : List (Tx × Tx)} (hp : e.length ≤ 1000 ∧ o.length ≤ 1000 ∧ t.length ≤ 1000) : (unK e o t).length ≤ 3000 := by
  unfold unK
  rw [srt_len]
  have a1 := uniT_len (dkeys o) (dkeys e)
  have a2 := uniT_len (dkeys t) (uniT (dkeys e) (dkeys o))
  have b1 := dkeys_len e
  have b2 := dkeys_len o
  have b3 := dkeys_len t
  omega
theorem agreed_len {e o t : List (Tx × Tx)} (hp : e.length ≤ 1000 ∧ o.length ≤ 1000 ∧ t.length ≤ 1000) : (m_agreed e o t).length ≤ 4000 := by
  have h := fold_cnt (f := agS e o t) (I := fun n s => s.length ≤ 1000 + n) (l := unK e o t) (s0 := e) hp.1 (fun n s y _ h => by
    show (agS e o t s y).length ≤ 1000 + (n + 1)
    cases hm : m_mark_of (dget e y) (dget o y) (dget t y) with
    | some w =>
      rw [agS_some hm]
      have := settle_len s y (AG e o t y)
      have h2 : s.length ≤ 1000 + n := h
      omega
    | none =>
      rw [agS_none hm]
      exact Nat.le_succ_of_le h) _ (Nat.le_refl _)
  rw [List.take_length, ← agreed_is] at h
  have h2 := unK_len hp
  have h3 : (m_agreed e o t).length ≤ 1000 + (unK e o t).length := h
  omega
theorem agreed_loop {e o t : List (Tx × Tx)} (hp : e.length ≤ 1000 ∧ o.length ≤ 1000 ∧ t.length ≤ 1000) {i : Nat} {s : List (Tx × Tx)} {y : List Tx} (h : runL (m_agreed_step1 o t) ((m_marks e o t).take i) (m_agreed_v1 e) = .go s) (hy : (m_marks e o t)[i]? = some y) : s.length ≤ 4000 := by
  have hi := (List.getElem?_eq_some_iff.mp hy).1
  have h1 := run_cnt (g := fun s y => m_agreed_v6 y s t o) (fun _ _ => rfl) (I := fun n s => s.length ≤ 1000 + n) h (Nat.le_of_lt hi) hp.1 (fun n s y _ hs => by
    show (m_agreed_v6 y s t o).length ≤ 1000 + (n + 1)
    have hs2 : s.length ≤ 1000 + n := hs
    unfold m_agreed_v6 m_agreed_v5 m_agreed_v4 m_agreed_v3 m_agreed_v2
    split
    · exact Nat.le_trans (settle_len _ _ _) (by omega)
    · split
      · exact Nat.le_trans (settle_len _ _ _) (by omega)
      · exact Nat.le_trans (settle_len _ _ _) (by omega))
  have h2 := marks_len hp
  have h3 : s.length ≤ 1000 + i := h1
  omega
theorem agF_some {b l r : Option Tx} (h : (agF b l r).isSome = true) : (l.isSome = true ∧ r.isSome = true) ∨ (l.isSome = true ∧ r = none ∧ b = none) ∨ (r.isSome = true ∧ l = none ∧ b = none) := by
  unfold agF at h
  by_cases h1 : l = r
  · rw [if_pos h1] at h
    exact Or.inl ⟨h, h1 ▸ h⟩
  · rw [if_neg h1] at h
    by_cases h2 : r = b
    · rw [if_pos h2] at h
      cases r with
      | some x => exact Or.inl ⟨h, rfl⟩
      | none => exact Or.inr (Or.inl ⟨h, rfl, h2.symm⟩)
    · rw [if_neg h2] at h
      by_cases h3 : l = b
      · rw [if_pos h3] at h
        cases l with
        | some x => exact Or.inl ⟨rfl, h⟩
        | none => exact Or.inr (Or.inr ⟨h, rfl, h3.symm⟩)
      · rw [if_neg h3] at h
        cases h
theorem agreed_key {e : List (Tx × Tx)} (o t : List (Tx × Tx)) (ge : (dkeys e).Nodup) (p : Tx) : p ∈ dkeys (m_agreed e o t) ↔ (AG e o t p).isSome = true := by
  rw [← agreed_get o t ge, get_isSome]
theorem agreed_pth {e o t : List (Tx × Tx)} (ge : Good e) (go : Good o) (gt : Good t) : ∀ p ∈ dkeys (m_agreed e o t), Pth p := fun p hp => by
  have h := agF_some ((agreed_key o t ge.nd p).mp hp)
  rcases h with h | h | h
  · exact go.pth p (get_isSome.mp h.1)
  · exact go.pth p (get_isSome.mp h.1)
  · exact gt.pth p (get_isSome.mp h.1)
theorem pth_eight {p : Tx} (h : Pth p) : p.length ≤ 900 ∧ (cuts 47 p).length ≤ 8 := ⟨Nat.le_trans h.len (by decide), ((pth_iff p).mp h).1.2⟩
def P3 (e o t : List (Tx × Tx)) : Prop := (Good e ∧ Good o ∧ Good t) ∧ (e.length ≤ 1000 ∧ o.length ≤ 1000 ∧ t.length ≤ 1000)
theorem agreed_ok {e o t : List (Tx × Tx)} (h : P3 e o t) : (m_agreed e o t).length ≤ 4000 ∧ ∀ k ∈ dkeys (m_agreed e o t), k.length ≤ 900 ∧ (cuts 47 k).length ≤ 8 :=
  ⟨agreed_len h.2, fun k hk => pth_eight (agreed_pth h.1.1 h.1.2.1 h.1.2.2 k hk)⟩
theorem flat_len {α β : Type} (f : α → List β) (n : Nat) : ∀ (l : List α), (∀ x ∈ l, (f x).length ≤ n) → (l.flatMap f).length ≤ l.length * n
  | [], _ => Nat.zero_le _
  | x :: l, h => by
    have h1 := flat_len f n l fun y hy => h y (List.mem_cons_of_mem _ hy)
    have h2 := h x List.mem_cons_self
    rw [List.flatMap_cons, List.length_append, List.length_cons, Nat.succ_mul]
    omega
theorem over_len {l : List (Tx × Tx)} (h : l.length ≤ 4000 ∧ ∀ k ∈ dkeys l, k.length ≤ 900 ∧ (cuts 47 k).length ≤ 8) : (m_overlaps l).length ≤ 32000 := by
  unfold m_overlaps
  have h1 := flat_len (fun k0 => (((m_above k0)).filter (fun k1 : Tx => (dhas l k1))).map (fun k1 : Tx => [k1, k0])) 8 (dkeys l) fun x hx => by
    show (List.map _ _).length ≤ 8
    rw [List.length_map]
    have := List.length_filter_le (fun k1 : Tx => (dhas l k1)) (m_above x)
    have := above_cuts x
    have := (h.2 x hx).2
    omega
  rw [dkeys_len] at h1
  have h2 := h.1
  omega
/-! the clashes -/
theorem single_fil (e o t : List (Tx × Tx)) : ∀ l : List Tx, (((l.filterMap (mkF e o t)).filter (fun k0 : List Tx => (decide ((k0.getD 1 []) = l_4581fc00)))).map (fun k0 : List Tx => (k0.getD 0 []))) = l.filter (CLp e o t)
  | [] => rfl
  | p :: l => by
    have ih := single_fil e o t l
    cases h : m_mark_of (dget e p) (dget o p) (dget t p) with
    | none =>
      have em : mkF e o t p = none := by
        unfold mkF
        rw [h]
        rfl
      have hc : CLp e o t p = false := by
        cases z : CLp e o t p with
        | false => rfl
        | true =>
          have := (mark_clash _ _ _).mpr z
          rw [h] at this
          cases this
      rw [List.filterMap_cons_none em, List.filter_cons_of_neg (by rw [hc]; exact Bool.false_ne_true), ih]
    | some w =>
      have em : mkF e o t p = some [p, w] := by
        unfold mkF
        rw [h]
        rfl
      rw [List.filterMap_cons_some em]
      by_cases hw : w = l_4581fc00
      · have hc : CLp e o t p = true := (mark_clash _ _ _).mp (by rw [h, hw])
        rw [List.filter_cons_of_pos (by exact decide_eq_true hw), List.filter_cons_of_pos hc, List.map_cons, ih]
        rfl
      · have hc : CLp e o t p = false := by
          cases z : CLp e o t p with
          | false => rfl
          | true =>
            have := (mark_clash _ _ _).mpr z
            rw [h] at this
            exact absurd (Option.some.inj this) hw
        rw [List.filter_cons_of_neg (by
          show ¬ decide (w = l_4581fc00) = true
          rw [decide_eq_false hw]
          exact Bool.false_ne_true), List.filter_cons_of_neg (by rw [hc]; exact Bool.false_ne_true), ih]
theorem single_is (e o t : List (Tx × Tx)) : m_single_clashes e o t = (unK e o t).filter (CLp e o t) := by
  unfold m_single_clashes
  rw [marks_is]
  exact single_fil e o t _
theorem single_mem {e o t : List (Tx × Tx)} {p : Tx} : p ∈ m_single_clashes e o t ↔ CLp e o t p = true := by
  rw [single_is, List.mem_filter]
  exact ⟨And.right, fun h => ⟨CL_un h, h⟩⟩
theorem single_len {e o t : List (Tx × Tx)} (hp : e.length ≤ 1000 ∧ o.length ≤ 1000 ∧ t.length ≤ 1000) : (m_single_clashes e o t).length ≤ 3000 := by
  rw [single_is]
  exact Nat.le_trans (List.length_filter_le _ _) (unK_len hp)

/-- what is a clash -/
def CLq (e o t : List (Tx × Tx)) (q : List Tx) : Prop := (∃ p, q = [p] ∧ CLp e o t p = true) ∨ ∃ u p, q = [u, p] ∧ Ben p u ∧ (AG e o t p).isSome = true ∧ (AG e o t u).isSome = true
def clA (e o t : List (Tx × Tx)) : List (List Tx) := m_clashes_v1 e o t ++ m_overlaps (m_agreed e o t)
theorem clA_mem {e o t : List (Tx × Tx)} (ge : (dkeys e).Nodup) {q : List Tx} : q ∈ clA e o t ↔ CLq e o t q := by
  unfold clA m_clashes_v1 CLq
  rw [List.mem_append, List.mem_map]
  refine or_congr ⟨?_, ?_⟩ ⟨?_, ?_⟩
  · rintro ⟨p, hp, rfl⟩
    exact ⟨p, rfl, single_mem.mp hp⟩
  · rintro ⟨p, rfl, hp⟩
    exact ⟨p, single_mem.mpr hp, rfl⟩
  · intro h
    obtain ⟨p, hp, u, hu, hB, rfl⟩ := over_mem.mp h
    exact ⟨u, p, rfl, hB, (agreed_key o t ge p).mp hp, (agreed_key o t ge u).mp hu⟩
  · rintro ⟨u, p, rfl, hB, hp, hu⟩
    exact over_mem.mpr ⟨p, (agreed_key o t ge p).mpr hp, u, (agreed_key o t ge u).mpr hu, hB, rfl⟩
theorem nodup_map_on {α β : Type} {f : α → β} {l : List α} (hn : l.Nodup) (h : ∀ a ∈ l, ∀ b ∈ l, f a = f b → a = b) : (l.map f).Nodup := by
  unfold List.Nodup
  rw [List.pairwise_map]
  exact List.Pairwise.imp_of_mem (fun ha hb hne e => hne (h _ ha _ hb e)) hn
theorem above_is (p : Tx) : m_above p = (List.range ((cuts 47 p).length - 1)).map fun k => joinL [47] ((cuts 47 p).take (k + 1)) := by
  unfold m_above m_above_v1
  rw [lSl_eq]
  have e3 : (((cuts 47 p).length : Nat) : Int) - 1 = (((cuts 47 p).length - 1 : Nat) : Int) := by
    have := List.length_pos_iff.mpr (cuts_ne 47 p)
    omega
  rw [e3, Int.toNat_natCast]
  apply List.map_congr_left
  intro k hk
  show joinL [47] (cutG (cuts 47 p) none (some ((1 : Int) + (k : Int)))) = _
  rw [show (1 : Int) + (k : Int) = ((k + 1 : Nat) : Int) by omega, cutG_to]
theorem above_nd (p : Tx) : (m_above p).Nodup := by
  rw [above_is]
  refine nodup_map_on List.nodup_range fun a ha b hb h => ?_
  have hc : ∀ k, k ∈ List.range ((cuts 47 p).length - 1) → (cuts 47 (joinL [47] ((cuts 47 p).take (k + 1)))).length = k + 1 := fun k hk => by
    have hk2 := List.mem_range.mp hk
    have hne : (cuts 47 p).take (k + 1) ≠ [] := fun z => by
      have h5 := congrArg List.length z
      rw [List.length_take, List.length_nil] at h5
      have := List.length_pos_iff.mpr (cuts_ne 47 p)
      omega
    have ec : cuts 47 (joinL [47] ((cuts 47 p).take (k + 1))) = (cuts 47 p).take (k + 1) := spl_join hne fun x hx => cuts_free 47 p x (List.mem_of_mem_take hx)
    rw [ec, List.length_take]
    omega
  have h1 := hc a ha
  have h2 : (cuts 47 (joinL [47] ((cuts 47 p).take (a + 1)))).length = b + 1 := by
    rw [h]
    exact hc b hb
  omega
/-- pairs of what lies above: once each -/
theorem pairs_nd {ks : List Tx} (hk : ks.Nodup) {f : Tx → List Tx} (hf : ∀ p, (f p).Nodup) : (ks.flatMap fun k0 => (f k0).map (fun k1 : Tx => [k1, k0])).Nodup := by
  unfold List.Nodup
  rw [List.pairwise_flatMap]
  refine ⟨fun a _ => nodup_map_on (hf a) fun x _ y _ h => ?_, List.Pairwise.imp (fun hne x hx y hy h => ?_) hk⟩
  · injection h
  · obtain ⟨u, _, rfl⟩ := List.mem_map.mp hx
    obtain ⟨v, _, rfl⟩ := List.mem_map.mp hy
    injection h with _ h2
    injection h2 with h3 _
    exact hne h3
theorem pairs_two {ks : List Tx} {f : Tx → List Tx} {q : List Tx} (h : q ∈ ks.flatMap fun k0 => (f k0).map (fun k1 : Tx => [k1, k0])) : q.length = 2 := by
  obtain ⟨p, _, h2⟩ := List.mem_flatMap.mp h
  obtain ⟨u, _, rfl⟩ := List.mem_map.mp h2
  rfl
theorem clA_nd {e : List (Tx × Tx)} (o t : List (Tx × Tx)) (ge : (dkeys e).Nodup) : (clA e o t).Nodup := by
  unfold clA
  rw [List.nodup_append]
  refine ⟨?_, ?_, ?_⟩
  · unfold m_clashes_v1
    refine nodup_map_on ?_ fun a _ b _ h => by injection h
    rw [single_is]
    exact (nodup_unK o t ge).filter _
  · unfold m_overlaps
    exact pairs_nd (f := fun k0 => ((m_above k0)).filter (fun k1 : Tx => (dhas (m_agreed e o t) k1))) (agreed_nd o t ge) fun p => (above_nd p).filter _
  · intro a ha b hb h
    have h2 : b.length = 2 := by
      unfold m_overlaps at hb
      exact pairs_two (f := fun k0 => ((m_above k0)).filter (fun k1 : Tx => (dhas (m_agreed e o t) k1))) hb
    unfold m_clashes_v1 at ha
    obtain ⟨p, _, rfl⟩ := List.mem_map.mp ha
    rw [← h] at h2
    exact absurd h2 (by simp)
theorem clashes_is (e o t : List (Tx × Tx)) : m_clashes e o t = srtU (clA e o t) := rfl
theorem perm_mem {α : Type} [DecidableEq α] : ∀ {l m : List α}, l.Nodup → m.Nodup → (∀ k, k ∈ l ↔ k ∈ m) → l.Perm m
  | [], m, _, _, h => by
    have e : m = [] := List.eq_nil_iff_forall_not_mem.mpr fun k hk => by
      have := (h k).mpr hk
      cases this
    rw [e]
  | x :: l, m, hl, hm, h => by
    rw [List.nodup_cons] at hl
    have hx := (h x).mp List.mem_cons_self
    refine ((perm_mem hl.2 (hm.erase x) fun k => ?_).cons x).trans (List.perm_cons_erase hx).symm
    rw [hm.mem_erase_iff]
    constructor
    · intro hk
      exact ⟨fun z => hl.1 (z ▸ hk), (h k).mp (List.mem_cons_of_mem _ hk)⟩
    · intro hk
      exact (List.mem_cons.mp ((h k).mpr hk.2)).resolve_left hk.1
theorem clash_len {e o t : List (Tx × Tx)} (ge : (dkeys e).Nodup) : ∀ q ∈ m_clashes e o t, q.length = 1 ∨ q.length = 2 := fun q hq => by
  rw [clashes_is] at hq
  rcases (clA_mem ge).mp (mem_srtU.mp hq) with ⟨p, rfl, _⟩ | ⟨u, p, rfl, _⟩
  · exact Or.inl rfl
  · exact Or.inr rfl
theorem clashes_ne {e o t : List (Tx × Tx)} : ∀ q ∈ m_clashes_v1 e o t ++ m_overlaps (m_agreed e o t), q ≠ [] := fun q hq => by
  rcases List.mem_append.mp hq with h | h
  · unfold m_clashes_v1 at h
    obtain ⟨p, _, rfl⟩ := List.mem_map.mp h
    simp
  · unfold m_overlaps at h
    have h2 := pairs_two (f := fun k0 => ((m_above k0)).filter (fun k1 : Tx => (dhas (m_agreed e o t) k1))) h
    intro z
    rw [z] at h2
    cases h2
theorem AG_pth {e o t : List (Tx × Tx)} (h : Good e ∧ Good o ∧ Good t) {p : Tx} (hs : (AG e o t p).isSome = true) : Pth p := agreed_pth h.1 h.2.1 h.2.2 p ((agreed_key o t h.1.nd p).mpr hs)
theorem CL_pth {e o t : List (Tx × Tx)} (h : Good e ∧ Good o ∧ Good t) {p : Tx} (hs : CLp e o t p = true) : Pth p := by
  rcases mem_unK.mp (CL_un hs) with (z | z) | z
  · exact h.1.pth p z
  · exact h.2.1.pth p z
  · exact h.2.2.pth p z
theorem pth_okT {p : Tx} (h : Pth p) : okT p := fun c hc => Nat.lt_of_lt_of_le (pth_sign h c hc) (by decide)
theorem CLq_okT {e o t : List (Tx × Tx)} (h : Good e ∧ Good o ∧ Good t) {q : List Tx} (hq : CLq e o t q) : ∀ p ∈ q, okT p := fun x hx => by
  rcases hq with ⟨p, rfl, hp⟩ | ⟨u, p, rfl, _, hp, hu⟩
  · rw [List.mem_singleton.mp hx]
    exact pth_okT (CL_pth h hp)
  · rcases List.mem_cons.mp hx with z | z
    · rw [z]
      exact pth_okT (AG_pth h hu)
    · rw [List.mem_singleton.mp z]
      exact pth_okT (AG_pth h hp)
theorem clash_okT {e o t : List (Tx × Tx)} (h : Good e ∧ Good o ∧ Good t) : ∀ q ∈ m_clashes e o t, ∀ p ∈ q, okT p := fun q hq => by
  rw [clashes_is] at hq
  exact CLq_okT h ((clA_mem h.1.nd).mp (mem_srtU.mp hq))
theorem CLq_sym {e o t : List (Tx × Tx)} {q : List Tx} : CLq e t o q ↔ CLq e o t q := by
  unfold CLq CLp AG
  have e1 : ∀ p, clsh (dget e p) (dget t p) (dget o p) = clsh (dget e p) (dget o p) (dget t p) := fun p => clsh_sym _ _ _
  have e2 : ∀ p, agF (dget e p) (dget t p) (dget o p) = agF (dget e p) (dget o p) (dget t p) := fun p => agF_sym _ _ _
  simp only [e1, e2]
theorem clashes_sym {e : List (Tx × Tx)} (o t : List (Tx × Tx)) (ge : (dkeys e).Nodup) : m_clashes e t o = m_clashes e o t := by
  rw [clashes_is, clashes_is]
  exact srtU_congr (perm_mem (clA_nd t o ge) (clA_nd o t ge) fun k => by rw [clA_mem ge, clA_mem ge, CLq_sym])

/-! what is due -/
theorem uppers_mem {p u : Tx} : u ∈ m_law_uppers p ↔ Ben p u := by
  have hb := prefix_ben p u
  rw [lSl_eq] at hb
  unfold m_law_uppers
  constructor
  · intro h
    obtain ⟨k, hk, rfl⟩ := List.mem_map.mp h
    obtain ⟨hk1, hk2⟩ := List.mem_filter.mp hk
    have hlt : k < p.length := by
      have := List.mem_range.mp hk1
      omega
    have hc : p.getD k 0 = 47 := by
      have h3 := of_decide_eq_true hk2
      rw [lSl_eq] at h3
      injection h3
    show Ben p (cutG p none (some (k : Int)))
    rw [cutG_to]
    have h4 := prefix_ben p (p.take k)
    have h5 : (p.take k ++ lSl).isPrefixOf p = true := by
      rw [List.isPrefixOf_iff_prefix, lSl_eq]
      refine ⟨p.drop (k + 1), ?_⟩
      rw [List.append_assoc]
      conv => rhs; rw [← List.take_append_drop k p]
      congr 1
      rw [List.drop_eq_getElem_cons hlt]
      rw [List.getD_eq_getElem?_getD, List.getElem?_eq_getElem hlt] at hc
      have hc2 : p[k] = 47 := hc
      rw [hc2]
      rfl
    rw [h5] at h4
    exact of_decide_eq_true h4.symm
  · intro h
    rw [decide_eq_true h] at hb
    obtain ⟨r, hr⟩ := List.isPrefixOf_iff_prefix.mp hb
    have hr2 : p = u ++ 47 :: r := by
      rw [← hr, List.append_assoc]
      rfl
    refine List.mem_map.mpr ⟨u.length, List.mem_filter.mpr ⟨List.mem_range.mpr ?_, decide_eq_true ?_⟩, ?_⟩
    · rw [hr2, List.length_append, List.length_cons]
      omega
    · rw [lSl_eq, hr2]
      show [(u ++ 47 :: r).getD u.length 0] = [47]
      rw [List.getD_eq_getElem?_getD, List.getElem?_append_right (Nat.le_refl _), Nat.sub_self]
      rfl
    · show cutG p none (some (u.length : Int)) = u
      rw [cutG_to, hr2, List.take_left]
theorem uppers_nd (p : Tx) : (m_law_uppers p).Nodup := by
  unfold m_law_uppers
  refine nodup_map_on (List.nodup_range.filter _) fun a ha b hb h => ?_
  have h1 : cutG p none (some (a : Int)) = cutG p none (some (b : Int)) := h
  rw [cutG_to, cutG_to] at h1
  have ha2 := List.mem_range.mp (List.mem_filter.mp ha).1
  have hb2 := List.mem_range.mp (List.mem_filter.mp hb).1
  have h2 := congrArg List.length h1
  rw [List.length_take, List.length_take] at h2
  omega
theorem uppers_len (p : Tx) : (m_law_uppers p).length ≤ (cuts 47 p).length := by
  have h := (perm_mem (uppers_nd p) (above_nd p) fun k => by rw [uppers_mem, above_mem]).length_eq
  rw [h]
  exact above_cuts p
def duK (e o t : List (Tx × Tx)) : List Tx := srt (uniT [] (((dkeys e) ++ (dkeys o)) ++ (dkeys t)))
theorem duK_is {e : List (Tx × Tx)} (o t : List (Tx × Tx)) (ge : (dkeys e).Nodup) : duK e o t = unK e o t :=
  srt_same (nodup_uniT List.nodup_nil) (nodup_uniT (nodup_uniT ge)) fun k => by
    rw [mem_uniT, mem_uniT, mem_uniT, List.mem_append, List.mem_append]
    simp

/-! joined -/
def P4 (e o t : List (Tx × Tx)) : Prop := P3 e o t ∧ (e.length ≤ 200 ∧ o.length ≤ 200 ∧ t.length ≤ 200)
theorem unK_len4 {e o t : List (Tx × Tx)} (hp : e.length ≤ 200 ∧ o.length ≤ 200 ∧ t.length ≤ 200) : (unK e o t).length ≤ 600 := by
  unfold unK
  rw [srt_len]
  have a1 := uniT_len (dkeys o) (dkeys e)
  have a2 := uniT_len (dkeys t) (uniT (dkeys e) (dkeys o))
  have b1 := dkeys_len e
  have b2 := dkeys_len o
  have b3 := dkeys_len t
  omega
theorem agreed_len4 {e o t : List (Tx × Tx)} (hp : e.length ≤ 200 ∧ o.length ≤ 200 ∧ t.length ≤ 200) : (m_agreed e o t).length ≤ 800 := by
  have h := fold_cnt (f := agS e o t) (I := fun n s => s.length ≤ 200 + n) (l := unK e o t) (s0 := e) hp.1 (fun n s y _ h => by
    show (agS e o t s y).length ≤ 200 + (n + 1)
    cases hm : m_mark_of (dget e y) (dget o y) (dget t y) with
    | some w =>
      rw [agS_some hm]
      have := settle_len s y (AG e o t y)
      have h2 : s.length ≤ 200 + n := h
      omega
    | none =>
      rw [agS_none hm]
      exact Nat.le_succ_of_le h) _ (Nat.le_refl _)
  rw [List.take_length, ← agreed_is] at h
  have h2 := unK_len4 hp
  have h3 : (m_agreed e o t).length ≤ 200 + (unK e o t).length := h
  omega
/-- picks as the law makes them -/
def okPicks (P : List (Tx × Option Tx)) : Prop := ((dkeys P).Nodup ∧ P.length ≤ 700) ∧ ∀ k ∈ dkeys P, (k.length ≤ 900 ∧ (cuts 47 k).length ≤ 8) ∧ okT k
theorem clashes_len {e o t : List (Tx × Tx)} (h : P3 e o t) : (m_clashes e o t).length ≤ 35000 := by
  have h1 := single_len h.2
  have h2 := over_len (agreed_ok h)
  unfold m_clashes m_clashes_v1
  rw [srtU_len, List.length_append, List.length_map]
  omega
theorem flat2_len : ∀ {l : List (List Tx)}, (∀ q ∈ l, q.length ≤ 2) → l.flatten.length ≤ l.length * 2
  | [], _ => Nat.zero_le _
  | q :: l, h => by
    have h1 := flat2_len (l := l) fun x hx => h x (List.mem_cons_of_mem _ hx)
    have h2 := h q List.mem_cons_self
    rw [List.flatten_cons, List.length_append, List.length_cons, Nat.succ_mul]
    omega
theorem clashing_len {e o t : List (Tx × Tx)} (h : P3 e o t) : (m_clashes e o t).flatten.length ≤ 70000 := by
  have h1 := clashes_len h
  have h2 := flat2_len (l := m_clashes e o t) fun q hq => by
    rcases clash_len h.1.1.nd q hq with z | z <;> omega
  omega
theorem settle_keys {l : List (Tx × Tx)} {k : Tx} {x : Option Tx} {j : Tx} (h : j ∈ dkeys (m_settle l k x)) : j = k ∨ j ∈ dkeys l := by
  cases x with
  | none => exact Or.inr (mem_keys_del.mp h).1
  | some t => exact mem_keys_put.mp h
def stS (s : List (Tx × Tx)) (y : Tx × Option Tx) : List (Tx × Tx) := m_settle s y.1 y.2
theorem jv4_is (P : List (Tx × Option Tx)) (e o t : List (Tx × Tx)) : m_joined_v4 P e o t = P.foldl stS (m_agreed e o t) := by
  unfold m_joined_v4
  rw [out_all (step := m_joined_step3) (g := fun s y => m_joined_v3 s y) (fun _ _ => rfl)]
  rfl
theorem jv4_inv {I : List (Tx × Tx) → Prop} {P : List (Tx × Option Tx)} {e o t : List (Tx × Tx)} (h0 : I (m_agreed e o t)) (h : ∀ s y, y ∈ P → I s → I (m_settle s y.1 y.2)) : I (m_joined_v4 P e o t) := by
  rw [jv4_is]
  exact fold_inv h0 h
theorem jloop {e o t : List (Tx × Tx)} {P : List (Tx × Option Tx)} (hp : P4 e o t) (hq : okPicks P) {i : Nat} {s : List (Tx × Tx)} {y : Tx × Option Tx} (h : runL m_joined_step3 (P.take i) (m_joined_v2 e o t) = .go s) (hy : P[i]? = some y) : s.length ≤ 1500 := by
  have hi := (List.getElem?_eq_some_iff.mp hy).1
  have h1 := run_cnt (g := fun s y => m_joined_v3 s y) (fun _ _ => rfl) (I := fun n s => s.length ≤ 800 + n) h (Nat.le_of_lt hi) (agreed_len4 hp.2) (fun n s y _ hs => by
    show (m_settle s y.1 y.2).length ≤ 800 + (n + 1)
    have h2 := settle_len s y.1 y.2
    have h3 : s.length ≤ 800 + n := hs
    omega)
  have h2 : s.length ≤ 800 + i := h1
  have h3 := hq.1.2
  omega
theorem jv4_len {e o t : List (Tx × Tx)} {P : List (Tx × Option Tx)} (hp : P4 e o t) (hq : okPicks P) : (m_joined_v4 P e o t).length ≤ 1500 := by
  rw [jv4_is]
  have h1 := fold_cnt (f := stS) (I := fun n s => s.length ≤ 800 + n) (l := P) (s0 := m_agreed e o t) (agreed_len4 hp.2) (fun n s y _ hs => by
    show (m_settle s y.1 y.2).length ≤ 800 + (n + 1)
    have h2 := settle_len s y.1 y.2
    have h3 : s.length ≤ 800 + n := hs
    omega) _ (Nat.le_refl _)
  rw [List.take_length] at h1
  have h2 : (P.foldl stS (m_agreed e o t)).length ≤ 800 + P.length := h1
  have h3 := hq.1.2
  omega
theorem jv4_keys {e o t : List (Tx × Tx)} {P : List (Tx × Option Tx)} (hp : P4 e o t) (hq : okPicks P) : ∀ k ∈ dkeys (m_joined_v4 P e o t), (k.length ≤ 900 ∧ (cuts 47 k).length ≤ 8) ∧ okT k := by
  refine jv4_inv (I := fun s => ∀ k ∈ dkeys s, (k.length ≤ 900 ∧ (cuts 47 k).length ≤ 8) ∧ okT k) (fun k hk => ?_) fun s y hy hs k hk => ?_
  · have h := agreed_pth hp.1.1.1 hp.1.1.2.1 hp.1.1.2.2 k hk
    exact ⟨pth_eight h, pth_okT h⟩
  · rcases settle_keys hk with z | z
    · rw [z]
      exact hq.2 y.1 (mem_keys hy)
    · exact hs k z
theorem jv4_over {e o t : List (Tx × Tx)} {P : List (Tx × Option Tx)} (hp : P4 e o t) (hq : okPicks P) : (m_joined_v4 P e o t).length ≤ 4000 ∧ ∀ k ∈ dkeys (m_joined_v4 P e o t), k.length ≤ 900 ∧ (cuts 47 k).length ≤ 8 :=
  ⟨Nat.le_trans (jv4_len hp hq) (by decide), fun k hk => (jv4_keys hp hq k hk).1⟩
theorem jv4_okT {e o t : List (Tx × Tx)} {P : List (Tx × Option Tx)} (hp : P4 e o t) (hq : okPicks P) : ∀ q ∈ m_overlaps (m_joined_v4 P e o t), ∀ p ∈ q, okT p := over_okT fun k hk => (jv4_keys hp hq k hk).2
theorem single_short {e o t : List (Tx × Tx)} (h : P4 e o t) {y : Tx} (hy : y ∈ m_single_clashes e o t) : y.length ≤ 104 := (CL_pth h.1.1 (single_mem.mp hy)).len
/-- what stands at a path then -/
def VV (e o t : List (Tx × Tx)) (P : List (Tx × Option Tx)) (p : Tx) : Option Tx := if p ∈ dkeys P then (dget P p).getD none else AG e o t p
theorem fold_st (p : Tx) : ∀ (l : List (Tx × Option Tx)) (s : List (Tx × Tx)), (dkeys l).Nodup → dget (l.foldl stS s) p = if p ∈ dkeys l then (dget l p).getD none else dget s p
  | [], s, _ => rfl
  | y :: l, s, hn => by
    have hn2 : (y.1 :: dkeys l).Nodup := hn
    rw [List.nodup_cons] at hn2
    rw [List.foldl_cons, fold_st p l _ hn2.2]
    have e1 : p ∈ dkeys (y :: l) ↔ p = y.1 ∨ p ∈ dkeys l := List.mem_cons
    by_cases h1 : p ∈ dkeys l
    · have ne : ¬ y.1 = p := fun z => hn2.1 (z ▸ h1)
      rw [if_pos h1, if_pos (e1.mpr (Or.inr h1)), get_cons, if_neg ne]
    · rw [if_neg h1]
      unfold stS
      rw [get_settle]
      by_cases h2 : p = y.1
      · rw [if_pos h2, if_pos (e1.mpr (Or.inl h2)), get_cons, if_pos h2.symm]
        rfl
      · rw [if_neg h2, if_neg fun z => (e1.mp z).elim h2 h1]
theorem jv4_get {e : List (Tx × Tx)} (o t : List (Tx × Tx)) {P : List (Tx × Option Tx)} (ge : (dkeys e).Nodup) (hn : (dkeys P).Nodup) (p : Tx) : dget (m_joined_v4 P e o t) p = VV e o t P p := by
  rw [jv4_is, fold_st p P _ hn, agreed_get o t ge]
  rfl
theorem jv4_nd {e : List (Tx × Tx)} (o t : List (Tx × Tx)) (P : List (Tx × Option Tx)) (ge : (dkeys e).Nodup) : (dkeys (m_joined_v4 P e o t)).Nodup :=
  jv4_inv (I := fun s => (dkeys s).Nodup) (agreed_nd o t ge) fun s y _ h => nodup_settle h
theorem jv4_key {e : List (Tx × Tx)} (o t : List (Tx × Tx)) {P : List (Tx × Option Tx)} (ge : (dkeys e).Nodup) (hn : (dkeys P).Nodup) (p : Tx) : p ∈ dkeys (m_joined_v4 P e o t) ↔ (VV e o t P p).isSome = true := by
  rw [← jv4_get o t ge hn, get_isSome]
theorem run_if {α R : Type} {step : Unit → α → Stp Unit R} {c : α → Bool} {r : R} (h : ∀ y, step () y = if c y = true then .ret r else .go ()) : ∀ l : List α, runL step l () = if l.any c = true then .ret r else .go ()
  | [] => rfl
  | y :: l => by
    rw [List.any_cons]
    by_cases hc : c y = true
    · have h1 := h y
      rw [if_pos hc] at h1
      rw [runL_ret h1, hc, Bool.true_or, if_pos rfl]
    · have h1 := h y
      rw [if_neg hc] at h1
      have hc2 : c y = false := by
        cases z : c y with
        | false => rfl
        | true => exact absurd z hc
      rw [runL_go h1, run_if h l, hc2, Bool.false_or]
def jA (e o t : List (Tx × Tx)) (P : List (Tx × Option Tx)) : Bool := (dkeys P).any fun k => !decide (k ∈ (m_clashes e o t).flatten)
def jB (e o t : List (Tx × Tx)) (P : List (Tx × Option Tx)) : Bool := (m_single_clashes e o t).any fun k => !dhas P k
def jC (e o t : List (Tx × Tx)) (P : List (Tx × Option Tx)) : Bool := !decide (m_overlaps (m_joined_v4 P e o t) = [])
theorem joined_is (e o t : List (Tx × Tx)) (P : List (Tx × Option Tx)) : m_joined e o t P = if jA e o t P = true then .exc 4 else if jB e o t P = true then .exc 5 else if jC e o t P = true then .exc 5 else .ok (m_joined_v4 P e o t) := by
  unfold m_joined
  rw [run_if (step := m_joined_step1 e o t) (c := fun k => !decide (k ∈ (m_clashes e o t).flatten)) (fun _ => rfl), run_if (step := m_joined_step2 P) (c := fun k => !dhas P k) (fun _ => rfl)]
  show aftL (if jA e o t P = true then _ else _) _ = _
  by_cases h1 : jA e o t P = true
  · rw [if_pos h1, if_pos h1]
    rfl
  · rw [if_neg h1, if_neg h1]
    show aftL (if jB e o t P = true then _ else _) _ = _
    by_cases h2 : jB e o t P = true
    · rw [if_pos h2, if_pos h2]
      rfl
    · rw [if_neg h2, if_neg h2]
      rfl
theorem kinds_joined {e o t : List (Tx × Tx)} {P : List (Tx × Option Tx)} {k : Nat} (h : m_joined e o t P = .exc k) : k = 4 ∨ k = 5 := by
  rw [joined_is] at h
  split at h
  · cases h
    exact Or.inl rfl
  · split at h
    · cases h
      exact Or.inr rfl
    · split at h
      · cases h
        exact Or.inr rfl
      · cases h
theorem flat_mem {e o t : List (Tx × Tx)} (ge : (dkeys e).Nodup) {p : Tx} : p ∈ (m_clashes e o t).flatten ↔ CLp e o t p = true ∨ ∃ x y, Ben y x ∧ (AG e o t y).isSome = true ∧ (AG e o t x).isSome = true ∧ (p = x ∨ p = y) := by
  rw [List.mem_flatten]
  constructor
  · rintro ⟨q, hq, hp⟩
    rw [clashes_is] at hq
    rcases (clA_mem ge).mp (mem_srtU.mp hq) with ⟨x, rfl, h⟩ | ⟨x, y, rfl, hB, hy, hx⟩
    · rw [List.mem_singleton.mp hp]
      exact Or.inl h
    · refine Or.inr ⟨x, y, hB, hy, hx, ?_⟩
      rcases List.mem_cons.mp hp with z | z
      · exact Or.inl z
      · exact Or.inr (List.mem_singleton.mp z)
  · have g : ∀ q, CLq e o t q → q ∈ m_clashes e o t := fun q h => by
      rw [clashes_is]
      exact mem_srtU.mpr ((clA_mem ge).mpr h)
    rintro (h | ⟨x, y, hB, hy, hx, h⟩)
    · exact ⟨[p], g _ (Or.inl ⟨p, rfl, h⟩), List.mem_singleton.mpr rfl⟩
    · refine ⟨[x, y], g _ (Or.inr ⟨x, y, rfl, hB, hy, hx⟩), ?_⟩
      rcases h with z | z
      · rw [z]
        exact List.mem_cons_self
      · rw [z]
        exact List.mem_cons_of_mem _ List.mem_cons_self
theorem flat_un {e o t : List (Tx × Tx)} (ge : (dkeys e).Nodup) {p : Tx} (h : p ∈ (m_clashes e o t).flatten) : p ∈ unK e o t := by
  rcases (flat_mem ge).mp h with z | ⟨x, y, _, hy, hx, z⟩
  · exact CL_un z
  · rcases z with z | z
    · rw [z]
      exact AG_un hx
    · rw [z]
      exact AG_un hy
/-! the places -/
theorem law_at_AG {b l r : Option Tx} (h : m_law_splits b l r = false) : m_law_at b l r = agF b l r := by
  unfold m_law_splits at h
  unfold m_law_at agF
  by_cases h1 : l = r
  · simp [h1]
  · by_cases h2 : r = b
    · simp [h1, h2]
    · by_cases h3 : l = b
      · simp [h1, h2, h3]
      · simp [h1, h2, h3] at h
theorem agF_split {b l r : Option Tx} (h : m_law_splits b l r = true) : agF b l r = none := by
  unfold m_law_splits at h
  unfold agF
  by_cases h1 : l = r
  · simp [h1] at h
  · by_cases h2 : l = b
    · simp [h1, h2] at h
    · by_cases h3 : r = b
      · simp [h1, h2, h3] at h
      · simp [h1, h2, h3]
def pif (c : Tx → Bool) (s : List (Tx × Bool)) (p : Tx) : List (Tx × Bool) := if c p = true then dput s p true else s
theorem pif_keys (c : Tx → Bool) : ∀ (l : List Tx) (s : List (Tx × Bool)) (k : Tx), k ∈ dkeys (l.foldl (pif c) s) ↔ k ∈ dkeys s ∨ (k ∈ l ∧ c k = true)
  | [], s, k => by simp
  | p :: l, s, k => by
    rw [List.foldl_cons, pif_keys c l]
    unfold pif
    by_cases h : c p = true
    · rw [if_pos h, mem_keys_put, List.mem_cons]
      constructor
      · rintro ((z | z) | z)
        · exact Or.inr ⟨Or.inl z, z ▸ h⟩
        · exact Or.inl z
        · exact Or.inr ⟨Or.inr z.1, z.2⟩
      · rintro (z | ⟨z | z, z2⟩)
        · exact Or.inl (Or.inr z)
        · exact Or.inl (Or.inl z)
        · exact Or.inr ⟨z, z2⟩
    · rw [if_neg h, List.mem_cons]
      constructor
      · rintro (z | z)
        · exact Or.inl z
        · exact Or.inr ⟨Or.inr z.1, z.2⟩
      · rintro (z | ⟨z | z, z2⟩)
        · exact Or.inl z
        · exact absurd (z ▸ z2) h
        · exact Or.inr ⟨z, z2⟩
theorem pl_v6 (e o t : List (Tx × Tx)) (s : List (Tx × Bool) × List (Tx × Bool)) (y : Tx) : m_law_places_v6 e y o t s = pif (fun p => (AG e o t p).isSome) s.1 y := by
  unfold m_law_places_v6 m_law_places_v5 m_law_places_v4 pif AG
  cases h : m_law_splits (dget e y) (dget o y) (dget t y) with
  | true =>
    show s.1 = if (agF (dget e y) (dget o y) (dget t y)).isSome = true then _ else _
    rw [agF_split h]
    rfl
  | false =>
    show (if (m_law_at (dget e y) (dget o y) (dget t y)).isSome = true then _ else _) = if (agF (dget e y) (dget o y) (dget t y)).isSome = true then _ else _
    rw [law_at_AG h]
theorem pl_v7 (e o t : List (Tx × Tx)) (s : List (Tx × Bool) × List (Tx × Bool)) (y : Tx) : m_law_places_v7 e y o t s = pif (CLp e o t) s.2 y := rfl
theorem pl_v8 (e o t : List (Tx × Tx)) : m_law_places_v8 e o t = ((duK e o t).foldl (pif fun p => (AG e o t p).isSome) [], (duK e o t).foldl (pif (CLp e o t)) []) := by
  show outL (runL (m_law_places_step1 e o t) _ (m_law_places_v1, m_law_places_v2)) = _
  rw [out_all (step := m_law_places_step1 e o t) (g := fun s y => (m_law_places_v6 e y o t s, m_law_places_v7 e y o t s)) (fun _ _ => rfl),
    fold_pair (g1 := pif fun p => (AG e o t p).isSome) (g2 := pif (CLp e o t)) (fun s y => by rw [pl_v6, pl_v7])]
  rfl
theorem pl_made {e : List (Tx × Tx)} (o t : List (Tx × Tx)) (ge : (dkeys e).Nodup) (k : Tx) : k ∈ dkeys (m_law_places_v8 e o t).1 ↔ (AG e o t k).isSome = true := by
  rw [pl_v8]
  show k ∈ dkeys ((duK e o t).foldl _ []) ↔ _
  rw [pif_keys, duK_is o t ge]
  constructor
  · rintro (z | z)
    · cases z
    · exact z.2
  · exact fun h => Or.inr ⟨AG_un h, h⟩
theorem pl_cl {e : List (Tx × Tx)} (o t : List (Tx × Tx)) (ge : (dkeys e).Nodup) (k : Tx) : k ∈ dkeys (m_law_places_v8 e o t).2 ↔ CLp e o t k = true := by
  rw [pl_v8]
  show k ∈ dkeys ((duK e o t).foldl _ []) ↔ _
  rw [pif_keys, duK_is o t ge]
  constructor
  · rintro (z | z)
    · cases z
    · exact z.2
  · exact fun h => Or.inr ⟨CL_un h, h⟩
theorem pl_in (e o t : List (Tx × Tx)) (y2 k : Tx) : ∀ (l : List Tx) (s : List (Tx × Bool)), k ∈ dkeys (l.foldl (fun s y3 => m_law_places_v11 y3 e o t s y2) s) ↔ k ∈ dkeys s ∨ ∃ y3 ∈ l, dhas (m_law_places_v8 e o t).1 y3 = true ∧ (k = y3 ∨ k = y2)
  | [], s => by simp
  | y3 :: l, s => by
    rw [List.foldl_cons, pl_in e o t y2 k l]
    unfold m_law_places_v11 m_law_places_v10 m_law_places_v9
    by_cases h : dhas (m_law_places_v8 e o t).1 y3 = true
    · rw [if_pos h, mem_keys_put, mem_keys_put]
      constructor
      · rintro ((z | z | z) | ⟨x, hx, z⟩)
        · exact Or.inr ⟨y3, List.mem_cons_self, h, Or.inr z⟩
        · exact Or.inr ⟨y3, List.mem_cons_self, h, Or.inl z⟩
        · exact Or.inl z
        · exact Or.inr ⟨x, List.mem_cons_of_mem _ hx, z⟩
      · rintro (z | ⟨x, hx, z, w⟩)
        · exact Or.inl (Or.inr (Or.inr z))
        · rcases List.mem_cons.mp hx with q | q
          · rw [q] at w
            rcases w with w | w
            · exact Or.inl (Or.inr (Or.inl w))
            · exact Or.inl (Or.inl w)
          · exact Or.inr ⟨x, q, z, w⟩
    · rw [if_neg h]
      constructor
      · rintro (z | ⟨x, hx, z⟩)
        · exact Or.inl z
        · exact Or.inr ⟨x, List.mem_cons_of_mem _ hx, z⟩
      · rintro (z | ⟨x, hx, z, w⟩)
        · exact Or.inl z
        · rcases List.mem_cons.mp hx with q | q
          · rw [q] at z
            exact absurd z h
          · exact Or.inr ⟨x, q, z, w⟩
theorem pl_v12 (e o t : List (Tx × Tx)) (y2 : Tx) (s : List (Tx × Bool)) : m_law_places_v12 e o t y2 s = (m_law_uppers y2).foldl (fun s y3 => m_law_places_v11 y3 e o t s y2) s := by
  unfold m_law_places_v12
  rw [out_all (step := m_law_places_step3 e o t y2) (g := fun s y3 => m_law_places_v11 y3 e o t s y2) (fun _ _ => rfl)]
theorem pl_out (e o t : List (Tx × Tx)) (k : Tx) : ∀ (l : List Tx) (s : List (Tx × Bool)), k ∈ dkeys (l.foldl (fun s y2 => m_law_places_v12 e o t y2 s) s) ↔ k ∈ dkeys s ∨ ∃ y2 ∈ l, ∃ y3 ∈ m_law_uppers y2, dhas (m_law_places_v8 e o t).1 y3 = true ∧ (k = y3 ∨ k = y2)
  | [], s => by simp
  | y2 :: l, s => by
    rw [List.foldl_cons, pl_out e o t k l, pl_v12, pl_in]
    constructor
    · rintro ((z | z) | ⟨x, hx, z⟩)
      · exact Or.inl z
      · exact Or.inr ⟨y2, List.mem_cons_self, z⟩
      · exact Or.inr ⟨x, List.mem_cons_of_mem _ hx, z⟩
    · rintro (z | ⟨x, hx, z⟩)
      · exact Or.inl (Or.inl z)
      · rcases List.mem_cons.mp hx with w | w
        · rw [w] at z
          exact Or.inl (Or.inr z)
        · exact Or.inr ⟨x, w, z⟩
theorem pl_v13 (e o t : List (Tx × Tx)) : m_law_places_v13 e o t = (dkeys (m_law_places_v8 e o t).1).foldl (fun s y2 => m_law_places_v12 e o t y2 s) (m_law_places_v8 e o t).2 := by
  unfold m_law_places_v13
  rw [out_all (step := m_law_places_step2 e o t) (g := fun s y2 => m_law_places_v12 e o t y2 s) (fun _ _ => rfl)]
theorem pl_mem {e : List (Tx × Tx)} (o t : List (Tx × Tx)) (ge : (dkeys e).Nodup) (k : Tx) : k ∈ dkeys (m_law_places_v13 e o t) ↔ k ∈ (m_clashes e o t).flatten := by
  rw [pl_v13, pl_out, pl_cl o t ge, flat_mem ge]
  refine or_congr Iff.rfl ⟨?_, ?_⟩
  · rintro ⟨y, hy, x, hx, h, z⟩
    exact ⟨x, y, uppers_mem.mp hx, (pl_made o t ge y).mp hy, (pl_made o t ge x).mp ((has_iff _ _).mp h), z⟩
  · rintro ⟨x, y, hB, hy, hx, z⟩
    exact ⟨y, (pl_made o t ge y).mpr hy, x, uppers_mem.mpr hB, (has_iff _ _).mpr ((pl_made o t ge x).mpr hx), z⟩
theorem places_mem {e : List (Tx × Tx)} (o t : List (Tx × Tx)) (ge : (dkeys e).Nodup) (k : Tx) : k ∈ m_law_places e o t ↔ k ∈ (m_clashes e o t).flatten := by
  unfold m_law_places
  rw [mem_srt, pl_mem o t ge]
theorem sub_len {α : Type} [DecidableEq α] : ∀ {l m : List α}, l.Nodup → (∀ k ∈ l, k ∈ m) → l.length ≤ m.length
  | [], _, _, _ => Nat.zero_le _
  | x :: l, m, hn, h => by
    rw [List.nodup_cons] at hn
    have hx := h x List.mem_cons_self
    have h1 := sub_len (l := l) (m := m.erase x) hn.2 fun k hk => (List.mem_erase_of_ne fun z : k = x => hn.1 (z ▸ hk)).mpr (h k (List.mem_cons_of_mem _ hk))
    rw [List.length_erase_of_mem hx] at h1
    have h2 := List.length_pos_of_mem hx
    rw [List.length_cons]
    omega
theorem pif_nd (c : Tx → Bool) (l : List Tx) : (dkeys (l.foldl (pif c) [])).Nodup :=
  fold_inv (I := fun s => (dkeys s).Nodup) List.nodup_nil fun s y _ h => by
    unfold pif
    split
    · exact nodup_put h
    · exact h
theorem pl_nd (e o t : List (Tx × Tx)) : (dkeys (m_law_places_v13 e o t)).Nodup := by
  rw [pl_v13]
  refine fold_inv (I := fun s => (dkeys s).Nodup) (by rw [pl_v8]; exact pif_nd _ _) fun s y _ h => ?_
  rw [pl_v12]
  refine fold_inv (I := fun s => (dkeys s).Nodup) h fun s y _ h => ?_
  unfold m_law_places_v11 m_law_places_v10 m_law_places_v9
  split
  · exact nodup_put (nodup_put h)
  · exact h
theorem pl_len {e o t : List (Tx × Tx)} (h : P4 e o t) : (m_law_places_v13 e o t).length ≤ 600 := by
  rw [← dkeys_len]
  exact Nat.le_trans (sub_len (pl_nd e o t) fun k hk => flat_un h.1.1.1.nd ((pl_mem o t h.1.1.1.nd k).mp hk)) (unK_len4 h.2)
theorem places_len {e o t : List (Tx × Tx)} (h : P4 e o t) : (m_law_places e o t).length ≤ 600 := by
  unfold m_law_places
  rw [srt_len, dkeys_len]
  exact pl_len h
theorem pl_loop1 {e o t : List (Tx × Tx)} (h : P4 e o t) {i : Nat} {s : List (Tx × Bool) × List (Tx × Bool)} {y : Tx} (hr : runL (m_law_places_step1 e o t) ((srt (uniT [] (((dkeys e) ++ (dkeys o)) ++ (dkeys t)))).take i) (m_law_places_v1, m_law_places_v2) = .go s) (hy : (srt (uniT [] (((dkeys e) ++ (dkeys o)) ++ (dkeys t))))[i]? = some y) : s.1.length ≤ 600 ∧ s.2.length ≤ 600 := by
  have hi := (List.getElem?_eq_some_iff.mp hy).1
  have pl : ∀ (c : Tx → Bool) (s : List (Tx × Bool)) (y : Tx) (n : Nat), s.length ≤ n → (pif c s y).length ≤ n + 1 := fun c s y n h => by
    unfold pif
    split
    · exact Nat.le_trans (put_len _ _ _) (Nat.succ_le_succ h)
    · exact Nat.le_succ_of_le h
  have h1 := run_cnt (g := fun s y => (m_law_places_v6 e y o t s, m_law_places_v7 e y o t s)) (fun _ _ => rfl) (I := fun n s => s.1.length ≤ n ∧ s.2.length ≤ n) hr (Nat.le_of_lt hi) ⟨Nat.le_refl 0, Nat.le_refl 0⟩ (fun n s y _ hs => by
    show (m_law_places_v6 e y o t s).length ≤ n + 1 ∧ (m_law_places_v7 e y o t s).length ≤ n + 1
    rw [pl_v6, pl_v7]
    exact ⟨pl _ _ _ _ hs.1, pl _ _ _ _ hs.2⟩)
  have h2 := unK_len4 h.2
  have h3 := duK_is o t h.1.1.1.nd
  unfold duK at h3
  rw [h3] at hi
  exact ⟨by have := h1.1; omega, by have := h1.2; omega⟩
theorem pl_lens {e o t : List (Tx × Tx)} (h : P4 e o t) : (dkeys (m_law_places_v8 e o t).1).length ≤ 600 ∧ (m_law_places_v8 e o t).2.length ≤ 600 := by
  have ge := h.1.1.1.nd
  have h2 := unK_len4 h.2
  refine ⟨Nat.le_trans (sub_len (m := unK e o t) ?_ fun k hk => AG_un ((pl_made o t ge k).mp hk)) h2, ?_⟩
  · rw [pl_v8]
    exact pif_nd _ _
  · rw [← dkeys_len]
    refine Nat.le_trans (sub_len (m := unK e o t) ?_ fun k hk => CL_un ((pl_cl o t ge k).mp hk)) h2
    rw [pl_v8]
    exact pif_nd _ _
theorem pl_v11_len (e o t : List (Tx × Tx)) (y2 y3 : Tx) (s : List (Tx × Bool)) : (m_law_places_v11 y3 e o t s y2).length ≤ s.length + 2 := by
  unfold m_law_places_v11 m_law_places_v10 m_law_places_v9
  split
  · exact Nat.le_trans (put_len _ _ _) (Nat.succ_le_succ (put_len _ _ _))
  · omega
theorem pl_up {e o t : List (Tx × Tx)} (h : P4 e o t) {y : Tx} (hy : y ∈ dkeys (m_law_places_v8 e o t).1) : y.length ≤ 900 ∧ (m_law_uppers y).length ≤ 8 := by
  have hp := pth_eight (AG_pth h.1.1 ((pl_made o t h.1.1.1.nd y).mp hy))
  have h1 := uppers_len y
  exact ⟨hp.1, by omega⟩
theorem pl_v12_len {e o t : List (Tx × Tx)} (h : P4 e o t) {y : Tx} (hy : y ∈ dkeys (m_law_places_v8 e o t).1) (s : List (Tx × Bool)) : (m_law_places_v12 e o t y s).length ≤ s.length + 16 := by
  rw [pl_v12]
  have h1 := fold_cnt (f := fun s y3 => m_law_places_v11 y3 e o t s y) (I := fun n q => q.length ≤ s.length + n * 2) (l := m_law_uppers y) (s0 := s) (by omega) (fun n q y3 _ hq => by
    show (m_law_places_v11 y3 e o t q y).length ≤ s.length + (n + 1) * 2
    have h2 := pl_v11_len e o t y y3 q
    have h3 : q.length ≤ s.length + n * 2 := hq
    omega) _ (Nat.le_refl _)
  rw [List.take_length] at h1
  have h2 := (pl_up h hy).2
  have h3 : ((m_law_uppers y).foldl (fun s y3 => m_law_places_v11 y3 e o t s y) s).length ≤ s.length + (m_law_uppers y).length * 2 := h1
  omega
theorem pl_loop2 {e o t : List (Tx × Tx)} (h : P4 e o t) {i : Nat} {s : List (Tx × Bool)} {y : Tx} (hr : runL (m_law_places_step2 e o t) ((dkeys (m_law_places_v8 e o t).1).take i) (m_law_places_v8 e o t).2 = .go s) (hy : (dkeys (m_law_places_v8 e o t).1)[i]? = some y) : s.length ≤ 10200 := by
  have hi := (List.getElem?_eq_some_iff.mp hy).1
  have hl := pl_lens h
  have h1 := run_cnt (g := fun s y2 => m_law_places_v12 e o t y2 s) (fun _ _ => rfl) (I := fun n s => s.length ≤ 600 + n * 16) hr (Nat.le_of_lt hi) (by omega) (fun n s y hy hs => by
    show (m_law_places_v12 e o t y s).length ≤ 600 + (n + 1) * 16
    have h3 := pl_v12_len h (List.mem_of_getElem? hy) s
    have h4 : s.length ≤ 600 + n * 16 := hs
    omega)
  have h5 : s.length ≤ 600 + i * 16 := h1
  omega
theorem pl_loop3 {e o t : List (Tx × Tx)} {y2 : Tx} {s2 : List (Tx × Bool)} {i : Nat} {s : List (Tx × Bool)} {y : Tx} (hr : runL (m_law_places_step3 e o t y2) ((m_law_uppers y2).take i) s2 = .go s) (hy : (m_law_uppers y2)[i]? = some y) : s.length ≤ s2.length + (m_law_uppers y2).length * 2 := by
  have hi := (List.getElem?_eq_some_iff.mp hy).1
  have h1 := run_cnt (g := fun s y3 => m_law_places_v11 y3 e o t s y2) (fun _ _ => rfl) (I := fun n s => s.length ≤ s2.length + n * 2) hr (Nat.le_of_lt hi) (by omega) (fun n s y hy hs => by
    show (m_law_places_v11 y e o t s y2).length ≤ s2.length + (n + 1) * 2
    have h3 := pl_v11_len e o t y2 y s
    have h4 : s.length ≤ s2.length + n * 2 := hs
    omega)
  have h5 : s.length ≤ s2.length + i * 2 := h1
  omega

/-! what is due -/
def badS (e o t : List (Tx × Tx)) (P : List (Tx × Option Tx)) (y : Tx) : Bool := !dhas P y && CLp e o t y
def dueS (e o t : List (Tx × Tx)) (P : List (Tx × Option Tx)) (s : List (Tx × Tx)) (y : Tx) : List (Tx × Tx) := if (VV e o t P y).isSome = true then dput s y ((VV e o t P y).getD []) else s
theorem due_step (e o t : List (Tx × Tx)) (P : List (Tx × Option Tx)) (s : List (Tx × Tx)) (y : Tx) : m_law_due_step1 e o t P s y = if badS e o t P y = true then .ret none else .go (dueS e o t P s y) := by
  unfold m_law_due_step1 badS
  by_cases h : dhas P y = true
  · have hV : VV e o t P y = m_law_due_v3 P y := by
      unfold VV
      rw [if_pos ((has_iff _ _).mp h)]
      rfl
    rw [if_pos h, h, Bool.not_true, Bool.false_and, if_neg Bool.false_ne_true]
    unfold dueS
    rw [hV]
    rfl
  · have h0 : dhas P y = false := by
      cases z : dhas P y with
      | false => rfl
      | true => exact absurd z h
    rw [if_neg h, h0, Bool.not_false, Bool.true_and]
    show (if m_law_splits (dget e y) (dget o y) (dget t y) = true then _ else _) = if m_law_splits (dget e y) (dget o y) (dget t y) = true then _ else _
    cases hc : m_law_splits (dget e y) (dget o y) (dget t y) with
    | true => rw [if_pos rfl, if_pos rfl]
    | false =>
      have hV : VV e o t P y = m_law_due_v2 e y o t := by
        unfold VV m_law_due_v2 AG
        rw [if_neg fun z => h ((has_iff _ _).mpr z), law_at_AG hc]
      rw [if_neg Bool.false_ne_true, if_neg Bool.false_ne_true]
      unfold dueS
      rw [hV]
      rfl
theorem due_run (e o t : List (Tx × Tx)) (P : List (Tx × Option Tx)) : ∀ (l : List Tx) (s : List (Tx × Tx)), runL (m_law_due_step1 e o t P) l s = if l.any (badS e o t P) = true then .ret none else .go (l.foldl (dueS e o t P) s)
  | [], s => rfl
  | y :: l, s => by
    have h1 := due_step e o t P s y
    rw [List.any_cons]
    by_cases hc : badS e o t P y = true
    · rw [if_pos hc] at h1
      rw [runL_ret h1, hc, Bool.true_or, if_pos rfl]
    · have hc2 : badS e o t P y = false := by
        cases z : badS e o t P y with
        | false => rfl
        | true => exact absurd z hc
      rw [if_neg hc] at h1
      rw [runL_go h1, due_run e o t P l, hc2, Bool.false_or, List.foldl_cons]
def upB (d : List (Tx × Tx)) (y : Tx) : Bool := decide (((((m_law_uppers y).filter (fun k0 : Tx => (dhas d k0))).map (fun k0 : Tx => k0)).length : Int) > (0 : Int))
def dueD (e o t : List (Tx × Tx)) (P : List (Tx × Option Tx)) : List (Tx × Tx) := (duK e o t).foldl (dueS e o t P) []
theorem due_is8 (e o t : List (Tx × Tx)) (P : List (Tx × Option Tx)) : m_law_due e o t P = if (duK e o t).any (badS e o t P) = true then none else if (dkeys (dueD e o t P)).any (upB (dueD e o t P)) = true then none else some (dueD e o t P) := by
  unfold m_law_due
  rw [due_run]
  show aftL (if (duK e o t).any (badS e o t P) = true then _ else .go (dueD e o t P)) _ = _
  by_cases h1 : (duK e o t).any (badS e o t P) = true
  · rw [if_pos h1, if_pos h1]
    rfl
  · rw [if_neg h1, if_neg h1]
    show aftL (runL (m_law_due_step2 (dueD e o t P)) (dkeys (dueD e o t P)) ()) (fun _ => some (dueD e o t P)) = _
    rw [run_if (step := m_law_due_step2 (dueD e o t P)) (c := upB (dueD e o t P)) (fun _ => rfl)]
    by_cases h2 : (dkeys (dueD e o t P)).any (upB (dueD e o t P)) = true
    · rw [if_pos h2, if_pos h2]
      rfl
    · rw [if_neg h2, if_neg h2]
      rfl
theorem dueS_get (e o t : List (Tx × Tx)) (P : List (Tx × Option Tx)) (p : Tx) : ∀ (l : List Tx) (s : List (Tx × Tx)), l.Nodup → (∀ k ∈ l, k ∉ dkeys s) → dget (l.foldl (dueS e o t P) s) p = if p ∈ l then VV e o t P p else dget s p
  | [], s, _, _ => rfl
  | y :: l, s, hn, hs => by
    rw [List.nodup_cons] at hn
    have hy := hs y List.mem_cons_self
    have hS : ∀ k, dget (dueS e o t P s y) k = if k = y then VV e o t P y else dget s k := fun k => by
      unfold dueS
      cases hV : VV e o t P y with
      | some v =>
        rw [if_pos (show (some v).isSome = true from rfl), get_put]
        rfl
      | none =>
        rw [if_neg (by decide)]
        by_cases hk : k = y
        · rw [if_pos hk, hk, get_none hy]
        · rw [if_neg hk]
    have hk2 : ∀ k ∈ l, k ∉ dkeys (dueS e o t P s y) := fun k hk z => by
      have h1 := get_isSome.mpr z
      rw [hS k, if_neg (fun w : k = y => hn.1 (w ▸ hk))] at h1
      exact hs k (List.mem_cons_of_mem _ hk) (get_isSome.mp h1)
    rw [List.foldl_cons, dueS_get e o t P p l _ hn.2 hk2, hS p]
    by_cases h2 : p ∈ l
    · rw [if_pos h2, if_pos (List.mem_cons_of_mem _ h2)]
    · rw [if_neg h2]
      by_cases h3 : p = y
      · rw [if_pos h3, if_pos (by rw [h3]; exact List.mem_cons_self), h3]
      · rw [if_neg h3, if_neg fun z => (List.mem_cons.mp z).elim h3 h2]
theorem dueD_get {e : List (Tx × Tx)} (o t : List (Tx × Tx)) (P : List (Tx × Option Tx)) (ge : (dkeys e).Nodup) (hsub : ∀ k ∈ dkeys P, k ∈ unK e o t) (p : Tx) : dget (dueD e o t P) p = VV e o t P p := by
  unfold dueD
  rw [duK_is o t ge, dueS_get e o t P p _ _ (nodup_unK o t ge) (fun k _ z => by have z2 : k ∈ ([] : List Tx) := z; cases z2)]
  by_cases h : p ∈ unK e o t
  · rw [if_pos h]
  · rw [if_neg h]
    unfold VV
    rw [if_neg fun z => h (hsub p z)]
    cases hA : AG e o t p with
    | none => rfl
    | some v => exact absurd (AG_un (by rw [hA]; rfl)) h
theorem dueD_nd (e o t : List (Tx × Tx)) (P : List (Tx × Option Tx)) : (dkeys (dueD e o t P)).Nodup :=
  fold_inv (I := fun s => (dkeys s).Nodup) List.nodup_nil fun s y _ h => by
    unfold dueS
    split
    · exact nodup_put h
    · exact h
theorem upB_iff (d : List (Tx × Tx)) (y : Tx) : upB d y = true ↔ ∃ u ∈ dkeys d, Ben y u := by
  unfold upB
  rw [decide_eq_true_eq, List.length_map]
  constructor
  · intro h
    have h1 : 0 < ((m_law_uppers y).filter (fun k0 : Tx => (dhas d k0))).length := by omega
    obtain ⟨u, hu⟩ := List.exists_mem_of_length_pos h1
    obtain ⟨h2, h3⟩ := List.mem_filter.mp hu
    exact ⟨u, (has_iff _ _).mp h3, uppers_mem.mp h2⟩
  · rintro ⟨u, hu, hB⟩
    have h1 : u ∈ (m_law_uppers y).filter (fun k0 : Tx => (dhas d k0)) := List.mem_filter.mpr ⟨uppers_mem.mpr hB, (has_iff _ _).mpr hu⟩
    have h2 := List.length_pos_of_mem h1
    omega
/-- the same sides, in either order -/
def Sw (e o t a b : List (Tx × Tx)) : Prop := ((∀ p, CLp e a b p = CLp e o t p) ∧ ∀ p, AG e a b p = AG e o t p) ∧ m_clashes e a b = m_clashes e o t
theorem sw_id (e o t : List (Tx × Tx)) : Sw e o t o t := ⟨⟨fun _ => rfl, fun _ => rfl⟩, rfl⟩
theorem sw_sym {e : List (Tx × Tx)} (o t : List (Tx × Tx)) (ge : (dkeys e).Nodup) : Sw e o t t o := ⟨⟨fun _ => clsh_sym _ _ _, fun _ => agF_sym _ _ _⟩, clashes_sym o t ge⟩
theorem told_due {e o t a b : List (Tx × Tx)} {P : List (Tx × Option Tx)} (ge : (dkeys e).Nodup) (hn : (dkeys P).Nodup) (hs : Sw e o t a b) (hsub : ∀ k ∈ dkeys P, k ∈ (m_clashes e o t).flatten) :
    (∀ d, m_law_due e o t P = some d → ∃ l, m_joined e a b P = .ok l ∧ dsame l d) ∧ (m_law_due e o t P = none → m_joined e a b P = .exc 5) := by
  have hun : ∀ k ∈ dkeys P, k ∈ unK e o t := fun k hk => flat_un ge (hsub k hk)
  have hVV : ∀ p, VV e a b P p = VV e o t P p := fun p => by
    unfold VV
    rw [hs.1.2 p]
  have hA : jA e a b P = false := by
    unfold jA
    rw [List.any_eq_false]
    intro k hk z
    rw [hs.2, decide_eq_true (hsub k hk)] at z
    cases z
  have hB : jB e a b P = (duK e o t).any (badS e o t P) := by
    rw [Bool.eq_iff_iff]
    unfold jB
    rw [List.any_eq_true, List.any_eq_true]
    constructor
    · rintro ⟨k, hk, z⟩
      have h1 := single_mem.mp hk
      rw [hs.1.1] at h1
      refine ⟨k, by rw [duK_is o t ge]; exact CL_un h1, ?_⟩
      unfold badS
      rw [z, h1]
      rfl
    · rintro ⟨k, _, z⟩
      unfold badS at z
      have h2 := Bool.and_eq_true_iff.mp z
      exact ⟨k, single_mem.mpr (by rw [hs.1.1]; exact h2.2), h2.1⟩
  have hk : ∀ p, p ∈ dkeys (m_joined_v4 P e a b) ↔ p ∈ dkeys (dueD e o t P) := fun p => by
    rw [jv4_key a b ge hn, hVV, ← dueD_get o t P ge hun, get_isSome]
  have hC : jC e a b P = (dkeys (dueD e o t P)).any (upB (dueD e o t P)) := by
    rw [Bool.eq_iff_iff]
    unfold jC
    rw [Bool.not_eq_true', decide_eq_false_iff_not, over_none, List.any_eq_true]
    constructor
    · intro h
      refine Classical.byContradiction fun h2 => h fun u hu y hy hB => h2 ⟨y, (hk y).mp hy, (upB_iff _ _).mpr ⟨u, (hk u).mp hu, hB⟩⟩
    · rintro ⟨y, hy, z⟩ h
      obtain ⟨u, hu, hB⟩ := (upB_iff _ _).mp z
      exact h u ((hk u).mpr hu) y ((hk y).mpr hy) hB
  have hsame : dsame (m_joined_v4 P e a b) (dueD e o t P) := by
    refine ⟨?_, fun q hq => ?_⟩
    · rw [← dkeys_len, ← dkeys_len (dueD e o t P)]
      exact (perm_mem (jv4_nd a b P ge) (dueD_nd e o t P) hk).length_eq
    · rw [dueD_get o t P ge hun, ← hVV, ← jv4_get a b ge hn]
      exact get_of (jv4_nd a b P ge) hq
  rw [joined_is, due_is8, hA, if_neg Bool.false_ne_true, hB, hC]
  by_cases h1 : (duK e o t).any (badS e o t P) = true
  · rw [if_pos h1, if_pos h1]
    exact ⟨fun d hd => (by cases hd), fun _ => rfl⟩
  · rw [if_neg h1, if_neg h1]
    by_cases h2 : (dkeys (dueD e o t P)).any (upB (dueD e o t P)) = true
    · rw [if_pos h2, if_pos h2]
      exact ⟨fun d hd => (by cases hd), fun _ => rfl⟩
    · rw [if_neg h2, if_neg h2]
      refine ⟨fun d hd => ?_, fun hd => (by cases hd)⟩
      cases hd
      exact ⟨_, rfl, hsame⟩
theorem told_odd {e o t a b : List (Tx × Tx)} {P : List (Tx × Option Tx)} (hs : Sw e o t a b) {k : Tx} (hk : k ∈ dkeys P) (hn : k ∉ (m_clashes e o t).flatten) : m_joined e a b P = .exc 4 := by
  rw [joined_is]
  have hA : jA e a b P = true := by
    unfold jA
    rw [List.any_eq_true]
    refine ⟨k, hk, ?_⟩
    rw [hs.2, decide_eq_false hn]
    rfl
  rw [hA, if_pos rfl]
theorem due_loop {e o t : List (Tx × Tx)} {P : List (Tx × Option Tx)} (h : P4 e o t) {i : Nat} {s : List (Tx × Tx)} {y : Tx} (hr : runL (m_law_due_step1 e o t P) ((srt (uniT [] (((dkeys e) ++ (dkeys o)) ++ (dkeys t)))).take i) m_law_due_v1 = .go s) (hy : (srt (uniT [] (((dkeys e) ++ (dkeys o)) ++ (dkeys t))))[i]? = some y) : s.length ≤ 600 := by
  have hi := (List.getElem?_eq_some_iff.mp hy).1
  rw [due_run] at hr
  split at hr
  · cases hr
  · have hr2 := Stp.go.inj hr
    have h1 := fold_cnt (f := dueS e o t P) (I := fun n s => s.length ≤ n) (l := srt (uniT [] (((dkeys e) ++ (dkeys o)) ++ (dkeys t)))) (s0 := []) (Nat.le_refl 0) (fun n s y _ hs => by
      show (dueS e o t P s y).length ≤ n + 1
      unfold dueS
      split
      · exact Nat.le_trans (put_len _ _ _) (Nat.succ_le_succ hs)
      · exact Nat.le_succ_of_le hs) i (Nat.le_of_lt hi)
    have h4 : s.length ≤ i := by
      rw [← hr2]
      exact h1
    have h2 := unK_len4 h.2
    have h3 := duK_is o t h.1.1.1.nd
    unfold duK at h3
    rw [h3] at hi
    omega
theorem due_short {e o t : List (Tx × Tx)} {P : List (Tx × Option Tx)} (h : P4 e o t) {s : List (Tx × Tx)} (hr : runL (m_law_due_step1 e o t P) (srt (uniT [] (((dkeys e) ++ (dkeys o)) ++ (dkeys t)))) m_law_due_v1 = .go s ∨ runL (m_law_due_step1 e o t P) (srt (uniT [] (((dkeys e) ++ (dkeys o)) ++ (dkeys t)))) m_law_due_v1 = .brk s) {y : Tx} (hy : y ∈ dkeys s) : y.length ≤ 900 ∧ (m_law_uppers y).length ≤ 8 := by
  have ge := h.1.1.1.nd
  have hs : s = dueD e o t P := by
    rw [due_run] at hr
    rcases hr with hr | hr
    · split at hr
      · cases hr
      · exact (Stp.go.inj hr).symm
    · split at hr <;> cases hr
  have hin : y ∈ unK e o t := by
    rw [hs] at hy
    have h1 := get_isSome.mpr hy
    unfold dueD at h1
    rw [duK_is o t ge, dueS_get e o t P y _ _ (nodup_unK o t ge) (fun k _ z => by have z2 : k ∈ ([] : List Tx) := z; cases z2)] at h1
    refine Classical.byContradiction fun z => ?_
    rw [if_neg z] at h1
    cases h1
  have hp : Pth y := by
    rcases mem_unK.mp hin with (z | z) | z
    · exact h.1.1.1.pth y z
    · exact h.1.1.2.1.pth y z
    · exact h.1.1.2.2.pth y z
  have h8 := pth_eight hp
  have h1 := uppers_len y
  exact ⟨h8.1, by omega⟩

/-! the picks -/
theorem picks_v3 (sc : List Int) (y : Nat) : 0 ≤ m_law_picks_v3 sc y ∧ m_law_picks_v3 sc y ≤ 5 := by
  unfold m_law_picks_v3 m_law_picks_v2
  split <;> omega
theorem picks_step (pl : List Tx) (sc : List Int) (e o t : List (Tx × Tx)) (s : List (Tx × Option Tx)) (y : Nat) : m_law_picks_v11 sc y s pl e o t = s ∨ ∃ v, m_law_picks_v11 sc y s pl e o t = dput s (pl.getD (y : Int).toNat []) v := by
  unfold m_law_picks_v11 m_law_picks_v10 m_law_picks_v9 m_law_picks_v8
  split
  · exact Or.inr ⟨_, rfl⟩
  · split
    · exact Or.inr ⟨_, rfl⟩
    · split
      · exact Or.inr ⟨_, rfl⟩
      · split
        · exact Or.inr ⟨_, rfl⟩
        · exact Or.inl rfl
def PI (pl : List Tx) (n : Nat) (s : List (Tx × Option Tx)) : Prop := (s.length ≤ n ∧ (dkeys s).Nodup) ∧ ∀ k ∈ dkeys s, k ∈ pl
theorem picks_inv {pl : List Tx} {sc : List Int} {e o t : List (Tx × Tx)} {n : Nat} {s : List (Tx × Option Tx)} {y : Nat} (hy : y < pl.length) (h : PI pl n s) : PI pl (n + 1) (m_law_picks_v11 sc y s pl e o t) := by
  rcases picks_step pl sc e o t s y with z | ⟨v, z⟩
  · rw [z]
    exact ⟨⟨Nat.le_succ_of_le h.1.1, h.1.2⟩, h.2⟩
  · rw [z]
    refine ⟨⟨Nat.le_trans (put_len _ _ _) (Nat.succ_le_succ h.1.1), nodup_put h.1.2⟩, fun k hk => ?_⟩
    rcases mem_keys_put.mp hk with w | w
    · rw [w, Int.toNat_natCast, List.getD_eq_getElem?_getD, List.getElem?_eq_getElem hy]
      exact List.getElem_mem hy
    · exact h.2 k w
theorem picks_loop {pl : List Tx} {sc : List Int} {e o t : List (Tx × Tx)} {i y : Nat} {s : List (Tx × Option Tx)} (hr : runL (m_law_picks_step1 pl sc e o t) ((List.range (pl.length : Int).toNat).take i) m_law_picks_v1 = .go s) (hy : (List.range (pl.length : Int).toNat)[i]? = some y) : s.length ≤ pl.length := by
  have hi := (List.getElem?_eq_some_iff.mp hy).1
  have h1 := run_cnt (g := fun s y => m_law_picks_v11 sc y s pl e o t) (fun _ _ => rfl) (I := PI pl) hr (Nat.le_of_lt hi) ⟨⟨Nat.le_refl 0, List.nodup_nil⟩, fun k hk => (nomatch hk)⟩ fun n s y hy h => picks_inv (by have := List.mem_range.mp (List.mem_of_getElem? hy); omega) h
  rw [List.length_range] at hi
  have := h1.1.1
  omega
theorem picks_all (pl : List Tx) (sc : List Int) (e o t : List (Tx × Tx)) : PI pl pl.length (m_law_picks pl sc e o t) := by
  have h := out_cnt (step := m_law_picks_step1 pl sc e o t) (g := fun s y => m_law_picks_v11 sc y s pl e o t) (fun _ _ => rfl) (I := PI pl) (l := List.range (pl.length : Int).toNat) (s0 := m_law_picks_v1) ⟨⟨Nat.le_refl 0, List.nodup_nil⟩, fun k hk => (nomatch hk)⟩ fun n s y hy h => picks_inv (by have := List.mem_range.mp (List.mem_of_getElem? hy); omega) h
  rw [List.length_range, Int.toNat_natCast] at h
  exact h
/-! the law -/
theorem law_trees (sc : List Int) : ((m_law_v1 sc).length ≤ 176 ∧ GT (m_law_v1 sc)) ∧ ((m_law_v2 sc).length ≤ 184 ∧ GT (m_law_v2 sc)) ∧ ((m_law_v3 sc).length ≤ 184 ∧ GT (m_law_v3 sc)) :=
  ⟨trees_v8 sc, (trees_v21 sc).1, (trees_v21 sc).2⟩
theorem law_P4 (sc : List Int) : P4 (m_law_v1 sc) (m_law_v2 sc) (m_law_v3 sc) := by
  have h := law_trees sc
  have h1 := h.1.1
  have h2 := h.2.1.1
  have h3 := h.2.2.1
  exact ⟨⟨⟨h.1.2.g, h.2.1.2.g, h.2.2.2.g⟩, ⟨by omega, by omega, by omega⟩⟩, ⟨by omega, by omega, by omega⟩⟩
theorem law_P4s (sc : List Int) : P4 (m_law_v1 sc) (m_law_v3 sc) (m_law_v2 sc) := by
  have h := law_P4 sc
  exact ⟨⟨⟨h.1.1.1, h.1.1.2.2, h.1.1.2.1⟩, ⟨h.1.2.1, h.1.2.2.2, h.1.2.2.1⟩⟩, ⟨h.2.1, h.2.2.2, h.2.2.1⟩⟩
theorem law_nd (sc : List Int) : (dkeys (m_law_v1 sc)).Nodup := (law_P4 sc).1.1.1.nd
theorem law_places (sc : List Int) : (m_law_v4 sc).length ≤ 600 := places_len (law_P4 sc)
theorem law_in (sc : List Int) (k : Tx) : k ∈ m_law_v4 sc ↔ k ∈ (m_clashes (m_law_v1 sc) (m_law_v2 sc) (m_law_v3 sc)).flatten := places_mem _ _ (law_nd sc) k
theorem law_picks (sc : List Int) : PI (m_law_v4 sc) (m_law_v4 sc).length (m_law_v5 sc) := picks_all _ _ _ _ _
theorem v5_sub (sc : List Int) : ∀ k ∈ dkeys (m_law_v5 sc), k ∈ (m_clashes (m_law_v1 sc) (m_law_v2 sc) (m_law_v3 sc)).flatten := fun k hk => (law_in sc k).mp ((law_picks sc).2 k hk)
theorem in_ok (sc : List Int) {k : Tx} (hk : k ∈ (m_clashes (m_law_v1 sc) (m_law_v2 sc) (m_law_v3 sc)).flatten) : (k.length ≤ 900 ∧ (cuts 47 k).length ≤ 8) ∧ okT k := by
  have hu := flat_un (law_nd sc) hk
  have h := law_P4 sc
  have hp : Pth k := by
    rcases mem_unK.mp hu with (z | z) | z
    · exact h.1.1.1.pth k z
    · exact h.1.1.2.1.pth k z
    · exact h.1.1.2.2.pth k z
  exact ⟨pth_eight hp, pth_okT hp⟩
theorem odd_all : ∀ n < 3, (([l_f8be0e12, l_82bac741, l_7dbde935].getD n []).length ≤ 900 ∧ (cuts 47 ([l_f8be0e12, l_82bac741, l_7dbde935].getD n [])).length ≤ 8) ∧ ∀ c ∈ ([l_f8be0e12, l_82bac741, l_7dbde935].getD n []), c < 1114112 := by decide +kernel
theorem odd_ok (sc : List Int) : ((m_law_v8 sc).length ≤ 900 ∧ (cuts 47 (m_law_v8 sc)).length ≤ 8) ∧ okT (m_law_v8 sc) := odd_all _ (by omega)
theorem v5_ok (sc : List Int) : okPicks (m_law_v5 sc) := by
  have h := law_picks sc
  have hl := law_places sc
  exact ⟨⟨h.1.2, by have := h.1.1; omega⟩, fun k hk => in_ok sc (v5_sub sc k hk)⟩
theorem v9_ok (sc : List Int) : okPicks (m_law_v9 sc) := by
  have h := law_picks sc
  have hl := law_places sc
  have h5 := v5_ok sc
  unfold m_law_v9
  refine ⟨⟨nodup_put h5.1.1, Nat.le_trans (put_len _ _ _) (by have := h.1.1; omega)⟩, fun k hk => ?_⟩
  rcases mem_keys_put.mp hk with z | z
  · rw [z]
    exact odd_ok sc
  · exact h5.2 k z
/-- a pick for no clash is there -/
def oddB (sc : List Int) : Bool := decide (((m_law_cell_at sc (28 : Int)) % (6 : Int)) = (1 : Int)) && !decide ((m_law_v8 sc) ∈ (m_law_v4 sc))
theorem v13_cases (sc : List Int) : (oddB sc = true ∧ m_law_v13 sc = m_law_v9 sc ∧ m_law_v14 sc = l_0cd5a837 ∧ m_law_v29 sc = l_0cd5a837) ∨ (oddB sc = false ∧ m_law_v13 sc = m_law_v5 sc ∧ m_law_v14 sc = lMade ∧ m_law_v29 sc = l_20ed7699) := by
  have e26 : m_law_v27 sc = if (!decide ((m_law_v8 sc) ∈ (m_law_v4 sc))) = true then l_0cd5a837 else l_20ed7699 := rfl
  have e12 : m_law_v12 sc = if (!decide ((m_law_v8 sc) ∈ (m_law_v4 sc))) = true then l_0cd5a837 else lMade := rfl
  have e29 : m_law_v29 sc = if (decide (((m_law_cell_at sc (28 : Int)) % (6 : Int)) = (1 : Int))) = true then m_law_v27 sc else l_20ed7699 := rfl
  have e14 : m_law_v14 sc = if (decide (((m_law_cell_at sc (28 : Int)) % (6 : Int)) = (1 : Int))) = true then m_law_v12 sc else lMade := rfl
  rw [e29, e14, e26, e12]
  unfold oddB m_law_v13 m_law_v11
  cases decide (((m_law_cell_at sc (28 : Int)) % (6 : Int)) = (1 : Int)) with
  | false => exact Or.inr ⟨rfl, rfl, rfl, rfl⟩
  | true =>
    cases decide ((m_law_v8 sc) ∈ (m_law_v4 sc)) with
    | false => exact Or.inl ⟨rfl, rfl, rfl, rfl⟩
    | true => exact Or.inr ⟨rfl, rfl, rfl, rfl⟩
theorem v13_ok (sc : List Int) : okPicks (m_law_v13 sc) := by
  rcases v13_cases sc with h | h
  · rw [h.2.1]
    exact v9_ok sc
  · rw [h.2.1]
    exact v5_ok sc
def Sides (sc : List Int) (a b : List (Tx × Tx)) : Prop := (a = m_law_v2 sc ∧ b = m_law_v3 sc) ∨ (a = m_law_v3 sc ∧ b = m_law_v2 sc)
theorem sides_sw {sc : List Int} {a b : List (Tx × Tx)} (h : Sides sc a b) : Sw (m_law_v1 sc) (m_law_v2 sc) (m_law_v3 sc) a b := by
  rcases h with ⟨rfl, rfl⟩ | ⟨rfl, rfl⟩
  · exact sw_id _ _ _
  · exact sw_sym _ _ (law_nd sc)
theorem oddB_out {sc : List Int} (h : oddB sc = true) : m_law_v8 sc ∉ (m_clashes (m_law_v1 sc) (m_law_v2 sc) (m_law_v3 sc)).flatten := fun z => by
  have h2 := (Bool.and_eq_true_iff.mp h).2
  rw [decide_eq_true ((law_in sc _).mpr z)] at h2
  cases h2
theorem told_oddB {sc : List Int} {a b : List (Tx × Tx)} (hs : Sides sc a b) (h : oddB sc = true) : m_law_told (m_law_v1 sc) a b (m_law_v13 sc) = .exc 4 := by
  rcases v13_cases sc with g | g
  · unfold m_law_told
    rw [g.2.1]
    exact told_odd (sides_sw hs) (k := m_law_v8 sc) (mem_keys_put.mpr (Or.inl rfl)) (oddB_out h)
  · rw [g.1] at h
    cases h
theorem told_even {sc : List Int} {a b : List (Tx × Tx)} (hs : Sides sc a b) (h : oddB sc = false) :
    (∀ d, m_law_due (m_law_v1 sc) (m_law_v2 sc) (m_law_v3 sc) (m_law_v5 sc) = some d → ∃ l, m_law_told (m_law_v1 sc) a b (m_law_v13 sc) = .ok l ∧ dsame l d) ∧ (m_law_due (m_law_v1 sc) (m_law_v2 sc) (m_law_v3 sc) (m_law_v5 sc) = none → m_law_told (m_law_v1 sc) a b (m_law_v13 sc) = .exc 5) := by
  rcases v13_cases sc with g | g
  · rw [g.1] at h
    cases h
  · unfold m_law_told
    rw [g.2.1]
    exact told_due (law_nd sc) (v5_ok sc).1.1 (sides_sw hs) (v5_sub sc)
theorem word4 : word 4 = l_0cd5a837 := rfl
theorem word5 : word 5 = l_20ed7699 := rfl
theorem ne4 : ¬ l_0cd5a837 = lMade := by decide +kernel
theorem ne5 : ¬ l_20ed7699 = lMade := by decide +kernel
theorem ok_len {e o t : List (Tx × Tx)} {P : List (Tx × Option Tx)} (hp : P4 e o t) (hq : okPicks P) {l : List (Tx × Tx)} (h : m_law_told e o t P = .ok l) : l.length ≤ 1500 := by
  unfold m_law_told at h
  rw [joined_is] at h
  split at h
  · cases h
  · split at h
    · cases h
    · split at h
      · cases h
      · cases h
        exact jv4_len hp hq
theorem sides_P4 {sc : List Int} {a b : List (Tx × Tx)} (h : Sides sc a b) : P4 (m_law_v1 sc) a b := by
  rcases h with ⟨rfl, rfl⟩ | ⟨rfl, rfl⟩
  · exact law_P4 sc
  · exact law_P4s sc
theorem told_ok (sc : List Int) {a b l d : List (Tx × Tx)} (hd : m_law_due (m_law_v1 sc) (m_law_v2 sc) (m_law_v3 sc) (m_law_v5 sc) = some d) (h : m_law_told (m_law_v1 sc) a b (m_law_v13 sc) = .ok l) (hs : Sides sc a b) : m_law_v14 sc = lMade ∧ dsame l d ∧ l.length ≤ 1500 := by
  rcases v13_cases sc with g | g
  · rw [told_oddB hs g.1] at h
    cases h
  · obtain ⟨l2, h2, h3⟩ := (told_even hs g.1).1 d hd
    have h4 := ok_len (sides_P4 hs) (v13_ok sc) h2
    rw [h2] at h
    cases h
    exact ⟨g.2.2.1, h3, h4⟩
theorem told_exc (sc : List Int) {a b d : List (Tx × Tx)} {k : Nat} (hd : m_law_due (m_law_v1 sc) (m_law_v2 sc) (m_law_v3 sc) (m_law_v5 sc) = some d) (h : m_law_told (m_law_v1 sc) a b (m_law_v13 sc) = .exc k) (hs : Sides sc a b) : word k = m_law_v14 sc ∧ ¬ m_law_v14 sc = lMade := by
  rcases v13_cases sc with g | g
  · rw [told_oddB hs g.1] at h
    cases h
    rw [g.2.2.1, word4]
    exact ⟨rfl, ne4⟩
  · obtain ⟨l2, h2, h3⟩ := (told_even hs g.1).1 d hd
    rw [h2] at h
    cases h
theorem told_none (sc : List Int) {a b : List (Tx × Tx)} {k : Nat} (hd : m_law_due (m_law_v1 sc) (m_law_v2 sc) (m_law_v3 sc) (m_law_v5 sc) = none) (h : m_law_told (m_law_v1 sc) a b (m_law_v28 sc) = .exc k) (hs : Sides sc a b) : word k = m_law_v29 sc ∧ ¬ m_law_v29 sc = lMade := by
  have h0 : m_law_told (m_law_v1 sc) a b (m_law_v13 sc) = .exc k := h
  rcases v13_cases sc with g | g
  · rw [told_oddB hs g.1] at h0
    cases h0
    rw [g.2.2.2, word4]
    exact ⟨rfl, ne4⟩
  · rw [(told_even hs g.1).2 hd] at h0
    cases h0
    rw [g.2.2.2, word5]
    exact ⟨rfl, ne5⟩
theorem no_ok (sc : List Int) {a b l : List (Tx × Tx)} (hd : m_law_due (m_law_v1 sc) (m_law_v2 sc) (m_law_v3 sc) (m_law_v5 sc) = none) (h : m_law_told (m_law_v1 sc) a b (m_law_v28 sc) = .ok l) (hs : Sides sc a b) : False := by
  have h0 : m_law_told (m_law_v1 sc) a b (m_law_v13 sc) = .ok l := h
  rcases v13_cases sc with g | g
  · rw [told_oddB hs g.1] at h0
    cases h0
  · rw [(told_even hs g.1).2 hd] at h0
    cases h0
theorem law_holds (sc : List Int) : m_law sc = true := by
  have s1 : Sides sc (m_law_v2 sc) (m_law_v3 sc) := Or.inl ⟨rfl, rfl⟩
  have s2 : Sides sc (m_law_v3 sc) (m_law_v2 sc) := Or.inr ⟨rfl, rfl⟩
  have e28 : m_law_v28 sc = m_law_v13 sc := rfl
  unfold m_law
  rw [e28]
  cases hd : m_law_due (m_law_v1 sc) (m_law_v2 sc) (m_law_v3 sc) (m_law_v5 sc) with
  | some d =>
    rcases v13_cases sc with g | g
    · rw [told_oddB s1 g.1, told_oddB s2 g.1]
      simp [optM, resM, g.2.2.1, word4, ne4]
    · obtain ⟨l1, h1, _⟩ := (told_even s1 g.1).1 d hd
      obtain ⟨l2, h2, _⟩ := (told_even s2 g.1).1 d hd
      rw [h1, h2]
      simp [optM, resM, g.2.2.1]
  | none =>
    rcases v13_cases sc with g | g
    · rw [told_oddB s1 g.1, told_oddB s2 g.1]
      simp [optM, resM, g.2.2.2, word4, ne4]
    · rw [(told_even s1 g.1).2 hd, (told_even s2 g.1).2 hd]
      simp [optM, resM, g.2.2.2, word5, ne5]

end K08


namespace K08
open PySem PySem.Spec PyProof.Rows L2 TL Evl Vf
/-! ## the text -/
def topS (i : Nat) : Stmt := PySem.Challenge.pw_threeroad_k08_joined.main.body.getD i (.Pass ⟨0, 0, 0, 0⟩)
abbrev s_above : Stmt := topS 10
theorem sc_above : FnScope ["path", "parts", "many"] ["path"] (defScope s_above) := ⟨rfl, rfl, rfl, by decide +kernel, rfl, by decide +kernel, by decide +kernel⟩
abbrev s_overlaps : Stmt := topS 12
theorem sc_overlaps : FnScope ["files", "path", "upper"] ["files"] (defScope s_overlaps) := ⟨rfl, rfl, rfl, by decide +kernel, rfl, by decide +kernel, by decide +kernel⟩
abbrev s_mark_of : Stmt := topS 14
theorem sc_mark_of : FnScope ["before", "left", "right"] ["before", "left", "right"] (defScope s_mark_of) := ⟨rfl, rfl, rfl, by decide +kernel, rfl, by decide +kernel, by decide +kernel⟩
abbrev s_marks : Stmt := topS 15
theorem sc_marks : FnScope ["elder", "one", "other", "found", "path", "word"] ["elder", "one", "other"] (defScope s_marks) := ⟨rfl, rfl, rfl, by decide +kernel, rfl, by decide +kernel, by decide +kernel⟩
abbrev s_single_clashes : Stmt := topS 16
theorem sc_single_clashes : FnScope ["elder", "one", "other", "path", "word"] ["elder", "one", "other"] (defScope s_single_clashes) := ⟨rfl, rfl, rfl, by decide +kernel, rfl, by decide +kernel, by decide +kernel⟩
abbrev s_settle : Stmt := topS 17
theorem sc_settle : FnScope ["files", "path", "text"] ["files", "path", "text"] (defScope s_settle) := ⟨rfl, rfl, rfl, by decide +kernel, rfl, by decide +kernel, by decide +kernel⟩
abbrev s_agreed : Stmt := topS 18
theorem sc_agreed : FnScope ["elder", "one", "other", "files", "path", "word"] ["elder", "one", "other"] (defScope s_agreed) := ⟨rfl, rfl, rfl, by decide +kernel, rfl, by decide +kernel, by decide +kernel⟩
abbrev s_clashes : Stmt := topS 19
theorem sc_clashes : FnScope ["elder", "one", "other", "singles", "path"] ["elder", "one", "other"] (defScope s_clashes) := ⟨rfl, rfl, rfl, by decide +kernel, rfl, by decide +kernel, by decide +kernel⟩
abbrev s_joined : Stmt := topS 20
theorem sc_joined : FnScope ["elder", "one", "other", "picks", "clashing", "path", "files", "text", "clash"] ["elder", "one", "other", "picks"] (defScope s_joined) := ⟨rfl, rfl, rfl, by decide +kernel, rfl, by decide +kernel, by decide +kernel⟩
abbrev s_law_cell_at : Stmt := topS 22
theorem sc_law_cell_at : FnScope ["_law_script", "_law_k"] ["_law_script", "_law_k"] (defScope s_law_cell_at) := ⟨rfl, rfl, rfl, by decide +kernel, rfl, by decide +kernel, by decide +kernel⟩
abbrev s_law_sign_by : Stmt := topS 23
theorem sc_law_sign_by : FnScope ["_law_k"] ["_law_k"] (defScope s_law_sign_by) := ⟨rfl, rfl, rfl, by decide +kernel, rfl, by decide +kernel, by decide +kernel⟩
abbrev s_law_name_by : Stmt := topS 24
theorem sc_law_name_by : FnScope ["_law_k", "_law_shift", "_law_size", "_law_way", "_law_rest", "_law_at_here", "_law_told_here", "_law_name", "_law_j"] ["_law_k", "_law_shift"] (defScope s_law_name_by) := ⟨rfl, rfl, rfl, by decide +kernel, rfl, by decide +kernel, by decide +kernel⟩
abbrev s_law_path_by : Stmt := topS 25
theorem sc_law_path_by : FnScope ["_law_cell", "_law_shift", "_law_low", "_law_high", "_law_j"] ["_law_cell", "_law_shift"] (defScope s_law_path_by) := ⟨rfl, rfl, rfl, by decide +kernel, rfl, by decide +kernel, by decide +kernel⟩
abbrev s_law_line_by : Stmt := topS 26
theorem sc_law_line_by : FnScope ["_law_k", "_law_shift", "_law_some", "_law_sizes", "_law_j"] ["_law_k", "_law_shift"] (defScope s_law_line_by) := ⟨rfl, rfl, rfl, by decide +kernel, rfl, by decide +kernel, by decide +kernel⟩
abbrev s_law_is_free : Stmt := topS 27
theorem sc_law_is_free : FnScope ["_law_tree", "_law_path", "_law_other"] ["_law_tree", "_law_path"] (defScope s_law_is_free) := ⟨rfl, rfl, rfl, by decide +kernel, rfl, by decide +kernel, by decide +kernel⟩
abbrev s_law_grown : Stmt := topS 28
theorem sc_law_grown : FnScope ["_law_tree", "_law_cell", "_law_shift", "_law_path", "_law_is_far", "_law_made"] ["_law_tree", "_law_cell", "_law_shift"] (defScope s_law_grown) := ⟨rfl, rfl, rfl, by decide +kernel, rfl, by decide +kernel, by decide +kernel⟩
abbrev s_law_trees : Stmt := topS 29
theorem sc_law_trees : FnScope ["_law_script", "_law_shift", "_law_cell", "_law_elder", "_law_k", "_law_j", "_law_one", "_law_other", "_law_first", "_law_path"] ["_law_script"] (defScope s_law_trees) := ⟨rfl, rfl, rfl, by decide +kernel, rfl, by decide +kernel, by decide +kernel⟩
abbrev s_law_at : Stmt := topS 30
theorem sc_law_at : FnScope ["_law_was", "_law_left", "_law_right"] ["_law_was", "_law_left", "_law_right"] (defScope s_law_at) := ⟨rfl, rfl, rfl, by decide +kernel, rfl, by decide +kernel, by decide +kernel⟩
abbrev s_law_splits : Stmt := topS 31
theorem sc_law_splits : FnScope ["_law_was", "_law_left", "_law_right"] ["_law_was", "_law_left", "_law_right"] (defScope s_law_splits) := ⟨rfl, rfl, rfl, by decide +kernel, rfl, by decide +kernel, by decide +kernel⟩
abbrev s_law_uppers : Stmt := topS 32
theorem sc_law_uppers : FnScope ["_law_path", "_law_k"] ["_law_path"] (defScope s_law_uppers) := ⟨rfl, rfl, rfl, by decide +kernel, rfl, by decide +kernel, by decide +kernel⟩
abbrev s_law_places : Stmt := topS 33
theorem sc_law_places : FnScope ["_law_elder", "_law_one", "_law_other", "_law_made", "_law_places_here", "_law_path", "_law_lower", "_law_upper"] ["_law_elder", "_law_one", "_law_other"] (defScope s_law_places) := ⟨rfl, rfl, rfl, by decide +kernel, rfl, by decide +kernel, by decide +kernel⟩
abbrev s_law_picks : Stmt := topS 34
theorem sc_law_picks : FnScope ["_law_places_here", "_law_script", "_law_trees_here", "_law_picks_here", "_law_k", "_law_way"] ["_law_places_here", "_law_script", "_law_trees_here"] (defScope s_law_picks) := ⟨rfl, rfl, rfl, by decide +kernel, rfl, by decide +kernel, by decide +kernel⟩
abbrev s_law_told : Stmt := topS 35
theorem sc_law_told : FnScope ["_law_elder", "_law_one", "_law_other", "_law_picks_here", "_law_some", "e", "_law_fits", "_law_word"] ["_law_elder", "_law_one", "_law_other", "_law_picks_here"] (defScope s_law_told) := ⟨rfl, rfl, rfl, by decide +kernel, rfl, by decide +kernel, by decide +kernel⟩
abbrev s_law_due : Stmt := topS 36
theorem sc_law_due : FnScope ["_law_elder", "_law_one", "_law_other", "_law_picks_here", "_law_due_here", "_law_path", "_law_line", "_law_upper"] ["_law_elder", "_law_one", "_law_other", "_law_picks_here"] (defScope s_law_due) := ⟨rfl, rfl, rfl, by decide +kernel, rfl, by decide +kernel, by decide +kernel⟩
abbrev s_law : Stmt := topS 37
theorem sc_law : FnScope ["_law_script", "_law_places_here", "_law_picks_here", "_law_word", "_law_due_here", "_law_kept", "_law_elder", "_law_one", "_law_other", "_law_odd", "_law_left", "_law_right", "_law_found"] ["_law_script"] (defScope s_law) := ⟨rfl, rfl, rfl, by decide +kernel, rfl, by decide +kernel, by decide +kernel⟩
/-- what the top leaves of names that are not defs -/
structure Bt (mg : Str → Option Value) : Prop where
  z_ValueError : mg "ValueError" = none
  z_dict : mg "dict" = none
  z_int : mg "int" = none
  z_isinstance : mg "isinstance" = none
  z_len : mg "len" = none
  z_list : mg "list" = none
  z_range : mg "range" = none
  z_set : mg "set" = none
  z_sorted : mg "sorted" = none
  z_str : mg "str" = none
structure EG (mg : Str → Option Value) (Cs : Nat → Addr) : Prop where
  g0 : mg "RoadError" = some (.ref (Cs 0))
  g1 : mg "NoPath" = some (.ref (Cs 1))
  g2 : mg "NoFile" = some (.ref (Cs 2))
  g3 : mg "InTheWay" = some (.ref (Cs 3))
  g4 : mg "NoClash" = some (.ref (Cs 4))
  g5 : mg "Clashed" = some (.ref (Cs 5))
  g6 : mg "NoVersion" = some (.ref (Cs 6))
  g7 : mg "SameVersion" = some (.ref (Cs 7))
section
variable {P : Program} {w : World} {K : PySem.W.Frag} {mg : Str → Option Value} {base : Heap}
local macro_rules | `(tactic| walk_at "vside") => `(tactic| first | omega | assumption | exact of_notF (by assumption) | (simp only [List.length_cons, List.length_nil, List.length_map, List.length_range, List.length_append, List.length_set, decide_eq_true_eq, Bool.and_eq_true, Bool.or_eq_true, Bool.not_eq_true', decide_eq_false_iff_not] at *; omega))
def sp_above (K : PySem.W.Frag) : Sp := spN fun ws H v => ∃ (ppath : Tx), ws = [vs ppath] ∧ (ppath.length ≤ 900) ∧ v = List.map vs (m_above ppath)
theorem ok_above {f : Addr} {fd : FuncData} (F : Fun K "above" "above" s_above f fd) (z : Bt mg)  : FnOk P w K mg base CX0 1 f fd ["path"] (sp_above K) := by
  refine F.ok (k := 0) sc_above (fun ws H Q E h => ?_) (fun cdv A outer s H ws Q E hr h => ?_)
  · obtain ⟨_, ⟨_, rfl, _⟩, _⟩ := h
    rfl
  · obtain ⟨_, ⟨ppath, rfl, hpre, rfl⟩, k0⟩ := h
    have L_lSl := len_lSl
    have hc1 := cuts_len 47 ppath
    refine ⟨_, (pss_cons (ps_set (i := 1) sc_above.nd rfl (Or.inr rfl) (pe_splitT (pv 0) pe_str))
      (pss_one (ps_ret (pe_lc (own := [("many", 2)]) (g := gName 2) (tt := tYes) rfl sc_above.nd (pi_range2 (by rfl) z.z_range (pa_cons pe_int (pa_cons (pe_callB (call_lenK K) (by rfl) z.z_len PySem.boot_len (pa_cons (pv 1) pa_nil)) pa_nil))) (blkOk_by (own := [("many", 2)]) (N := ["path", "parts", "many"]) (sc := defScope s_above) (by decide +kernel)) (fun _ _ _ _ _ => pg_name (i := 2) sc_above.nd rfl (Or.inl rfl)) (fun _ _ _ _ _ => pts_nil) (fun _ _ _ _ _ => (pe_joinK K pe_str (pe_slice (sl_listK K) (pv 1) po_none (po_some (pv 2))))))))), ?_⟩
    refine q_asgL (xs := List.map vs (m_above_v1 ppath)) (el_is (l_split (c := 47) (ev_var rfl) (ev_is (w := vs [47]) (ev_is (w := vs lSl) e_lit rfl) (by first | rfl | decide)) (by decide) (by walk_at "vside")) rfl) fun p1_arts H1 n1a e1a h1_arts => ?_
    have n1 := fresh_back (Ex.refl H) n1a
    have e1 := Ex.trans (Ex.refl H) e1a
    have r1 := rx_of e1
    have fm_above_v1 : List.length (m_above_v1 ppath) = List.length ((cuts 47 ppath)) := rfl
    exact s_retL (l_mapR2 (f := vs) (fun k0 : Nat => (joinL lSl (cutG (m_above_v1 ppath) none (some ((1 : Int) + (k0 : Int)))))) (ea_cons ev_c (ea_cons (e_lenL (f := vs) (l := (m_above_v1 ppath)) (ev_var rfl) (sq_of h1_arts)) ea_nil)) (by walk_at "vside") (fun k0 hk => have := cut_sum (m_above_v1 ppath) none (some ((1 : Int) + (k0 : Int))); have := cut_len (m_above_v1 ppath) none (some ((1 : Int) + (k0 : Int))); have := above_sum ppath; (e_joinN (l := (cutG (m_above_v1 ppath) none (some ((1 : Int) + (k0 : Int))))) (ev_is (w := vs lSl) e_lit rfl) (l_slR (f := vs) (l := (m_above_v1 ppath)) (ev_var rfl) (sq_of h1_arts) eo_none (eo_some (ev_var rfl))) (by walk_at "vside")))) fun pR H2 nR e2a hR => RetL.go k0 e1 nR e2a hR
def sp_overlaps (K : PySem.W.Frag) : Sp := spU2 K fun ws H v => ∃ (apfiles : Addr) (pfiles : List (Tx × Tx)), ws = [.ref apfiles] ∧ Rd H apfiles (.dK (kd vs pfiles)) ∧ (pfiles.length ≤ 4000 ∧ ∀ k ∈ dkeys pfiles, k.length ≤ 900 ∧ (cuts 47 k).length ≤ 8) ∧ v = List.map (List.map vs) (m_overlaps pfiles)
theorem ok_overlaps {f : Addr} {fd : FuncData} (F : Fun K "overlaps" "overlaps" s_overlaps f fd) (z : Bt mg) (C_above : Cal P w K mg base 1 "above" ["path"] (sp_above K)) : FnOk P w K mg base CX0 2 f fd ["files"] (sp_overlaps K) := by
  refine F.ok (k := 1) sc_overlaps (fun ws H Q E h => ?_) (fun cdv A outer s H ws Q E hr h => ?_)
  · obtain ⟨_, ⟨_, _, rfl, _⟩, _⟩ := h
    rfl
  · obtain ⟨_, ⟨apfiles, pfiles, rfl, hSpfiles, hpre, rfl⟩, k0⟩ := h
    have gl := hpre.1
    refine ⟨_, (pss_one (ps_ret (pe_may (pe_lc2 (own := [("path", 1), ("upper", 2)]) (vs1 := [2]) (g := gName 1) (g1 := gName 2) (tt := tYes) rfl sc_overlaps.nd (pi_keys (pv 0)) (blkOk_by (own := [("path", 1), ("upper", 2)]) (N := ["files", "path", "upper"]) (sc := defScope s_overlaps) (by decide +kernel)) (by decide) (fun _ _ _ _ _ => pg_name (i := 1) sc_overlaps.nd rfl (Or.inl rfl)) (fun _ _ _ _ _ => pts_nil) (fun _ _ _ _ _ => (pi_listK K (pe_cal C_above (hr.mono (by decide)) (by rfl) (pa_cons (pv 1) pa_nil)))) (fun _ _ _ _ _ => pg_name (i := 2) sc_overlaps.nd rfl (Or.inl rfl)) (fun _ _ _ _ _ => pts_one (pt_cmp (pc_din (hu_of hr) (pv 2) (pv 0)))) (fun _ _ _ _ _ => (pe_tup (pa_cons (pv 2) (pa_cons (pv 1) pa_nil)))))))), ?_⟩
    exact s_retU2 (eu2_is (u_lc2K (f := vs) (l := pfiles) (fun k0 : Tx => (m_above k0)) (fun k0 k1 => (dhas pfiles k1)) (fun k0 k1 => List.map vs [k1, k0]) 8 rfl ((RX.refl H) _ _ hSpfiles) (fun k0 hm => (by have gk := hpre.2 k0 hm; have ga := above_cuts k0; walk_at "vside")) (by walk_at "vside") (by decide) (fun k0 hm HLk0 lkk0 => have gk := hpre.2 k0 hm; have ga := above_cuts k0; (el_call (ea_cons (ev_var rfl) ea_nil) (sl_of fun HC eC => ⟨_, rfl, (by walk_at "vside"), rfl⟩))) (fun k0 hm k1 hm2 HLk0 lkk0 => have gk := hpre.2 k0 hm; have ga := above_cuts k0; (et_B (e_inD (f := vs) (l := pfiles) (k := k1) (ev_var rfl) (ev_var rfl) ((RX.trans (RX.refl H) (Lk.rx lkk0)) _ _ hSpfiles)))) (fun k0 hm k1 hm2 HLk0 lkk0 hc => have gk := hpre.2 k0 hm; have ga := above_cuts k0; (eu_tup (ea_cons (ev_var rfl) (ea_cons (ev_var rfl) ea_nil)) (by simp)))) (flat_map2 (dkeys pfiles) (fun k0 : Tx => (m_above k0)) (fun k0 k1 => [k1, k0]) (List.map vs) (fun k0 k1 => (dhas pfiles k1)))) fun pR H1 nR e1a hR => RetU2.go k0 (Ex.refl H) nR e1a hR
def sp_mark_of (K : PySem.W.Frag) : Sp := spP fun ws H v => ∃ (pbefore : Option Tx) (pleft : Option Tx) (pright : Option Tx), ws = [vo pbefore, vo pleft, vo pright] ∧ v = vo (m_mark_of pbefore pleft pright)
theorem ok_mark_of {f : Addr} {fd : FuncData} (F : Fun K "mark_of" "mark_of" s_mark_of f fd) (z : Bt mg)  : FnOk P w K mg base CX0 1 f fd ["before", "left", "right"] (sp_mark_of K) := by
  refine F.ok (k := 0) sc_mark_of (fun ws H Q E h => ?_) (fun cdv A outer s H ws Q E hr h => ?_)
  · obtain ⟨_, ⟨_, _, _, rfl, _⟩, _⟩ := h
    rfl
  · obtain ⟨_, ⟨pbefore, pleft, pright, rfl, rfl⟩, k0⟩ := h
    have L_l_b79634d7 := len_l_b79634d7
    have L_l_fe05bcdc := len_l_fe05bcdc
    have L_l_d0941e68 := len_l_d0941e68
    have L_l_4581fc00 := len_l_4581fc00
    refine ⟨_, (pss_cons (ps_if (pt_cmpR op_eq (pv 1) (pv 2) (nomark _)) (pss_one (ps_ret (pe_ifExp (pt_cmpR op_eq (pv 1) (pv 0) (nomark _)) pe_non pe_str))) pss_nil)
      (pss_cons (ps_if (pt_cmpR op_eq (pv 2) (pv 0) (nomark _)) (pss_one (ps_ret pe_str)) pss_nil)
      (pss_cons (ps_if (pt_cmpR op_eq (pv 1) (pv 0) (nomark _)) (pss_one (ps_ret pe_str)) pss_nil)
      (pss_one (ps_ret pe_str))))), ?_⟩
    refine q_when (b := (decide (pleft = pright))) (et_test (e_eqOO (x := pleft) (y := pright) (ev_var rfl) (ev_var rfl))) (fun hb1 H1 e1a => ?_) (fun hb1 H1 e1a => ?_)
    · have e1 := Ex.trans (Ex.refl H) e1a
      have r1 := rx_of e1
      have k1a := ret_T k0 hb1
      exact s_ret (e_if (f := vo) (et_test (e_eqOO (x := pleft) (y := pbefore) (ev_var rfl) (ev_var rfl))) (fun hc => ev_c) (fun hc => (ev_is (w := vs l_b79634d7) e_lit rfl))) fun H2 e2a => (RetV.go k1a (Ex.trans e1 e2a))
    · have e1 := Ex.trans (Ex.refl H) e1a
      have r1 := rx_of e1
      have k2b := ret_F k0 hb1
      refine q_when (b := (decide (pright = pbefore))) (et_test (e_eqOO (x := pright) (y := pbefore) (ev_var rfl) (ev_var rfl))) (fun hb3 H3 e3a => ?_) (fun hb3 H3 e3a => ?_)
      · have e3 := Ex.trans e1 e3a
        have r3 := rx_of e3
        have k3a := ret_T k2b hb3
        exact s_ret (ev_is (w := vs l_fe05bcdc) e_lit rfl) fun H4 e4a => (RetV.go (show RetV (vs l_fe05bcdc) _ _ from k3a) (Ex.trans e3 e4a))
      · have e3 := Ex.trans e1 e3a
        have r3 := rx_of e3
        have k4b := ret_F k2b hb3
        refine q_when (b := (decide (pleft = pbefore))) (et_test (e_eqOO (x := pleft) (y := pbefore) (ev_var rfl) (ev_var rfl))) (fun hb5 H5 e5a => ?_) (fun hb5 H5 e5a => ?_)
        · have e5 := Ex.trans e3 e5a
          have r5 := rx_of e5
          have k5a := ret_T k4b hb5
          exact s_ret (ev_is (w := vs l_d0941e68) e_lit rfl) fun H6 e6a => (RetV.go (show RetV (vs l_d0941e68) _ _ from k5a) (Ex.trans e5 e6a))
        · have e5 := Ex.trans e3 e5a
          have r5 := rx_of e5
          have k6b := ret_F k4b hb5
          exact s_ret (ev_is (w := vs l_4581fc00) e_lit rfl) fun H7 e7a => (RetV.go (show RetV (vs l_4581fc00) _ _ from k6b) (Ex.trans e5 e7a))
def sp_marks (K : PySem.W.Frag) : Sp := spU2 K fun ws H v => ∃ (apelder : Addr) (pelder : List (Tx × Tx)) (apone : Addr) (pone : List (Tx × Tx)) (apother : Addr) (pother : List (Tx × Tx)), ws = [.ref apelder, .ref apone, .ref apother] ∧ Rd H apelder (.dK (kd vs pelder)) ∧ Rd H apone (.dK (kd vs pone)) ∧ Rd H apother (.dK (kd vs pother)) ∧ (pelder.length ≤ 1000 ∧ pone.length ≤ 1000 ∧ pother.length ≤ 1000) ∧ v = List.map (List.map vs) (m_marks pelder pone pother)
theorem ok_marks {f : Addr} {fd : FuncData} (F : Fun K "marks" "marks" s_marks f fd) (z : Bt mg) (C_mark_of : Cal P w K mg base 1 "mark_of" ["before", "left", "right"] (sp_mark_of K)) : FnOk P w K mg base CX0 2 f fd ["elder", "one", "other"] (sp_marks K) := by
  refine F.ok (k := 1) sc_marks (fun ws H Q E h => ?_) (fun cdv A outer s H ws Q E hr h => ?_)
  · obtain ⟨_, ⟨_, _, _, _, _, _, rfl, _⟩, _⟩ := h
    rfl
  · obtain ⟨_, ⟨apelder, pelder, apone, pone, apother, pother, rfl, hSpelder, hSpone, hSpother, hpre, rfl⟩, k0⟩ := h
    have hp1 := hpre.1
    have hp2 := hpre.2.1
    have hp3 := hpre.2.2
    have hk1 := dkeys_len pelder
    have hk2 := dkeys_len pone
    have hk3 := dkeys_len pother
    have hu1 := uniT_len (dkeys pone) (dkeys pelder)
    have hu2 := uniT_len (dkeys pother) (uniT (dkeys pelder) (dkeys pone))
    refine ⟨_, (pss_cons (ps_set (i := 3) sc_marks.nd rfl (Or.inl rfl) (pe_lst pa_nil))
      (pss_cons (ps_for PassesOwn.never rfl (pi_listK K (pe_callB (call_srtM rfl) (by rfl) z.z_sorted (by decide +kernel) (pa_cons (pe_op op_orM (pe_op op_orM (pe_callTy call_setD (by rfl) z.z_set (by decide +kernel) (pa_cons (pv 0) pa_nil)) (pe_callTy call_setD (by rfl) z.z_set (by decide +kernel) (pa_cons (pv 1) pa_nil))) (pe_callTy call_setD (by rfl) z.z_set (by decide +kernel) (pa_cons (pv 2) pa_nil))) pa_nil))) (pg_name (i := 4) sc_marks.nd rfl (Or.inl rfl))
      (pss_cons (ps_set (i := 5) sc_marks.nd rfl (Or.inl rfl) (pe_cal C_mark_of (hr.mono (by decide)) (by rfl) (pa_cons (pe_dget1 (hu_of hr) (pv 0) (pv 4) ⟨rfl, rfl, rfl, rfl⟩) (pa_cons (pe_dget1 (hu_of hr) (pv 1) (pv 4) ⟨rfl, rfl, rfl, rfl⟩) (pa_cons (pe_dget1 (hu_of hr) (pv 2) (pv 4) ⟨rfl, rfl, rfl, rfl⟩) pa_nil)))))
      (pss_cut (ps_if (pt_cmpR op_notN1 (pv 5) pe_non (nomark _)) (pss_one (ps_expr (pe_bm PySem.F.plainAttrs_list PySem.F.slot_list_append PySem.F.type_list_append mt_append (pv 3) (pa_cons (pe_tup (pa_cons (pv 4) (pa_cons (pv 5) pa_nil))) pa_nil)))) pss_nil)
      pss_nil)))
      (pss_one (ps_ret (pv 3))))), ?_⟩
    refine q_asgU2 (K := K) (l := (List.map (List.map vs) m_marks_v1)) (eu2_is (u2_lst er_nil (by simp)) rfl) fun p1_ound H1 n1a e1a h1_ound => ?_
    have n1 := fresh_back (Ex.refl H) n1a
    have e1 := Ex.trans (Ex.refl H) e1a
    have r1 := rx_of e1
    have fm_marks_v1 : List.length m_marks_v1 = List.length ([]) := rfl
    refine q_loopN (R := Unit) (f := vs) (l := (srt (uniT (uniT (dkeys pelder) (dkeys pone)) (dkeys pother)))) (m_marks_step1 pelder pone pother) m_marks_v1 (fun pN1 => (fun (s1 : List (List Tx)) (σ1 : L2.St) (H1L : Hp) => ∃ (j1_0 j1_1 : Option V), σ1 = [some (.ref apelder), some (.ref apone), some (.ref apother), some (.ref p1_ound), j1_0, j1_1] ∧ Ex H H1L ∧ RX H H1L ∧ IsLU K H1L p1_ound (List.map (List.map vs) s1) ∧ H1L pN1 = some (.lst (List.map vs (srt (uniT (uniT (dkeys pelder) (dkeys pone)) (dkeys pother))))))) (l_srtS (l := (uniT (uniT (dkeys pelder) (dkeys pone)) (dkeys pother))) (s_orS (l := (uniT (dkeys pelder) (dkeys pone))) (m := (dkeys pother)) (s_orS (l := (dkeys pelder)) (m := (dkeys pone)) (s_setD (f := vs) (dl := pelder) (ev_var rfl) (r1 _ _ hSpelder) (by walk_at "vside")) (s_setD (f := vs) (dl := pone) (ev_var rfl) (r1 _ _ hSpone) (by walk_at "vside")) (by walk_at "vside")) (s_setD (f := vs) (dl := pother) (ev_var rfl) (r1 _ _ hSpother) (by walk_at "vside")) (by walk_at "vside"))) (fun pN1 H5 nN1 e5a hN1 => ⟨_, _, rfl, (Ex.trans e1 e5a), (rx_of (Ex.trans e1 e5a)), IsLU.ex h1_ound e5a, hN1⟩) (fun pN1 s σ H hq => by obtain ⟨j1_0, j1_1, rfl, e1L, r1L, h1_ound, hNL1⟩ := hq; exact sq_of hNL1) (fun pN1 nNa1 => ?_) (fun pN1 nNa1 => ?_)
    · have nN1 := rx_free r1 nNa1
      have d_p1_ound_pN1 := IsLU.ne h1_ound nNa1
      intro Nx1 Bk1 i1 s1 y1 σ1 H1L hy1 hrun1 hq1 hnx1 hbk1 hrt1
      obtain ⟨j1_0, j1_1, rfl, e1L, r1L, h1_ound, hNL1⟩ := hq1
      have hm1 := List.mem_of_getElem? hy1
      have hlt1 := (List.getElem?_eq_some_iff.mp hy1).1
      have g1 := marks_loop hpre hrun1 hy1
      have kq1_0 : (m_marks_step1 pelder pone pother) s1 y1 = (Stp.go (m_marks_v4 pelder y1 pone pother s1)) := rfl
      refine q_asg (v := vo (m_marks_v2 pelder y1 pone pother)) (ev_is (ev_call (ea_cons (e_get1 (l := pelder) (k := y1) (ev_var rfl) (ev_var rfl) (r1L _ _ hSpelder)) (ea_cons (e_get1 (l := pone) (k := y1) (ev_var rfl) (ev_var rfl) (r1L _ _ hSpone)) (ea_cons (e_get1 (l := pother) (k := y1) (ev_var rfl) (ev_var rfl) (r1L _ _ hSpother)) ea_nil))) (sv_of fun HC eC => ⟨_, _, _, rfl, rfl⟩)) rfl) fun H2 e2a => ?_
      have e2 := Ex.trans e1L e2a
      have r2 := rx_of e2
      have h1_ound := IsLU.ex h1_ound e2a
      have hNL1 := e2a _ _ hNL1
      refine q_cut (M := (fun (σ3m : L2.St) (H3m : Hp) => ∃ (jm3_word : Option V), σ3m = [some (.ref apelder), some (.ref apone), some (.ref apother), some (.ref p1_ound), some (vs y1), jm3_word] ∧ Ex H H3m ∧ RX H H3m ∧ IsLU K H3m p1_ound (List.map (List.map vs) (m_marks_v4 pelder y1 pone pother s1)) ∧ H3m pN1 = some (.lst (List.map vs (srt (uniT (uniT (dkeys pelder) (dkeys pone)) (dkeys pother))))))) ?_ ?_
      · refine s_when (b := ((m_marks_v2 pelder y1 pone pother).isSome)) (et_test (e_notN (x := (m_marks_v2 pelder y1 pone pother)) (ev_var rfl) ev_c)) (fun hb3 H3 e3a => ?_) (fun hb3 H3 e3a => ?_)
        · have e3 := Ex.trans e2 e3a
          have r3 := rx_of e3
          have h1_ound := IsLU.ex h1_ound e3a
          have hNL1 := e3a _ _ hNL1
          rw [vo_some (x := (m_marks_v2 pelder y1 pone pother)) hb3]
          have hLU4 := h1_ound
          obtain ⟨ts4, h1_ound, _⟩ := id hLU4
          refine s_appLU (K := K) (l := (List.map (List.map vs) s1)) (xs := List.map vs [y1, ((m_marks_v2 pelder y1 pone pother).getD [])]) hLU4 (ev_var rfl) (tu_new (eu_tup (ea_cons (ev_var rfl) (ea_cons (ev_var rfl) ea_nil)) (by simp))) (by simp only [List.length_map]; walk_at "vside") fun us4 H4 m4 hN4 => ?_
          have e4 := Mu.ex m4 e3 n1
          have r4 := rx_of e4
          have hNL1 := Mu.keep m4 (by first | exact d_pN1_p1_ound | exact Ne.symm d_p1_ound_pN1) hNL1
          have h1_ound : IsLU K H4 p1_ound (List.map (List.map vs) (m_marks_v3 s1 y1 pelder pone pother)) := by show IsLU K H4 p1_ound (List.map (List.map vs) (s1 ++ [[y1, ((m_marks_v2 pelder y1 pone pother).getD [])]])); rw [List.map_append]; exact hN4
          have fm_marks_v3 : List.length (m_marks_v3 s1 y1 pelder pone pother) = List.length (s1 ++ [[y1, ((m_marks_v2 pelder y1 pone pother).getD [])]]) := rfl
          have hV3_0 : (m_marks_v4 pelder y1 pone pother s1) = (m_marks_v3 s1 y1 pelder pone pother) := if_pos hb3
          exact ⟨_, rfl, e4, r4, (by rw [hV3_0]; exact h1_ound), hNL1⟩
        · have e3 := Ex.trans e2 e3a
          have r3 := rx_of e3
          have h1_ound := IsLU.ex h1_ound e3a
          have hNL1 := e3a _ _ hNL1
          have hV3_0 : (m_marks_v4 pelder y1 pone pother s1) = s1 := if_neg (by rw [hb3]; exact Bool.false_ne_true)
          exact ⟨_, rfl, e3, r3, (by rw [hV3_0]; exact h1_ound), hNL1⟩
      · intro σ3m H3m hq3m
        obtain ⟨jm3_word, rfl, e3m, r3m, h1_ound, hNL1⟩ := hq3m
        exact hnx1 (m_marks_v4 pelder y1 pone pother s1) _ _ kq1_0 ⟨_, _, rfl, e3m, r3m, h1_ound, hNL1⟩
    · intro s1 σ1 H1L hr1 hq1
      obtain ⟨j1_0, j1_1, rfl, e1L, r1L, h1_ound, hNL1⟩ := hq1
      obtain rfl : (m_marks_v5 pelder pone pother) = s1 := (outL_of hr1).symm
      exact s_ret (ev_var rfl) fun H7 e7a => k0 _ _ n1 (Ex.trans e1L e7a) (IsLU.ex h1_ound e7a)
def sp_single_clashes (K : PySem.W.Frag) : Sp := spN fun ws H v => ∃ (apelder : Addr) (pelder : List (Tx × Tx)) (apone : Addr) (pone : List (Tx × Tx)) (apother : Addr) (pother : List (Tx × Tx)), ws = [.ref apelder, .ref apone, .ref apother] ∧ Rd H apelder (.dK (kd vs pelder)) ∧ Rd H apone (.dK (kd vs pone)) ∧ Rd H apother (.dK (kd vs pother)) ∧ (pelder.length ≤ 1000 ∧ pone.length ≤ 1000 ∧ pother.length ≤ 1000) ∧ v = List.map vs (m_single_clashes pelder pone pother)
theorem ok_single_clashes {f : Addr} {fd : FuncData} (F : Fun K "single_clashes" "single_clashes" s_single_clashes f fd) (z : Bt mg) (C_marks : Cal P w K mg base 2 "marks" ["elder", "one", "other"] (sp_marks K)) : FnOk P w K mg base CX0 3 f fd ["elder", "one", "other"] (sp_single_clashes K) := by
  refine F.ok (k := 2) sc_single_clashes (fun ws H Q E h => ?_) (fun cdv A outer s H ws Q E hr h => ?_)
  · obtain ⟨_, ⟨_, _, _, _, _, _, rfl, _⟩, _⟩ := h
    rfl
  · obtain ⟨_, ⟨apelder, pelder, apone, pone, apother, pother, rfl, hSpelder, hSpone, hSpother, hpre, rfl⟩, k0⟩ := h
    have L_l_4581fc00 := len_l_4581fc00
    have gm := marks_len (e := pelder) (o := pone) (t := pother) hpre
    refine ⟨_, (pss_one (ps_ret (pe_lc (own := [("path", 3), ("word", 4)]) (g := gTup K 2 (gCons (gName 3) (gCons (gName 4) gNil))) rfl sc_single_clashes.nd (pi_listK K (pe_cal C_marks (hr.mono (by decide)) (by rfl) (pa_cons (pv 0) (pa_cons (pv 1) (pa_cons (pv 2) pa_nil))))) (blkOk_by (own := [("path", 3), ("word", 4)]) (N := ["elder", "one", "other", "path", "word"]) (sc := defScope s_single_clashes) (by decide +kernel)) (fun _ _ _ _ _ => pg_tupK K rfl (pgs_cons (pg_name (i := 3) sc_single_clashes.nd rfl (Or.inl rfl)) (pgs_cons (pg_name (i := 4) sc_single_clashes.nd rfl (Or.inl rfl)) pgs_nil))) (fun _ _ _ _ _ => pts_one (pt_cmpR op_eq (pv 4) pe_str (nomark _))) (fun _ _ _ _ _ => (pv 3))))), ?_⟩
    exact s_retL (l_filP (K := K) (l := (m_marks pelder pone pother)) (f2 := vs) (fun k0 : List Tx => (decide ((k0.getD 1 []) = l_4581fc00))) (fun k0 : List Tx => (k0.getD 0 [])) (eu2_call (ea_cons (ev_var rfl) (ea_cons (ev_var rfl) (ea_cons (ev_var rfl) ea_nil))) (su2_of fun HC eC => ⟨_, _, _, _, _, _, rfl, ex_rd eC ((RX.refl H) _ _ hSpelder), ex_rd eC ((RX.refl H) _ _ hSpone), ex_rd eC ((RX.refl H) _ _ hSpother), (by walk_at "vside"), rfl⟩)) marks_two (by walk_at "vside") (fun k0 hm => (et_test (e_eqT (ev_var rfl) (ev_is (w := vs l_4581fc00) e_lit rfl)))) (fun k0 hm hc => (ev_var rfl))) fun pR H1 nR e1a hR => RetL.go k0 (Ex.refl H) nR e1a hR
def sp_settle (K : PySem.W.Frag) : Sp := spM fun ws H d kvs => ∃ (apfiles : Addr) (pfiles : List (Tx × Tx)) (ppath : Tx) (ptext : Option Tx), ws = [.ref apfiles, vs ppath, vo ptext] ∧ H apfiles = some (.dK (kd vs pfiles)) ∧ pfiles.length ≤ 10000 ∧ d = apfiles ∧ kvs = kd vs (m_settle pfiles ppath ptext)
theorem ok_settle {f : Addr} {fd : FuncData} (F : Fun K "settle" "settle" s_settle f fd) (z : Bt mg) : FnOk P w K mg base CX0 1 f fd ["files", "path", "text"] (sp_settle K) := by
  refine F.ok (k := 0) sc_settle (fun ws H Q E h => ?_) (fun cdv A outer s H ws Q E hr h => ?_)
  · obtain ⟨_, _, ⟨_, _, _, _, rfl, _⟩, _⟩ := h
    rfl
  · obtain ⟨_, _, ⟨apfiles, pfiles, ppath, ptext, rfl, hF, hL, rfl, rfl⟩, k0⟩ := h
    refine ⟨_, (pss_one (ps_if (pt_cmpR op_isN1 (pv 2) pe_non (nomark _)) (pss_one (ps_expr (pe_dpop2 (pv 0) (pv 1) pe_non ⟨rfl, rfl, rfl, rfl⟩))) (pss_one (ps_dput (hu_of hr) (pv 0) (pv 1) (pv 2) rfl)))), ?_⟩
    refine s_if (b := (!ptext.isSome)) (et_test (e_isN (x := ptext) (ev_var rfl) ev_c)) (fun hb H1 e1 => ?_) (fun hb H1 e1 => ?_)
    · refine s_pop2D (f := vs) (l := pfiles) (ev_var rfl) (ev_var rfl) ev_c (e1 _ _ hF) fun H2 m2 => ?_
      refine k0 H2 ?_
      have hn : ptext = none := by cases ptext with | none => rfl | some t => cases hb
      subst hn
      obtain ⟨H3, e3, rfl⟩ := m2
      exact ⟨H3, e1.trans e3, rfl⟩
    · have hs : ptext.isSome = true := by cases ptext with | none => cases hb | some t => rfl
      obtain ⟨t, rfl⟩ := Option.isSome_iff_exists.mp hs
      refine s_putD (f := vs) (l := pfiles) (k := ppath) (v := t) (ev_var rfl) (ev_var rfl) (ev_var rfl) (e1 _ _ hF) (by omega) fun H2 m2 => ?_
      refine k0 H2 ?_
      obtain ⟨H3, e3, rfl⟩ := m2
      exact ⟨H3, e1.trans e3, rfl⟩
def sp_agreed (K : PySem.W.Frag) : Sp := spK fun ws H v => ∃ (apelder : Addr) (pelder : List (Tx × Tx)) (apone : Addr) (pone : List (Tx × Tx)) (apother : Addr) (pother : List (Tx × Tx)), ws = [.ref apelder, .ref apone, .ref apother] ∧ Rd H apelder (.dK (kd vs pelder)) ∧ Rd H apone (.dK (kd vs pone)) ∧ Rd H apother (.dK (kd vs pother)) ∧ (P3 pelder pone pother) ∧ v = kd vs (m_agreed pelder pone pother)
theorem ok_agreed {f : Addr} {fd : FuncData} (F : Fun K "agreed" "agreed" s_agreed f fd) (z : Bt mg) (C_marks : Cal P w K mg base 2 "marks" ["elder", "one", "other"] (sp_marks K)) (C_settle : Cal P w K mg base 1 "settle" ["files", "path", "text"] (sp_settle K)) : FnOk P w K mg base CX0 3 f fd ["elder", "one", "other"] (sp_agreed K) := by
  refine F.ok (k := 2) sc_agreed (fun ws H Q E h => ?_) (fun cdv A outer s H ws Q E hr h => ?_)
  · obtain ⟨_, ⟨_, _, _, _, _, _, rfl, _⟩, _⟩ := h
    rfl
  · obtain ⟨_, ⟨apelder, pelder, apone, pone, apother, pother, rfl, hSpelder, hSpone, hSpother, hpre, rfl⟩, k0⟩ := h
    have L_l_4581fc00 := len_l_4581fc00
    have L_l_d0941e68 := len_l_d0941e68
    have hl := hpre.2
    have gml := marks_len hpre.2
    refine ⟨_, (pss_cons (ps_set (i := 3) sc_agreed.nd rfl (Or.inl rfl) (pe_callTy call_dictD (by rfl) z.z_dict (by decide +kernel) (pa_cons (pv 0) pa_nil)))
      (pss_cons (ps_for PassesOwn.never rfl (pi_listK K (pe_cal C_marks (hr.mono (by decide)) (by rfl) (pa_cons (pv 0) (pa_cons (pv 1) (pa_cons (pv 2) pa_nil))))) (pg_tupK K rfl (pgs_cons (pg_name (i := 4) sc_agreed.nd rfl (Or.inl rfl)) (pgs_cons (pg_name (i := 5) sc_agreed.nd rfl (Or.inl rfl)) pgs_nil)))
      (pss_cut (ps_if (pt_cmpR op_eq (pv 5) pe_str (nomark _)) (pss_one (ps_expr (pe_cal C_settle (hr.mono (by decide)) (by rfl) (pa_cons (pv 3) (pa_cons (pv 4) (pa_cons pe_non pa_nil)))))) (pss_cut (ps_if (pt_cmpR op_eq (pv 5) pe_str (nomark _)) (pss_one (ps_expr (pe_cal C_settle (hr.mono (by decide)) (by rfl) (pa_cons (pv 3) (pa_cons (pv 4) (pa_cons (pe_dget1 (hu_of hr) (pv 2) (pv 4) ⟨rfl, rfl, rfl, rfl⟩) pa_nil)))))) (pss_one (ps_expr (pe_cal C_settle (hr.mono (by decide)) (by rfl) (pa_cons (pv 3) (pa_cons (pv 4) (pa_cons (pe_dget1 (hu_of hr) (pv 1) (pv 4) ⟨rfl, rfl, rfl, rfl⟩) pa_nil)))))))
      pss_nil))
      pss_nil))
      (pss_one (ps_ret (pv 3))))), ?_⟩
    refine q_asgK (kvs := kd vs (m_agreed_v1 pelder)) (ek_is (k_copy (f := vs) (l := pelder) (ev_var rfl) ((RX.refl H) _ _ hSpelder)) rfl) fun p1_iles H1 n1a e1a h1_iles => ?_
    have n1 := fresh_back (Ex.refl H) n1a
    have e1 := Ex.trans (Ex.refl H) e1a
    have r1 := rx_of e1
    refine q_loopP (K := K) (R := Unit) (l := (m_marks pelder pone pother)) (m_agreed_step1 pone pother) (m_agreed_v1 pelder) (fun pP1 tsP1 => (fun (s1 : List (Tx × Tx)) (σ1 : L2.St) (H1L : Hp) => ∃ (j1_0 j1_1 : Option V), σ1 = [some (.ref apelder), some (.ref apone), some (.ref apother), some (.ref p1_iles), j1_0, j1_1] ∧ Ex H H1L ∧ RX H H1L ∧ H1L p1_iles = some (.dK (kd vs s1)) ∧ IsLV K H1L pP1 tsP1 (List.map (List.map vs) (m_marks pelder pone pother)))) (eu2_call (ea_cons (ev_var rfl) (ea_cons (ev_var rfl) (ea_cons (ev_var rfl) ea_nil))) (su2_of fun HC eC => ⟨_, _, _, _, _, _, rfl, ex_rd eC (r1 _ _ hSpelder), ex_rd eC (r1 _ _ hSpone), ex_rd eC (r1 _ _ hSpother), (by walk_at "vside"), rfl⟩)) marks_two (fun pP1 tsP1 H7 nP1 e7a hP1 => ⟨_, _, rfl, (Ex.trans e1 e7a), (rx_of (Ex.trans e1 e7a)), e7a _ _ h1_iles, hP1⟩) (fun pP1 tsP1 s σ H hq => by obtain ⟨j1_0, j1_1, rfl, e1L, r1L, h1_iles, hPL1⟩ := hq; exact hPL1) (fun pP1 tsP1 nPa1 => ?_) (fun pP1 tsP1 nPa1 => ?_)
    · have nP1 := rx_free r1 nPa1
      have d_p1_iles_pP1 := ne_of_none h1_iles nPa1
      intro Nx1 Bk1 i1 s1 y1 σ1 H1L hy1 hrun1 hq1 hnx1 hbk1 hrt1
      obtain ⟨j1_0, j1_1, rfl, e1L, r1L, h1_iles, hPL1⟩ := hq1
      have hm1 := List.mem_of_getElem? hy1
      have hlt1 := (List.getElem?_eq_some_iff.mp hy1).1
      have g1 := agreed_loop hpre.2 hrun1 hy1
      have kq1_0 : (m_agreed_step1 pone pother) s1 y1 = (Stp.go (m_agreed_v6 y1 s1 pother pone)) := rfl
      refine q_cut (M := (fun (σ2m : L2.St) (H2m : Hp) => σ2m = [some (.ref apelder), some (.ref apone), some (.ref apother), some (.ref p1_iles), some (vs (y1.getD 0 [])), some (vs (y1.getD 1 []))] ∧ Ex H H2m ∧ RX H H2m ∧ H2m p1_iles = some (.dK (kd vs (m_agreed_v6 y1 s1 pother pone))) ∧ IsLV K H2m pP1 tsP1 (List.map (List.map vs) (m_marks pelder pone pother)))) ?_ ?_
      · refine s_if (b := (decide ((y1.getD 1 []) = l_4581fc00))) (et_test (e_eqT (ev_var rfl) (ev_is (w := vs l_4581fc00) e_lit rfl))) (fun hb2 H2 e2a => ?_) (fun hb2 H2 e2a => ?_)
        · have e2 := Ex.trans e1L e2a
          have r2 := rx_of e2
          have h1_iles := e2a _ _ h1_iles
          have hPL1 := IsLV.ex hPL1 e2a
          refine s_callM (d := p1_iles) (kvs := kd vs (m_agreed_v2 s1 y1)) (ea_cons (ev_var rfl) (ea_cons (ev_var rfl) (ea_cons ev_c ea_nil))) (fun HC eC => ⟨_, s1, (y1.getD 0 []), none, rfl, eC _ _ h1_iles, (by walk_at "vside"), rfl, rfl⟩) fun H3 m3 => ?_
          have e3 := Mu.ex m3 e2 n1
          have r3 := rx_of e3
          have hPL1 := IsLV.mu hPL1 m3 (by first | exact d_pP1_p1_iles | exact Ne.symm d_p1_iles_pP1) h1_iles trivial
          have h1_iles : H3 p1_iles = some (.dK (kd vs (m_agreed_v2 s1 y1))) := Mu.at m3
          have hV2_0 : (m_agreed_v6 y1 s1 pother pone) = (m_agreed_v2 s1 y1) := if_pos hb2
          exact ⟨rfl, e3, r3, (by rw [hV2_0]; exact h1_iles), hPL1⟩
        · have e2 := Ex.trans e1L e2a
          have r2 := rx_of e2
          have h1_iles := e2a _ _ h1_iles
          have hPL1 := IsLV.ex hPL1 e2a
          refine q_cut (M := (fun (σ4m : L2.St) (H4m : Hp) => σ4m = [some (.ref apelder), some (.ref apone), some (.ref apother), some (.ref p1_iles), some (vs (y1.getD 0 [])), some (vs (y1.getD 1 []))] ∧ Ex H H4m ∧ RX H H4m ∧ H4m p1_iles = some (.dK (kd vs (m_agreed_v5 y1 s1 pother pone))) ∧ IsLV K H4m pP1 tsP1 (List.map (List.map vs) (m_marks pelder pone pother)))) ?_ ?_
          · refine s_if (b := (decide ((y1.getD 1 []) = l_d0941e68))) (et_test (e_eqT (ev_var rfl) (ev_is (w := vs l_d0941e68) e_lit rfl))) (fun hb4 H4 e4a => ?_) (fun hb4 H4 e4a => ?_)
            · have e4 := Ex.trans e2 e4a
              have r4 := rx_of e4
              have h1_iles := e4a _ _ h1_iles
              have hPL1 := IsLV.ex hPL1 e4a
              refine s_callM (d := p1_iles) (kvs := kd vs (m_agreed_v3 s1 y1 pother)) (ea_cons (ev_var rfl) (ea_cons (ev_var rfl) (ea_cons (e_get1 (l := pother) (k := (y1.getD 0 [])) (ev_var rfl) (ev_var rfl) (r4 _ _ hSpother)) ea_nil))) (fun HC eC => ⟨_, s1, (y1.getD 0 []), (dget pother (y1.getD 0 [])), rfl, eC _ _ h1_iles, (by walk_at "vside"), rfl, rfl⟩) fun H5 m5 => ?_
              have e5 := Mu.ex m5 e4 n1
              have r5 := rx_of e5
              have hPL1 := IsLV.mu hPL1 m5 (by first | exact d_pP1_p1_iles | exact Ne.symm d_p1_iles_pP1) h1_iles trivial
              have h1_iles : H5 p1_iles = some (.dK (kd vs (m_agreed_v3 s1 y1 pother))) := Mu.at m5
              have hV4_0 : (m_agreed_v5 y1 s1 pother pone) = (m_agreed_v3 s1 y1 pother) := if_pos hb4
              exact ⟨rfl, e5, r5, (by rw [hV4_0]; exact h1_iles), hPL1⟩
            · have e4 := Ex.trans e2 e4a
              have r4 := rx_of e4
              have h1_iles := e4a _ _ h1_iles
              have hPL1 := IsLV.ex hPL1 e4a
              refine s_callM (d := p1_iles) (kvs := kd vs (m_agreed_v4 s1 y1 pone)) (ea_cons (ev_var rfl) (ea_cons (ev_var rfl) (ea_cons (e_get1 (l := pone) (k := (y1.getD 0 [])) (ev_var rfl) (ev_var rfl) (r4 _ _ hSpone)) ea_nil))) (fun HC eC => ⟨_, s1, (y1.getD 0 []), (dget pone (y1.getD 0 [])), rfl, eC _ _ h1_iles, (by walk_at "vside"), rfl, rfl⟩) fun H6 m6 => ?_
              have e6 := Mu.ex m6 e4 n1
              have r6 := rx_of e6
              have hPL1 := IsLV.mu hPL1 m6 (by first | exact d_pP1_p1_iles | exact Ne.symm d_p1_iles_pP1) h1_iles trivial
              have h1_iles : H6 p1_iles = some (.dK (kd vs (m_agreed_v4 s1 y1 pone))) := Mu.at m6
              have hV4_0 : (m_agreed_v5 y1 s1 pother pone) = (m_agreed_v4 s1 y1 pone) := if_neg (by rw [hb4]; exact Bool.false_ne_true)
              exact ⟨rfl, e6, r6, (by rw [hV4_0]; exact h1_iles), hPL1⟩
          · intro σ4m H4m hq4m
            obtain ⟨rfl, e4m, r4m, h1_iles, hPL1⟩ := hq4m
            have hV2_0 : (m_agreed_v6 y1 s1 pother pone) = (m_agreed_v5 y1 s1 pother pone) := if_neg (by rw [hb2]; exact Bool.false_ne_true)
            exact ⟨rfl, e4m, r4m, (by rw [hV2_0]; exact h1_iles), hPL1⟩
      · intro σ2m H2m hq2m
        obtain ⟨rfl, e2m, r2m, h1_iles, hPL1⟩ := hq2m
        exact hnx1 (m_agreed_v6 y1 s1 pother pone) _ _ kq1_0 ⟨_, _, rfl, e2m, r2m, h1_iles, hPL1⟩
    · intro s1 σ1 H1L hr1 hq1
      obtain ⟨j1_0, j1_1, rfl, e1L, r1L, h1_iles, hPL1⟩ := hq1
      obtain rfl : (m_agreed_v7 pone pother pelder) = s1 := (outL_of hr1).symm
      exact s_ret (ev_var rfl) fun H9 e9a => k0 _ _ n1 (Ex.trans e1L e9a) (e9a _ _ h1_iles)
def sp_clashes (K : PySem.W.Frag) : Sp := spU2 K fun ws H v => ∃ (apelder : Addr) (pelder : List (Tx × Tx)) (apone : Addr) (pone : List (Tx × Tx)) (apother : Addr) (pother : List (Tx × Tx)), ws = [.ref apelder, .ref apone, .ref apother] ∧ Rd H apelder (.dK (kd vs pelder)) ∧ Rd H apone (.dK (kd vs pone)) ∧ Rd H apother (.dK (kd vs pother)) ∧ (P3 pelder pone pother) ∧ v = List.map (List.map vs) (m_clashes pelder pone pother)
theorem ok_clashes {f : Addr} {fd : FuncData} (F : Fun K "clashes" "clashes" s_clashes f fd) (z : Bt mg) (C_single_clashes : Cal P w K mg base 3 "single_clashes" ["elder", "one", "other"] (sp_single_clashes K)) (C_agreed : Cal P w K mg base 3 "agreed" ["elder", "one", "other"] (sp_agreed K)) (C_overlaps : Cal P w K mg base 2 "overlaps" ["files"] (sp_overlaps K)) : FnOk P w K mg base CX0 4 f fd ["elder", "one", "other"] (sp_clashes K) := by
  refine F.ok (k := 3) sc_clashes (fun ws H Q E h => ?_) (fun cdv A outer s H ws Q E hr h => ?_)
  · obtain ⟨_, ⟨_, _, _, _, _, _, rfl, _⟩, _⟩ := h
    rfl
  · obtain ⟨_, ⟨apelder, pelder, apone, pone, apother, pother, rfl, hSpelder, hSpone, hSpother, hpre, rfl⟩, k0⟩ := h
    have hl := hpre.2
    have gs := single_len hpre.2
    have gao := agreed_ok hpre
    have gov := over_len gao
    refine ⟨_, (pss_cons (ps_setLc (i := 3) (own := [("path", 4)]) (g := gName 4) (tt := tYes) rfl sc_clashes.nd rfl rfl (sw_true rfl rfl rfl (by decide +kernel)) (pi_listK K (pe_cal C_single_clashes (hr.mono (by decide)) (by rfl) (pa_cons (pv 0) (pa_cons (pv 1) (pa_cons (pv 2) pa_nil))))) (blkOk_by (own := [("path", 4)]) (N := ["elder", "one", "other", "singles", "path"]) (sc := defScope s_clashes) (by decide +kernel)) (fun _ _ _ _ _ => pg_name (i := 4) sc_clashes.nd rfl (Or.inl rfl)) (fun _ _ _ _ _ => pts_nil) (fun _ _ _ _ _ => (pe_tup (pa_cons (pv 4) pa_nil))))
      (pss_one (ps_ret (pe_callB call_srtU (by rfl) z.z_sorted (by decide +kernel) (pa_cons (pe_op op_cat (pv 3) (pe_cal C_overlaps (hr.mono (by decide)) (by rfl) (pa_cons (pe_cal C_agreed (hr.mono (by decide)) (by rfl) (pa_cons (pv 0) (pa_cons (pv 1) (pa_cons (pv 2) pa_nil)))) pa_nil))) pa_nil))))), ?_⟩
    refine q_asgU2 (K := K) (l := (List.map (List.map vs) (m_clashes_v1 pelder pone pother))) (eu2_is (eu2_is (u_mapN (K := K) (f := vs) (m := (m_single_clashes pelder pone pother)) (fun k0 => List.map vs [k0]) [] (el_call (ea_cons (ev_var rfl) (ea_cons (ev_var rfl) (ea_cons (ev_var rfl) ea_nil))) (sl_of fun HC eC => ⟨_, _, _, _, _, _, rfl, ex_rd eC ((RX.refl H) _ _ hSpelder), ex_rd eC ((RX.refl H) _ _ hSpone), ex_rd eC ((RX.refl H) _ _ hSpother), (by walk_at "vside"), rfl⟩)) (by walk_at "vside") (fun k0 hm => (eu_tup (ea_cons (ev_var rfl) ea_nil) (by simp)))) (List.map_map (g := List.map vs) (f := (fun k0 : Tx => [k0])) (l := (m_single_clashes pelder pone pother))).symm) rfl) fun p1_ingles H1 n1a e1a h1_ingles => ?_
    have n1 := fresh_back (Ex.refl H) n1a
    have e1 := Ex.trans (Ex.refl H) e1a
    have r1 := rx_of e1
    have fm_clashes_v1 : List.length (m_clashes_v1 pelder pone pother) = List.length (((m_single_clashes pelder pone pother).map (fun k0 : Tx => [k0]))) := rfl
    exact s_retU2 (u_srt (l := ((m_clashes_v1 pelder pone pother) ++ (m_overlaps (m_agreed pelder pone pother)))) (eu2_is (u2_cat (l := (List.map (List.map vs) (m_clashes_v1 pelder pone pother))) (l2 := (List.map (List.map vs) (m_overlaps (m_agreed pelder pone pother)))) (ev_var rfl) h1_ingles (u_callA (ax_k (ek_call (ea_cons (ev_var rfl) (ea_cons (ev_var rfl) (ea_cons (ev_var rfl) ea_nil))) (sk_of fun HC eC => ⟨_, _, _, _, _, _, rfl, ex_rd eC (r1 _ _ hSpelder), ex_rd eC (r1 _ _ hSpone), ex_rd eC (r1 _ _ hSpother), (by walk_at "vside"), rfl⟩)) ax_nil) (fun ws HC eC hP => by obtain ⟨pA0, _, rfl, hA0, rfl⟩ := hP; exact ⟨_, _, rfl, (Or.inl hA0), (by walk_at "vside"), rfl⟩)) (by simp only [List.length_map]; walk_at "vside")) List.map_append.symm) clashes_ne (by walk_at "vside")) fun pR H2 nR e2a hR => RetU2.go k0 e1 nR e2a hR
def rp_joined : List (Tx × Tx) → Hp → VK → Prop := fun a H Q => RetK (kd vs a) H Q
def R_joined (K : PySem.W.Frag) : List V → Hp → Res (List (Tx × Tx)) → Prop := fun ws H r => ∃ (apelder : Addr) (pelder : List (Tx × Tx)) (apone : Addr) (pone : List (Tx × Tx)) (apother : Addr) (pother : List (Tx × Tx)) (appicks : Addr) (ppicks : List (Tx × Option Tx)), ws = [.ref apelder, .ref apone, .ref apother, .ref appicks] ∧ Rd H apelder (.dK (kd vs pelder)) ∧ Rd H apone (.dK (kd vs pone)) ∧ Rd H apother (.dK (kd vs pother)) ∧ Rd H appicks (.dK (kd vo ppicks)) ∧ (P4 pelder pone pother ∧ okPicks ppicks) ∧ r = (m_joined pelder pone pother ppicks)
def sp_joined (K : PySem.W.Frag) (Cs : Nat → Addr) : Sp := spX Cs rp_joined (R_joined K)
theorem ok_joined {f : Addr} {fd : FuncData} {Cs : Nat → Addr} (G : EG mg Cs) (F : Fun K "joined" "joined" s_joined f fd) (z : Bt mg) (C_clashes : Cal P w K mg base 4 "clashes" ["elder", "one", "other"] (sp_clashes K)) (C_single_clashes : Cal P w K mg base 3 "single_clashes" ["elder", "one", "other"] (sp_single_clashes K)) (C_agreed : Cal P w K mg base 3 "agreed" ["elder", "one", "other"] (sp_agreed K)) (C_settle : Cal P w K mg base 1 "settle" ["files", "path", "text"] (sp_settle K)) (C_overlaps : Cal P w K mg base 2 "overlaps" ["files"] (sp_overlaps K)) (R4 : ErrR K Cs 4) (R5 : ErrR K Cs 5) : FnOk P w K mg base (L2N.CX P w) 5 f fd ["elder", "one", "other", "picks"] (sp_joined K Cs) := by
  refine okN F (k := 4) sc_joined (fun ws H Q E h => ?_) (fun cdv A outer s H ws Q E hr h => ?_)
  · obtain ⟨_, ⟨_, _, _, _, _, _, _, _, rfl, _⟩, _⟩ := h
    rfl
  · obtain ⟨_, ⟨apelder, pelder, apone, pone, apother, pother, appicks, ppicks, rfl, hSpelder, hSpone, hSpother, hSppicks, hpre, rfl⟩, k0⟩ := h
    have hp3 := hpre.1.1
    have hl := hpre.1.1.2
    have hcl := clashing_len hpre.1.1
    have hjo := jv4_over hpre.1 hpre.2
    have hjk := jv4_okT hpre.1 hpre.2
    refine ⟨_, (pss_cons (ps_setLc2 (i := 4) (own := [("clash", 8), ("path", 5)]) (vs1 := [5]) (g := gName 8) (g1 := gName 5) (tt := tYes) (tt1 := tYes) rfl sc_joined.nd rfl rfl (sw_true rfl rfl rfl (by decide +kernel)) (pi_listK K (pe_cal C_clashes (hr.mono (by decide)) (by rfl) (pa_cons (pv 0) (pa_cons (pv 1) (pa_cons (pv 2) pa_nil))))) (blkOk_by (own := [("clash", 8), ("path", 5)]) (N := ["elder", "one", "other", "picks", "clashing", "path", "files", "text", "clash"]) (sc := defScope s_joined) (by decide +kernel)) (by decide) (fun _ _ _ _ _ => pg_name (i := 8) sc_joined.nd rfl (Or.inl rfl)) (fun _ _ _ _ _ => pts_nil) (fun _ _ _ _ _ => (pi_tupK K (pv 8))) (fun _ _ _ _ _ => pg_name (i := 5) sc_joined.nd rfl (Or.inl rfl)) (fun _ _ _ _ _ => pts_nil) (fun _ _ _ _ _ => (pv 5)))
      (pss_cons (ps_may (ps_for PassesOwn.leaving rfl (pi_keys (pv 3)) (pg_name (i := 5) sc_joined.nd rfl (Or.inl rfl))
      (pss_one (ps_if (pt_cmpR (op_niK K) (pv 5) (pv 4) (by rfl)) (pss_one (L2N.ps_raise rfl (takes_un (L2N.takes_of rfl rfl rfl rfl)) (pmk_any PySem.F.excBase_ValueError R4.x G.g4 R4.kp (raises_own R4.b R4.t) (by exact rfl) (pe_joined (PJ.cons pe_str (PJ.cons (pe_fmt (pv 5)) PJ.nil)))))) pss_nil))))
      (pss_cons (ps_for PassesOwn.leaving rfl (pi_listK K (pe_cal C_single_clashes (hr.mono (by decide)) (by rfl) (pa_cons (pv 0) (pa_cons (pv 1) (pa_cons (pv 2) pa_nil))))) (pg_name (i := 5) sc_joined.nd rfl (Or.inl rfl))
      (pss_one (ps_if (pt_cmp (pc_dnotin (hu_of hr) (pv 5) (pv 3))) (pss_one (L2N.ps_raise rfl (L2N.takes_of rfl rfl rfl rfl) (pmk_any PySem.F.excBase_ValueError R5.x G.g5 R5.kp (raises_own R5.b R5.t) (by exact rfl) (pe_joined (PJ.cons pe_str (PJ.cons (pe_fmt (pv 5)) PJ.nil)))))) pss_nil)))
      (pss_cons (ps_set (i := 6) sc_joined.nd rfl (Or.inl rfl) (pe_cal C_agreed (hr.mono (by decide)) (by rfl) (pa_cons (pv 0) (pa_cons (pv 1) (pa_cons (pv 2) pa_nil)))))
      (pss_cons (ps_may (ps_for PassesOwn.leaving rfl (pi_items (pv 3)) (pg_tupK K rfl (pgs_cons (pg_name (i := 5) sc_joined.nd rfl (Or.inl rfl)) (pgs_cons (pg_name (i := 7) sc_joined.nd rfl (Or.inl rfl)) pgs_nil)))
      (pss_one (ps_expr (pe_cal C_settle (hr.mono (by decide)) (by rfl) (pa_cons (pv 6) (pa_cons (pv 5) (pa_cons (pv 7) pa_nil))))))))
      (pss_cons (ps_if (pt_cmpR (op_neDK K hr.units) (pe_cal C_overlaps (hr.mono (by decide)) (by rfl) (pa_cons (pv 6) pa_nil)) (pe_lst pa_nil) (nomark _)) (pss_one (L2N.ps_raise rfl (L2N.takes_of rfl rfl rfl rfl) (L2N.pmk_own PySem.F.excBase_ValueError R5.x G.g5 R5.kp (raises_own R5.b R5.t) (by exact rfl)))) pss_nil)
      (pss_one (ps_ret (pv 6))))))))), ?_⟩
    refine q_asgL (xs := List.map vs (m_joined_v1 pelder pone pother)) (el_is (l_flatU (l := (m_clashes pelder pone pother)) (eu2_call (ea_cons (ev_var rfl) (ea_cons (ev_var rfl) (ea_cons (ev_var rfl) ea_nil))) (su2_of fun HC eC => ⟨_, _, _, _, _, _, rfl, ex_rd eC ((RX.refl H) _ _ hSpelder), ex_rd eC ((RX.refl H) _ _ hSpone), ex_rd eC ((RX.refl H) _ _ hSpother), (by walk_at "vside"), rfl⟩)) (by walk_at "vside") (fun _ _ => ev_var rfl) (fun _ _ _ => ev_var rfl)) rfl) fun p1_lashing H1 n1a e1a h1_lashing => ?_
    have n1 := fresh_back (Ex.refl H) n1a
    have e1 := Ex.trans (Ex.refl H) e1a
    have r1 := rx_of e1
    have fm_joined_v1 : List.length (m_joined_v1 pelder pone pother) = List.length (((m_clashes pelder pone pother)).flatten) := rfl
    refine q_loopK (R := (Res (List (Tx × Tx)))) (f := vo) (l := ppicks) (m_joined_step1 pelder pone pother) () (fun U1 o1 => (fun (s1 : Unit) (σ1 : L2.St) (H1L : Hp) => ∃ (j1_0 : Option V), σ1 = [some (.ref apelder), some (.ref apone), some (.ref apother), some (.ref appicks), some (.ref p1_lashing), j1_0, none, none, none] ∧ Ex H (unl [(appicks, U1)] H1L) ∧ RX H H1L ∧ H1L appicks = some (.frz o1 (.dK (kd vo ppicks))) ∧ H1L p1_lashing = some (.lst (List.map vs (m_joined_v1 pelder pone pother))))) rfl (r1 _ _ hSppicks) (fun U1 o1 hU1 hUd1 => ?_) (fun U1 o1 s σ H hq => by obtain ⟨j1_0, rfl, e1L, r1L, hW1, h1_lashing⟩ := hq; exact hW1) (fun U1 o1 Rt1 hU1 hUd1 hRt1 => ?_) (fun U1 o1 s1 σ1 H1L hU1 hUd1 hr1 hq1 => ?_)
    · exact ⟨_, rfl, unl_lock (ls := []) e1 hU1, rx_may r1 hU1 hUd1, upd_same, upd_keep (Ne.symm (ne_rdn hSppicks n1)) h1_lashing⟩
    · intro Nx1 Bk1 i1 s1 y1 σ1 H1L hy1 hrun1 hq1 hnx1 hbk1 hrt1
      obtain ⟨j1_0, rfl, e1L, r1L, hW1, h1_lashing⟩ := hq1
      have hm1 := List.mem_of_getElem? hy1
      have hlt1 := (List.getElem?_eq_some_iff.mp hy1).1
      have g1 := (hpre.2.2 y1 hm1).1.1
      have kq1_0 : (m_joined_step1 pelder pone pother) s1 y1 = (if (!decide (y1 ∈ (m_joined_v1 pelder pone pother))) = true then (Stp.ret (.exc 4)) else (Stp.go ())) := rfl
      refine s_when (b := (!decide (y1 ∈ (m_joined_v1 pelder pone pother)))) (et_test (e_niR (l := (m_joined_v1 pelder pone pother)) (ev_var rfl) (ev_var rfl) (sq_of h1_lashing))) (fun hb2 H2 e2a => ?_) (fun hb2 H2 e2a => ?_)
      · have e2 := unl_grow (ls := [(appicks, U1)]) e1L e2a
        have r2 := RX.trans r1L (rx_of e2a)
        have hW1 := e2a _ _ hW1
        have h1_lashing := e2a _ _ h1_lashing
        have kq1_1 := kq_T kq1_0 hb2
        have kr1 := hrt1 _ kq1_1
        exact x_msg (s := "no clash at ") (p := y1) (ev_var rfl) (by rw [show (tx "no clash at ").length = 12 by decide +kernel]; walk_at "vside") fun HX eX => exc_may (B := fun HB => E (.ref (Cs 4)) none HB) e1 hU1 hUd1 (eX _ _ hW1) (unl_grow (ls := [(appicks, U1)]) e2 eX) fun H2 e2 => PX.exc (retX_run k0 kr1) e2
      · have e2 := unl_grow (ls := [(appicks, U1)]) e1L e2a
        have r2 := RX.trans r1L (rx_of e2a)
        have hW1 := e2a _ _ hW1
        have h1_lashing := e2a _ _ h1_lashing
        have kq1_2 := kq_F kq1_0 hb2
        exact hnx1 () _ _ kq1_2 ⟨_, rfl, e2, r2, hW1, h1_lashing⟩
    · obtain ⟨j1_0, rfl, e1L, r1L, hW1, h1_lashing⟩ := hq1
      have h1_lashing := upd_keep (u := U1) (Ne.symm (ne_rdn hSppicks n1)) h1_lashing
      have e1L := unl_open (ls := []) e1L
      have r1L := rx_of e1L
      have k2r := retX_go k0 hr1
      refine q_loopN (R := (Res (List (Tx × Tx)))) (f := vs) (l := (m_single_clashes pelder pone pother)) (m_joined_step2 ppicks) () (fun pN2 => (fun (s2 : Unit) (σ2 : L2.St) (H2L : Hp) => ∃ (j2_0 : Option V), σ2 = [some (.ref apelder), some (.ref apone), some (.ref apother), some (.ref appicks), some (.ref p1_lashing), j2_0, none, none, none] ∧ Ex H H2L ∧ RX H H2L ∧ H2L p1_lashing = some (.lst (List.map vs (m_joined_v1 pelder pone pother))) ∧ H2L pN2 = some (.lst (List.map vs (m_single_clashes pelder pone pother))))) (el_call (ea_cons (ev_var rfl) (ea_cons (ev_var rfl) (ea_cons (ev_var rfl) ea_nil))) (sl_of fun HC eC => ⟨_, _, _, _, _, _, rfl, ex_rd eC (r1L _ _ hSpelder), ex_rd eC (r1L _ _ hSpone), ex_rd eC (r1L _ _ hSpother), (by walk_at "vside"), rfl⟩)) (fun pN2 H6 nN2 e6a hN2 => ⟨_, rfl, (Ex.trans e1L e6a), (rx_of (Ex.trans e1L e6a)), e6a _ _ h1_lashing, hN2⟩) (fun pN2 s σ H hq => by obtain ⟨j2_0, rfl, e2L, r2L, h1_lashing, hNL2⟩ := hq; exact sq_of hNL2) (fun pN2 nNa2 => ?_) (fun pN2 nNa2 => ?_)
      · have nN2 := rx_free r1L nNa2
        have d_p1_lashing_pN2 := ne_of_none h1_lashing nNa2
        intro Nx2 Bk2 i2 s2 y2 σ2 H2L hy2 hrun2 hq2 hnx2 hbk2 hrt2
        obtain ⟨j2_0, rfl, e2L, r2L, h1_lashing, hNL2⟩ := hq2
        have hm2 := List.mem_of_getElem? hy2
        have hlt2 := (List.getElem?_eq_some_iff.mp hy2).1
        have g2 := single_short hpre.1 hm2
        have kq2_0 : (m_joined_step2 ppicks) s2 y2 = (if (!dhas ppicks y2) = true then (Stp.ret (.exc 5)) else (Stp.go ())) := rfl
        refine s_when (b := (!dhas ppicks y2)) (et_B (e_niD (f := vo) (l := ppicks) (k := y2) (ev_var rfl) (ev_var rfl) (r2L _ _ hSppicks))) (fun hb5 H5 e5a => ?_) (fun hb5 H5 e5a => ?_)
        · have e5 := Ex.trans e2L e5a
          have r5 := rx_of e5
          have h1_lashing := e5a _ _ h1_lashing
          have hNL2 := e5a _ _ hNL2
          have kq2_1 := kq_T kq2_0 hb5
          have kr2 := hrt2 _ kq2_1
          exact x_msg (s := "no pick for ") (p := y2) (ev_var rfl) (by rw [show (tx "no pick for ").length = 12 by decide +kernel]; walk_at "vside") fun HX eX => PX.exc (retX_run k2r kr2) (Ex.trans e5 eX)
        · have e5 := Ex.trans e2L e5a
          have r5 := rx_of e5
          have h1_lashing := e5a _ _ h1_lashing
          have hNL2 := e5a _ _ hNL2
          have kq2_2 := kq_F kq2_0 hb5
          exact hnx2 () _ _ kq2_2 ⟨_, rfl, e5, r5, h1_lashing, hNL2⟩
      · intro s2 σ2 H2L hr2 hq2
        obtain ⟨j2_0, rfl, e2L, r2L, h1_lashing, hNL2⟩ := hq2
        have k4r := retX_go k2r hr2
        refine q_asgK (kvs := kd vs (m_joined_v2 pelder pone pother)) (ek_is (ek_call (ea_cons (ev_var rfl) (ea_cons (ev_var rfl) (ea_cons (ev_var rfl) ea_nil))) (sk_of fun HC eC => ⟨_, _, _, _, _, _, rfl, ex_rd eC (r2L _ _ hSpelder), ex_rd eC (r2L _ _ hSpone), ex_rd eC (r2L _ _ hSpother), (by walk_at "vside"), rfl⟩)) rfl) fun p8_iles H8 n8a e8a h8_iles => ?_
        have n8 := fresh_back e2L n8a
        have d_p1_lashing_p8_iles := ne_of_none h1_lashing n8a
        have e8 := Ex.trans e2L e8a
        have r8 := rx_of e8
        have h1_lashing := e8a _ _ h1_lashing
        refine q_loopI (K := K) (R := Unit) (f := vo) (l := ppicks) m_joined_step3 (m_joined_v2 pelder pone pother) (fun U3 o3 => (fun (s3 : List (Tx × Tx)) (σ3 : L2.St) (H3L : Hp) => ∃ (j3_0 j3_1 : Option V), σ3 = [some (.ref apelder), some (.ref apone), some (.ref apother), some (.ref appicks), some (.ref p1_lashing), j3_0, some (.ref p8_iles), j3_1, none] ∧ Ex H (unl [(appicks, U3)] H3L) ∧ RX H H3L ∧ H3L appicks = some (.frz o3 (.dK (kd vo ppicks))) ∧ H3L p1_lashing = some (.lst (List.map vs (m_joined_v1 pelder pone pother))) ∧ H3L p8_iles = some (.dK (kd vs s3)))) rfl (r8 _ _ hSppicks) (fun U3 o3 hU3 hUd3 => ?_) (fun U3 o3 s σ H hq => by obtain ⟨j3_0, j3_1, rfl, e3L, r3L, hW3, h1_lashing, h8_iles⟩ := hq; exact hW3) (fun U3 o3 s σ H1g H2g hq eg => by obtain ⟨j3_0, j3_1, rfl, e3L, r3L, hW3, h1_lashing, h8_iles⟩ := hq; exact ⟨_, _, rfl, unl_grow (ls := [(appicks, U3)]) e3L eg, RX.trans r3L (rx_of eg), eg _ _ hW3, eg _ _ h1_lashing, eg _ _ h8_iles⟩) (fun U3 o3 Rt3 hU3 hUd3 hRt3 => ?_) (fun U3 o3 s3 σ3 H3L hU3 hUd3 hr3 hq3 => ?_)
        · exact ⟨_, _, rfl, unl_lock (ls := []) e8 hU3, rx_may r8 hU3 hUd3, upd_same, upd_keep (Ne.symm (ne_rdn hSppicks n1)) h1_lashing, upd_keep (Ne.symm (ne_rdn hSppicks n8)) h8_iles⟩
        · intro Nx3 Bk3 i3 s3 y3 σ3 H3L hy3 hrun3 hq3 hnx3 hbk3 hrt3
          obtain ⟨j3_0, j3_1, rfl, e3L, r3L, hW3, h1_lashing, h8_iles⟩ := hq3
          have hm3 := List.mem_of_getElem? hy3
          have hlt3 := (List.getElem?_eq_some_iff.mp hy3).1
          have g3 := jloop hpre.1 hpre.2 hrun3 hy3
          have kq3_0 : m_joined_step3 s3 y3 = (Stp.go (m_joined_v3 s3 y3)) := rfl
          refine s_callM (d := p8_iles) (kvs := kd vs (m_joined_v3 s3 y3)) (ea_cons (ev_var rfl) (ea_cons (ev_var rfl) (ea_cons (ev_var rfl) ea_nil))) (fun HC eC => ⟨_, s3, y3.1, y3.2, rfl, eC _ _ h8_iles, (by walk_at "vside"), rfl, rfl⟩) fun H9 m9 => ?_
          have e9 := Mu.unl (ls := [(appicks, U3)]) m9 e3L n8
          have r9 := Mu.rx m9 r3L n8
          have hW3 := Mu.keep m9 (ne_rdn hSppicks n8) hW3
          have h1_lashing := Mu.keep m9 (by first | exact d_p1_lashing_p8_iles | exact Ne.symm d_p8_iles_p1_lashing) h1_lashing
          have h8_iles : H9 p8_iles = some (.dK (kd vs (m_joined_v3 s3 y3))) := Mu.at m9
          exact hnx3 (m_joined_v3 s3 y3) _ _ kq3_0 ⟨_, _, rfl, e9, r9, hW3, h1_lashing, h8_iles⟩
        · obtain ⟨j3_0, j3_1, rfl, e3L, r3L, hW3, h1_lashing, h8_iles⟩ := hq3
          have h1_lashing := upd_keep (u := U3) (Ne.symm (ne_rdn hSppicks n1)) h1_lashing
          have h8_iles := upd_keep (u := U3) (Ne.symm (ne_rdn hSppicks n8)) h8_iles
          have e3L := unl_open (ls := []) e3L
          have r3L := rx_of e3L
          obtain rfl : (m_joined_v4 ppicks pelder pone pother) = s3 := (outL_of hr3).symm
          refine q_when (b := (!decide ((m_overlaps (m_joined_v4 ppicks pelder pone pother)) = []))) (et_test (e_neNil (l := (m_overlaps (m_joined_v4 ppicks pelder pone pother))) (eu2_call (ea_cons (ev_var rfl) ea_nil) (su2_of fun HC eC => ⟨_, _, rfl, ex_rd eC (Or.inl h8_iles), (by walk_at "vside"), rfl⟩)) (el_lst ea_nil (by decide)) (by walk_at "vside"))) (fun hb12 H12 e12a => ?_) (fun hb12 H12 e12a => ?_)
          · have e12 := Ex.trans e3L e12a
            have r12 := rx_of e12
            have h1_lashing := e12a _ _ h1_lashing
            have h8_iles := e12a _ _ h8_iles
            have k5a := retX_T k4r hb12
            exact PX.exc k5a e12
          · have e12 := Ex.trans e3L e12a
            have r12 := rx_of e12
            have h1_lashing := e12a _ _ h1_lashing
            have h8_iles := e12a _ _ h8_iles
            have k6b := retX_F k4r hb12
            exact s_ret (ev_var rfl) fun H13 e13a => (PX.ret k6b) _ _ n8 (Ex.trans e12 e13a) (e13a _ _ h8_iles)
def sp_law_cell_at (K : PySem.W.Frag) : Sp := spP fun ws H v => ∃ (ap_script : Addr) (p_script : List Int) (p_k : Int), ws = [.ref ap_script, V.int p_k] ∧ SqL K H ap_script (List.map V.int p_script) ∧ (0 ≤ p_k) ∧ v = V.int (m_law_cell_at p_script p_k)
theorem ok_law_cell_at {f : Addr} {fd : FuncData} (F : Fun K "_law_cell_at" "_law_cell_at" s_law_cell_at f fd) (z : Bt mg)  : FnOk P w K mg base CX0 1 f fd ["_law_script", "_law_k"] (sp_law_cell_at K) := by
  refine F.ok (k := 0) sc_law_cell_at (fun ws H Q E h => ?_) (fun cdv A outer s H ws Q E hr h => ?_)
  · obtain ⟨_, ⟨_, _, _, rfl, _⟩, _⟩ := h
    rfl
  · obtain ⟨_, ⟨ap_script, p_script, p_k, rfl, hSp_script, hpre, rfl⟩, k0⟩ := h
    refine ⟨_, (pss_cons (ps_if (pt_cmpR op_lt (pv 1) (pe_callB (call_lenK K) (by rfl) z.z_len PySem.boot_len (pa_cons (pv 0) pa_nil)) (nomark _)) (pss_one (ps_ret (pe_ix (ix_listK K) (pv 0) (pv 1) (fun _ _ => rfl)))) pss_nil)
      (pss_one (ps_ret pe_int))), ?_⟩
    refine q_when (b := (decide (p_k < (p_script.length : Int)))) (et_test (e_lt (ev_var rfl) (e_lenL (f := V.int) (l := p_script) (ev_var rfl) (rx_l (RX.refl H) hSp_script)))) (fun hb1 H1 e1a => ?_) (fun hb1 H1 e1a => ?_)
    · have e1 := Ex.trans (Ex.refl H) e1a
      have r1 := rx_of e1
      have k1a := ret_T k0 hb1
      exact s_ret (e_ixL (f := V.int) (l := p_script) 0 (ev_var rfl) (rx_l r1 hSp_script) (ev_var rfl) (by walk_at "vside")) fun H2 e2a => (RetV.go k1a (Ex.trans e1 e2a))
    · have e1 := Ex.trans (Ex.refl H) e1a
      have r1 := rx_of e1
      have k2b := ret_F k0 hb1
      exact s_ret ev_c fun H3 e3a => (RetV.go k2b (Ex.trans e1 e3a))
def sp_law_sign_by (K : PySem.W.Frag) : Sp := spP fun ws H v => ∃ (p_k : Int), ws = [V.int p_k] ∧ v = vs (m_law_sign_by p_k)
theorem ok_law_sign_by {f : Addr} {fd : FuncData} (F : Fun K "_law_sign_by" "_law_sign_by" s_law_sign_by f fd) (z : Bt mg)  : FnOk P w K mg base CX0 1 f fd ["_law_k"] (sp_law_sign_by K) := by
  refine F.ok (k := 0) sc_law_sign_by (fun ws H Q E h => ?_) (fun cdv A outer s H ws Q E hr h => ?_)
  · obtain ⟨_, ⟨_, rfl, _⟩, _⟩ := h
    rfl
  · obtain ⟨_, ⟨p_k, rfl, rfl⟩, k0⟩ := h
    have L_lSigns := len_lSigns
    refine ⟨_, (pss_one (ps_ret (pe_ix ix_str pe_str (pe_op op_mod (pv 0) pe_int) (fun _ _ => rfl)))), ?_⟩
    exact s_ret (e_ixS (ev_is (w := vs lSigns) e_lit rfl) (e_mod (ev_var rfl) ev_c (by walk_at "vside")) (by walk_at "vside")) fun H1 e1a => (RetV.go k0 (Ex.trans (Ex.refl H) e1a))
def sp_law_name_by (K : PySem.W.Frag) : Sp := spP fun ws H v => ∃ (p_k : Int) (p_shift : Int), ws = [V.int p_k, V.int p_shift] ∧ v = vs (m_law_name_by p_k p_shift)
theorem ok_law_name_by {f : Addr} {fd : FuncData} (F : Fun K "_law_name_by" "_law_name_by" s_law_name_by f fd) (z : Bt mg) (C_law_sign_by : Cal P w K mg base 1 "_law_sign_by" ["_law_k"] (sp_law_sign_by K)) : FnOk P w K mg base CX0 2 f fd ["_law_k", "_law_shift"] (sp_law_name_by K) := by
  refine F.ok (k := 1) sc_law_name_by (fun ws H Q E h => ?_) (fun cdv A outer s H ws Q E hr h => ?_)
  · obtain ⟨_, ⟨_, _, rfl, _⟩, _⟩ := h
    rfl
  · obtain ⟨_, ⟨p_k, p_shift, rfl, rfl⟩, k0⟩ := h
    have L_lNil := len_lNil
    have L_lDot := len_lDot
    have L_lDots := len_lDots
    have L_l0x := len_l0x
    have i0 := b01 (decide ((m_law_name_by_v3 p_shift) = (0 : Int)))
    have i1 := b01 (decide ((m_law_name_by_v3 p_shift) = (1 : Int)))
    have i3 := b01 (decide ((m_law_name_by_v3 p_shift) = (3 : Int)))
    have i26 := g26 ((if (decide ((m_law_name_by_v3 p_shift) = (3 : Int))) = true then (1 : Int) else 0).toNat)
    refine ⟨_, (pss_cons (ps_set (i := 2) sc_law_name_by.nd rfl (Or.inl rfl) pe_int)
      (pss_cons (ps_if (pt_cmpR op_eq (pe_op op_mod (pe_op op_fdiv (pv 1) pe_int) pe_int) pe_int (nomark _)) (pss_one (ps_set (i := 2) sc_law_name_by.nd rfl (Or.inl rfl) (pe_op op_add pe_int (pe_op op_mod (pe_op op_fdiv (pv 1) pe_int) pe_int)))) pss_nil)
      (pss_cons (ps_set (i := 3) sc_law_name_by.nd rfl (Or.inr rfl) (pe_op op_mod (pe_op op_fdiv (pv 1) pe_int) pe_int))
      (pss_cons (ps_setLc (i := 4) (own := [("_law_j", 8)]) (g := gName 8) (tt := tYes) rfl sc_law_name_by.nd rfl rfl (sw_true rfl rfl rfl (by decide +kernel)) (pi_range1 (by rfl) z.z_range (pa_cons pe_int pa_nil)) (blkOk_by (own := [("_law_j", 8)]) (N := ["_law_k", "_law_shift", "_law_size", "_law_way", "_law_rest", "_law_at_here", "_law_told_here", "_law_name", "_law_j"]) (sc := defScope s_law_name_by) (by decide +kernel)) (fun _ _ _ _ _ => pg_name (i := 8) sc_law_name_by.nd rfl (Or.inl rfl)) (fun _ _ _ _ _ => pts_nil) (fun _ _ _ _ _ => (pe_cal C_law_sign_by (hr.mono (by decide)) (by rfl) (pa_cons (pe_op op_add (pe_op op_add (pe_op op_fdiv (pv 1) pe_int) (pe_op op_mul pe_int (pv 8))) (pe_op op_mul (pv 0) (pe_callTy call_int1 (by rfl) z.z_int (by decide +kernel) (pa_cons (pe_cmpR op_eq (pv 3) pe_int (nomark _)) pa_nil)))) pa_nil))))
      (pss_cons (ps_set (i := 5) sc_law_name_by.nd rfl (Or.inl rfl) (pe_op op_mul (pe_op op_mod (pe_op op_fdiv (pv 1) pe_int) (pv 2)) (pe_callTy call_int1 (by rfl) z.z_int (by decide +kernel) (pa_cons (pe_cmpR op_eq (pv 3) pe_int (nomark _)) pa_nil))))
      (pss_cons (ps_set (i := 6) sc_law_name_by.nd rfl (Or.inl rfl) (pe_cal C_law_sign_by (hr.mono (by decide)) (by rfl) (pa_cons (pe_op op_add (pv 1) (pe_op op_mul (pv 0) (pe_ix (ix_listK K) (pe_lst (pa_cons pe_int (pa_cons pe_int pa_nil))) (pe_callTy call_int1 (by rfl) z.z_int (by decide +kernel) (pa_cons (pe_cmpR op_eq (pv 3) pe_int (nomark _)) pa_nil)) (fun _ _ => rfl)))) pa_nil)))
      (pss_cons (ps_set (i := 7) sc_law_name_by.nd rfl (Or.inl rfl) (pe_op op_addT (pe_op op_addT (pe_joinK K pe_str (pe_slice (sl_listK K) (pv 4) po_none (po_some (pv 5)))) (pv 6)) (pe_joinK K pe_str (pe_slice (sl_listK K) (pv 4) (po_some (pv 5)) (po_some (pe_op op_sub (pv 2) pe_int))))))
      (pss_cons (ps_if (pt_cmpR op_eq (pv 3) pe_int (nomark _)) (pss_one (ps_set (i := 7) sc_law_name_by.nd rfl (Or.inl rfl) (pe_joinK K pe_str (pe_slice (sl_listK K) (pv 4) po_none (po_some (pe_op op_add pe_int (pe_op op_mod (pe_op op_add (pe_op op_fdiv (pv 1) pe_int) (pv 0)) pe_int))))))) pss_nil)
      (pss_cons (ps_if (PW.pt (pw_or (pt_cmpR op_eq (pv 7) pe_str (nomark _)) (pw_or1 (pt_cmpR op_eq (pv 7) pe_str (nomark _))))) (pss_one (ps_ret pe_str)) pss_nil)
      (pss_one (ps_ret (pv 7)))))))))))), ?_⟩
    refine q_asg (v := V.int m_law_name_by_v1) (ev_is ev_c rfl) fun H1 e1a => ?_
    have e1 := Ex.trans (Ex.refl H) e1a
    have r1 := rx_of e1
    have fm_law_name_by_v1 : m_law_name_by_v1 = (1 : Int) := rfl
    refine q_ifSet (f := V.int) (z := (m_law_name_by_v2 p_shift)) (et_test (e_eqI (e_mod (e_div (ev_var rfl) ev_c (by walk_at "vside")) ev_c (by walk_at "vside")) ev_c)) (fun hc => (e_add ev_c (e_mod (e_div (ev_var rfl) ev_c (by walk_at "vside")) ev_c (by walk_at "vside")))) rfl rfl fun H2 e2a => ?_
    have e2 := Ex.trans e1 e2a
    have r2 := rx_of e2
    have fm_law_name_by_v2 : (m_law_name_by_v2 p_shift) = if (decide (((p_shift / (65 : Int)) % (3 : Int)) = (1 : Int))) = true then ((1 : Int) + ((p_shift / (195 : Int)) % (12 : Int))) else m_law_name_by_v1 := rfl
    have g2 := name_v2 p_shift
    refine q_asg (v := V.int (m_law_name_by_v3 p_shift)) (ev_is (e_mod (e_div (ev_var rfl) ev_c (by walk_at "vside")) ev_c (by walk_at "vside")) rfl) fun H3 e3a => ?_
    have e3 := Ex.trans e2 e3a
    have r3 := rx_of e3
    have fm_law_name_by_v3 : (m_law_name_by_v3 p_shift) = ((p_shift / (5 : Int)) % (4 : Int)) := rfl
    refine q_asgL (xs := List.map vs (m_law_name_by_v4 p_shift p_k)) (el_is (l_mapR (f := vs) (fun k0 : Nat => (m_law_sign_by (((p_shift / (195 : Int)) + ((7 : Int) * (k0 : Int))) + (p_k * (if (decide ((m_law_name_by_v3 p_shift) = (0 : Int))) = true then (1 : Int) else 0))))) (ea_cons ev_c ea_nil) (by walk_at "vside") (fun k0 hk => (ev_call (ea_cons (e_add (e_add (e_div (ev_var rfl) ev_c (by walk_at "vside")) (e_mul ev_c (ev_var rfl) (by first | exact Or.inl (by walk_at "vside") | exact Or.inr (by walk_at "vside")))) (e_mul (ev_var rfl) (e_intB (e_eqI (ev_var rfl) ev_c)) (by first | exact Or.inl (by walk_at "vside") | exact Or.inr (by walk_at "vside")))) ea_nil) (sv_of fun HC eC => ⟨_, rfl, rfl⟩)))) rfl) fun p4_rest H4 n4a e4a h4_rest => ?_
    have n4 := fresh_back e3 n4a
    have e4 := Ex.trans e3 e4a
    have r4 := rx_of e4
    have fm_law_name_by_v4 : List.length (m_law_name_by_v4 p_shift p_k) = List.length (((List.range (12 : Int).toNat).map (fun k0 : Nat => (m_law_sign_by (((p_shift / (195 : Int)) + ((7 : Int) * (k0 : Int))) + (p_k * (if (decide ((m_law_name_by_v3 p_shift) = (0 : Int))) = true then (1 : Int) else 0))))))) := rfl
    have g4 := name_v4 p_shift p_k
    have g4l : List.length (m_law_name_by_v4 p_shift p_k) = 12 := rfl
    refine q_asg (v := V.int (m_law_name_by_v5 p_shift)) (ev_is (e_mul (e_mod (e_div (ev_var rfl) ev_c (by walk_at "vside")) (ev_var rfl) (by walk_at "vside")) (e_intB (e_eqI (ev_var rfl) ev_c)) (by first | exact Or.inl (by walk_at "vside") | exact Or.inr (by walk_at "vside"))) rfl) fun H5 e5a => ?_
    have e5 := Ex.trans e4 e5a
    have r5 := rx_of e5
    have h4_rest := e5a _ _ h4_rest
    have fm_law_name_by_v5 : (m_law_name_by_v5 p_shift) = (((p_shift / (20 : Int)) % (m_law_name_by_v2 p_shift)) * (if (decide ((m_law_name_by_v3 p_shift) = (1 : Int))) = true then (1 : Int) else 0)) := rfl
    have g5 := name_v5 p_shift
    refine q_asg (v := vs (m_law_name_by_v6 p_shift p_k)) (ev_is (ev_call (ea_cons (e_add (ev_var rfl) (e_mul (ev_var rfl) (e_ixN (f := V.int) (l := [(1 : Int), (26 : Int)]) 0 (el_lst (ea_cons ev_c (ea_cons ev_c ea_nil)) (by simp)) (e_intB (e_eqI (ev_var rfl) ev_c)) (by walk_at "vside")) (by first | exact Or.inl (by walk_at "vside") | exact Or.inr (by walk_at "vside")))) ea_nil) (sv_of fun HC eC => ⟨_, rfl, rfl⟩)) rfl) fun H6 e6a => ?_
    have e6 := Ex.trans e5 e6a
    have r6 := rx_of e6
    have h4_rest := e6a _ _ h4_rest
    have fm_law_name_by_v6 : List.length (m_law_name_by_v6 p_shift p_k) = List.length ((m_law_sign_by (p_shift + (p_k * ([(1 : Int), (26 : Int)].getD (if (decide ((m_law_name_by_v3 p_shift) = (3 : Int))) = true then (1 : Int) else 0).toNat 0))))) := rfl
    have g6 : List.length (m_law_name_by_v6 p_shift p_k) = 1 := rfl
    have c1a := cut_sum (m_law_name_by_v4 p_shift p_k) none (some (m_law_name_by_v5 p_shift))
    have c1b := cut_len (m_law_name_by_v4 p_shift p_k) none (some (m_law_name_by_v5 p_shift))
    have c1c := jl0 (cutG (m_law_name_by_v4 p_shift p_k) none (some (m_law_name_by_v5 p_shift)))
    have c2a := cut_sum (m_law_name_by_v4 p_shift p_k) (some (m_law_name_by_v5 p_shift)) (some ((m_law_name_by_v2 p_shift) - (1 : Int)))
    have c2b := cut_len (m_law_name_by_v4 p_shift p_k) (some (m_law_name_by_v5 p_shift)) (some ((m_law_name_by_v2 p_shift) - (1 : Int)))
    have c2c := jl0 (cutG (m_law_name_by_v4 p_shift p_k) (some (m_law_name_by_v5 p_shift)) (some ((m_law_name_by_v2 p_shift) - (1 : Int))))
    refine q_asg (v := vs (m_law_name_by_v7 p_shift p_k)) (ev_is (e_addT (e_addT (e_joinN (l := (cutG (m_law_name_by_v4 p_shift p_k) none (some (m_law_name_by_v5 p_shift)))) (ev_is (w := vs lNil) e_lit rfl) (l_slR (f := vs) (l := (m_law_name_by_v4 p_shift p_k)) (ev_var rfl) (sq_of h4_rest) eo_none (eo_some (ev_var rfl))) (by walk_at "vside")) (ev_var rfl) (by walk_at "vside")) (e_joinN (l := (cutG (m_law_name_by_v4 p_shift p_k) (some (m_law_name_by_v5 p_shift)) (some ((m_law_name_by_v2 p_shift) - (1 : Int))))) (ev_is (w := vs lNil) e_lit rfl) (l_slR (f := vs) (l := (m_law_name_by_v4 p_shift p_k)) (ev_var rfl) (sq_of h4_rest) (eo_some (ev_var rfl)) (eo_some (e_sub (ev_var rfl) ev_c))) (by walk_at "vside")) (by walk_at "vside")) rfl) fun H7 e7a => ?_
    have e7 := Ex.trans e6 e7a
    have r7 := rx_of e7
    have h4_rest := e7a _ _ h4_rest
    have fm_law_name_by_v7 : List.length (m_law_name_by_v7 p_shift p_k) = List.length ((((joinL lNil (cutG (m_law_name_by_v4 p_shift p_k) none (some (m_law_name_by_v5 p_shift)))) ++ (m_law_name_by_v6 p_shift p_k)) ++ (joinL lNil (cutG (m_law_name_by_v4 p_shift p_k) (some (m_law_name_by_v5 p_shift)) (some ((m_law_name_by_v2 p_shift) - (1 : Int))))))) := rfl
    have c3a := cut_sum (m_law_name_by_v4 p_shift p_k) none (some ((1 : Int) + (((p_shift / (65 : Int)) + p_k) % (12 : Int))))
    have c3b := cut_len (m_law_name_by_v4 p_shift p_k) none (some ((1 : Int) + (((p_shift / (65 : Int)) + p_k) % (12 : Int))))
    have c3c := jl0 (cutG (m_law_name_by_v4 p_shift p_k) none (some ((1 : Int) + (((p_shift / (65 : Int)) + p_k) % (12 : Int)))))
    refine q_ifSet (f := vs) (z := (m_law_name_by_v8 p_shift p_k)) (et_test (e_eqI (ev_var rfl) ev_c)) (fun hc => (e_joinN (l := (cutG (m_law_name_by_v4 p_shift p_k) none (some ((1 : Int) + (((p_shift / (65 : Int)) + p_k) % (12 : Int)))))) (ev_is (w := vs lNil) e_lit rfl) (l_slR (f := vs) (l := (m_law_name_by_v4 p_shift p_k)) (ev_var rfl) (sq_of h4_rest) eo_none (eo_some (e_add ev_c (e_mod (e_add (e_div (ev_var rfl) ev_c (by walk_at "vside")) (ev_var rfl)) ev_c (by walk_at "vside"))))) (by walk_at "vside"))) rfl rfl fun H8 e8a => ?_
    have e8 := Ex.trans e7 e8a
    have r8 := rx_of e8
    have h4_rest := e8a _ _ h4_rest
    refine q_when (b := ((decide ((m_law_name_by_v8 p_shift p_k) = lDot)) || (decide ((m_law_name_by_v8 p_shift p_k) = lDots)))) (et_or (et_test (e_eqT (ev_var rfl) (ev_is (w := vs lDot) e_lit rfl))) (fun hc => (et_test (e_eqT (ev_var rfl) (ev_is (w := vs lDots) e_lit rfl))))) (fun hb9 H9 e9a => ?_) (fun hb9 H9 e9a => ?_)
    · have e9 := Ex.trans e8 e9a
      have r9 := rx_of e9
      have h4_rest := e9a _ _ h4_rest
      have k1a := ret_T k0 hb9
      exact s_ret (ev_is (w := vs l0x) e_lit rfl) fun H10 e10a => (RetV.go k1a (Ex.trans e9 e10a))
    · have e9 := Ex.trans e8 e9a
      have r9 := rx_of e9
      have h4_rest := e9a _ _ h4_rest
      have k2b := ret_F k0 hb9
      exact s_ret (ev_var rfl) fun H11 e11a => (RetV.go k2b (Ex.trans e9 e11a))
def sp_law_path_by (K : PySem.W.Frag) : Sp := spP fun ws H v => ∃ (p_cell : Int) (p_shift : Int), ws = [V.int p_cell, V.int p_shift] ∧ v = vs (m_law_path_by p_cell p_shift)
theorem ok_law_path_by {f : Addr} {fd : FuncData} (F : Fun K "_law_path_by" "_law_path_by" s_law_path_by f fd) (z : Bt mg) (C_law_name_by : Cal P w K mg base 2 "_law_name_by" ["_law_k", "_law_shift"] (sp_law_name_by K)) : FnOk P w K mg base CX0 3 f fd ["_law_cell", "_law_shift"] (sp_law_path_by K) := by
  refine F.ok (k := 2) sc_law_path_by (fun ws H Q E h => ?_) (fun cdv A outer s H ws Q E hr h => ?_)
  · obtain ⟨_, ⟨_, _, rfl, _⟩, _⟩ := h
    rfl
  · obtain ⟨_, ⟨p_cell, p_shift, rfl, rfl⟩, k0⟩ := h
    have L_lSl := len_lSl
    have gn := path_n p_cell
    refine ⟨_, (pss_cons (ps_setLc (i := 2) (own := [("_law_j", 4)]) (g := gName 4) (tt := tYes) rfl sc_law_path_by.nd rfl rfl (sw_true rfl rfl rfl (by decide +kernel)) (pi_range1 (by rfl) z.z_range (pa_cons (pe_ix (ix_listK K) (pe_lst (pa_cons pe_int (pa_cons pe_int (pa_cons pe_int (pa_cons pe_int (pa_cons pe_int pa_nil)))))) (pe_op op_mod (pv 0) pe_int) (fun _ _ => rfl)) pa_nil)) (blkOk_by (own := [("_law_j", 4)]) (N := ["_law_cell", "_law_shift", "_law_low", "_law_high", "_law_j"]) (sc := defScope s_law_path_by) (by decide +kernel)) (fun _ _ _ _ _ => pg_name (i := 4) sc_law_path_by.nd rfl (Or.inl rfl)) (fun _ _ _ _ _ => pts_nil) (fun _ _ _ _ _ => (pe_cal C_law_name_by (hr.mono (by decide)) (by rfl) (pa_cons (pe_op op_mod (pe_op op_fdiv (pe_op op_fdiv (pv 0) pe_int) (pe_ix (ix_listK K) (pe_lst (pa_cons pe_int (pa_cons pe_int (pa_cons pe_int pa_nil)))) (pv 4) (fun _ _ => rfl))) pe_int) (pa_cons (pv 1) pa_nil)))))
      (pss_cons (ps_if (pt_cmpR op_ne (pe_op op_mod (pv 1) pe_int) pe_int (nomark _)) (pss_one (ps_ret (pe_joinK K pe_str (pv 2)))) pss_nil)
      (pss_cons (ps_setLc (i := 3) (own := [("_law_j", 4)]) (g := gName 4) (tt := tYes) rfl sc_law_path_by.nd rfl rfl (sw_true rfl rfl rfl (by decide +kernel)) (pi_range1 (by rfl) z.z_range (pa_cons (pe_op op_add pe_int (pe_op op_mod (pe_op op_fdiv (pv 1) pe_int) pe_int)) pa_nil)) (blkOk_by (own := [("_law_j", 4)]) (N := ["_law_cell", "_law_shift", "_law_low", "_law_high", "_law_j"]) (sc := defScope s_law_path_by) (by decide +kernel)) (fun _ _ _ _ _ => pg_name (i := 4) sc_law_path_by.nd rfl (Or.inl rfl)) (fun _ _ _ _ _ => pts_nil) (fun _ _ _ _ _ => (pe_cal C_law_name_by (hr.mono (by decide)) (by rfl) (pa_cons (pe_op op_add pe_int (pv 4)) (pa_cons (pv 1) pa_nil)))))
      (pss_cons (ps_if (pt_cmpR op_eq (pe_op op_mod (pv 0) pe_int) pe_int (nomark _)) (pss_one (ps_ret (pe_joinK K pe_str (pe_slice (sl_listK K) (pe_op op_cat (pv 3) (pv 2)) po_none (po_some (pe_op op_add pe_int (pe_op op_mod (pe_op op_fdiv (pv 0) pe_int) (pe_op op_add (pe_callB (call_lenK K) (by rfl) z.z_len PySem.boot_len (pa_cons (pv 3) pa_nil)) (pe_callB (call_lenK K) (by rfl) z.z_len PySem.boot_len (pa_cons (pv 2) pa_nil)))))))))) pss_nil)
      (pss_one (ps_ret (pe_joinK K pe_str (pe_op op_cat (pv 3) (pv 2))))))))), ?_⟩
    refine q_asgL (xs := List.map vs (m_law_path_by_v1 p_cell p_shift)) (el_is (l_mapR (f := vs) (fun k0 : Nat => (m_law_name_by (((p_cell / (5 : Int)) / ([(1 : Int), (3 : Int), (9 : Int)].getD (k0 : Int).toNat 0)) % (3 : Int)) p_shift)) (ea_cons (e_ixN (f := V.int) (l := [(1 : Int), (1 : Int), (2 : Int), (2 : Int), (3 : Int)]) 0 (el_lst (ea_cons ev_c (ea_cons ev_c (ea_cons ev_c (ea_cons ev_c (ea_cons ev_c ea_nil))))) (by simp)) (e_mod (ev_var rfl) ev_c (by walk_at "vside")) (by walk_at "vside")) ea_nil) (by walk_at "vside") (fun k0 hk => have := g139 (k0 : Int).toNat; have := path_n p_cell; (ev_call (ea_cons (e_mod (e_div (e_div (ev_var rfl) ev_c (by walk_at "vside")) (e_ixN (f := V.int) (l := [(1 : Int), (3 : Int), (9 : Int)]) 0 (el_lst (ea_cons ev_c (ea_cons ev_c (ea_cons ev_c ea_nil))) (by simp)) (ev_var rfl) (by walk_at "vside")) (by walk_at "vside")) ev_c (by walk_at "vside")) (ea_cons (ev_var rfl) ea_nil)) (sv_of fun HC eC => ⟨_, _, rfl, rfl⟩)))) rfl) fun p1_low H1 n1a e1a h1_low => ?_
    have n1 := fresh_back (Ex.refl H) n1a
    have e1 := Ex.trans (Ex.refl H) e1a
    have r1 := rx_of e1
    have fm_law_path_by_v1 : List.length (m_law_path_by_v1 p_cell p_shift) = List.length (((List.range ([(1 : Int), (1 : Int), (2 : Int), (2 : Int), (3 : Int)].getD (p_cell % (5 : Int)).toNat 0).toNat).map (fun k0 : Nat => (m_law_name_by (((p_cell / (5 : Int)) / ([(1 : Int), (3 : Int), (9 : Int)].getD (k0 : Int).toNat 0)) % (3 : Int)) p_shift)))) := rfl
    have gn := path_n p_cell
    have g1 := (path_p1 p_cell p_shift).1
    have g1s := (path_p1 p_cell p_shift).sum
    refine q_when (b := (!decide ((p_shift % (7 : Int)) = (3 : Int)))) (et_test (e_neI (e_mod (ev_var rfl) ev_c (by walk_at "vside")) ev_c)) (fun hb2 H2 e2a => ?_) (fun hb2 H2 e2a => ?_)
    · have e2 := Ex.trans e1 e2a
      have r2 := rx_of e2
      have h1_low := e2a _ _ h1_low
      have k1a := ret_T k0 hb2
      exact s_ret (e_joinR (l := (m_law_path_by_v1 p_cell p_shift)) (ev_is (w := vs lSl) e_lit rfl) (ev_var rfl) (sq_of h1_low) (by walk_at "vside")) fun H3 e3a => (RetV.go k1a (Ex.trans e2 e3a))
    · have e2 := Ex.trans e1 e2a
      have r2 := rx_of e2
      have h1_low := e2a _ _ h1_low
      have k2b := ret_F k0 hb2
      refine q_asgL (xs := List.map vs (m_law_path_by_v2 p_shift)) (el_is (l_mapR (f := vs) (fun k0 : Nat => (m_law_name_by ((3 : Int) + (k0 : Int)) p_shift)) (ea_cons (e_add ev_c (e_mod (e_div (ev_var rfl) ev_c (by walk_at "vside")) ev_c (by walk_at "vside"))) ea_nil) (by walk_at "vside") (fun k0 hk => (ev_call (ea_cons (e_add ev_c (ev_var rfl)) (ea_cons (ev_var rfl) ea_nil)) (sv_of fun HC eC => ⟨_, _, rfl, rfl⟩)))) rfl) fun p4_high H4 n4a e4a h4_high => ?_
      have n4 := fresh_back e2 n4a
      have d_p1_low_p4_high := ne_of_none h1_low n4a
      have e4 := Ex.trans e2 e4a
      have r4 := rx_of e4
      have h1_low := e4a _ _ h1_low
      have fm_law_path_by_v2 : List.length (m_law_path_by_v2 p_shift) = List.length (((List.range ((1 : Int) + ((p_shift / (7 : Int)) % (5 : Int))).toNat).map (fun k0 : Nat => (m_law_name_by ((3 : Int) + (k0 : Int)) p_shift)))) := rfl
      have g2 := (path_v2 p_shift).1
      have g2s := (path_p2 p_cell p_shift).sum
      have g2l := (path_p2 p_cell p_shift).1
      have g3s := (path_p3 p_cell p_shift).sum
      have g3l := (path_p3 p_cell p_shift).1
      have gx := path_ix p_cell p_shift
      refine q_when (b := (decide ((p_cell % (13 : Int)) = (6 : Int)))) (et_test (e_eqI (e_mod (ev_var rfl) ev_c (by walk_at "vside")) ev_c)) (fun hb5 H5 e5a => ?_) (fun hb5 H5 e5a => ?_)
      · have e5 := Ex.trans e4 e5a
        have r5 := rx_of e5
        have h1_low := e5a _ _ h1_low
        have h4_high := e5a _ _ h4_high
        have k3a := ret_T k2b hb5
        exact s_ret (e_joinN (l := (cutG ((m_law_path_by_v2 p_shift) ++ (m_law_path_by_v1 p_cell p_shift)) none (some ((1 : Int) + ((p_cell / (13 : Int)) % (((m_law_path_by_v2 p_shift).length : Int) + ((m_law_path_by_v1 p_cell p_shift).length : Int))))))) (ev_is (w := vs lSl) e_lit rfl) (l_slN (g := vs) (m := ((m_law_path_by_v2 p_shift) ++ (m_law_path_by_v1 p_cell p_shift))) (l_catRR (g := vs) (m1 := (m_law_path_by_v2 p_shift)) (m2 := (m_law_path_by_v1 p_cell p_shift)) (ev_var rfl) h4_high (ev_var rfl) h1_low (by walk_at "vside")) eo_none (eo_some (e_add ev_c (e_mod (e_div (ev_var rfl) ev_c (by walk_at "vside")) (e_add (e_lenL (f := vs) (l := (m_law_path_by_v2 p_shift)) (ev_var rfl) (sq_of h4_high)) (e_lenL (f := vs) (l := (m_law_path_by_v1 p_cell p_shift)) (ev_var rfl) (sq_of h1_low))) (by walk_at "vside"))))) (by walk_at "vside")) fun H6 e6a => (RetV.go k3a (Ex.trans e5 e6a))
      · have e5 := Ex.trans e4 e5a
        have r5 := rx_of e5
        have h1_low := e5a _ _ h1_low
        have h4_high := e5a _ _ h4_high
        have k4b := ret_F k2b hb5
        exact s_ret (e_joinN (l := ((m_law_path_by_v2 p_shift) ++ (m_law_path_by_v1 p_cell p_shift))) (ev_is (w := vs lSl) e_lit rfl) (l_catRR (g := vs) (m1 := (m_law_path_by_v2 p_shift)) (m2 := (m_law_path_by_v1 p_cell p_shift)) (ev_var rfl) h4_high (ev_var rfl) h1_low (by walk_at "vside")) (by walk_at "vside")) fun H7 e7a => (RetV.go k4b (Ex.trans e5 e7a))
def sp_law_line_by (K : PySem.W.Frag) : Sp := spP fun ws H v => ∃ (p_k : Int) (p_shift : Int), ws = [V.int p_k, V.int p_shift] ∧ v = vs (m_law_line_by p_k p_shift)
theorem ok_law_line_by {f : Addr} {fd : FuncData} (F : Fun K "_law_line_by" "_law_line_by" s_law_line_by f fd) (z : Bt mg)  : FnOk P w K mg base CX0 1 f fd ["_law_k", "_law_shift"] (sp_law_line_by K) := by
  refine F.ok (k := 0) sc_law_line_by (fun ws H Q E h => ?_) (fun cdv A outer s H ws Q E hr h => ?_)
  · obtain ⟨_, ⟨_, _, rfl, _⟩, _⟩ := h
    rfl
  · obtain ⟨_, ⟨p_k, p_shift, rfl, rfl⟩, k0⟩ := h
    have L_lAny1 := len_lAny1
    have L_lAny2 := len_lAny2
    have L_lNil := len_lNil
    have i0 := b01 (decide (((p_shift / (60 : Int)) % (4 : Int)) = (3 : Int)))
    refine ⟨_, (pss_cons (ps_set (i := 2) sc_law_line_by.nd rfl (Or.inr rfl) pe_str)
      (pss_cons (ps_set (i := 2) sc_law_line_by.nd rfl (Or.inr rfl) (pe_op op_addT (pv 2) pe_str))
      (pss_cons (ps_set (i := 3) sc_law_line_by.nd rfl (Or.inl rfl) (pe_lst (pa_cons pe_int (pa_cons pe_int (pa_cons pe_int (pa_cons (pe_op op_add pe_int (pe_ix (ix_listK K) (pe_lst (pa_cons (pe_op op_mod (pv 1) pe_int) (pa_cons (pe_op op_mod (pe_op op_fdiv (pv 1) pe_int) pe_int) pa_nil))) (pe_callTy call_int1 (by rfl) z.z_int (by decide +kernel) (pa_cons (pe_cmpR op_eq (pe_op op_mod (pe_op op_fdiv (pv 1) pe_int) pe_int) pe_int (nomark _)) pa_nil)) (fun _ _ => rfl))) pa_nil))))))
      (pss_one (ps_ret (pe_joinK K pe_str (pe_lc (own := [("_law_j", 4)]) (g := gName 4) (tt := tYes) rfl sc_law_line_by.nd (pi_range1 (by rfl) z.z_range (pa_cons (pe_ix (ix_listK K) (pv 3) (pe_op op_mod (pv 0) pe_int) (fun _ _ => rfl)) pa_nil)) (blkOk_by (own := [("_law_j", 4)]) (N := ["_law_k", "_law_shift", "_law_some", "_law_sizes", "_law_j"]) (sc := defScope s_law_line_by) (by decide +kernel)) (fun _ _ _ _ _ => pg_name (i := 4) sc_law_line_by.nd rfl (Or.inl rfl)) (fun _ _ _ _ _ => pts_nil) (fun _ _ _ _ _ => (pe_ix ix_str (pv 2) (pe_op op_mod (pe_op op_add (pe_op op_add (pv 1) (pe_op op_mul pe_int (pv 0))) (pv 4)) pe_int) (fun _ _ => rfl)))))))))), ?_⟩
    refine q_asg (v := vs m_law_line_by_v1) (ev_is (ev_is (w := vs lAny1) e_lit rfl) rfl) fun H1 e1a => ?_
    have e1 := Ex.trans (Ex.refl H) e1a
    have r1 := rx_of e1
    have fm_law_line_by_v1 : List.length m_law_line_by_v1 = List.length (lAny1) := rfl
    refine q_asg (v := vs m_law_line_by_v2) (ev_is (e_addT (ev_var rfl) (ev_is (w := vs lAny2) e_lit rfl) (by walk_at "vside")) rfl) fun H2 e2a => ?_
    have e2 := Ex.trans e1 e2a
    have r2 := rx_of e2
    have fm_law_line_by_v2 : List.length m_law_line_by_v2 = List.length ((m_law_line_by_v1 ++ lAny2)) := rfl
    have g2 : List.length m_law_line_by_v2 = 96 := by decide +kernel
    refine q_asgL (xs := List.map V.int (m_law_line_by_v3 p_shift)) (el_is (el_lst (ea_cons ev_c (ea_cons ev_c (ea_cons ev_c (ea_cons (e_add ev_c (e_ixN (f := V.int) (l := [(p_shift % (60 : Int)), ((p_shift / (240 : Int)) % (600 : Int))]) 0 (el_lst (ea_cons (e_mod (ev_var rfl) ev_c (by walk_at "vside")) (ea_cons (e_mod (e_div (ev_var rfl) ev_c (by walk_at "vside")) ev_c (by walk_at "vside")) ea_nil)) (by simp)) (e_intB (e_eqI (e_mod (e_div (ev_var rfl) ev_c (by walk_at "vside")) ev_c (by walk_at "vside")) ev_c)) (by walk_at "vside"))) ea_nil)))) (by simp)) rfl) fun p3_sizes H3 n3a e3a h3_sizes => ?_
    have n3 := fresh_back e2 n3a
    have e3 := Ex.trans e2 e3a
    have r3 := rx_of e3
    have fm_law_line_by_v3 : List.length (m_law_line_by_v3 p_shift) = List.length ([(0 : Int), (1 : Int), (2 : Int), ((3 : Int) + ([(p_shift % (60 : Int)), ((p_shift / (240 : Int)) % (600 : Int))].getD (if (decide (((p_shift / (60 : Int)) % (4 : Int)) = (3 : Int))) = true then (1 : Int) else 0).toNat 0))]) := rfl
    have g3 : List.length (m_law_line_by_v3 p_shift) = 4 := rfl
    have g6 := line_sizes p_shift p_k
    have g6s := line_sumk p_k p_shift ((m_law_line_by_v3 p_shift).getD (p_k % (4 : Int)).toNat 0)
    exact s_ret (e_joinN (l := ((List.range ((m_law_line_by_v3 p_shift).getD (p_k % (4 : Int)).toNat 0).toNat).map (fun k0 : Nat => [m_law_line_by_v2.getD (((p_shift + ((5 : Int) * p_k)) + (k0 : Int)) % (96 : Int)).toNat 0]))) (ev_is (w := vs lNil) e_lit rfl) (l_mapR (f := vs) (fun k0 : Nat => [m_law_line_by_v2.getD (((p_shift + ((5 : Int) * p_k)) + (k0 : Int)) % (96 : Int)).toNat 0]) (ea_cons (e_ixL (f := V.int) (l := (m_law_line_by_v3 p_shift)) 0 (ev_var rfl) (sq_of h3_sizes) (e_mod (ev_var rfl) ev_c (by walk_at "vside")) (by walk_at "vside")) ea_nil) (by walk_at "vside") (fun k0 hk => (e_ixS (ev_var rfl) (e_mod (e_add (e_add (ev_var rfl) (e_mul ev_c (ev_var rfl) (by first | exact Or.inl (by walk_at "vside") | exact Or.inr (by walk_at "vside")))) (ev_var rfl)) ev_c (by walk_at "vside")) (by walk_at "vside")))) (by walk_at "vside")) fun H4 e4a => (RetV.go k0 (Ex.trans e3 e4a))
def sp_law_is_free (K : PySem.W.Frag) : Sp := spP fun ws H v => ∃ (ap_tree : Addr) (p_tree : List (Tx × Tx)) (p_path : Tx), ws = [.ref ap_tree, vs p_path] ∧ Rd H ap_tree (.dK (kd vs p_tree)) ∧ (p_path.length ≤ 900 ∧ ∀ k ∈ dkeys p_tree, k.length ≤ 900) ∧ v = V.bl (m_law_is_free p_tree p_path)
theorem ok_law_is_free {f : Addr} {fd : FuncData} (F : Fun K "_law_is_free" "_law_is_free" s_law_is_free f fd) (z : Bt mg)  : FnOk P w K mg base CX0 1 f fd ["_law_tree", "_law_path"] (sp_law_is_free K) := by
  refine F.ok (k := 0) sc_law_is_free (fun ws H Q E h => ?_) (fun cdv A outer s H ws Q E hr h => ?_)
  · obtain ⟨_, ⟨_, _, _, rfl, _⟩, _⟩ := h
    rfl
  · obtain ⟨_, ⟨ap_tree, p_tree, p_path, rfl, hSp_tree, hpre, rfl⟩, k0⟩ := h
    have L_lSl := len_lSl
    refine ⟨_, (pss_cons (ps_may (ps_for PassesOwn.never rfl (pi_keys (pv 0)) (pg_name (i := 2) sc_law_is_free.nd rfl (Or.inl rfl))
      (pss_one (ps_if (PW.pt (pw_or (pt_val (pe_startsT (pv 2) (pe_op op_addT (pv 1) pe_str))) (pw_or1 (pt_val (pe_startsT (pv 1) (pe_op op_addT (pv 2) pe_str)))))) (pss_one (ps_ret pe_bl)) pss_nil))))
      (pss_one (ps_ret pe_bl))), ?_⟩
    refine q_loopK (R := (Bool)) (f := vs) (l := p_tree) (m_law_is_free_step1 p_path) () (fun U1 o1 => (fun (s1 : Unit) (σ1 : L2.St) (H1L : Hp) => ∃ (j1_0 : Option V), σ1 = [some (.ref ap_tree), some (vs p_path), j1_0] ∧ Ex H (unl [(ap_tree, U1)] H1L) ∧ RX H H1L ∧ H1L ap_tree = some (.frz o1 (.dK (kd vs p_tree))))) rfl ((RX.refl H) _ _ hSp_tree) (fun U1 o1 hU1 hUd1 => ?_) (fun U1 o1 s σ H hq => by obtain ⟨j1_0, rfl, e1L, r1L, hW1⟩ := hq; exact hW1) (fun U1 o1 Rt1 hU1 hUd1 hRt1 => ?_) (fun U1 o1 s1 σ1 H1L hU1 hUd1 hr1 hq1 => ?_)
    · exact ⟨_, rfl, unl_lock (ls := []) (Ex.refl H) hU1, rx_may (RX.refl H) hU1 hUd1, upd_same⟩
    · intro Nx1 Bk1 i1 s1 y1 σ1 H1L hy1 hrun1 hq1 hnx1 hbk1 hrt1
      obtain ⟨j1_0, rfl, e1L, r1L, hW1⟩ := hq1
      have hm1 := List.mem_of_getElem? hy1
      have hlt1 := (List.getElem?_eq_some_iff.mp hy1).1
      have gk := hpre.2 y1 hm1
      have gp := hpre.1
      have kq1_0 : (m_law_is_free_step1 p_path) s1 y1 = (if (((p_path ++ lSl).isPrefixOf y1) || ((y1 ++ lSl).isPrefixOf p_path)) = true then (Stp.ret false) else (Stp.go ())) := rfl
      refine s_when (b := (((p_path ++ lSl).isPrefixOf y1) || ((y1 ++ lSl).isPrefixOf p_path))) (et_or (et_B (e_starts (ev_var rfl) (e_addT (ev_var rfl) (ev_is (w := vs lSl) e_lit rfl) (by walk_at "vside")))) (fun hc => (et_B (e_starts (ev_var rfl) (e_addT (ev_var rfl) (ev_is (w := vs lSl) e_lit rfl) (by walk_at "vside")))))) (fun hb1 H1 e1a => ?_) (fun hb1 H1 e1a => ?_)
      · have e1 := unl_grow (ls := [(ap_tree, U1)]) e1L e1a
        have r1 := RX.trans r1L (rx_of e1a)
        have hW1 := e1a _ _ hW1
        have kq1_1 := kq_T kq1_0 hb1
        have kr1 := hrt1 _ kq1_1
        exact s_ret ev_c fun H2 e2a => (hRt1 _ _ (e2a _ _ hW1) (RetV.go (ret_run k0 kr1) (unl_grow (ls := [(ap_tree, U1)]) e1 e2a)))
      · have e1 := unl_grow (ls := [(ap_tree, U1)]) e1L e1a
        have r1 := RX.trans r1L (rx_of e1a)
        have hW1 := e1a _ _ hW1
        have kq1_2 := kq_F kq1_0 hb1
        exact hnx1 () _ _ kq1_2 ⟨_, rfl, e1, r1, hW1⟩
    · obtain ⟨j1_0, rfl, e1L, r1L, hW1⟩ := hq1
      have e1L := unl_open (ls := []) e1L
      have r1L := rx_of e1L
      have k2r := ret_go k0 hr1
      exact s_ret ev_c fun H5 e5a => (RetV.go k2r (Ex.trans e1L e5a))
def sp_law_grown (K : PySem.W.Frag) : Sp := spK fun ws H v => ∃ (ap_tree : Addr) (p_tree : List (Tx × Tx)) (p_cell : Int) (p_shift : Int), ws = [.ref ap_tree, V.int p_cell, V.int p_shift] ∧ Rd H ap_tree (.dK (kd vs p_tree)) ∧ (Good p_tree ∧ p_tree.length ≤ 1000) ∧ v = kd vs (m_law_grown p_tree p_cell p_shift)
theorem ok_law_grown {f : Addr} {fd : FuncData} (F : Fun K "_law_grown" "_law_grown" s_law_grown f fd) (z : Bt mg) (C_law_path_by : Cal P w K mg base 3 "_law_path_by" ["_law_cell", "_law_shift"] (sp_law_path_by K)) (C_law_is_free : Cal P w K mg base 1 "_law_is_free" ["_law_tree", "_law_path"] (sp_law_is_free K)) (C_law_line_by : Cal P w K mg base 1 "_law_line_by" ["_law_k", "_law_shift"] (sp_law_line_by K)) : FnOk P w K mg base CX0 4 f fd ["_law_tree", "_law_cell", "_law_shift"] (sp_law_grown K) := by
  refine F.ok (k := 3) sc_law_grown (fun ws H Q E h => ?_) (fun cdv A outer s H ws Q E hr h => ?_)
  · obtain ⟨_, ⟨_, _, _, _, rfl, _⟩, _⟩ := h
    rfl
  · obtain ⟨_, ⟨ap_tree, p_tree, p_cell, p_shift, rfl, hSp_tree, hpre, rfl⟩, k0⟩ := h
    have L_lTops := len_lTops
    have L_lSlx := len_lSlx
    have hg := hpre.1
    have hl := hpre.2
    refine ⟨_, (pss_cons (ps_set (i := 3) sc_law_grown.nd rfl (Or.inl rfl) (pe_cal C_law_path_by (hr.mono (by decide)) (by rfl) (pa_cons (pv 1) (pa_cons (pv 2) pa_nil))))
      (pss_cons (ps_set (i := 4) sc_law_grown.nd rfl (Or.inl rfl) (pe_cmpR op_eq (pe_op op_mod (pv 1) pe_int) pe_int (nomark _)))
      (pss_cut (ps_if (PW.pt (pw_and (pt_cmpR op_eq (pe_op op_mod (pv 1) pe_int) pe_int (nomark _)) (pw_and1 (pt_chain op_lt op_lt pe_int (pe_callB call_lenRd (by rfl) z.z_len PySem.boot_len (pa_cons (pv 0) pa_nil)) pe_int)))) (pss_one (ps_set (i := 3) sc_law_grown.nd rfl (Or.inl rfl) (pe_ix (ix_listK K) (pe_callTy (call_listDK rfl) (by rfl) z.z_list (by decide +kernel) (pa_cons (pv 0) pa_nil)) (pe_op op_mod (pe_op op_fdiv (pv 1) pe_int) (pe_callB call_lenRd (by rfl) z.z_len PySem.boot_len (pa_cons (pv 0) pa_nil))) (fun _ _ => rfl)))) (pss_one (ps_if (pt_val (pv 4)) (pss_one (ps_set (i := 3) sc_law_grown.nd rfl (Or.inl rfl) (pe_op op_addT (pe_op op_addT pe_str (pe_callTy call_str_int (by rfl) z.z_str (by decide +kernel) (pa_cons (pe_op op_mod (pe_op op_fdiv (pv 1) pe_int) (pe_ix (ix_listK K) (pe_lst (pa_cons pe_int (pa_cons pe_int pa_nil))) (pe_op op_mod (pe_op op_fdiv (pv 1) pe_int) pe_int) (fun _ _ => rfl))) pa_nil))) pe_str))) pss_nil)))
      (pss_cons (ps_set (i := 5) sc_law_grown.nd rfl (Or.inl rfl) (pe_callTy call_dictD (by rfl) z.z_dict (by decide +kernel) (pa_cons (pv 0) pa_nil)))
      (pss_cut (ps_if (pt_cmp (pc_dnotin (hu_of hr) (pv 3) (pv 5))) (pss_cut (ps_if (PW.pt (pw_and (pt_not (pt_val (pv 4))) (pw_and1 (pt_val (pe_cal C_law_is_free (hr.mono (by decide)) (by rfl) (pa_cons (pv 5) (pa_cons (pv 3) pa_nil))))))) (pss_one (ps_dput (hu_of hr) (pv 5) (pv 3) (pe_cal C_law_line_by (hr.mono (by decide)) (by rfl) (pa_cons (pe_op op_fdiv (pv 1) pe_int) (pa_cons (pv 2) pa_nil))) rfl)) pss_nil)
      pss_nil) (pss_cut (ps_if (pt_cmpR op_eq (pe_op op_mod (pe_op op_fdiv (pv 1) pe_int) pe_int) pe_int (nomark _)) (pss_one (ps_expr (pe_dpop1 (pv 5) (pv 3) ⟨rfl, rfl, rfl, rfl⟩))) (pss_one (ps_dput (hu_of hr) (pv 5) (pv 3) (pe_cal C_law_line_by (hr.mono (by decide)) (by rfl) (pa_cons (pe_op op_fdiv (pv 1) pe_int) (pa_cons (pv 2) pa_nil))) rfl)))
      pss_nil))
      (pss_one (ps_ret (pv 5)))))))), ?_⟩
    refine q_asg (v := vs (m_law_grown_v1 p_cell p_shift)) (ev_is (ev_call (ea_cons (ev_var rfl) (ea_cons (ev_var rfl) ea_nil)) (sv_of fun HC eC => ⟨_, _, rfl, rfl⟩)) rfl) fun H1 e1a => ?_
    have e1 := Ex.trans (Ex.refl H) e1a
    have r1 := rx_of e1
    have fm_law_grown_v1 : List.length (m_law_grown_v1 p_cell p_shift) = List.length ((m_law_path_by p_cell p_shift)) := rfl
    refine q_asg (v := V.bl (m_law_grown_v2 p_cell)) (ev_is (e_eqI (e_mod (ev_var rfl) ev_c (by walk_at "vside")) ev_c) rfl) fun H2 e2a => ?_
    have e2 := Ex.trans e1 e2a
    have r2 := rx_of e2
    refine q_cut (M := (fun (σ3m : L2.St) (H3m : Hp) => σ3m = [some (.ref ap_tree), some (V.int p_cell), some (V.int p_shift), some (vs (m_law_grown_v5 p_cell p_tree p_shift)), some (V.bl (m_law_grown_v2 p_cell)), none] ∧ Ex H H3m ∧ RX H H3m)) ?_ ?_
    · refine s_if (b := ((decide ((p_cell % (3 : Int)) = (2 : Int))) && (decide ((0 : Int) < (p_tree.length : Int)) && decide ((p_tree.length : Int) < (30 : Int))))) (et_and (et_test (e_eqI (e_mod (ev_var rfl) ev_c (by walk_at "vside")) ev_c)) (fun hc => (et_test (e_chain ev_c (e_lenRd (f := vs) (l := p_tree) (ev_var rfl) (r2 _ _ hSp_tree)) ev_c (fun _ _ => rv_I0) (fun _ _ => rv_I0))))) (fun hb3 H3 e3a => ?_) (fun hb3 H3 e3a => ?_)
      · have e3 := Ex.trans e2 e3a
        have r3 := rx_of e3
        have gpos := grown_pos hb3
        have gix := grown_ix p_cell gpos
        have gdk := dkeys_len p_tree
        refine s_asg (v := vs (m_law_grown_v3 p_tree p_cell)) (ev_is (e_ixN (f := vs) (l := (dkeys p_tree)) [] (l_keysD (f := vs) (l := p_tree) (ev_var rfl) (r3 _ _ hSp_tree)) (e_mod (e_div (ev_var rfl) ev_c (by walk_at "vside")) (e_lenRd (f := vs) (l := p_tree) (ev_var rfl) (r3 _ _ hSp_tree)) (by walk_at "vside")) (by walk_at "vside")) rfl) fun H4 e4a => ?_
        have e4 := Ex.trans e3 e4a
        have r4 := rx_of e4
        have fm_law_grown_v3 : List.length (m_law_grown_v3 p_tree p_cell) = List.length (((dkeys p_tree).getD ((p_cell / (3 : Int)) % (p_tree.length : Int)).toNat [])) := rfl
        have hV3_0 : (m_law_grown_v5 p_cell p_tree p_shift) = (m_law_grown_v3 p_tree p_cell) := if_pos hb3
        exact ⟨(by rw [hV3_0] <;> rfl), e4, r4⟩
      · have e3 := Ex.trans e2 e3a
        have r3 := rx_of e3
        refine s_ifSet (f := vs) (z := (m_law_grown_v4 p_cell p_shift)) (et_B (ev_var rfl)) (fun hc => (by have gtx := top_ix p_cell; have gtd := topN_plain p_cell; exact (e_addT (e_addT (ev_is (w := vs lTops) e_lit rfl) (e_strI (e_mod (e_div (ev_var rfl) ev_c (by walk_at "vside")) (e_ixN (f := V.int) (l := [(40 : Int), (170 : Int)]) 0 (el_lst (ea_cons ev_c (ea_cons ev_c ea_nil)) (by simp)) (e_mod (e_div (ev_var rfl) ev_c (by walk_at "vside")) ev_c (by walk_at "vside")) (by walk_at "vside")) (by walk_at "vside")) (by walk_at "vside")) (by walk_at "vside")) (ev_is (w := vs lSlx) e_lit rfl) (by walk_at "vside")))) rfl rfl fun H5 e5a => ?_
        have e5 := Ex.trans e3 e5a
        have r5 := rx_of e5
        have hV3_0 : (m_law_grown_v5 p_cell p_tree p_shift) = (m_law_grown_v4 p_cell p_shift) := if_neg (by rw [hb3]; exact Bool.false_ne_true)
        exact ⟨(by rw [hV3_0] <;> rfl), e5, r5⟩
    · intro σ3m H3m hq3m
      obtain ⟨rfl, e3m, r3m⟩ := hq3m
      have gf5 : (m_law_grown_v5 p_cell p_tree p_shift).length ≤ 900 ∧ ∀ k ∈ dkeys (m_law_grown_v6 p_tree), k.length ≤ 900 := ⟨Nat.le_trans (grown_v5 hg p_cell p_shift).len (by decide), hg.le9⟩
      have gf5l := gf5.1
      refine q_asgK (kvs := kd vs (m_law_grown_v6 p_tree)) (ek_is (k_copy (f := vs) (l := p_tree) (ev_var rfl) (r3m _ _ hSp_tree)) rfl) fun p6_made H6 n6a e6a h6_made => ?_
      have n6 := fresh_back e3m n6a
      have e6 := Ex.trans e3m e6a
      have r6 := rx_of e6
      have gl6 : (m_law_grown_v6 p_tree).length ≤ 1000 := hl
      refine q_cut (M := (fun (σ7m : L2.St) (H7m : Hp) => σ7m = [some (.ref ap_tree), some (V.int p_cell), some (V.int p_shift), some (vs (m_law_grown_v5 p_cell p_tree p_shift)), some (V.bl (m_law_grown_v2 p_cell)), some (.ref p6_made)] ∧ Ex H H7m ∧ RX H H7m ∧ H7m p6_made = some (.dK (kd vs (m_law_grown_v12 p_cell p_tree p_shift))))) ?_ ?_
      · refine s_if (b := (!dhas (m_law_grown_v6 p_tree) (m_law_grown_v5 p_cell p_tree p_shift))) (et_B (e_niD (f := vs) (l := (m_law_grown_v6 p_tree)) (k := (m_law_grown_v5 p_cell p_tree p_shift)) (ev_var rfl) (ev_var rfl) (Or.inl h6_made))) (fun hb7 H7 e7a => ?_) (fun hb7 H7 e7a => ?_)
        · have e7 := Ex.trans e6 e7a
          have r7 := rx_of e7
          have h6_made := e7a _ _ h6_made
          refine q_cut (M := (fun (σ8m : L2.St) (H8m : Hp) => σ8m = [some (.ref ap_tree), some (V.int p_cell), some (V.int p_shift), some (vs (m_law_grown_v5 p_cell p_tree p_shift)), some (V.bl (m_law_grown_v2 p_cell)), some (.ref p6_made)] ∧ Ex H H8m ∧ RX H H8m ∧ H8m p6_made = some (.dK (kd vs (m_law_grown_v8 p_cell p_tree p_shift))))) ?_ ?_
          · refine s_when (b := ((!(m_law_grown_v2 p_cell)) && (m_law_is_free (m_law_grown_v6 p_tree) (m_law_grown_v5 p_cell p_tree p_shift)))) (et_and (et_not (et_B (ev_var rfl))) (fun hc => (et_B (ev_call (ea_cons (ev_var rfl) (ea_cons (ev_var rfl) ea_nil)) (sv_of fun HC eC => ⟨_, _, _, rfl, ex_rd eC (Or.inl h6_made), (by walk_at "vside"), rfl⟩))))) (fun hb8 H8 e8a => ?_) (fun hb8 H8 e8a => ?_)
            · have e8 := Ex.trans e7 e8a
              have r8 := rx_of e8
              have h6_made := e8a _ _ h6_made
              refine s_putD (f := vs) (l := (m_law_grown_v6 p_tree)) (k := (m_law_grown_v5 p_cell p_tree p_shift)) (v := (m_law_line_by (p_cell / (405 : Int)) p_shift)) (ev_call (ea_cons (e_div (ev_var rfl) ev_c (by walk_at "vside")) (ea_cons (ev_var rfl) ea_nil)) (sv_of fun HC eC => ⟨_, _, rfl, rfl⟩)) (ev_var rfl) (ev_var rfl) h6_made (by walk_at "vside") fun H9 m9 => ?_
              have e9 := Mu.ex m9 e8 n6
              have r9 := rx_of e9
              have h6_made : H9 p6_made = some (.dK (kd vs (m_law_grown_v7 p_tree p_cell p_shift))) := Mu.at m9
              have hV8_0 : (m_law_grown_v8 p_cell p_tree p_shift) = (m_law_grown_v7 p_tree p_cell p_shift) := if_pos hb8
              exact ⟨rfl, e9, r9, (by rw [hV8_0]; exact h6_made)⟩
            · have e8 := Ex.trans e7 e8a
              have r8 := rx_of e8
              have h6_made := e8a _ _ h6_made
              have hV8_0 : (m_law_grown_v8 p_cell p_tree p_shift) = (m_law_grown_v6 p_tree) := if_neg (by rw [hb8]; exact Bool.false_ne_true)
              exact ⟨rfl, e8, r8, (by rw [hV8_0]; exact h6_made)⟩
          · intro σ8m H8m hq8m
            obtain ⟨rfl, e8m, r8m, h6_made⟩ := hq8m
            have gf5 : (m_law_grown_v5 p_cell p_tree p_shift).length ≤ 900 ∧ ∀ k ∈ dkeys (m_law_grown_v6 p_tree), k.length ≤ 900 := ⟨Nat.le_trans (grown_v5 hg p_cell p_shift).len (by decide), hg.le9⟩
            have gf5l := gf5.1
            have hV7_0 : (m_law_grown_v12 p_cell p_tree p_shift) = (m_law_grown_v8 p_cell p_tree p_shift) := if_pos hb7
            exact ⟨rfl, e8m, r8m, (by rw [hV7_0]; exact h6_made)⟩
        · have e7 := Ex.trans e6 e7a
          have r7 := rx_of e7
          have h6_made := e7a _ _ h6_made
          have gin := has_of_not hb7
          refine q_cut (M := (fun (σ10m : L2.St) (H10m : Hp) => σ10m = [some (.ref ap_tree), some (V.int p_cell), some (V.int p_shift), some (vs (m_law_grown_v5 p_cell p_tree p_shift)), some (V.bl (m_law_grown_v2 p_cell)), some (.ref p6_made)] ∧ Ex H H10m ∧ RX H H10m ∧ H10m p6_made = some (.dK (kd vs (m_law_grown_v11 p_cell p_tree p_shift))))) ?_ ?_
          · refine s_if (b := (decide (((p_cell / (135 : Int)) % (3 : Int)) = (0 : Int)))) (et_test (e_eqI (e_mod (e_div (ev_var rfl) ev_c (by walk_at "vside")) ev_c (by walk_at "vside")) ev_c)) (fun hb10 H10 e10a => ?_) (fun hb10 H10 e10a => ?_)
            · have e10 := Ex.trans e7 e10a
              have r10 := rx_of e10
              have h6_made := e10a _ _ h6_made
              refine s_popD (f := vs) (l := (m_law_grown_v6 p_tree)) (k := (m_law_grown_v5 p_cell p_tree p_shift)) [] (ev_var rfl) (ev_var rfl) h6_made (by walk_at "vside") fun H11 m11 => ?_
              have e11 := Mu.ex m11 e10 n6
              have r11 := rx_of e11
              have h6_made : H11 p6_made = some (.dK (kd vs (m_law_grown_v9 p_tree p_cell p_shift))) := Mu.at m11
              have hV10_0 : (m_law_grown_v11 p_cell p_tree p_shift) = (m_law_grown_v9 p_tree p_cell p_shift) := if_pos hb10
              exact ⟨rfl, e11, r11, (by rw [hV10_0]; exact h6_made)⟩
            · have e10 := Ex.trans e7 e10a
              have r10 := rx_of e10
              have h6_made := e10a _ _ h6_made
              refine s_putD (f := vs) (l := (m_law_grown_v6 p_tree)) (k := (m_law_grown_v5 p_cell p_tree p_shift)) (v := (m_law_line_by (p_cell / (405 : Int)) p_shift)) (ev_call (ea_cons (e_div (ev_var rfl) ev_c (by walk_at "vside")) (ea_cons (ev_var rfl) ea_nil)) (sv_of fun HC eC => ⟨_, _, rfl, rfl⟩)) (ev_var rfl) (ev_var rfl) h6_made (by walk_at "vside") fun H12 m12 => ?_
              have e12 := Mu.ex m12 e10 n6
              have r12 := rx_of e12
              have h6_made : H12 p6_made = some (.dK (kd vs (m_law_grown_v10 p_tree p_cell p_shift))) := Mu.at m12
              have hV10_0 : (m_law_grown_v11 p_cell p_tree p_shift) = (m_law_grown_v10 p_tree p_cell p_shift) := if_neg (by rw [hb10]; exact Bool.false_ne_true)
              exact ⟨rfl, e12, r12, (by rw [hV10_0]; exact h6_made)⟩
          · intro σ10m H10m hq10m
            obtain ⟨rfl, e10m, r10m, h6_made⟩ := hq10m
            have gf5 : (m_law_grown_v5 p_cell p_tree p_shift).length ≤ 900 ∧ ∀ k ∈ dkeys (m_law_grown_v6 p_tree), k.length ≤ 900 := ⟨Nat.le_trans (grown_v5 hg p_cell p_shift).len (by decide), hg.le9⟩
            have gf5l := gf5.1
            have hV7_0 : (m_law_grown_v12 p_cell p_tree p_shift) = (m_law_grown_v11 p_cell p_tree p_shift) := if_neg (by rw [hb7]; exact Bool.false_ne_true)
            exact ⟨rfl, e10m, r10m, (by rw [hV7_0]; exact h6_made)⟩
      · intro σ7m H7m hq7m
        obtain ⟨rfl, e7m, r7m, h6_made⟩ := hq7m
        have gf5 : (m_law_grown_v5 p_cell p_tree p_shift).length ≤ 900 ∧ ∀ k ∈ dkeys (m_law_grown_v6 p_tree), k.length ≤ 900 := ⟨Nat.le_trans (grown_v5 hg p_cell p_shift).len (by decide), hg.le9⟩
        have gf5l := gf5.1
        exact s_ret (ev_var rfl) fun H13 e13a => k0 _ _ n6 (Ex.trans e7m e13a) (e13a _ _ h6_made)
def sp_law_trees (K : PySem.W.Frag) : Sp := spT3 fun ws H v => ∃ (ap_script : Addr) (p_script : List Int), ws = [.ref ap_script] ∧ SqL K H ap_script (List.map V.int p_script) ∧ v = (kd vs (m_law_trees p_script).1, kd vs (m_law_trees p_script).2.1, kd vs (m_law_trees p_script).2.2)
theorem ok_law_trees {f : Addr} {fd : FuncData} (F : Fun K "_law_trees" "_law_trees" s_law_trees f fd) (z : Bt mg) (C_law_cell_at : Cal P w K mg base 1 "_law_cell_at" ["_law_script", "_law_k"] (sp_law_cell_at K)) (C_law_grown : Cal P w K mg base 4 "_law_grown" ["_law_tree", "_law_cell", "_law_shift"] (sp_law_grown K)) (C_law_line_by : Cal P w K mg base 1 "_law_line_by" ["_law_k", "_law_shift"] (sp_law_line_by K)) : FnOk P w K mg base CX0 5 f fd ["_law_script"] (sp_law_trees K) := by
  refine F.ok (k := 4) sc_law_trees (fun ws H Q E h => ?_) (fun cdv A outer s H ws Q E hr h => ?_)
  · obtain ⟨_, ⟨_, _, rfl, _⟩, _⟩ := h
    rfl
  · obtain ⟨_, ⟨ap_script, p_script, rfl, hSp_script, rfl⟩, k0⟩ := h
    have L_lTops := len_lTops
    have L_lSlx := len_lSlx
    have L_l_12c0f1fb := len_l_12c0f1fb
    have L_l_d27a1f11 := len_l_d27a1f11
    have gr1 := many1_in p_script
    have gr2 := many2_in p_script
    refine ⟨_, (pss_cons (ps_set (i := 1) sc_law_trees.nd rfl (Or.inl rfl) (pe_cal C_law_cell_at (hr.mono (by decide)) (by rfl) (pa_cons (pv 0) (pa_cons pe_int pa_nil))))
      (pss_cons (ps_set (i := 2) sc_law_trees.nd rfl (Or.inl rfl) (pe_cal C_law_cell_at (hr.mono (by decide)) (by rfl) (pa_cons (pv 0) (pa_cons pe_int pa_nil))))
      (pss_cons (ps_set (i := 3) sc_law_trees.nd rfl (Or.inl rfl) pe_dnewK)
      (pss_cons (ps_for PassesOwn.never rfl (pi_range1 (by rfl) z.z_range (pa_cons (pe_ix (ix_listK K) (pe_lst (pa_cons pe_int (pa_cons (pe_op op_mod (pv 2) pe_int) pa_nil))) (pe_op op_mod (pe_op op_fdiv (pv 2) pe_int) pe_int) (fun _ _ => rfl)) pa_nil)) (pg_name (i := 4) sc_law_trees.nd rfl (Or.inl rfl))
      (pss_one (ps_set (i := 3) sc_law_trees.nd rfl (Or.inl rfl) (pe_cal C_law_grown (hr.mono (by decide)) (by rfl) (pa_cons (pv 3) (pa_cons (pe_cal C_law_cell_at (hr.mono (by decide)) (by rfl) (pa_cons (pv 0) (pa_cons (pe_op op_add pe_int (pv 4)) pa_nil))) (pa_cons (pv 1) pa_nil)))))))
      (pss_cons (ps_for PassesOwn.never rfl (pi_range1 (by rfl) z.z_range (pa_cons (pe_ix (ix_listK K) (pe_lst (pa_cons pe_int (pa_cons pe_int (pa_cons pe_int (pa_cons pe_int (pa_cons pe_int (pa_cons pe_int (pa_cons pe_int (pa_cons pe_int (pa_cons pe_int (pa_cons pe_int (pa_cons pe_int (pa_cons pe_int (pa_cons pe_int (pa_cons pe_int (pa_cons pe_int (pa_cons pe_int pa_nil))))))))))))))))) (pe_op op_mod (pe_op op_fdiv (pv 2) pe_int) pe_int) (fun _ _ => rfl)) pa_nil)) (pg_name (i := 5) sc_law_trees.nd rfl (Or.inl rfl))
      (pss_cut (ps_if (pt_cmp (pc_dnotin (hu_of hr) (pe_op op_addT pe_str (pe_callTy call_str_int (by rfl) z.z_str (by decide +kernel) (pa_cons (pv 5) pa_nil))) (pv 3))) (pss_one (ps_dput (hu_of hr) (pv 3) (pe_op op_addT (pe_op op_addT pe_str (pe_callTy call_str_int (by rfl) z.z_str (by decide +kernel) (pa_cons (pv 5) pa_nil))) pe_str) (pe_cal C_law_line_by (hr.mono (by decide)) (by rfl) (pa_cons (pe_op op_mod (pv 5) pe_int) (pa_cons (pv 1) pa_nil))) rfl)) pss_nil)
      pss_nil))
      (pss_cons (ps_set (i := 6) sc_law_trees.nd rfl (Or.inl rfl) (pe_callTy call_dictD (by rfl) z.z_dict (by decide +kernel) (pa_cons (pv 3) pa_nil)))
      (pss_cons (ps_for PassesOwn.never rfl (pi_range1 (by rfl) z.z_range (pa_cons (pe_op op_mod (pe_cal C_law_cell_at (hr.mono (by decide)) (by rfl) (pa_cons (pv 0) (pa_cons pe_int pa_nil))) pe_int) pa_nil)) (pg_name (i := 4) sc_law_trees.nd rfl (Or.inl rfl))
      (pss_one (ps_set (i := 6) sc_law_trees.nd rfl (Or.inl rfl) (pe_cal C_law_grown (hr.mono (by decide)) (by rfl) (pa_cons (pv 6) (pa_cons (pe_cal C_law_cell_at (hr.mono (by decide)) (by rfl) (pa_cons (pv 0) (pa_cons (pe_op op_add pe_int (pv 4)) pa_nil))) (pa_cons (pv 1) pa_nil)))))))
      (pss_cons (ps_set (i := 7) sc_law_trees.nd rfl (Or.inl rfl) (pe_callTy call_dictD (by rfl) z.z_dict (by decide +kernel) (pa_cons (pv 3) pa_nil)))
      (pss_cons (ps_for PassesOwn.never rfl (pi_range1 (by rfl) z.z_range (pa_cons (pe_op op_mod (pe_cal C_law_cell_at (hr.mono (by decide)) (by rfl) (pa_cons (pv 0) (pa_cons pe_int pa_nil))) pe_int) pa_nil)) (pg_name (i := 4) sc_law_trees.nd rfl (Or.inl rfl))
      (pss_one (ps_set (i := 7) sc_law_trees.nd rfl (Or.inl rfl) (pe_cal C_law_grown (hr.mono (by decide)) (by rfl) (pa_cons (pv 7) (pa_cons (pe_cal C_law_cell_at (hr.mono (by decide)) (by rfl) (pa_cons (pv 0) (pa_cons (pe_op op_add pe_int (pv 4)) pa_nil))) (pa_cons (pv 1) pa_nil)))))))
      (pss_cons (ps_set (i := 8) sc_law_trees.nd rfl (Or.inl rfl) (pe_op op_mod (pe_op op_fdiv (pe_cal C_law_cell_at (hr.mono (by decide)) (by rfl) (pa_cons (pv 0) (pa_cons pe_int pa_nil))) pe_int) pe_int))
      (pss_cons (ps_for PassesOwn.never rfl (pi_range2 (by rfl) z.z_range (pa_cons (pv 8) (pa_cons (pe_op op_add (pv 8) (pe_op op_mul pe_int (pe_op op_mod (pe_op op_fdiv (pv 2) pe_int) pe_int))) pa_nil))) (pg_name (i := 5) sc_law_trees.nd rfl (Or.inl rfl))
      (pss_cons (ps_set (i := 9) sc_law_trees.nd rfl (Or.inl rfl) (pe_op op_addT (pe_op op_addT pe_str (pe_callTy call_str_int (by rfl) z.z_str (by decide +kernel) (pa_cons (pv 5) pa_nil))) pe_str))
      (pss_cut (ps_if (PW.pt (pw_and (pt_cmp (pc_din (hu_of hr) (pv 9) (pv 6))) (pw_and1 (pt_cmp (pc_din (hu_of hr) (pv 9) (pv 7)))))) (pss_cons (ps_dput (hu_of hr) (pv 6) (pv 9) pe_str rfl)
      (pss_one (ps_dput (hu_of hr) (pv 7) (pv 9) (pe_op op_addT pe_str (pe_callTy call_str_int (by rfl) z.z_str (by decide +kernel) (pa_cons (pe_op op_mod (pv 5) pe_int) pa_nil))) rfl))) pss_nil)
      pss_nil)))
      (pss_one (ps_ret (pe_tup (pa_cons (pv 3) (pa_cons (pv 6) (pa_cons (pv 7) pa_nil))))))))))))))))), ?_⟩
    refine q_asg (v := V.int (m_law_trees_v1 p_script)) (ev_is (ev_call (ea_cons (ev_var rfl) (ea_cons ev_c ea_nil)) (sv_of fun HC eC => ⟨_, _, _, rfl, ex_l eC (rx_l (RX.refl H) hSp_script), (by walk_at "vside"), rfl⟩)) rfl) fun H1 e1a => ?_
    have e1 := Ex.trans (Ex.refl H) e1a
    have r1 := rx_of e1
    have fm_law_trees_v1 : (m_law_trees_v1 p_script) = (m_law_cell_at p_script (0 : Int)) := rfl
    refine q_asg (v := V.int (m_law_trees_v2 p_script)) (ev_is (ev_call (ea_cons (ev_var rfl) (ea_cons ev_c ea_nil)) (sv_of fun HC eC => ⟨_, _, _, rfl, ex_l eC (rx_l r1 hSp_script), (by walk_at "vside"), rfl⟩)) rfl) fun H2 e2a => ?_
    have e2 := Ex.trans e1 e2a
    have r2 := rx_of e2
    have fm_law_trees_v2 : (m_law_trees_v2 p_script) = (m_law_cell_at p_script (1 : Int)) := rfl
    refine q_asgK (kvs := kd vs m_law_trees_v3) (ek_is k_new rfl) fun p3_elder H3 n3a e3a h3_elder => ?_
    have n3 := fresh_back e2 n3a
    have e3 := Ex.trans e2 e3a
    have r3 := rx_of e3
    refine q_loopR (R := Unit) (n := ([(0 : Int), ((m_law_trees_v2 p_script) % (7 : Int))].getD (((m_law_trees_v2 p_script) / (56 : Int)) % (2 : Int)).toNat 0)) (m_law_trees_step1 p_script) m_law_trees_v3 (fun (s1 : List (Tx × Tx)) (σ1 : L2.St) (H1L : Hp) => ∃ (j1_0 : Option V) (pM1_elder : Addr), σ1 = [some (.ref ap_script), some (V.int (m_law_trees_v1 p_script)), some (V.int (m_law_trees_v2 p_script)), some (.ref pM1_elder), j1_0, none, none, none, none, none] ∧ Ex H H1L ∧ RX H H1L ∧ H1L pM1_elder = some (.dK (kd vs s1)) ∧ H pM1_elder = none) (ea_cons (e_ixN (f := V.int) (l := [(0 : Int), ((m_law_trees_v2 p_script) % (7 : Int))]) 0 (el_lst (ea_cons ev_c (ea_cons (e_mod (ev_var rfl) ev_c (by walk_at "vside")) ea_nil)) (by simp)) (e_mod (e_div (ev_var rfl) ev_c (by walk_at "vside")) ev_c (by walk_at "vside")) (by walk_at "vside")) ea_nil) (by walk_at "vside") (fun H5 e5a => ⟨_, _, rfl, (Ex.trans e3 e5a), (rx_of (Ex.trans e3 e5a)), e5a _ _ h3_elder, n3⟩) ?_ ?_
    · intro Nx1 Bk1 i1 s1 y1 σ1 H1L hy1 hrun1 hq1 hnx1 hbk1 hrt1
      obtain ⟨j1_0, pM1_elder, rfl, e1L, r1L, hM1_elder, nM1_elder⟩ := hq1
      have hk1 := List.mem_range.mp (List.mem_of_getElem? hy1)
      have g1 := trees1 hrun1 hy1
      have kq1_0 : (m_law_trees_step1 p_script) s1 y1 = (Stp.go (m_law_trees_v4 s1 p_script y1)) := rfl
      refine s_asgK (kvs := kd vs (m_law_trees_v4 s1 p_script y1)) (ek_is (ek_call (ea_cons (ev_var rfl) (ea_cons (ev_call (ea_cons (ev_var rfl) (ea_cons (e_add ev_c (ev_var rfl)) ea_nil)) (sv_of fun HC eC => ⟨_, _, _, rfl, ex_l eC (rx_l r1L hSp_script), (by walk_at "vside"), rfl⟩)) (ea_cons (ev_var rfl) ea_nil))) (sk_of fun HC eC => ⟨_, _, _, _, rfl, ex_rd eC (Or.inl hM1_elder), (by walk_at "vside"), rfl⟩)) rfl) fun p4_elder H4 n4a e4a h4_elder => ?_
      have n4 := fresh_back e1L n4a
      have e4 := Ex.trans e1L e4a
      have r4 := rx_of e4
      exact hnx1 (m_law_trees_v4 s1 p_script y1) _ _ kq1_0 ⟨_, _, rfl, e4, r4, h4_elder, n4⟩
    · intro s1 σ1 H1L hr1 hq1
      obtain ⟨j1_0, pM1_elder, rfl, e1L, r1L, hM1_elder, nM1_elder⟩ := hq1
      obtain rfl : (m_law_trees_v5 p_script) = s1 := (outL_of hr1).symm
      refine q_loopR (R := Unit) (n := ([(0 : Int), (40 : Int), (0 : Int), (0 : Int), (0 : Int), (0 : Int), (170 : Int), (0 : Int), (0 : Int), (40 : Int), (0 : Int), (0 : Int), (0 : Int), (0 : Int), (0 : Int), (0 : Int)].getD (((m_law_trees_v2 p_script) / (7 : Int)) % (16 : Int)).toNat 0)) (m_law_trees_step2 p_script) (m_law_trees_v5 p_script) (fun (s2 : List (Tx × Tx)) (σ2 : L2.St) (H2L : Hp) => ∃ (j2_0 : Option V), σ2 = [some (.ref ap_script), some (V.int (m_law_trees_v1 p_script)), some (V.int (m_law_trees_v2 p_script)), some (.ref pM1_elder), j1_0, j2_0, none, none, none, none] ∧ Ex H H2L ∧ RX H H2L ∧ H2L pM1_elder = some (.dK (kd vs s2))) (ea_cons (e_ixN (f := V.int) (l := [(0 : Int), (40 : Int), (0 : Int), (0 : Int), (0 : Int), (0 : Int), (170 : Int), (0 : Int), (0 : Int), (40 : Int), (0 : Int), (0 : Int), (0 : Int), (0 : Int), (0 : Int), (0 : Int)]) 0 (el_lst (ea_cons ev_c (ea_cons ev_c (ea_cons ev_c (ea_cons ev_c (ea_cons ev_c (ea_cons ev_c (ea_cons ev_c (ea_cons ev_c (ea_cons ev_c (ea_cons ev_c (ea_cons ev_c (ea_cons ev_c (ea_cons ev_c (ea_cons ev_c (ea_cons ev_c (ea_cons ev_c ea_nil)))))))))))))))) (by simp)) (e_mod (e_div (ev_var rfl) ev_c (by walk_at "vside")) ev_c (by walk_at "vside")) (by walk_at "vside")) ea_nil) (by walk_at "vside") (fun H9 e9a => ⟨_, rfl, (Ex.trans e1L e9a), (rx_of (Ex.trans e1L e9a)), e9a _ _ hM1_elder⟩) ?_ ?_
      · intro Nx2 Bk2 i2 s2 y2 σ2 H2L hy2 hrun2 hq2 hnx2 hbk2 hrt2
        obtain ⟨j2_0, rfl, e2L, r2L, hM1_elder⟩ := hq2
        have hk2 := List.mem_range.mp (List.mem_of_getElem? hy2)
        have g2 := trees2 hrun2 hy2
        have gd2 := dec_len y2 (Nat.lt_of_lt_of_le g2.2 (by decide))
        have gl2 := small_log y2 (Nat.lt_of_lt_of_le g2.2 (by decide))
        have kq2_0 : (m_law_trees_step2 p_script) s2 y2 = (Stp.go (m_law_trees_v7 y2 s2 p_script)) := rfl
        refine q_cut (M := (fun (σ7m : L2.St) (H7m : Hp) => σ7m = [some (.ref ap_script), some (V.int (m_law_trees_v1 p_script)), some (V.int (m_law_trees_v2 p_script)), some (.ref pM1_elder), j1_0, some (V.int (y2 : Int)), none, none, none, none] ∧ Ex H H7m ∧ RX H H7m ∧ H7m pM1_elder = some (.dK (kd vs (m_law_trees_v7 y2 s2 p_script))))) ?_ ?_
        · refine s_when (b := (!dhas s2 (lTops ++ (dec (y2 : Int))))) (et_B (e_niD (f := vs) (l := s2) (k := (lTops ++ (dec (y2 : Int)))) (e_addT (ev_is (w := vs lTops) e_lit rfl) (e_strI (ev_var rfl) (by walk_at "vside")) (by walk_at "vside")) (ev_var rfl) (Or.inl hM1_elder))) (fun hb7 H7 e7a => ?_) (fun hb7 H7 e7a => ?_)
          · have e7 := Ex.trans e2L e7a
            have r7 := rx_of e7
            have hM1_elder := e7a _ _ hM1_elder
            refine s_putD (f := vs) (l := s2) (k := ((lTops ++ (dec (y2 : Int))) ++ lSlx)) (v := (m_law_line_by ((y2 : Int) % (3 : Int)) (m_law_trees_v1 p_script))) (ev_call (ea_cons (e_mod (ev_var rfl) ev_c (by walk_at "vside")) (ea_cons (ev_var rfl) ea_nil)) (sv_of fun HC eC => ⟨_, _, rfl, rfl⟩)) (ev_var rfl) (e_addT (e_addT (ev_is (w := vs lTops) e_lit rfl) (e_strI (ev_var rfl) (by walk_at "vside")) (by walk_at "vside")) (ev_is (w := vs lSlx) e_lit rfl) (by walk_at "vside")) hM1_elder (by walk_at "vside") fun H8 m8 => ?_
            have e8 := Mu.ex m8 e7 nM1_elder
            have r8 := rx_of e8
            have hM1_elder : H8 pM1_elder = some (.dK (kd vs (m_law_trees_v6 s2 y2 p_script))) := Mu.at m8
            have hV7_0 : (m_law_trees_v7 y2 s2 p_script) = (m_law_trees_v6 s2 y2 p_script) := if_pos hb7
            exact ⟨rfl, e8, r8, (by rw [hV7_0]; exact hM1_elder)⟩
          · have e7 := Ex.trans e2L e7a
            have r7 := rx_of e7
            have hM1_elder := e7a _ _ hM1_elder
            have hV7_0 : (m_law_trees_v7 y2 s2 p_script) = s2 := if_neg (by rw [hb7]; exact Bool.false_ne_true)
            exact ⟨rfl, e7, r7, (by rw [hV7_0]; exact hM1_elder)⟩
        · intro σ7m H7m hq7m
          obtain ⟨rfl, e7m, r7m, hM1_elder⟩ := hq7m
          have fm_law_trees_v1 : (m_law_trees_v1 p_script) = (m_law_cell_at p_script (0 : Int)) := rfl
          have fm_law_trees_v2 : (m_law_trees_v2 p_script) = (m_law_cell_at p_script (1 : Int)) := rfl
          exact hnx2 (m_law_trees_v7 y2 s2 p_script) _ _ kq2_0 ⟨_, rfl, e7m, r7m, hM1_elder⟩
      · intro s2 σ2 H2L hr2 hq2
        obtain ⟨j2_0, rfl, e2L, r2L, hM1_elder⟩ := hq2
        obtain rfl : (m_law_trees_v8 p_script) = s2 := (outL_of hr2).symm
        refine q_asgK (kvs := kd vs (m_law_trees_v9 p_script)) (ek_is (k_copy (f := vs) (l := (m_law_trees_v8 p_script)) (ev_var rfl) (Or.inl hM1_elder)) rfl) fun p11_one H11 n11a e11a h11_one => ?_
        have n11 := fresh_back e2L n11a
        have d_pM1_elder_p11_one := ne_of_none hM1_elder n11a
        have e11 := Ex.trans e2L e11a
        have r11 := rx_of e11
        have hM1_elder := e11a _ _ hM1_elder
        refine q_loopR (R := Unit) (n := ((m_law_cell_at p_script (2 : Int)) % (9 : Int))) (m_law_trees_step3 p_script) (m_law_trees_v9 p_script) (fun (s3 : List (Tx × Tx)) (σ3 : L2.St) (H3L : Hp) => ∃ (j3_0 : Option V) (pM3_one : Addr), σ3 = [some (.ref ap_script), some (V.int (m_law_trees_v1 p_script)), some (V.int (m_law_trees_v2 p_script)), some (.ref pM1_elder), j3_0, j2_0, some (.ref pM3_one), none, none, none] ∧ Ex H H3L ∧ RX H H3L ∧ H3L pM1_elder = some (.dK (kd vs (m_law_trees_v8 p_script))) ∧ H3L pM3_one = some (.dK (kd vs s3)) ∧ H pM3_one = none ∧ pM3_one ≠ pM1_elder) (ea_cons (e_mod (ev_call (ea_cons (ev_var rfl) (ea_cons ev_c ea_nil)) (sv_of fun HC eC => ⟨_, _, _, rfl, ex_l eC (rx_l r11 hSp_script), (by walk_at "vside"), rfl⟩)) ev_c (by walk_at "vside")) ea_nil) (by walk_at "vside") (fun H13 e13a => ⟨_, _, rfl, (Ex.trans e11 e13a), (rx_of (Ex.trans e11 e13a)), e13a _ _ hM1_elder, e13a _ _ h11_one, n11, (by first | exact d_p11_one_pM1_elder | exact Ne.symm d_pM1_elder_p11_one)⟩) ?_ ?_
        · intro Nx3 Bk3 i3 s3 y3 σ3 H3L hy3 hrun3 hq3 hnx3 hbk3 hrt3
          obtain ⟨j3_0, pM3_one, rfl, e3L, r3L, hM1_elder, hM3_one, nM3_one, d_pM3_one_pM1_elder⟩ := hq3
          have hk3 := List.mem_range.mp (List.mem_of_getElem? hy3)
          have g3 := trees3 p_script hrun3 hy3
          have kq3_0 : (m_law_trees_step3 p_script) s3 y3 = (Stp.go (m_law_trees_v10 s3 p_script y3)) := rfl
          refine s_asgK (kvs := kd vs (m_law_trees_v10 s3 p_script y3)) (ek_is (ek_call (ea_cons (ev_var rfl) (ea_cons (ev_call (ea_cons (ev_var rfl) (ea_cons (e_add ev_c (ev_var rfl)) ea_nil)) (sv_of fun HC eC => ⟨_, _, _, rfl, ex_l eC (rx_l r3L hSp_script), (by walk_at "vside"), rfl⟩)) (ea_cons (ev_var rfl) ea_nil))) (sk_of fun HC eC => ⟨_, _, _, _, rfl, ex_rd eC (Or.inl hM3_one), (by walk_at "vside"), rfl⟩)) rfl) fun p12_one H12 n12a e12a h12_one => ?_
          have n12 := fresh_back e3L n12a
          have d_pM1_elder_p12_one := ne_of_none hM1_elder n12a
          have e12 := Ex.trans e3L e12a
          have r12 := rx_of e12
          have hM1_elder := e12a _ _ hM1_elder
          exact hnx3 (m_law_trees_v10 s3 p_script y3) _ _ kq3_0 ⟨_, _, rfl, e12, r12, hM1_elder, h12_one, n12, (by first | exact d_p12_one_pM1_elder | exact Ne.symm d_pM1_elder_p12_one)⟩
        · intro s3 σ3 H3L hr3 hq3
          obtain ⟨j3_0, pM3_one, rfl, e3L, r3L, hM1_elder, hM3_one, nM3_one, d_pM3_one_pM1_elder⟩ := hq3
          obtain rfl : (m_law_trees_v11 p_script) = s3 := (outL_of hr3).symm
          refine q_asgK (kvs := kd vs (m_law_trees_v12 p_script)) (ek_is (k_copy (f := vs) (l := (m_law_trees_v8 p_script)) (ev_var rfl) (Or.inl hM1_elder)) rfl) fun p15_other H15 n15a e15a h15_other => ?_
          have n15 := fresh_back e3L n15a
          have d_pM1_elder_p15_other := ne_of_none hM1_elder n15a
          have d_pM3_one_p15_other := ne_of_none hM3_one n15a
          have e15 := Ex.trans e3L e15a
          have r15 := rx_of e15
          have hM1_elder := e15a _ _ hM1_elder
          have hM3_one := e15a _ _ hM3_one
          refine q_loopR (R := Unit) (n := ((m_law_cell_at p_script (3 : Int)) % (9 : Int))) (m_law_trees_step4 p_script) (m_law_trees_v12 p_script) (fun (s4 : List (Tx × Tx)) (σ4 : L2.St) (H4L : Hp) => ∃ (j4_0 : Option V) (pM4_other : Addr), σ4 = [some (.ref ap_script), some (V.int (m_law_trees_v1 p_script)), some (V.int (m_law_trees_v2 p_script)), some (.ref pM1_elder), j4_0, j2_0, some (.ref pM3_one), some (.ref pM4_other), none, none] ∧ Ex H H4L ∧ RX H H4L ∧ H4L pM1_elder = some (.dK (kd vs (m_law_trees_v8 p_script))) ∧ H4L pM3_one = some (.dK (kd vs (m_law_trees_v11 p_script))) ∧ H4L pM4_other = some (.dK (kd vs s4)) ∧ H pM4_other = none ∧ pM4_other ≠ pM1_elder ∧ pM4_other ≠ pM3_one) (ea_cons (e_mod (ev_call (ea_cons (ev_var rfl) (ea_cons ev_c ea_nil)) (sv_of fun HC eC => ⟨_, _, _, rfl, ex_l eC (rx_l r15 hSp_script), (by walk_at "vside"), rfl⟩)) ev_c (by walk_at "vside")) ea_nil) (by walk_at "vside") (fun H17 e17a => ⟨_, _, rfl, (Ex.trans e15 e17a), (rx_of (Ex.trans e15 e17a)), e17a _ _ hM1_elder, e17a _ _ hM3_one, e17a _ _ h15_other, n15, (by first | exact d_p15_other_pM1_elder | exact Ne.symm d_pM1_elder_p15_other), (by first | exact d_p15_other_pM3_one | exact Ne.symm d_pM3_one_p15_other)⟩) ?_ ?_
          · intro Nx4 Bk4 i4 s4 y4 σ4 H4L hy4 hrun4 hq4 hnx4 hbk4 hrt4
            obtain ⟨j4_0, pM4_other, rfl, e4L, r4L, hM1_elder, hM3_one, hM4_other, nM4_other, d_pM4_other_pM1_elder, d_pM4_other_pM3_one⟩ := hq4
            have hk4 := List.mem_range.mp (List.mem_of_getElem? hy4)
            have g4 := trees4 p_script hrun4 hy4
            have kq4_0 : (m_law_trees_step4 p_script) s4 y4 = (Stp.go (m_law_trees_v13 s4 p_script y4)) := rfl
            refine s_asgK (kvs := kd vs (m_law_trees_v13 s4 p_script y4)) (ek_is (ek_call (ea_cons (ev_var rfl) (ea_cons (ev_call (ea_cons (ev_var rfl) (ea_cons (e_add ev_c (ev_var rfl)) ea_nil)) (sv_of fun HC eC => ⟨_, _, _, rfl, ex_l eC (rx_l r4L hSp_script), (by walk_at "vside"), rfl⟩)) (ea_cons (ev_var rfl) ea_nil))) (sk_of fun HC eC => ⟨_, _, _, _, rfl, ex_rd eC (Or.inl hM4_other), (by walk_at "vside"), rfl⟩)) rfl) fun p16_other H16 n16a e16a h16_other => ?_
            have n16 := fresh_back e4L n16a
            have d_pM1_elder_p16_other := ne_of_none hM1_elder n16a
            have d_pM3_one_p16_other := ne_of_none hM3_one n16a
            have e16 := Ex.trans e4L e16a
            have r16 := rx_of e16
            have hM1_elder := e16a _ _ hM1_elder
            have hM3_one := e16a _ _ hM3_one
            exact hnx4 (m_law_trees_v13 s4 p_script y4) _ _ kq4_0 ⟨_, _, rfl, e16, r16, hM1_elder, hM3_one, h16_other, n16, (by first | exact d_p16_other_pM1_elder | exact Ne.symm d_pM1_elder_p16_other), (by first | exact d_p16_other_pM3_one | exact Ne.symm d_pM3_one_p16_other)⟩
          · intro s4 σ4 H4L hr4 hq4
            obtain ⟨j4_0, pM4_other, rfl, e4L, r4L, hM1_elder, hM3_one, hM4_other, nM4_other, d_pM4_other_pM1_elder, d_pM4_other_pM3_one⟩ := hq4
            obtain rfl : (m_law_trees_v14 p_script) = s4 := (outL_of hr4).symm
            refine q_asg (v := V.int (m_law_trees_v15 p_script)) (ev_is (e_mod (e_div (ev_call (ea_cons (ev_var rfl) (ea_cons ev_c ea_nil)) (sv_of fun HC eC => ⟨_, _, _, rfl, ex_l eC (rx_l r4L hSp_script), (by walk_at "vside"), rfl⟩)) ev_c (by walk_at "vside")) ev_c (by walk_at "vside")) rfl) fun H19 e19a => ?_
            have e19 := Ex.trans e4L e19a
            have r19 := rx_of e19
            have hM1_elder := e19a _ _ hM1_elder
            have hM3_one := e19a _ _ hM3_one
            have hM4_other := e19a _ _ hM4_other
            have fm_law_trees_v15 : (m_law_trees_v15 p_script) = (((m_law_cell_at p_script (2 : Int)) / (9 : Int)) % (150 : Int)) := rfl
            have g15 := trees_v15 p_script
            refine q_loopR2 (R := Unit) (m_law_trees_step5 p_script) ((m_law_trees_v11 p_script), (m_law_trees_v14 p_script)) (fun (s5 : List (Tx × Tx) × List (Tx × Tx)) (σ5 : L2.St) (H5L : Hp) => ∃ (j5_0 j5_1 : Option V), σ5 = [some (.ref ap_script), some (V.int (m_law_trees_v1 p_script)), some (V.int (m_law_trees_v2 p_script)), some (.ref pM1_elder), j4_0, j5_0, some (.ref pM3_one), some (.ref pM4_other), some (V.int (m_law_trees_v15 p_script)), j5_1] ∧ Ex H H5L ∧ RX H H5L ∧ H5L pM1_elder = some (.dK (kd vs (m_law_trees_v8 p_script))) ∧ H5L pM3_one = some (.dK (kd vs s5.1)) ∧ H5L pM4_other = some (.dK (kd vs s5.2))) (ea_cons (ev_var rfl) (ea_cons (e_add (ev_var rfl) (e_mul ev_c (e_mod (e_div (ev_var rfl) ev_c (by walk_at "vside")) ev_c (by walk_at "vside")) (by first | exact Or.inl (by walk_at "vside") | exact Or.inr (by walk_at "vside")))) ea_nil)) (by walk_at "vside") (fun H24 e24a => ⟨_, _, rfl, (Ex.trans e19 e24a), (rx_of (Ex.trans e19 e24a)), e24a _ _ hM1_elder, e24a _ _ hM3_one, e24a _ _ hM4_other⟩) ?_ ?_
            · intro Nx5 Bk5 i5 s5 y5 σ5 H5L hy5 hrun5 hq5 hnx5 hbk5 hrt5
              obtain ⟨j5_0, j5_1, rfl, e5L, r5L, hM1_elder, hM3_one, hM4_other⟩ := hq5
              have hk5 := List.mem_range.mp (List.mem_of_getElem? hy5)
              have g5 := trees5 hrun5
              have gd5 := trees_dec p_script hk5
              have gd6 := right_two ((m_law_trees_v15 p_script) + (y5 : Int))
              have kq5_0 : (m_law_trees_step5 p_script) s5 y5 = (Stp.go ((m_law_trees_v19 y5 p_script s5), (m_law_trees_v20 y5 p_script s5))) := rfl
              refine q_asg (v := vs (m_law_trees_v16 y5 p_script)) (ev_is (e_addT (e_addT (ev_is (w := vs lTops) e_lit rfl) (e_strI (ev_var rfl) (by walk_at "vside")) (by walk_at "vside")) (ev_is (w := vs lSlx) e_lit rfl) (by walk_at "vside")) rfl) fun H20 e20a => ?_
              have e20 := Ex.trans e5L e20a
              have r20 := rx_of e20
              have hM1_elder := e20a _ _ hM1_elder
              have hM3_one := e20a _ _ hM3_one
              have hM4_other := e20a _ _ hM4_other
              have fm_law_trees_v16 : List.length (m_law_trees_v16 y5 p_script) = List.length (((lTops ++ (dec ((m_law_trees_v15 p_script) + (y5 : Int)))) ++ lSlx)) := rfl
              refine q_cut (M := (fun (σ21m : L2.St) (H21m : Hp) => σ21m = [some (.ref ap_script), some (V.int (m_law_trees_v1 p_script)), some (V.int (m_law_trees_v2 p_script)), some (.ref pM1_elder), j4_0, some (V.int ((m_law_trees_v15 p_script) + (y5 : Int))), some (.ref pM3_one), some (.ref pM4_other), some (V.int (m_law_trees_v15 p_script)), some (vs (m_law_trees_v16 y5 p_script))] ∧ Ex H H21m ∧ RX H H21m ∧ H21m pM1_elder = some (.dK (kd vs (m_law_trees_v8 p_script))) ∧ H21m pM3_one = some (.dK (kd vs (m_law_trees_v19 y5 p_script s5))) ∧ H21m pM4_other = some (.dK (kd vs (m_law_trees_v20 y5 p_script s5))))) ?_ ?_
              · refine s_when (b := ((dhas s5.1 (m_law_trees_v16 y5 p_script)) && (dhas s5.2 (m_law_trees_v16 y5 p_script)))) (et_and (et_B (e_inD (f := vs) (l := s5.1) (k := (m_law_trees_v16 y5 p_script)) (ev_var rfl) (ev_var rfl) (Or.inl hM3_one))) (fun hc => (et_B (e_inD (f := vs) (l := s5.2) (k := (m_law_trees_v16 y5 p_script)) (ev_var rfl) (ev_var rfl) (Or.inl hM4_other))))) (fun hb21 H21 e21a => ?_) (fun hb21 H21 e21a => ?_)
                · have e21 := Ex.trans e20 e21a
                  have r21 := rx_of e21
                  have hM1_elder := e21a _ _ hM1_elder
                  have hM3_one := e21a _ _ hM3_one
                  have hM4_other := e21a _ _ hM4_other
                  refine q_putD (f := vs) (l := s5.1) (k := (m_law_trees_v16 y5 p_script)) (v := l_12c0f1fb) (ev_is (w := vs l_12c0f1fb) e_lit rfl) (ev_var rfl) (ev_var rfl) hM3_one (by walk_at "vside") fun H22 m22 => ?_
                  have e22 := Mu.ex m22 e21 nM3_one
                  have r22 := rx_of e22
                  have hM1_elder := Mu.keep m22 (by first | exact d_pM1_elder_pM3_one | exact Ne.symm d_pM3_one_pM1_elder) hM1_elder
                  have hM4_other := Mu.keep m22 (by first | exact d_pM4_other_pM3_one | exact Ne.symm d_pM3_one_pM4_other) hM4_other
                  have hM3_one : H22 pM3_one = some (.dK (kd vs (m_law_trees_v17 s5 y5 p_script))) := Mu.at m22
                  refine s_putD (f := vs) (l := s5.2) (k := (m_law_trees_v16 y5 p_script)) (v := (l_d27a1f11 ++ (dec (((m_law_trees_v15 p_script) + (y5 : Int)) % (2 : Int))))) (e_addT (ev_is (w := vs l_d27a1f11) e_lit rfl) (e_strI (e_mod (ev_var rfl) ev_c (by walk_at "vside")) (by walk_at "vside")) (by walk_at "vside")) (ev_var rfl) (ev_var rfl) hM4_other (by walk_at "vside") fun H23 m23 => ?_
                  have e23 := Mu.ex m23 e22 nM4_other
                  have r23 := rx_of e23
                  have hM1_elder := Mu.keep m23 (by first | exact d_pM1_elder_pM4_other | exact Ne.symm d_pM4_other_pM1_elder) hM1_elder
                  have hM3_one := Mu.keep m23 (by first | exact d_pM3_one_pM4_other | exact Ne.symm d_pM4_other_pM3_one) hM3_one
                  have hM4_other : H23 pM4_other = some (.dK (kd vs (m_law_trees_v18 s5 y5 p_script))) := Mu.at m23
                  have hV21_0 : (m_law_trees_v19 y5 p_script s5) = (m_law_trees_v17 s5 y5 p_script) := if_pos hb21
                  have hV21_1 : (m_law_trees_v20 y5 p_script s5) = (m_law_trees_v18 s5 y5 p_script) := if_pos hb21
                  exact ⟨rfl, e23, r23, hM1_elder, (by rw [hV21_0]; exact hM3_one), (by rw [hV21_1]; exact hM4_other)⟩
                · have e21 := Ex.trans e20 e21a
                  have r21 := rx_of e21
                  have hM1_elder := e21a _ _ hM1_elder
                  have hM3_one := e21a _ _ hM3_one
                  have hM4_other := e21a _ _ hM4_other
                  have hV21_0 : (m_law_trees_v19 y5 p_script s5) = s5.1 := if_neg (by rw [hb21]; exact Bool.false_ne_true)
                  have hV21_1 : (m_law_trees_v20 y5 p_script s5) = s5.2 := if_neg (by rw [hb21]; exact Bool.false_ne_true)
                  exact ⟨rfl, e21, r21, hM1_elder, (by rw [hV21_0]; exact hM3_one), (by rw [hV21_1]; exact hM4_other)⟩
              · intro σ21m H21m hq21m
                obtain ⟨rfl, e21m, r21m, hM1_elder, hM3_one, hM4_other⟩ := hq21m
                have fm_law_trees_v1 : (m_law_trees_v1 p_script) = (m_law_cell_at p_script (0 : Int)) := rfl
                have fm_law_trees_v2 : (m_law_trees_v2 p_script) = (m_law_cell_at p_script (1 : Int)) := rfl
                have fm_law_trees_v15 : (m_law_trees_v15 p_script) = (((m_law_cell_at p_script (2 : Int)) / (9 : Int)) % (150 : Int)) := rfl
                have g15 := trees_v15 p_script
                have fm_law_trees_v16 : List.length (m_law_trees_v16 y5 p_script) = List.length (((lTops ++ (dec ((m_law_trees_v15 p_script) + (y5 : Int)))) ++ lSlx)) := rfl
                exact hnx5 ((m_law_trees_v19 y5 p_script s5), (m_law_trees_v20 y5 p_script s5)) _ _ kq5_0 ⟨_, _, rfl, e21m, r21m, hM1_elder, hM3_one, hM4_other⟩
            · intro s5 σ5 H5L hr5 hq5
              obtain ⟨j5_0, j5_1, rfl, e5L, r5L, hM1_elder, hM3_one, hM4_other⟩ := hq5
              obtain rfl : (m_law_trees_v21 p_script) = s5 := (outL_of hr5).symm
              exact s_retU (eu_tup (ea_cons (ev_var rfl) (ea_cons (ev_var rfl) (ea_cons (ev_var rfl) ea_nil))) (by simp)) fun pR H26 nR e26a hR => k0 pR pM1_elder pM3_one pM4_other _ (fresh_back e5L nR) nM1_elder nM3_one nM4_other (by first | exact d_pM1_elder_pM3_one | exact Ne.symm d_pM3_one_pM1_elder) (by first | exact d_pM1_elder_pM4_other | exact Ne.symm d_pM4_other_pM1_elder) (by first | exact d_pM3_one_pM4_other | exact Ne.symm d_pM4_other_pM3_one) (Ex.trans e5L e26a) hR (e26a _ _ hM1_elder) (e26a _ _ hM3_one) (e26a _ _ hM4_other)
def sp_law_at (K : PySem.W.Frag) : Sp := spP fun ws H v => ∃ (p_was : Option Tx) (p_left : Option Tx) (p_right : Option Tx), ws = [vo p_was, vo p_left, vo p_right] ∧ v = vo (m_law_at p_was p_left p_right)
theorem ok_law_at {f : Addr} {fd : FuncData} (F : Fun K "_law_at" "_law_at" s_law_at f fd) (z : Bt mg)  : FnOk P w K mg base CX0 1 f fd ["_law_was", "_law_left", "_law_right"] (sp_law_at K) := by
  refine F.ok (k := 0) sc_law_at (fun ws H Q E h => ?_) (fun cdv A outer s H ws Q E hr h => ?_)
  · obtain ⟨_, ⟨_, _, _, rfl, _⟩, _⟩ := h
    rfl
  · obtain ⟨_, ⟨p_was, p_left, p_right, rfl, rfl⟩, k0⟩ := h
    refine ⟨_, (pss_cons (ps_if (PW.pt (pw_or (pt_cmpR op_eq (pv 1) (pv 2) (nomark _)) (pw_or1 (pt_cmpR op_eq (pv 2) (pv 0) (nomark _))))) (pss_one (ps_ret (pv 1))) pss_nil)
      (pss_one (ps_ret (pv 2)))), ?_⟩
    refine q_when (b := ((decide (p_left = p_right)) || (decide (p_right = p_was)))) (et_or (et_test (e_eqOO (x := p_left) (y := p_right) (ev_var rfl) (ev_var rfl))) (fun hc => (et_test (e_eqOO (x := p_right) (y := p_was) (ev_var rfl) (ev_var rfl))))) (fun hb1 H1 e1a => ?_) (fun hb1 H1 e1a => ?_)
    · have e1 := Ex.trans (Ex.refl H) e1a
      have r1 := rx_of e1
      have k1a := ret_T k0 hb1
      exact s_ret (ev_var rfl) fun H2 e2a => (RetV.go k1a (Ex.trans e1 e2a))
    · have e1 := Ex.trans (Ex.refl H) e1a
      have r1 := rx_of e1
      have k2b := ret_F k0 hb1
      exact s_ret (ev_var rfl) fun H3 e3a => (RetV.go k2b (Ex.trans e1 e3a))
def sp_law_splits (K : PySem.W.Frag) : Sp := spP fun ws H v => ∃ (p_was : Option Tx) (p_left : Option Tx) (p_right : Option Tx), ws = [vo p_was, vo p_left, vo p_right] ∧ v = V.bl (m_law_splits p_was p_left p_right)
theorem ok_law_splits {f : Addr} {fd : FuncData} (F : Fun K "_law_splits" "_law_splits" s_law_splits f fd) (z : Bt mg)  : FnOk P w K mg base CX0 1 f fd ["_law_was", "_law_left", "_law_right"] (sp_law_splits K) := by
  refine F.ok (k := 0) sc_law_splits (fun ws H Q E h => ?_) (fun cdv A outer s H ws Q E hr h => ?_)
  · obtain ⟨_, ⟨_, _, _, rfl, _⟩, _⟩ := h
    rfl
  · obtain ⟨_, ⟨p_was, p_left, p_right, rfl, rfl⟩, k0⟩ := h
    refine ⟨_, (pss_one (ps_ret (pe_and (pe_cmpR op_ne (pv 1) (pv 2) (nomark _)) (pe_and (pe_cmpR op_ne (pv 1) (pv 0) (nomark _)) (pe_one (pe_cmpR op_ne (pv 2) (pv 0) (nomark _))))))), ?_⟩
    exact s_ret (ev_andV (e_neOO (x := p_left) (y := p_right) (ev_var rfl) (ev_var rfl)) (fun hc => (ev_andV (e_neOO (x := p_left) (y := p_was) (ev_var rfl) (ev_var rfl)) (fun hc => (e_neOO (x := p_right) (y := p_was) (ev_var rfl) (ev_var rfl)))))) fun H1 e1a => (RetV.go k0 (Ex.trans (Ex.refl H) e1a))
def sp_law_uppers (K : PySem.W.Frag) : Sp := spN fun ws H v => ∃ (p_path : Tx), ws = [vs p_path] ∧ (p_path.length ≤ 900) ∧ v = List.map vs (m_law_uppers p_path)
theorem ok_law_uppers {f : Addr} {fd : FuncData} (F : Fun K "_law_uppers" "_law_uppers" s_law_uppers f fd) (z : Bt mg)  : FnOk P w K mg base CX0 1 f fd ["_law_path"] (sp_law_uppers K) := by
  refine F.ok (k := 0) sc_law_uppers (fun ws H Q E h => ?_) (fun cdv A outer s H ws Q E hr h => ?_)
  · obtain ⟨_, ⟨_, rfl, _⟩, _⟩ := h
    rfl
  · obtain ⟨_, ⟨p_path, rfl, hpre, rfl⟩, k0⟩ := h
    have L_lSl := len_lSl
    refine ⟨_, (pss_one (ps_ret (pe_lc (own := [("_law_k", 1)]) (g := gName 1) rfl sc_law_uppers.nd (pi_range1 (by rfl) z.z_range (pa_cons (pe_callB call_lenT (by rfl) z.z_len PySem.boot_len (pa_cons (pv 0) pa_nil)) pa_nil)) (blkOk_by (own := [("_law_k", 1)]) (N := ["_law_path", "_law_k"]) (sc := defScope s_law_uppers) (by decide +kernel)) (fun _ _ _ _ _ => pg_name (i := 1) sc_law_uppers.nd rfl (Or.inl rfl)) (fun _ _ _ _ _ => pts_one (pt_cmpR op_eq (pe_ix ix_str (pv 0) (pv 1) (fun _ _ => rfl)) pe_str (nomark _))) (fun _ _ _ _ _ => (pe_slice sl_str (pv 0) po_none (po_some (pv 1))))))), ?_⟩
    exact s_retL (l_filR (f := vs) (fun k0 : Nat => (decide ([p_path.getD (k0 : Int).toNat 0] = lSl))) (fun k0 : Nat => (cutG p_path none (some (k0 : Int)))) (ea_cons (e_lenT (ev_var rfl) (by walk_at "vside")) ea_nil) (by walk_at "vside") (fun k0 hk => (et_test (e_eqT (e_ixS (ev_var rfl) (ev_var rfl) (by walk_at "vside")) (ev_is (w := vs lSl) e_lit rfl)))) (fun k0 hk hc => (e_slS (ev_var rfl) eo_none (eo_some (ev_var rfl)) (by walk_at "vside")))) fun pR H1 nR e1a hR => RetL.go k0 (Ex.refl H) nR e1a hR
def sp_law_places (K : PySem.W.Frag) : Sp := spN fun ws H v => ∃ (ap_elder : Addr) (p_elder : List (Tx × Tx)) (ap_one : Addr) (p_one : List (Tx × Tx)) (ap_other : Addr) (p_other : List (Tx × Tx)), ws = [.ref ap_elder, .ref ap_one, .ref ap_other] ∧ Rd H ap_elder (.dK (kd vs p_elder)) ∧ Rd H ap_one (.dK (kd vs p_one)) ∧ Rd H ap_other (.dK (kd vs p_other)) ∧ (P4 p_elder p_one p_other) ∧ v = List.map vs (m_law_places p_elder p_one p_other)
theorem ok_law_places {f : Addr} {fd : FuncData} (F : Fun K "_law_places" "_law_places" s_law_places f fd) (z : Bt mg) (C_law_splits : Cal P w K mg base 1 "_law_splits" ["_law_was", "_law_left", "_law_right"] (sp_law_splits K)) (C_law_at : Cal P w K mg base 1 "_law_at" ["_law_was", "_law_left", "_law_right"] (sp_law_at K)) (C_law_uppers : Cal P w K mg base 1 "_law_uppers" ["_law_path"] (sp_law_uppers K)) : FnOk P w K mg base CX0 2 f fd ["_law_elder", "_law_one", "_law_other"] (sp_law_places K) := by
  refine F.ok (k := 1) sc_law_places (fun ws H Q E h => ?_) (fun cdv A outer s H ws Q E hr h => ?_)
  · obtain ⟨_, ⟨_, _, _, _, _, _, rfl, _⟩, _⟩ := h
    rfl
  · obtain ⟨_, ⟨ap_elder, p_elder, ap_one, p_one, ap_other, p_other, rfl, hSp_elder, hSp_one, hSp_other, hpre, rfl⟩, k0⟩ := h
    have hl := hpre.1.2
    have hl4 := hpre.2
    have gk1 := dkeys_len p_elder
    have gk2 := dkeys_len p_one
    have gk3 := dkeys_len p_other
    have gun := uniT_len (((dkeys p_elder) ++ (dkeys p_one)) ++ (dkeys p_other)) []
    have gpl := pl_len hpre
    refine ⟨_, (pss_cons (ps_set (i := 3) sc_law_places.nd rfl (Or.inl rfl) pe_dnewK)
      (pss_cons (ps_set (i := 4) sc_law_places.nd rfl (Or.inl rfl) pe_dnewK)
      (pss_cons (ps_for PassesOwn.never rfl (pi_listK K (pe_callB (call_srtM rfl) (by rfl) z.z_sorted (by decide +kernel) (pa_cons (pe_callTy (call_setL rfl) (by rfl) z.z_set (by decide +kernel) (pa_cons (pe_op op_cat (pe_op op_cat (pe_callTy (call_listDK rfl) (by rfl) z.z_list (by decide +kernel) (pa_cons (pv 0) pa_nil)) (pe_callTy (call_listDK rfl) (by rfl) z.z_list (by decide +kernel) (pa_cons (pv 1) pa_nil))) (pe_callTy (call_listDK rfl) (by rfl) z.z_list (by decide +kernel) (pa_cons (pv 2) pa_nil))) pa_nil)) pa_nil))) (pg_name (i := 5) sc_law_places.nd rfl (Or.inl rfl))
      (pss_cut (ps_if (pt_val (pe_cal C_law_splits (hr.mono (by decide)) (by rfl) (pa_cons (pe_dget1 (hu_of hr) (pv 0) (pv 5) ⟨rfl, rfl, rfl, rfl⟩) (pa_cons (pe_dget1 (hu_of hr) (pv 1) (pv 5) ⟨rfl, rfl, rfl, rfl⟩) (pa_cons (pe_dget1 (hu_of hr) (pv 2) (pv 5) ⟨rfl, rfl, rfl, rfl⟩) pa_nil))))) (pss_one (ps_dput (hu_of hr) (pv 4) (pv 5) pe_bl rfl)) (pss_cut (ps_if (pt_cmpR op_notN1 (pe_cal C_law_at (hr.mono (by decide)) (by rfl) (pa_cons (pe_dget1 (hu_of hr) (pv 0) (pv 5) ⟨rfl, rfl, rfl, rfl⟩) (pa_cons (pe_dget1 (hu_of hr) (pv 1) (pv 5) ⟨rfl, rfl, rfl, rfl⟩) (pa_cons (pe_dget1 (hu_of hr) (pv 2) (pv 5) ⟨rfl, rfl, rfl, rfl⟩) pa_nil)))) pe_non (nomark _)) (pss_one (ps_dput (hu_of hr) (pv 3) (pv 5) pe_bl rfl)) pss_nil)
      pss_nil))
      pss_nil))
      (pss_cons (ps_may (ps_for PassesOwn.never rfl (pi_keys (pv 3)) (pg_name (i := 6) sc_law_places.nd rfl (Or.inl rfl))
      (pss_cons (ps_for PassesOwn.never rfl (pi_listK K (pe_cal C_law_uppers (hr.mono (by decide)) (by rfl) (pa_cons (pv 6) pa_nil))) (pg_name (i := 7) sc_law_places.nd rfl (Or.inl rfl))
      (pss_cut (ps_if (pt_cmp (pc_din (hu_of hr) (pv 7) (pv 3))) (pss_cons (ps_dput (hu_of hr) (pv 4) (pv 7) pe_bl rfl)
      (pss_one (ps_dput (hu_of hr) (pv 4) (pv 6) pe_bl rfl))) pss_nil)
      pss_nil))
      pss_nil)))
      (pss_one (ps_ret (pe_callB (call_srtD rfl) (by rfl) z.z_sorted (by decide +kernel) (pa_cons (pv 4) pa_nil)))))))), ?_⟩
    refine q_asgK (kvs := kd V.bl m_law_places_v1) (ek_is k_new rfl) fun p1_made H1 n1a e1a h1_made => ?_
    have n1 := fresh_back (Ex.refl H) n1a
    have e1 := Ex.trans (Ex.refl H) e1a
    have r1 := rx_of e1
    refine q_asgK (kvs := kd V.bl m_law_places_v2) (ek_is k_new rfl) fun p2_places_here H2 n2a e2a h2_places_here => ?_
    have n2 := fresh_back e1 n2a
    have d_p1_made_p2_places_here := ne_of_none h1_made n2a
    have e2 := Ex.trans e1 e2a
    have r2 := rx_of e2
    have h1_made := e2a _ _ h1_made
    refine q_loopN (R := Unit) (f := vs) (l := (srt (uniT [] (((dkeys p_elder) ++ (dkeys p_one)) ++ (dkeys p_other))))) (m_law_places_step1 p_elder p_one p_other) (m_law_places_v1, m_law_places_v2) (fun pN1 => (fun (s1 : List (Tx × Bool) × List (Tx × Bool)) (σ1 : L2.St) (H1L : Hp) => ∃ (j1_0 : Option V), σ1 = [some (.ref ap_elder), some (.ref ap_one), some (.ref ap_other), some (.ref p1_made), some (.ref p2_places_here), j1_0, none, none] ∧ Ex H H1L ∧ RX H H1L ∧ H1L p1_made = some (.dK (kd V.bl s1.1)) ∧ H1L p2_places_here = some (.dK (kd V.bl s1.2)) ∧ H1L pN1 = some (.lst (List.map vs (srt (uniT [] (((dkeys p_elder) ++ (dkeys p_one)) ++ (dkeys p_other)))))))) (l_srtS (l := (uniT [] (((dkeys p_elder) ++ (dkeys p_one)) ++ (dkeys p_other)))) (s_setL (l := (((dkeys p_elder) ++ (dkeys p_one)) ++ (dkeys p_other))) (l_catNN (g := vs) (m1 := ((dkeys p_elder) ++ (dkeys p_one))) (m2 := (dkeys p_other)) (l_catNN (g := vs) (m1 := (dkeys p_elder)) (m2 := (dkeys p_one)) (l_keysD (f := vs) (l := p_elder) (ev_var rfl) (r2 _ _ hSp_elder)) (l_keysD (f := vs) (l := p_one) (ev_var rfl) (r2 _ _ hSp_one)) (by walk_at "vside")) (l_keysD (f := vs) (l := p_other) (ev_var rfl) (r2 _ _ hSp_other)) (by walk_at "vside")) (by walk_at "vside"))) (fun pN1 H7 nN1 e7a hN1 => ⟨_, rfl, (Ex.trans e2 e7a), (rx_of (Ex.trans e2 e7a)), e7a _ _ h1_made, e7a _ _ h2_places_here, hN1⟩) (fun pN1 s σ H hq => by obtain ⟨j1_0, rfl, e1L, r1L, h1_made, h2_places_here, hNL1⟩ := hq; exact sq_of hNL1) (fun pN1 nNa1 => ?_) (fun pN1 nNa1 => ?_)
    · have nN1 := rx_free r2 nNa1
      have d_p1_made_pN1 := ne_of_none h1_made nNa1
      have d_p2_places_here_pN1 := ne_of_none h2_places_here nNa1
      intro Nx1 Bk1 i1 s1 y1 σ1 H1L hy1 hrun1 hq1 hnx1 hbk1 hrt1
      obtain ⟨j1_0, rfl, e1L, r1L, h1_made, h2_places_here, hNL1⟩ := hq1
      have hm1 := List.mem_of_getElem? hy1
      have hlt1 := (List.getElem?_eq_some_iff.mp hy1).1
      have g1 := pl_loop1 hpre hrun1 hy1
      have kq1_0 : (m_law_places_step1 p_elder p_one p_other) s1 y1 = (Stp.go ((m_law_places_v6 p_elder y1 p_one p_other s1), (m_law_places_v7 p_elder y1 p_one p_other s1))) := rfl
      refine q_cut (M := (fun (σ3m : L2.St) (H3m : Hp) => σ3m = [some (.ref ap_elder), some (.ref ap_one), some (.ref ap_other), some (.ref p1_made), some (.ref p2_places_here), some (vs y1), none, none] ∧ Ex H H3m ∧ RX H H3m ∧ H3m p1_made = some (.dK (kd V.bl (m_law_places_v6 p_elder y1 p_one p_other s1))) ∧ H3m p2_places_here = some (.dK (kd V.bl (m_law_places_v7 p_elder y1 p_one p_other s1))) ∧ H3m pN1 = some (.lst (List.map vs (srt (uniT [] (((dkeys p_elder) ++ (dkeys p_one)) ++ (dkeys p_other)))))))) ?_ ?_
      · refine s_if (b := (m_law_splits (dget p_elder y1) (dget p_one y1) (dget p_other y1))) (et_B (ev_call (ea_cons (e_get1 (l := p_elder) (k := y1) (ev_var rfl) (ev_var rfl) (r1L _ _ hSp_elder)) (ea_cons (e_get1 (l := p_one) (k := y1) (ev_var rfl) (ev_var rfl) (r1L _ _ hSp_one)) (ea_cons (e_get1 (l := p_other) (k := y1) (ev_var rfl) (ev_var rfl) (r1L _ _ hSp_other)) ea_nil))) (sv_of fun HC eC => ⟨_, _, _, rfl, rfl⟩))) (fun hb3 H3 e3a => ?_) (fun hb3 H3 e3a => ?_)
        · have e3 := Ex.trans e1L e3a
          have r3 := rx_of e3
          have h1_made := e3a _ _ h1_made
          have h2_places_here := e3a _ _ h2_places_here
          have hNL1 := e3a _ _ hNL1
          refine s_putD (f := V.bl) (l := s1.2) (k := y1) (v := true) ev_c (ev_var rfl) (ev_var rfl) h2_places_here (by walk_at "vside") fun H4 m4 => ?_
          have e4 := Mu.ex m4 e3 n2
          have r4 := rx_of e4
          have h1_made := Mu.keep m4 (by first | exact d_p1_made_p2_places_here | exact Ne.symm d_p2_places_here_p1_made) h1_made
          have hNL1 := Mu.keep m4 (by first | exact d_pN1_p2_places_here | exact Ne.symm d_p2_places_here_pN1) hNL1
          have h2_places_here : H4 p2_places_here = some (.dK (kd V.bl (m_law_places_v3 s1 y1))) := Mu.at m4
          have hV3_0 : (m_law_places_v6 p_elder y1 p_one p_other s1) = s1.1 := if_pos hb3
          have hV3_1 : (m_law_places_v7 p_elder y1 p_one p_other s1) = (m_law_places_v3 s1 y1) := if_pos hb3
          exact ⟨rfl, e4, r4, (by rw [hV3_0]; exact h1_made), (by rw [hV3_1]; exact h2_places_here), hNL1⟩
        · have e3 := Ex.trans e1L e3a
          have r3 := rx_of e3
          have h1_made := e3a _ _ h1_made
          have h2_places_here := e3a _ _ h2_places_here
          have hNL1 := e3a _ _ hNL1
          refine q_cut (M := (fun (σ5m : L2.St) (H5m : Hp) => σ5m = [some (.ref ap_elder), some (.ref ap_one), some (.ref ap_other), some (.ref p1_made), some (.ref p2_places_here), some (vs y1), none, none] ∧ Ex H H5m ∧ RX H H5m ∧ H5m p1_made = some (.dK (kd V.bl (m_law_places_v5 p_elder y1 p_one p_other s1))) ∧ H5m p2_places_here = some (.dK (kd V.bl s1.2)) ∧ H5m pN1 = some (.lst (List.map vs (srt (uniT [] (((dkeys p_elder) ++ (dkeys p_one)) ++ (dkeys p_other)))))))) ?_ ?_
          · refine s_when (b := ((m_law_at (dget p_elder y1) (dget p_one y1) (dget p_other y1)).isSome)) (et_test (e_notN (x := (m_law_at (dget p_elder y1) (dget p_one y1) (dget p_other y1))) (ev_call (ea_cons (e_get1 (l := p_elder) (k := y1) (ev_var rfl) (ev_var rfl) (r3 _ _ hSp_elder)) (ea_cons (e_get1 (l := p_one) (k := y1) (ev_var rfl) (ev_var rfl) (r3 _ _ hSp_one)) (ea_cons (e_get1 (l := p_other) (k := y1) (ev_var rfl) (ev_var rfl) (r3 _ _ hSp_other)) ea_nil))) (sv_of fun HC eC => ⟨_, _, _, rfl, rfl⟩)) ev_c)) (fun hb5 H5 e5a => ?_) (fun hb5 H5 e5a => ?_)
            · have e5 := Ex.trans e3 e5a
              have r5 := rx_of e5
              have h1_made := e5a _ _ h1_made
              have h2_places_here := e5a _ _ h2_places_here
              have hNL1 := e5a _ _ hNL1
              refine s_putD (f := V.bl) (l := s1.1) (k := y1) (v := true) ev_c (ev_var rfl) (ev_var rfl) h1_made (by walk_at "vside") fun H6 m6 => ?_
              have e6 := Mu.ex m6 e5 n1
              have r6 := rx_of e6
              have h2_places_here := Mu.keep m6 (by first | exact d_p2_places_here_p1_made | exact Ne.symm d_p1_made_p2_places_here) h2_places_here
              have hNL1 := Mu.keep m6 (by first | exact d_pN1_p1_made | exact Ne.symm d_p1_made_pN1) hNL1
              have h1_made : H6 p1_made = some (.dK (kd V.bl (m_law_places_v4 s1 y1))) := Mu.at m6
              have hV5_0 : (m_law_places_v5 p_elder y1 p_one p_other s1) = (m_law_places_v4 s1 y1) := if_pos hb5
              exact ⟨rfl, e6, r6, (by rw [hV5_0]; exact h1_made), h2_places_here, hNL1⟩
            · have e5 := Ex.trans e3 e5a
              have r5 := rx_of e5
              have h1_made := e5a _ _ h1_made
              have h2_places_here := e5a _ _ h2_places_here
              have hNL1 := e5a _ _ hNL1
              have hV5_0 : (m_law_places_v5 p_elder y1 p_one p_other s1) = s1.1 := if_neg (by rw [hb5]; exact Bool.false_ne_true)
              exact ⟨rfl, e5, r5, (by rw [hV5_0]; exact h1_made), h2_places_here, hNL1⟩
          · intro σ5m H5m hq5m
            obtain ⟨rfl, e5m, r5m, h1_made, h2_places_here, hNL1⟩ := hq5m
            have hV3_0 : (m_law_places_v6 p_elder y1 p_one p_other s1) = (m_law_places_v5 p_elder y1 p_one p_other s1) := if_neg (by rw [hb3]; exact Bool.false_ne_true)
            have hV3_1 : (m_law_places_v7 p_elder y1 p_one p_other s1) = s1.2 := if_neg (by rw [hb3]; exact Bool.false_ne_true)
            exact ⟨rfl, e5m, r5m, (by rw [hV3_0]; exact h1_made), (by rw [hV3_1]; exact h2_places_here), hNL1⟩
      · intro σ3m H3m hq3m
        obtain ⟨rfl, e3m, r3m, h1_made, h2_places_here, hNL1⟩ := hq3m
        exact hnx1 ((m_law_places_v6 p_elder y1 p_one p_other s1), (m_law_places_v7 p_elder y1 p_one p_other s1)) _ _ kq1_0 ⟨_, rfl, e3m, r3m, h1_made, h2_places_here, hNL1⟩
    · intro s1 σ1 H1L hr1 hq1
      obtain ⟨j1_0, rfl, e1L, r1L, h1_made, h2_places_here, hNL1⟩ := hq1
      obtain rfl : (m_law_places_v8 p_elder p_one p_other) = s1 := (outL_of hr1).symm
      have h_old2 := h1_made
      refine q_loopK (R := Unit) (f := V.bl) (l := (m_law_places_v8 p_elder p_one p_other).1) (m_law_places_step2 p_elder p_one p_other) (m_law_places_v8 p_elder p_one p_other).2 (fun U2 o2 => (fun (s2 : List (Tx × Bool)) (σ2 : L2.St) (H2L : Hp) => ∃ (j2_0 j2_1 : Option V), σ2 = [some (.ref ap_elder), some (.ref ap_one), some (.ref ap_other), some (.ref p1_made), some (.ref p2_places_here), j1_0, j2_0, j2_1] ∧ Ex H (unl [(p1_made, U2)] H2L) ∧ RX H H2L ∧ H2L p1_made = some (.frz o2 (.dK (kd V.bl (m_law_places_v8 p_elder p_one p_other).1))) ∧ H2L p2_places_here = some (.dK (kd V.bl s2)))) rfl (Or.inl h1_made) (fun U2 o2 hU2 hUd2 => ?_) (fun U2 o2 s σ H hq => by obtain ⟨j2_0, j2_1, rfl, e2L, r2L, h1_made, h2_places_here⟩ := hq; exact h1_made) (fun U2 o2 Rt2 hU2 hUd2 hRt2 => ?_) (fun U2 o2 s2 σ2 H2L hU2 hUd2 hr2 hq2 => ?_)
      · exact ⟨_, _, rfl, unl_lock (ls := []) e1L hU2, rx_updn r1L n1, upd_same, upd_keep (by first | exact d_p2_places_here_p1_made | exact Ne.symm d_p1_made_p2_places_here) h2_places_here⟩
      · intro Nx2 Bk2 i2 s2 y2 σ2 H2L hy2 hrun2 hq2 hnx2 hbk2 hrt2
        obtain ⟨j2_0, j2_1, rfl, e2L, r2L, h1_made, h2_places_here⟩ := hq2
        have hm2 := List.mem_of_getElem? hy2
        have hlt2 := (List.getElem?_eq_some_iff.mp hy2).1
        have g2 := pl_loop2 hpre hrun2 hy2
        have gu2 := pl_up hpre hm2
        have kq2_0 : (m_law_places_step2 p_elder p_one p_other) s2 y2 = (Stp.go (m_law_places_v12 p_elder p_one p_other y2 s2)) := rfl
        refine q_loopN (R := Unit) (f := vs) (l := (m_law_uppers y2)) (m_law_places_step3 p_elder p_one p_other y2) s2 (fun pN3 => (fun (s3 : List (Tx × Bool)) (σ3 : L2.St) (H3L : Hp) => ∃ (j3_0 : Option V), σ3 = [some (.ref ap_elder), some (.ref ap_one), some (.ref ap_other), some (.ref p1_made), some (.ref p2_places_here), j1_0, some (vs y2), j3_0] ∧ Ex H (unl [(p1_made, U2)] H3L) ∧ RX H H3L ∧ H3L p1_made = some (.frz o2 (.dK (kd V.bl (m_law_places_v8 p_elder p_one p_other).1))) ∧ H3L p2_places_here = some (.dK (kd V.bl s3)) ∧ H3L pN3 = some (.lst (List.map vs (m_law_uppers y2))))) (el_call (ea_cons (ev_var rfl) ea_nil) (sl_of fun HC eC => ⟨_, rfl, (by walk_at "vside"), rfl⟩)) (fun pN3 H12 nN3 e12a hN3 => ⟨_, rfl, (unl_grow (ls := [(p1_made, U2)]) e2L e12a), (RX.trans r2L (rx_of e12a)), e12a _ _ h1_made, e12a _ _ h2_places_here, hN3⟩) (fun pN3 s σ H hq => by obtain ⟨j3_0, rfl, e3L, r3L, h1_made, h2_places_here, hNL3⟩ := hq; exact sq_of hNL3) (fun pN3 nNa3 => ?_) (fun pN3 nNa3 => ?_)
        · have nN3 := rx_free r2L nNa3
          have d_p1_made_pN3 := ne_of_none h1_made nNa3
          have d_p2_places_here_pN3 := ne_of_none h2_places_here nNa3
          intro Nx3 Bk3 i3 s3 y3 σ3 H3L hy3 hrun3 hq3 hnx3 hbk3 hrt3
          obtain ⟨j3_0, rfl, e3L, r3L, h1_made, h2_places_here, hNL3⟩ := hq3
          have hm3 := List.mem_of_getElem? hy3
          have hlt3 := (List.getElem?_eq_some_iff.mp hy3).1
          have g3 := pl_loop3 hrun3 hy3
          have gv3 : (m_law_places_v9 s3 y3).length ≤ s3.length + 1 := put_len s3 y3 true
          have kq3_0 : (m_law_places_step3 p_elder p_one p_other y2) s3 y3 = (Stp.go (m_law_places_v11 y3 p_elder p_one p_other s3 y2)) := rfl
          refine q_cut (M := (fun (σ9m : L2.St) (H9m : Hp) => σ9m = [some (.ref ap_elder), some (.ref ap_one), some (.ref ap_other), some (.ref p1_made), some (.ref p2_places_here), j1_0, some (vs y2), some (vs y3)] ∧ Ex H (unl [(p1_made, U2)] H9m) ∧ RX H H9m ∧ H9m p1_made = some (.frz o2 (.dK (kd V.bl (m_law_places_v8 p_elder p_one p_other).1))) ∧ H9m p2_places_here = some (.dK (kd V.bl (m_law_places_v11 y3 p_elder p_one p_other s3 y2))) ∧ H9m pN3 = some (.lst (List.map vs (m_law_uppers y2))))) ?_ ?_
          · refine s_when (b := (dhas (m_law_places_v8 p_elder p_one p_other).1 y3)) (et_B (e_inD (f := V.bl) (l := (m_law_places_v8 p_elder p_one p_other).1) (k := y3) (ev_var rfl) (ev_var rfl) (Or.inr ⟨_, h1_made⟩))) (fun hb9 H9 e9a => ?_) (fun hb9 H9 e9a => ?_)
            · have e9 := unl_grow (ls := [(p1_made, U2)]) e3L e9a
              have r9 := RX.trans r3L (rx_of e9a)
              have h1_made := e9a _ _ h1_made
              have h2_places_here := e9a _ _ h2_places_here
              have hNL3 := e9a _ _ hNL3
              refine q_putD (f := V.bl) (l := s3) (k := y3) (v := true) ev_c (ev_var rfl) (ev_var rfl) h2_places_here (by walk_at "vside") fun H10 m10 => ?_
              have e10 := Mu.unl (ls := [(p1_made, U2)]) m10 e9 n2
              have r10 := Mu.rx m10 r9 n2
              have h1_made := Mu.keep m10 (by first | exact d_p1_made_p2_places_here | exact Ne.symm d_p2_places_here_p1_made) h1_made
              have hNL3 := Mu.keep m10 (by first | exact d_pN3_p2_places_here | exact Ne.symm d_p2_places_here_pN3) hNL3
              have h2_places_here : H10 p2_places_here = some (.dK (kd V.bl (m_law_places_v9 s3 y3))) := Mu.at m10
              refine s_putD (f := V.bl) (l := (m_law_places_v9 s3 y3)) (k := y2) (v := true) ev_c (ev_var rfl) (ev_var rfl) h2_places_here (by walk_at "vside") fun H11 m11 => ?_
              have e11 := Mu.unl (ls := [(p1_made, U2)]) m11 e10 n2
              have r11 := Mu.rx m11 r10 n2
              have h1_made := Mu.keep m11 (by first | exact d_p1_made_p2_places_here | exact Ne.symm d_p2_places_here_p1_made) h1_made
              have hNL3 := Mu.keep m11 (by first | exact d_pN3_p2_places_here | exact Ne.symm d_p2_places_here_pN3) hNL3
              have h2_places_here : H11 p2_places_here = some (.dK (kd V.bl (m_law_places_v10 s3 y3 y2))) := Mu.at m11
              have hV9_0 : (m_law_places_v11 y3 p_elder p_one p_other s3 y2) = (m_law_places_v10 s3 y3 y2) := if_pos hb9
              exact ⟨rfl, e11, r11, h1_made, (by rw [hV9_0]; exact h2_places_here), hNL3⟩
            · have e9 := unl_grow (ls := [(p1_made, U2)]) e3L e9a
              have r9 := RX.trans r3L (rx_of e9a)
              have h1_made := e9a _ _ h1_made
              have h2_places_here := e9a _ _ h2_places_here
              have hNL3 := e9a _ _ hNL3
              have hV9_0 : (m_law_places_v11 y3 p_elder p_one p_other s3 y2) = s3 := if_neg (by rw [hb9]; exact Bool.false_ne_true)
              exact ⟨rfl, e9, r9, h1_made, (by rw [hV9_0]; exact h2_places_here), hNL3⟩
          · intro σ9m H9m hq9m
            obtain ⟨rfl, e9m, r9m, h1_made, h2_places_here, hNL3⟩ := hq9m
            exact hnx3 (m_law_places_v11 y3 p_elder p_one p_other s3 y2) _ _ kq3_0 ⟨_, rfl, e9m, r9m, h1_made, h2_places_here, hNL3⟩
        · intro s3 σ3 H3L hr3 hq3
          obtain ⟨j3_0, rfl, e3L, r3L, h1_made, h2_places_here, hNL3⟩ := hq3
          obtain rfl : (m_law_places_v12 p_elder p_one p_other y2 s2) = s3 := (outL_of hr3).symm
          exact hnx2 (m_law_places_v12 p_elder p_one p_other y2 s2) _ _ kq2_0 ⟨_, _, rfl, e3L, r3L, h1_made, h2_places_here⟩
      · obtain ⟨j2_0, j2_1, rfl, e2L, r2L, h1_made, h2_places_here⟩ := hq2
        have h2_places_here := upd_keep (u := U2) (by first | exact d_p2_places_here_p1_made | exact Ne.symm d_p1_made_p2_places_here) h2_places_here
        obtain rfl := Option.some.inj (hU2.symm.trans h_old2)
        have h1_made := upd_same (H := H2L) (a := p1_made) (o := .dK (kd V.bl (m_law_places_v8 p_elder p_one p_other).1))
        have e2L := unl_open (ls := []) e2L
        have r2L := rx_updn (Y := .dK (kd V.bl (m_law_places_v8 p_elder p_one p_other).1)) r2L n1
        obtain rfl : (m_law_places_v13 p_elder p_one p_other) = s2 := (outL_of hr2).symm
        exact s_retL (l_srtD (f := V.bl) (l := (m_law_places_v13 p_elder p_one p_other)) (ev_var rfl) (Or.inl h2_places_here) (by walk_at "vside")) fun pR H16 nR e16a hR => RetL.go k0 e2L nR e16a hR
def sp_law_picks (K : PySem.W.Frag) : Sp := spK fun ws H v => ∃ (ap_places_here : Addr) (p_places_here : List Tx) (ap_script : Addr) (p_script : List Int) (ap_trees_here ap_trees_here0 ap_trees_here1 ap_trees_here2 : Addr) (p_trees_here0 p_trees_here1 p_trees_here2 : List (Tx × Tx)), ws = [.ref ap_places_here, .ref ap_script, .ref ap_trees_here] ∧ SqL K H ap_places_here (List.map vs p_places_here) ∧ SqL K H ap_script (List.map V.int p_script) ∧ (SqL K H ap_trees_here [.ref ap_trees_here0, .ref ap_trees_here1, .ref ap_trees_here2] ∧ Rd H ap_trees_here0 (.dK (kd vs p_trees_here0)) ∧ Rd H ap_trees_here1 (.dK (kd vs p_trees_here1)) ∧ Rd H ap_trees_here2 (.dK (kd vs p_trees_here2))) ∧ (p_places_here.length ≤ 700) ∧ v = kd vo (m_law_picks p_places_here p_script p_trees_here0 p_trees_here1 p_trees_here2)
theorem ok_law_picks {f : Addr} {fd : FuncData} (F : Fun K "_law_picks" "_law_picks" s_law_picks f fd) (z : Bt mg) (C_law_cell_at : Cal P w K mg base 1 "_law_cell_at" ["_law_script", "_law_k"] (sp_law_cell_at K)) (C_law_line_by : Cal P w K mg base 1 "_law_line_by" ["_law_k", "_law_shift"] (sp_law_line_by K)) : FnOk P w K mg base CX0 2 f fd ["_law_places_here", "_law_script", "_law_trees_here"] (sp_law_picks K) := by
  refine F.ok (k := 1) sc_law_picks (fun ws H Q E h => ?_) (fun cdv A outer s H ws Q E hr h => ?_)
  · obtain ⟨_, ⟨_, _, _, _, _, _, _, _, _, _, _, rfl, _⟩, _⟩ := h
    rfl
  · obtain ⟨_, ⟨ap_places_here, p_places_here, ap_script, p_script, ap_trees_here, ap_trees_here0, ap_trees_here1, ap_trees_here2, p_trees_here0, p_trees_here1, p_trees_here2, rfl, hSp_places_here, hSp_script, hSp_trees_here, hpre, rfl⟩, k0⟩ := h
    have L_lNil := len_lNil
    refine ⟨_, (pss_cons (ps_set (i := 3) sc_law_picks.nd rfl (Or.inl rfl) pe_dnewK)
      (pss_cons (ps_for PassesOwn.never rfl (pi_range1 (by rfl) z.z_range (pa_cons (pe_callB (call_lenK K) (by rfl) z.z_len PySem.boot_len (pa_cons (pv 0) pa_nil)) pa_nil)) (pg_name (i := 4) sc_law_picks.nd rfl (Or.inl rfl))
      (pss_cons (ps_set (i := 5) sc_law_picks.nd rfl (Or.inl rfl) (pe_op op_mod (pe_op op_mod (pe_op op_mul (pe_op op_add (pe_cal C_law_cell_at (hr.mono (by decide)) (by rfl) (pa_cons (pv 1) (pa_cons pe_int pa_nil))) (pe_op op_mul pe_int (pv 4))) pe_int) pe_int) pe_int))
      (pss_cons (ps_if (pt_cmpR op_eq (pe_op op_mod (pe_cal C_law_cell_at (hr.mono (by decide)) (by rfl) (pa_cons (pv 1) (pa_cons pe_int pa_nil))) pe_int) pe_int (nomark _)) (pss_one (ps_set (i := 5) sc_law_picks.nd rfl (Or.inl rfl) (pe_op op_add pe_int (pe_op op_mod (pv 5) pe_int)))) pss_nil)
      (pss_cut (ps_if (pt_cmpR op_eq (pv 5) pe_int (nomark _)) (pss_one (ps_dput (hu_of hr) (pv 3) (pe_ix (ix_listK K) (pv 0) (pv 4) (fun _ _ => rfl)) (pe_cal C_law_line_by (hr.mono (by decide)) (by rfl) (pa_cons (pe_op op_add pe_int (pv 4)) (pa_cons (pe_cal C_law_cell_at (hr.mono (by decide)) (by rfl) (pa_cons (pv 1) (pa_cons pe_int pa_nil))) pa_nil))) rfl)) (pss_cut (ps_if (pt_cmpR op_eq (pv 5) pe_int (nomark _)) (pss_one (ps_dput (hu_of hr) (pv 3) (pe_ix (ix_listK K) (pv 0) (pv 4) (fun _ _ => rfl)) pe_str rfl)) (pss_cut (ps_if (pt_cmpR op_eq (pv 5) pe_int (nomark _)) (pss_one (ps_dput (hu_of hr) (pv 3) (pe_ix (ix_listK K) (pv 0) (pv 4) (fun _ _ => rfl)) pe_non rfl)) (pss_cut (ps_if (pt_cmpR op_gt (pv 5) pe_int (nomark _)) (pss_one (ps_dput (hu_of hr) (pv 3) (pe_ix (ix_listK K) (pv 0) (pv 4) (fun _ _ => rfl)) (pe_dget1 (hu_of hr) (pe_ix (ix_listK K) (pv 2) (pe_op op_sub (pv 5) pe_int) (fun _ _ => rfl)) (pe_ix (ix_listK K) (pv 0) (pv 4) (fun _ _ => rfl)) ⟨rfl, rfl, rfl, rfl⟩) rfl)) pss_nil)
      pss_nil))
      pss_nil))
      pss_nil))
      pss_nil))))
      (pss_one (ps_ret (pv 3))))), ?_⟩
    refine q_asgK (kvs := kd vo m_law_picks_v1) (ek_is k_new rfl) fun p1_picks_here H1 n1a e1a h1_picks_here => ?_
    have n1 := fresh_back (Ex.refl H) n1a
    have e1 := Ex.trans (Ex.refl H) e1a
    have r1 := rx_of e1
    refine q_loopR (R := Unit) (n := (p_places_here.length : Int)) (m_law_picks_step1 p_places_here p_script p_trees_here0 p_trees_here1 p_trees_here2) m_law_picks_v1 (fun (s1 : List (Tx × Option Tx)) (σ1 : L2.St) (H1L : Hp) => ∃ (j1_0 j1_1 : Option V), σ1 = [some (.ref ap_places_here), some (.ref ap_script), some (.ref ap_trees_here), some (.ref p1_picks_here), j1_0, j1_1] ∧ Ex H H1L ∧ RX H H1L ∧ H1L p1_picks_here = some (.dK (kd vo s1))) (ea_cons (e_lenL (f := vs) (l := p_places_here) (ev_var rfl) (rx_l r1 hSp_places_here)) ea_nil) (by walk_at "vside") (fun H12 e12a => ⟨_, _, rfl, (Ex.trans e1 e12a), (rx_of (Ex.trans e1 e12a)), e12a _ _ h1_picks_here⟩) ?_ ?_
    · intro Nx1 Bk1 i1 s1 y1 σ1 H1L hy1 hrun1 hq1 hnx1 hbk1 hrt1
      obtain ⟨j1_0, j1_1, rfl, e1L, r1L, h1_picks_here⟩ := hq1
      have hk1 := List.mem_range.mp (List.mem_of_getElem? hy1)
      have g1 := picks_loop hrun1 hy1
      have g3 := picks_v3 p_script y1
      have gk1 : (y1 : Int) < (p_places_here.length : Int) := by omega
      have kq1_0 : (m_law_picks_step1 p_places_here p_script p_trees_here0 p_trees_here1 p_trees_here2) s1 y1 = (Stp.go (m_law_picks_v11 p_script y1 s1 p_places_here p_trees_here0 p_trees_here1 p_trees_here2)) := rfl
      refine q_asg (v := V.int (m_law_picks_v2 p_script y1)) (ev_is (e_mod (e_mod (e_mul (e_add (ev_call (ea_cons (ev_var rfl) (ea_cons ev_c ea_nil)) (sv_of fun HC eC => ⟨_, _, _, rfl, ex_l eC (rx_l r1L hSp_script), (by walk_at "vside"), rfl⟩)) (e_mul ev_c (ev_var rfl) (by first | exact Or.inl (by walk_at "vside") | exact Or.inr (by walk_at "vside")))) ev_c (by first | exact Or.inl (by walk_at "vside") | exact Or.inr (by walk_at "vside"))) ev_c (by walk_at "vside")) ev_c (by walk_at "vside")) rfl) fun H2 e2a => ?_
      have e2 := Ex.trans e1L e2a
      have r2 := rx_of e2
      have h1_picks_here := e2a _ _ h1_picks_here
      have fm_law_picks_v2 : (m_law_picks_v2 p_script y1) = (((((m_law_cell_at p_script (26 : Int)) + ((5 : Int) * (y1 : Int))) * (48271 : Int)) % (65537 : Int)) % (6 : Int)) := rfl
      refine q_ifSet (f := V.int) (z := (m_law_picks_v3 p_script y1)) (et_test (e_eqI (e_mod (ev_call (ea_cons (ev_var rfl) (ea_cons ev_c ea_nil)) (sv_of fun HC eC => ⟨_, _, _, rfl, ex_l eC (rx_l r2 hSp_script), (by walk_at "vside"), rfl⟩)) ev_c (by walk_at "vside")) ev_c)) (fun hc => (e_add ev_c (e_mod (ev_var rfl) ev_c (by walk_at "vside")))) rfl rfl fun H3 e3a => ?_
      have e3 := Ex.trans e2 e3a
      have r3 := rx_of e3
      have h1_picks_here := e3a _ _ h1_picks_here
      have fm_law_picks_v3 : (m_law_picks_v3 p_script y1) = if (decide (((m_law_cell_at p_script (26 : Int)) % (3 : Int)) = (2 : Int))) = true then ((1 : Int) + ((m_law_picks_v2 p_script y1) % (5 : Int))) else (m_law_picks_v2 p_script y1) := rfl
      refine q_cut (M := (fun (σ4m : L2.St) (H4m : Hp) => σ4m = [some (.ref ap_places_here), some (.ref ap_script), some (.ref ap_trees_here), some (.ref p1_picks_here), some (V.int (y1 : Int)), some (V.int (m_law_picks_v3 p_script y1))] ∧ Ex H H4m ∧ RX H H4m ∧ H4m p1_picks_here = some (.dK (kd vo (m_law_picks_v11 p_script y1 s1 p_places_here p_trees_here0 p_trees_here1 p_trees_here2))))) ?_ ?_
      · refine s_if (b := (decide ((m_law_picks_v3 p_script y1) = (1 : Int)))) (et_test (e_eqI (ev_var rfl) ev_c)) (fun hb4 H4 e4a => ?_) (fun hb4 H4 e4a => ?_)
        · have e4 := Ex.trans e3 e4a
          have r4 := rx_of e4
          have h1_picks_here := e4a _ _ h1_picks_here
          refine s_putD (f := vo) (l := s1) (k := (p_places_here.getD (y1 : Int).toNat [])) (v := (some (m_law_line_by ((1 : Int) + (y1 : Int)) (m_law_cell_at p_script (27 : Int))))) (ev_is (w := vo (some (m_law_line_by ((1 : Int) + (y1 : Int)) (m_law_cell_at p_script (27 : Int))))) (ev_call (ea_cons (e_add ev_c (ev_var rfl)) (ea_cons (ev_call (ea_cons (ev_var rfl) (ea_cons ev_c ea_nil)) (sv_of fun HC eC => ⟨_, _, _, rfl, ex_l eC (rx_l r4 hSp_script), (by walk_at "vside"), rfl⟩)) ea_nil)) (sv_of fun HC eC => ⟨_, _, rfl, rfl⟩)) rfl) (ev_var rfl) (e_ixL (f := vs) (l := p_places_here) [] (ev_var rfl) (rx_l r4 hSp_places_here) (ev_var rfl) (by walk_at "vside")) h1_picks_here (by walk_at "vside") fun H5 m5 => ?_
          have e5 := Mu.ex m5 e4 n1
          have r5 := rx_of e5
          have h1_picks_here : H5 p1_picks_here = some (.dK (kd vo (m_law_picks_v4 s1 p_places_here y1 p_script))) := Mu.at m5
          have hV4_0 : (m_law_picks_v11 p_script y1 s1 p_places_here p_trees_here0 p_trees_here1 p_trees_here2) = (m_law_picks_v4 s1 p_places_here y1 p_script) := if_pos hb4
          exact ⟨rfl, e5, r5, (by rw [hV4_0]; exact h1_picks_here)⟩
        · have e4 := Ex.trans e3 e4a
          have r4 := rx_of e4
          have h1_picks_here := e4a _ _ h1_picks_here
          refine q_cut (M := (fun (σ6m : L2.St) (H6m : Hp) => σ6m = [some (.ref ap_places_here), some (.ref ap_script), some (.ref ap_trees_here), some (.ref p1_picks_here), some (V.int (y1 : Int)), some (V.int (m_law_picks_v3 p_script y1))] ∧ Ex H H6m ∧ RX H H6m ∧ H6m p1_picks_here = some (.dK (kd vo (m_law_picks_v10 p_script y1 s1 p_places_here p_trees_here0 p_trees_here1 p_trees_here2))))) ?_ ?_
          · refine s_if (b := (decide ((m_law_picks_v3 p_script y1) = (2 : Int)))) (et_test (e_eqI (ev_var rfl) ev_c)) (fun hb6 H6 e6a => ?_) (fun hb6 H6 e6a => ?_)
            · have e6 := Ex.trans e4 e6a
              have r6 := rx_of e6
              have h1_picks_here := e6a _ _ h1_picks_here
              refine s_putD (f := vo) (l := s1) (k := (p_places_here.getD (y1 : Int).toNat [])) (v := (some lNil)) (ev_is (w := vo (some lNil)) (ev_is (w := vs lNil) e_lit rfl) rfl) (ev_var rfl) (e_ixL (f := vs) (l := p_places_here) [] (ev_var rfl) (rx_l r6 hSp_places_here) (ev_var rfl) (by walk_at "vside")) h1_picks_here (by walk_at "vside") fun H7 m7 => ?_
              have e7 := Mu.ex m7 e6 n1
              have r7 := rx_of e7
              have h1_picks_here : H7 p1_picks_here = some (.dK (kd vo (m_law_picks_v5 s1 p_places_here y1))) := Mu.at m7
              have hV6_0 : (m_law_picks_v10 p_script y1 s1 p_places_here p_trees_here0 p_trees_here1 p_trees_here2) = (m_law_picks_v5 s1 p_places_here y1) := if_pos hb6
              exact ⟨rfl, e7, r7, (by rw [hV6_0]; exact h1_picks_here)⟩
            · have e6 := Ex.trans e4 e6a
              have r6 := rx_of e6
              have h1_picks_here := e6a _ _ h1_picks_here
              refine q_cut (M := (fun (σ8m : L2.St) (H8m : Hp) => σ8m = [some (.ref ap_places_here), some (.ref ap_script), some (.ref ap_trees_here), some (.ref p1_picks_here), some (V.int (y1 : Int)), some (V.int (m_law_picks_v3 p_script y1))] ∧ Ex H H8m ∧ RX H H8m ∧ H8m p1_picks_here = some (.dK (kd vo (m_law_picks_v9 p_script y1 s1 p_places_here p_trees_here0 p_trees_here1 p_trees_here2))))) ?_ ?_
              · refine s_if (b := (decide ((m_law_picks_v3 p_script y1) = (3 : Int)))) (et_test (e_eqI (ev_var rfl) ev_c)) (fun hb8 H8 e8a => ?_) (fun hb8 H8 e8a => ?_)
                · have e8 := Ex.trans e6 e8a
                  have r8 := rx_of e8
                  have h1_picks_here := e8a _ _ h1_picks_here
                  refine s_putD (f := vo) (l := s1) (k := (p_places_here.getD (y1 : Int).toNat [])) (v := none) (ev_is (w := vo none) ev_c rfl) (ev_var rfl) (e_ixL (f := vs) (l := p_places_here) [] (ev_var rfl) (rx_l r8 hSp_places_here) (ev_var rfl) (by walk_at "vside")) h1_picks_here (by walk_at "vside") fun H9 m9 => ?_
                  have e9 := Mu.ex m9 e8 n1
                  have r9 := rx_of e9
                  have h1_picks_here : H9 p1_picks_here = some (.dK (kd vo (m_law_picks_v6 s1 p_places_here y1))) := Mu.at m9
                  have hV8_0 : (m_law_picks_v9 p_script y1 s1 p_places_here p_trees_here0 p_trees_here1 p_trees_here2) = (m_law_picks_v6 s1 p_places_here y1) := if_pos hb8
                  exact ⟨rfl, e9, r9, (by rw [hV8_0]; exact h1_picks_here)⟩
                · have e8 := Ex.trans e6 e8a
                  have r8 := rx_of e8
                  have h1_picks_here := e8a _ _ h1_picks_here
                  refine q_cut (M := (fun (σ10m : L2.St) (H10m : Hp) => σ10m = [some (.ref ap_places_here), some (.ref ap_script), some (.ref ap_trees_here), some (.ref p1_picks_here), some (V.int (y1 : Int)), some (V.int (m_law_picks_v3 p_script y1))] ∧ Ex H H10m ∧ RX H H10m ∧ H10m p1_picks_here = some (.dK (kd vo (m_law_picks_v8 p_script y1 s1 p_places_here p_trees_here0 p_trees_here1 p_trees_here2))))) ?_ ?_
                  · refine s_when (b := (decide ((m_law_picks_v3 p_script y1) > (3 : Int)))) (et_test (e_gt (ev_var rfl) ev_c)) (fun hb10 H10 e10a => ?_) (fun hb10 H10 e10a => ?_)
                    · have e10 := Ex.trans e8 e10a
                      have r10 := rx_of e10
                      have h1_picks_here := e10a _ _ h1_picks_here
                      refine s_putD (f := vo) (l := s1) (k := (p_places_here.getD (y1 : Int).toNat [])) (v := (dget ([p_trees_here0, p_trees_here1, p_trees_here2].getD ((m_law_picks_v3 p_script y1) - (3 : Int)).toNat []) (p_places_here.getD (y1 : Int).toNat []))) (e_get1 (l := ([p_trees_here0, p_trees_here1, p_trees_here2].getD ((m_law_picks_v3 p_script y1) - (3 : Int)).toNat [])) (k := (p_places_here.getD (y1 : Int).toNat [])) (e_ixL (f := V.ref) (l := [ap_trees_here0, ap_trees_here1, ap_trees_here2]) 0 (ev_var rfl) (rx_l r10 hSp_trees_here.1) (e_sub (ev_var rfl) ev_c) (by walk_at "vside")) (e_ixL (f := vs) (l := p_places_here) [] (ev_var rfl) (rx_l r10 hSp_places_here) (ev_var rfl) (by walk_at "vside")) (rd_three (r10 _ _ hSp_trees_here.2.1) (r10 _ _ hSp_trees_here.2.2.1) (r10 _ _ hSp_trees_here.2.2.2) (by walk_at "vside"))) (ev_var rfl) (e_ixL (f := vs) (l := p_places_here) [] (ev_var rfl) (rx_l r10 hSp_places_here) (ev_var rfl) (by walk_at "vside")) h1_picks_here (by walk_at "vside") fun H11 m11 => ?_
                      have e11 := Mu.ex m11 e10 n1
                      have r11 := rx_of e11
                      have h1_picks_here : H11 p1_picks_here = some (.dK (kd vo (m_law_picks_v7 s1 p_places_here y1 p_trees_here0 p_trees_here1 p_trees_here2 p_script))) := Mu.at m11
                      have hV10_0 : (m_law_picks_v8 p_script y1 s1 p_places_here p_trees_here0 p_trees_here1 p_trees_here2) = (m_law_picks_v7 s1 p_places_here y1 p_trees_here0 p_trees_here1 p_trees_here2 p_script) := if_pos hb10
                      exact ⟨rfl, e11, r11, (by rw [hV10_0]; exact h1_picks_here)⟩
                    · have e10 := Ex.trans e8 e10a
                      have r10 := rx_of e10
                      have h1_picks_here := e10a _ _ h1_picks_here
                      have hV10_0 : (m_law_picks_v8 p_script y1 s1 p_places_here p_trees_here0 p_trees_here1 p_trees_here2) = s1 := if_neg (by rw [hb10]; exact Bool.false_ne_true)
                      exact ⟨rfl, e10, r10, (by rw [hV10_0]; exact h1_picks_here)⟩
                  · intro σ10m H10m hq10m
                    obtain ⟨rfl, e10m, r10m, h1_picks_here⟩ := hq10m
                    have fm_law_picks_v3 : (m_law_picks_v3 p_script y1) = if (decide (((m_law_cell_at p_script (26 : Int)) % (3 : Int)) = (2 : Int))) = true then ((1 : Int) + ((m_law_picks_v2 p_script y1) % (5 : Int))) else (m_law_picks_v2 p_script y1) := rfl
                    have hV8_0 : (m_law_picks_v9 p_script y1 s1 p_places_here p_trees_here0 p_trees_here1 p_trees_here2) = (m_law_picks_v8 p_script y1 s1 p_places_here p_trees_here0 p_trees_here1 p_trees_here2) := if_neg (by rw [hb8]; exact Bool.false_ne_true)
                    exact ⟨rfl, e10m, r10m, (by rw [hV8_0]; exact h1_picks_here)⟩
              · intro σ8m H8m hq8m
                obtain ⟨rfl, e8m, r8m, h1_picks_here⟩ := hq8m
                have fm_law_picks_v3 : (m_law_picks_v3 p_script y1) = if (decide (((m_law_cell_at p_script (26 : Int)) % (3 : Int)) = (2 : Int))) = true then ((1 : Int) + ((m_law_picks_v2 p_script y1) % (5 : Int))) else (m_law_picks_v2 p_script y1) := rfl
                have hV6_0 : (m_law_picks_v10 p_script y1 s1 p_places_here p_trees_here0 p_trees_here1 p_trees_here2) = (m_law_picks_v9 p_script y1 s1 p_places_here p_trees_here0 p_trees_here1 p_trees_here2) := if_neg (by rw [hb6]; exact Bool.false_ne_true)
                exact ⟨rfl, e8m, r8m, (by rw [hV6_0]; exact h1_picks_here)⟩
          · intro σ6m H6m hq6m
            obtain ⟨rfl, e6m, r6m, h1_picks_here⟩ := hq6m
            have fm_law_picks_v3 : (m_law_picks_v3 p_script y1) = if (decide (((m_law_cell_at p_script (26 : Int)) % (3 : Int)) = (2 : Int))) = true then ((1 : Int) + ((m_law_picks_v2 p_script y1) % (5 : Int))) else (m_law_picks_v2 p_script y1) := rfl
            have hV4_0 : (m_law_picks_v11 p_script y1 s1 p_places_here p_trees_here0 p_trees_here1 p_trees_here2) = (m_law_picks_v10 p_script y1 s1 p_places_here p_trees_here0 p_trees_here1 p_trees_here2) := if_neg (by rw [hb4]; exact Bool.false_ne_true)
            exact ⟨rfl, e6m, r6m, (by rw [hV4_0]; exact h1_picks_here)⟩
      · intro σ4m H4m hq4m
        obtain ⟨rfl, e4m, r4m, h1_picks_here⟩ := hq4m
        have fm_law_picks_v3 : (m_law_picks_v3 p_script y1) = if (decide (((m_law_cell_at p_script (26 : Int)) % (3 : Int)) = (2 : Int))) = true then ((1 : Int) + ((m_law_picks_v2 p_script y1) % (5 : Int))) else (m_law_picks_v2 p_script y1) := rfl
        exact hnx1 (m_law_picks_v11 p_script y1 s1 p_places_here p_trees_here0 p_trees_here1 p_trees_here2) _ _ kq1_0 ⟨_, _, rfl, e4m, r4m, h1_picks_here⟩
    · intro s1 σ1 H1L hr1 hq1
      obtain ⟨j1_0, j1_1, rfl, e1L, r1L, h1_picks_here⟩ := hq1
      obtain rfl : (m_law_picks_v12 p_places_here p_script p_trees_here0 p_trees_here1 p_trees_here2) = s1 := (outL_of hr1).symm
      exact s_ret (ev_var rfl) fun H14 e14a => k0 _ _ n1 (Ex.trans e1L e14a) (e14a _ _ h1_picks_here)
def row_told (k : Nat) : List (Tx × Bool) := [(word 4, decide (4 = 0 ∨ 4 = k)), (word 5, decide (5 = 0 ∨ 5 = k)), (word 1, decide (1 = 0 ∨ 1 = k)), (word 2, decide (2 = 0 ∨ 2 = k)), (word 3, decide (3 = 0 ∨ 3 = k)), (word 6, decide (6 = 0 ∨ 6 = k)), (word 7, decide (7 = 0 ∨ 7 = k))]
theorem row_fit : ∀ k < 8, 1 ≤ k → joinL [] (fit (row_told k)) = word k ∧ sumLen (fit (row_told k)) ≤ 1000 ∧ (fit (row_told k)).length ≤ 1000 := by decide +kernel
theorem len_told {ws : List V} {H : Hp} {r : Res (List (Tx × Tx))} (h : R_joined K ws H r) : ∃ v0 v1 v2 v3, ws = [v0, v1, v2, v3] := by
  obtain ⟨_, _, _, _, _, _, _, _, rfl, _⟩ := h
  exact ⟨_, _, _, _, rfl⟩
theorem grow_told {ws : List V} {H H1 : Hp} {r : Res (List (Tx × Tx))} (e : Ex H H1) (h : R_joined K ws H r) : R_joined K ws H1 r := by
  obtain ⟨apelder, pelder, apone, pone, apother, pother, appicks, ppicks, rfl, hSpelder, hSpone, hSpother, hSppicks, hpre, rfl⟩ := h
  exact ⟨_, _, _, _, _, _, _, _, rfl, ex_rd e hSpelder, ex_rd e hSpone, ex_rd e hSpother, ex_rd e hSppicks, hpre, rfl⟩
theorem told_kinds {ws : List V} {H : Hp} {k : Nat} (h : R_joined K ws H (.exc k)) : k = 4 ∨ k = 5 := by
  obtain ⟨_, _, _, _, _, _, _, _, _, _, _, _, _, hpre, e⟩ := h
  exact kinds_joined e.symm
def sp_law_told (K : PySem.W.Frag) : Sp := spTold (tx "made") word (R_joined K)
theorem ok_law_told {f : Addr} {fd : FuncData} {Cs : Nat → Addr} (G : EG mg Cs) (F : Fun K "_law_told" "_law_told" s_law_told f fd) (z : Bt mg) (C_joined : CalX P w K mg base 5 "joined" ["elder", "one", "other", "picks"] (sp_joined K Cs)) (E4 : ErrC K Cs 4) (E5 : ErrC K Cs 5) : FnOk P w K mg base CX0 6 f fd ["_law_elder", "_law_one", "_law_other", "_law_picks_here"] (sp_law_told K) := by
  refine F.ok (k := 5) sc_law_told (fun ws H Q E h => ?_) (fun cdv A outer s H ws Q E hr h => ?_)
  · obtain ⟨r, hR, _⟩ := h
    obtain ⟨v0, v1, v2, v3, rfl⟩ := len_told hR
    rfl
  · obtain ⟨r, hR, k0⟩ := h
    obtain ⟨v0, v1, v2, v3, rfl⟩ := len_told hR
    refine ⟨_, pss_one (L2N.ps_try_as (i := 5) rfl rfl sc_law_told.nd rfl rfl ⟨rfl, by decide, .inl G.g0⟩ takesN0 (fun W pn xe tk _ => pss_one (ps_ret (pe_tup (pa_cons pe_str (pa_cons (pe_calX C_joined tk (hr.mono (by decide)) (by rfl) (pa_cons (pv 0) (pa_cons (pv 1) (pa_cons (pv 2) (pa_cons (pv 3) pa_nil))))) pa_nil)))))
      (fun a oe cls d pn hz hf => (pss_cons (ps_set (i := 4) sc_law_told.nd rfl (Or.inl rfl) (pe_lst (pa_cons (pe_tup (pa_cons pe_str (pa_cons (pe_callB (call_isX K hz hf) (by rfl) z.z_isinstance (by decide +kernel) (pa_cons (pv 5) (pa_cons (pe_glob (v := .ref (Cs 4)) (by rfl) G.g4 rfl) pa_nil))) pa_nil))) (pa_cons (pe_tup (pa_cons pe_str (pa_cons (pe_callB (call_isX K hz hf) (by rfl) z.z_isinstance (by decide +kernel) (pa_cons (pv 5) (pa_cons (pe_glob (v := .ref (Cs 5)) (by rfl) G.g5 rfl) pa_nil))) pa_nil))) pa_nil))))
      (pss_cons (ps_set (i := 4) sc_law_told.nd rfl (Or.inl rfl) (pe_op op_cat (pv 4) (pe_lst (pa_cons (pe_tup (pa_cons pe_str (pa_cons (pe_callB (call_isX K hz hf) (by rfl) z.z_isinstance (by decide +kernel) (pa_cons (pv 5) (pa_cons (pe_glob (v := .ref (Cs 1)) (by rfl) G.g1 rfl) pa_nil))) pa_nil))) (pa_cons (pe_tup (pa_cons pe_str (pa_cons (pe_callB (call_isX K hz hf) (by rfl) z.z_isinstance (by decide +kernel) (pa_cons (pv 5) (pa_cons (pe_glob (v := .ref (Cs 2)) (by rfl) G.g2 rfl) pa_nil))) pa_nil))) pa_nil)))))
      (pss_cons (ps_set (i := 4) sc_law_told.nd rfl (Or.inl rfl) (pe_op op_cat (pv 4) (pe_lst (pa_cons (pe_tup (pa_cons pe_str (pa_cons (pe_callB (call_isX K hz hf) (by rfl) z.z_isinstance (by decide +kernel) (pa_cons (pv 5) (pa_cons (pe_glob (v := .ref (Cs 3)) (by rfl) G.g3 rfl) pa_nil))) pa_nil))) (pa_cons (pe_tup (pa_cons pe_str (pa_cons (pe_callB (call_isX K hz hf) (by rfl) z.z_isinstance (by decide +kernel) (pa_cons (pv 5) (pa_cons (pe_glob (v := .ref (Cs 6)) (by rfl) G.g6 rfl) pa_nil))) pa_nil))) pa_nil)))))
      (pss_cons (ps_set (i := 4) sc_law_told.nd rfl (Or.inl rfl) (pe_op op_cat (pv 4) (pe_lst (pa_cons (pe_tup (pa_cons pe_str (pa_cons (pe_callB (call_isX K hz hf) (by rfl) z.z_isinstance (by decide +kernel) (pa_cons (pv 5) (pa_cons (pe_glob (v := .ref (Cs 7)) (by rfl) G.g7 rfl) pa_nil))) pa_nil))) pa_nil))))
      (pss_one (ps_ret (pe_tup (pa_cons (pe_joinK K pe_str (pe_lcH K (p := (a, oe)) (own := [("_law_word", 7), ("_law_fits", 6)]) (g := gTup K 2 (gCons (gName 7) (gCons (gName 6) gNil))) (by exact hot_suite hz hf) (by exact List.mem_cons_self) sc_law_told.nd (pv 4) (blkOk_by (own := [("_law_word", 7), ("_law_fits", 6)]) (N := ["_law_elder", "_law_one", "_law_other", "_law_picks_here", "_law_some", "e", "_law_fits", "_law_word"]) (sc := defScope s_law_told) (by decide +kernel)) (fun _ _ _ _ _ => pg_tupHK K (by exact ⟨(a, oe), hot_suite hz hf, List.mem_cons_self⟩) (pgs_cons (pg_name (i := 7) sc_law_told.nd rfl (Or.inl rfl)) (pgs_cons (pg_name (i := 6) sc_law_told.nd rfl (Or.inl rfl)) pgs_nil))) (fun _ _ _ _ _ => pts_one (pt_val (pv 6))) (fun _ _ _ _ _ => pv 7))) (pa_cons (pe_callB (call_isX K hz hf) (by rfl) z.z_isinstance (by decide +kernel) (pa_cons (pv 5) (pa_cons (pe_bltn (v := .ty "ValueError") (by rfl) z.z_ValueError (by decide +kernel) rfl) pa_nil))) pa_nil))))))))))), ?_⟩
    refine x_call (r := r) (ea_cons (ev_var rfl) (ea_cons (ev_var rfl) (ea_cons (ev_var rfl) (ea_cons (ev_var rfl) ea_nil)))) (fun H1 e1 => grow_told e1 hR) (fun kvs er H1 e1 => ?_) (fun k er H1 e1 => ?_)
    · intro p H2 np e2 hp
      refine ⟨sz_of (by simp), fun q nq => ?_⟩
      refine k0.1 kvs er q p _ (fresh_back (e1.trans e2) nq) (fresh_back e1 np) (fun z => ?_) ((e1.trans e2).trans (Ex.new nq)) upd_same (upd_keep (fun z => ?_) hp)
      · rw [z, hp] at nq
        cases nq
      · rw [← z, hp] at nq
        cases nq
    · subst er
      have hk : k = 4 ∨ k = 5 := told_kinds hR
      have hE : ErrC K Cs k := by
        rcases hk with rfl | rfl
        · exact E4
        · exact E5
      have k1 : 1 ≤ k := by omega
      have k8 : k < 8 := by omega
      refine ⟨true, hE.ex0, fun _ a na => ?_, fun z => nomatch z⟩
      have rw1 := row_fit k k8 k1
      refine q_asgU2 (K := K) (l := pb [(word 4, decide (4 = 0 ∨ 4 = k)), (word 5, decide (5 = 0 ∨ 5 = k))]) (eu2_is (u2_lst (er_cons (eu_tup (ea_cons (ev_is (w := vs (word 4)) e_lit rfl) (ea_cons (e_isX rfl rfl hE.ec (ev_var rfl) ev_c relv_ref (hE.is 4 (by decide))) ea_nil)) (by simp)) (er_cons (eu_tup (ea_cons (ev_is (w := vs (word 5)) e_lit rfl) (ea_cons (e_isX rfl rfl hE.ec (ev_var rfl) ev_c relv_ref (hE.is 5 (by decide))) ea_nil)) (by simp)) er_nil)) (by simp)) rfl) fun p2 H2 n2 e2 h2 => ?_
      refine q_asgU2 (K := K) (l := pb [(word 4, decide (4 = 0 ∨ 4 = k)), (word 5, decide (5 = 0 ∨ 5 = k)), (word 1, decide (1 = 0 ∨ 1 = k)), (word 2, decide (2 = 0 ∨ 2 = k))]) (eu2_is (u2_cat (ev_var rfl) h2 (u2_lst (er_cons (eu_tup (ea_cons (ev_is (w := vs (word 1)) e_lit rfl) (ea_cons (e_isX rfl rfl hE.ec (ev_var rfl) ev_c relv_ref (hE.is 1 (by decide))) ea_nil)) (by simp)) (er_cons (eu_tup (ea_cons (ev_is (w := vs (word 2)) e_lit rfl) (ea_cons (e_isX rfl rfl hE.ec (ev_var rfl) ev_c relv_ref (hE.is 2 (by decide))) ea_nil)) (by simp)) er_nil)) (by simp)) (by simp [pb])) rfl) fun p3 H3 n3 e3 h3 => ?_
      refine q_asgU2 (K := K) (l := pb [(word 4, decide (4 = 0 ∨ 4 = k)), (word 5, decide (5 = 0 ∨ 5 = k)), (word 1, decide (1 = 0 ∨ 1 = k)), (word 2, decide (2 = 0 ∨ 2 = k)), (word 3, decide (3 = 0 ∨ 3 = k)), (word 6, decide (6 = 0 ∨ 6 = k))]) (eu2_is (u2_cat (ev_var rfl) h3 (u2_lst (er_cons (eu_tup (ea_cons (ev_is (w := vs (word 3)) e_lit rfl) (ea_cons (e_isX rfl rfl hE.ec (ev_var rfl) ev_c relv_ref (hE.is 3 (by decide))) ea_nil)) (by simp)) (er_cons (eu_tup (ea_cons (ev_is (w := vs (word 6)) e_lit rfl) (ea_cons (e_isX rfl rfl hE.ec (ev_var rfl) ev_c relv_ref (hE.is 6 (by decide))) ea_nil)) (by simp)) er_nil)) (by simp)) (by simp [pb])) rfl) fun p4 H4 n4 e4 h4 => ?_
      refine q_asgU2 (K := K) (l := pb (row_told k)) (eu2_is (u2_cat (ev_var rfl) h4 (u2_lst (er_cons (eu_tup (ea_cons (ev_is (w := vs (word 7)) e_lit rfl) (ea_cons (e_isX rfl rfl hE.ec (ev_var rfl) ev_c relv_ref (hE.is 7 (by decide))) ea_nil)) (by simp)) er_nil) (by simp)) (by simp [pb])) rfl) fun p5 H5 n5 e5 h5 => ?_
      refine s_retU (xs := [vs (word k), .bl true]) (eu_tup (ea_cons (ev_is (e_joinN (l := fit (row_told k)) (ev_is (w := vs []) e_lit rfl) (l_fit (m := row_told k) (i := 7) (j := 6) (ev_var rfl) h5 (show 7 ≤ 40000 by decide) (fun _ _ => rfl) (fun _ _ => rfl) (fun _ _ => rfl)) ⟨by omega, rw1.2.2, by decide⟩) (by rw [rw1.1])) (ea_cons (e_isX rfl rfl hE.ec (ev_var rfl) ev_c relv_ty hE.ve) ea_nil)) (by simp)) fun p H6 np e6 hp => ?_
      exact k0.2 k rfl p H6 (fresh_back ((((e1.trans e2).trans e3).trans e4).trans e5) np) (((((e1.trans e2).trans e3).trans e4).trans e5).trans e6) hp
def sp_law_due (K : PySem.W.Frag) : Sp := spNd fun ws H v => ∃ (ap_elder : Addr) (p_elder : List (Tx × Tx)) (ap_one : Addr) (p_one : List (Tx × Tx)) (ap_other : Addr) (p_other : List (Tx × Tx)) (ap_picks_here : Addr) (p_picks_here : List (Tx × Option Tx)), ws = [.ref ap_elder, .ref ap_one, .ref ap_other, .ref ap_picks_here] ∧ Rd H ap_elder (.dK (kd vs p_elder)) ∧ Rd H ap_one (.dK (kd vs p_one)) ∧ Rd H ap_other (.dK (kd vs p_other)) ∧ Rd H ap_picks_here (.dK (kd vo p_picks_here)) ∧ (P4 p_elder p_one p_other) ∧ v = (m_law_due p_elder p_one p_other p_picks_here)
theorem ok_law_due {f : Addr} {fd : FuncData} (F : Fun K "_law_due" "_law_due" s_law_due f fd) (z : Bt mg) (C_law_at : Cal P w K mg base 1 "_law_at" ["_law_was", "_law_left", "_law_right"] (sp_law_at K)) (C_law_splits : Cal P w K mg base 1 "_law_splits" ["_law_was", "_law_left", "_law_right"] (sp_law_splits K)) (C_law_uppers : Cal P w K mg base 1 "_law_uppers" ["_law_path"] (sp_law_uppers K)) : FnOk P w K mg base CX0 2 f fd ["_law_elder", "_law_one", "_law_other", "_law_picks_here"] (sp_law_due K) := by
  refine F.ok (k := 1) sc_law_due (fun ws H Q E h => ?_) (fun cdv A outer s H ws Q E hr h => ?_)
  · obtain ⟨_, ⟨_, _, _, _, _, _, _, _, rfl, _⟩, _⟩ := h
    rfl
  · obtain ⟨_, ⟨ap_elder, p_elder, ap_one, p_one, ap_other, p_other, ap_picks_here, p_picks_here, rfl, hSp_elder, hSp_one, hSp_other, hSp_picks_here, hpre, rfl⟩, k0⟩ := h
    have hl := hpre.1.2
    have hl4 := hpre.2
    have gk1 := dkeys_len p_elder
    have gk2 := dkeys_len p_one
    have gk3 := dkeys_len p_other
    have gun := uniT_len (((dkeys p_elder) ++ (dkeys p_one)) ++ (dkeys p_other)) []
    refine ⟨_, (pss_cons (ps_set (i := 4) sc_law_due.nd rfl (Or.inr rfl) pe_dnewK)
      (pss_cons (ps_for PassesOwn.never rfl (pi_listK K (pe_callB (call_srtM rfl) (by rfl) z.z_sorted (by decide +kernel) (pa_cons (pe_callTy (call_setL rfl) (by rfl) z.z_set (by decide +kernel) (pa_cons (pe_op op_cat (pe_op op_cat (pe_callTy (call_listDK rfl) (by rfl) z.z_list (by decide +kernel) (pa_cons (pv 0) pa_nil)) (pe_callTy (call_listDK rfl) (by rfl) z.z_list (by decide +kernel) (pa_cons (pv 1) pa_nil))) (pe_callTy (call_listDK rfl) (by rfl) z.z_list (by decide +kernel) (pa_cons (pv 2) pa_nil))) pa_nil)) pa_nil))) (pg_name (i := 5) sc_law_due.nd rfl (Or.inl rfl))
      (pss_cons (ps_set (i := 6) sc_law_due.nd rfl (Or.inl rfl) (pe_cal C_law_at (hr.mono (by decide)) (by rfl) (pa_cons (pe_dget1 (hu_of hr) (pv 0) (pv 5) ⟨rfl, rfl, rfl, rfl⟩) (pa_cons (pe_dget1 (hu_of hr) (pv 1) (pv 5) ⟨rfl, rfl, rfl, rfl⟩) (pa_cons (pe_dget1 (hu_of hr) (pv 2) (pv 5) ⟨rfl, rfl, rfl, rfl⟩) pa_nil)))))
      (pss_cons (ps_if (pt_cmp (pc_din (hu_of hr) (pv 5) (pv 3))) (pss_one (ps_set (i := 6) sc_law_due.nd rfl (Or.inl rfl) (pe_dget (hu_of hr) (pv 3) (pv 5) (fun _ _ => rfl)))) (pss_one (ps_if (pt_val (pe_cal C_law_splits (hr.mono (by decide)) (by rfl) (pa_cons (pe_dget1 (hu_of hr) (pv 0) (pv 5) ⟨rfl, rfl, rfl, rfl⟩) (pa_cons (pe_dget1 (hu_of hr) (pv 1) (pv 5) ⟨rfl, rfl, rfl, rfl⟩) (pa_cons (pe_dget1 (hu_of hr) (pv 2) (pv 5) ⟨rfl, rfl, rfl, rfl⟩) pa_nil))))) (pss_one (ps_ret pe_non)) pss_nil)))
      (pss_cut (ps_if (pt_cmpR op_notN1 (pv 6) pe_non (nomark _)) (pss_one (ps_dput (hu_of hr) (pv 4) (pv 5) (pv 6) rfl)) pss_nil)
      pss_nil))))
      (pss_cons (ps_may (ps_for PassesOwn.never rfl (pi_keys (pv 4)) (pg_name (i := 5) sc_law_due.nd rfl (Or.inl rfl))
      (pss_one (ps_if (pt_cmpR op_gt (pe_callB (call_lenK K) (by rfl) z.z_len PySem.boot_len (pa_cons (pe_lc (own := [("_law_upper", 7)]) (g := gName 7) rfl sc_law_due.nd (pi_listK K (pe_cal C_law_uppers (hr.mono (by decide)) (by rfl) (pa_cons (pv 5) pa_nil))) (blkOk_by (own := [("_law_upper", 7)]) (N := ["_law_elder", "_law_one", "_law_other", "_law_picks_here", "_law_due_here", "_law_path", "_law_line", "_law_upper"]) (sc := defScope s_law_due) (by decide +kernel)) (fun _ _ _ _ _ => pg_name (i := 7) sc_law_due.nd rfl (Or.inl rfl)) (fun _ _ _ _ _ => pts_one (pt_cmp (pc_din (hu_of hr) (pv 7) (pv 4)))) (fun _ _ _ _ _ => (pv 7))) pa_nil)) pe_int (nomark _)) (pss_one (ps_ret pe_non)) pss_nil))))
      (pss_one (ps_ret (pv 4)))))), ?_⟩
    refine q_asgK (kvs := kd vs m_law_due_v1) (ek_is k_new rfl) fun p1_due_here H1 n1a e1a h1_due_here => ?_
    have n1 := fresh_back (Ex.refl H) n1a
    have e1 := Ex.trans (Ex.refl H) e1a
    have r1 := rx_of e1
    refine q_loopN (R := (Option (List (Tx × Tx)))) (f := vs) (l := (srt (uniT [] (((dkeys p_elder) ++ (dkeys p_one)) ++ (dkeys p_other))))) (m_law_due_step1 p_elder p_one p_other p_picks_here) m_law_due_v1 (fun pN1 => (fun (s1 : List (Tx × Tx)) (σ1 : L2.St) (H1L : Hp) => ∃ (j1_0 j1_1 : Option V), σ1 = [some (.ref ap_elder), some (.ref ap_one), some (.ref ap_other), some (.ref ap_picks_here), some (.ref p1_due_here), j1_0, j1_1, none] ∧ Ex H H1L ∧ RX H H1L ∧ H1L p1_due_here = some (.dK (kd vs s1)) ∧ H1L pN1 = some (.lst (List.map vs (srt (uniT [] (((dkeys p_elder) ++ (dkeys p_one)) ++ (dkeys p_other)))))))) (l_srtS (l := (uniT [] (((dkeys p_elder) ++ (dkeys p_one)) ++ (dkeys p_other)))) (s_setL (l := (((dkeys p_elder) ++ (dkeys p_one)) ++ (dkeys p_other))) (l_catNN (g := vs) (m1 := ((dkeys p_elder) ++ (dkeys p_one))) (m2 := (dkeys p_other)) (l_catNN (g := vs) (m1 := (dkeys p_elder)) (m2 := (dkeys p_one)) (l_keysD (f := vs) (l := p_elder) (ev_var rfl) (r1 _ _ hSp_elder)) (l_keysD (f := vs) (l := p_one) (ev_var rfl) (r1 _ _ hSp_one)) (by walk_at "vside")) (l_keysD (f := vs) (l := p_other) (ev_var rfl) (r1 _ _ hSp_other)) (by walk_at "vside")) (by walk_at "vside"))) (fun pN1 H11 nN1 e11a hN1 => ⟨_, _, rfl, (Ex.trans e1 e11a), (rx_of (Ex.trans e1 e11a)), e11a _ _ h1_due_here, hN1⟩) (fun pN1 s σ H hq => by obtain ⟨j1_0, j1_1, rfl, e1L, r1L, h1_due_here, hNL1⟩ := hq; exact sq_of hNL1) (fun pN1 nNa1 => ?_) (fun pN1 nNa1 => ?_)
    · have nN1 := rx_free r1 nNa1
      have d_p1_due_here_pN1 := ne_of_none h1_due_here nNa1
      intro Nx1 Bk1 i1 s1 y1 σ1 H1L hy1 hrun1 hq1 hnx1 hbk1 hrt1
      obtain ⟨j1_0, j1_1, rfl, e1L, r1L, h1_due_here, hNL1⟩ := hq1
      have hm1 := List.mem_of_getElem? hy1
      have hlt1 := (List.getElem?_eq_some_iff.mp hy1).1
      have g1 := due_loop hpre hrun1 hy1
      have kq1_0 : (m_law_due_step1 p_elder p_one p_other p_picks_here) s1 y1 = (if (dhas p_picks_here y1) = true then (Stp.go (m_law_due_v5 p_picks_here y1 s1)) else (if (m_law_splits (dget p_elder y1) (dget p_one y1) (dget p_other y1)) = true then (Stp.ret none) else (Stp.go (m_law_due_v7 p_elder y1 p_one p_other s1)))) := rfl
      refine q_asg (v := vo (m_law_due_v2 p_elder y1 p_one p_other)) (ev_is (ev_call (ea_cons (e_get1 (l := p_elder) (k := y1) (ev_var rfl) (ev_var rfl) (r1L _ _ hSp_elder)) (ea_cons (e_get1 (l := p_one) (k := y1) (ev_var rfl) (ev_var rfl) (r1L _ _ hSp_one)) (ea_cons (e_get1 (l := p_other) (k := y1) (ev_var rfl) (ev_var rfl) (r1L _ _ hSp_other)) ea_nil))) (sv_of fun HC eC => ⟨_, _, _, rfl, rfl⟩)) rfl) fun H2 e2a => ?_
      have e2 := Ex.trans e1L e2a
      have r2 := rx_of e2
      have h1_due_here := e2a _ _ h1_due_here
      have hNL1 := e2a _ _ hNL1
      refine q_if (b := (dhas p_picks_here y1)) (et_B (e_inD (f := vo) (l := p_picks_here) (k := y1) (ev_var rfl) (ev_var rfl) (r2 _ _ hSp_picks_here))) (fun hb3 H3 e3a => ?_) (fun hb3 H3 e3a => ?_)
      · have e3 := Ex.trans e2 e3a
        have r3 := rx_of e3
        have h1_due_here := e3a _ _ h1_due_here
        have hNL1 := e3a _ _ hNL1
        have kq1_1 := kq_T kq1_0 hb3
        refine s_asg (v := vo (m_law_due_v3 p_picks_here y1)) (ev_is (e_getD (f := vo) (l := p_picks_here) (k := y1) none (ev_var rfl) (ev_var rfl) (r3 _ _ hSp_picks_here) (by walk_at "vside")) rfl) fun H4 e4a => ?_
        have e4 := Ex.trans e3 e4a
        have r4 := rx_of e4
        have h1_due_here := e4a _ _ h1_due_here
        have hNL1 := e4a _ _ hNL1
        refine q_cut (M := (fun (σ5m : L2.St) (H5m : Hp) => ∃ (jm5_line : Option V), σ5m = [some (.ref ap_elder), some (.ref ap_one), some (.ref ap_other), some (.ref ap_picks_here), some (.ref p1_due_here), some (vs y1), jm5_line, none] ∧ Ex H H5m ∧ RX H H5m ∧ H5m p1_due_here = some (.dK (kd vs (m_law_due_v5 p_picks_here y1 s1))) ∧ H5m pN1 = some (.lst (List.map vs (srt (uniT [] (((dkeys p_elder) ++ (dkeys p_one)) ++ (dkeys p_other)))))))) ?_ ?_
        · refine s_when (b := ((m_law_due_v3 p_picks_here y1).isSome)) (et_test (e_notN (x := (m_law_due_v3 p_picks_here y1)) (ev_var rfl) ev_c)) (fun hb5 H5 e5a => ?_) (fun hb5 H5 e5a => ?_)
          · have e5 := Ex.trans e4 e5a
            have r5 := rx_of e5
            have h1_due_here := e5a _ _ h1_due_here
            have hNL1 := e5a _ _ hNL1
            rw [vo_some (x := (m_law_due_v3 p_picks_here y1)) hb5]
            refine s_putD (f := vs) (l := s1) (k := y1) (v := ((m_law_due_v3 p_picks_here y1).getD [])) (ev_var rfl) (ev_var rfl) (ev_var rfl) h1_due_here (by walk_at "vside") fun H6 m6 => ?_
            have e6 := Mu.ex m6 e5 n1
            have r6 := rx_of e6
            have hNL1 := Mu.keep m6 (by first | exact d_pN1_p1_due_here | exact Ne.symm d_p1_due_here_pN1) hNL1
            have h1_due_here : H6 p1_due_here = some (.dK (kd vs (m_law_due_v4 s1 y1 p_picks_here))) := Mu.at m6
            have hV5_0 : (m_law_due_v5 p_picks_here y1 s1) = (m_law_due_v4 s1 y1 p_picks_here) := if_pos hb5
            exact ⟨_, rfl, e6, r6, (by rw [hV5_0]; exact h1_due_here), hNL1⟩
          · have e5 := Ex.trans e4 e5a
            have r5 := rx_of e5
            have h1_due_here := e5a _ _ h1_due_here
            have hNL1 := e5a _ _ hNL1
            have hV5_0 : (m_law_due_v5 p_picks_here y1 s1) = s1 := if_neg (by rw [hb5]; exact Bool.false_ne_true)
            exact ⟨_, rfl, e5, r5, (by rw [hV5_0]; exact h1_due_here), hNL1⟩
        · intro σ5m H5m hq5m
          obtain ⟨jm5_line, rfl, e5m, r5m, h1_due_here, hNL1⟩ := hq5m
          exact hnx1 (m_law_due_v5 p_picks_here y1 s1) _ _ kq1_1 ⟨_, _, rfl, e5m, r5m, h1_due_here, hNL1⟩
      · have e3 := Ex.trans e2 e3a
        have r3 := rx_of e3
        have h1_due_here := e3a _ _ h1_due_here
        have hNL1 := e3a _ _ hNL1
        have kq1_2 := kq_F kq1_0 hb3
        refine s_when (b := (m_law_splits (dget p_elder y1) (dget p_one y1) (dget p_other y1))) (et_B (ev_call (ea_cons (e_get1 (l := p_elder) (k := y1) (ev_var rfl) (ev_var rfl) (r3 _ _ hSp_elder)) (ea_cons (e_get1 (l := p_one) (k := y1) (ev_var rfl) (ev_var rfl) (r3 _ _ hSp_one)) (ea_cons (e_get1 (l := p_other) (k := y1) (ev_var rfl) (ev_var rfl) (r3 _ _ hSp_other)) ea_nil))) (sv_of fun HC eC => ⟨_, _, _, rfl, rfl⟩))) (fun hb7 H7 e7a => ?_) (fun hb7 H7 e7a => ?_)
        · have e7 := Ex.trans e3 e7a
          have r7 := rx_of e7
          have h1_due_here := e7a _ _ h1_due_here
          have hNL1 := e7a _ _ hNL1
          have kq1_3 := kq_T kq1_2 hb7
          have kr1 := hrt1 _ kq1_3
          exact s_ret ev_c fun H8 e8a => (RetV.go (show RetV (.non) _ _ from (retNd_run k0 kr1)) (Ex.trans e7 e8a))
        · have e7 := Ex.trans e3 e7a
          have r7 := rx_of e7
          have h1_due_here := e7a _ _ h1_due_here
          have hNL1 := e7a _ _ hNL1
          have kq1_4 := kq_F kq1_2 hb7
          refine q_cut (M := (fun (σ9m : L2.St) (H9m : Hp) => ∃ (jm9_line : Option V), σ9m = [some (.ref ap_elder), some (.ref ap_one), some (.ref ap_other), some (.ref ap_picks_here), some (.ref p1_due_here), some (vs y1), jm9_line, none] ∧ Ex H H9m ∧ RX H H9m ∧ H9m p1_due_here = some (.dK (kd vs (m_law_due_v7 p_elder y1 p_one p_other s1))) ∧ H9m pN1 = some (.lst (List.map vs (srt (uniT [] (((dkeys p_elder) ++ (dkeys p_one)) ++ (dkeys p_other)))))))) ?_ ?_
          · refine s_when (b := ((m_law_due_v2 p_elder y1 p_one p_other).isSome)) (et_test (e_notN (x := (m_law_due_v2 p_elder y1 p_one p_other)) (ev_var rfl) ev_c)) (fun hb9 H9 e9a => ?_) (fun hb9 H9 e9a => ?_)
            · have e9 := Ex.trans e7 e9a
              have r9 := rx_of e9
              have h1_due_here := e9a _ _ h1_due_here
              have hNL1 := e9a _ _ hNL1
              rw [vo_some (x := (m_law_due_v2 p_elder y1 p_one p_other)) hb9]
              refine s_putD (f := vs) (l := s1) (k := y1) (v := ((m_law_due_v2 p_elder y1 p_one p_other).getD [])) (ev_var rfl) (ev_var rfl) (ev_var rfl) h1_due_here (by walk_at "vside") fun H10 m10 => ?_
              have e10 := Mu.ex m10 e9 n1
              have r10 := rx_of e10
              have hNL1 := Mu.keep m10 (by first | exact d_pN1_p1_due_here | exact Ne.symm d_p1_due_here_pN1) hNL1
              have h1_due_here : H10 p1_due_here = some (.dK (kd vs (m_law_due_v6 s1 y1 p_elder p_one p_other))) := Mu.at m10
              have hV9_0 : (m_law_due_v7 p_elder y1 p_one p_other s1) = (m_law_due_v6 s1 y1 p_elder p_one p_other) := if_pos hb9
              exact ⟨_, rfl, e10, r10, (by rw [hV9_0]; exact h1_due_here), hNL1⟩
            · have e9 := Ex.trans e7 e9a
              have r9 := rx_of e9
              have h1_due_here := e9a _ _ h1_due_here
              have hNL1 := e9a _ _ hNL1
              have hV9_0 : (m_law_due_v7 p_elder y1 p_one p_other s1) = s1 := if_neg (by rw [hb9]; exact Bool.false_ne_true)
              exact ⟨_, rfl, e9, r9, (by rw [hV9_0]; exact h1_due_here), hNL1⟩
          · intro σ9m H9m hq9m
            obtain ⟨jm9_line, rfl, e9m, r9m, h1_due_here, hNL1⟩ := hq9m
            exact hnx1 (m_law_due_v7 p_elder y1 p_one p_other s1) _ _ kq1_4 ⟨_, _, rfl, e9m, r9m, h1_due_here, hNL1⟩
    · intro s1 σ1 H1L hr1 hq1
      obtain ⟨j1_0, j1_1, rfl, e1L, r1L, h1_due_here, hNL1⟩ := hq1
      have k2r := retNd_go k0 hr1
      have h_old2 := h1_due_here
      refine q_loopK (R := (Option (List (Tx × Tx)))) (f := vs) (l := s1) (m_law_due_step2 s1) () (fun U2 o2 => (fun (s2 : Unit) (σ2 : L2.St) (H2L : Hp) => ∃ (j2_0 : Option V), σ2 = [some (.ref ap_elder), some (.ref ap_one), some (.ref ap_other), some (.ref ap_picks_here), some (.ref p1_due_here), j2_0, j1_1, none] ∧ Ex H (unl [(p1_due_here, U2)] H2L) ∧ RX H H2L ∧ H2L p1_due_here = some (.frz o2 (.dK (kd vs s1))))) rfl (Or.inl h1_due_here) (fun U2 o2 hU2 hUd2 => ?_) (fun U2 o2 s σ H hq => by obtain ⟨j2_0, rfl, e2L, r2L, h1_due_here⟩ := hq; exact h1_due_here) (fun U2 o2 Rt2 hU2 hUd2 hRt2 => ?_) (fun U2 o2 s2 σ2 H2L hU2 hUd2 hr2 hq2 => ?_)
      · exact ⟨_, rfl, unl_lock (ls := []) e1L hU2, rx_updn r1L n1, upd_same⟩
      · intro Nx2 Bk2 i2 s2 y2 σ2 H2L hy2 hrun2 hq2 hnx2 hbk2 hrt2
        obtain ⟨j2_0, rfl, e2L, r2L, h1_due_here⟩ := hq2
        have hm2 := List.mem_of_getElem? hy2
        have hlt2 := (List.getElem?_eq_some_iff.mp hy2).1
        have gu2 := due_short hpre hr1 hm2
        have kq2_0 : (m_law_due_step2 s1) s2 y2 = (if (decide (((((m_law_uppers y2).filter (fun k0 : Tx => (dhas s1 k0))).map (fun k0 : Tx => k0)).length : Int) > (0 : Int))) = true then (Stp.ret none) else (Stp.go ())) := rfl
        refine s_when (b := (decide (((((m_law_uppers y2).filter (fun k0 : Tx => (dhas s1 k0))).map (fun k0 : Tx => k0)).length : Int) > (0 : Int)))) (et_test (e_gt (e_lenN (f := vs) (l := (((m_law_uppers y2).filter (fun k0 : Tx => (dhas s1 k0))).map (fun k0 : Tx => k0))) (l_filN (K := K) (f := vs) (m := (m_law_uppers y2)) (f2 := vs) (fun k0 : Tx => (dhas s1 k0)) (fun k0 : Tx => k0) [] (el_call (ea_cons (ev_var rfl) ea_nil) (sl_of fun HC eC => ⟨_, rfl, (by walk_at "vside"), rfl⟩)) (by walk_at "vside") (fun k0 hm => (et_B (e_inD (f := vs) (l := s1) (k := k0) (ev_var rfl) (ev_var rfl) (Or.inr ⟨_, h1_due_here⟩)))) (fun k0 hm hc => (ev_var rfl)))) ev_c)) (fun hb13 H13 e13a => ?_) (fun hb13 H13 e13a => ?_)
        · have e13 := unl_grow (ls := [(p1_due_here, U2)]) e2L e13a
          have r13 := RX.trans r2L (rx_of e13a)
          have h1_due_here := e13a _ _ h1_due_here
          have kq2_1 := kq_T kq2_0 hb13
          have kr2 := hrt2 _ kq2_1
          exact s_ret ev_c fun H14 e14a => (hRt2 _ _ (e14a _ _ h1_due_here) (RetV.go (show RetV (.non) _ _ from (retNd_run k2r kr2)) (unl_grow (ls := [(p1_due_here, U2)]) e13 e14a)))
        · have e13 := unl_grow (ls := [(p1_due_here, U2)]) e2L e13a
          have r13 := RX.trans r2L (rx_of e13a)
          have h1_due_here := e13a _ _ h1_due_here
          have kq2_2 := kq_F kq2_0 hb13
          exact hnx2 () _ _ kq2_2 ⟨_, rfl, e13, r13, h1_due_here⟩
      · obtain ⟨j2_0, rfl, e2L, r2L, h1_due_here⟩ := hq2
        obtain rfl := Option.some.inj (hU2.symm.trans h_old2)
        have h1_due_here := upd_same (H := H2L) (a := p1_due_here) (o := .dK (kd vs s1))
        have e2L := unl_open (ls := []) e2L
        have r2L := rx_updn (Y := .dK (kd vs s1)) r2L n1
        have k4r := retNd_go k2r hr2
        exact s_ret (ev_var rfl) fun H17 e17a => (show RetK (kd vs s1) _ _ from k4r) _ _ n1 (Ex.trans e2L e17a) (e17a _ _ h1_due_here)
def sp_law (K : PySem.W.Frag) : Sp := spP fun ws H v => ∃ (ap_script : Addr) (p_script : List Int), ws = [.ref ap_script] ∧ SqL K H ap_script (List.map V.int p_script) ∧ v = V.bl (m_law p_script)
theorem ok_law {f : Addr} {fd : FuncData} (F : Fun K "law" "law" s_law f fd) (z : Bt mg) (C_law_trees : Cal P w K mg base 5 "_law_trees" ["_law_script"] (sp_law_trees K)) (C_law_places : Cal P w K mg base 2 "_law_places" ["_law_elder", "_law_one", "_law_other"] (sp_law_places K)) (C_law_picks : Cal P w K mg base 2 "_law_picks" ["_law_places_here", "_law_script", "_law_trees_here"] (sp_law_picks K)) (C_law_due : Cal P w K mg base 2 "_law_due" ["_law_elder", "_law_one", "_law_other", "_law_picks_here"] (sp_law_due K)) (C_law_cell_at : Cal P w K mg base 1 "_law_cell_at" ["_law_script", "_law_k"] (sp_law_cell_at K)) (C_law_told : Cal P w K mg base 6 "_law_told" ["_law_elder", "_law_one", "_law_other", "_law_picks_here"] (sp_law_told K)) : FnOk P w K mg base CX0 7 f fd ["_law_script"] (sp_law K) := by
  refine F.ok (k := 6) sc_law (fun ws H Q E h => ?_) (fun cdv A outer s H ws Q E hr h => ?_)
  · obtain ⟨_, ⟨_, _, rfl, _⟩, _⟩ := h
    rfl
  · obtain ⟨_, ⟨ap_script, p_script, rfl, hSp_script, rfl⟩, k0⟩ := h
    have L_lMade := len_lMade
    have L_l_20ed7699 := len_l_20ed7699
    have L_l_f8be0e12 := len_l_f8be0e12
    have L_l_82bac741 := len_l_82bac741
    have L_l_7dbde935 := len_l_7dbde935
    have L_lX := len_lX
    have L_l_0cd5a837 := len_l_0cd5a837
    have L_lY := len_lY
    refine ⟨_, (pss_cons (ps_asg (pe_cal C_law_trees (hr.mono (by decide)) (by rfl) (pa_cons (pv 0) pa_nil)) (pg_tupK K rfl (pgs_cons (pg_name (i := 6) sc_law.nd rfl (Or.inl rfl)) (pgs_cons (pg_name (i := 7) sc_law.nd rfl (Or.inl rfl)) (pgs_cons (pg_name (i := 8) sc_law.nd rfl (Or.inl rfl)) pgs_nil)))))
      (pss_cons (ps_set (i := 1) sc_law.nd rfl (Or.inl rfl) (pe_cal C_law_places (hr.mono (by decide)) (by rfl) (pa_cons (pv 6) (pa_cons (pv 7) (pa_cons (pv 8) pa_nil)))))
      (pss_cons (ps_set (i := 2) sc_law.nd rfl (Or.inl rfl) (pe_cal C_law_picks (hr.mono (by decide)) (by rfl) (pa_cons (pv 1) (pa_cons (pv 0) (pa_cons (pe_lst (pa_cons (pv 6) (pa_cons (pv 7) (pa_cons (pv 8) pa_nil)))) pa_nil)))))
      (pss_cons (ps_set (i := 3) sc_law.nd rfl (Or.inl rfl) pe_str)
      (pss_cons (ps_set (i := 4) sc_law.nd rfl (Or.inl rfl) (pe_cal C_law_due (hr.mono (by decide)) (by rfl) (pa_cons (pv 6) (pa_cons (pv 7) (pa_cons (pv 8) (pa_cons (pv 2) pa_nil))))))
      (pss_cons (ps_if (pt_cmpR op_isN1 (pv 4) pe_non (nomark _)) (pss_one (ps_set (i := 3) sc_law.nd rfl (Or.inl rfl) pe_str)) pss_nil)
      (pss_cut (ps_if (pt_cmpR op_eq (pe_op op_mod (pe_cal C_law_cell_at (hr.mono (by decide)) (by rfl) (pa_cons (pv 0) (pa_cons pe_int pa_nil))) pe_int) pe_int (nomark _)) (pss_cons (ps_set (i := 9) sc_law.nd rfl (Or.inl rfl) (pe_ix (ix_listK K) (pe_lst (pa_cons pe_str (pa_cons pe_str (pa_cons pe_str pa_nil)))) (pe_op op_mod (pe_op op_fdiv (pe_cal C_law_cell_at (hr.mono (by decide)) (by rfl) (pa_cons (pv 0) (pa_cons pe_int pa_nil))) pe_int) pe_int) (fun _ _ => rfl)))
      (pss_cut (ps_if (pt_cmpR (op_niK K) (pv 9) (pv 1) (by rfl)) (pss_cons (ps_dput (hu_of hr) (pv 2) (pv 9) (pe_ix (ix_listK K) (pe_lst (pa_cons pe_str (pa_cons pe_non pa_nil))) (pe_op op_mod (pe_op op_fdiv (pe_cal C_law_cell_at (hr.mono (by decide)) (by rfl) (pa_cons (pv 0) (pa_cons pe_int pa_nil))) pe_int) pe_int) (fun _ _ => rfl)) rfl)
      (pss_one (ps_set (i := 3) sc_law.nd rfl (Or.inl rfl) pe_str))) pss_nil)
      pss_nil)) pss_nil)
      (pss_cons (ps_set (i := 5) sc_law.nd rfl (Or.inl rfl) (pe_lst (pa_cons (pe_callTy call_dictD (by rfl) z.z_dict (by decide +kernel) (pa_cons (pv 6) pa_nil)) (pa_cons (pe_callTy call_dictD (by rfl) z.z_dict (by decide +kernel) (pa_cons (pv 7) pa_nil)) (pa_cons (pe_callTy call_dictD (by rfl) z.z_dict (by decide +kernel) (pa_cons (pv 8) pa_nil)) (pa_cons (pe_callTy call_dictD (by rfl) z.z_dict (by decide +kernel) (pa_cons (pv 2) pa_nil)) pa_nil))))))
      (pss_cons (ps_for PassesOwn.never rfl (pi_listK K (pe_lst (pa_cons (pe_tup (pa_cons (pv 7) (pa_cons (pv 8) pa_nil))) (pa_cons (pe_tup (pa_cons (pv 8) (pa_cons (pv 7) pa_nil))) pa_nil)))) (pg_tupK K rfl (pgs_cons (pg_name (i := 10) sc_law.nd rfl (Or.inl rfl)) (pgs_cons (pg_name (i := 11) sc_law.nd rfl (Or.inl rfl)) pgs_nil)))
      (pss_cons (ps_set (i := 12) sc_law.nd rfl (Or.inl rfl) (pe_cal C_law_told (hr.mono (by decide)) (by rfl) (pa_cons (pv 6) (pa_cons (pv 10) (pa_cons (pv 11) (pa_cons (pv 2) pa_nil))))))
      (pss_cons (ps_if (PW.pt (pw_or (pt_cmpR op_ne (pe_ix (ix_tupK K) (pv 12) pe_int (fun _ _ => rfl)) (pv 3) (nomark _)) (pw_or1 (pt_cmpR (op_qNeLK K hr.units) (pe_lst (pa_cons (pv 6) (pa_cons (pv 7) (pa_cons (pv 8) (pa_cons (pv 2) pa_nil))))) (pv 5) (nomark _))))) (pss_one (ps_ret pe_bl)) pss_nil)
      (pss_cons (ps_if (PW.pt (pw_and (pt_cmpR op_ne (pv 3) pe_str (nomark _)) (pw_and1 (pt_cmpR op_notBl (pe_ix (ix_tupK K) (pv 12) pe_int (fun _ _ => rfl)) pe_bl (nomark _))))) (pss_one (ps_ret pe_bl)) pss_nil)
      (pss_one (ps_if (pt_cmpR op_eq (pv 3) pe_str (nomark _)) (pss_cons (ps_if (PW.pt (pw_or (pt_not (pt_val (pe_callB (call_isiK' K) (by rfl) z.z_isinstance (by decide +kernel) (pa_cons (pe_ix (ix_tupK K) (pv 12) pe_int (fun _ _ => rfl)) (pa_cons (pe_bltn (v := .ty "dict") (by rfl) z.z_dict (by decide +kernel) rfl) pa_nil))))) (pw_or1 (pt_cmpR (op_ne_dictA hr.units0) (pe_ix (ix_tupK K) (pv 12) pe_int (fun _ _ => rfl)) (pv 4) (nomark _))))) (pss_one (ps_ret pe_bl)) pss_nil)
      (pss_one (ps_dput (hu_of hr) (pe_ix (ix_tupK K) (pv 12) pe_int (fun _ _ => rfl)) pe_str pe_str rfl))) pss_nil))))))
      (pss_one (ps_ret (pe_cmpR (op_qEqK K hr.units) (pe_lst (pa_cons (pv 6) (pa_cons (pv 7) (pa_cons (pv 8) (pa_cons (pv 2) pa_nil))))) (pv 5) (nomark _))))))))))))), ?_⟩
    refine q_unpT3 (K := K) (ea_cons (ev_var rfl) ea_nil) (fun HC eC => ⟨_, _, rfl, ex_l eC (rx_l (RX.refl H) hSp_script), rfl⟩) fun p1_elder p1_one p1_other H1 n1a0 n1a1 n1a2 d_p1_elder_p1_one d_p1_elder_p1_other d_p1_one_p1_other e1a h1_elder h1_one h1_other => ?_
    have n1_0 := fresh_back (Ex.refl H) n1a0
    have n1_1 := fresh_back (Ex.refl H) n1a1
    have n1_2 := fresh_back (Ex.refl H) n1a2
    have e1 := Ex.trans (Ex.refl H) e1a
    have r1 := rx_of e1
    have h1_elder : H1 p1_elder = some (.dK (kd vs (m_law_v1 p_script))) := h1_elder
    have h1_one : H1 p1_one = some (.dK (kd vs (m_law_v2 p_script))) := h1_one
    have h1_other : H1 p1_other = some (.dK (kd vs (m_law_v3 p_script))) := h1_other
    have gp := law_P4 p_script
    have gps := law_P4s p_script
    refine q_asgL (xs := List.map vs (m_law_v4 p_script)) (el_is (el_call (ea_cons (ev_var rfl) (ea_cons (ev_var rfl) (ea_cons (ev_var rfl) ea_nil))) (sl_of fun HC eC => ⟨_, _, _, _, _, _, rfl, ex_rd eC (Or.inl h1_elder), ex_rd eC (Or.inl h1_one), ex_rd eC (Or.inl h1_other), (by walk_at "vside"), rfl⟩)) rfl) fun p2_places_here H2 n2a e2a h2_places_here => ?_
    have n2 := fresh_back e1 n2a
    have d_p1_elder_p2_places_here := ne_of_none h1_elder n2a
    have d_p1_one_p2_places_here := ne_of_none h1_one n2a
    have d_p1_other_p2_places_here := ne_of_none h1_other n2a
    have e2 := Ex.trans e1 e2a
    have r2 := rx_of e2
    have h1_elder := e2a _ _ h1_elder
    have h1_one := e2a _ _ h1_one
    have h1_other := e2a _ _ h1_other
    have fm_law_v4 : List.length (m_law_v4 p_script) = List.length ((m_law_places (m_law_v1 p_script) (m_law_v2 p_script) (m_law_v3 p_script))) := rfl
    have gpl := law_places p_script
    have gpl7 : (m_law_v4 p_script).length ≤ 700 := Nat.le_trans gpl (by decide)
    refine q_asgK (kvs := kd vo (m_law_v5 p_script)) (ek_is (k_callA (ax_v (ev_var rfl) (ax_v (ev_var rfl) (ax_l (el_lst (ea_cons (ev_var rfl) (ea_cons (ev_var rfl) (ea_cons (ev_var rfl) ea_nil))) (by simp)) ax_nil))) (fun ws HC eC hP => by obtain ⟨_, rfl, _, rfl, pA2, _, rfl, hA2, rfl⟩ := hP; exact ⟨_, _, _, _, _, _, _, _, _, _, _, rfl, ex_l eC (sq_of h2_places_here), ex_l eC (rx_l r2 hSp_script), ⟨sq_of hA2, ex_rd eC (Or.inl h1_elder), ex_rd eC (Or.inl h1_one), ex_rd eC (Or.inl h1_other)⟩, (by walk_at "vside"), rfl⟩)) rfl) fun p3_picks_here H3 n3a e3a h3_picks_here => ?_
    have n3 := fresh_back e2 n3a
    have d_p1_elder_p3_picks_here := ne_of_none h1_elder n3a
    have d_p1_one_p3_picks_here := ne_of_none h1_one n3a
    have d_p1_other_p3_picks_here := ne_of_none h1_other n3a
    have d_p2_places_here_p3_picks_here := ne_of_none h2_places_here n3a
    have e3 := Ex.trans e2 e3a
    have r3 := rx_of e3
    have h1_elder := e3a _ _ h1_elder
    have h1_one := e3a _ _ h1_one
    have h1_other := e3a _ _ h1_other
    have h2_places_here := e3a _ _ h2_places_here
    have gpk := (v5_ok p_script).1.2
    refine q_asg (v := vs m_law_v6) (ev_is (ev_is (w := vs lMade) e_lit rfl) rfl) fun H4 e4a => ?_
    have e4 := Ex.trans e3 e4a
    have r4 := rx_of e4
    have h1_elder := e4a _ _ h1_elder
    have h1_one := e4a _ _ h1_one
    have h1_other := e4a _ _ h1_other
    have h2_places_here := e4a _ _ h2_places_here
    have h3_picks_here := e4a _ _ h3_picks_here
    have fm_law_v6 : List.length m_law_v6 = List.length (lMade) := rfl
    refine q_asgN (r := (m_law_due (m_law_v1 p_script) (m_law_v2 p_script) (m_law_v3 p_script) (m_law_v5 p_script))) (ea_cons (ev_var rfl) (ea_cons (ev_var rfl) (ea_cons (ev_var rfl) (ea_cons (ev_var rfl) ea_nil)))) (fun HC eC => ⟨_, _, _, _, _, _, _, _, rfl, ex_rd eC (Or.inl h1_elder), ex_rd eC (Or.inl h1_one), ex_rd eC (Or.inl h1_other), ex_rd eC (Or.inl h3_picks_here), (by walk_at "vside"), rfl⟩) (fun lT5 hT5 p5_due_here H5 n5a e5a h5_due_here => ?_) (fun hT5 H5 e5a => ?_)
    · have n5 := fresh_back e4 n5a
      have d_p1_elder_p5_due_here := ne_of_none h1_elder n5a
      have d_p1_one_p5_due_here := ne_of_none h1_one n5a
      have d_p1_other_p5_due_here := ne_of_none h1_other n5a
      have d_p2_places_here_p5_due_here := ne_of_none h2_places_here n5a
      have d_p3_picks_here_p5_due_here := ne_of_none h3_picks_here n5a
      have e5 := Ex.trans e4 e5a
      have r5 := rx_of e5
      have h1_elder := e5a _ _ h1_elder
      have h1_one := e5a _ _ h1_one
      have h1_other := e5a _ _ h1_other
      have h2_places_here := e5a _ _ h2_places_here
      have h3_picks_here := e5a _ _ h3_picks_here
      have k1some := ret_some (f := V.bl) k0 hT5
      have hdue := hT5
      refine q_ifSet (f := vs) (z := m_law_v7) (et_test (e_isNR (ev_var rfl) ev_c)) (fun hc => (ev_is (w := vs l_20ed7699) e_lit rfl)) rfl rfl fun H6 e6a => ?_
      have e6 := Ex.trans e5 e6a
      have r6 := rx_of e6
      have h1_elder := e6a _ _ h1_elder
      have h1_one := e6a _ _ h1_one
      have h1_other := e6a _ _ h1_other
      have h2_places_here := e6a _ _ h2_places_here
      have h3_picks_here := e6a _ _ h3_picks_here
      have h5_due_here := e6a _ _ h5_due_here
      refine q_cut (M := (fun (σ7m : L2.St) (H7m : Hp) => ∃ (jm7_odd : Option V), σ7m = [some (.ref ap_script), some (.ref p2_places_here), some (.ref p3_picks_here), some (vs (m_law_v14 p_script)), some (.ref p5_due_here), none, some (.ref p1_elder), some (.ref p1_one), some (.ref p1_other), jm7_odd, none, none, none] ∧ Ex H H7m ∧ RX H H7m ∧ H7m p2_places_here = some (.lst (List.map vs (m_law_v4 p_script))) ∧ H7m p3_picks_here = some (.dK (kd vo (m_law_v13 p_script))) ∧ H7m p5_due_here = some (.dK (kd vs lT5)) ∧ H7m p1_elder = some (.dK (kd vs (m_law_v1 p_script))) ∧ H7m p1_one = some (.dK (kd vs (m_law_v2 p_script))) ∧ H7m p1_other = some (.dK (kd vs (m_law_v3 p_script))))) ?_ ?_
      · refine s_when (b := (decide (((m_law_cell_at p_script (28 : Int)) % (6 : Int)) = (1 : Int)))) (et_test (e_eqI (e_mod (ev_call (ea_cons (ev_var rfl) (ea_cons ev_c ea_nil)) (sv_of fun HC eC => ⟨_, _, _, rfl, ex_l eC (rx_l r6 hSp_script), (by walk_at "vside"), rfl⟩)) ev_c (by walk_at "vside")) ev_c)) (fun hb7 H7 e7a => ?_) (fun hb7 H7 e7a => ?_)
        · have e7 := Ex.trans e6 e7a
          have r7 := rx_of e7
          have h1_elder := e7a _ _ h1_elder
          have h1_one := e7a _ _ h1_one
          have h1_other := e7a _ _ h1_other
          have h2_places_here := e7a _ _ h2_places_here
          have h3_picks_here := e7a _ _ h3_picks_here
          have h5_due_here := e7a _ _ h5_due_here
          refine q_asg (v := vs (m_law_v8 p_script)) (ev_is (e_ixN (f := vs) (l := [l_f8be0e12, l_82bac741, l_7dbde935]) [] (el_lst (ea_cons (ev_is (w := vs l_f8be0e12) e_lit rfl) (ea_cons (ev_is (w := vs l_82bac741) e_lit rfl) (ea_cons (ev_is (w := vs l_7dbde935) e_lit rfl) ea_nil))) (by simp)) (e_mod (e_div (ev_call (ea_cons (ev_var rfl) (ea_cons ev_c ea_nil)) (sv_of fun HC eC => ⟨_, _, _, rfl, ex_l eC (rx_l r7 hSp_script), (by walk_at "vside"), rfl⟩)) ev_c (by walk_at "vside")) ev_c (by walk_at "vside")) (by walk_at "vside")) rfl) fun H8 e8a => ?_
          have e8 := Ex.trans e7 e8a
          have r8 := rx_of e8
          have h1_elder := e8a _ _ h1_elder
          have h1_one := e8a _ _ h1_one
          have h1_other := e8a _ _ h1_other
          have h2_places_here := e8a _ _ h2_places_here
          have h3_picks_here := e8a _ _ h3_picks_here
          have h5_due_here := e8a _ _ h5_due_here
          have fm_law_v8 : List.length (m_law_v8 p_script) = List.length (([l_f8be0e12, l_82bac741, l_7dbde935].getD (((m_law_cell_at p_script (28 : Int)) / (6 : Int)) % (3 : Int)).toNat [])) := rfl
          refine q_cut (M := (fun (σ9m : L2.St) (H9m : Hp) => σ9m = [some (.ref ap_script), some (.ref p2_places_here), some (.ref p3_picks_here), some (vs (m_law_v12 p_script)), some (.ref p5_due_here), none, some (.ref p1_elder), some (.ref p1_one), some (.ref p1_other), some (vs (m_law_v8 p_script)), none, none, none] ∧ Ex H H9m ∧ RX H H9m ∧ H9m p2_places_here = some (.lst (List.map vs (m_law_v4 p_script))) ∧ H9m p3_picks_here = some (.dK (kd vo (m_law_v11 p_script))) ∧ H9m p5_due_here = some (.dK (kd vs lT5)) ∧ H9m p1_elder = some (.dK (kd vs (m_law_v1 p_script))) ∧ H9m p1_one = some (.dK (kd vs (m_law_v2 p_script))) ∧ H9m p1_other = some (.dK (kd vs (m_law_v3 p_script))))) ?_ ?_
          · refine s_when (b := (!decide ((m_law_v8 p_script) ∈ (m_law_v4 p_script)))) (et_test (e_niR (l := (m_law_v4 p_script)) (ev_var rfl) (ev_var rfl) (sq_of h2_places_here))) (fun hb9 H9 e9a => ?_) (fun hb9 H9 e9a => ?_)
            · have e9 := Ex.trans e8 e9a
              have r9 := rx_of e9
              have h1_elder := e9a _ _ h1_elder
              have h1_one := e9a _ _ h1_one
              have h1_other := e9a _ _ h1_other
              have h2_places_here := e9a _ _ h2_places_here
              have h3_picks_here := e9a _ _ h3_picks_here
              have h5_due_here := e9a _ _ h5_due_here
              refine q_putD (f := vo) (l := (m_law_v5 p_script)) (k := (m_law_v8 p_script)) (v := ([(some lX), none].getD (((m_law_cell_at p_script (28 : Int)) / (18 : Int)) % (2 : Int)).toNat none)) (e_ixN (f := vo) (l := [(some lX), none]) none (el_lst (ea_cons (ev_is (w := vo (some lX)) (ev_is (w := vs lX) e_lit rfl) rfl) (ea_cons (ev_is (w := vo none) ev_c rfl) ea_nil)) (by simp)) (e_mod (e_div (ev_call (ea_cons (ev_var rfl) (ea_cons ev_c ea_nil)) (sv_of fun HC eC => ⟨_, _, _, rfl, ex_l eC (rx_l r9 hSp_script), (by walk_at "vside"), rfl⟩)) ev_c (by walk_at "vside")) ev_c (by walk_at "vside")) (by walk_at "vside")) (ev_var rfl) (ev_var rfl) h3_picks_here (by walk_at "vside") fun H10 m10 => ?_
              have e10 := Mu.ex m10 e9 n3
              have r10 := rx_of e10
              have h1_elder := Mu.keep m10 (by first | exact d_p1_elder_p3_picks_here | exact Ne.symm d_p3_picks_here_p1_elder) h1_elder
              have h1_one := Mu.keep m10 (by first | exact d_p1_one_p3_picks_here | exact Ne.symm d_p3_picks_here_p1_one) h1_one
              have h1_other := Mu.keep m10 (by first | exact d_p1_other_p3_picks_here | exact Ne.symm d_p3_picks_here_p1_other) h1_other
              have h2_places_here := Mu.keep m10 (by first | exact d_p2_places_here_p3_picks_here | exact Ne.symm d_p3_picks_here_p2_places_here) h2_places_here
              have h5_due_here := Mu.keep m10 (by first | exact d_p5_due_here_p3_picks_here | exact Ne.symm d_p3_picks_here_p5_due_here) h5_due_here
              have h3_picks_here : H10 p3_picks_here = some (.dK (kd vo (m_law_v9 p_script))) := Mu.at m10
              refine s_asg (v := vs m_law_v10) (ev_is (ev_is (w := vs l_0cd5a837) e_lit rfl) rfl) fun H11 e11a => ?_
              have e11 := Ex.trans e10 e11a
              have r11 := rx_of e11
              have h1_elder := e11a _ _ h1_elder
              have h1_one := e11a _ _ h1_one
              have h1_other := e11a _ _ h1_other
              have h2_places_here := e11a _ _ h2_places_here
              have h3_picks_here := e11a _ _ h3_picks_here
              have h5_due_here := e11a _ _ h5_due_here
              have fm_law_v10 : List.length m_law_v10 = List.length (l_0cd5a837) := rfl
              have hV9_0 : (m_law_v12 p_script) = m_law_v10 := if_pos hb9
              have hV9_1 : (m_law_v11 p_script) = (m_law_v9 p_script) := if_pos hb9
              exact ⟨(by rw [hV9_0] <;> rfl), e11, r11, h2_places_here, (by rw [hV9_1]; exact h3_picks_here), h5_due_here, h1_elder, h1_one, h1_other⟩
            · have e9 := Ex.trans e8 e9a
              have r9 := rx_of e9
              have h1_elder := e9a _ _ h1_elder
              have h1_one := e9a _ _ h1_one
              have h1_other := e9a _ _ h1_other
              have h2_places_here := e9a _ _ h2_places_here
              have h3_picks_here := e9a _ _ h3_picks_here
              have h5_due_here := e9a _ _ h5_due_here
              have hV9_0 : (m_law_v12 p_script) = m_law_v7 := if_neg (by rw [hb9]; exact Bool.false_ne_true)
              have hV9_1 : (m_law_v11 p_script) = (m_law_v5 p_script) := if_neg (by rw [hb9]; exact Bool.false_ne_true)
              exact ⟨(by rw [hV9_0] <;> rfl), e9, r9, h2_places_here, (by rw [hV9_1]; exact h3_picks_here), h5_due_here, h1_elder, h1_one, h1_other⟩
          · intro σ9m H9m hq9m
            obtain ⟨rfl, e9m, r9m, h2_places_here, h3_picks_here, h5_due_here, h1_elder, h1_one, h1_other⟩ := hq9m
            have fm_law_v4 : List.length (m_law_v4 p_script) = List.length ((m_law_places (m_law_v1 p_script) (m_law_v2 p_script) (m_law_v3 p_script))) := rfl
            have gpl := law_places p_script
            have gpl7 : (m_law_v4 p_script).length ≤ 700 := Nat.le_trans gpl (by decide)
            have gp := law_P4 p_script
            have gps := law_P4s p_script
            have fm_law_v8 : List.length (m_law_v8 p_script) = List.length (([l_f8be0e12, l_82bac741, l_7dbde935].getD (((m_law_cell_at p_script (28 : Int)) / (6 : Int)) % (3 : Int)).toNat [])) := rfl
            have hV7_0 : (m_law_v14 p_script) = (m_law_v12 p_script) := if_pos hb7
            have hV7_1 : (m_law_v13 p_script) = (m_law_v11 p_script) := if_pos hb7
            exact ⟨_, (by rw [hV7_0] <;> rfl), e9m, r9m, h2_places_here, (by rw [hV7_1]; exact h3_picks_here), h5_due_here, h1_elder, h1_one, h1_other⟩
        · have e7 := Ex.trans e6 e7a
          have r7 := rx_of e7
          have h1_elder := e7a _ _ h1_elder
          have h1_one := e7a _ _ h1_one
          have h1_other := e7a _ _ h1_other
          have h2_places_here := e7a _ _ h2_places_here
          have h3_picks_here := e7a _ _ h3_picks_here
          have h5_due_here := e7a _ _ h5_due_here
          have hV7_0 : (m_law_v14 p_script) = m_law_v7 := if_neg (by rw [hb7]; exact Bool.false_ne_true)
          have hV7_1 : (m_law_v13 p_script) = (m_law_v5 p_script) := if_neg (by rw [hb7]; exact Bool.false_ne_true)
          exact ⟨_, (by rw [hV7_0] <;> rfl), e7, r7, h2_places_here, (by rw [hV7_1]; exact h3_picks_here), h5_due_here, h1_elder, h1_one, h1_other⟩
      · intro σ7m H7m hq7m
        obtain ⟨jm7_odd, rfl, e7m, r7m, h2_places_here, h3_picks_here, h5_due_here, h1_elder, h1_one, h1_other⟩ := hq7m
        have fm_law_v4 : List.length (m_law_v4 p_script) = List.length ((m_law_places (m_law_v1 p_script) (m_law_v2 p_script) (m_law_v3 p_script))) := rfl
        have gpl := law_places p_script
        have gpl7 : (m_law_v4 p_script).length ≤ 700 := Nat.le_trans gpl (by decide)
        have g13 := v13_ok p_script
        have g13n := g13.1.1
        have gpo : P4 (m_law_v1 p_script) (m_law_v2 p_script) (m_law_v3 p_script) ∧ okPicks (m_law_v13 p_script) := ⟨gp, g13⟩
        have gqo : P4 (m_law_v1 p_script) (m_law_v3 p_script) (m_law_v2 p_script) ∧ okPicks (m_law_v13 p_script) := ⟨gps, g13⟩
        have gp := law_P4 p_script
        have gps := law_P4s p_script
        refine q_asgL4 (k_copy (f := vs) (l := (m_law_v1 p_script)) (ev_var rfl) (Or.inl h1_elder)) (k_copy (f := vs) (l := (m_law_v2 p_script)) (ev_var rfl) (Or.inl h1_one)) (k_copy (f := vs) (l := (m_law_v3 p_script)) (ev_var rfl) (Or.inl h1_other)) (k_copy (f := vo) (l := (m_law_v13 p_script)) (ev_var rfl) (Or.inl h3_picks_here)) fun p12_kept p12_kept0 p12_kept1 p12_kept2 p12_kept3 H12 n12a n12a0 n12a1 n12a2 n12a3 d_p12_kept0_p12_kept1 d_p12_kept0_p12_kept2 d_p12_kept0_p12_kept3 d_p12_kept1_p12_kept2 d_p12_kept1_p12_kept3 d_p12_kept2_p12_kept3 e12a h12 h12_kept0 h12_kept1 h12_kept2 h12_kept3 => ?_
        have n12 := fresh_back e7m n12a
        have n12_0 := fresh_back e7m n12a0
        have n12_1 := fresh_back e7m n12a1
        have n12_2 := fresh_back e7m n12a2
        have n12_3 := fresh_back e7m n12a3
        have d_p12_kept_p12_kept0 := ne_dt h12 h12_kept0 (fun z => nomatch z)
        have d_p12_kept_p12_kept1 := ne_dt h12 h12_kept1 (fun z => nomatch z)
        have d_p12_kept_p12_kept2 := ne_dt h12 h12_kept2 (fun z => nomatch z)
        have d_p12_kept_p12_kept3 := ne_dt h12 h12_kept3 (fun z => nomatch z)
        have d_p2_places_here_p12_kept := ne_of_none h2_places_here n12a
        have d_p2_places_here_p12_kept0 := ne_of_none h2_places_here n12a0
        have d_p2_places_here_p12_kept1 := ne_of_none h2_places_here n12a1
        have d_p2_places_here_p12_kept2 := ne_of_none h2_places_here n12a2
        have d_p2_places_here_p12_kept3 := ne_of_none h2_places_here n12a3
        have d_p3_picks_here_p12_kept := ne_of_none h3_picks_here n12a
        have d_p3_picks_here_p12_kept0 := ne_of_none h3_picks_here n12a0
        have d_p3_picks_here_p12_kept1 := ne_of_none h3_picks_here n12a1
        have d_p3_picks_here_p12_kept2 := ne_of_none h3_picks_here n12a2
        have d_p3_picks_here_p12_kept3 := ne_of_none h3_picks_here n12a3
        have d_p5_due_here_p12_kept := ne_of_none h5_due_here n12a
        have d_p5_due_here_p12_kept0 := ne_of_none h5_due_here n12a0
        have d_p5_due_here_p12_kept1 := ne_of_none h5_due_here n12a1
        have d_p5_due_here_p12_kept2 := ne_of_none h5_due_here n12a2
        have d_p5_due_here_p12_kept3 := ne_of_none h5_due_here n12a3
        have d_p1_elder_p12_kept := ne_of_none h1_elder n12a
        have d_p1_elder_p12_kept0 := ne_of_none h1_elder n12a0
        have d_p1_elder_p12_kept1 := ne_of_none h1_elder n12a1
        have d_p1_elder_p12_kept2 := ne_of_none h1_elder n12a2
        have d_p1_elder_p12_kept3 := ne_of_none h1_elder n12a3
        have d_p1_one_p12_kept := ne_of_none h1_one n12a
        have d_p1_one_p12_kept0 := ne_of_none h1_one n12a0
        have d_p1_one_p12_kept1 := ne_of_none h1_one n12a1
        have d_p1_one_p12_kept2 := ne_of_none h1_one n12a2
        have d_p1_one_p12_kept3 := ne_of_none h1_one n12a3
        have d_p1_other_p12_kept := ne_of_none h1_other n12a
        have d_p1_other_p12_kept0 := ne_of_none h1_other n12a0
        have d_p1_other_p12_kept1 := ne_of_none h1_other n12a1
        have d_p1_other_p12_kept2 := ne_of_none h1_other n12a2
        have d_p1_other_p12_kept3 := ne_of_none h1_other n12a3
        have e12 := Ex.trans e7m e12a
        have r12 := rx_of e12
        have h2_places_here := e12a _ _ h2_places_here
        have h3_picks_here := e12a _ _ h3_picks_here
        have h5_due_here := e12a _ _ h5_due_here
        have h1_elder := e12a _ _ h1_elder
        have h1_one := e12a _ _ h1_one
        have h1_other := e12a _ _ h1_other
        have h12_kept0 : H12 p12_kept0 = some (.dK (kd vs (m_law_v15 p_script))) := h12_kept0
        have h12_kept1 : H12 p12_kept1 = some (.dK (kd vs (m_law_v16 p_script))) := h12_kept1
        have h12_kept2 : H12 p12_kept2 = some (.dK (kd vs (m_law_v17 p_script))) := h12_kept2
        have gd1 : dsame (m_law_v1 p_script) (m_law_v15 p_script) := dsame_refl (law_trees p_script).1.2.g.nd
        have gd2 : dsame (m_law_v2 p_script) (m_law_v16 p_script) := dsame_refl (law_trees p_script).2.1.2.g.nd
        have gd3 : dsame (m_law_v3 p_script) (m_law_v17 p_script) := dsame_refl (law_trees p_script).2.2.2.g.nd
        have h12_kept3 : H12 p12_kept3 = some (.dK (kd vo (m_law_v18 p_script))) := h12_kept3
        refine q_twoR (K := K) (fun _ => (ev_var rfl)) (fun _ => (ev_var rfl)) (fun _ => (ev_var rfl)) (fun _ => (ev_var rfl)) fun u1_13 u2_13 pl13 H13 nl13 e13a hl13 hu13 => ?_
        have nl13b := fresh_back e12 nl13
        have d_p2_places_here_pl13 := ne_of_none h2_places_here nl13
        have d_p3_picks_here_pl13 := ne_of_none h3_picks_here nl13
        have d_p5_due_here_pl13 := ne_of_none h5_due_here nl13
        have d_p1_elder_pl13 := ne_of_none h1_elder nl13
        have d_p1_one_pl13 := ne_of_none h1_one nl13
        have d_p1_other_pl13 := ne_of_none h1_other nl13
        have d_p12_kept_pl13 := ne_of_none h12 nl13
        have d_p12_kept0_pl13 := ne_of_none h12_kept0 nl13
        have d_p12_kept1_pl13 := ne_of_none h12_kept1 nl13
        have d_p12_kept2_pl13 := ne_of_none h12_kept2 nl13
        have d_p12_kept3_pl13 := ne_of_none h12_kept3 nl13
        have e13 := Ex.trans e12 e13a
        have r13 := rx_of e13
        have h2_places_here := e13a _ _ h2_places_here
        have h3_picks_here := e13a _ _ h3_picks_here
        have h5_due_here := e13a _ _ h5_due_here
        have h1_elder := e13a _ _ h1_elder
        have h1_one := e13a _ _ h1_one
        have h1_other := e13a _ _ h1_other
        have h12 := e13a _ _ h12
        have h12_kept0 := e13a _ _ h12_kept0
        have h12_kept1 := e13a _ _ h12_kept1
        have h12_kept2 := e13a _ _ h12_kept2
        have h12_kept3 := e13a _ _ h12_kept3
        refine q_told (r := (m_law_told (m_law_v1 p_script) (m_law_v2 p_script) (m_law_v3 p_script) (m_law_v13 p_script))) (ea_cons (ev_var rfl) (ea_cons (ev_var rfl) (ea_cons (ev_var rfl) (ea_cons (ev_var rfl) ea_nil)))) (fun HC eC => ⟨_, _, _, _, _, _, _, _, rfl, ex_rd eC (Or.inl h1_elder), ex_rd eC (Or.inl h1_one), ex_rd eC (Or.inl h1_other), ex_rd eC (Or.inl h3_picks_here), (by walk_at "vside"), rfl⟩) (fun lT14 hT14 p14_found p14_found1 H14 n14a n14b d14 e14a h14_found h14_found1 => ?_) (fun kT14 hT14 p14_found H14 n14a e14a h14_found => ?_)
        · have n14 := fresh_back e13 n14a
          have n141 := fresh_back e13 n14b
          have d_p14_found_p14_found1 := d14
          have d_p2_places_here_p14_found := ne_of_none h2_places_here n14a
          have d_p2_places_here_p14_found1 := ne_of_none h2_places_here n14b
          have d_p3_picks_here_p14_found := ne_of_none h3_picks_here n14a
          have d_p3_picks_here_p14_found1 := ne_of_none h3_picks_here n14b
          have d_p5_due_here_p14_found := ne_of_none h5_due_here n14a
          have d_p5_due_here_p14_found1 := ne_of_none h5_due_here n14b
          have d_p1_elder_p14_found := ne_of_none h1_elder n14a
          have d_p1_elder_p14_found1 := ne_of_none h1_elder n14b
          have d_p1_one_p14_found := ne_of_none h1_one n14a
          have d_p1_one_p14_found1 := ne_of_none h1_one n14b
          have d_p1_other_p14_found := ne_of_none h1_other n14a
          have d_p1_other_p14_found1 := ne_of_none h1_other n14b
          have d_p12_kept_p14_found := ne_of_none h12 n14a
          have d_p12_kept_p14_found1 := ne_of_none h12 n14b
          have d_p12_kept0_p14_found := ne_of_none h12_kept0 n14a
          have d_p12_kept0_p14_found1 := ne_of_none h12_kept0 n14b
          have d_p12_kept1_p14_found := ne_of_none h12_kept1 n14a
          have d_p12_kept1_p14_found1 := ne_of_none h12_kept1 n14b
          have d_p12_kept2_p14_found := ne_of_none h12_kept2 n14a
          have d_p12_kept2_p14_found1 := ne_of_none h12_kept2 n14b
          have d_p12_kept3_p14_found := ne_of_none h12_kept3 n14a
          have d_p12_kept3_p14_found1 := ne_of_none h12_kept3 n14b
          have d_pl13_p14_found := ne_of_none hl13 n14a
          have d_pl13_p14_found1 := ne_of_none hl13 n14b
          have e14 := Ex.trans e13 e14a
          have r14 := rx_of e14
          have h2_places_here := e14a _ _ h2_places_here
          have h3_picks_here := e14a _ _ h3_picks_here
          have h5_due_here := e14a _ _ h5_due_here
          have h1_elder := e14a _ _ h1_elder
          have h1_one := e14a _ _ h1_one
          have h1_other := e14a _ _ h1_other
          have h12 := e14a _ _ h12
          have h12_kept0 := e14a _ _ h12_kept0
          have h12_kept1 := e14a _ _ h12_kept1
          have h12_kept2 := e14a _ _ h12_kept2
          have h12_kept3 := e14a _ _ h12_kept3
          have hl13 := e14a _ _ hl13
          have hu13 := ex_t e14a hu13
          have k2ok := ret_ok (f := V.bl) k1some hT14
          have hw := told_ok p_script hdue hT14 (by first | exact Or.inl ⟨rfl, rfl⟩ | exact Or.inr ⟨rfl, rfl⟩)
          have hds := hw.2.1
          have hll := hw.2.2
          refine q_when (b := ((!decide (lMade = (m_law_v14 p_script))) || false)) (et_or (et_test (e_neT (e_ixV (ev_var rfl) h14_found ev_c (by rfl)) (ev_var rfl))) (fun hc => (et_test (e_neLs (el_lst (ea_cons (ev_var rfl) (ea_cons (ev_var rfl) (ea_cons (ev_var rfl) (ea_cons (ev_var rfl) ea_nil)))) (by simp)) (ev_var rfl) h12 (fun HQ eQ => .cons (qv_dict (l := (m_law_v1 p_script)) (m := (m_law_v15 p_script)) (eQ _ _ h1_elder) (eQ _ _ h12_kept0) (by walk_at "vside")) (.cons (qv_dict (l := (m_law_v2 p_script)) (m := (m_law_v16 p_script)) (eQ _ _ h1_one) (eQ _ _ h12_kept1) (by walk_at "vside")) (.cons (qv_dict (l := (m_law_v3 p_script)) (m := (m_law_v17 p_script)) (eQ _ _ h1_other) (eQ _ _ h12_kept2) (by walk_at "vside")) (.cons (qv_dictO (l := (m_law_v13 p_script)) (by walk_at "vside") (eQ _ _ h3_picks_here) (eQ _ _ h12_kept3)) (.nil))))))))) (fun hb15 H15 e15a => ?_) (fun hb15 H15 e15a => ?_)
          · have e15 := Ex.trans e14 e15a
            have r15 := rx_of e15
            have h2_places_here := e15a _ _ h2_places_here
            have h3_picks_here := e15a _ _ h3_picks_here
            have h5_due_here := e15a _ _ h5_due_here
            have h1_elder := e15a _ _ h1_elder
            have h1_one := e15a _ _ h1_one
            have h1_other := e15a _ _ h1_other
            have h12 := e15a _ _ h12
            have h12_kept0 := e15a _ _ h12_kept0
            have h12_kept1 := e15a _ _ h12_kept1
            have h12_kept2 := e15a _ _ h12_kept2
            have h12_kept3 := e15a _ _ h12_kept3
            have hl13 := e15a _ _ hl13
            have hu13 := ex_t e15a hu13
            have h14_found := e15a _ _ h14_found
            have h14_found1 := e15a _ _ h14_found1
            have k3a := ret_T k2ok hb15
            exact s_ret ev_c fun H16 e16a => (RetV.go k3a (Ex.trans e15 e16a))
          · have e15 := Ex.trans e14 e15a
            have r15 := rx_of e15
            have h2_places_here := e15a _ _ h2_places_here
            have h3_picks_here := e15a _ _ h3_picks_here
            have h5_due_here := e15a _ _ h5_due_here
            have h1_elder := e15a _ _ h1_elder
            have h1_one := e15a _ _ h1_one
            have h1_other := e15a _ _ h1_other
            have h12 := e15a _ _ h12
            have h12_kept0 := e15a _ _ h12_kept0
            have h12_kept1 := e15a _ _ h12_kept1
            have h12_kept2 := e15a _ _ h12_kept2
            have h12_kept3 := e15a _ _ h12_kept3
            have hl13 := e15a _ _ hl13
            have hu13 := ex_t e15a hu13
            have h14_found := e15a _ _ h14_found
            have h14_found1 := e15a _ _ h14_found1
            have k4b := ret_F k2ok hb15
            refine q_when (b := ((!decide ((m_law_v14 p_script) = lMade)) && true)) (et_and (et_test (e_neT (ev_var rfl) (ev_is (w := vs lMade) e_lit rfl))) (fun hc => (et_test (absurd hc (by rw [hw.1]; decide))))) (fun hb17 H17 e17a => ?_) (fun hb17 H17 e17a => ?_)
            · have e17 := Ex.trans e15 e17a
              have r17 := rx_of e17
              have h2_places_here := e17a _ _ h2_places_here
              have h3_picks_here := e17a _ _ h3_picks_here
              have h5_due_here := e17a _ _ h5_due_here
              have h1_elder := e17a _ _ h1_elder
              have h1_one := e17a _ _ h1_one
              have h1_other := e17a _ _ h1_other
              have h12 := e17a _ _ h12
              have h12_kept0 := e17a _ _ h12_kept0
              have h12_kept1 := e17a _ _ h12_kept1
              have h12_kept2 := e17a _ _ h12_kept2
              have h12_kept3 := e17a _ _ h12_kept3
              have hl13 := e17a _ _ hl13
              have hu13 := ex_t e17a hu13
              have h14_found := e17a _ _ h14_found
              have h14_found1 := e17a _ _ h14_found1
              have k5a := ret_T k4b hb17
              exact absurd hw.1 (by simpa using hb17)
            · have e17 := Ex.trans e15 e17a
              have r17 := rx_of e17
              have h2_places_here := e17a _ _ h2_places_here
              have h3_picks_here := e17a _ _ h3_picks_here
              have h5_due_here := e17a _ _ h5_due_here
              have h1_elder := e17a _ _ h1_elder
              have h1_one := e17a _ _ h1_one
              have h1_other := e17a _ _ h1_other
              have h12 := e17a _ _ h12
              have h12_kept0 := e17a _ _ h12_kept0
              have h12_kept1 := e17a _ _ h12_kept1
              have h12_kept2 := e17a _ _ h12_kept2
              have h12_kept3 := e17a _ _ h12_kept3
              have hl13 := e17a _ _ hl13
              have hu13 := ex_t e17a hu13
              have h14_found := e17a _ _ h14_found
              have h14_found1 := e17a _ _ h14_found1
              have k6b := ret_F k4b hb17
              refine s_when (b := (decide ((m_law_v14 p_script) = lMade))) (et_test (e_eqT (ev_var rfl) (ev_is (w := vs lMade) e_lit rfl))) (fun hb18 H18 e18a => ?_) (fun hb18 H18 e18a => ?_)
              · have e18 := Ex.trans e17 e18a
                have r18 := rx_of e18
                have h2_places_here := e18a _ _ h2_places_here
                have h3_picks_here := e18a _ _ h3_picks_here
                have h5_due_here := e18a _ _ h5_due_here
                have h1_elder := e18a _ _ h1_elder
                have h1_one := e18a _ _ h1_one
                have h1_other := e18a _ _ h1_other
                have h12 := e18a _ _ h12
                have h12_kept0 := e18a _ _ h12_kept0
                have h12_kept1 := e18a _ _ h12_kept1
                have h12_kept2 := e18a _ _ h12_kept2
                have h12_kept3 := e18a _ _ h12_kept3
                have hl13 := e18a _ _ hl13
                have hu13 := ex_t e18a hu13
                have h14_found := e18a _ _ h14_found
                have h14_found1 := e18a _ _ h14_found1
                have k7a := ret_T k6b hb18
                refine q_when (b := ((!true) || false)) (et_or (et_not (et_B (e_isi (e_ixV (ev_var rfl) h14_found ev_c (by rfl)) ev_c (.ty _) (fun _ eT => tyx_dct (ex_rd eT (Or.inl h14_found1))) (kit_ty (by decide +kernel))))) (fun hc => (et_test (e_neDD (l := lT14) (m := lT5) (e_ixV (ev_var rfl) h14_found ev_c (by rfl)) (ev_var rfl) h14_found1 h5_due_here (by walk_at "vside"))))) (fun hb19 H19 e19a => ?_) (fun hb19 H19 e19a => ?_)
                · have e19 := Ex.trans e18 e19a
                  have r19 := rx_of e19
                  have h2_places_here := e19a _ _ h2_places_here
                  have h3_picks_here := e19a _ _ h3_picks_here
                  have h5_due_here := e19a _ _ h5_due_here
                  have h1_elder := e19a _ _ h1_elder
                  have h1_one := e19a _ _ h1_one
                  have h1_other := e19a _ _ h1_other
                  have h12 := e19a _ _ h12
                  have h12_kept0 := e19a _ _ h12_kept0
                  have h12_kept1 := e19a _ _ h12_kept1
                  have h12_kept2 := e19a _ _ h12_kept2
                  have h12_kept3 := e19a _ _ h12_kept3
                  have hl13 := e19a _ _ hl13
                  have hu13 := ex_t e19a hu13
                  have h14_found := e19a _ _ h14_found
                  have h14_found1 := e19a _ _ h14_found1
                  have k8a := ret_T k7a hb19
                  exact s_ret ev_c fun H20 e20a => (RetV.go k8a (Ex.trans e19 e20a))
                · have e19 := Ex.trans e18 e19a
                  have r19 := rx_of e19
                  have h2_places_here := e19a _ _ h2_places_here
                  have h3_picks_here := e19a _ _ h3_picks_here
                  have h5_due_here := e19a _ _ h5_due_here
                  have h1_elder := e19a _ _ h1_elder
                  have h1_one := e19a _ _ h1_one
                  have h1_other := e19a _ _ h1_other
                  have h12 := e19a _ _ h12
                  have h12_kept0 := e19a _ _ h12_kept0
                  have h12_kept1 := e19a _ _ h12_kept1
                  have h12_kept2 := e19a _ _ h12_kept2
                  have h12_kept3 := e19a _ _ h12_kept3
                  have hl13 := e19a _ _ hl13
                  have hu13 := ex_t e19a hu13
                  have h14_found := e19a _ _ h14_found
                  have h14_found1 := e19a _ _ h14_found1
                  have k9b := ret_F k7a hb19
                  refine s_putD (f := vs) (l := lT14) (k := lX) (v := lY) (ev_is (w := vs lY) e_lit rfl) (e_ixV (ev_var rfl) h14_found ev_c (by rfl)) (ev_is (w := vs lX) e_lit rfl) h14_found1 (by walk_at "vside") fun H21 m21 => ?_
                  have e21 := Mu.ex m21 e19 n141
                  have r21 := rx_of e21
                  have h2_places_here := Mu.keep m21 (by first | exact d_p2_places_here_p14_found1 | exact Ne.symm d_p14_found1_p2_places_here) h2_places_here
                  have h3_picks_here := Mu.keep m21 (by first | exact d_p3_picks_here_p14_found1 | exact Ne.symm d_p14_found1_p3_picks_here) h3_picks_here
                  have h5_due_here := Mu.keep m21 (by first | exact d_p5_due_here_p14_found1 | exact Ne.symm d_p14_found1_p5_due_here) h5_due_here
                  have h1_elder := Mu.keep m21 (by first | exact d_p1_elder_p14_found1 | exact Ne.symm d_p14_found1_p1_elder) h1_elder
                  have h1_one := Mu.keep m21 (by first | exact d_p1_one_p14_found1 | exact Ne.symm d_p14_found1_p1_one) h1_one
                  have h1_other := Mu.keep m21 (by first | exact d_p1_other_p14_found1 | exact Ne.symm d_p14_found1_p1_other) h1_other
                  have h12 := Mu.keep m21 (by first | exact d_p12_kept_p14_found1 | exact Ne.symm d_p14_found1_p12_kept) h12
                  have h12_kept0 := Mu.keep m21 (by first | exact d_p12_kept0_p14_found1 | exact Ne.symm d_p14_found1_p12_kept0) h12_kept0
                  have h12_kept1 := Mu.keep m21 (by first | exact d_p12_kept1_p14_found1 | exact Ne.symm d_p14_found1_p12_kept1) h12_kept1
                  have h12_kept2 := Mu.keep m21 (by first | exact d_p12_kept2_p14_found1 | exact Ne.symm d_p14_found1_p12_kept2) h12_kept2
                  have h12_kept3 := Mu.keep m21 (by first | exact d_p12_kept3_p14_found1 | exact Ne.symm d_p14_found1_p12_kept3) h12_kept3
                  have hl13 := Mu.keep m21 (by first | exact d_pl13_p14_found1 | exact Ne.symm d_p14_found1_pl13) hl13
                  have hu13 := Mu.tup m21 h14_found1 trivial hu13
                  have h14_found := Mu.keep m21 (by first | exact d_p14_found_p14_found1 | exact Ne.symm d_p14_found1_p14_found) h14_found
                  have h14_found1 : H21 p14_found1 = some (.dK (kd vs (m_law_v19 lT14))) := Mu.at m21
                  refine And.intro (sq_of hl13) (And.intro hu13 ?_)
                  refine q_told (r := (m_law_told (m_law_v1 p_script) (m_law_v3 p_script) (m_law_v2 p_script) (m_law_v13 p_script))) (ea_cons (ev_var rfl) (ea_cons (ev_var rfl) (ea_cons (ev_var rfl) (ea_cons (ev_var rfl) ea_nil)))) (fun HC eC => ⟨_, _, _, _, _, _, _, _, rfl, ex_rd eC (Or.inl h1_elder), ex_rd eC (Or.inl h1_other), ex_rd eC (Or.inl h1_one), ex_rd eC (Or.inl h3_picks_here), (by walk_at "vside"), rfl⟩) (fun lT22 hT22 p22_found p22_found1 H22 n22a n22b d22 e22a h22_found h22_found1 => ?_) (fun kT22 hT22 p22_found H22 n22a e22a h22_found => ?_)
                  · have n22 := fresh_back e21 n22a
                    have n221 := fresh_back e21 n22b
                    have d_p22_found_p22_found1 := d22
                    have d_p2_places_here_p22_found := ne_of_none h2_places_here n22a
                    have d_p2_places_here_p22_found1 := ne_of_none h2_places_here n22b
                    have d_p3_picks_here_p22_found := ne_of_none h3_picks_here n22a
                    have d_p3_picks_here_p22_found1 := ne_of_none h3_picks_here n22b
                    have d_p5_due_here_p22_found := ne_of_none h5_due_here n22a
                    have d_p5_due_here_p22_found1 := ne_of_none h5_due_here n22b
                    have d_p1_elder_p22_found := ne_of_none h1_elder n22a
                    have d_p1_elder_p22_found1 := ne_of_none h1_elder n22b
                    have d_p1_one_p22_found := ne_of_none h1_one n22a
                    have d_p1_one_p22_found1 := ne_of_none h1_one n22b
                    have d_p1_other_p22_found := ne_of_none h1_other n22a
                    have d_p1_other_p22_found1 := ne_of_none h1_other n22b
                    have d_p12_kept_p22_found := ne_of_none h12 n22a
                    have d_p12_kept_p22_found1 := ne_of_none h12 n22b
                    have d_p12_kept0_p22_found := ne_of_none h12_kept0 n22a
                    have d_p12_kept0_p22_found1 := ne_of_none h12_kept0 n22b
                    have d_p12_kept1_p22_found := ne_of_none h12_kept1 n22a
                    have d_p12_kept1_p22_found1 := ne_of_none h12_kept1 n22b
                    have d_p12_kept2_p22_found := ne_of_none h12_kept2 n22a
                    have d_p12_kept2_p22_found1 := ne_of_none h12_kept2 n22b
                    have d_p12_kept3_p22_found := ne_of_none h12_kept3 n22a
                    have d_p12_kept3_p22_found1 := ne_of_none h12_kept3 n22b
                    have d_pl13_p22_found := ne_of_none hl13 n22a
                    have d_pl13_p22_found1 := ne_of_none hl13 n22b
                    have e22 := Ex.trans e21 e22a
                    have r22 := rx_of e22
                    have h2_places_here := e22a _ _ h2_places_here
                    have h3_picks_here := e22a _ _ h3_picks_here
                    have h5_due_here := e22a _ _ h5_due_here
                    have h1_elder := e22a _ _ h1_elder
                    have h1_one := e22a _ _ h1_one
                    have h1_other := e22a _ _ h1_other
                    have h12 := e22a _ _ h12
                    have h12_kept0 := e22a _ _ h12_kept0
                    have h12_kept1 := e22a _ _ h12_kept1
                    have h12_kept2 := e22a _ _ h12_kept2
                    have h12_kept3 := e22a _ _ h12_kept3
                    have hl13 := e22a _ _ hl13
                    have k10ok := ret_ok (f := V.bl) k9b hT22
                    have hw := told_ok p_script hdue hT22 (by first | exact Or.inl ⟨rfl, rfl⟩ | exact Or.inr ⟨rfl, rfl⟩)
                    have hds := hw.2.1
                    have hll := hw.2.2
                    refine q_when (b := ((!decide (lMade = (m_law_v14 p_script))) || false)) (et_or (et_test (e_neT (e_ixV (ev_var rfl) h22_found ev_c (by rfl)) (ev_var rfl))) (fun hc => (et_test (e_neLs (el_lst (ea_cons (ev_var rfl) (ea_cons (ev_var rfl) (ea_cons (ev_var rfl) (ea_cons (ev_var rfl) ea_nil)))) (by simp)) (ev_var rfl) h12 (fun HQ eQ => .cons (qv_dict (l := (m_law_v1 p_script)) (m := (m_law_v15 p_script)) (eQ _ _ h1_elder) (eQ _ _ h12_kept0) (by walk_at "vside")) (.cons (qv_dict (l := (m_law_v2 p_script)) (m := (m_law_v16 p_script)) (eQ _ _ h1_one) (eQ _ _ h12_kept1) (by walk_at "vside")) (.cons (qv_dict (l := (m_law_v3 p_script)) (m := (m_law_v17 p_script)) (eQ _ _ h1_other) (eQ _ _ h12_kept2) (by walk_at "vside")) (.cons (qv_dictO (l := (m_law_v13 p_script)) (by walk_at "vside") (eQ _ _ h3_picks_here) (eQ _ _ h12_kept3)) (.nil))))))))) (fun hb23 H23 e23a => ?_) (fun hb23 H23 e23a => ?_)
                    · have e23 := Ex.trans e22 e23a
                      have r23 := rx_of e23
                      have h2_places_here := e23a _ _ h2_places_here
                      have h3_picks_here := e23a _ _ h3_picks_here
                      have h5_due_here := e23a _ _ h5_due_here
                      have h1_elder := e23a _ _ h1_elder
                      have h1_one := e23a _ _ h1_one
                      have h1_other := e23a _ _ h1_other
                      have h12 := e23a _ _ h12
                      have h12_kept0 := e23a _ _ h12_kept0
                      have h12_kept1 := e23a _ _ h12_kept1
                      have h12_kept2 := e23a _ _ h12_kept2
                      have h12_kept3 := e23a _ _ h12_kept3
                      have hl13 := e23a _ _ hl13
                      have h22_found := e23a _ _ h22_found
                      have h22_found1 := e23a _ _ h22_found1
                      have k11a := ret_T k10ok hb23
                      exact s_ret ev_c fun H24 e24a => (RetV.go k11a (Ex.trans e23 e24a))
                    · have e23 := Ex.trans e22 e23a
                      have r23 := rx_of e23
                      have h2_places_here := e23a _ _ h2_places_here
                      have h3_picks_here := e23a _ _ h3_picks_here
                      have h5_due_here := e23a _ _ h5_due_here
                      have h1_elder := e23a _ _ h1_elder
                      have h1_one := e23a _ _ h1_one
                      have h1_other := e23a _ _ h1_other
                      have h12 := e23a _ _ h12
                      have h12_kept0 := e23a _ _ h12_kept0
                      have h12_kept1 := e23a _ _ h12_kept1
                      have h12_kept2 := e23a _ _ h12_kept2
                      have h12_kept3 := e23a _ _ h12_kept3
                      have hl13 := e23a _ _ hl13
                      have h22_found := e23a _ _ h22_found
                      have h22_found1 := e23a _ _ h22_found1
                      have k12b := ret_F k10ok hb23
                      refine q_when (b := ((!decide ((m_law_v14 p_script) = lMade)) && true)) (et_and (et_test (e_neT (ev_var rfl) (ev_is (w := vs lMade) e_lit rfl))) (fun hc => (et_test (absurd hc (by rw [hw.1]; decide))))) (fun hb25 H25 e25a => ?_) (fun hb25 H25 e25a => ?_)
                      · have e25 := Ex.trans e23 e25a
                        have r25 := rx_of e25
                        have h2_places_here := e25a _ _ h2_places_here
                        have h3_picks_here := e25a _ _ h3_picks_here
                        have h5_due_here := e25a _ _ h5_due_here
                        have h1_elder := e25a _ _ h1_elder
                        have h1_one := e25a _ _ h1_one
                        have h1_other := e25a _ _ h1_other
                        have h12 := e25a _ _ h12
                        have h12_kept0 := e25a _ _ h12_kept0
                        have h12_kept1 := e25a _ _ h12_kept1
                        have h12_kept2 := e25a _ _ h12_kept2
                        have h12_kept3 := e25a _ _ h12_kept3
                        have hl13 := e25a _ _ hl13
                        have h22_found := e25a _ _ h22_found
                        have h22_found1 := e25a _ _ h22_found1
                        have k13a := ret_T k12b hb25
                        exact absurd hw.1 (by simpa using hb25)
                      · have e25 := Ex.trans e23 e25a
                        have r25 := rx_of e25
                        have h2_places_here := e25a _ _ h2_places_here
                        have h3_picks_here := e25a _ _ h3_picks_here
                        have h5_due_here := e25a _ _ h5_due_here
                        have h1_elder := e25a _ _ h1_elder
                        have h1_one := e25a _ _ h1_one
                        have h1_other := e25a _ _ h1_other
                        have h12 := e25a _ _ h12
                        have h12_kept0 := e25a _ _ h12_kept0
                        have h12_kept1 := e25a _ _ h12_kept1
                        have h12_kept2 := e25a _ _ h12_kept2
                        have h12_kept3 := e25a _ _ h12_kept3
                        have hl13 := e25a _ _ hl13
                        have h22_found := e25a _ _ h22_found
                        have h22_found1 := e25a _ _ h22_found1
                        have k14b := ret_F k12b hb25
                        refine s_when (b := (decide ((m_law_v14 p_script) = lMade))) (et_test (e_eqT (ev_var rfl) (ev_is (w := vs lMade) e_lit rfl))) (fun hb26 H26 e26a => ?_) (fun hb26 H26 e26a => ?_)
                        · have e26 := Ex.trans e25 e26a
                          have r26 := rx_of e26
                          have h2_places_here := e26a _ _ h2_places_here
                          have h3_picks_here := e26a _ _ h3_picks_here
                          have h5_due_here := e26a _ _ h5_due_here
                          have h1_elder := e26a _ _ h1_elder
                          have h1_one := e26a _ _ h1_one
                          have h1_other := e26a _ _ h1_other
                          have h12 := e26a _ _ h12
                          have h12_kept0 := e26a _ _ h12_kept0
                          have h12_kept1 := e26a _ _ h12_kept1
                          have h12_kept2 := e26a _ _ h12_kept2
                          have h12_kept3 := e26a _ _ h12_kept3
                          have hl13 := e26a _ _ hl13
                          have h22_found := e26a _ _ h22_found
                          have h22_found1 := e26a _ _ h22_found1
                          have k15a := ret_T k14b hb26
                          refine q_when (b := ((!true) || false)) (et_or (et_not (et_B (e_isi (e_ixV (ev_var rfl) h22_found ev_c (by rfl)) ev_c (.ty _) (fun _ eT => tyx_dct (ex_rd eT (Or.inl h22_found1))) (kit_ty (by decide +kernel))))) (fun hc => (et_test (e_neDD (l := lT22) (m := lT5) (e_ixV (ev_var rfl) h22_found ev_c (by rfl)) (ev_var rfl) h22_found1 h5_due_here (by walk_at "vside"))))) (fun hb27 H27 e27a => ?_) (fun hb27 H27 e27a => ?_)
                          · have e27 := Ex.trans e26 e27a
                            have r27 := rx_of e27
                            have h2_places_here := e27a _ _ h2_places_here
                            have h3_picks_here := e27a _ _ h3_picks_here
                            have h5_due_here := e27a _ _ h5_due_here
                            have h1_elder := e27a _ _ h1_elder
                            have h1_one := e27a _ _ h1_one
                            have h1_other := e27a _ _ h1_other
                            have h12 := e27a _ _ h12
                            have h12_kept0 := e27a _ _ h12_kept0
                            have h12_kept1 := e27a _ _ h12_kept1
                            have h12_kept2 := e27a _ _ h12_kept2
                            have h12_kept3 := e27a _ _ h12_kept3
                            have hl13 := e27a _ _ hl13
                            have h22_found := e27a _ _ h22_found
                            have h22_found1 := e27a _ _ h22_found1
                            have k16a := ret_T k15a hb27
                            exact s_ret ev_c fun H28 e28a => (RetV.go k16a (Ex.trans e27 e28a))
                          · have e27 := Ex.trans e26 e27a
                            have r27 := rx_of e27
                            have h2_places_here := e27a _ _ h2_places_here
                            have h3_picks_here := e27a _ _ h3_picks_here
                            have h5_due_here := e27a _ _ h5_due_here
                            have h1_elder := e27a _ _ h1_elder
                            have h1_one := e27a _ _ h1_one
                            have h1_other := e27a _ _ h1_other
                            have h12 := e27a _ _ h12
                            have h12_kept0 := e27a _ _ h12_kept0
                            have h12_kept1 := e27a _ _ h12_kept1
                            have h12_kept2 := e27a _ _ h12_kept2
                            have h12_kept3 := e27a _ _ h12_kept3
                            have hl13 := e27a _ _ hl13
                            have h22_found := e27a _ _ h22_found
                            have h22_found1 := e27a _ _ h22_found1
                            have k17b := ret_F k15a hb27
                            refine s_putD (f := vs) (l := lT22) (k := lX) (v := lY) (ev_is (w := vs lY) e_lit rfl) (e_ixV (ev_var rfl) h22_found ev_c (by rfl)) (ev_is (w := vs lX) e_lit rfl) h22_found1 (by walk_at "vside") fun H29 m29 => ?_
                            have e29 := Mu.ex m29 e27 n221
                            have r29 := rx_of e29
                            have h2_places_here := Mu.keep m29 (by first | exact d_p2_places_here_p22_found1 | exact Ne.symm d_p22_found1_p2_places_here) h2_places_here
                            have h3_picks_here := Mu.keep m29 (by first | exact d_p3_picks_here_p22_found1 | exact Ne.symm d_p22_found1_p3_picks_here) h3_picks_here
                            have h5_due_here := Mu.keep m29 (by first | exact d_p5_due_here_p22_found1 | exact Ne.symm d_p22_found1_p5_due_here) h5_due_here
                            have h1_elder := Mu.keep m29 (by first | exact d_p1_elder_p22_found1 | exact Ne.symm d_p22_found1_p1_elder) h1_elder
                            have h1_one := Mu.keep m29 (by first | exact d_p1_one_p22_found1 | exact Ne.symm d_p22_found1_p1_one) h1_one
                            have h1_other := Mu.keep m29 (by first | exact d_p1_other_p22_found1 | exact Ne.symm d_p22_found1_p1_other) h1_other
                            have h12 := Mu.keep m29 (by first | exact d_p12_kept_p22_found1 | exact Ne.symm d_p22_found1_p12_kept) h12
                            have h12_kept0 := Mu.keep m29 (by first | exact d_p12_kept0_p22_found1 | exact Ne.symm d_p22_found1_p12_kept0) h12_kept0
                            have h12_kept1 := Mu.keep m29 (by first | exact d_p12_kept1_p22_found1 | exact Ne.symm d_p22_found1_p12_kept1) h12_kept1
                            have h12_kept2 := Mu.keep m29 (by first | exact d_p12_kept2_p22_found1 | exact Ne.symm d_p22_found1_p12_kept2) h12_kept2
                            have h12_kept3 := Mu.keep m29 (by first | exact d_p12_kept3_p22_found1 | exact Ne.symm d_p22_found1_p12_kept3) h12_kept3
                            have hl13 := Mu.keep m29 (by first | exact d_pl13_p22_found1 | exact Ne.symm d_p22_found1_pl13) hl13
                            have h22_found := Mu.keep m29 (by first | exact d_p22_found_p22_found1 | exact Ne.symm d_p22_found1_p22_found) h22_found
                            have h22_found1 : H29 p22_found1 = some (.dK (kd vs (m_law_v20 lT22))) := Mu.at m29
                            refine And.intro (sq_of hl13) ?_
                            exact s_ret (e_eqLs (el_lst (ea_cons (ev_var rfl) (ea_cons (ev_var rfl) (ea_cons (ev_var rfl) (ea_cons (ev_var rfl) ea_nil)))) (by simp)) (ev_var rfl) h12 (fun HQ eQ => .cons (qv_dict (l := (m_law_v1 p_script)) (m := (m_law_v15 p_script)) (eQ _ _ h1_elder) (eQ _ _ h12_kept0) (by walk_at "vside")) (.cons (qv_dict (l := (m_law_v2 p_script)) (m := (m_law_v16 p_script)) (eQ _ _ h1_one) (eQ _ _ h12_kept1) (by walk_at "vside")) (.cons (qv_dict (l := (m_law_v3 p_script)) (m := (m_law_v17 p_script)) (eQ _ _ h1_other) (eQ _ _ h12_kept2) (by walk_at "vside")) (.cons (qv_dictO (l := (m_law_v13 p_script)) (by walk_at "vside") (eQ _ _ h3_picks_here) (eQ _ _ h12_kept3)) (.nil)))))) fun H30 e30a => (RetV.go k17b (Ex.trans e29 e30a))
                        · have e26 := Ex.trans e25 e26a
                          have r26 := rx_of e26
                          have h2_places_here := e26a _ _ h2_places_here
                          have h3_picks_here := e26a _ _ h3_picks_here
                          have h5_due_here := e26a _ _ h5_due_here
                          have h1_elder := e26a _ _ h1_elder
                          have h1_one := e26a _ _ h1_one
                          have h1_other := e26a _ _ h1_other
                          have h12 := e26a _ _ h12
                          have h12_kept0 := e26a _ _ h12_kept0
                          have h12_kept1 := e26a _ _ h12_kept1
                          have h12_kept2 := e26a _ _ h12_kept2
                          have h12_kept3 := e26a _ _ h12_kept3
                          have hl13 := e26a _ _ hl13
                          have h22_found := e26a _ _ h22_found
                          have h22_found1 := e26a _ _ h22_found1
                          have k18b := ret_F k14b hb26
                          exact absurd hw.1 (of_decide_eq_false hb26)
                  · have n22 := fresh_back e21 n22a
                    have d_p2_places_here_p22_found := ne_of_none h2_places_here n22a
                    have d_p3_picks_here_p22_found := ne_of_none h3_picks_here n22a
                    have d_p5_due_here_p22_found := ne_of_none h5_due_here n22a
                    have d_p1_elder_p22_found := ne_of_none h1_elder n22a
                    have d_p1_one_p22_found := ne_of_none h1_one n22a
                    have d_p1_other_p22_found := ne_of_none h1_other n22a
                    have d_p12_kept_p22_found := ne_of_none h12 n22a
                    have d_p12_kept0_p22_found := ne_of_none h12_kept0 n22a
                    have d_p12_kept1_p22_found := ne_of_none h12_kept1 n22a
                    have d_p12_kept2_p22_found := ne_of_none h12_kept2 n22a
                    have d_p12_kept3_p22_found := ne_of_none h12_kept3 n22a
                    have d_pl13_p22_found := ne_of_none hl13 n22a
                    have e22 := Ex.trans e21 e22a
                    have r22 := rx_of e22
                    have h2_places_here := e22a _ _ h2_places_here
                    have h3_picks_here := e22a _ _ h3_picks_here
                    have h5_due_here := e22a _ _ h5_due_here
                    have h1_elder := e22a _ _ h1_elder
                    have h1_one := e22a _ _ h1_one
                    have h1_other := e22a _ _ h1_other
                    have h12 := e22a _ _ h12
                    have h12_kept0 := e22a _ _ h12_kept0
                    have h12_kept1 := e22a _ _ h12_kept1
                    have h12_kept2 := e22a _ _ h12_kept2
                    have h12_kept3 := e22a _ _ h12_kept3
                    have hl13 := e22a _ _ hl13
                    have k19exc := ret_exc (f := V.bl) k9b hT22
                    have hw := told_exc p_script hdue hT22 (by first | exact Or.inl ⟨rfl, rfl⟩ | exact Or.inr ⟨rfl, rfl⟩)
                    refine q_when (b := ((!decide ((word kT22) = (m_law_v14 p_script))) || false)) (et_or (et_test (e_neT (e_ixV (ev_var rfl) h22_found ev_c (by rfl)) (ev_var rfl))) (fun hc => (et_test (e_neLs (el_lst (ea_cons (ev_var rfl) (ea_cons (ev_var rfl) (ea_cons (ev_var rfl) (ea_cons (ev_var rfl) ea_nil)))) (by simp)) (ev_var rfl) h12 (fun HQ eQ => .cons (qv_dict (l := (m_law_v1 p_script)) (m := (m_law_v15 p_script)) (eQ _ _ h1_elder) (eQ _ _ h12_kept0) (by walk_at "vside")) (.cons (qv_dict (l := (m_law_v2 p_script)) (m := (m_law_v16 p_script)) (eQ _ _ h1_one) (eQ _ _ h12_kept1) (by walk_at "vside")) (.cons (qv_dict (l := (m_law_v3 p_script)) (m := (m_law_v17 p_script)) (eQ _ _ h1_other) (eQ _ _ h12_kept2) (by walk_at "vside")) (.cons (qv_dictO (l := (m_law_v13 p_script)) (by walk_at "vside") (eQ _ _ h3_picks_here) (eQ _ _ h12_kept3)) (.nil))))))))) (fun hb31 H31 e31a => ?_) (fun hb31 H31 e31a => ?_)
                    · have e31 := Ex.trans e22 e31a
                      have r31 := rx_of e31
                      have h2_places_here := e31a _ _ h2_places_here
                      have h3_picks_here := e31a _ _ h3_picks_here
                      have h5_due_here := e31a _ _ h5_due_here
                      have h1_elder := e31a _ _ h1_elder
                      have h1_one := e31a _ _ h1_one
                      have h1_other := e31a _ _ h1_other
                      have h12 := e31a _ _ h12
                      have h12_kept0 := e31a _ _ h12_kept0
                      have h12_kept1 := e31a _ _ h12_kept1
                      have h12_kept2 := e31a _ _ h12_kept2
                      have h12_kept3 := e31a _ _ h12_kept3
                      have hl13 := e31a _ _ hl13
                      have h22_found := e31a _ _ h22_found
                      have k20a := ret_T k19exc hb31
                      exact s_ret ev_c fun H32 e32a => (RetV.go k20a (Ex.trans e31 e32a))
                    · have e31 := Ex.trans e22 e31a
                      have r31 := rx_of e31
                      have h2_places_here := e31a _ _ h2_places_here
                      have h3_picks_here := e31a _ _ h3_picks_here
                      have h5_due_here := e31a _ _ h5_due_here
                      have h1_elder := e31a _ _ h1_elder
                      have h1_one := e31a _ _ h1_one
                      have h1_other := e31a _ _ h1_other
                      have h12 := e31a _ _ h12
                      have h12_kept0 := e31a _ _ h12_kept0
                      have h12_kept1 := e31a _ _ h12_kept1
                      have h12_kept2 := e31a _ _ h12_kept2
                      have h12_kept3 := e31a _ _ h12_kept3
                      have hl13 := e31a _ _ hl13
                      have h22_found := e31a _ _ h22_found
                      have k21b := ret_F k19exc hb31
                      refine q_when (b := ((!decide ((m_law_v14 p_script) = lMade)) && (!decide (true = true)))) (et_and (et_test (e_neT (ev_var rfl) (ev_is (w := vs lMade) e_lit rfl))) (fun hc => (et_test (e_notBl (e_ixV (ev_var rfl) h22_found ev_c (by rfl)) ev_c)))) (fun hb33 H33 e33a => ?_) (fun hb33 H33 e33a => ?_)
                      · have e33 := Ex.trans e31 e33a
                        have r33 := rx_of e33
                        have h2_places_here := e33a _ _ h2_places_here
                        have h3_picks_here := e33a _ _ h3_picks_here
                        have h5_due_here := e33a _ _ h5_due_here
                        have h1_elder := e33a _ _ h1_elder
                        have h1_one := e33a _ _ h1_one
                        have h1_other := e33a _ _ h1_other
                        have h12 := e33a _ _ h12
                        have h12_kept0 := e33a _ _ h12_kept0
                        have h12_kept1 := e33a _ _ h12_kept1
                        have h12_kept2 := e33a _ _ h12_kept2
                        have h12_kept3 := e33a _ _ h12_kept3
                        have hl13 := e33a _ _ hl13
                        have h22_found := e33a _ _ h22_found
                        have k22a := ret_T k21b hb33
                        exact s_ret ev_c fun H34 e34a => (RetV.go k22a (Ex.trans e33 e34a))
                      · have e33 := Ex.trans e31 e33a
                        have r33 := rx_of e33
                        have h2_places_here := e33a _ _ h2_places_here
                        have h3_picks_here := e33a _ _ h3_picks_here
                        have h5_due_here := e33a _ _ h5_due_here
                        have h1_elder := e33a _ _ h1_elder
                        have h1_one := e33a _ _ h1_one
                        have h1_other := e33a _ _ h1_other
                        have h12 := e33a _ _ h12
                        have h12_kept0 := e33a _ _ h12_kept0
                        have h12_kept1 := e33a _ _ h12_kept1
                        have h12_kept2 := e33a _ _ h12_kept2
                        have h12_kept3 := e33a _ _ h12_kept3
                        have hl13 := e33a _ _ hl13
                        have h22_found := e33a _ _ h22_found
                        have k23b := ret_F k21b hb33
                        refine s_when (b := (decide ((m_law_v14 p_script) = lMade))) (et_test (e_eqT (ev_var rfl) (ev_is (w := vs lMade) e_lit rfl))) (fun hb35 H35 e35a => ?_) (fun hb35 H35 e35a => ?_)
                        · have e35 := Ex.trans e33 e35a
                          have r35 := rx_of e35
                          have h2_places_here := e35a _ _ h2_places_here
                          have h3_picks_here := e35a _ _ h3_picks_here
                          have h5_due_here := e35a _ _ h5_due_here
                          have h1_elder := e35a _ _ h1_elder
                          have h1_one := e35a _ _ h1_one
                          have h1_other := e35a _ _ h1_other
                          have h12 := e35a _ _ h12
                          have h12_kept0 := e35a _ _ h12_kept0
                          have h12_kept1 := e35a _ _ h12_kept1
                          have h12_kept2 := e35a _ _ h12_kept2
                          have h12_kept3 := e35a _ _ h12_kept3
                          have hl13 := e35a _ _ hl13
                          have h22_found := e35a _ _ h22_found
                          have k24a := ret_T k23b hb35
                          exact absurd (of_decide_eq_true hb35) hw.2
                        · have e35 := Ex.trans e33 e35a
                          have r35 := rx_of e35
                          have h2_places_here := e35a _ _ h2_places_here
                          have h3_picks_here := e35a _ _ h3_picks_here
                          have h5_due_here := e35a _ _ h5_due_here
                          have h1_elder := e35a _ _ h1_elder
                          have h1_one := e35a _ _ h1_one
                          have h1_other := e35a _ _ h1_other
                          have h12 := e35a _ _ h12
                          have h12_kept0 := e35a _ _ h12_kept0
                          have h12_kept1 := e35a _ _ h12_kept1
                          have h12_kept2 := e35a _ _ h12_kept2
                          have h12_kept3 := e35a _ _ h12_kept3
                          have hl13 := e35a _ _ hl13
                          have h22_found := e35a _ _ h22_found
                          have k25b := ret_F k23b hb35
                          refine And.intro (sq_of hl13) ?_
                          exact s_ret (e_eqLs (el_lst (ea_cons (ev_var rfl) (ea_cons (ev_var rfl) (ea_cons (ev_var rfl) (ea_cons (ev_var rfl) ea_nil)))) (by simp)) (ev_var rfl) h12 (fun HQ eQ => .cons (qv_dict (l := (m_law_v1 p_script)) (m := (m_law_v15 p_script)) (eQ _ _ h1_elder) (eQ _ _ h12_kept0) (by walk_at "vside")) (.cons (qv_dict (l := (m_law_v2 p_script)) (m := (m_law_v16 p_script)) (eQ _ _ h1_one) (eQ _ _ h12_kept1) (by walk_at "vside")) (.cons (qv_dict (l := (m_law_v3 p_script)) (m := (m_law_v17 p_script)) (eQ _ _ h1_other) (eQ _ _ h12_kept2) (by walk_at "vside")) (.cons (qv_dictO (l := (m_law_v13 p_script)) (by walk_at "vside") (eQ _ _ h3_picks_here) (eQ _ _ h12_kept3)) (.nil)))))) fun H36 e36a => (RetV.go k25b (Ex.trans e35 e36a))
              · have e18 := Ex.trans e17 e18a
                have r18 := rx_of e18
                have h2_places_here := e18a _ _ h2_places_here
                have h3_picks_here := e18a _ _ h3_picks_here
                have h5_due_here := e18a _ _ h5_due_here
                have h1_elder := e18a _ _ h1_elder
                have h1_one := e18a _ _ h1_one
                have h1_other := e18a _ _ h1_other
                have h12 := e18a _ _ h12
                have h12_kept0 := e18a _ _ h12_kept0
                have h12_kept1 := e18a _ _ h12_kept1
                have h12_kept2 := e18a _ _ h12_kept2
                have h12_kept3 := e18a _ _ h12_kept3
                have hl13 := e18a _ _ hl13
                have hu13 := ex_t e18a hu13
                have h14_found := e18a _ _ h14_found
                have h14_found1 := e18a _ _ h14_found1
                have k26b := ret_F k6b hb18
                exact absurd hw.1 (of_decide_eq_false hb18)
        · have n14 := fresh_back e13 n14a
          have d_p2_places_here_p14_found := ne_of_none h2_places_here n14a
          have d_p3_picks_here_p14_found := ne_of_none h3_picks_here n14a
          have d_p5_due_here_p14_found := ne_of_none h5_due_here n14a
          have d_p1_elder_p14_found := ne_of_none h1_elder n14a
          have d_p1_one_p14_found := ne_of_none h1_one n14a
          have d_p1_other_p14_found := ne_of_none h1_other n14a
          have d_p12_kept_p14_found := ne_of_none h12 n14a
          have d_p12_kept0_p14_found := ne_of_none h12_kept0 n14a
          have d_p12_kept1_p14_found := ne_of_none h12_kept1 n14a
          have d_p12_kept2_p14_found := ne_of_none h12_kept2 n14a
          have d_p12_kept3_p14_found := ne_of_none h12_kept3 n14a
          have d_pl13_p14_found := ne_of_none hl13 n14a
          have e14 := Ex.trans e13 e14a
          have r14 := rx_of e14
          have h2_places_here := e14a _ _ h2_places_here
          have h3_picks_here := e14a _ _ h3_picks_here
          have h5_due_here := e14a _ _ h5_due_here
          have h1_elder := e14a _ _ h1_elder
          have h1_one := e14a _ _ h1_one
          have h1_other := e14a _ _ h1_other
          have h12 := e14a _ _ h12
          have h12_kept0 := e14a _ _ h12_kept0
          have h12_kept1 := e14a _ _ h12_kept1
          have h12_kept2 := e14a _ _ h12_kept2
          have h12_kept3 := e14a _ _ h12_kept3
          have hl13 := e14a _ _ hl13
          have hu13 := ex_t e14a hu13
          have k27exc := ret_exc (f := V.bl) k1some hT14
          have hw := told_exc p_script hdue hT14 (by first | exact Or.inl ⟨rfl, rfl⟩ | exact Or.inr ⟨rfl, rfl⟩)
          refine q_when (b := ((!decide ((word kT14) = (m_law_v14 p_script))) || false)) (et_or (et_test (e_neT (e_ixV (ev_var rfl) h14_found ev_c (by rfl)) (ev_var rfl))) (fun hc => (et_test (e_neLs (el_lst (ea_cons (ev_var rfl) (ea_cons (ev_var rfl) (ea_cons (ev_var rfl) (ea_cons (ev_var rfl) ea_nil)))) (by simp)) (ev_var rfl) h12 (fun HQ eQ => .cons (qv_dict (l := (m_law_v1 p_script)) (m := (m_law_v15 p_script)) (eQ _ _ h1_elder) (eQ _ _ h12_kept0) (by walk_at "vside")) (.cons (qv_dict (l := (m_law_v2 p_script)) (m := (m_law_v16 p_script)) (eQ _ _ h1_one) (eQ _ _ h12_kept1) (by walk_at "vside")) (.cons (qv_dict (l := (m_law_v3 p_script)) (m := (m_law_v17 p_script)) (eQ _ _ h1_other) (eQ _ _ h12_kept2) (by walk_at "vside")) (.cons (qv_dictO (l := (m_law_v13 p_script)) (by walk_at "vside") (eQ _ _ h3_picks_here) (eQ _ _ h12_kept3)) (.nil))))))))) (fun hb37 H37 e37a => ?_) (fun hb37 H37 e37a => ?_)
          · have e37 := Ex.trans e14 e37a
            have r37 := rx_of e37
            have h2_places_here := e37a _ _ h2_places_here
            have h3_picks_here := e37a _ _ h3_picks_here
            have h5_due_here := e37a _ _ h5_due_here
            have h1_elder := e37a _ _ h1_elder
            have h1_one := e37a _ _ h1_one
            have h1_other := e37a _ _ h1_other
            have h12 := e37a _ _ h12
            have h12_kept0 := e37a _ _ h12_kept0
            have h12_kept1 := e37a _ _ h12_kept1
            have h12_kept2 := e37a _ _ h12_kept2
            have h12_kept3 := e37a _ _ h12_kept3
            have hl13 := e37a _ _ hl13
            have hu13 := ex_t e37a hu13
            have h14_found := e37a _ _ h14_found
            have k28a := ret_T k27exc hb37
            exact s_ret ev_c fun H38 e38a => (RetV.go k28a (Ex.trans e37 e38a))
          · have e37 := Ex.trans e14 e37a
            have r37 := rx_of e37
            have h2_places_here := e37a _ _ h2_places_here
            have h3_picks_here := e37a _ _ h3_picks_here
            have h5_due_here := e37a _ _ h5_due_here
            have h1_elder := e37a _ _ h1_elder
            have h1_one := e37a _ _ h1_one
            have h1_other := e37a _ _ h1_other
            have h12 := e37a _ _ h12
            have h12_kept0 := e37a _ _ h12_kept0
            have h12_kept1 := e37a _ _ h12_kept1
            have h12_kept2 := e37a _ _ h12_kept2
            have h12_kept3 := e37a _ _ h12_kept3
            have hl13 := e37a _ _ hl13
            have hu13 := ex_t e37a hu13
            have h14_found := e37a _ _ h14_found
            have k29b := ret_F k27exc hb37
            refine q_when (b := ((!decide ((m_law_v14 p_script) = lMade)) && (!decide (true = true)))) (et_and (et_test (e_neT (ev_var rfl) (ev_is (w := vs lMade) e_lit rfl))) (fun hc => (et_test (e_notBl (e_ixV (ev_var rfl) h14_found ev_c (by rfl)) ev_c)))) (fun hb39 H39 e39a => ?_) (fun hb39 H39 e39a => ?_)
            · have e39 := Ex.trans e37 e39a
              have r39 := rx_of e39
              have h2_places_here := e39a _ _ h2_places_here
              have h3_picks_here := e39a _ _ h3_picks_here
              have h5_due_here := e39a _ _ h5_due_here
              have h1_elder := e39a _ _ h1_elder
              have h1_one := e39a _ _ h1_one
              have h1_other := e39a _ _ h1_other
              have h12 := e39a _ _ h12
              have h12_kept0 := e39a _ _ h12_kept0
              have h12_kept1 := e39a _ _ h12_kept1
              have h12_kept2 := e39a _ _ h12_kept2
              have h12_kept3 := e39a _ _ h12_kept3
              have hl13 := e39a _ _ hl13
              have hu13 := ex_t e39a hu13
              have h14_found := e39a _ _ h14_found
              have k30a := ret_T k29b hb39
              exact s_ret ev_c fun H40 e40a => (RetV.go k30a (Ex.trans e39 e40a))
            · have e39 := Ex.trans e37 e39a
              have r39 := rx_of e39
              have h2_places_here := e39a _ _ h2_places_here
              have h3_picks_here := e39a _ _ h3_picks_here
              have h5_due_here := e39a _ _ h5_due_here
              have h1_elder := e39a _ _ h1_elder
              have h1_one := e39a _ _ h1_one
              have h1_other := e39a _ _ h1_other
              have h12 := e39a _ _ h12
              have h12_kept0 := e39a _ _ h12_kept0
              have h12_kept1 := e39a _ _ h12_kept1
              have h12_kept2 := e39a _ _ h12_kept2
              have h12_kept3 := e39a _ _ h12_kept3
              have hl13 := e39a _ _ hl13
              have hu13 := ex_t e39a hu13
              have h14_found := e39a _ _ h14_found
              have k31b := ret_F k29b hb39
              refine s_when (b := (decide ((m_law_v14 p_script) = lMade))) (et_test (e_eqT (ev_var rfl) (ev_is (w := vs lMade) e_lit rfl))) (fun hb41 H41 e41a => ?_) (fun hb41 H41 e41a => ?_)
              · have e41 := Ex.trans e39 e41a
                have r41 := rx_of e41
                have h2_places_here := e41a _ _ h2_places_here
                have h3_picks_here := e41a _ _ h3_picks_here
                have h5_due_here := e41a _ _ h5_due_here
                have h1_elder := e41a _ _ h1_elder
                have h1_one := e41a _ _ h1_one
                have h1_other := e41a _ _ h1_other
                have h12 := e41a _ _ h12
                have h12_kept0 := e41a _ _ h12_kept0
                have h12_kept1 := e41a _ _ h12_kept1
                have h12_kept2 := e41a _ _ h12_kept2
                have h12_kept3 := e41a _ _ h12_kept3
                have hl13 := e41a _ _ hl13
                have hu13 := ex_t e41a hu13
                have h14_found := e41a _ _ h14_found
                have k32a := ret_T k31b hb41
                exact absurd (of_decide_eq_true hb41) hw.2
              · have e41 := Ex.trans e39 e41a
                have r41 := rx_of e41
                have h2_places_here := e41a _ _ h2_places_here
                have h3_picks_here := e41a _ _ h3_picks_here
                have h5_due_here := e41a _ _ h5_due_here
                have h1_elder := e41a _ _ h1_elder
                have h1_one := e41a _ _ h1_one
                have h1_other := e41a _ _ h1_other
                have h12 := e41a _ _ h12
                have h12_kept0 := e41a _ _ h12_kept0
                have h12_kept1 := e41a _ _ h12_kept1
                have h12_kept2 := e41a _ _ h12_kept2
                have h12_kept3 := e41a _ _ h12_kept3
                have hl13 := e41a _ _ hl13
                have hu13 := ex_t e41a hu13
                have h14_found := e41a _ _ h14_found
                have k33b := ret_F k31b hb41
                refine And.intro (sq_of hl13) (And.intro hu13 ?_)
                refine q_told (r := (m_law_told (m_law_v1 p_script) (m_law_v3 p_script) (m_law_v2 p_script) (m_law_v13 p_script))) (ea_cons (ev_var rfl) (ea_cons (ev_var rfl) (ea_cons (ev_var rfl) (ea_cons (ev_var rfl) ea_nil)))) (fun HC eC => ⟨_, _, _, _, _, _, _, _, rfl, ex_rd eC (Or.inl h1_elder), ex_rd eC (Or.inl h1_other), ex_rd eC (Or.inl h1_one), ex_rd eC (Or.inl h3_picks_here), (by walk_at "vside"), rfl⟩) (fun lT42 hT42 p42_found p42_found1 H42 n42a n42b d42 e42a h42_found h42_found1 => ?_) (fun kT42 hT42 p42_found H42 n42a e42a h42_found => ?_)
                · have n42 := fresh_back e41 n42a
                  have n421 := fresh_back e41 n42b
                  have d_p42_found_p42_found1 := d42
                  have d_p2_places_here_p42_found := ne_of_none h2_places_here n42a
                  have d_p2_places_here_p42_found1 := ne_of_none h2_places_here n42b
                  have d_p3_picks_here_p42_found := ne_of_none h3_picks_here n42a
                  have d_p3_picks_here_p42_found1 := ne_of_none h3_picks_here n42b
                  have d_p5_due_here_p42_found := ne_of_none h5_due_here n42a
                  have d_p5_due_here_p42_found1 := ne_of_none h5_due_here n42b
                  have d_p1_elder_p42_found := ne_of_none h1_elder n42a
                  have d_p1_elder_p42_found1 := ne_of_none h1_elder n42b
                  have d_p1_one_p42_found := ne_of_none h1_one n42a
                  have d_p1_one_p42_found1 := ne_of_none h1_one n42b
                  have d_p1_other_p42_found := ne_of_none h1_other n42a
                  have d_p1_other_p42_found1 := ne_of_none h1_other n42b
                  have d_p12_kept_p42_found := ne_of_none h12 n42a
                  have d_p12_kept_p42_found1 := ne_of_none h12 n42b
                  have d_p12_kept0_p42_found := ne_of_none h12_kept0 n42a
                  have d_p12_kept0_p42_found1 := ne_of_none h12_kept0 n42b
                  have d_p12_kept1_p42_found := ne_of_none h12_kept1 n42a
                  have d_p12_kept1_p42_found1 := ne_of_none h12_kept1 n42b
                  have d_p12_kept2_p42_found := ne_of_none h12_kept2 n42a
                  have d_p12_kept2_p42_found1 := ne_of_none h12_kept2 n42b
                  have d_p12_kept3_p42_found := ne_of_none h12_kept3 n42a
                  have d_p12_kept3_p42_found1 := ne_of_none h12_kept3 n42b
                  have d_pl13_p42_found := ne_of_none hl13 n42a
                  have d_pl13_p42_found1 := ne_of_none hl13 n42b
                  have e42 := Ex.trans e41 e42a
                  have r42 := rx_of e42
                  have h2_places_here := e42a _ _ h2_places_here
                  have h3_picks_here := e42a _ _ h3_picks_here
                  have h5_due_here := e42a _ _ h5_due_here
                  have h1_elder := e42a _ _ h1_elder
                  have h1_one := e42a _ _ h1_one
                  have h1_other := e42a _ _ h1_other
                  have h12 := e42a _ _ h12
                  have h12_kept0 := e42a _ _ h12_kept0
                  have h12_kept1 := e42a _ _ h12_kept1
                  have h12_kept2 := e42a _ _ h12_kept2
                  have h12_kept3 := e42a _ _ h12_kept3
                  have hl13 := e42a _ _ hl13
                  have k34ok := ret_ok (f := V.bl) k33b hT42
                  have hw := told_ok p_script hdue hT42 (by first | exact Or.inl ⟨rfl, rfl⟩ | exact Or.inr ⟨rfl, rfl⟩)
                  have hds := hw.2.1
                  have hll := hw.2.2
                  refine q_when (b := ((!decide (lMade = (m_law_v14 p_script))) || false)) (et_or (et_test (e_neT (e_ixV (ev_var rfl) h42_found ev_c (by rfl)) (ev_var rfl))) (fun hc => (et_test (e_neLs (el_lst (ea_cons (ev_var rfl) (ea_cons (ev_var rfl) (ea_cons (ev_var rfl) (ea_cons (ev_var rfl) ea_nil)))) (by simp)) (ev_var rfl) h12 (fun HQ eQ => .cons (qv_dict (l := (m_law_v1 p_script)) (m := (m_law_v15 p_script)) (eQ _ _ h1_elder) (eQ _ _ h12_kept0) (by walk_at "vside")) (.cons (qv_dict (l := (m_law_v2 p_script)) (m := (m_law_v16 p_script)) (eQ _ _ h1_one) (eQ _ _ h12_kept1) (by walk_at "vside")) (.cons (qv_dict (l := (m_law_v3 p_script)) (m := (m_law_v17 p_script)) (eQ _ _ h1_other) (eQ _ _ h12_kept2) (by walk_at "vside")) (.cons (qv_dictO (l := (m_law_v13 p_script)) (by walk_at "vside") (eQ _ _ h3_picks_here) (eQ _ _ h12_kept3)) (.nil))))))))) (fun hb43 H43 e43a => ?_) (fun hb43 H43 e43a => ?_)
                  · have e43 := Ex.trans e42 e43a
                    have r43 := rx_of e43
                    have h2_places_here := e43a _ _ h2_places_here
                    have h3_picks_here := e43a _ _ h3_picks_here
                    have h5_due_here := e43a _ _ h5_due_here
                    have h1_elder := e43a _ _ h1_elder
                    have h1_one := e43a _ _ h1_one
                    have h1_other := e43a _ _ h1_other
                    have h12 := e43a _ _ h12
                    have h12_kept0 := e43a _ _ h12_kept0
                    have h12_kept1 := e43a _ _ h12_kept1
                    have h12_kept2 := e43a _ _ h12_kept2
                    have h12_kept3 := e43a _ _ h12_kept3
                    have hl13 := e43a _ _ hl13
                    have h42_found := e43a _ _ h42_found
                    have h42_found1 := e43a _ _ h42_found1
                    have k35a := ret_T k34ok hb43
                    exact s_ret ev_c fun H44 e44a => (RetV.go k35a (Ex.trans e43 e44a))
                  · have e43 := Ex.trans e42 e43a
                    have r43 := rx_of e43
                    have h2_places_here := e43a _ _ h2_places_here
                    have h3_picks_here := e43a _ _ h3_picks_here
                    have h5_due_here := e43a _ _ h5_due_here
                    have h1_elder := e43a _ _ h1_elder
                    have h1_one := e43a _ _ h1_one
                    have h1_other := e43a _ _ h1_other
                    have h12 := e43a _ _ h12
                    have h12_kept0 := e43a _ _ h12_kept0
                    have h12_kept1 := e43a _ _ h12_kept1
                    have h12_kept2 := e43a _ _ h12_kept2
                    have h12_kept3 := e43a _ _ h12_kept3
                    have hl13 := e43a _ _ hl13
                    have h42_found := e43a _ _ h42_found
                    have h42_found1 := e43a _ _ h42_found1
                    have k36b := ret_F k34ok hb43
                    refine q_when (b := ((!decide ((m_law_v14 p_script) = lMade)) && true)) (et_and (et_test (e_neT (ev_var rfl) (ev_is (w := vs lMade) e_lit rfl))) (fun hc => (et_test (absurd hc (by rw [hw.1]; decide))))) (fun hb45 H45 e45a => ?_) (fun hb45 H45 e45a => ?_)
                    · have e45 := Ex.trans e43 e45a
                      have r45 := rx_of e45
                      have h2_places_here := e45a _ _ h2_places_here
                      have h3_picks_here := e45a _ _ h3_picks_here
                      have h5_due_here := e45a _ _ h5_due_here
                      have h1_elder := e45a _ _ h1_elder
                      have h1_one := e45a _ _ h1_one
                      have h1_other := e45a _ _ h1_other
                      have h12 := e45a _ _ h12
                      have h12_kept0 := e45a _ _ h12_kept0
                      have h12_kept1 := e45a _ _ h12_kept1
                      have h12_kept2 := e45a _ _ h12_kept2
                      have h12_kept3 := e45a _ _ h12_kept3
                      have hl13 := e45a _ _ hl13
                      have h42_found := e45a _ _ h42_found
                      have h42_found1 := e45a _ _ h42_found1
                      have k37a := ret_T k36b hb45
                      exact absurd hw.1 (by simpa using hb45)
                    · have e45 := Ex.trans e43 e45a
                      have r45 := rx_of e45
                      have h2_places_here := e45a _ _ h2_places_here
                      have h3_picks_here := e45a _ _ h3_picks_here
                      have h5_due_here := e45a _ _ h5_due_here
                      have h1_elder := e45a _ _ h1_elder
                      have h1_one := e45a _ _ h1_one
                      have h1_other := e45a _ _ h1_other
                      have h12 := e45a _ _ h12
                      have h12_kept0 := e45a _ _ h12_kept0
                      have h12_kept1 := e45a _ _ h12_kept1
                      have h12_kept2 := e45a _ _ h12_kept2
                      have h12_kept3 := e45a _ _ h12_kept3
                      have hl13 := e45a _ _ hl13
                      have h42_found := e45a _ _ h42_found
                      have h42_found1 := e45a _ _ h42_found1
                      have k38b := ret_F k36b hb45
                      refine s_when (b := (decide ((m_law_v14 p_script) = lMade))) (et_test (e_eqT (ev_var rfl) (ev_is (w := vs lMade) e_lit rfl))) (fun hb46 H46 e46a => ?_) (fun hb46 H46 e46a => ?_)
                      · have e46 := Ex.trans e45 e46a
                        have r46 := rx_of e46
                        have h2_places_here := e46a _ _ h2_places_here
                        have h3_picks_here := e46a _ _ h3_picks_here
                        have h5_due_here := e46a _ _ h5_due_here
                        have h1_elder := e46a _ _ h1_elder
                        have h1_one := e46a _ _ h1_one
                        have h1_other := e46a _ _ h1_other
                        have h12 := e46a _ _ h12
                        have h12_kept0 := e46a _ _ h12_kept0
                        have h12_kept1 := e46a _ _ h12_kept1
                        have h12_kept2 := e46a _ _ h12_kept2
                        have h12_kept3 := e46a _ _ h12_kept3
                        have hl13 := e46a _ _ hl13
                        have h42_found := e46a _ _ h42_found
                        have h42_found1 := e46a _ _ h42_found1
                        have k39a := ret_T k38b hb46
                        refine q_when (b := ((!true) || false)) (et_or (et_not (et_B (e_isi (e_ixV (ev_var rfl) h42_found ev_c (by rfl)) ev_c (.ty _) (fun _ eT => tyx_dct (ex_rd eT (Or.inl h42_found1))) (kit_ty (by decide +kernel))))) (fun hc => (et_test (e_neDD (l := lT42) (m := lT5) (e_ixV (ev_var rfl) h42_found ev_c (by rfl)) (ev_var rfl) h42_found1 h5_due_here (by walk_at "vside"))))) (fun hb47 H47 e47a => ?_) (fun hb47 H47 e47a => ?_)
                        · have e47 := Ex.trans e46 e47a
                          have r47 := rx_of e47
                          have h2_places_here := e47a _ _ h2_places_here
                          have h3_picks_here := e47a _ _ h3_picks_here
                          have h5_due_here := e47a _ _ h5_due_here
                          have h1_elder := e47a _ _ h1_elder
                          have h1_one := e47a _ _ h1_one
                          have h1_other := e47a _ _ h1_other
                          have h12 := e47a _ _ h12
                          have h12_kept0 := e47a _ _ h12_kept0
                          have h12_kept1 := e47a _ _ h12_kept1
                          have h12_kept2 := e47a _ _ h12_kept2
                          have h12_kept3 := e47a _ _ h12_kept3
                          have hl13 := e47a _ _ hl13
                          have h42_found := e47a _ _ h42_found
                          have h42_found1 := e47a _ _ h42_found1
                          have k40a := ret_T k39a hb47
                          exact s_ret ev_c fun H48 e48a => (RetV.go k40a (Ex.trans e47 e48a))
                        · have e47 := Ex.trans e46 e47a
                          have r47 := rx_of e47
                          have h2_places_here := e47a _ _ h2_places_here
                          have h3_picks_here := e47a _ _ h3_picks_here
                          have h5_due_here := e47a _ _ h5_due_here
                          have h1_elder := e47a _ _ h1_elder
                          have h1_one := e47a _ _ h1_one
                          have h1_other := e47a _ _ h1_other
                          have h12 := e47a _ _ h12
                          have h12_kept0 := e47a _ _ h12_kept0
                          have h12_kept1 := e47a _ _ h12_kept1
                          have h12_kept2 := e47a _ _ h12_kept2
                          have h12_kept3 := e47a _ _ h12_kept3
                          have hl13 := e47a _ _ hl13
                          have h42_found := e47a _ _ h42_found
                          have h42_found1 := e47a _ _ h42_found1
                          have k41b := ret_F k39a hb47
                          refine s_putD (f := vs) (l := lT42) (k := lX) (v := lY) (ev_is (w := vs lY) e_lit rfl) (e_ixV (ev_var rfl) h42_found ev_c (by rfl)) (ev_is (w := vs lX) e_lit rfl) h42_found1 (by walk_at "vside") fun H49 m49 => ?_
                          have e49 := Mu.ex m49 e47 n421
                          have r49 := rx_of e49
                          have h2_places_here := Mu.keep m49 (by first | exact d_p2_places_here_p42_found1 | exact Ne.symm d_p42_found1_p2_places_here) h2_places_here
                          have h3_picks_here := Mu.keep m49 (by first | exact d_p3_picks_here_p42_found1 | exact Ne.symm d_p42_found1_p3_picks_here) h3_picks_here
                          have h5_due_here := Mu.keep m49 (by first | exact d_p5_due_here_p42_found1 | exact Ne.symm d_p42_found1_p5_due_here) h5_due_here
                          have h1_elder := Mu.keep m49 (by first | exact d_p1_elder_p42_found1 | exact Ne.symm d_p42_found1_p1_elder) h1_elder
                          have h1_one := Mu.keep m49 (by first | exact d_p1_one_p42_found1 | exact Ne.symm d_p42_found1_p1_one) h1_one
                          have h1_other := Mu.keep m49 (by first | exact d_p1_other_p42_found1 | exact Ne.symm d_p42_found1_p1_other) h1_other
                          have h12 := Mu.keep m49 (by first | exact d_p12_kept_p42_found1 | exact Ne.symm d_p42_found1_p12_kept) h12
                          have h12_kept0 := Mu.keep m49 (by first | exact d_p12_kept0_p42_found1 | exact Ne.symm d_p42_found1_p12_kept0) h12_kept0
                          have h12_kept1 := Mu.keep m49 (by first | exact d_p12_kept1_p42_found1 | exact Ne.symm d_p42_found1_p12_kept1) h12_kept1
                          have h12_kept2 := Mu.keep m49 (by first | exact d_p12_kept2_p42_found1 | exact Ne.symm d_p42_found1_p12_kept2) h12_kept2
                          have h12_kept3 := Mu.keep m49 (by first | exact d_p12_kept3_p42_found1 | exact Ne.symm d_p42_found1_p12_kept3) h12_kept3
                          have hl13 := Mu.keep m49 (by first | exact d_pl13_p42_found1 | exact Ne.symm d_p42_found1_pl13) hl13
                          have h42_found := Mu.keep m49 (by first | exact d_p42_found_p42_found1 | exact Ne.symm d_p42_found1_p42_found) h42_found
                          have h42_found1 : H49 p42_found1 = some (.dK (kd vs (m_law_v21 lT42))) := Mu.at m49
                          refine And.intro (sq_of hl13) ?_
                          exact s_ret (e_eqLs (el_lst (ea_cons (ev_var rfl) (ea_cons (ev_var rfl) (ea_cons (ev_var rfl) (ea_cons (ev_var rfl) ea_nil)))) (by simp)) (ev_var rfl) h12 (fun HQ eQ => .cons (qv_dict (l := (m_law_v1 p_script)) (m := (m_law_v15 p_script)) (eQ _ _ h1_elder) (eQ _ _ h12_kept0) (by walk_at "vside")) (.cons (qv_dict (l := (m_law_v2 p_script)) (m := (m_law_v16 p_script)) (eQ _ _ h1_one) (eQ _ _ h12_kept1) (by walk_at "vside")) (.cons (qv_dict (l := (m_law_v3 p_script)) (m := (m_law_v17 p_script)) (eQ _ _ h1_other) (eQ _ _ h12_kept2) (by walk_at "vside")) (.cons (qv_dictO (l := (m_law_v13 p_script)) (by walk_at "vside") (eQ _ _ h3_picks_here) (eQ _ _ h12_kept3)) (.nil)))))) fun H50 e50a => (RetV.go k41b (Ex.trans e49 e50a))
                      · have e46 := Ex.trans e45 e46a
                        have r46 := rx_of e46
                        have h2_places_here := e46a _ _ h2_places_here
                        have h3_picks_here := e46a _ _ h3_picks_here
                        have h5_due_here := e46a _ _ h5_due_here
                        have h1_elder := e46a _ _ h1_elder
                        have h1_one := e46a _ _ h1_one
                        have h1_other := e46a _ _ h1_other
                        have h12 := e46a _ _ h12
                        have h12_kept0 := e46a _ _ h12_kept0
                        have h12_kept1 := e46a _ _ h12_kept1
                        have h12_kept2 := e46a _ _ h12_kept2
                        have h12_kept3 := e46a _ _ h12_kept3
                        have hl13 := e46a _ _ hl13
                        have h42_found := e46a _ _ h42_found
                        have h42_found1 := e46a _ _ h42_found1
                        have k42b := ret_F k38b hb46
                        exact absurd hw.1 (of_decide_eq_false hb46)
                · have n42 := fresh_back e41 n42a
                  have d_p2_places_here_p42_found := ne_of_none h2_places_here n42a
                  have d_p3_picks_here_p42_found := ne_of_none h3_picks_here n42a
                  have d_p5_due_here_p42_found := ne_of_none h5_due_here n42a
                  have d_p1_elder_p42_found := ne_of_none h1_elder n42a
                  have d_p1_one_p42_found := ne_of_none h1_one n42a
                  have d_p1_other_p42_found := ne_of_none h1_other n42a
                  have d_p12_kept_p42_found := ne_of_none h12 n42a
                  have d_p12_kept0_p42_found := ne_of_none h12_kept0 n42a
                  have d_p12_kept1_p42_found := ne_of_none h12_kept1 n42a
                  have d_p12_kept2_p42_found := ne_of_none h12_kept2 n42a
                  have d_p12_kept3_p42_found := ne_of_none h12_kept3 n42a
                  have d_pl13_p42_found := ne_of_none hl13 n42a
                  have e42 := Ex.trans e41 e42a
                  have r42 := rx_of e42
                  have h2_places_here := e42a _ _ h2_places_here
                  have h3_picks_here := e42a _ _ h3_picks_here
                  have h5_due_here := e42a _ _ h5_due_here
                  have h1_elder := e42a _ _ h1_elder
                  have h1_one := e42a _ _ h1_one
                  have h1_other := e42a _ _ h1_other
                  have h12 := e42a _ _ h12
                  have h12_kept0 := e42a _ _ h12_kept0
                  have h12_kept1 := e42a _ _ h12_kept1
                  have h12_kept2 := e42a _ _ h12_kept2
                  have h12_kept3 := e42a _ _ h12_kept3
                  have hl13 := e42a _ _ hl13
                  have k43exc := ret_exc (f := V.bl) k33b hT42
                  have hw := told_exc p_script hdue hT42 (by first | exact Or.inl ⟨rfl, rfl⟩ | exact Or.inr ⟨rfl, rfl⟩)
                  refine q_when (b := ((!decide ((word kT42) = (m_law_v14 p_script))) || false)) (et_or (et_test (e_neT (e_ixV (ev_var rfl) h42_found ev_c (by rfl)) (ev_var rfl))) (fun hc => (et_test (e_neLs (el_lst (ea_cons (ev_var rfl) (ea_cons (ev_var rfl) (ea_cons (ev_var rfl) (ea_cons (ev_var rfl) ea_nil)))) (by simp)) (ev_var rfl) h12 (fun HQ eQ => .cons (qv_dict (l := (m_law_v1 p_script)) (m := (m_law_v15 p_script)) (eQ _ _ h1_elder) (eQ _ _ h12_kept0) (by walk_at "vside")) (.cons (qv_dict (l := (m_law_v2 p_script)) (m := (m_law_v16 p_script)) (eQ _ _ h1_one) (eQ _ _ h12_kept1) (by walk_at "vside")) (.cons (qv_dict (l := (m_law_v3 p_script)) (m := (m_law_v17 p_script)) (eQ _ _ h1_other) (eQ _ _ h12_kept2) (by walk_at "vside")) (.cons (qv_dictO (l := (m_law_v13 p_script)) (by walk_at "vside") (eQ _ _ h3_picks_here) (eQ _ _ h12_kept3)) (.nil))))))))) (fun hb51 H51 e51a => ?_) (fun hb51 H51 e51a => ?_)
                  · have e51 := Ex.trans e42 e51a
                    have r51 := rx_of e51
                    have h2_places_here := e51a _ _ h2_places_here
                    have h3_picks_here := e51a _ _ h3_picks_here
                    have h5_due_here := e51a _ _ h5_due_here
                    have h1_elder := e51a _ _ h1_elder
                    have h1_one := e51a _ _ h1_one
                    have h1_other := e51a _ _ h1_other
                    have h12 := e51a _ _ h12
                    have h12_kept0 := e51a _ _ h12_kept0
                    have h12_kept1 := e51a _ _ h12_kept1
                    have h12_kept2 := e51a _ _ h12_kept2
                    have h12_kept3 := e51a _ _ h12_kept3
                    have hl13 := e51a _ _ hl13
                    have h42_found := e51a _ _ h42_found
                    have k44a := ret_T k43exc hb51
                    exact s_ret ev_c fun H52 e52a => (RetV.go k44a (Ex.trans e51 e52a))
                  · have e51 := Ex.trans e42 e51a
                    have r51 := rx_of e51
                    have h2_places_here := e51a _ _ h2_places_here
                    have h3_picks_here := e51a _ _ h3_picks_here
                    have h5_due_here := e51a _ _ h5_due_here
                    have h1_elder := e51a _ _ h1_elder
                    have h1_one := e51a _ _ h1_one
                    have h1_other := e51a _ _ h1_other
                    have h12 := e51a _ _ h12
                    have h12_kept0 := e51a _ _ h12_kept0
                    have h12_kept1 := e51a _ _ h12_kept1
                    have h12_kept2 := e51a _ _ h12_kept2
                    have h12_kept3 := e51a _ _ h12_kept3
                    have hl13 := e51a _ _ hl13
                    have h42_found := e51a _ _ h42_found
                    have k45b := ret_F k43exc hb51
                    refine q_when (b := ((!decide ((m_law_v14 p_script) = lMade)) && (!decide (true = true)))) (et_and (et_test (e_neT (ev_var rfl) (ev_is (w := vs lMade) e_lit rfl))) (fun hc => (et_test (e_notBl (e_ixV (ev_var rfl) h42_found ev_c (by rfl)) ev_c)))) (fun hb53 H53 e53a => ?_) (fun hb53 H53 e53a => ?_)
                    · have e53 := Ex.trans e51 e53a
                      have r53 := rx_of e53
                      have h2_places_here := e53a _ _ h2_places_here
                      have h3_picks_here := e53a _ _ h3_picks_here
                      have h5_due_here := e53a _ _ h5_due_here
                      have h1_elder := e53a _ _ h1_elder
                      have h1_one := e53a _ _ h1_one
                      have h1_other := e53a _ _ h1_other
                      have h12 := e53a _ _ h12
                      have h12_kept0 := e53a _ _ h12_kept0
                      have h12_kept1 := e53a _ _ h12_kept1
                      have h12_kept2 := e53a _ _ h12_kept2
                      have h12_kept3 := e53a _ _ h12_kept3
                      have hl13 := e53a _ _ hl13
                      have h42_found := e53a _ _ h42_found
                      have k46a := ret_T k45b hb53
                      exact s_ret ev_c fun H54 e54a => (RetV.go k46a (Ex.trans e53 e54a))
                    · have e53 := Ex.trans e51 e53a
                      have r53 := rx_of e53
                      have h2_places_here := e53a _ _ h2_places_here
                      have h3_picks_here := e53a _ _ h3_picks_here
                      have h5_due_here := e53a _ _ h5_due_here
                      have h1_elder := e53a _ _ h1_elder
                      have h1_one := e53a _ _ h1_one
                      have h1_other := e53a _ _ h1_other
                      have h12 := e53a _ _ h12
                      have h12_kept0 := e53a _ _ h12_kept0
                      have h12_kept1 := e53a _ _ h12_kept1
                      have h12_kept2 := e53a _ _ h12_kept2
                      have h12_kept3 := e53a _ _ h12_kept3
                      have hl13 := e53a _ _ hl13
                      have h42_found := e53a _ _ h42_found
                      have k47b := ret_F k45b hb53
                      refine s_when (b := (decide ((m_law_v14 p_script) = lMade))) (et_test (e_eqT (ev_var rfl) (ev_is (w := vs lMade) e_lit rfl))) (fun hb55 H55 e55a => ?_) (fun hb55 H55 e55a => ?_)
                      · have e55 := Ex.trans e53 e55a
                        have r55 := rx_of e55
                        have h2_places_here := e55a _ _ h2_places_here
                        have h3_picks_here := e55a _ _ h3_picks_here
                        have h5_due_here := e55a _ _ h5_due_here
                        have h1_elder := e55a _ _ h1_elder
                        have h1_one := e55a _ _ h1_one
                        have h1_other := e55a _ _ h1_other
                        have h12 := e55a _ _ h12
                        have h12_kept0 := e55a _ _ h12_kept0
                        have h12_kept1 := e55a _ _ h12_kept1
                        have h12_kept2 := e55a _ _ h12_kept2
                        have h12_kept3 := e55a _ _ h12_kept3
                        have hl13 := e55a _ _ hl13
                        have h42_found := e55a _ _ h42_found
                        have k48a := ret_T k47b hb55
                        exact absurd (of_decide_eq_true hb55) hw.2
                      · have e55 := Ex.trans e53 e55a
                        have r55 := rx_of e55
                        have h2_places_here := e55a _ _ h2_places_here
                        have h3_picks_here := e55a _ _ h3_picks_here
                        have h5_due_here := e55a _ _ h5_due_here
                        have h1_elder := e55a _ _ h1_elder
                        have h1_one := e55a _ _ h1_one
                        have h1_other := e55a _ _ h1_other
                        have h12 := e55a _ _ h12
                        have h12_kept0 := e55a _ _ h12_kept0
                        have h12_kept1 := e55a _ _ h12_kept1
                        have h12_kept2 := e55a _ _ h12_kept2
                        have h12_kept3 := e55a _ _ h12_kept3
                        have hl13 := e55a _ _ hl13
                        have h42_found := e55a _ _ h42_found
                        have k49b := ret_F k47b hb55
                        refine And.intro (sq_of hl13) ?_
                        exact s_ret (e_eqLs (el_lst (ea_cons (ev_var rfl) (ea_cons (ev_var rfl) (ea_cons (ev_var rfl) (ea_cons (ev_var rfl) ea_nil)))) (by simp)) (ev_var rfl) h12 (fun HQ eQ => .cons (qv_dict (l := (m_law_v1 p_script)) (m := (m_law_v15 p_script)) (eQ _ _ h1_elder) (eQ _ _ h12_kept0) (by walk_at "vside")) (.cons (qv_dict (l := (m_law_v2 p_script)) (m := (m_law_v16 p_script)) (eQ _ _ h1_one) (eQ _ _ h12_kept1) (by walk_at "vside")) (.cons (qv_dict (l := (m_law_v3 p_script)) (m := (m_law_v17 p_script)) (eQ _ _ h1_other) (eQ _ _ h12_kept2) (by walk_at "vside")) (.cons (qv_dictO (l := (m_law_v13 p_script)) (by walk_at "vside") (eQ _ _ h3_picks_here) (eQ _ _ h12_kept3)) (.nil)))))) fun H56 e56a => (RetV.go k49b (Ex.trans e55 e56a))
    · have e5 := Ex.trans e4 e5a
      have r5 := rx_of e5
      have h1_elder := e5a _ _ h1_elder
      have h1_one := e5a _ _ h1_one
      have h1_other := e5a _ _ h1_other
      have h2_places_here := e5a _ _ h2_places_here
      have h3_picks_here := e5a _ _ h3_picks_here
      have k50none := ret_none (f := V.bl) k0 hT5
      have hdue := hT5
      refine q_ifSet (f := vs) (z := m_law_v22) (et_test (e_isNN (ev_var rfl) ev_c)) (fun hc => (ev_is (w := vs l_20ed7699) e_lit rfl)) rfl rfl fun H57 e57a => ?_
      have e57 := Ex.trans e5 e57a
      have r57 := rx_of e57
      have h1_elder := e57a _ _ h1_elder
      have h1_one := e57a _ _ h1_one
      have h1_other := e57a _ _ h1_other
      have h2_places_here := e57a _ _ h2_places_here
      have h3_picks_here := e57a _ _ h3_picks_here
      refine q_cut (M := (fun (σ58m : L2.St) (H58m : Hp) => ∃ (jm58_odd : Option V), σ58m = [some (.ref ap_script), some (.ref p2_places_here), some (.ref p3_picks_here), some (vs (m_law_v29 p_script)), some ((fun _ : Unit => V.non) ()), none, some (.ref p1_elder), some (.ref p1_one), some (.ref p1_other), jm58_odd, none, none, none] ∧ Ex H H58m ∧ RX H H58m ∧ H58m p2_places_here = some (.lst (List.map vs (m_law_v4 p_script))) ∧ H58m p3_picks_here = some (.dK (kd vo (m_law_v28 p_script))) ∧ H58m p1_elder = some (.dK (kd vs (m_law_v1 p_script))) ∧ H58m p1_one = some (.dK (kd vs (m_law_v2 p_script))) ∧ H58m p1_other = some (.dK (kd vs (m_law_v3 p_script))))) ?_ ?_
      · refine s_when (b := (decide (((m_law_cell_at p_script (28 : Int)) % (6 : Int)) = (1 : Int)))) (et_test (e_eqI (e_mod (ev_call (ea_cons (ev_var rfl) (ea_cons ev_c ea_nil)) (sv_of fun HC eC => ⟨_, _, _, rfl, ex_l eC (rx_l r57 hSp_script), (by walk_at "vside"), rfl⟩)) ev_c (by walk_at "vside")) ev_c)) (fun hb58 H58 e58a => ?_) (fun hb58 H58 e58a => ?_)
        · have e58 := Ex.trans e57 e58a
          have r58 := rx_of e58
          have h1_elder := e58a _ _ h1_elder
          have h1_one := e58a _ _ h1_one
          have h1_other := e58a _ _ h1_other
          have h2_places_here := e58a _ _ h2_places_here
          have h3_picks_here := e58a _ _ h3_picks_here
          refine q_asg (v := vs (m_law_v23 p_script)) (ev_is (e_ixN (f := vs) (l := [l_f8be0e12, l_82bac741, l_7dbde935]) [] (el_lst (ea_cons (ev_is (w := vs l_f8be0e12) e_lit rfl) (ea_cons (ev_is (w := vs l_82bac741) e_lit rfl) (ea_cons (ev_is (w := vs l_7dbde935) e_lit rfl) ea_nil))) (by simp)) (e_mod (e_div (ev_call (ea_cons (ev_var rfl) (ea_cons ev_c ea_nil)) (sv_of fun HC eC => ⟨_, _, _, rfl, ex_l eC (rx_l r58 hSp_script), (by walk_at "vside"), rfl⟩)) ev_c (by walk_at "vside")) ev_c (by walk_at "vside")) (by walk_at "vside")) rfl) fun H59 e59a => ?_
          have e59 := Ex.trans e58 e59a
          have r59 := rx_of e59
          have h1_elder := e59a _ _ h1_elder
          have h1_one := e59a _ _ h1_one
          have h1_other := e59a _ _ h1_other
          have h2_places_here := e59a _ _ h2_places_here
          have h3_picks_here := e59a _ _ h3_picks_here
          have fm_law_v23 : List.length (m_law_v23 p_script) = List.length (([l_f8be0e12, l_82bac741, l_7dbde935].getD (((m_law_cell_at p_script (28 : Int)) / (6 : Int)) % (3 : Int)).toNat [])) := rfl
          refine q_cut (M := (fun (σ60m : L2.St) (H60m : Hp) => σ60m = [some (.ref ap_script), some (.ref p2_places_here), some (.ref p3_picks_here), some (vs (m_law_v27 p_script)), some ((fun _ : Unit => V.non) ()), none, some (.ref p1_elder), some (.ref p1_one), some (.ref p1_other), some (vs (m_law_v23 p_script)), none, none, none] ∧ Ex H H60m ∧ RX H H60m ∧ H60m p2_places_here = some (.lst (List.map vs (m_law_v4 p_script))) ∧ H60m p3_picks_here = some (.dK (kd vo (m_law_v26 p_script))) ∧ H60m p1_elder = some (.dK (kd vs (m_law_v1 p_script))) ∧ H60m p1_one = some (.dK (kd vs (m_law_v2 p_script))) ∧ H60m p1_other = some (.dK (kd vs (m_law_v3 p_script))))) ?_ ?_
          · refine s_when (b := (!decide ((m_law_v23 p_script) ∈ (m_law_v4 p_script)))) (et_test (e_niR (l := (m_law_v4 p_script)) (ev_var rfl) (ev_var rfl) (sq_of h2_places_here))) (fun hb60 H60 e60a => ?_) (fun hb60 H60 e60a => ?_)
            · have e60 := Ex.trans e59 e60a
              have r60 := rx_of e60
              have h1_elder := e60a _ _ h1_elder
              have h1_one := e60a _ _ h1_one
              have h1_other := e60a _ _ h1_other
              have h2_places_here := e60a _ _ h2_places_here
              have h3_picks_here := e60a _ _ h3_picks_here
              refine q_putD (f := vo) (l := (m_law_v5 p_script)) (k := (m_law_v23 p_script)) (v := ([(some lX), none].getD (((m_law_cell_at p_script (28 : Int)) / (18 : Int)) % (2 : Int)).toNat none)) (e_ixN (f := vo) (l := [(some lX), none]) none (el_lst (ea_cons (ev_is (w := vo (some lX)) (ev_is (w := vs lX) e_lit rfl) rfl) (ea_cons (ev_is (w := vo none) ev_c rfl) ea_nil)) (by simp)) (e_mod (e_div (ev_call (ea_cons (ev_var rfl) (ea_cons ev_c ea_nil)) (sv_of fun HC eC => ⟨_, _, _, rfl, ex_l eC (rx_l r60 hSp_script), (by walk_at "vside"), rfl⟩)) ev_c (by walk_at "vside")) ev_c (by walk_at "vside")) (by walk_at "vside")) (ev_var rfl) (ev_var rfl) h3_picks_here (by walk_at "vside") fun H61 m61 => ?_
              have e61 := Mu.ex m61 e60 n3
              have r61 := rx_of e61
              have h1_elder := Mu.keep m61 (by first | exact d_p1_elder_p3_picks_here | exact Ne.symm d_p3_picks_here_p1_elder) h1_elder
              have h1_one := Mu.keep m61 (by first | exact d_p1_one_p3_picks_here | exact Ne.symm d_p3_picks_here_p1_one) h1_one
              have h1_other := Mu.keep m61 (by first | exact d_p1_other_p3_picks_here | exact Ne.symm d_p3_picks_here_p1_other) h1_other
              have h2_places_here := Mu.keep m61 (by first | exact d_p2_places_here_p3_picks_here | exact Ne.symm d_p3_picks_here_p2_places_here) h2_places_here
              have h3_picks_here : H61 p3_picks_here = some (.dK (kd vo (m_law_v24 p_script))) := Mu.at m61
              refine s_asg (v := vs m_law_v25) (ev_is (ev_is (w := vs l_0cd5a837) e_lit rfl) rfl) fun H62 e62a => ?_
              have e62 := Ex.trans e61 e62a
              have r62 := rx_of e62
              have h1_elder := e62a _ _ h1_elder
              have h1_one := e62a _ _ h1_one
              have h1_other := e62a _ _ h1_other
              have h2_places_here := e62a _ _ h2_places_here
              have h3_picks_here := e62a _ _ h3_picks_here
              have fm_law_v25 : List.length m_law_v25 = List.length (l_0cd5a837) := rfl
              have hV60_0 : (m_law_v27 p_script) = m_law_v25 := if_pos hb60
              have hV60_1 : (m_law_v26 p_script) = (m_law_v24 p_script) := if_pos hb60
              exact ⟨(by rw [hV60_0] <;> rfl), e62, r62, h2_places_here, (by rw [hV60_1]; exact h3_picks_here), h1_elder, h1_one, h1_other⟩
            · have e60 := Ex.trans e59 e60a
              have r60 := rx_of e60
              have h1_elder := e60a _ _ h1_elder
              have h1_one := e60a _ _ h1_one
              have h1_other := e60a _ _ h1_other
              have h2_places_here := e60a _ _ h2_places_here
              have h3_picks_here := e60a _ _ h3_picks_here
              have hV60_0 : (m_law_v27 p_script) = m_law_v22 := if_neg (by rw [hb60]; exact Bool.false_ne_true)
              have hV60_1 : (m_law_v26 p_script) = (m_law_v5 p_script) := if_neg (by rw [hb60]; exact Bool.false_ne_true)
              exact ⟨(by rw [hV60_0] <;> rfl), e60, r60, h2_places_here, (by rw [hV60_1]; exact h3_picks_here), h1_elder, h1_one, h1_other⟩
          · intro σ60m H60m hq60m
            obtain ⟨rfl, e60m, r60m, h2_places_here, h3_picks_here, h1_elder, h1_one, h1_other⟩ := hq60m
            have fm_law_v4 : List.length (m_law_v4 p_script) = List.length ((m_law_places (m_law_v1 p_script) (m_law_v2 p_script) (m_law_v3 p_script))) := rfl
            have gpl := law_places p_script
            have gpl7 : (m_law_v4 p_script).length ≤ 700 := Nat.le_trans gpl (by decide)
            have gp := law_P4 p_script
            have gps := law_P4s p_script
            have fm_law_v23 : List.length (m_law_v23 p_script) = List.length (([l_f8be0e12, l_82bac741, l_7dbde935].getD (((m_law_cell_at p_script (28 : Int)) / (6 : Int)) % (3 : Int)).toNat [])) := rfl
            have hV58_0 : (m_law_v29 p_script) = (m_law_v27 p_script) := if_pos hb58
            have hV58_1 : (m_law_v28 p_script) = (m_law_v26 p_script) := if_pos hb58
            exact ⟨_, (by rw [hV58_0] <;> rfl), e60m, r60m, h2_places_here, (by rw [hV58_1]; exact h3_picks_here), h1_elder, h1_one, h1_other⟩
        · have e58 := Ex.trans e57 e58a
          have r58 := rx_of e58
          have h1_elder := e58a _ _ h1_elder
          have h1_one := e58a _ _ h1_one
          have h1_other := e58a _ _ h1_other
          have h2_places_here := e58a _ _ h2_places_here
          have h3_picks_here := e58a _ _ h3_picks_here
          have hV58_0 : (m_law_v29 p_script) = m_law_v22 := if_neg (by rw [hb58]; exact Bool.false_ne_true)
          have hV58_1 : (m_law_v28 p_script) = (m_law_v5 p_script) := if_neg (by rw [hb58]; exact Bool.false_ne_true)
          exact ⟨_, (by rw [hV58_0] <;> rfl), e58, r58, h2_places_here, (by rw [hV58_1]; exact h3_picks_here), h1_elder, h1_one, h1_other⟩
      · intro σ58m H58m hq58m
        obtain ⟨jm58_odd, rfl, e58m, r58m, h2_places_here, h3_picks_here, h1_elder, h1_one, h1_other⟩ := hq58m
        have fm_law_v4 : List.length (m_law_v4 p_script) = List.length ((m_law_places (m_law_v1 p_script) (m_law_v2 p_script) (m_law_v3 p_script))) := rfl
        have gpl := law_places p_script
        have gpl7 : (m_law_v4 p_script).length ≤ 700 := Nat.le_trans gpl (by decide)
        have g13 : okPicks (m_law_v28 p_script) := v13_ok p_script
        have g13n := g13.1.1
        have gpo : P4 (m_law_v1 p_script) (m_law_v2 p_script) (m_law_v3 p_script) ∧ okPicks (m_law_v28 p_script) := ⟨gp, g13⟩
        have gqo : P4 (m_law_v1 p_script) (m_law_v3 p_script) (m_law_v2 p_script) ∧ okPicks (m_law_v28 p_script) := ⟨gps, g13⟩
        have gp := law_P4 p_script
        have gps := law_P4s p_script
        refine q_asgL4 (k_copy (f := vs) (l := (m_law_v1 p_script)) (ev_var rfl) (Or.inl h1_elder)) (k_copy (f := vs) (l := (m_law_v2 p_script)) (ev_var rfl) (Or.inl h1_one)) (k_copy (f := vs) (l := (m_law_v3 p_script)) (ev_var rfl) (Or.inl h1_other)) (k_copy (f := vo) (l := (m_law_v28 p_script)) (ev_var rfl) (Or.inl h3_picks_here)) fun p63_kept p63_kept0 p63_kept1 p63_kept2 p63_kept3 H63 n63a n63a0 n63a1 n63a2 n63a3 d_p63_kept0_p63_kept1 d_p63_kept0_p63_kept2 d_p63_kept0_p63_kept3 d_p63_kept1_p63_kept2 d_p63_kept1_p63_kept3 d_p63_kept2_p63_kept3 e63a h63 h63_kept0 h63_kept1 h63_kept2 h63_kept3 => ?_
        have n63 := fresh_back e58m n63a
        have n63_0 := fresh_back e58m n63a0
        have n63_1 := fresh_back e58m n63a1
        have n63_2 := fresh_back e58m n63a2
        have n63_3 := fresh_back e58m n63a3
        have d_p63_kept_p63_kept0 := ne_dt h63 h63_kept0 (fun z => nomatch z)
        have d_p63_kept_p63_kept1 := ne_dt h63 h63_kept1 (fun z => nomatch z)
        have d_p63_kept_p63_kept2 := ne_dt h63 h63_kept2 (fun z => nomatch z)
        have d_p63_kept_p63_kept3 := ne_dt h63 h63_kept3 (fun z => nomatch z)
        have d_p2_places_here_p63_kept := ne_of_none h2_places_here n63a
        have d_p2_places_here_p63_kept0 := ne_of_none h2_places_here n63a0
        have d_p2_places_here_p63_kept1 := ne_of_none h2_places_here n63a1
        have d_p2_places_here_p63_kept2 := ne_of_none h2_places_here n63a2
        have d_p2_places_here_p63_kept3 := ne_of_none h2_places_here n63a3
        have d_p3_picks_here_p63_kept := ne_of_none h3_picks_here n63a
        have d_p3_picks_here_p63_kept0 := ne_of_none h3_picks_here n63a0
        have d_p3_picks_here_p63_kept1 := ne_of_none h3_picks_here n63a1
        have d_p3_picks_here_p63_kept2 := ne_of_none h3_picks_here n63a2
        have d_p3_picks_here_p63_kept3 := ne_of_none h3_picks_here n63a3
        have d_p1_elder_p63_kept := ne_of_none h1_elder n63a
        have d_p1_elder_p63_kept0 := ne_of_none h1_elder n63a0
        have d_p1_elder_p63_kept1 := ne_of_none h1_elder n63a1
        have d_p1_elder_p63_kept2 := ne_of_none h1_elder n63a2
        have d_p1_elder_p63_kept3 := ne_of_none h1_elder n63a3
        have d_p1_one_p63_kept := ne_of_none h1_one n63a
        have d_p1_one_p63_kept0 := ne_of_none h1_one n63a0
        have d_p1_one_p63_kept1 := ne_of_none h1_one n63a1
        have d_p1_one_p63_kept2 := ne_of_none h1_one n63a2
        have d_p1_one_p63_kept3 := ne_of_none h1_one n63a3
        have d_p1_other_p63_kept := ne_of_none h1_other n63a
        have d_p1_other_p63_kept0 := ne_of_none h1_other n63a0
        have d_p1_other_p63_kept1 := ne_of_none h1_other n63a1
        have d_p1_other_p63_kept2 := ne_of_none h1_other n63a2
        have d_p1_other_p63_kept3 := ne_of_none h1_other n63a3
        have e63 := Ex.trans e58m e63a
        have r63 := rx_of e63
        have h2_places_here := e63a _ _ h2_places_here
        have h3_picks_here := e63a _ _ h3_picks_here
        have h1_elder := e63a _ _ h1_elder
        have h1_one := e63a _ _ h1_one
        have h1_other := e63a _ _ h1_other
        have h63_kept0 : H63 p63_kept0 = some (.dK (kd vs (m_law_v30 p_script))) := h63_kept0
        have h63_kept1 : H63 p63_kept1 = some (.dK (kd vs (m_law_v31 p_script))) := h63_kept1
        have h63_kept2 : H63 p63_kept2 = some (.dK (kd vs (m_law_v32 p_script))) := h63_kept2
        have gd1 : dsame (m_law_v1 p_script) (m_law_v30 p_script) := dsame_refl (law_trees p_script).1.2.g.nd
        have gd2 : dsame (m_law_v2 p_script) (m_law_v31 p_script) := dsame_refl (law_trees p_script).2.1.2.g.nd
        have gd3 : dsame (m_law_v3 p_script) (m_law_v32 p_script) := dsame_refl (law_trees p_script).2.2.2.g.nd
        have h63_kept3 : H63 p63_kept3 = some (.dK (kd vo (m_law_v33 p_script))) := h63_kept3
        refine q_twoR (K := K) (fun _ => (ev_var rfl)) (fun _ => (ev_var rfl)) (fun _ => (ev_var rfl)) (fun _ => (ev_var rfl)) fun u1_64 u2_64 pl64 H64 nl64 e64a hl64 hu64 => ?_
        have nl64b := fresh_back e63 nl64
        have d_p2_places_here_pl64 := ne_of_none h2_places_here nl64
        have d_p3_picks_here_pl64 := ne_of_none h3_picks_here nl64
        have d_p1_elder_pl64 := ne_of_none h1_elder nl64
        have d_p1_one_pl64 := ne_of_none h1_one nl64
        have d_p1_other_pl64 := ne_of_none h1_other nl64
        have d_p63_kept_pl64 := ne_of_none h63 nl64
        have d_p63_kept0_pl64 := ne_of_none h63_kept0 nl64
        have d_p63_kept1_pl64 := ne_of_none h63_kept1 nl64
        have d_p63_kept2_pl64 := ne_of_none h63_kept2 nl64
        have d_p63_kept3_pl64 := ne_of_none h63_kept3 nl64
        have e64 := Ex.trans e63 e64a
        have r64 := rx_of e64
        have h2_places_here := e64a _ _ h2_places_here
        have h3_picks_here := e64a _ _ h3_picks_here
        have h1_elder := e64a _ _ h1_elder
        have h1_one := e64a _ _ h1_one
        have h1_other := e64a _ _ h1_other
        have h63 := e64a _ _ h63
        have h63_kept0 := e64a _ _ h63_kept0
        have h63_kept1 := e64a _ _ h63_kept1
        have h63_kept2 := e64a _ _ h63_kept2
        have h63_kept3 := e64a _ _ h63_kept3
        refine q_told (r := (m_law_told (m_law_v1 p_script) (m_law_v2 p_script) (m_law_v3 p_script) (m_law_v28 p_script))) (ea_cons (ev_var rfl) (ea_cons (ev_var rfl) (ea_cons (ev_var rfl) (ea_cons (ev_var rfl) ea_nil)))) (fun HC eC => ⟨_, _, _, _, _, _, _, _, rfl, ex_rd eC (Or.inl h1_elder), ex_rd eC (Or.inl h1_one), ex_rd eC (Or.inl h1_other), ex_rd eC (Or.inl h3_picks_here), (by walk_at "vside"), rfl⟩) (fun lT65 hT65 p65_found p65_found1 H65 n65a n65b d65 e65a h65_found h65_found1 => ?_) (fun kT65 hT65 p65_found H65 n65a e65a h65_found => ?_)
        · have n65 := fresh_back e64 n65a
          have n651 := fresh_back e64 n65b
          have d_p65_found_p65_found1 := d65
          have d_p2_places_here_p65_found := ne_of_none h2_places_here n65a
          have d_p2_places_here_p65_found1 := ne_of_none h2_places_here n65b
          have d_p3_picks_here_p65_found := ne_of_none h3_picks_here n65a
          have d_p3_picks_here_p65_found1 := ne_of_none h3_picks_here n65b
          have d_p1_elder_p65_found := ne_of_none h1_elder n65a
          have d_p1_elder_p65_found1 := ne_of_none h1_elder n65b
          have d_p1_one_p65_found := ne_of_none h1_one n65a
          have d_p1_one_p65_found1 := ne_of_none h1_one n65b
          have d_p1_other_p65_found := ne_of_none h1_other n65a
          have d_p1_other_p65_found1 := ne_of_none h1_other n65b
          have d_p63_kept_p65_found := ne_of_none h63 n65a
          have d_p63_kept_p65_found1 := ne_of_none h63 n65b
          have d_p63_kept0_p65_found := ne_of_none h63_kept0 n65a
          have d_p63_kept0_p65_found1 := ne_of_none h63_kept0 n65b
          have d_p63_kept1_p65_found := ne_of_none h63_kept1 n65a
          have d_p63_kept1_p65_found1 := ne_of_none h63_kept1 n65b
          have d_p63_kept2_p65_found := ne_of_none h63_kept2 n65a
          have d_p63_kept2_p65_found1 := ne_of_none h63_kept2 n65b
          have d_p63_kept3_p65_found := ne_of_none h63_kept3 n65a
          have d_p63_kept3_p65_found1 := ne_of_none h63_kept3 n65b
          have d_pl64_p65_found := ne_of_none hl64 n65a
          have d_pl64_p65_found1 := ne_of_none hl64 n65b
          have e65 := Ex.trans e64 e65a
          have r65 := rx_of e65
          have h2_places_here := e65a _ _ h2_places_here
          have h3_picks_here := e65a _ _ h3_picks_here
          have h1_elder := e65a _ _ h1_elder
          have h1_one := e65a _ _ h1_one
          have h1_other := e65a _ _ h1_other
          have h63 := e65a _ _ h63
          have h63_kept0 := e65a _ _ h63_kept0
          have h63_kept1 := e65a _ _ h63_kept1
          have h63_kept2 := e65a _ _ h63_kept2
          have h63_kept3 := e65a _ _ h63_kept3
          have hl64 := e65a _ _ hl64
          have hu64 := ex_t e65a hu64
          have k51ok := ret_ok (f := V.bl) k50none hT65
          exact (no_ok p_script hdue hT65 (by first | exact Or.inl ⟨rfl, rfl⟩ | exact Or.inr ⟨rfl, rfl⟩)).elim
        · have n65 := fresh_back e64 n65a
          have d_p2_places_here_p65_found := ne_of_none h2_places_here n65a
          have d_p3_picks_here_p65_found := ne_of_none h3_picks_here n65a
          have d_p1_elder_p65_found := ne_of_none h1_elder n65a
          have d_p1_one_p65_found := ne_of_none h1_one n65a
          have d_p1_other_p65_found := ne_of_none h1_other n65a
          have d_p63_kept_p65_found := ne_of_none h63 n65a
          have d_p63_kept0_p65_found := ne_of_none h63_kept0 n65a
          have d_p63_kept1_p65_found := ne_of_none h63_kept1 n65a
          have d_p63_kept2_p65_found := ne_of_none h63_kept2 n65a
          have d_p63_kept3_p65_found := ne_of_none h63_kept3 n65a
          have d_pl64_p65_found := ne_of_none hl64 n65a
          have e65 := Ex.trans e64 e65a
          have r65 := rx_of e65
          have h2_places_here := e65a _ _ h2_places_here
          have h3_picks_here := e65a _ _ h3_picks_here
          have h1_elder := e65a _ _ h1_elder
          have h1_one := e65a _ _ h1_one
          have h1_other := e65a _ _ h1_other
          have h63 := e65a _ _ h63
          have h63_kept0 := e65a _ _ h63_kept0
          have h63_kept1 := e65a _ _ h63_kept1
          have h63_kept2 := e65a _ _ h63_kept2
          have h63_kept3 := e65a _ _ h63_kept3
          have hl64 := e65a _ _ hl64
          have hu64 := ex_t e65a hu64
          have k52exc := ret_exc (f := V.bl) k50none hT65
          have hw := told_none p_script hdue hT65 (by first | exact Or.inl ⟨rfl, rfl⟩ | exact Or.inr ⟨rfl, rfl⟩)
          refine q_when (b := ((!decide ((word kT65) = (m_law_v29 p_script))) || false)) (et_or (et_test (e_neT (e_ixV (ev_var rfl) h65_found ev_c (by rfl)) (ev_var rfl))) (fun hc => (et_test (e_neLs (el_lst (ea_cons (ev_var rfl) (ea_cons (ev_var rfl) (ea_cons (ev_var rfl) (ea_cons (ev_var rfl) ea_nil)))) (by simp)) (ev_var rfl) h63 (fun HQ eQ => .cons (qv_dict (l := (m_law_v1 p_script)) (m := (m_law_v30 p_script)) (eQ _ _ h1_elder) (eQ _ _ h63_kept0) (by walk_at "vside")) (.cons (qv_dict (l := (m_law_v2 p_script)) (m := (m_law_v31 p_script)) (eQ _ _ h1_one) (eQ _ _ h63_kept1) (by walk_at "vside")) (.cons (qv_dict (l := (m_law_v3 p_script)) (m := (m_law_v32 p_script)) (eQ _ _ h1_other) (eQ _ _ h63_kept2) (by walk_at "vside")) (.cons (qv_dictO (l := (m_law_v28 p_script)) (by walk_at "vside") (eQ _ _ h3_picks_here) (eQ _ _ h63_kept3)) (.nil))))))))) (fun hb66 H66 e66a => ?_) (fun hb66 H66 e66a => ?_)
          · have e66 := Ex.trans e65 e66a
            have r66 := rx_of e66
            have h2_places_here := e66a _ _ h2_places_here
            have h3_picks_here := e66a _ _ h3_picks_here
            have h1_elder := e66a _ _ h1_elder
            have h1_one := e66a _ _ h1_one
            have h1_other := e66a _ _ h1_other
            have h63 := e66a _ _ h63
            have h63_kept0 := e66a _ _ h63_kept0
            have h63_kept1 := e66a _ _ h63_kept1
            have h63_kept2 := e66a _ _ h63_kept2
            have h63_kept3 := e66a _ _ h63_kept3
            have hl64 := e66a _ _ hl64
            have hu64 := ex_t e66a hu64
            have h65_found := e66a _ _ h65_found
            have k53a := ret_T k52exc hb66
            exact s_ret ev_c fun H67 e67a => (RetV.go k53a (Ex.trans e66 e67a))
          · have e66 := Ex.trans e65 e66a
            have r66 := rx_of e66
            have h2_places_here := e66a _ _ h2_places_here
            have h3_picks_here := e66a _ _ h3_picks_here
            have h1_elder := e66a _ _ h1_elder
            have h1_one := e66a _ _ h1_one
            have h1_other := e66a _ _ h1_other
            have h63 := e66a _ _ h63
            have h63_kept0 := e66a _ _ h63_kept0
            have h63_kept1 := e66a _ _ h63_kept1
            have h63_kept2 := e66a _ _ h63_kept2
            have h63_kept3 := e66a _ _ h63_kept3
            have hl64 := e66a _ _ hl64
            have hu64 := ex_t e66a hu64
            have h65_found := e66a _ _ h65_found
            have k54b := ret_F k52exc hb66
            refine q_when (b := ((!decide ((m_law_v29 p_script) = lMade)) && (!decide (true = true)))) (et_and (et_test (e_neT (ev_var rfl) (ev_is (w := vs lMade) e_lit rfl))) (fun hc => (et_test (e_notBl (e_ixV (ev_var rfl) h65_found ev_c (by rfl)) ev_c)))) (fun hb68 H68 e68a => ?_) (fun hb68 H68 e68a => ?_)
            · have e68 := Ex.trans e66 e68a
              have r68 := rx_of e68
              have h2_places_here := e68a _ _ h2_places_here
              have h3_picks_here := e68a _ _ h3_picks_here
              have h1_elder := e68a _ _ h1_elder
              have h1_one := e68a _ _ h1_one
              have h1_other := e68a _ _ h1_other
              have h63 := e68a _ _ h63
              have h63_kept0 := e68a _ _ h63_kept0
              have h63_kept1 := e68a _ _ h63_kept1
              have h63_kept2 := e68a _ _ h63_kept2
              have h63_kept3 := e68a _ _ h63_kept3
              have hl64 := e68a _ _ hl64
              have hu64 := ex_t e68a hu64
              have h65_found := e68a _ _ h65_found
              have k55a := ret_T k54b hb68
              exact s_ret ev_c fun H69 e69a => (RetV.go k55a (Ex.trans e68 e69a))
            · have e68 := Ex.trans e66 e68a
              have r68 := rx_of e68
              have h2_places_here := e68a _ _ h2_places_here
              have h3_picks_here := e68a _ _ h3_picks_here
              have h1_elder := e68a _ _ h1_elder
              have h1_one := e68a _ _ h1_one
              have h1_other := e68a _ _ h1_other
              have h63 := e68a _ _ h63
              have h63_kept0 := e68a _ _ h63_kept0
              have h63_kept1 := e68a _ _ h63_kept1
              have h63_kept2 := e68a _ _ h63_kept2
              have h63_kept3 := e68a _ _ h63_kept3
              have hl64 := e68a _ _ hl64
              have hu64 := ex_t e68a hu64
              have h65_found := e68a _ _ h65_found
              have k56b := ret_F k54b hb68
              refine s_when (b := (decide ((m_law_v29 p_script) = lMade))) (et_test (e_eqT (ev_var rfl) (ev_is (w := vs lMade) e_lit rfl))) (fun hb70 H70 e70a => ?_) (fun hb70 H70 e70a => ?_)
              · have e70 := Ex.trans e68 e70a
                have r70 := rx_of e70
                have h2_places_here := e70a _ _ h2_places_here
                have h3_picks_here := e70a _ _ h3_picks_here
                have h1_elder := e70a _ _ h1_elder
                have h1_one := e70a _ _ h1_one
                have h1_other := e70a _ _ h1_other
                have h63 := e70a _ _ h63
                have h63_kept0 := e70a _ _ h63_kept0
                have h63_kept1 := e70a _ _ h63_kept1
                have h63_kept2 := e70a _ _ h63_kept2
                have h63_kept3 := e70a _ _ h63_kept3
                have hl64 := e70a _ _ hl64
                have hu64 := ex_t e70a hu64
                have h65_found := e70a _ _ h65_found
                have k57a := ret_T k56b hb70
                exact absurd (of_decide_eq_true hb70) hw.2
              · have e70 := Ex.trans e68 e70a
                have r70 := rx_of e70
                have h2_places_here := e70a _ _ h2_places_here
                have h3_picks_here := e70a _ _ h3_picks_here
                have h1_elder := e70a _ _ h1_elder
                have h1_one := e70a _ _ h1_one
                have h1_other := e70a _ _ h1_other
                have h63 := e70a _ _ h63
                have h63_kept0 := e70a _ _ h63_kept0
                have h63_kept1 := e70a _ _ h63_kept1
                have h63_kept2 := e70a _ _ h63_kept2
                have h63_kept3 := e70a _ _ h63_kept3
                have hl64 := e70a _ _ hl64
                have hu64 := ex_t e70a hu64
                have h65_found := e70a _ _ h65_found
                have k58b := ret_F k56b hb70
                refine And.intro (sq_of hl64) (And.intro hu64 ?_)
                refine q_told (r := (m_law_told (m_law_v1 p_script) (m_law_v3 p_script) (m_law_v2 p_script) (m_law_v28 p_script))) (ea_cons (ev_var rfl) (ea_cons (ev_var rfl) (ea_cons (ev_var rfl) (ea_cons (ev_var rfl) ea_nil)))) (fun HC eC => ⟨_, _, _, _, _, _, _, _, rfl, ex_rd eC (Or.inl h1_elder), ex_rd eC (Or.inl h1_other), ex_rd eC (Or.inl h1_one), ex_rd eC (Or.inl h3_picks_here), (by walk_at "vside"), rfl⟩) (fun lT71 hT71 p71_found p71_found1 H71 n71a n71b d71 e71a h71_found h71_found1 => ?_) (fun kT71 hT71 p71_found H71 n71a e71a h71_found => ?_)
                · have n71 := fresh_back e70 n71a
                  have n711 := fresh_back e70 n71b
                  have d_p71_found_p71_found1 := d71
                  have d_p2_places_here_p71_found := ne_of_none h2_places_here n71a
                  have d_p2_places_here_p71_found1 := ne_of_none h2_places_here n71b
                  have d_p3_picks_here_p71_found := ne_of_none h3_picks_here n71a
                  have d_p3_picks_here_p71_found1 := ne_of_none h3_picks_here n71b
                  have d_p1_elder_p71_found := ne_of_none h1_elder n71a
                  have d_p1_elder_p71_found1 := ne_of_none h1_elder n71b
                  have d_p1_one_p71_found := ne_of_none h1_one n71a
                  have d_p1_one_p71_found1 := ne_of_none h1_one n71b
                  have d_p1_other_p71_found := ne_of_none h1_other n71a
                  have d_p1_other_p71_found1 := ne_of_none h1_other n71b
                  have d_p63_kept_p71_found := ne_of_none h63 n71a
                  have d_p63_kept_p71_found1 := ne_of_none h63 n71b
                  have d_p63_kept0_p71_found := ne_of_none h63_kept0 n71a
                  have d_p63_kept0_p71_found1 := ne_of_none h63_kept0 n71b
                  have d_p63_kept1_p71_found := ne_of_none h63_kept1 n71a
                  have d_p63_kept1_p71_found1 := ne_of_none h63_kept1 n71b
                  have d_p63_kept2_p71_found := ne_of_none h63_kept2 n71a
                  have d_p63_kept2_p71_found1 := ne_of_none h63_kept2 n71b
                  have d_p63_kept3_p71_found := ne_of_none h63_kept3 n71a
                  have d_p63_kept3_p71_found1 := ne_of_none h63_kept3 n71b
                  have d_pl64_p71_found := ne_of_none hl64 n71a
                  have d_pl64_p71_found1 := ne_of_none hl64 n71b
                  have e71 := Ex.trans e70 e71a
                  have r71 := rx_of e71
                  have h2_places_here := e71a _ _ h2_places_here
                  have h3_picks_here := e71a _ _ h3_picks_here
                  have h1_elder := e71a _ _ h1_elder
                  have h1_one := e71a _ _ h1_one
                  have h1_other := e71a _ _ h1_other
                  have h63 := e71a _ _ h63
                  have h63_kept0 := e71a _ _ h63_kept0
                  have h63_kept1 := e71a _ _ h63_kept1
                  have h63_kept2 := e71a _ _ h63_kept2
                  have h63_kept3 := e71a _ _ h63_kept3
                  have hl64 := e71a _ _ hl64
                  have k59ok := ret_ok (f := V.bl) k58b hT71
                  exact (no_ok p_script hdue hT71 (by first | exact Or.inl ⟨rfl, rfl⟩ | exact Or.inr ⟨rfl, rfl⟩)).elim
                · have n71 := fresh_back e70 n71a
                  have d_p2_places_here_p71_found := ne_of_none h2_places_here n71a
                  have d_p3_picks_here_p71_found := ne_of_none h3_picks_here n71a
                  have d_p1_elder_p71_found := ne_of_none h1_elder n71a
                  have d_p1_one_p71_found := ne_of_none h1_one n71a
                  have d_p1_other_p71_found := ne_of_none h1_other n71a
                  have d_p63_kept_p71_found := ne_of_none h63 n71a
                  have d_p63_kept0_p71_found := ne_of_none h63_kept0 n71a
                  have d_p63_kept1_p71_found := ne_of_none h63_kept1 n71a
                  have d_p63_kept2_p71_found := ne_of_none h63_kept2 n71a
                  have d_p63_kept3_p71_found := ne_of_none h63_kept3 n71a
                  have d_pl64_p71_found := ne_of_none hl64 n71a
                  have e71 := Ex.trans e70 e71a
                  have r71 := rx_of e71
                  have h2_places_here := e71a _ _ h2_places_here
                  have h3_picks_here := e71a _ _ h3_picks_here
                  have h1_elder := e71a _ _ h1_elder
                  have h1_one := e71a _ _ h1_one
                  have h1_other := e71a _ _ h1_other
                  have h63 := e71a _ _ h63
                  have h63_kept0 := e71a _ _ h63_kept0
                  have h63_kept1 := e71a _ _ h63_kept1
                  have h63_kept2 := e71a _ _ h63_kept2
                  have h63_kept3 := e71a _ _ h63_kept3
                  have hl64 := e71a _ _ hl64
                  have k60exc := ret_exc (f := V.bl) k58b hT71
                  have hw := told_none p_script hdue hT71 (by first | exact Or.inl ⟨rfl, rfl⟩ | exact Or.inr ⟨rfl, rfl⟩)
                  refine q_when (b := ((!decide ((word kT71) = (m_law_v29 p_script))) || false)) (et_or (et_test (e_neT (e_ixV (ev_var rfl) h71_found ev_c (by rfl)) (ev_var rfl))) (fun hc => (et_test (e_neLs (el_lst (ea_cons (ev_var rfl) (ea_cons (ev_var rfl) (ea_cons (ev_var rfl) (ea_cons (ev_var rfl) ea_nil)))) (by simp)) (ev_var rfl) h63 (fun HQ eQ => .cons (qv_dict (l := (m_law_v1 p_script)) (m := (m_law_v30 p_script)) (eQ _ _ h1_elder) (eQ _ _ h63_kept0) (by walk_at "vside")) (.cons (qv_dict (l := (m_law_v2 p_script)) (m := (m_law_v31 p_script)) (eQ _ _ h1_one) (eQ _ _ h63_kept1) (by walk_at "vside")) (.cons (qv_dict (l := (m_law_v3 p_script)) (m := (m_law_v32 p_script)) (eQ _ _ h1_other) (eQ _ _ h63_kept2) (by walk_at "vside")) (.cons (qv_dictO (l := (m_law_v28 p_script)) (by walk_at "vside") (eQ _ _ h3_picks_here) (eQ _ _ h63_kept3)) (.nil))))))))) (fun hb72 H72 e72a => ?_) (fun hb72 H72 e72a => ?_)
                  · have e72 := Ex.trans e71 e72a
                    have r72 := rx_of e72
                    have h2_places_here := e72a _ _ h2_places_here
                    have h3_picks_here := e72a _ _ h3_picks_here
                    have h1_elder := e72a _ _ h1_elder
                    have h1_one := e72a _ _ h1_one
                    have h1_other := e72a _ _ h1_other
                    have h63 := e72a _ _ h63
                    have h63_kept0 := e72a _ _ h63_kept0
                    have h63_kept1 := e72a _ _ h63_kept1
                    have h63_kept2 := e72a _ _ h63_kept2
                    have h63_kept3 := e72a _ _ h63_kept3
                    have hl64 := e72a _ _ hl64
                    have h71_found := e72a _ _ h71_found
                    have k61a := ret_T k60exc hb72
                    exact s_ret ev_c fun H73 e73a => (RetV.go k61a (Ex.trans e72 e73a))
                  · have e72 := Ex.trans e71 e72a
                    have r72 := rx_of e72
                    have h2_places_here := e72a _ _ h2_places_here
                    have h3_picks_here := e72a _ _ h3_picks_here
                    have h1_elder := e72a _ _ h1_elder
                    have h1_one := e72a _ _ h1_one
                    have h1_other := e72a _ _ h1_other
                    have h63 := e72a _ _ h63
                    have h63_kept0 := e72a _ _ h63_kept0
                    have h63_kept1 := e72a _ _ h63_kept1
                    have h63_kept2 := e72a _ _ h63_kept2
                    have h63_kept3 := e72a _ _ h63_kept3
                    have hl64 := e72a _ _ hl64
                    have h71_found := e72a _ _ h71_found
                    have k62b := ret_F k60exc hb72
                    refine q_when (b := ((!decide ((m_law_v29 p_script) = lMade)) && (!decide (true = true)))) (et_and (et_test (e_neT (ev_var rfl) (ev_is (w := vs lMade) e_lit rfl))) (fun hc => (et_test (e_notBl (e_ixV (ev_var rfl) h71_found ev_c (by rfl)) ev_c)))) (fun hb74 H74 e74a => ?_) (fun hb74 H74 e74a => ?_)
                    · have e74 := Ex.trans e72 e74a
                      have r74 := rx_of e74
                      have h2_places_here := e74a _ _ h2_places_here
                      have h3_picks_here := e74a _ _ h3_picks_here
                      have h1_elder := e74a _ _ h1_elder
                      have h1_one := e74a _ _ h1_one
                      have h1_other := e74a _ _ h1_other
                      have h63 := e74a _ _ h63
                      have h63_kept0 := e74a _ _ h63_kept0
                      have h63_kept1 := e74a _ _ h63_kept1
                      have h63_kept2 := e74a _ _ h63_kept2
                      have h63_kept3 := e74a _ _ h63_kept3
                      have hl64 := e74a _ _ hl64
                      have h71_found := e74a _ _ h71_found
                      have k63a := ret_T k62b hb74
                      exact s_ret ev_c fun H75 e75a => (RetV.go k63a (Ex.trans e74 e75a))
                    · have e74 := Ex.trans e72 e74a
                      have r74 := rx_of e74
                      have h2_places_here := e74a _ _ h2_places_here
                      have h3_picks_here := e74a _ _ h3_picks_here
                      have h1_elder := e74a _ _ h1_elder
                      have h1_one := e74a _ _ h1_one
                      have h1_other := e74a _ _ h1_other
                      have h63 := e74a _ _ h63
                      have h63_kept0 := e74a _ _ h63_kept0
                      have h63_kept1 := e74a _ _ h63_kept1
                      have h63_kept2 := e74a _ _ h63_kept2
                      have h63_kept3 := e74a _ _ h63_kept3
                      have hl64 := e74a _ _ hl64
                      have h71_found := e74a _ _ h71_found
                      have k64b := ret_F k62b hb74
                      refine s_when (b := (decide ((m_law_v29 p_script) = lMade))) (et_test (e_eqT (ev_var rfl) (ev_is (w := vs lMade) e_lit rfl))) (fun hb76 H76 e76a => ?_) (fun hb76 H76 e76a => ?_)
                      · have e76 := Ex.trans e74 e76a
                        have r76 := rx_of e76
                        have h2_places_here := e76a _ _ h2_places_here
                        have h3_picks_here := e76a _ _ h3_picks_here
                        have h1_elder := e76a _ _ h1_elder
                        have h1_one := e76a _ _ h1_one
                        have h1_other := e76a _ _ h1_other
                        have h63 := e76a _ _ h63
                        have h63_kept0 := e76a _ _ h63_kept0
                        have h63_kept1 := e76a _ _ h63_kept1
                        have h63_kept2 := e76a _ _ h63_kept2
                        have h63_kept3 := e76a _ _ h63_kept3
                        have hl64 := e76a _ _ hl64
                        have h71_found := e76a _ _ h71_found
                        have k65a := ret_T k64b hb76
                        exact absurd (of_decide_eq_true hb76) hw.2
                      · have e76 := Ex.trans e74 e76a
                        have r76 := rx_of e76
                        have h2_places_here := e76a _ _ h2_places_here
                        have h3_picks_here := e76a _ _ h3_picks_here
                        have h1_elder := e76a _ _ h1_elder
                        have h1_one := e76a _ _ h1_one
                        have h1_other := e76a _ _ h1_other
                        have h63 := e76a _ _ h63
                        have h63_kept0 := e76a _ _ h63_kept0
                        have h63_kept1 := e76a _ _ h63_kept1
                        have h63_kept2 := e76a _ _ h63_kept2
                        have h63_kept3 := e76a _ _ h63_kept3
                        have hl64 := e76a _ _ hl64
                        have h71_found := e76a _ _ h71_found
                        have k66b := ret_F k64b hb76
                        refine And.intro (sq_of hl64) ?_
                        exact s_ret (e_eqLs (el_lst (ea_cons (ev_var rfl) (ea_cons (ev_var rfl) (ea_cons (ev_var rfl) (ea_cons (ev_var rfl) ea_nil)))) (by simp)) (ev_var rfl) h63 (fun HQ eQ => .cons (qv_dict (l := (m_law_v1 p_script)) (m := (m_law_v30 p_script)) (eQ _ _ h1_elder) (eQ _ _ h63_kept0) (by walk_at "vside")) (.cons (qv_dict (l := (m_law_v2 p_script)) (m := (m_law_v31 p_script)) (eQ _ _ h1_one) (eQ _ _ h63_kept1) (by walk_at "vside")) (.cons (qv_dict (l := (m_law_v3 p_script)) (m := (m_law_v32 p_script)) (eQ _ _ h1_other) (eQ _ _ h63_kept2) (by walk_at "vside")) (.cons (qv_dictO (l := (m_law_v28 p_script)) (by walk_at "vside") (eQ _ _ h3_picks_here) (eQ _ _ h63_kept3)) (.nil)))))) fun H77 e77a => (RetV.go k66b (Ex.trans e76 e77a))
end
/-! ## what the top has written -/
theorem all_mk {l : PySem.W.OpenLaw} {w : World} {K : PySem.W.Frag} {h : Heap} {mg : Str → Option Value} {fa : Addr} (X : K.In h) (G : h.Ns mainGlobals mg) (hfa : mg "law" = some (.ref fa))
    {f0 : Addr} {od0 an0 : Option Addr} {sl0 : Array (Option Value)} {oc0 kV0 dc0 pm0 cd0 ct0 : Value}
    (a0 : PySem.W.nsIn K mainGlobals "above" = some (some (.ref f0))) (l0 : K.lookup f0 = some ⟨oc0, od0, .func (PySem.W.fnOf "above" "above" (defArgs s_above) (defBody s_above) (defScope s_above) .none kV0 dc0 pm0 an0 cd0 ct0), sl0⟩) (c0 : PySem.W.codeIn K cd0 "above" = true) (k0 : PySem.W.keepIn K (.ref f0) = true)
    {f1 : Addr} {od1 an1 : Option Addr} {sl1 : Array (Option Value)} {oc1 kV1 dc1 pm1 cd1 ct1 : Value}
    (a1 : PySem.W.nsIn K mainGlobals "overlaps" = some (some (.ref f1))) (l1 : K.lookup f1 = some ⟨oc1, od1, .func (PySem.W.fnOf "overlaps" "overlaps" (defArgs s_overlaps) (defBody s_overlaps) (defScope s_overlaps) .none kV1 dc1 pm1 an1 cd1 ct1), sl1⟩) (c1 : PySem.W.codeIn K cd1 "overlaps" = true) (k1 : PySem.W.keepIn K (.ref f1) = true)
    {f2 : Addr} {od2 an2 : Option Addr} {sl2 : Array (Option Value)} {oc2 kV2 dc2 pm2 cd2 ct2 : Value}
    (a2 : PySem.W.nsIn K mainGlobals "mark_of" = some (some (.ref f2))) (l2 : K.lookup f2 = some ⟨oc2, od2, .func (PySem.W.fnOf "mark_of" "mark_of" (defArgs s_mark_of) (defBody s_mark_of) (defScope s_mark_of) .none kV2 dc2 pm2 an2 cd2 ct2), sl2⟩) (c2 : PySem.W.codeIn K cd2 "mark_of" = true) (k2 : PySem.W.keepIn K (.ref f2) = true)
    {f3 : Addr} {od3 an3 : Option Addr} {sl3 : Array (Option Value)} {oc3 kV3 dc3 pm3 cd3 ct3 : Value}
    (a3 : PySem.W.nsIn K mainGlobals "marks" = some (some (.ref f3))) (l3 : K.lookup f3 = some ⟨oc3, od3, .func (PySem.W.fnOf "marks" "marks" (defArgs s_marks) (defBody s_marks) (defScope s_marks) .none kV3 dc3 pm3 an3 cd3 ct3), sl3⟩) (c3 : PySem.W.codeIn K cd3 "marks" = true) (k3 : PySem.W.keepIn K (.ref f3) = true)
    {f4 : Addr} {od4 an4 : Option Addr} {sl4 : Array (Option Value)} {oc4 kV4 dc4 pm4 cd4 ct4 : Value}
    (a4 : PySem.W.nsIn K mainGlobals "single_clashes" = some (some (.ref f4))) (l4 : K.lookup f4 = some ⟨oc4, od4, .func (PySem.W.fnOf "single_clashes" "single_clashes" (defArgs s_single_clashes) (defBody s_single_clashes) (defScope s_single_clashes) .none kV4 dc4 pm4 an4 cd4 ct4), sl4⟩) (c4 : PySem.W.codeIn K cd4 "single_clashes" = true) (k4 : PySem.W.keepIn K (.ref f4) = true)
    {f5 : Addr} {od5 an5 : Option Addr} {sl5 : Array (Option Value)} {oc5 kV5 dc5 pm5 cd5 ct5 : Value}
    (a5 : PySem.W.nsIn K mainGlobals "settle" = some (some (.ref f5))) (l5 : K.lookup f5 = some ⟨oc5, od5, .func (PySem.W.fnOf "settle" "settle" (defArgs s_settle) (defBody s_settle) (defScope s_settle) .none kV5 dc5 pm5 an5 cd5 ct5), sl5⟩) (c5 : PySem.W.codeIn K cd5 "settle" = true) (k5 : PySem.W.keepIn K (.ref f5) = true)
    {f6 : Addr} {od6 an6 : Option Addr} {sl6 : Array (Option Value)} {oc6 kV6 dc6 pm6 cd6 ct6 : Value}
    (a6 : PySem.W.nsIn K mainGlobals "agreed" = some (some (.ref f6))) (l6 : K.lookup f6 = some ⟨oc6, od6, .func (PySem.W.fnOf "agreed" "agreed" (defArgs s_agreed) (defBody s_agreed) (defScope s_agreed) .none kV6 dc6 pm6 an6 cd6 ct6), sl6⟩) (c6 : PySem.W.codeIn K cd6 "agreed" = true) (k6 : PySem.W.keepIn K (.ref f6) = true)
    {f7 : Addr} {od7 an7 : Option Addr} {sl7 : Array (Option Value)} {oc7 kV7 dc7 pm7 cd7 ct7 : Value}
    (a7 : PySem.W.nsIn K mainGlobals "clashes" = some (some (.ref f7))) (l7 : K.lookup f7 = some ⟨oc7, od7, .func (PySem.W.fnOf "clashes" "clashes" (defArgs s_clashes) (defBody s_clashes) (defScope s_clashes) .none kV7 dc7 pm7 an7 cd7 ct7), sl7⟩) (c7 : PySem.W.codeIn K cd7 "clashes" = true) (k7 : PySem.W.keepIn K (.ref f7) = true)
    {f8 : Addr} {od8 an8 : Option Addr} {sl8 : Array (Option Value)} {oc8 kV8 dc8 pm8 cd8 ct8 : Value}
    (a8 : PySem.W.nsIn K mainGlobals "joined" = some (some (.ref f8))) (l8 : K.lookup f8 = some ⟨oc8, od8, .func (PySem.W.fnOf "joined" "joined" (defArgs s_joined) (defBody s_joined) (defScope s_joined) .none kV8 dc8 pm8 an8 cd8 ct8), sl8⟩) (c8 : PySem.W.codeIn K cd8 "joined" = true) (k8 : PySem.W.keepIn K (.ref f8) = true)
    {f9 : Addr} {od9 an9 : Option Addr} {sl9 : Array (Option Value)} {oc9 kV9 dc9 pm9 cd9 ct9 : Value}
    (a9 : PySem.W.nsIn K mainGlobals "_law_cell_at" = some (some (.ref f9))) (l9 : K.lookup f9 = some ⟨oc9, od9, .func (PySem.W.fnOf "_law_cell_at" "_law_cell_at" (defArgs s_law_cell_at) (defBody s_law_cell_at) (defScope s_law_cell_at) .none kV9 dc9 pm9 an9 cd9 ct9), sl9⟩) (c9 : PySem.W.codeIn K cd9 "_law_cell_at" = true) (k9 : PySem.W.keepIn K (.ref f9) = true)
    {f10 : Addr} {od10 an10 : Option Addr} {sl10 : Array (Option Value)} {oc10 kV10 dc10 pm10 cd10 ct10 : Value}
    (a10 : PySem.W.nsIn K mainGlobals "_law_sign_by" = some (some (.ref f10))) (l10 : K.lookup f10 = some ⟨oc10, od10, .func (PySem.W.fnOf "_law_sign_by" "_law_sign_by" (defArgs s_law_sign_by) (defBody s_law_sign_by) (defScope s_law_sign_by) .none kV10 dc10 pm10 an10 cd10 ct10), sl10⟩) (c10 : PySem.W.codeIn K cd10 "_law_sign_by" = true) (k10 : PySem.W.keepIn K (.ref f10) = true)
    {f11 : Addr} {od11 an11 : Option Addr} {sl11 : Array (Option Value)} {oc11 kV11 dc11 pm11 cd11 ct11 : Value}
    (a11 : PySem.W.nsIn K mainGlobals "_law_name_by" = some (some (.ref f11))) (l11 : K.lookup f11 = some ⟨oc11, od11, .func (PySem.W.fnOf "_law_name_by" "_law_name_by" (defArgs s_law_name_by) (defBody s_law_name_by) (defScope s_law_name_by) .none kV11 dc11 pm11 an11 cd11 ct11), sl11⟩) (c11 : PySem.W.codeIn K cd11 "_law_name_by" = true) (k11 : PySem.W.keepIn K (.ref f11) = true)
    {f12 : Addr} {od12 an12 : Option Addr} {sl12 : Array (Option Value)} {oc12 kV12 dc12 pm12 cd12 ct12 : Value}
    (a12 : PySem.W.nsIn K mainGlobals "_law_path_by" = some (some (.ref f12))) (l12 : K.lookup f12 = some ⟨oc12, od12, .func (PySem.W.fnOf "_law_path_by" "_law_path_by" (defArgs s_law_path_by) (defBody s_law_path_by) (defScope s_law_path_by) .none kV12 dc12 pm12 an12 cd12 ct12), sl12⟩) (c12 : PySem.W.codeIn K cd12 "_law_path_by" = true) (k12 : PySem.W.keepIn K (.ref f12) = true)
    {f13 : Addr} {od13 an13 : Option Addr} {sl13 : Array (Option Value)} {oc13 kV13 dc13 pm13 cd13 ct13 : Value}
    (a13 : PySem.W.nsIn K mainGlobals "_law_line_by" = some (some (.ref f13))) (l13 : K.lookup f13 = some ⟨oc13, od13, .func (PySem.W.fnOf "_law_line_by" "_law_line_by" (defArgs s_law_line_by) (defBody s_law_line_by) (defScope s_law_line_by) .none kV13 dc13 pm13 an13 cd13 ct13), sl13⟩) (c13 : PySem.W.codeIn K cd13 "_law_line_by" = true) (k13 : PySem.W.keepIn K (.ref f13) = true)
    {f14 : Addr} {od14 an14 : Option Addr} {sl14 : Array (Option Value)} {oc14 kV14 dc14 pm14 cd14 ct14 : Value}
    (a14 : PySem.W.nsIn K mainGlobals "_law_is_free" = some (some (.ref f14))) (l14 : K.lookup f14 = some ⟨oc14, od14, .func (PySem.W.fnOf "_law_is_free" "_law_is_free" (defArgs s_law_is_free) (defBody s_law_is_free) (defScope s_law_is_free) .none kV14 dc14 pm14 an14 cd14 ct14), sl14⟩) (c14 : PySem.W.codeIn K cd14 "_law_is_free" = true) (k14 : PySem.W.keepIn K (.ref f14) = true)
    {f15 : Addr} {od15 an15 : Option Addr} {sl15 : Array (Option Value)} {oc15 kV15 dc15 pm15 cd15 ct15 : Value}
    (a15 : PySem.W.nsIn K mainGlobals "_law_grown" = some (some (.ref f15))) (l15 : K.lookup f15 = some ⟨oc15, od15, .func (PySem.W.fnOf "_law_grown" "_law_grown" (defArgs s_law_grown) (defBody s_law_grown) (defScope s_law_grown) .none kV15 dc15 pm15 an15 cd15 ct15), sl15⟩) (c15 : PySem.W.codeIn K cd15 "_law_grown" = true) (k15 : PySem.W.keepIn K (.ref f15) = true)
    {f16 : Addr} {od16 an16 : Option Addr} {sl16 : Array (Option Value)} {oc16 kV16 dc16 pm16 cd16 ct16 : Value}
    (a16 : PySem.W.nsIn K mainGlobals "_law_trees" = some (some (.ref f16))) (l16 : K.lookup f16 = some ⟨oc16, od16, .func (PySem.W.fnOf "_law_trees" "_law_trees" (defArgs s_law_trees) (defBody s_law_trees) (defScope s_law_trees) .none kV16 dc16 pm16 an16 cd16 ct16), sl16⟩) (c16 : PySem.W.codeIn K cd16 "_law_trees" = true) (k16 : PySem.W.keepIn K (.ref f16) = true)
    {f17 : Addr} {od17 an17 : Option Addr} {sl17 : Array (Option Value)} {oc17 kV17 dc17 pm17 cd17 ct17 : Value}
    (a17 : PySem.W.nsIn K mainGlobals "_law_at" = some (some (.ref f17))) (l17 : K.lookup f17 = some ⟨oc17, od17, .func (PySem.W.fnOf "_law_at" "_law_at" (defArgs s_law_at) (defBody s_law_at) (defScope s_law_at) .none kV17 dc17 pm17 an17 cd17 ct17), sl17⟩) (c17 : PySem.W.codeIn K cd17 "_law_at" = true) (k17 : PySem.W.keepIn K (.ref f17) = true)
    {f18 : Addr} {od18 an18 : Option Addr} {sl18 : Array (Option Value)} {oc18 kV18 dc18 pm18 cd18 ct18 : Value}
    (a18 : PySem.W.nsIn K mainGlobals "_law_splits" = some (some (.ref f18))) (l18 : K.lookup f18 = some ⟨oc18, od18, .func (PySem.W.fnOf "_law_splits" "_law_splits" (defArgs s_law_splits) (defBody s_law_splits) (defScope s_law_splits) .none kV18 dc18 pm18 an18 cd18 ct18), sl18⟩) (c18 : PySem.W.codeIn K cd18 "_law_splits" = true) (k18 : PySem.W.keepIn K (.ref f18) = true)
    {f19 : Addr} {od19 an19 : Option Addr} {sl19 : Array (Option Value)} {oc19 kV19 dc19 pm19 cd19 ct19 : Value}
    (a19 : PySem.W.nsIn K mainGlobals "_law_uppers" = some (some (.ref f19))) (l19 : K.lookup f19 = some ⟨oc19, od19, .func (PySem.W.fnOf "_law_uppers" "_law_uppers" (defArgs s_law_uppers) (defBody s_law_uppers) (defScope s_law_uppers) .none kV19 dc19 pm19 an19 cd19 ct19), sl19⟩) (c19 : PySem.W.codeIn K cd19 "_law_uppers" = true) (k19 : PySem.W.keepIn K (.ref f19) = true)
    {f20 : Addr} {od20 an20 : Option Addr} {sl20 : Array (Option Value)} {oc20 kV20 dc20 pm20 cd20 ct20 : Value}
    (a20 : PySem.W.nsIn K mainGlobals "_law_places" = some (some (.ref f20))) (l20 : K.lookup f20 = some ⟨oc20, od20, .func (PySem.W.fnOf "_law_places" "_law_places" (defArgs s_law_places) (defBody s_law_places) (defScope s_law_places) .none kV20 dc20 pm20 an20 cd20 ct20), sl20⟩) (c20 : PySem.W.codeIn K cd20 "_law_places" = true) (k20 : PySem.W.keepIn K (.ref f20) = true)
    {f21 : Addr} {od21 an21 : Option Addr} {sl21 : Array (Option Value)} {oc21 kV21 dc21 pm21 cd21 ct21 : Value}
    (a21 : PySem.W.nsIn K mainGlobals "_law_picks" = some (some (.ref f21))) (l21 : K.lookup f21 = some ⟨oc21, od21, .func (PySem.W.fnOf "_law_picks" "_law_picks" (defArgs s_law_picks) (defBody s_law_picks) (defScope s_law_picks) .none kV21 dc21 pm21 an21 cd21 ct21), sl21⟩) (c21 : PySem.W.codeIn K cd21 "_law_picks" = true) (k21 : PySem.W.keepIn K (.ref f21) = true)
    {f22 : Addr} {od22 an22 : Option Addr} {sl22 : Array (Option Value)} {oc22 kV22 dc22 pm22 cd22 ct22 : Value}
    (a22 : PySem.W.nsIn K mainGlobals "_law_told" = some (some (.ref f22))) (l22 : K.lookup f22 = some ⟨oc22, od22, .func (PySem.W.fnOf "_law_told" "_law_told" (defArgs s_law_told) (defBody s_law_told) (defScope s_law_told) .none kV22 dc22 pm22 an22 cd22 ct22), sl22⟩) (c22 : PySem.W.codeIn K cd22 "_law_told" = true) (k22 : PySem.W.keepIn K (.ref f22) = true)
    {f23 : Addr} {od23 an23 : Option Addr} {sl23 : Array (Option Value)} {oc23 kV23 dc23 pm23 cd23 ct23 : Value}
    (a23 : PySem.W.nsIn K mainGlobals "_law_due" = some (some (.ref f23))) (l23 : K.lookup f23 = some ⟨oc23, od23, .func (PySem.W.fnOf "_law_due" "_law_due" (defArgs s_law_due) (defBody s_law_due) (defScope s_law_due) .none kV23 dc23 pm23 an23 cd23 ct23), sl23⟩) (c23 : PySem.W.codeIn K cd23 "_law_due" = true) (k23 : PySem.W.keepIn K (.ref f23) = true)
    {f24 : Addr} {od24 an24 : Option Addr} {sl24 : Array (Option Value)} {oc24 kV24 dc24 pm24 cd24 ct24 : Value}
    (a24 : PySem.W.nsIn K mainGlobals "law" = some (some (.ref f24))) (l24 : K.lookup f24 = some ⟨oc24, od24, .func (PySem.W.fnOf "law" "law" (defArgs s_law) (defBody s_law) (defScope s_law) .none kV24 dc24 pm24 an24 cd24 ct24), sl24⟩) (c24 : PySem.W.codeIn K cd24 "law" = true) (k24 : PySem.W.keepIn K (.ref f24) = true)
    (z_ValueError : PySem.W.nsIn K mainGlobals "ValueError" = some none)
    (z_dict : PySem.W.nsIn K mainGlobals "dict" = some none)
    (z_int : PySem.W.nsIn K mainGlobals "int" = some none)
    (z_isinstance : PySem.W.nsIn K mainGlobals "isinstance" = some none)
    (z_len : PySem.W.nsIn K mainGlobals "len" = some none)
    (z_list : PySem.W.nsIn K mainGlobals "list" = some none)
    (z_range : PySem.W.nsIn K mainGlobals "range" = some none)
    (z_set : PySem.W.nsIn K mainGlobals "set" = some none)
    (z_sorted : PySem.W.nsIn K mainGlobals "sorted" = some none)
    (z_str : PySem.W.nsIn K mainGlobals "str" = some none)
    {C0 C1 C2 C3 C4 C5 C6 C7 : Addr} (eg0 : PySem.W.nsIn K mainGlobals "RoadError" = some (some (.ref C0))) (eg1 : PySem.W.nsIn K mainGlobals "NoPath" = some (some (.ref C1))) (eg2 : PySem.W.nsIn K mainGlobals "NoFile" = some (some (.ref C2))) (eg3 : PySem.W.nsIn K mainGlobals "InTheWay" = some (some (.ref C3))) (eg4 : PySem.W.nsIn K mainGlobals "NoClash" = some (some (.ref C4))) (eg5 : PySem.W.nsIn K mainGlobals "Clashed" = some (some (.ref C5))) (eg6 : PySem.W.nsIn K mainGlobals "NoVersion" = some (some (.ref C6))) (eg7 : PySem.W.nsIn K mainGlobals "SameVersion" = some (some (.ref C7)))
    (rx4 : PySem.W.excIn K C4 [.type "ValueError", .type "Exception", .type "BaseException", .type "object"] "ValueError.__new__" = true) (rk4 : PySem.W.keepIn K (.ref C4) = true) (rb4 : PySem.W.subIn K (.ref C4) (.type "BaseException") = some true) (rt4 : PySem.W.typeIn K (.ref C4) = some (.type "type"))
    (rx5 : PySem.W.excIn K C5 [.type "ValueError", .type "Exception", .type "BaseException", .type "object"] "ValueError.__new__" = true) (rk5 : PySem.W.keepIn K (.ref C5) = true) (rb5 : PySem.W.subIn K (.ref C5) (.type "BaseException") = some true) (rt5 : PySem.W.typeIn K (.ref C5) = some (.type "type"))
    (qcb : PySem.W.subIn K (.ref C0) (.type "BaseException") = some true) (qci0 : PySem.W.isClsIn K C0 = true) (qci1 : PySem.W.isClsIn K C1 = true) (qci2 : PySem.W.isClsIn K C2 = true) (qci3 : PySem.W.isClsIn K C3 = true) (qci4 : PySem.W.isClsIn K C4 = true) (qci5 : PySem.W.isClsIn K C5 = true) (qci6 : PySem.W.isClsIn K C6 = true) (qci7 : PySem.W.isClsIn K C7 = true) (qct0 : PySem.W.typeIn K (.ref C0) = some (.type "type")) (qct1 : PySem.W.typeIn K (.ref C1) = some (.type "type")) (qct2 : PySem.W.typeIn K (.ref C2) = some (.type "type")) (qct3 : PySem.W.typeIn K (.ref C3) = some (.type "type")) (qct4 : PySem.W.typeIn K (.ref C4) = some (.type "type")) (qct5 : PySem.W.typeIn K (.ref C5) = some (.type "type")) (qct6 : PySem.W.typeIn K (.ref C6) = some (.type "type")) (qct7 : PySem.W.typeIn K (.ref C7) = some (.type "type"))
    (t4hg : PySem.W.findIn K (.ref C4) "__getattribute__" = some (some (.builtin "BaseException.__getattribute__"))) (t4hk : PySem.W.findIn K (.ref C4) "__getattr__" = some none) (t4hs : PySem.W.subIn K (.ref C4) (.type "BaseException") = some true) (t4hd : PySem.W.hasDictIn K C4 = true) (t4ha : PySem.W.findIn K (.ref C4) "__class__" = some (some (.builtin "object.__class__"))) (t4hn : PySem.W.specialIn K (.builtin "object.__class__") "__get__" = some (some (.builtin "getset_descriptor.__get__"))) (t4ht : PySem.W.takesIn K (.builtin "object.__class__") = some true) (t4hm : PySem.W.mroIn K C4 (.type "object") = some true) (t4v : PySem.W.subIn K (.ref C4) (.type "ValueError") = some true) (t4i0 : PySem.W.subIn K (.ref C4) (.ref C0) = some true) (t4i1 : PySem.W.subIn K (.ref C4) (.ref C1) = some false) (t4i2 : PySem.W.subIn K (.ref C4) (.ref C2) = some false) (t4i3 : PySem.W.subIn K (.ref C4) (.ref C3) = some false) (t4i4 : PySem.W.subIn K (.ref C4) (.ref C4) = some true) (t4i5 : PySem.W.subIn K (.ref C4) (.ref C5) = some false) (t4i6 : PySem.W.subIn K (.ref C4) (.ref C6) = some false) (t4i7 : PySem.W.subIn K (.ref C4) (.ref C7) = some false)
    (t5hg : PySem.W.findIn K (.ref C5) "__getattribute__" = some (some (.builtin "BaseException.__getattribute__"))) (t5hk : PySem.W.findIn K (.ref C5) "__getattr__" = some none) (t5hs : PySem.W.subIn K (.ref C5) (.type "BaseException") = some true) (t5hd : PySem.W.hasDictIn K C5 = true) (t5ha : PySem.W.findIn K (.ref C5) "__class__" = some (some (.builtin "object.__class__"))) (t5hn : PySem.W.specialIn K (.builtin "object.__class__") "__get__" = some (some (.builtin "getset_descriptor.__get__"))) (t5ht : PySem.W.takesIn K (.builtin "object.__class__") = some true) (t5hm : PySem.W.mroIn K C5 (.type "object") = some true) (t5v : PySem.W.subIn K (.ref C5) (.type "ValueError") = some true) (t5i0 : PySem.W.subIn K (.ref C5) (.ref C0) = some true) (t5i1 : PySem.W.subIn K (.ref C5) (.ref C1) = some false) (t5i2 : PySem.W.subIn K (.ref C5) (.ref C2) = some false) (t5i3 : PySem.W.subIn K (.ref C5) (.ref C3) = some false) (t5i4 : PySem.W.subIn K (.ref C5) (.ref C4) = some false) (t5i5 : PySem.W.subIn K (.ref C5) (.ref C5) = some true) (t5i6 : PySem.W.subIn K (.ref C5) (.ref C6) = some false) (t5i7 : PySem.W.subIn K (.ref C5) (.ref C7) = some false)
    : ∃ fd : FuncData, (∀ (s : Shared) (v : Value), BindsTo s fd ⟨[v], []⟩ [("_law_script", v)]) ∧ ∀ base : Heap, K.In base → base.Ns mainGlobals mg → FnOk l.prog w K mg base CX0 7 fa fd ["_law_script"] (sp_law K) := by
  have z : Bt mg := ⟨PySem.W.mg_none_of X G z_ValueError, PySem.W.mg_none_of X G z_dict, PySem.W.mg_none_of X G z_int, PySem.W.mg_none_of X G z_isinstance, PySem.W.mg_none_of X G z_len, PySem.W.mg_none_of X G z_list, PySem.W.mg_none_of X G z_range, PySem.W.mg_none_of X G z_set, PySem.W.mg_none_of X G z_sorted, PySem.W.mg_none_of X G z_str⟩
  have EG : EG mg (cs8 C0 C1 C2 C3 C4 C5 C6 C7) := ⟨PySem.W.mg_of X G eg0, PySem.W.mg_of X G eg1, PySem.W.mg_of X G eg2, PySem.W.mg_of X G eg3, PySem.W.mg_of X G eg4, PySem.W.mg_of X G eg5, PySem.W.mg_of X G eg6, PySem.W.mg_of X G eg7⟩
  have R4 : ErrR K (cs8 C0 C1 C2 C3 C4 C5 C6 C7) 4 := ⟨rx4, rk4, rb4, rt4⟩
  have R5 : ErrR K (cs8 C0 C1 C2 C3 C4 C5 C6 C7) 5 := ⟨rx5, rk5, rb5, rt5⟩
  have E4 : ErrC K (cs8 C0 C1 C2 C3 C4 C5 C6 C7) 4 := ⟨⟨t4hg, t4hk, t4hs, t4hd, t4ha, t4hn, t4ht, t4hm⟩, exm_t qcb qci0 qct0 t4i0, fun j hj => match j, hj with | 0, _ => kit_t qci0 qct0 t4i0 | 1, _ => kit_f qci1 qct1 t4i1 t4i4 | 2, _ => kit_f qci2 qct2 t4i2 t4i4 | 3, _ => kit_f qci3 qct3 t4i3 t4i4 | 4, _ => kit_t qci4 qct4 t4i4 | 5, _ => kit_f qci5 qct5 t4i5 t4i4 | 6, _ => kit_f qci6 qct6 t4i6 t4i4 | 7, _ => kit_f qci7 qct7 t4i7 t4i4, kit_ve t4v⟩
  have E5 : ErrC K (cs8 C0 C1 C2 C3 C4 C5 C6 C7) 5 := ⟨⟨t5hg, t5hk, t5hs, t5hd, t5ha, t5hn, t5ht, t5hm⟩, exm_t qcb qci0 qct0 t5i0, fun j hj => match j, hj with | 0, _ => kit_t qci0 qct0 t5i0 | 1, _ => kit_f qci1 qct1 t5i1 t5i5 | 2, _ => kit_f qci2 qct2 t5i2 t5i5 | 3, _ => kit_f qci3 qct3 t5i3 t5i5 | 4, _ => kit_f qci4 qct4 t5i4 t5i5 | 5, _ => kit_t qci5 qct5 t5i5 | 6, _ => kit_f qci6 qct6 t5i6 t5i5 | 7, _ => kit_f qci7 qct7 t5i7 t5i5, kit_ve t5v⟩
  have F0 := fun_mk (st := s_above) l0 c0 k0
  have b0 := F0.binds (ps := ["path"]) fun _ _ _ _ _ _ us hl => match us, hl with | [_], _ => rfl
  have F1 := fun_mk (st := s_overlaps) l1 c1 k1
  have b1 := F1.binds (ps := ["files"]) fun _ _ _ _ _ _ us hl => match us, hl with | [_], _ => rfl
  have F2 := fun_mk (st := s_mark_of) l2 c2 k2
  have b2 := F2.binds (ps := ["before", "left", "right"]) fun _ _ _ _ _ _ us hl => match us, hl with | [_, _, _], _ => rfl
  have F3 := fun_mk (st := s_marks) l3 c3 k3
  have b3 := F3.binds (ps := ["elder", "one", "other"]) fun _ _ _ _ _ _ us hl => match us, hl with | [_, _, _], _ => rfl
  have F4 := fun_mk (st := s_single_clashes) l4 c4 k4
  have b4 := F4.binds (ps := ["elder", "one", "other"]) fun _ _ _ _ _ _ us hl => match us, hl with | [_, _, _], _ => rfl
  have F5 := fun_mk (st := s_settle) l5 c5 k5
  have b5 := F5.binds (ps := ["files", "path", "text"]) fun _ _ _ _ _ _ us hl => match us, hl with | [_, _, _], _ => rfl
  have F6 := fun_mk (st := s_agreed) l6 c6 k6
  have b6 := F6.binds (ps := ["elder", "one", "other"]) fun _ _ _ _ _ _ us hl => match us, hl with | [_, _, _], _ => rfl
  have F7 := fun_mk (st := s_clashes) l7 c7 k7
  have b7 := F7.binds (ps := ["elder", "one", "other"]) fun _ _ _ _ _ _ us hl => match us, hl with | [_, _, _], _ => rfl
  have F8 := fun_mk (st := s_joined) l8 c8 k8
  have b8 := F8.binds (ps := ["elder", "one", "other", "picks"]) fun _ _ _ _ _ _ us hl => match us, hl with | [_, _, _, _], _ => rfl
  have F9 := fun_mk (st := s_law_cell_at) l9 c9 k9
  have b9 := F9.binds (ps := ["_law_script", "_law_k"]) fun _ _ _ _ _ _ us hl => match us, hl with | [_, _], _ => rfl
  have F10 := fun_mk (st := s_law_sign_by) l10 c10 k10
  have b10 := F10.binds (ps := ["_law_k"]) fun _ _ _ _ _ _ us hl => match us, hl with | [_], _ => rfl
  have F11 := fun_mk (st := s_law_name_by) l11 c11 k11
  have b11 := F11.binds (ps := ["_law_k", "_law_shift"]) fun _ _ _ _ _ _ us hl => match us, hl with | [_, _], _ => rfl
  have F12 := fun_mk (st := s_law_path_by) l12 c12 k12
  have b12 := F12.binds (ps := ["_law_cell", "_law_shift"]) fun _ _ _ _ _ _ us hl => match us, hl with | [_, _], _ => rfl
  have F13 := fun_mk (st := s_law_line_by) l13 c13 k13
  have b13 := F13.binds (ps := ["_law_k", "_law_shift"]) fun _ _ _ _ _ _ us hl => match us, hl with | [_, _], _ => rfl
  have F14 := fun_mk (st := s_law_is_free) l14 c14 k14
  have b14 := F14.binds (ps := ["_law_tree", "_law_path"]) fun _ _ _ _ _ _ us hl => match us, hl with | [_, _], _ => rfl
  have F15 := fun_mk (st := s_law_grown) l15 c15 k15
  have b15 := F15.binds (ps := ["_law_tree", "_law_cell", "_law_shift"]) fun _ _ _ _ _ _ us hl => match us, hl with | [_, _, _], _ => rfl
  have F16 := fun_mk (st := s_law_trees) l16 c16 k16
  have b16 := F16.binds (ps := ["_law_script"]) fun _ _ _ _ _ _ us hl => match us, hl with | [_], _ => rfl
  have F17 := fun_mk (st := s_law_at) l17 c17 k17
  have b17 := F17.binds (ps := ["_law_was", "_law_left", "_law_right"]) fun _ _ _ _ _ _ us hl => match us, hl with | [_, _, _], _ => rfl
  have F18 := fun_mk (st := s_law_splits) l18 c18 k18
  have b18 := F18.binds (ps := ["_law_was", "_law_left", "_law_right"]) fun _ _ _ _ _ _ us hl => match us, hl with | [_, _, _], _ => rfl
  have F19 := fun_mk (st := s_law_uppers) l19 c19 k19
  have b19 := F19.binds (ps := ["_law_path"]) fun _ _ _ _ _ _ us hl => match us, hl with | [_], _ => rfl
  have F20 := fun_mk (st := s_law_places) l20 c20 k20
  have b20 := F20.binds (ps := ["_law_elder", "_law_one", "_law_other"]) fun _ _ _ _ _ _ us hl => match us, hl with | [_, _, _], _ => rfl
  have F21 := fun_mk (st := s_law_picks) l21 c21 k21
  have b21 := F21.binds (ps := ["_law_places_here", "_law_script", "_law_trees_here"]) fun _ _ _ _ _ _ us hl => match us, hl with | [_, _, _], _ => rfl
  have F22 := fun_mk (st := s_law_told) l22 c22 k22
  have b22 := F22.binds (ps := ["_law_elder", "_law_one", "_law_other", "_law_picks_here"]) fun _ _ _ _ _ _ us hl => match us, hl with | [_, _, _, _], _ => rfl
  have F23 := fun_mk (st := s_law_due) l23 c23 k23
  have b23 := F23.binds (ps := ["_law_elder", "_law_one", "_law_other", "_law_picks_here"]) fun _ _ _ _ _ _ us hl => match us, hl with | [_, _, _, _], _ => rfl
  have F24 := fun_mk (st := s_law) l24 c24 k24
  have b24 := F24.binds (ps := ["_law_script"]) fun _ _ _ _ _ _ us hl => match us, hl with | [_], _ => rfl
  have e := hfa.symm.trans (PySem.W.mg_of X G a24)
  cases e
  refine ⟨PySem.W.fnOf "law" "law" (defArgs s_law) (defBody s_law) (defScope s_law) .none kV24 dc24 pm24 an24 cd24 ct24, fun s v => .of_eq rfl, fun base _ _ => ?_⟩
  have C_above : Cal l.prog w K mg base 1 "above" ["path"] (sp_above K) := cal_of (ok_above F0 z  ) (PySem.W.mg_of X G a0) F0.kp b0
  have C_overlaps : Cal l.prog w K mg base 2 "overlaps" ["files"] (sp_overlaps K) := cal_of (ok_overlaps F1 z C_above ) (PySem.W.mg_of X G a1) F1.kp b1
  have C_mark_of : Cal l.prog w K mg base 1 "mark_of" ["before", "left", "right"] (sp_mark_of K) := cal_of (ok_mark_of F2 z  ) (PySem.W.mg_of X G a2) F2.kp b2
  have C_marks : Cal l.prog w K mg base 2 "marks" ["elder", "one", "other"] (sp_marks K) := cal_of (ok_marks F3 z C_mark_of ) (PySem.W.mg_of X G a3) F3.kp b3
  have C_single_clashes : Cal l.prog w K mg base 3 "single_clashes" ["elder", "one", "other"] (sp_single_clashes K) := cal_of (ok_single_clashes F4 z C_marks ) (PySem.W.mg_of X G a4) F4.kp b4
  have C_settle : Cal l.prog w K mg base 1 "settle" ["files", "path", "text"] (sp_settle K) := cal_of (ok_settle F5 z  ) (PySem.W.mg_of X G a5) F5.kp b5
  have C_agreed : Cal l.prog w K mg base 3 "agreed" ["elder", "one", "other"] (sp_agreed K) := cal_of (ok_agreed F6 z C_marks C_settle ) (PySem.W.mg_of X G a6) F6.kp b6
  have C_clashes : Cal l.prog w K mg base 4 "clashes" ["elder", "one", "other"] (sp_clashes K) := cal_of (ok_clashes F7 z C_single_clashes C_agreed C_overlaps ) (PySem.W.mg_of X G a7) F7.kp b7
  have C_joined : CalX l.prog w K mg base 5 "joined" ["elder", "one", "other", "picks"] (sp_joined K (cs8 C0 C1 C2 C3 C4 C5 C6 C7)) := calX_of (ok_joined EG F8 z C_clashes C_single_clashes C_agreed C_settle C_overlaps R4 R5) (PySem.W.mg_of X G a8) F8.kp b8
  have C_law_cell_at : Cal l.prog w K mg base 1 "_law_cell_at" ["_law_script", "_law_k"] (sp_law_cell_at K) := cal_of (ok_law_cell_at F9 z  ) (PySem.W.mg_of X G a9) F9.kp b9
  have C_law_sign_by : Cal l.prog w K mg base 1 "_law_sign_by" ["_law_k"] (sp_law_sign_by K) := cal_of (ok_law_sign_by F10 z  ) (PySem.W.mg_of X G a10) F10.kp b10
  have C_law_name_by : Cal l.prog w K mg base 2 "_law_name_by" ["_law_k", "_law_shift"] (sp_law_name_by K) := cal_of (ok_law_name_by F11 z C_law_sign_by ) (PySem.W.mg_of X G a11) F11.kp b11
  have C_law_path_by : Cal l.prog w K mg base 3 "_law_path_by" ["_law_cell", "_law_shift"] (sp_law_path_by K) := cal_of (ok_law_path_by F12 z C_law_name_by ) (PySem.W.mg_of X G a12) F12.kp b12
  have C_law_line_by : Cal l.prog w K mg base 1 "_law_line_by" ["_law_k", "_law_shift"] (sp_law_line_by K) := cal_of (ok_law_line_by F13 z  ) (PySem.W.mg_of X G a13) F13.kp b13
  have C_law_is_free : Cal l.prog w K mg base 1 "_law_is_free" ["_law_tree", "_law_path"] (sp_law_is_free K) := cal_of (ok_law_is_free F14 z  ) (PySem.W.mg_of X G a14) F14.kp b14
  have C_law_grown : Cal l.prog w K mg base 4 "_law_grown" ["_law_tree", "_law_cell", "_law_shift"] (sp_law_grown K) := cal_of (ok_law_grown F15 z C_law_path_by C_law_is_free C_law_line_by ) (PySem.W.mg_of X G a15) F15.kp b15
  have C_law_trees : Cal l.prog w K mg base 5 "_law_trees" ["_law_script"] (sp_law_trees K) := cal_of (ok_law_trees F16 z C_law_cell_at C_law_grown C_law_line_by ) (PySem.W.mg_of X G a16) F16.kp b16
  have C_law_at : Cal l.prog w K mg base 1 "_law_at" ["_law_was", "_law_left", "_law_right"] (sp_law_at K) := cal_of (ok_law_at F17 z  ) (PySem.W.mg_of X G a17) F17.kp b17
  have C_law_splits : Cal l.prog w K mg base 1 "_law_splits" ["_law_was", "_law_left", "_law_right"] (sp_law_splits K) := cal_of (ok_law_splits F18 z  ) (PySem.W.mg_of X G a18) F18.kp b18
  have C_law_uppers : Cal l.prog w K mg base 1 "_law_uppers" ["_law_path"] (sp_law_uppers K) := cal_of (ok_law_uppers F19 z  ) (PySem.W.mg_of X G a19) F19.kp b19
  have C_law_places : Cal l.prog w K mg base 2 "_law_places" ["_law_elder", "_law_one", "_law_other"] (sp_law_places K) := cal_of (ok_law_places F20 z C_law_splits C_law_at C_law_uppers ) (PySem.W.mg_of X G a20) F20.kp b20
  have C_law_picks : Cal l.prog w K mg base 2 "_law_picks" ["_law_places_here", "_law_script", "_law_trees_here"] (sp_law_picks K) := cal_of (ok_law_picks F21 z C_law_cell_at C_law_line_by ) (PySem.W.mg_of X G a21) F21.kp b21
  have C_law_told : Cal l.prog w K mg base 6 "_law_told" ["_law_elder", "_law_one", "_law_other", "_law_picks_here"] (sp_law_told K) := cal_of (ok_law_told EG F22 z C_joined E4 E5) (PySem.W.mg_of X G a22) F22.kp b22
  have C_law_due : Cal l.prog w K mg base 2 "_law_due" ["_law_elder", "_law_one", "_law_other", "_law_picks_here"] (sp_law_due K) := cal_of (ok_law_due F23 z C_law_at C_law_splits C_law_uppers ) (PySem.W.mg_of X G a23) F23.kp b23
  exact ok_law F24 z C_law_trees C_law_places C_law_picks C_law_due C_law_cell_at C_law_told
end K08


open PySem PySem.W PyProof.Rows
set_option maxHeartbeats 0 in
theorem PySem.Challenge.cw_threeroad_k08_joined_holds : PySem.Challenge.rw_threeroad_k08_joined.Holds := by
  w_on; o_law; k_head; (case hw => w_witness2)
  k_fill
  refine L2.walk_of (l := PySem.Challenge.rw_threeroad_k08_joined) (n := 63) (k := 7) (x := "_law_script") (CX := fun _ => L2.CX0) (sp := fun w => K08.sp_law _) rfl (by decide) rfl ⟨rfl, by decide, by decide⟩ (fun w h Y => PySem.W.kIn_of Y) ?F (fun _ _ a ns hl _ hS => ⟨_, ⟨a, ns, rfl, hS, rfl⟩, fun _ _ => congrArg L2.V.bl (K08.law_holds ns)⟩) (fun _ _ _ _ _ h => h)
  case F =>
    intro w mg fa h KX G hmg
    refine' K08.all_mk KX G hmg ?a0 ?l0 ?c0 ?k0 ?a1 ?l1 ?c1 ?k1 ?a2 ?l2 ?c2 ?k2 ?a3 ?l3 ?c3 ?k3 ?a4 ?l4 ?c4 ?k4 ?a5 ?l5 ?c5 ?k5 ?a6 ?l6 ?c6 ?k6 ?a7 ?l7 ?c7 ?k7 ?a8 ?l8 ?c8 ?k8 ?a9 ?l9 ?c9 ?k9 ?a10 ?l10 ?c10 ?k10 ?a11 ?l11 ?c11 ?k11 ?a12 ?l12 ?c12 ?k12 ?a13 ?l13 ?c13 ?k13 ?a14 ?l14 ?c14 ?k14 ?a15 ?l15 ?c15 ?k15 ?a16 ?l16 ?c16 ?k16 ?a17 ?l17 ?c17 ?k17 ?a18 ?l18 ?c18 ?k18 ?a19 ?l19 ?c19 ?k19 ?a20 ?l20 ?c20 ?k20 ?a21 ?l21 ?c21 ?k21 ?a22 ?l22 ?c22 ?k22 ?a23 ?l23 ?c23 ?k23 ?a24 ?l24 ?c24 ?k24 ?z_ValueError ?z_dict ?z_int ?z_isinstance ?z_len ?z_list ?z_range ?z_set ?z_sorted ?z_str ?eg0 ?eg1 ?eg2 ?eg3 ?eg4 ?eg5 ?eg6 ?eg7 ?rx4 ?rk4 ?rb4 ?rt4 ?rx5 ?rk5 ?rb5 ?rt5 ?qcb ?qci0 ?qci1 ?qci2 ?qci3 ?qci4 ?qci5 ?qci6 ?qci7 ?qct0 ?qct1 ?qct2 ?qct3 ?qct4 ?qct5 ?qct6 ?qct7 ?t4hg ?t4hk ?t4hs ?t4hd ?t4ha ?t4hn ?t4ht ?t4hm ?t4v ?t4i0 ?t4i1 ?t4i2 ?t4i3 ?t4i4 ?t4i5 ?t4i6 ?t4i7 ?t5hg ?t5hk ?t5hs ?t5hd ?t5ha ?t5hn ?t5ht ?t5hm ?t5v ?t5i0 ?t5i1 ?t5i2 ?t5i3 ?t5i4 ?t5i5 ?t5i6 ?t5i7
    (case a0 => k_is)
    (case l0 => k_is)
    (case c0 => k_is)
    (case k0 => k_is)
    (case a1 => k_is)
    (case l1 => k_is)
    (case c1 => k_is)
    (case k1 => k_is)
    (case a2 => k_is)
    (case l2 => k_is)
    (case c2 => k_is)
    (case k2 => k_is)
    (case a3 => k_is)
    (case l3 => k_is)
    (case c3 => k_is)
    (case k3 => k_is)
    (case a4 => k_is)
    (case l4 => k_is)
    (case c4 => k_is)
    (case k4 => k_is)
    (case a5 => k_is)
    (case l5 => k_is)
    (case c5 => k_is)
    (case k5 => k_is)
    (case a6 => k_is)
    (case l6 => k_is)
    (case c6 => k_is)
    (case k6 => k_is)
    (case a7 => k_is)
    (case l7 => k_is)
    (case c7 => k_is)
    (case k7 => k_is)
    (case a8 => k_is)
    (case l8 => k_is)
    (case c8 => k_is)
    (case k8 => k_is)
    (case a9 => k_is)
    (case l9 => k_is)
    (case c9 => k_is)
    (case k9 => k_is)
    (case a10 => k_is)
    (case l10 => k_is)
    (case c10 => k_is)
    (case k10 => k_is)
    (case a11 => k_is)
    (case l11 => k_is)
    (case c11 => k_is)
    (case k11 => k_is)
    (case a12 => k_is)
    (case l12 => k_is)
    (case c12 => k_is)
    (case k12 => k_is)
    (case a13 => k_is)
    (case l13 => k_is)
    (case c13 => k_is)
    (case k13 => k_is)
    (case a14 => k_is)
    (case l14 => k_is)
    (case c14 => k_is)
    (case k14 => k_is)
    (case a15 => k_is)
    (case l15 => k_is)
    (case c15 => k_is)
    (case k15 => k_is)
    (case a16 => k_is)
    (case l16 => k_is)
    (case c16 => k_is)
    (case k16 => k_is)
    (case a17 => k_is)
    (case l17 => k_is)
    (case c17 => k_is)
    (case k17 => k_is)
    (case a18 => k_is)
    (case l18 => k_is)
    (case c18 => k_is)
    (case k18 => k_is)
    (case a19 => k_is)
    (case l19 => k_is)
    (case c19 => k_is)
    (case k19 => k_is)
    (case a20 => k_is)
    (case l20 => k_is)
    (case c20 => k_is)
    (case k20 => k_is)
    (case a21 => k_is)
    (case l21 => k_is)
    (case c21 => k_is)
    (case k21 => k_is)
    (case a22 => k_is)
    (case l22 => k_is)
    (case c22 => k_is)
    (case k22 => k_is)
    (case a23 => k_is)
    (case l23 => k_is)
    (case c23 => k_is)
    (case k23 => k_is)
    (case a24 => k_is)
    (case l24 => k_is)
    (case c24 => k_is)
    (case k24 => k_is)
    (case z_ValueError => k_is)
    (case z_dict => k_is)
    (case z_int => k_is)
    (case z_isinstance => k_is)
    (case z_len => k_is)
    (case z_list => k_is)
    (case z_range => k_is)
    (case z_set => k_is)
    (case z_sorted => k_is)
    (case z_str => k_is)
    (case eg0 => k_is)
    (case eg1 => k_is)
    (case eg2 => k_is)
    (case eg3 => k_is)
    (case eg4 => k_is)
    (case eg5 => k_is)
    (case eg6 => k_is)
    (case eg7 => k_is)
    (case rx4 => k_exc)
    (case rk4 => k_is)
    (case rb4 => k_is)
    (case rt4 => k_is)
    (case rx5 => k_exc)
    (case rk5 => k_is)
    (case rb5 => k_is)
    (case rt5 => k_is)
    (case qcb => k_is)
    (case qci0 => k_is)
    (case qci1 => k_is)
    (case qci2 => k_is)
    (case qci3 => k_is)
    (case qci4 => k_is)
    (case qci5 => k_is)
    (case qci6 => k_is)
    (case qci7 => k_is)
    (case qct0 => k_is)
    (case qct1 => k_is)
    (case qct2 => k_is)
    (case qct3 => k_is)
    (case qct4 => k_is)
    (case qct5 => k_is)
    (case qct6 => k_is)
    (case qct7 => k_is)
    (case t4hg => k_is)
    (case t4hk => k_is)
    (case t4hs => k_is)
    (case t4hd => k_is)
    (case t4ha => k_is)
    (case t4hn => k_is)
    (case t4ht => k_is)
    (case t4hm => k_is)
    (case t4v => k_is)
    (case t4i0 => k_is)
    (case t4i1 => k_is)
    (case t4i2 => k_is)
    (case t4i3 => k_is)
    (case t4i4 => k_is)
    (case t4i5 => k_is)
    (case t4i6 => k_is)
    (case t4i7 => k_is)
    (case t5hg => k_is)
    (case t5hk => k_is)
    (case t5hs => k_is)
    (case t5hd => k_is)
    (case t5ha => k_is)
    (case t5hn => k_is)
    (case t5ht => k_is)
    (case t5hm => k_is)
    (case t5v => k_is)
    (case t5i0 => k_is)
    (case t5i1 => k_is)
    (case t5i2 => k_is)
    (case t5i3 => k_is)
    (case t5i4 => k_is)
    (case t5i5 => k_is)
    (case t5i6 => k_is)
    (case t5i7 => k_is)

