import PyProof.Rows.All
import Wide.All
import OpenK.AllK
import Wide.FinOn
import HandS.ForMost
import HandS.Walk
import HandS.IsInst
import HandS.DictComp
import HandS.SortInts
import HandS.NoneIn
import HandS.Replace
import HandS.TupAny
import HandS.TupLe
import PyProof.ListStr
import PyProof.TupleOfStr
import KE.GoesNew
import HandS.Zip
import HandS.More
import PyProof.StrLawsFirst
import HandS.Conv
import KE.KSortedM
import HandS.AnyAll
import HandS.EndTab
import PyProof.TupleOfGen
import HandS.EndOwn
import KE.KDictPairs
import KE.SortData
import KE.DataCmp
import PyProof.DictWalks
import KE.KDictWalk
import HandS.Style
import PyProof.CollectStr
import PyProof.SliceStr2
import PyProof.TupleOfSeq
import HandS.Star
import HandS.Wide
import PySem.Challenge.RW_stretchkeep_k34_needs_served
set_option Elab.async false
set_option linter.all false
set_option maxRecDepth 100000
namespace My
open PySem PySem.Spec PyProof.Rows L2
/-! ### heaps -/
/-- all but r is as it was -/
def Kp (r : Addr) (H H' : Hp) : Prop := ∀ b o, b ≠ r → H b = some o → H' b = some o
theorem Kp.rfl' {r : Addr} {H : Hp} : Kp r H H := fun _ _ _ h => h
theorem Kp.trans {r : Addr} {H H1 H2 : Hp} (a : Kp r H H1) (b : Kp r H1 H2) : Kp r H H2 := fun c o n h => b c o n (a c o n h)
theorem Kp.new {r p : Addr} {H H1 : Hp} {o : HO} (a : Kp r H H1) (n : H1 p = none) : Kp r H (upd H1 p o) := fun b x nb h => by
  have h1 := a b x nb h
  rw [upd_ne (ne_of_none h1 n)]
  exact h1
theorem Kp.own {r : Addr} {H H1 : Hp} {o : HO} (a : Kp r H H1) : Kp r H (upd H1 r o) := fun b x nb h => by
  rw [upd_ne nb]
  exact a b x nb h
/-- an object that H does not know is written -/
theorem Kp.mut {r p : Addr} {H H1 : Hp} {o : HO} (a : Kp r H H1) (n : H p = none) : Kp r H (upd H1 p o) := fun b x nb h => by
  rw [upd_ne (ne_of_none h n)]
  exact a b x nb h
theorem Same.kp {r : Addr} {H H' : Hp} (s : Same H H') : Kp r H H' := fun b o _ h => s b o h
theorem Same.new {p : Addr} {H H1 : Hp} {o : HO} (a : Same H H1) (n : H1 p = none) : Same H (upd H1 p o) := fun b x h => by
  have h1 := a b x h
  rw [upd_ne (ne_of_none h1 n)]
  exact h1
theorem Same.mut {p : Addr} {H H1 : Hp} {o : HO} (a : Same H H1) (n : H p = none) : Same H (upd H1 p o) := fun b x h => by
  rw [upd_ne (ne_of_none h n)]
  exact a b x h
theorem Same.tup {K : PySem.W.Frag} {H H' : Hp} {a : Addr} {xs : List V} (e : Same H H') (h : SqT K H a xs) : SqT K H' a xs := by
  rcases h with (h | ⟨o, h⟩) | h
  · exact .inl (.inl (e _ _ h))
  · exact .inl (.inr ⟨o, e _ _ h⟩)
  · exact .inr h
theorem Kp.none {r p : Addr} {H H' : Hp} (e : Kp r H H') (n : p ≠ r) (h : H' p = Option.none) : H p = Option.none := by
  cases q : H p with
  | none => rfl
  | some o =>
    rw [e p o n q] at h
    cases h
theorem keep_new {H : Hp} {p b : Addr} {o x : HO} (h : H b = some x) (n : H p = Option.none) : (upd H p o) b = some x := by
  rw [upd_ne (ne_of_none h n)]
  exact h
theorem keep_ne {H : Hp} {p b : Addr} {o x : HO} (h : H b = some x) (n : b ≠ p) : (upd H p o) b = some x := by
  rw [upd_ne n]
  exact h
/-! ### a word between a statement and the rest -/
def tMid (t u : TS) : TS := fun D σ H => ∃ M : L2.St → Hp → Prop, t { D with nx := M } σ H ∧ ∀ σ1 H1, M σ1 H1 → u D σ1 H1
theorem pss_mid {X : Cx} {st : Stmt} {r : List Stmt} {t u : TS} (a : PS X st t) (b : PSs X r u) : PSs X (st :: r) (tMid t u) := ⟨fun pins s σ H D I h => by
  obtain ⟨M, hm, hu⟩ := h
  refine wpAny_execs_cons (thn (a.run pins s σ H { D with nx := M } I hm) fun f s1 q => ?_)
  cases f
  case next =>
    obtain ⟨σ1, H1, I1, q1⟩ := q
    exact b.run pins s1 σ1 H1 D I1 (hu σ1 H1 q1)
  all_goals exact q⟩
/-! ### texts -/
/-- a text of these codes; one sign -/
abbrev tx (l : List Nat) : V := .str ⟨l.toArray⟩
abbrev sg (c : Nat) : V := .str ⟨#[c]⟩
theorem signs_vals {x : Str} {acc : Array Value} (h : ItemsOf (SignAt x) acc x.cps.size) : Vals (x.cps.toList.map sg) acc.toList := by
  obtain ⟨hz, hi⟩ := h
  have key : ∀ (l : List Nat) (us : List Value), l.length = us.length → (∀ (j : Nat) (c : Nat) (v : Value), l[j]? = some c → us[j]? = some v → ∃ t, v = Value.str ⟨#[c]⟩ t) → Vals (l.map sg) us := by
    intro l
    induction l with
    | nil =>
      intro us hl _
      cases us with
      | nil => exact .nil
      | cons a b => cases hl
    | cons c l ih =>
      intro us hl hh
      cases us with
      | nil => cases hl
      | cons u us =>
        refine .cons ?_ (ih us (Nat.succ.inj hl) fun j c v h1 h2 => hh (j + 1) c v h1 h2)
        obtain ⟨t, e⟩ := hh 0 c u rfl rfl
        exact ⟨t, e⟩
  refine key _ _ (by rw [Array.length_toList, Array.length_toList, hz]) fun j c v h1 h2 => ?_
  obtain ⟨cc, t, e1, e2⟩ := hi j v (by rw [← Array.getElem?_toList]; exact h2)
  rw [Array.getElem?_toList] at h1
  rw [h1] at e1
  cases e1
  exact ⟨t, e2⟩
/-- the text of one sign -/
abbrev sS (c : Nat) : Str := ⟨#[c]⟩
theorem str_empty : (Str.ofString "").cps = #[] := by decide +kernel
theorem join_signs : ∀ l : List Nat, Txt.join (Str.ofString "") (l.map sS) = ⟨l.toArray⟩ := by
  intro l
  show PySem.Builtin.Str.glued (Str.ofString "") (l.map sS) = _
  rw [PySem.StrLaws.glued_eq_join]
  induction l with
  | nil => rfl
  | cons c l ih =>
    cases l with
    | nil => rfl
    | cons d l =>
      show sS c ++ Str.ofString "" ++ Str.join (Str.ofString "") ((d :: l).map sS) = _
      rw [ih]
      show (⟨(#[c] ++ (Str.ofString "").cps) ++ (d :: l).toArray⟩ : Str) = _
      rw [str_empty]
      simp
theorem ltCps_one {a b : Nat} (h : ltCps [a] [b] = false) : b ≤ a := by
  simp [ltCps] at h
  exact h
theorem rising_signs : ∀ (l : List Nat) (c : Nat), risingS (sS c) (l.map sS) = true → (c :: l).Pairwise (· ≤ ·)
  | [], c, _ => List.pairwise_singleton _ _
  | d :: l, c, h => by
    have h' : (!ltCps [d] [c] && risingS (sS d) (l.map sS)) = true := h
    rw [Bool.and_eq_true, Bool.not_eq_true'] at h'
    have hd := ltCps_one h'.1
    have ih := rising_signs l d h'.2
    refine List.Pairwise.cons (fun x hx => ?_) ih
    rcases List.mem_cons.mp hx with e | hx
    · rw [e]
      exact hd
    · exact Nat.le_trans hd ((List.pairwise_cons.mp ih).1 x hx)
theorem sorted_signs : ∀ (l : List Nat), sortedS (l.map sS) = true → l.Pairwise (· ≤ ·)
  | [], _ => List.Pairwise.nil
  | c :: l, h => rising_signs l c h
theorem perm_signs {ys : List Str} {l : List Nat} (h : ys.Perm (l.map sS)) : ∃ l' : List Nat, ys = l'.map sS ∧ l'.Perm l := by
  let hd : Str → Nat := fun z => z.cps.toList.headD 0
  refine ⟨ys.map hd, ?_, ?_⟩
  · rw [List.map_map]
    have e : ∀ y ∈ ys, (sS ∘ hd) y = y := fun y hy => by
      obtain ⟨c, _, rfl⟩ := List.mem_map.mp (h.mem_iff.mp hy)
      rfl
    conv => lhs; rw [← List.map_id ys]
    exact (List.map_congr_left e).symm
  · have e := h.map hd
    rw [List.map_map] at e
    have e2 : l.map (hd ∘ sS) = l := by
      conv => rhs; rw [← List.map_id l]
      exact List.map_congr_left fun c _ => rfl
    rw [e2] at e
    exact e
theorem strict_of {l : List Nat} (h : l.Pairwise (· ≤ ·)) (n : l.Nodup) : l.Pairwise (· < ·) := by
  refine (h.and n).imp fun {a b} q => ?_
  have h1 := q.1
  have h2 : a ≠ b := q.2
  omega
theorem map_sg (l : List Nat) : l.map sg = (l.map sS).map V.str := by
  rw [List.map_map]
  rfl
theorem erase_map {α β : Type} (f : α → β) : ∀ (l : List α) (k : Nat), (l.map f).eraseIdx k = (l.eraseIdx k).map f
  | [], _ => rfl
  | _ :: _, 0 => rfl
  | a :: l, k + 1 => by
    show f a :: (l.map f).eraseIdx k = f a :: (l.eraseIdx k).map f
    rw [erase_map f l k]
theorem pop_perm : ∀ {l : List Nat} {k : Nat} {y : Nat}, l[k]? = some y → (y :: l.eraseIdx k).Perm l
  | [], k, y, h => by simp at h
  | a :: l, 0, y, h => by
    have e : a = y := Option.some.inj h
    rw [e]
    exact List.Perm.refl _
  | a :: l, k + 1, y, h => by
    have ih := pop_perm (l := l) (k := k) (y := y) h
    exact (List.Perm.swap a y (l.eraseIdx k)).trans (ih.cons a)
theorem popped {l : List Nat} {k : Nat} {y : Nat} (h : l[k]? = some y) (f : List Nat) : (l.eraseIdx k ++ (f ++ [y])).Perm (l ++ f) := by
  have p := pop_perm h
  have p1 : (l.eraseIdx k ++ (f ++ [y])).Perm ([y] ++ (l.eraseIdx k ++ f)) := by
    rw [← List.append_assoc]
    exact List.perm_append_comm
  refine p1.trans ?_
  rw [← List.append_assoc]
  exact p.append_right f
section
variable {X : Cx}
theorem call_list_txt (hc : X.calm = true := by rfl) : CallR X (.type "list") (fun xs H Q => ∃ z : Str, xs = [.str z] ∧ z.length ≤ sizeLine ∧ ∀ l, H l = none → Q (.ref l) (upd H l (.lst (z.cps.toList.map sg)))) := by
  intro pins s σ H xs us Q I r h
  obtain ⟨z, rfl, hz, q⟩ := h
  obtain ⟨u, rfl, rx⟩ := vals1 r
  obtain ⟨t, rfl⟩ := rx
  refine PySem.call_list_str (I.ok.hd hc) z t (fun h' tk acc c kp e hi => ?_) hz
  have hv := signs_vals hi
  exact ⟨.ref s.heap.objs.size, _, I.laid (t' := tk) kp (Nat.le_refl _) (show ObjOk X.prog X.w _ h' _ (.lst (z.cps.toList.map sg)) from ⟨by rw [List.length_map, Array.length_toList]; exact hz, acc.toList, c, hv, by rw [Array.toArray_toList]; exact e⟩), rfl, q _ (I.hok.fresh (Nat.le_refl _))⟩
end
end My

set_option Elab.async false
set_option linter.all false
set_option maxRecDepth 100000
set_option maxHeartbeats 1000000
namespace My
open PySem PySem.Spec PyProof.Rows L2
/-! ### calls by named readings -/
def rLenSq (K : PySem.W.Frag) : List V → Hp → VK → Prop := fun xs H Q => ∃ p ys, xs = [.ref p] ∧ (SqL K H p ys ∨ SqT K H p ys) ∧ Q (.int (ys.length : Nat)) H
def rListSq (K : PySem.W.Frag) : List V → Hp → VK → Prop := fun xs H Q => ∃ p ys, xs = [.ref p] ∧ (SqL K H p ys ∨ SqT K H p ys) ∧ ∀ l, H l = none → Q (.ref l) (upd H l (.lst ys))
section
variable (K : PySem.W.Frag) {X : Cx}
theorem cLenSq (hK : X.K = K := by rfl) : CallR X (.builtin "len") (rLenSq K) := by
  subst hK
  exact call_len_seq
theorem cListSq (hK : X.K = K := by rfl) : CallR X (.type "list") (rListSq K) := by
  subst hK
  exact call_list_of
theorem ixL (hK : X.K = K := by rfl) : IxR X (rIxL K) := by
  subst hK
  exact ix_list
theorem ixT (hK : X.K = K := by rfl) : IxR X (rIxT K) := by
  subst hK
  exact ix_tup
theorem pgT {es : List Expr} {k : Nat} {t : TGs} {n : Nat} {pos : Pos} (h : PGs X es t) (hK : X.K = K := by rfl) (hc : X.calm = true := by rfl) (hn : (assignEach es X.env).length = n := by rfl) (hst : (assignEach es X.env).findIdx? (·.1) = none := by rfl) : PG X (.Tuple es k pos) (gTup K n t) := by
  subst hK
  exact pg_tup hc h hn hst
theorem notInSq (hK : X.K = K := by rfl) : OpR X (compareOp .NotIn) (rIn K true) := by
  subst hK
  exact op_notIn_seq
theorem eqDK (hu : X.A.units + 64 < cLine) (hK : X.K = K := by rfl) : OpR X (compareOp .Eq) (rEqD K) := by
  subst hK
  exact op_eqD hu
theorem neDK (hu : X.A.units + 64 < cLine) (hK : X.K = K := by rfl) : OpR X (compareOp .NotEq) (rNeD K) := by
  subst hK
  exact op_neD hu
theorem bmK {T id : String} {name : Str} {r : V → List V → Hp → VK → Prop} {o e : Expr} {es : List Expr} {to : TE} {t : TA} {apos cpos : Pos} (pa : PlainAttrs T) (slot : Slot T name id) (hty : typeOf (.builtin id) = pure (.type "method_descriptor")) (hm : MtR X id r) (ho : PE X o to) (ha : PA X (e :: es) t) (hK : X.K = K := by rfl)
    (hbase : attributeBase o name X.env (eval o X.env) = eval o X.env := by rfl)
    (hfew : ((backTo cpos (starEach (e :: es) X.env)).all (fun x => !x.1) && (backToKw cpos (keywordEach [] X.env)).all (fun x => x.1.isSome) && decide ((e :: es).length + ([] : List Keyword).length + (if ([] : List Keyword).isEmpty then 0 else 1) < 30)) = true := by rfl)
    (hline : (apos.endLine == cpos.line) = true := by rfl) (hs : starEach (e :: es) X.env = (false, eval e X.env) :: starEach es X.env := by rfl) (hplain : (backTo cpos (starEach es X.env)).any (·.1) = false := by rfl) :
    PE X (.Call (.Attribute o name apos) (e :: es) [] cpos) (tBM K T r to t) := by
  subst hK
  exact pe_bm pa slot hty hm ho ha hbase hfew hline hs hplain
theorem isiK (hK : X.K = K := by rfl) : CallR X (.builtin "isinstance") (rIsi K) := by
  subst hK
  exact call_isi
end
/-! ### frozen data: numbers, texts, None, truths, tuples of these -/
/-- tuples stay -/
def Kt (H H' : Hp) : Prop := ∀ b xs, H b = some (.tup xs) → H' b = some (.tup xs)
theorem Kt.rfl' {H : Hp} : Kt H H := fun _ _ h => h
theorem Kt.trans {H H1 H2 : Hp} (a : Kt H H1) (b : Kt H1 H2) : Kt H H2 := fun c o h => b c o (a c o h)
theorem Kt.new {H : Hp} {p : Addr} {o : HO} (n : H p = none) : Kt H (upd H p o) := fun b xs h => by
  rw [upd_ne (ne_of_none h n)]
  exact h
theorem Kt.lst {H : Hp} {p : Addr} {xs : List V} {o : HO} (n : H p = some (.lst xs)) : Kt H (upd H p o) := fun b ys h => by
  have e : b ≠ p := fun z => by
    rw [z, n] at h
    cases h
  rw [upd_ne e]
  exact h
theorem Kp.kt {r : Addr} {H H' : Hp} {xs : List V} (k : Kp r H H') (h : H r = some (.lst xs)) : Kt H H' := fun b ys e => k b _ (fun z => by
  rw [z, h] at e
  cases e) e
theorem Same.kt {H H' : Hp} (k : Same H H') : Kt H H' := fun b ys e => k b _ e
/-! ### tables -/
/-- rising unlike letters -/
structure Cols (l : List Nat) : Prop where
  up : l.Pairwise (· < ·)
  az : ∀ c ∈ l, 97 ≤ c ∧ c ≤ 122
theorem Cols.nd {l : List Nat} (c : Cols l) : l.Nodup := c.up.imp fun {a b} h => by
  have : a < b := h
  omega
/-! ### questions -/
theorem dp_signs {K : PySem.W.Frag} {H : Hp} : ∀ l : List Nat, DpAll K H (l.map sg) (l.map fun c => PyData.str (sS c))
  | [] => .nil
  | c :: l => .cons (.str _) (dp_signs l)
theorem shaped_signs {l : List Nat} (h : ∀ c ∈ l, c ≤ 122) : SeqAt.shaped (.list (l.map fun c => PyData.str (sS c))) = true := by
  have e1 : PyData.canLayAll0 (l.map fun c => PyData.str (sS c)) = true := by
    induction l with
    | nil => rfl
    | cons c l ih =>
      show (PyData.canLay0 (.str (sS c)) && PyData.canLayAll0 (l.map fun c => PyData.str (sS c))) = true
      rw [ih fun d hd => h d (List.mem_cons_of_mem _ hd), Bool.and_true]
      have hc := h c (List.mem_cons_self ..)
      show (#[c] : Array Nat).all (· < 0x110000) = true
      simp
      omega
  have e2 : PyData.depthAll (l.map fun c => PyData.str (sS c)) = 0 := by
    clear h e1
    induction l with
    | nil => rfl
    | cons c l ih =>
      show max (PyData.depth (.str (sS c))) (PyData.depthAll (l.map fun c => PyData.str (sS c))) = 0
      rw [ih]
      rfl
  unfold SeqAt.shaped
  show (PyData.canLayAll0 _ && decide (PyData.depthAll _ + 1 ≤ 64)) = true
  rw [e1, e2]
  rfl
end My

set_option Elab.async false
set_option linter.all false
set_option maxRecDepth 100000
set_option maxHeartbeats 1000000
namespace My
open PySem PySem.Spec PyProof.Rows L2
/-! ### name = {.. for ..} on one line -/
section
variable {X : Cx} {pins : List (Addr × Obj)} {σ : L2.St} {H : Hp} {s : Shared}
end
/-! ### spans: letters with their bounds -/
theorem sS_inj {a b : Nat} (h : sS a = sS b) : a = b := by
  have z3 : (#[a] : Array Nat) = #[b] := congrArg Str.cps h
  simpa using z3
/-! ### what fits -/
/-! ### data with lists -/
/-! ### what isinstance tells of data -/
def tyN : PyData → String
  | .none => "NoneType"
  | .bool _ => "bool"
  | .int _ => "int"
  | .str _ => "str"
  | .list _ => "list"
  | .tuple _ => "tuple"
  | .dict _ => "dict"
def isBl : PyData → Bool
  | .bool _ => true
  | _ => false
theorem kit_bl {K : PySem.W.Frag} (d : PyData) : PySem.W.kitOne K (.type (tyN d)) (.type "bool") = some (isBl d) := by
  cases d <;> exact kit_ty (by kernel_rfl)
end My

set_option Elab.async false
set_option linter.all false
set_option maxRecDepth 100000
set_option maxHeartbeats 1000000
namespace My
open PySem PySem.Spec PyProof.Rows L2
/-! ### lists of numbers compared -/
/-! ### questions and what fits -/
/-- the letter taken out of equals -/
def fewer (es : List (Nat × Int)) (c : Nat) : List (Nat × Int) := es.filter fun p => !decide (p.1 = c)
end My

set_option Elab.async false
set_option linter.all false
set_option maxRecDepth 100000
set_option maxHeartbeats 2000000
namespace My
open PySem PySem.Spec PyProof.Rows L2
/-! ### texts by their codes -/
theorem inV_signs (c : Nat) : ∀ l : List Nat, inV (sg c) (l.map sg) = decide (c ∈ l)
  | [] => rfl
  | d :: l => by
    have ih := inV_signs c l
    show (((sS d) == (sS c)) || inV (sg c) (l.map sg)) = decide (c ∈ d :: l)
    rw [ih]
    by_cases e : d = c
    · rw [e]
      simp
    · have e2 : ((sS d) == (sS c)) = false := by
        rw [Bool.eq_false_iff]
        intro z
        exact e (sS_inj (by simpa using z))
      have e3 : ¬ c = d := fun z => e z.symm
      rw [e2]
      simp [e3]
theorem flat_signs (l : List Nat) : (l.map sg).all flatV = true := by
  rw [List.all_map, List.all_eq_true]
  intro c _
  rfl
theorem cut_take (l : List Nat) (k : Nat) : cutS ⟨l.toArray⟩ none (some (k : Int)) = ⟨(l.take k).toArray⟩ := by
  unfold cutS
  rw [HT.sIx_none, HT.sIx_nat]
  show (⟨((l.toArray.toList.drop 0).take (min k l.toArray.size - 0)).toArray⟩ : Str) = _
  have e1 : l.toArray.toList = l := by simp
  have e2 : l.toArray.size = l.length := by simp
  rw [e1, e2, List.drop_zero, Nat.sub_zero]
  congr 2
  rw [List.take_eq_take_iff]
  omega
theorem tx_inj {a b : List Nat} (h : tx a = tx b) : a = b := by
  have h2 : (⟨a.toArray⟩ : Str) = ⟨b.toArray⟩ := V.str.inj h
  have h3 : a.toArray = b.toArray := congrArg Str.cps h2
  simpa using h3
/-! ### the letters that a question uses -/
section
variable (K : PySem.W.Frag) {X : Cx}
end
/-! ### the bounds that a question asks of a letter -/
/-! ### stretches -/
end My

set_option Elab.async false
set_option linter.all false
set_option maxRecDepth 100000
set_option maxHeartbeats 2000000
namespace My
open PySem PySem.Spec PyProof.Rows L2
/-! ### tuples whose own object is told: without a dict of its own -/
section
variable (K : PySem.W.Frag) {X : Cx}
end
theorem app_txt (a b : List Nat) : ((⟨a.toArray⟩ : Str) ++ (⟨b.toArray⟩ : Str)) = ⟨(a ++ b).toArray⟩ := by
  show (⟨a.toArray ++ b.toArray⟩ : Str) = _
  rw [List.append_toArray]
/-! ### questions: their equals are such a tuple -/
def KT (H H' : Hp) : Prop := Kt H H' ∧ ∀ b o xs, H b = some (.frz o (.tup xs)) → H' b = some (.frz o (.tup xs))
theorem KT.rfl' {H : Hp} : KT H H := ⟨Kt.rfl', fun _ _ _ h => h⟩
theorem KT.trans {H H1 H2 : Hp} (a : KT H H1) (b : KT H1 H2) : KT H H2 := ⟨a.1.trans b.1, fun c o xs h => b.2 c o xs (a.2 c o xs h)⟩
theorem Same.kT {H H' : Hp} (s : Same H H') : KT H H' := ⟨Same.kt s, fun b o xs h => s b _ h⟩
theorem Kp.kT {r : Addr} {H H' : Hp} {xs : List V} (k : Kp r H H') (hr : H r = some (.lst xs)) : KT H H' := ⟨k.kt hr, fun b o ys h => k b _ (fun z => by
  rw [z, hr] at h
  cases h) h⟩
theorem KT.new {H : Hp} {p : Addr} {o : HO} (n : H p = none) : KT H (upd H p o) := ⟨Kt.new n, fun b u xs h => keep_new h n⟩
theorem KT.lst {H : Hp} {p : Addr} {xs : List V} {o : HO} (n : H p = some (.lst xs)) : KT H (upd H p o) := ⟨Kt.lst n, fun b u ys h => keep_ne h fun z => by
  rw [z, n] at h
  cases h⟩
end My

set_option Elab.async false
set_option linter.all false
set_option maxRecDepth 100000
set_option maxHeartbeats 2000000
namespace My
open PySem PySem.Spec PyProof.Rows L2
section
variable (K : PySem.W.Frag) {X : Cx}
theorem slLK (hK : X.K = K := by rfl) : SlR X (rSlL K) := by
  subst hK
  exact sl_list
end
/-! ### what a stretch of the sorted rows holds -/
end My

set_option Elab.async false
set_option linter.all false
set_option maxRecDepth 100000
set_option maxHeartbeats 2000000
namespace My
open PySem PySem.Spec PyProof.Rows L2
theorem nodup_sub_len : ∀ {l m : List Nat}, l.Nodup → (∀ c ∈ l, c ∈ m) → l.length ≤ m.length
  | [], _, _, _ => Nat.zero_le _
  | a :: l, m, h, hs => by
    have h2 := List.nodup_cons.mp h
    have ha := hs a (by simp)
    have ih := nodup_sub_len (m := m.erase a) h2.2 (fun c hc => (List.mem_erase_of_ne (fun e => h2.1 (by rw [← e]; exact hc))).mpr (hs c (by simp [hc])))
    rw [List.length_erase_of_mem ha] at ih
    have hp : 0 < m.length := List.length_pos_of_mem ha
    rw [List.length_cons]
    omega
end My

set_option Elab.async false
set_option linter.all false
set_option maxRecDepth 100000
set_option maxHeartbeats 2000000
namespace My
open PySem PySem.Spec PyProof.Rows L2
section
variable {X : Cx}
/-! ### text[::-1] -/
theorem fm_all (l : List Nat) : (List.range l.length).filterMap (l[·]?) = l := by
  induction l with
  | nil => rfl
  | cons a l ih =>
    rw [List.length_cons, List.range_succ_eq_map, List.filterMap_cons]
    show a :: List.filterMap _ _ = _
    rw [List.filterMap_map]
    congr 1
theorem rev_pick (l : List Nat) : (Builtin.Str.strSliceIndices none none (-1) l.length).filterMap (l[·]?) = l.reverse := by
  have e : Builtin.Str.strSliceIndices none none (-1) l.length = sliceRange ((l.length : Int) - 1) (-1) (-1) := rfl
  rw [e, PySem.W.krv_sliceRange, PySem.W.krv_range, List.filterMap_reverse, fm_all]
/-- the slice ::-1 as it stands behind its making -/
theorem ev_back {pins : List (Addr × Obj)} {σ : L2.St} {H : Hp} {s : Shared} {k : Nat} {p1 p2 p3 : Pos} {Q' : Value → Shared → Prop} (I : Inv X pins σ H s)
    (goal : ∀ (tk : Tok) (s2 : Shared), Inv X pins σ H s2 → Q' (.ref s2.heap.objs.size) { s2 with heap := s2.heap.push { cls := .type "slice", data := .fields #[.none, .none, .int (-1) tk] } }) :
    wpAny (model X.prog X.w) X.A (eval (.Slice none none (some (.UnaryOp .USub (.Constant (.int 1) k p1) p2)) p3) X.env) Q' X.xe s := by
  refine wpAny_Slice ?_
  rw [evalPart_none, evalPart_some]
  refine wpAny_pure (wpAny_pure (thn ((pe_un un_neg pe_int).run pins s σ H (fun x G => x = .int (-1) ∧ G = H) I ⟨1, rfl, rfl, rfl⟩) ?_))
  rintro u s2 ⟨x, G, I2, r, rfl, rfl⟩
  obtain ⟨tk, rfl⟩ := r
  exact goal tk s2 I2
def tRevS (te : TE) : TE := fun σ H Q => te σ H fun x H1 => ∃ l : List Nat, x = tx l ∧ l.length ≤ sizeLine ∧ Q (tx l.reverse) H1
theorem pe_revS {e : Expr} {te : TE} {k : Nat} {p1 p2 p3 pos : Pos} (he : PE X e te) : PE X (.Subscript e (.Slice none none (some (.UnaryOp .USub (.Constant (.int 1) k p1) p2)) p3) pos) (tRevS te) := by
  refine ⟨fun pins s σ H Q I h => Subscript_ (thn (he.run pins s σ H _ I h) ?_)⟩
  rintro _ s1 ⟨_, H1, I1, r1, l, rfl, hl, q⟩
  obtain ⟨t, rfl⟩ := r1
  refine ev_back I1 fun tk s4 I4 => ?_
  have I5 : Inv X pins σ H1 { s4 with heap := s4.heap.push { cls := .type "slice", data := .fields #[.none, .none, .int (-1) tk] } } := I4.kept fun _ _ => Heap.get?_push_of_some _
  refine tail_any (ops := [.str ⟨l.toArray⟩ t, .ref s4.heap.objs.size]) (typeIs_str _ _ _) F.slot_str_getitem.lookup ?_ (by with_unfolding_all rfl)
  refine wpAny_getItem_str_slice (l := none) (u := none) (st := some (-1, tk)) ⟨_, Heap.get?_push_size _ rfl, rfl, rfl⟩ rfl ?_
  have ep : ((Builtin.Str.strSliceIndices none none (-1) (⟨l.toArray⟩ : Str).length).filterMap ((⟨l.toArray⟩ : Str).cps[·]?)).toArray = l.reverse.toArray := by
    have e3 : (⟨l.toArray⟩ : Str).length = l.length := by simp [Str.length]
    rw [e3]
    congr 1
    rw [← rev_pick l]
    congr 1
    funext i
    simp
  show Made.post (if ((-1 : Int) == 1 && (Builtin.Str.strSliceIndices none none (-1) (⟨l.toArray⟩ : Str).length).length == (⟨l.toArray⟩ : Str).length) = true then Made.val (.str ⟨l.toArray⟩ t)
    else Made.str ⟨((Builtin.Str.strSliceIndices none none (-1) (⟨l.toArray⟩ : Str).length).filterMap ((⟨l.toArray⟩ : Str).cps[·]?)).toArray⟩) (EP X pins σ Q) _
  have c0 : ((-1 : Int) == 1) = false := by decide
  rw [c0, Bool.false_and, if_neg Bool.false_ne_true, ep]
  exact ⟨by show l.reverse.toArray.size ≤ sizeLine; simpa using hl, .str _, H1, I5.tok _, ⟨_, rfl⟩, q⟩
end
section
variable {prog : Program} {w : World} {A : Around} {E : Value → Shared → Prop} {s : Shared}
/-- sorted of what is collected as fewer than 64 texts -/
theorem sorted_texts {x : Value} {Q : Value → Shared → Prop} (got : wpAny (model prog w) A.in1 (collect x) (fun out s1 => ∃ zs, StrsAre out zs ∧ out.length < 64 ∧ ∀ (ys : List Str) (us : List Value) (c : Nat) (h' : Heap),
      StrsAre us ys → ys.Perm zs → sortedS ys = true → h'.get? s1.heap.objs.size = some (seqObj "list" us.toArray c) → (∀ b u, s1.heap.get? b = some u → h'.get? b = some u) → Q (.ref s1.heap.objs.size) { s1 with heap := h' }) E s) :
    wpAny (model prog w) A (call (.builtin "sorted") [x]) Q E s := by
  refine Calls.call_function_entry kind_sorted plain_sorted entry_sorted (args_sorted1 _) (wpAny_bind (wpAny_pure (wpAny_bind (wpAny_mono got ?_ fun _ _ z => z))))
  rintro out s1 ⟨zs, ht, l64, goal⟩
  have le : out.length ≤ sizeLine := by rw [sizeLine_eq]; omega
  refine wpAny_bind (wpAny_newList ?_ le)
  have hp : (s1.heap.push (seqObj "list" out.toArray 0)).get? s1.heap.objs.size = some (seqObj "list" out.toArray 0) := Heap.get?_push_size _ rfl
  refine wpAny_bind (wpAny_holding (wpAny_call_entry slot_list_sort ⟨_, hp, rfl⟩ entry_list_sort (list_sort_treeK strKind_oneLt (s := { s1 with heap := _ }) hp ht.keysOf (fun _ _ _ e => keyKind_strs (e ▸ ht)) l64 fun st pm so => ⟨_, rfl, ?_⟩) (args_list_sort _)))
  have ⟨ys, y1, y2, y3⟩ := sorted_out_str ht pm so
  have ⟨c, hc⟩ := sortedHeap_at (vs := out) (out := (arrOf st).map (·.2)) hp
  refine wpAny_pure ⟨_, rfl, goal ys _ c _ y1 y2 y3 (by rw [Array.toArray_toList]; exact hc) fun b u e => ?_⟩
  have lt := Heap.lt_size e
  exact (sortedHeap_old (Nat.ne_of_lt lt) (by rw [size_push']; exact Nat.lt_succ_of_lt lt)).trans (Heap.get?_push_of_some _ e)
end
section
variable {X : Cx}
/-! ### sorted(text) -/
def rSortTx : List V → Hp → VK → Prop := fun xs H Q => ∃ l : List Nat, xs = [tx l] ∧ l.length < 64 ∧ ∀ (l' : List Nat) (p : Addr), l'.Perm l → l'.Pairwise (· ≤ ·) → H p = none → Q (.ref p) (upd H p (.lst (l'.map sg)))
theorem cSortTx (hcalm : X.calm = true := by rfl) : CallR X (.builtin "sorted") rSortTx := by
  rintro pins s σ H xs us Q I r ⟨l, rfl, l64, q⟩
  obtain ⟨_, rfl, t, rfl⟩ := vals1 r
  have n : (⟨l.toArray⟩ : Str).cps.size = l.length := by simp
  have few : l.length ≤ sizeLine := by rw [sizeLine_eq]; omega
  refine sorted_texts (wpAny_collect_str (A := X.A.in1) (I.ok.hd hcalm) ⟨l.toArray⟩ t (fun s1 acc old hg hd ho hacc => ?_) (n ▸ few))
  obtain ⟨h1, g, d, tk, os⟩ := s1
  obtain ⟨rfl, rfl, rfl⟩ : g = s.gens ∧ d = s.drawn ∧ os = s.os := ⟨hg, hd, ho⟩
  have I1 : Inv X pins σ H { s with heap := h1, toks := tk } := I.kept old
  have hv := signs_vals hacc
  rw [show (⟨l.toArray⟩ : Str).cps.toList.map sg = (l.map sS).map V.str from map_sg ..] at hv
  refine ⟨l.map sS, hv.strs, by rw [Array.length_toList, hacc.1, n]; exact l64, fun ys us c h' y1 y2 y3 hp old2 => ?_⟩
  obtain ⟨l', rfl, pm⟩ := perm_signs y2
  have vs := vals_of_strs y1
  rw [← map_sg] at vs
  exact ⟨.ref h1.objs.size, _, I1.laid (t' := tk) (o := .lst (l'.map sg)) old2 (Nat.le_refl _) ⟨by rw [List.length_map, pm.length_eq]; exact few, us, c, vs, hp⟩, rfl, q l' _ pm (sorted_signs l' y3) (I1.hok.fresh (Nat.le_refl _))⟩
end
theorem eqvA_signs : ∀ ns ms : List Nat, PyData.eqvAll (ns.map fun c => PyData.str (sS c)) (ms.map fun c => PyData.str (sS c)) = decide (ns = ms)
  | [], [] => rfl
  | [], m :: ms => by
    show false = _
    simp
  | n :: ns, [] => by
    show false = _
    simp
  | n :: ns, m :: ms => by
    show (PyData.eqv (.str (sS n)) (.str (sS m)) && PyData.eqvAll (ns.map fun c => PyData.str (sS c)) (ms.map fun c => PyData.str (sS c))) = _
    rw [eqvA_signs ns ms]
    show ((sS n == sS m) && _) = _
    by_cases e : n = m
    · subst e
      simp
    · have e2 : (sS n == sS m) = false := by
        rw [Bool.eq_false_iff]
        intro z
        exact e (sS_inj (by simpa using z))
      rw [e2]
      simp [e]
theorem eqv_signs (ns ms : List Nat) : PyData.eqv (.list (ns.map fun c => PyData.str (sS c))) (.list (ms.map fun c => PyData.str (sS c))) = decide (ns = ms) := eqvA_signs ns ms
theorem le_perm_eq : ∀ {l m : List Nat}, l.Perm m → l.Pairwise (· ≤ ·) → m.Pairwise (· ≤ ·) → l = m := fun h h1 h2 => List.Perm.eq_of_pairwise (le := fun a b => a ≤ b) (fun a b _ _ h3 h4 => Nat.le_antisymm h3 h4) h1 h2 h
end My

set_option Elab.async false
set_option linter.all false
set_option maxRecDepth 100000
set_option maxHeartbeats 2000000
namespace My
open PySem PySem.Spec PyProof.Rows L2
section
variable (K : PySem.W.Frag) {X : Cx}
/-! ### the least of a list -/
end
/-! ### keys of a merged dict -/
/-! ### choices: texts in a row -/
abbrev txS (l : List Nat) : Str := ⟨l.toArray⟩
/-! ### prices -/
end My

set_option Elab.async false
set_option linter.all false
set_option maxRecDepth 100000
set_option maxHeartbeats 2000000
namespace My
open PySem PySem.Spec PyProof.Rows L2
theorem signs_len (l : List Nat) : ((l.map sS).map fun x : Str => x.length).sum = l.length := by
  induction l with
  | nil => rfl
  | cons a k ih =>
    rw [List.map_cons, List.map_cons, List.sum_cons, ih, List.length_cons]
    show 1 + k.length = k.length + 1
    omega
/-! ### texts cut -/
theorem cut_mid (l : List Nat) (a b : Nat) : cutS ⟨l.toArray⟩ (some (a : Int)) (some (b : Int)) = ⟨((l.drop a).take (b - a)).toArray⟩ := by
  unfold cutS
  rw [HT.sIx_nat, HT.sIx_nat]
  have e1 : (⟨l.toArray⟩ : Str).cps.toList = l := by simp
  have e2 : (⟨l.toArray⟩ : Str).length = l.length := by simp [Str.length]
  rw [e1, e2]
  congr 2
  by_cases h : a ≤ l.length
  · rw [Nat.min_eq_left h, List.take_eq_take_iff, List.length_drop]
    omega
  · rw [List.drop_of_length_le (by omega), List.drop_of_length_le (by omega), List.take_nil, List.take_nil]
theorem cut_from (l : List Nat) (a : Nat) : cutS ⟨l.toArray⟩ (some (a : Int)) none = ⟨(l.drop a).toArray⟩ := by
  unfold cutS
  rw [HT.sIx_nat, HT.sIx_none]
  have e1 : (⟨l.toArray⟩ : Str).cps.toList = l := by simp
  have e2 : (⟨l.toArray⟩ : Str).length = l.length := by simp [Str.length]
  rw [e1, e2]
  congr 2
  by_cases h : a ≤ l.length
  · rw [Nat.min_eq_left h, List.take_of_length_le (by rw [List.length_drop]; omega)]
  · rw [List.drop_of_length_le (by omega), List.drop_of_length_le (by omega), List.take_nil]
theorem starts_txt (a b : List Nat) : Txt.startswith (txS a) (txS b) = decide (a.take b.length = b) := by
  unfold Txt.startswith
  rw [PySem.StrLaws.subAt_eq]
  have e1 : (txS a).cps.toList = a := by simp
  have e2 : (txS b).cps.toList = b := by simp
  have e3 : (txS a).length = a.length := by simp [Str.length]
  have e4 : (txS b).length = b.length := by simp [Str.length]
  rw [e1, e2, e3, e4, List.drop_zero, Nat.zero_add]
  by_cases h : a.take b.length = b
  · have hl : b.length ≤ a.length := by
      have := congrArg List.length h
      rw [List.length_take] at this
      omega
    rw [decide_eq_true h, decide_eq_true hl, h]
    simp
  · rw [decide_eq_false h]
    have : (a.take b.length == b) = false := by simpa using h
    rw [this, Bool.and_false]
/-! ### list(x), x a text or a row -/
def rListU (K : PySem.W.Frag) : List V → Hp → VK → Prop := fun xs H Q => ∃ ss : List Nat, ((xs = [tx ss] ∧ ss.length ≤ sizeLine) ∨ ∃ p, xs = [.ref p] ∧ H p = some (.lst (ss.map sg))) ∧ ∀ l, H l = none → Q (.ref l) (upd H l (.lst (ss.map sg)))
theorem cListU (K : PySem.W.Frag) {X : Cx} (hc : X.calm = true := by rfl) (hK : X.K = K := by rfl) : CallR X (.type "list") (rListU K) := by
  intro pins s σ H xs us Q I r h
  obtain ⟨ss, h, q⟩ := h
  rcases h with ⟨rfl, hl⟩ | ⟨p, rfl, hp⟩
  · refine call_list_txt hc pins s σ H _ us Q I r ⟨⟨ss.toArray⟩, rfl, by show ss.toArray.size ≤ sizeLine; rw [List.size_toArray]; exact hl, fun l nl => ?_⟩
    rw [show (⟨ss.toArray⟩ : Str).cps.toList = ss by simp]
    exact q l nl
  · exact cListSq K hK pins s σ H _ us Q I r ⟨p, _, rfl, .inl (.inl (.inl hp)), q⟩
/-! ### a need and a list: two ways to look -/
def snM (one es rc : List Nat) : Bool := decide ((one.take es.length).Perm es) && decide ((one.drop es.length).take rc.length = rc)
def lsM (one es rc : List Nat) : Bool := if one.length < es.length ∨ ((one.take es.length).filter fun c => !decide (c ∈ es)) ≠ [] then false else decide ((one.drop es.length).take rc.length = rc)
theorem need_same {one es rc : List Nat} (hn : one.Nodup) (he : es.Nodup) : snM one es rc = lsM one es rc := by
  unfold snM lsM
  by_cases h : one.length < es.length ∨ ((one.take es.length).filter fun c => !decide (c ∈ es)) ≠ []
  · rw [if_pos h, decide_eq_false (fun hp => ?_), Bool.false_and]
    rcases h with z | z
    · have := hp.length_eq
      rw [List.length_take] at this
      omega
    · exact z (List.filter_eq_nil_iff.mpr fun c hc => by simp [hp.mem_iff.mp hc])
  · rw [if_neg h]
    have h1 : es.length ≤ one.length := Nat.le_of_not_lt fun z => h (.inl z)
    have h2 : ∀ c ∈ one.take es.length, c ∈ es := fun c hc => by
      have z : ((one.take es.length).filter fun c => !decide (c ∈ es)) = [] := Decidable.byContradiction fun z => h (.inr z)
      have := List.filter_eq_nil_iff.mp z c hc
      simpa using this
    have hnt : (one.take es.length).Nodup := hn.sublist (List.take_sublist _ _)
    have hp : (one.take es.length).Perm es := by
      have hl : (one.take es.length).length = es.length := by
        rw [List.length_take]
        omega
      refine (List.perm_ext_iff_of_nodup hnt he).mpr fun c => ⟨h2 c, fun hc => ?_⟩
      refine Decidable.byContradiction fun hnot => ?_
      have h3 := nodup_sub_len (l := c :: one.take es.length) (m := es) (List.nodup_cons.mpr ⟨hnot, hnt⟩) (fun d hd => by
        rcases List.mem_cons.mp hd with z | z
        · rw [z]
          exact hc
        · exact h2 d z)
      rw [List.length_cons, hl] at h3
      omega
    rw [decide_eq_true hp, Bool.true_and]
end My

set_option Elab.async false
set_option linter.all false
set_option maxRecDepth 100000
set_option maxHeartbeats 1000000
namespace My
open PySem PySem.Spec PyProof.Rows L2
def topS (i : Nat) : Stmt := PySem.Challenge.pw_stretchkeep_k34_needs_served.main.body.getD i (.Pass ⟨0, 0, 0, 0⟩)
abbrev s_serves_need : Stmt := topS 1
theorem sc_serves_need : FnScope ["one", "need", "equals", "reach", "many"] ["one", "need"] (defScope s_serves_need) := ⟨rfl, rfl, rfl, by decide +kernel, rfl, by decide +kernel, by decide +kernel⟩
abbrev s_l_bag : Stmt := topS 3
theorem sc_l_bag : FnScope ["script"] ["script"] (defScope s_l_bag) := ⟨rfl, rfl, rfl, by decide +kernel, rfl, by decide +kernel, by decide +kernel⟩
abbrev s_l_lot : Stmt := topS 4
theorem sc_l_lot : FnScope ["bag", "many", "at", "cell", "one", "two", "three", "found"] ["bag", "many"] (defScope s_l_lot) := ⟨rfl, rfl, rfl, by decide +kernel, rfl, by decide +kernel, by decide +kernel⟩
abbrev s_l_columns : Stmt := topS 5
theorem sc_l_columns : FnScope ["bag", "most", "left", "found", "k"] ["bag", "most"] (defScope s_l_columns) := ⟨rfl, rfl, rfl, by decide +kernel, rfl, by decide +kernel, by decide +kernel⟩
abbrev s_l_need : Stmt := topS 6
theorem sc_l_need : FnScope ["bag", "columns", "some", "others", "reach", "letter"] ["bag", "columns"] (defScope s_l_need) := ⟨rfl, rfl, rfl, by decide +kernel, rfl, by decide +kernel, by decide +kernel⟩
abbrev s_l_serves : Stmt := topS 7
theorem sc_l_serves : FnScope ["one", "need", "size", "letter"] ["one", "need"] (defScope s_l_serves) := ⟨rfl, rfl, rfl, by decide +kernel, rfl, by decide +kernel, by decide +kernel⟩
abbrev s_l_shuffled : Stmt := topS 8
theorem sc_l_shuffled : FnScope ["bag", "some", "left", "found"] ["bag", "some"] (defScope s_l_shuffled) := ⟨rfl, rfl, rfl, by decide +kernel, rfl, by decide +kernel, by decide +kernel⟩
abbrev s_l_list : Stmt := topS 9
theorem sc_l_list : FnScope ["bag", "columns", "need", "one", "way", "at", "letter"] ["bag", "columns", "need"] (defScope s_l_list) := ⟨rfl, rfl, rfl, by decide +kernel, rfl, by decide +kernel, by decide +kernel⟩
abbrev s_law : Stmt := topS 10
theorem sc_law : FnScope ["script", "bag", "turn", "columns", "k", "need", "one", "found"] ["script"] (defScope s_law) := ⟨rfl, rfl, rfl, by decide +kernel, rfl, by decide +kernel, by decide +kernel⟩
structure Ad where
  f_serves_need : Addr
  d_serves_need : FuncData
  f_l_bag : Addr
  d_l_bag : FuncData
  f_l_lot : Addr
  d_l_lot : FuncData
  f_l_columns : Addr
  d_l_columns : FuncData
  f_l_need : Addr
  d_l_need : FuncData
  f_l_serves : Addr
  d_l_serves : FuncData
  f_l_shuffled : Addr
  d_l_shuffled : FuncData
  f_l_list : Addr
  d_l_list : FuncData
  f_law : Addr
  d_law : FuncData
structure Tx (K : PySem.W.Frag) (mg : Str → Option Value) (Z : Ad) : Prop where
  F_serves_need : Fun K "serves_need" "serves_need" s_serves_need Z.f_serves_need Z.d_serves_need
  b_serves_need : Binds K Z.d_serves_need ["one", "need"] []
  g_serves_need : mg "serves_need" = some (.ref Z.f_serves_need)
  F_l_bag : Fun K "_law_bag" "_law_bag" s_l_bag Z.f_l_bag Z.d_l_bag
  b_l_bag : Binds K Z.d_l_bag ["script"] []
  g_l_bag : mg "_law_bag" = some (.ref Z.f_l_bag)
  F_l_lot : Fun K "_law_lot" "_law_lot" s_l_lot Z.f_l_lot Z.d_l_lot
  b_l_lot : Binds K Z.d_l_lot ["bag", "many"] []
  g_l_lot : mg "_law_lot" = some (.ref Z.f_l_lot)
  F_l_columns : Fun K "_law_columns" "_law_columns" s_l_columns Z.f_l_columns Z.d_l_columns
  b_l_columns : Binds K Z.d_l_columns ["bag", "most"] []
  g_l_columns : mg "_law_columns" = some (.ref Z.f_l_columns)
  F_l_need : Fun K "_law_need" "_law_need" s_l_need Z.f_l_need Z.d_l_need
  b_l_need : Binds K Z.d_l_need ["bag", "columns"] []
  g_l_need : mg "_law_need" = some (.ref Z.f_l_need)
  F_l_serves : Fun K "_law_serves" "_law_serves" s_l_serves Z.f_l_serves Z.d_l_serves
  b_l_serves : Binds K Z.d_l_serves ["one", "need"] []
  g_l_serves : mg "_law_serves" = some (.ref Z.f_l_serves)
  F_l_shuffled : Fun K "_law_shuffled" "_law_shuffled" s_l_shuffled Z.f_l_shuffled Z.d_l_shuffled
  b_l_shuffled : Binds K Z.d_l_shuffled ["bag", "some"] []
  g_l_shuffled : mg "_law_shuffled" = some (.ref Z.f_l_shuffled)
  F_l_list : Fun K "_law_list" "_law_list" s_l_list Z.f_l_list Z.d_l_list
  b_l_list : Binds K Z.d_l_list ["bag", "columns", "need"] []
  g_l_list : mg "_law_list" = some (.ref Z.f_l_list)
  F_law : Fun K "law" "law" s_law Z.f_law Z.d_law
  b_law : Binds K Z.d_law ["script"] []
  g_law : mg "law" = some (.ref Z.f_law)
  m_len : mg "len" = none
  m_range : mg "range" = none
  m_list : mg "list" = none
  m_sorted : mg "sorted" = none
  m_tuple : mg "tuple" = none
  m_isinstance : mg "isinstance" = none
  m_bool : mg "bool" = none
  m_int : mg "int" = none
section
variable {P : Program} {w : World} {K : PySem.W.Frag} {mg : Str → Option Value} {base : Heap} {Z : Ad}
/-! ### a bag of numbers -/
def Bag (b bl : Addr) (H : Hp) : Prop := ∃ (ns : List Int) (k : Nat) (n : Int), b ≠ bl ∧ H b = some (.lst [.ref bl, .int k, .int n]) ∧ H bl = some (.lst (ns.map V.int))
theorem Bag.same {b bl : Addr} {H H' : Hp} (h : Bag b bl H) (s : Same H H') : Bag b bl H' := by
  obtain ⟨ns, k, n, e, h1, h2⟩ := h
  exact ⟨ns, k, n, e, s _ _ h1, s _ _ h2⟩
theorem Bag.upd {b bl p : Addr} {H : Hp} {o : HO} (h : Bag b bl H) (h1 : p ≠ b) (h2 : p ≠ bl) : Bag b bl (L2.upd H p o) := by
  obtain ⟨ns, k, n, e, g1, g2⟩ := h
  exact ⟨ns, k, n, e, keep_ne g1 (fun z => h1 z.symm), keep_ne g2 (fun z => h2 z.symm)⟩
theorem Bag.new {b bl p : Addr} {H : Hp} {o : HO} (h : Bag b bl H) (n : H p = none) : Bag b bl (L2.upd H p o) := h.same (Same.new (Same.refl H) n)
theorem Bag.ne {b bl p : Addr} {H : Hp} (h : Bag b bl H) (n : H p = none) : p ≠ b ∧ p ≠ bl := by
  obtain ⟨ns, k, m, e, g1, g2⟩ := h
  exact ⟨(ne_of_none g1 n).symm, (ne_of_none g2 n).symm⟩
theorem Kp.kTb {b bl : Addr} {H H' : Hp} (k : Kp b H H') (h : Bag b bl H) : KT H H' := by
  obtain ⟨ns, m, n, e, g1, g2⟩ := h
  exact k.kT g1
def spBag (K : PySem.W.Frag) : Sp := fun vs H Q _ => ∃ (a : Addr) (ns : List Int), vs = [.ref a] ∧ SqL K H a (ns.map V.int) ∧ ns.length ≤ 63 ∧ ∀ (b bl : Addr) (H' : Hp), Same H H' → H b = none → H bl = none → Bag b bl H' → Q (.ref b) H'
theorem ok_bag (T : Tx K mg Z) : FnOk P w K mg base CX0 1 Z.f_l_bag Z.d_l_bag ["script"] (spBag K) := by
  refine T.F_l_bag.ok sc_l_bag (fun vs H Q E h => ?_) (fun cdv A outer s H vs Q E hr h => ?_)
  · obtain ⟨a, ns, rfl, _⟩ := h
    rfl
  · obtain ⟨a, ns, rfl, hS, hl, q⟩ := h
    refine ⟨_, (pss_one (ps_ret (pe_lst (pa_cons (pe_callTy (cListSq K) (by rfl) T.m_list (by decide +kernel) (pa_cons (pe_slice (slLK K) (pv 0) po_none (po_some pe_int)) pa_nil)) (pa_cons pe_int (pa_cons pe_int pa_nil)))))), ?_⟩
    refine ⟨.ref a, rfl, _, rfl, a, _, rfl, hS, fun p np => ?_⟩
    have ecut : cutV (ns.map V.int) none (some (63 : Int)) = ns.map V.int := by
      unfold cutV
      rw [HT.sIx_none, show (63 : Int) = ((63 : Nat) : Int) from rfl, HT.sIx_nat, List.drop_zero, List.take_of_length_le (by rw [List.length_map]; omega)]
    rw [ecut]
    refine ⟨p, _, rfl, .inl (.inl (.inl upd_same)), fun l nl => ?_⟩
    refine ⟨(by show 3 ≤ sizeLine; decide), fun b nb => ?_⟩
    have s1 : Same H (upd H p (.lst (ns.map V.int))) := Same.new (Same.refl H) np
    have s2 : Same H (upd (upd H p (.lst (ns.map V.int))) l (.lst (ns.map V.int))) := Same.new s1 nl
    exact q b l _ (Same.new s2 nb) (Same.free s2 nb) (Same.free s1 nl) ⟨ns, (0 : Nat), (0 : Int), (fun e => by rw [e, upd_same] at nb; cases nb), upd_same, keep_new upd_same nb⟩
/-! ### _law_lot -/
def spLot (K : PySem.W.Frag) : Sp := fun vs H Q _ => ∃ (b bl : Addr) (m : Int), vs = [.ref b, .int m] ∧ Bag b bl H ∧ 0 < m ∧ m < 1073741824 ∧ ∀ (d : Int) (H' : Hp), Kp b H H' → Bag b bl H' → 0 ≤ d → d < m → Q (.int d) H'
set_option maxHeartbeats 4000000 in
theorem ok_lot (T : Tx K mg Z) : FnOk P w K mg base CX0 1 Z.f_l_lot Z.d_l_lot ["bag", "many"] (spLot K) := by
  refine T.F_l_lot.ok sc_l_lot (fun vs H Q E h => ?_) (fun cdv A outer s H vs Q E hr h => ?_)
  · obtain ⟨b, bl, m, rfl, _⟩ := h
    rfl
  · obtain ⟨b, bl, m, rfl, hB, h0, h1, q⟩ := h
    obtain ⟨ns, k, n, hne, hb, hbl⟩ := hB
    refine ⟨_, (pss_mid (ps_if (pt_cmpR op_eq (pe_ix (ixL K) (pv 0) pe_int (fun _ _ => rfl)) pe_int (nomark _)) (pss_cons (ps_set (i := 2) sc_l_lot.nd rfl (.inl rfl) (pe_ix (ixL K) (pv 0) pe_int (fun _ _ => rfl)))
      (pss_cons (ps_asg (pe_op op_add (pv 2) pe_int) (pg_sub (pv 0) pe_int set_list))
      (pss_cons (ps_set (i := 3) sc_l_lot.nd rfl (.inl rfl) pe_int)
      (pss_mid (ps_if (pt_cmpR op_lt (pv 2) (pe_callB (cLenSq K) (by rfl) T.m_len (by decide +kernel) (pa_cons (pe_ix (ixL K) (pv 0) pe_int (fun _ _ => rfl)) pa_nil)) (nomark _)) (pss_one (ps_set (i := 3) sc_l_lot.nd rfl (.inl rfl) (pe_ix (ixL K) (pe_ix (ixL K) (pv 0) pe_int (fun _ _ => rfl)) (pv 2) (fun _ _ => rfl)))) (pss_one (ps_if (pt_cmpR op_gt (pe_callB (cLenSq K) (by rfl) T.m_len (by decide +kernel) (pa_cons (pe_ix (ixL K) (pv 0) pe_int (fun _ _ => rfl)) pa_nil)) pe_int (nomark _)) (pss_one (ps_set (i := 3) sc_l_lot.nd rfl (.inl rfl) (pe_op op_add (pe_op op_mod (pe_ix (ixL K) (pe_ix (ixL K) (pv 0) pe_int (fun _ _ => rfl)) (pe_op op_mod (pe_op op_mul (pv 2) pe_int) (pe_callB (cLenSq K) (by rfl) T.m_len (by decide +kernel) (pa_cons (pe_ix (ixL K) (pv 0) pe_int (fun _ _ => rfl)) pa_nil))) (fun _ _ => rfl)) pe_int) (pe_op op_mul pe_int (pv 2))))) pss_nil)))
      (pss_cons (ps_set (i := 4) sc_l_lot.nd rfl (.inl rfl) (pe_op op_mod (pe_op op_mul (pe_op op_add (pe_op op_add (pe_op op_mod (pv 3) pe_int) (pe_op op_mul pe_int (pv 2))) pe_int) pe_int) pe_int))
      (pss_cons (ps_set (i := 5) sc_l_lot.nd rfl (.inl rfl) (pe_op op_mod (pe_op op_add (pe_op op_add (pe_op op_mul (pv 4) (pv 4)) (pe_op op_mul pe_int (pv 2))) pe_int) pe_int))
      (pss_cons (ps_set (i := 6) sc_l_lot.nd rfl (.inl rfl) (pe_op op_mod (pe_op op_add (pe_op op_add (pe_op op_mul (pv 5) (pv 5)) (pe_op op_mul pe_int (pv 4))) pe_int) pe_int))
      (pss_cons (ps_asg (pe_op op_add (pe_op op_fdivW (pe_op op_add (pe_op op_mul (pv 5) pe_int) (pv 6)) pe_int) pe_int) (pg_sub (pv 0) pe_int set_list))
      (pss_one (ps_if (pt_cmpR op_ge (pv 3) (pe_op op_pow pe_int pe_int) (nomark _)) (pss_one (ps_asg (pe_op op_fdivW (pv 3) (pe_op op_pow pe_int pe_int)) (pg_sub (pv 0) pe_int set_list))) pss_nil)))))))))) pss_nil)
      (pss_cons (ps_set (i := 7) sc_l_lot.nd rfl (.inl rfl) (pe_op op_mod (pe_ix (ixL K) (pv 0) pe_int (fun _ _ => rfl)) (pv 1)))
      (pss_cons (ps_asg (pe_op op_fdivW (pe_ix (ixL K) (pv 0) pe_int (fun _ _ => rfl)) (pv 1)) (pg_sub (pv 0) pe_int set_list))
      (pss_one (ps_ret (pv 7)))))), ?_⟩
    refine ⟨fun σ H' => ∃ (y2 y3 y4 y5 y6 : Option V) (k2 : Nat) (n2 : Int), σ = [some (.ref b), some (.int m), y2, y3, y4, y5, y6, none] ∧ Kp b H H' ∧ H' b = some (.lst [.ref bl, .int k2, .int n2]) ∧ H' bl = some (.lst (ns.map V.int)), ?_, fun σ H1 hM => ?_⟩
    · refine ⟨.ref b, rfl, b, _, 2, .int n, rfl, rfl, .inl (.inl hb), rfl, rfl, _, rfl, ite2 (fun e => ?_) (fun e => ?_)⟩
      · refine ⟨.ref b, rfl, b, _, 1, .int k, rfl, rfl, .inl (.inl hb), rfl, ?_⟩
        refine ⟨.int k, rfl, _, 1, rfl, rfl, .ref b, rfl, b, _, 1, 1, rfl, rfl, hb, rfl, ?_⟩
        have hb2 : (upd H b (.lst ([V.ref bl, .int k, .int n].set 1 (.int ((k : Int) + 1))))) b = some (.lst [.ref bl, .int ((k + 1 : Nat) : Int), .int n]) := by
          rw [upd_same]
          rfl
        have hbl2 : (upd H b (.lst ([V.ref bl, .int k, .int n].set 1 (.int ((k : Int) + 1))))) bl = some (.lst (ns.map V.int)) := keep_ne hbl (fun z => hne z.symm)
        have kp2 : Kp b H (upd H b (.lst ([V.ref bl, .int k, .int n].set 1 (.int ((k : Int) + 1))))) := fun c o hc hh => keep_ne hh hc
        refine ⟨fun σ H' => ∃ c : Int, σ = [some (.ref b), some (.int m), some (.int k), some (.int c), none, none, none, none] ∧ Kp b H H' ∧ H' b = some (.lst [.ref bl, .int ((k + 1 : Nat) : Int), .int n]) ∧ H' bl = some (.lst (ns.map V.int)), ?_, fun σ H2 hM => ?_⟩
        · refine ⟨.int k, rfl, .ref b, rfl, b, _, 0, .ref bl, rfl, rfl, .inl (.inl hb2), rfl, bl, _, rfl, .inl (.inl (.inl hbl2)), _, _, rfl, rfl, _, rfl, ite2 (fun e2 => ?_) (fun e2 => ?_)⟩
          · have e3 : (k : Int) < ((ns.map V.int).length : Nat) := of_decide_eq_true e2
            have e4 : k < ns.length := by
              rw [List.length_map] at e3
              omega
            refine ⟨.ref b, rfl, b, _, 0, .ref bl, rfl, rfl, .inl (.inl hb2), rfl, .int k, rfl, bl, _, _, .int ns[k], rfl, rfl, .inl (.inl hbl2), atI_nat (by rw [List.getElem?_map, List.getElem?_eq_getElem e4]; rfl), ?_⟩
            exact ⟨_, rfl, kp2, hb2, hbl2⟩
          · refine ⟨.ref b, rfl, b, _, 0, .ref bl, rfl, rfl, .inl (.inl hb2), rfl, bl, _, rfl, .inl (.inl (.inl hbl2)), _, _, rfl, rfl, _, rfl, ite2 (fun e3 => ?_) (fun e3 => ?_)⟩
            · have e4 : (0 : Int) < ((ns.map V.int).length : Nat) := of_decide_eq_true e3
              have hl0 : 0 < ns.length := by
                rw [List.length_map] at e4
                omega
              refine ⟨.ref b, rfl, b, _, 0, .ref bl, rfl, rfl, .inl (.inl hb2), rfl, .int k, rfl, _, 5, rfl, rfl, .inr ⟨by decide, by decide⟩, .ref b, rfl, b, _, 0, .ref bl, rfl, rfl, .inl (.inl hb2), rfl, bl, _, rfl, .inl (.inl (.inl hbl2)), _, _, rfl, rfl, e4, ?_⟩
              rw [List.length_map]
              have g0 : 0 ≤ ((k : Int) * 5) % (ns.length : Int) := Int.emod_nonneg _ (by omega)
              have g1 : ((k : Int) * 5) % (ns.length : Int) < (ns.length : Int) := Int.emod_lt_of_pos _ (by omega)
              have hj : (((k : Int) * 5) % (ns.length : Int)).toNat < ns.length := by omega
              refine ⟨bl, _, _, .int ns[(((k : Int) * 5) % (ns.length : Int)).toNat], rfl, rfl, .inl (.inl hbl2), L2.at_of (j := (((k : Int) * 5) % (ns.length : Int)).toNat) (by omega) (by rw [List.getElem?_map, List.getElem?_eq_getElem hj]; rfl), _, 1000003, rfl, rfl, (by show (0 : Int) < 1000003; decide), .int k, rfl, 97, _, rfl, rfl, .inl ⟨by decide, by decide⟩, _, _, rfl, rfl, ?_⟩
              exact ⟨_, rfl, kp2, hb2, hbl2⟩
            · exact ⟨_, rfl, kp2, hb2, hbl2⟩
        · obtain ⟨c, rfl, kp3, hb3, hbl3⟩ := hM
          have em : ∀ (x : Int) (d : Int), 0 < d → 0 ≤ x % d ∧ x % d < d := fun x d hd => ⟨Int.emod_nonneg _ (by omega), Int.emod_lt_of_pos _ hd⟩
          have b64 : ∀ x : Int, 0 ≤ x → x < 2147483647 → -(2 ^ 64) < x ∧ x < 2 ^ 64 := fun x h0 h1 => ⟨by omega, by omega⟩
          refine ⟨.int c, rfl, c, 2147483629, rfl, rfl, (by show (0 : Int) < 2147483629; decide), .int k, rfl, 83, _, rfl, rfl, .inl ⟨by decide, by decide⟩, _, _, rfl, rfl, _, 5, rfl, rfl, _, 48271, rfl, rfl, .inr ⟨by decide, by decide⟩, _, 998244353, rfl, rfl, (by show (0 : Int) < 998244353; decide), ?_⟩
          refine ⟨_, rfl, _, rfl, _, _, rfl, rfl, .inl (b64 _ (em _ 998244353 (by decide)).1 (Int.lt_trans (em _ 998244353 (by decide)).2 (by decide))), .int k, rfl, 69621, _, rfl, rfl, .inl ⟨by decide, by decide⟩, _, _, rfl, rfl, _, 17, rfl, rfl, _, 2147483647, rfl, rfl, (by show (0 : Int) < 2147483647; decide), ?_⟩
          refine ⟨_, rfl, _, rfl, _, _, rfl, rfl, .inl (b64 _ (em _ 2147483647 (by decide)).1 (em _ 2147483647 (by decide)).2), _, rfl, 3, _, rfl, rfl, .inl ⟨by decide, by decide⟩, _, _, rfl, rfl, _, 1, rfl, rfl, _, 1000000007, rfl, rfl, (by show (0 : Int) < 1000000007; decide), ?_⟩
          refine ⟨_, rfl, _, 1000000007, rfl, rfl, .inr ⟨by decide, by decide⟩, _, rfl, _, _, rfl, rfl, _, 4, rfl, rfl, wide_div (b := 4) (by decide) (by decide) (by decide) (by decide), _, 1, rfl, rfl, .ref b, rfl, b, _, 2, 2, rfl, rfl, hb3, rfl, ?_⟩
          refine ⟨.int c, rfl, 10, 18, rfl, rfl, ⟨by decide, by decide, by decide⟩, _, _, rfl, rfl, _, rfl, ite2 (fun e6 => ?_) (fun e6 => ?_)⟩
          · refine ⟨.int c, rfl, 10, 18, rfl, rfl, ⟨by decide, by decide, by decide⟩, _, _, rfl, rfl, wide_div (b := 60) (by decide) (by decide) (by decide) (by decide), .ref b, rfl, b, _, 2, 2, rfl, rfl, upd_same, rfl, ?_⟩
            exact ⟨_, _, _, _, _, k + 1, _, rfl, fun c o hc hh => keep_ne (keep_ne (kp3 c o hc hh) hc) hc, upd_same, keep_ne (keep_ne hbl3 (fun z => hne z.symm)) (fun z => hne z.symm)⟩
          · exact ⟨_, _, _, _, _, k + 1, _, rfl, fun c o hc hh => keep_ne (kp3 c o hc hh) hc, upd_same, keep_ne hbl3 (fun z => hne z.symm)⟩
      · exact ⟨_, _, _, _, _, k, n, rfl, Kp.rfl', hb, hbl⟩
    · obtain ⟨y2, y3, y4, y5, y6, k2, n2, rfl, kp1, hb1, hbl1⟩ := hM
      refine ⟨.ref b, rfl, b, _, 2, .int n2, rfl, rfl, .inl (.inl hb1), rfl, .int m, rfl, n2, m, rfl, rfl, h0, ?_⟩
      refine ⟨.ref b, rfl, b, _, 2, .int n2, rfl, rfl, .inl (.inl hb1), rfl, .int m, rfl, n2, m, rfl, rfl, wide_div (b := 30) h0 (by omega) (by decide) (by decide), ?_⟩
      refine ⟨.ref b, rfl, b, _, 2, 2, rfl, rfl, hb1, rfl, _, rfl, ?_⟩
      refine q _ _ ?_ ⟨ns, k2, n2 / m, hne, upd_same, keep_ne hbl1 (fun z => hne z.symm)⟩ (Int.emod_nonneg _ (by omega)) (Int.emod_lt_of_pos _ h0)
      exact fun c o hc hh => keep_ne (kp1 c o hc hh) hc

/-! ### _law_columns -/
def alpha : List Nat := [97, 98, 99, 100, 101, 102, 103, 104, 105, 106, 107, 108, 109, 110, 111, 112, 113, 114, 115, 116, 117, 118, 119, 120, 121, 122]
def spColumns (K : PySem.W.Frag) : Sp := fun vs H Q _ => ∃ (b bl : Addr) (m : Nat), vs = [.ref b, .int m] ∧ Bag b bl H ∧ 1 ≤ m ∧ m ≤ 26 ∧ ∀ (l : List Nat) (H' : Hp), Kp b H H' → Bag b bl H' → Cols l → 1 ≤ l.length → l.length ≤ m → Q (tx l) H'
theorem ok_columns (T : Tx K mg Z) : FnOk P w K mg base CX0 2 Z.f_l_columns Z.d_l_columns ["bag", "most"] (spColumns K) := by
  have G_l_lot : FnOk P w K mg base CX0 1 Z.f_l_lot Z.d_l_lot ["bag", "many"] (spLot K) := ok_lot T
  refine T.F_l_columns.ok sc_l_columns (fun vs H Q E h => ?_) (fun cdv A outer s H vs Q E hr h => ?_)
  · obtain ⟨b, bl, m, rfl, _⟩ := h
    rfl
  · obtain ⟨b, bl, m, rfl, hB, hm1, hm, q⟩ := h
    refine ⟨_, (pss_cons (ps_set (i := 2) sc_l_columns.nd rfl (.inl rfl) (pe_callTy call_list_txt (by rfl) T.m_list (by decide +kernel) (pa_cons pe_str pa_nil)))
      (pss_cons (ps_set (i := 3) sc_l_columns.nd rfl (.inl rfl) (pe_lst pa_nil))
      (pss_cons (ps_for PassesOwn.never rfl (pi_range1 (by rfl) T.m_range (pa_cons (pe_op op_add pe_int (pe_call G_l_lot (hr.mono (by omega)) (by rfl) T.g_l_lot T.F_l_lot.kp T.b_l_lot .nil pass0 (pa_cons (pv 0) (pa_cons (pv 1) pa_nil)))) pa_nil)) (pg_name (i := 4) sc_l_columns.nd rfl (.inl rfl)) (pss_one (ps_expr (bmK K PySem.F.plainAttrs_list PySem.F.slot_list_append PySem.F.type_list_append mt_append (pv 3) (pa_cons (bmK K PySem.F.plainAttrs_list PySem.F.slot_list_pop PySem.F.type_list_pop mt_popAt (pv 2) (pa_cons (pe_call G_l_lot (hr.mono (by omega)) (by rfl) T.g_l_lot T.F_l_lot.kp T.b_l_lot .nil pass0 (pa_cons (pv 0) (pa_cons (pe_callB (cLenSq K) (by rfl) T.m_len (by decide +kernel) (pa_cons (pv 2) pa_nil)) pa_nil))) pa_nil)) pa_nil)))))
      (pss_one (ps_ret (pe_join pe_str (pe_callB cr_sortedS (by rfl) T.m_sorted (by decide +kernel) (pa_cons (pv 3) pa_nil)))))))), ?_⟩
    have ea : (Str.ofString "abcdefghijklmnopqrstuvwxyz").cps.toList = alpha := by decide +kernel
    refine ⟨_, rfl, (by decide +kernel), fun L nL => ?_⟩
    rw [ea]
    refine ⟨Nat.zero_le _, fun F nF => ?_⟩
    have nFL : F ≠ L := fun e => by
      rw [e, upd_same] at nF
      cases nF
    have nF0 : H F = none := by
      rw [upd_ne nFL] at nF
      exact nF
    have nLb := hB.ne nL
    have nFb := hB.ne nF0
    have hB2 := (hB.new nL (o := .lst (alpha.map sg))).new nF (o := .lst [])
    have hL2 : (upd (upd H L (.lst (alpha.map sg))) F (.lst [])) L = some (.lst (alpha.map sg)) := keep_new upd_same nF
    have hF2 : (upd (upd H L (.lst (alpha.map sg))) F (.lst [])) F = some (.lst []) := upd_same
    have kp2 : Kp b H (upd (upd H L (.lst (alpha.map sg))) F (.lst [])) := (Kp.new Kp.rfl' nL).new nF
    generalize upd (upd H L (.lst (alpha.map sg))) F (.lst []) = H2 at hB2 hL2 hF2 kp2 ⊢
    refine ⟨.ref b, rfl, .int m, rfl, b, bl, m, rfl, hB2, by omega, by omega, fun g H3 kp3 hB3 g0 g1 => ?_⟩
    have hL3 := kp3 _ _ nLb.1 hL2
    have hF3 := kp3 _ _ nFb.1 hF2
    refine ⟨1, _, rfl, rfl, _, rfl, by omega, by omega, for_range (fun i σ H' => ∃ (ll ff : List Nat) (y : Option V), σ = [some (.ref b), some (.int m), some (.ref L), some (.ref F), y] ∧ Kp b H H' ∧ Bag b bl H' ∧ H' L = some (.lst (ll.map sg)) ∧ H' F = some (.lst (ff.map sg)) ∧ (ll ++ ff).Perm alpha ∧ ff.length = i)
      ⟨alpha, [], none, rfl, kp2.trans kp3, hB3, hL3, hF3, by rw [List.append_nil], rfl⟩ (fun i σ H' hi hP => ?_) (fun σ H' hP => ?_)⟩
    · obtain ⟨ll, ff, y, rfl, kp, hB1, hL, hF, hp, hl⟩ := hP
      have hlen : ll.length + ff.length = 26 := by
        have := hp.length_eq
        rw [List.length_append] at this
        exact this
      have hll : 0 < ll.length := by omega
      refine ⟨.ref F, rfl, .inl ⟨rfl, _, .inl (.inl hF)⟩, .ref L, rfl, .inl ⟨rfl, _, .inl (.inl hL)⟩, .ref b, rfl, .ref L, rfl, L, _, rfl, .inl (.inl (.inl hL)), b, bl, _, rfl, hB1, ?_, ?_, fun d H4 kp4 hB4 d0 d1 => ?_⟩
      · rw [List.length_map]
        omega
      · rw [List.length_map]
        omega
      · rw [List.length_map] at d1
        have hd : d.toNat < ll.length := by omega
        have hL4 : H4 L = some (.lst (ll.map sg)) := kp4 _ _ nLb.1 hL
        have hF4 : (upd H4 L (.lst ((ll.map sg).eraseIdx d.toNat))) F = some (.lst (ff.map sg)) := keep_ne (kp4 _ _ nFb.1 hF) nFL
        have hy : ll[d.toNat]? = some ll[d.toNat] := List.getElem?_eq_getElem hd
        refine ⟨L, _, d, d.toNat, sg ll[d.toNat], rfl, rfl, hL4, by omega, by omega, PySem.seqIndex_of d0 (by rw [List.length_map]; exact d1), ?_, F, _, _, rfl, rfl, hF4, ?_, ?_⟩
        · rw [List.getElem?_map, hy]
          rfl
        · rw [List.length_map]
          exact small1000 (by omega)
        · refine ⟨ll.eraseIdx d.toNat, ff ++ [ll[d.toNat]], _, rfl, ?_, ?_, ?_, ?_, (popped hy ff).trans hp, by rw [List.length_append, hl]; rfl⟩
          · exact ((kp.trans kp4).mut nL).mut nF0
          · exact (hB4.upd nLb.1 nLb.2).upd nFb.1 nFb.2
          · rw [upd_ne nFL.symm, upd_same, erase_map]
          · rw [upd_same, List.map_append]
            rfl
    · obtain ⟨ll, ff, y, rfl, kp, hB1, hL, hF, hp, hl⟩ := hP
      have hm2 : 1 ≤ ff.length ∧ ff.length ≤ m := by
        rw [hl]
        omega
      refine ⟨⟨_, rfl⟩, .ref F, rfl, F, ff.map sS, rfl, .inl (.inl (by rw [← map_sg]; exact hF)), by rw [List.length_map]; omega, fun ys p hys hso np => ?_⟩
      obtain ⟨l, rfl, pl⟩ := perm_signs hys
      have ndA : (ll ++ ff).Nodup := hp.nodup_iff.mpr (by decide)
      have ndf : ff.Nodup := (List.nodup_append.mp ndA).2.1
      have ndl : l.Nodup := pl.nodup_iff.mpr ndf
      refine ⟨_, p, _, rfl, rfl, .inl (.inl (.inl upd_same)), ?_, ?_⟩
      · rw [show (Str.ofString "").length = 0 by decide +kernel, Nat.mul_zero, Nat.add_zero, signs_len, pl.length_eq]
        exact Nat.le_of_lt (small1000 (by omega))
      · rw [join_signs]
        refine q l _ (kp.new np) (hB1.new np) ⟨strict_of (sorted_signs l hso) ndl, fun c hc => ?_⟩ (by rw [pl.length_eq]; exact hm2.1) (by rw [pl.length_eq]; exact hm2.2)
        have hc2 : c ∈ alpha := hp.mem_iff.mp (List.mem_append_right _ (pl.mem_iff.mp hc))
        have : ∀ c ∈ alpha, 97 ≤ c ∧ c ≤ 122 := by decide
        exact this c hc2
/-! ### _law_need -/
structure NOk (cols es rc : List Nat) : Prop where
  up : es.Pairwise (· < ·)
  sub : ∀ c ∈ es, c ∈ cols
  one : rc.length ≤ 1
  rsub : ∀ c ∈ rc, c ∈ cols ∧ c ∉ es
  some : es ≠ [] ∨ rc ≠ []
def needD (es rc : List Nat) : PyData := .tuple [.str (txS es), .str (txS rc)]
def spNeed (K : PySem.W.Frag) : Sp := fun vs H Q _ => ∃ (b bl : Addr) (cols : List Nat), vs = [.ref b, tx cols] ∧ Bag b bl H ∧ Cols cols ∧ 1 ≤ cols.length ∧ cols.length ≤ 26 ∧ ∀ (es rc : List Nat) (v : Addr) (H' : Hp), Kp b H H' → Bag b bl H' → H v = none → H' v = some (.tup [tx es, tx rc]) → NOk cols es rc → Q (.ref v) H'
theorem ok_need (T : Tx K mg Z) : FnOk P w K mg base CX0 2 Z.f_l_need Z.d_l_need ["bag", "columns"] (spNeed K) := by
  have G_l_lot : FnOk P w K mg base CX0 1 Z.f_l_lot Z.d_l_lot ["bag", "many"] (spLot K) := ok_lot T
  refine T.F_l_need.ok sc_l_need (fun vs H Q E h => ?_) (fun cdv A outer s H vs Q E hr h => ?_)
  · obtain ⟨b, bl, cols, rfl, _⟩ := h
    rfl
  · obtain ⟨b, bl, cols, rfl, hB, hc, hc1, hc2, q⟩ := h
    refine ⟨_, (pss_cons (ps_set (i := 2) sc_l_need.nd rfl (.inr rfl) (pe_lc (own := [("letter", 5)]) (tt := _) (by rfl) sc_l_need.nd (pi_str (pv 1)) (blkOk_by (own := [("letter", 5)]) (by kernel_rfl)) (fun _ _ _ _ _ => (pg_name (i := 5) sc_l_need.nd rfl (.inl rfl))) (fun _ _ _ _ _ => (pts_one (pt_cmpR op_eq (pe_call G_l_lot (hr.mono (by omega)) (by rfl) T.g_l_lot T.F_l_lot.kp T.b_l_lot .nil pass0 (pa_cons (pv 0) (pa_cons pe_int pa_nil))) pe_int (nomark _)))) (fun _ _ _ _ _ => (pv 5))))
      (pss_cons (ps_setLc (i := 3) (own := [("letter", 5)]) (tt := _) (by rfl) sc_l_need.nd rfl rfl (sw_true rfl rfl rfl (by decide +kernel)) (pi_str (pv 1)) (blkOk_by (own := [("letter", 5)]) (by kernel_rfl)) (fun _ _ _ _ _ => (pg_name (i := 5) sc_l_need.nd rfl (.inl rfl))) (fun _ _ _ _ _ => (pts_one (pt_cmpR (notInSq K) (pv 5) (pv 2) (by rfl)))) (fun _ _ _ _ _ => (pv 5)))
      (pss_cons (ps_set (i := 4) sc_l_need.nd rfl (.inl rfl) pe_str)
      (pss_mid (ps_if (PW.pt (pw_and (pt_cmpR (neDK K hr.units) (pv 3) (pe_lst pa_nil) (nomark _)) (pw_and1 (PW.pt (pw_or (pt_cmpR (eqDK K hr.units) (pv 2) (pe_lst pa_nil) (nomark _)) (pw_or1 (pt_cmpR op_gt (pe_call G_l_lot (hr.mono (by omega)) (by rfl) T.g_l_lot T.F_l_lot.kp T.b_l_lot .nil pass0 (pa_cons (pv 0) (pa_cons pe_int pa_nil))) pe_int (nomark _)))))))) (pss_one (ps_set (i := 4) sc_l_need.nd rfl (.inl rfl) (pe_ix (ixL K) (pv 3) (pe_call G_l_lot (hr.mono (by omega)) (by rfl) T.g_l_lot T.F_l_lot.kp T.b_l_lot .nil pass0 (pa_cons (pv 0) (pa_cons (pe_callB (cLenSq K) (by rfl) T.m_len (by decide +kernel) (pa_cons (pv 3) pa_nil)) pa_nil))) (fun _ _ => rfl)))) pss_nil)
      (pss_one (ps_ret (pe_tup (pa_cons (pe_join pe_str (pv 2)) (pa_cons (pv 4) pa_nil))))))))), ?_⟩
    refine ⟨tx cols, rfl, _, rfl, fun D nD => lc_it walk_str (fun i H' => ∃ ss : List Nat, Kp b H H' ∧ Bag b bl H' ∧ H' D = some (.lst (ss.map sg)) ∧ ss.Sublist (cols.take i))
      ⟨[], Kp.new Kp.rfl' nD, hB.new nD, upd_same, List.nil_sublist _⟩ (fun _ _ _ _ => trivial) (fun i x H4 H5 hi hP hY => ?_) (fun H4 hP => ?_)⟩
    · obtain ⟨ss, kp4, hB4, hD4, hss⟩ := hP
      obtain ⟨rfl, c, hcc, rfl⟩ := hY
      have nDb := hB.ne nD
      have hi2 : i < cols.length := by simpa using hi
      have hci : cols[i] = c := by
        have : cols[i]? = some c := by simpa using hcc
        exact (List.getElem?_eq_some_iff.mp this).2
      have htk : cols.take (i + 1) = cols.take i ++ [c] := by rw [List.take_succ_eq_append_getElem hi2, hci]
      refine ⟨rfl, .ref b, rfl, b, bl, 2, rfl, hB4, by decide, by decide, fun d H6 kp6 hB6 d0 d1 => ⟨rfl, _, rfl, ite2 (fun e => ?_) (fun e => ?_)⟩⟩
      · have hD6 := kp6 _ _ nDb.1 hD4
        refine ⟨sg c, rfl, _, hD6, ?_, ss ++ [c], (kp4.trans kp6).mut nD, hB6.upd nDb.1 nDb.2, ?_, ?_⟩
        · have := hss.length_le
          rw [List.length_take] at this
          rw [List.length_map]
          exact small1000 (by omega)
        · rw [upd_same, List.map_append]
          rfl
        · rw [htk]
          exact hss.append (List.Sublist.refl _)
      · refine ⟨ss, kp4.trans kp6, hB6, kp6 _ _ nDb.1 hD4, ?_⟩
        rw [htk]
        exact hss.trans (List.sublist_append_left _ _)
    · obtain ⟨ss, kp4, hB4, hD4, hss⟩ := hP
      have nDb := hB.ne nD
      have hn : (⟨cols.toArray⟩ : Str).cps.size = cols.length := by simp
      rw [hn, List.take_of_length_le (Nat.le_refl _)] at hss
      have hssl : ss.length ≤ 26 := Nat.le_trans hss.length_le hc2
      -- others
      refine ⟨tx cols, rfl, _, rfl, fun D2 nD2 => lc_it walk_str (fun i H' => Same H4 H' ∧ H' D2 = some (.lst (((cols.take i).filter fun c => !decide (c ∈ ss)).map sg)))
        ⟨Same.new (Same.refl H4) nD2, upd_same⟩ (fun _ _ _ _ => trivial) (fun i x H5 H6 hi hP hY => ?_) (fun H5 hP => ?_)⟩
      · obtain ⟨sm5, hD5⟩ := hP
        obtain ⟨rfl, c, hcc, rfl⟩ := hY
        have hi2 : i < cols.length := by simpa using hi
        have hci : cols[i] = c := by
          have : cols[i]? = some c := by simpa using hcc
          exact (List.getElem?_eq_some_iff.mp this).2
        refine ⟨rfl, sg c, rfl, .ref D, rfl, D, _, rfl, .inl (.inl (.inl (sm5 _ _ hD4))), rfl, flat_signs _, _, rfl, ?_⟩
        show (if (!inV (sg c) (ss.map sg)) = true then _ else _)
        rw [inV_signs]
        refine ite2 (fun e5 => ?_) (fun e5 => ?_)
        · refine ⟨sg c, rfl, _, hD5, ?_, Same.mut sm5 nD2, ?_⟩
          · rw [List.length_map]
            have := List.length_filter_le (fun c => !decide (c ∈ ss)) (cols.take i)
            rw [List.length_take] at this
            exact small1000 (by omega)
          · rw [upd_same, List.take_succ_eq_append_getElem hi2, hci, List.filter_append, List.filter_cons, if_pos e5, List.map_append]
            rfl
        · refine ⟨sm5, ?_⟩
          rw [hD5, List.take_succ_eq_append_getElem hi2, hci, List.filter_append, List.filter_cons, if_neg e5, List.filter_nil, List.append_nil]
      · obtain ⟨sm5, hD5⟩ := hP
        rw [hn, List.take_of_length_le (Nat.le_refl _)] at hD5
        generalize hll : (cols.filter fun c => !decide (c ∈ ss)) = ll at hD5
        have hlm : ∀ c ∈ ll, c ∈ cols ∧ c ∉ ss := fun c h => by
          rw [← hll] at h
          obtain ⟨h1, h2⟩ := List.mem_filter.mp h
          exact ⟨h1, by simpa using h2⟩
        have hllen : ll.length ≤ 26 := by
          rw [← hll]
          exact Nat.le_trans (List.length_filter_le _ _) hc2
        have kp5 : Kp b H H5 := kp4.trans (Same.kp sm5)
        have hB5 := hB4.same sm5
        have nD2b := hB4.ne nD2
        have hD5s := sm5 _ _ hD4
        have hup : ss.Pairwise (· < ·) := hc.up.sublist hss
        have hsub : ∀ c ∈ ss, c ∈ cols := fun c h => hss.subset h
        -- reach
        refine ⟨fun σ H' => ∃ (rc : List Nat), σ = [some (.ref b), some (tx cols), some (.ref D), some (.ref D2), some (tx rc), none] ∧ Kp b H H' ∧ Bag b bl H' ∧ H' D = some (.lst (ss.map sg)) ∧ NOk cols ss rc, ?_, fun σ H6 hM => ?_⟩
        · refine ⟨.ref D2, rfl, (by show 0 ≤ sizeLine; decide), fun p np => ?_⟩
          have smA : Same H5 (upd H5 p (.lst [])) := Same.new (Same.refl H5) np
          have hpA : (upd H5 p (.lst [])) p = some (.lst []) := upd_same
          generalize upd H5 p (.lst []) = HA at smA hpA ⊢
          have hD2A := smA _ _ hD5
          have hDA := smA _ _ hD5s
          have hBA := hB5.same smA
          have kpA : Kp b H HA := kp5.trans (Same.kp smA)
          refine ⟨_, _, .lst (.inl (.inl hD2A)) (dp_signs ll), .lst (.inl (.inl hpA)) .nil, shaped_signs (fun c h => (hc.az c (hlm c h).1).2), rfl, _, rfl, ite2 (fun e => ?_) (fun e => ?_)⟩
          · have lne : ll ≠ [] := fun z => by
              rw [z] at e
              exact absurd e (by decide)
            have lpos : 0 < ll.length := List.length_pos_iff.mpr lne
            have draw : ∀ (HX : Hp), Kp b H HX → Bag b bl HX → HX D2 = some (.lst (ll.map sg)) → HX D = some (.lst (ss.map sg)) → tAsg (tOp (rIxL K) (tVar 3) (tCall (spLot K) [] E0 (tCons (tVar 0) (tCons (tCB (rLenSq K) (tCons (tVar 3) tNil)) tNil)))) (gName 4) { nx := fun σ H' => ∃ (rc : List Nat), σ = [some (.ref b), some (tx cols), some (.ref D), some (.ref D2), some (tx rc), none] ∧ Kp b H H' ∧ Bag b bl H' ∧ H' D = some (.lst (ss.map sg)) ∧ NOk cols ss rc, rt := Q } [some (.ref b), some (tx cols), some (.ref D), some (.ref D2), some (tx []), none] HX := by
              intro HX kpX hBX hD2X hDX
              refine ⟨.ref D2, rfl, .ref b, rfl, .ref D2, rfl, D2, _, rfl, .inl (.inl (.inl hD2X)), b, bl, _, rfl, hBX, by rw [List.length_map]; omega, by rw [List.length_map]; omega, fun f HY kpY hBY f0 f1 => ?_⟩
              rw [List.length_map] at f1
              have hf : f.toNat < ll.length := by omega
              have hcm := hlm ll[f.toNat] (List.getElem_mem hf)
              generalize hcc : ll[f.toNat] = cc at hcm
              refine ⟨D2, ll.map sg, f, sg cc, rfl, rfl, .inl (.inl (kpY _ _ nD2b.1 hD2X)), L2.at_of (j := f.toNat) (by omega) (by rw [List.getElem?_map, List.getElem?_eq_getElem hf, hcc]; rfl), ?_⟩
              exact ⟨[cc], rfl, kpX.trans kpY, hBY, kpY _ _ nDb.1 hDX, hup, hsub, Nat.le_refl _, fun c h => by rw [List.mem_singleton.mp h]; exact hcm, .inr (by simp)⟩
            refine ⟨.ref D, rfl, (by show 0 ≤ sizeLine; decide), fun p2 np2 => ?_⟩
            have smB : Same HA (upd HA p2 (.lst [])) := Same.new (Same.refl HA) np2
            have hpB : (upd HA p2 (.lst [])) p2 = some (.lst []) := upd_same
            generalize upd HA p2 (.lst []) = HB at smB hpB ⊢
            have hDB := smB _ _ hDA
            refine ⟨_, _, .lst (.inl (.inl hDB)) (dp_signs ss), .lst (.inl (.inl hpB)) .nil, shaped_signs (fun c h => (hc.az c (hsub c h)).2), rfl, _, rfl, ite2 (fun e2 => ?_) (fun e2 => ?_)⟩
            · exact draw HB (kpA.trans (Same.kp smB)) (hBA.same smB) (smB _ _ hD2A) hDB
            · have sne : ss ≠ [] := fun z => by
                rw [z] at e2
                exact e2 rfl
              refine ⟨.ref b, rfl, b, bl, 3, rfl, hBA.same smB, by decide, by decide, fun d HC kpC hBC d0 d1 => ⟨_, _, rfl, rfl, _, rfl, ite2 (fun e3 => ?_) (fun e3 => ?_)⟩⟩
              · exact draw HC ((kpA.trans (Same.kp smB)).trans kpC) hBC (kpC _ _ nD2b.1 (smB _ _ hD2A)) (kpC _ _ nDb.1 hDB)
              · exact ⟨[], rfl, (kpA.trans (Same.kp smB)).trans kpC, hBC, kpC _ _ nDb.1 hDB, hup, hsub, Nat.zero_le _, (fun c h => nomatch h), .inl sne⟩
          · refine ⟨[], rfl, kpA, hBA, hDA, hup, hsub, Nat.zero_le _, (fun c h => nomatch h), .inl fun z => ?_⟩
            have e0 : ll = [] := by
              cases ll with
              | nil => rfl
              | cons x l => exact absurd rfl e
            rw [e0, z] at hll
            have : cols = [] := List.eq_nil_iff_forall_not_mem.mpr (by simpa using hll)
            rw [this] at hc1
            exact absurd hc1 (by decide)
        · obtain ⟨rc, rfl, kp6, hB6, hD6, hok⟩ := hM
          refine ⟨⟨_, rfl⟩, .ref D, rfl, _, D, ss.map sS, rfl, rfl, .inl (.inl (.inl (by rw [← map_sg]; exact hD6))), ?_, ?_⟩
          · rw [show (Str.ofString "").length = 0 by decide +kernel, Nat.mul_zero, Nat.add_zero, signs_len]
            exact Nat.le_of_lt (small1000 (by omega))
          · rw [join_signs]
            refine ⟨tx rc, rfl, (by show 2 ≤ sizeLine; decide), fun v nv => ?_⟩
            exact q ss rc v _ (kp6.new nv) (hB6.new nv) (Kp.none kp6 (hB6.ne nv).1 nv) upd_same hok

/-! ### serves_need -/
def spServesNeed (K : PySem.W.Frag) : Sp := fun vs H Q _ => ∃ (one es rc : List Nat) (na : Addr), vs = [tx one, .ref na] ∧ H na = some (.tup [tx es, tx rc]) ∧ one.length < 64 ∧ es.length < 64 ∧ (∀ c ∈ one, c ≤ 122) ∧ (∀ c ∈ es, c ≤ 122) ∧ ∀ (H' : Hp), Same H H' → Q (.bl (snM one es rc)) H'
theorem ok_servesneed (T : Tx K mg Z) : FnOk P w K mg base CX0 1 Z.f_serves_need Z.d_serves_need ["one", "need"] (spServesNeed K) := by
  refine T.F_serves_need.ok sc_serves_need (fun vs H Q E h => ?_) (fun cdv A outer s H vs Q E hr h => ?_)
  · obtain ⟨one, es, rc, na, rfl, _⟩ := h
    rfl
  · obtain ⟨one, es, rc, na, rfl, hna, hol, hel, hoz, hez, q⟩ := h
    refine ⟨_, (pss_cons (ps_asg (pv 1) (pgT K (n := 2) (pgs_cons (pg_name (i := 2) sc_serves_need.nd rfl (.inl rfl)) (pgs_cons (pg_name (i := 3) sc_serves_need.nd rfl (.inl rfl)) pgs_nil))))
      (pss_cons (ps_set (i := 4) sc_serves_need.nd rfl (.inl rfl) (pe_callB call_len_str (by rfl) T.m_len (by decide +kernel) (pa_cons (pv 2) pa_nil)))
      (pss_one (ps_ret (pe_and (pe_cmpR (eqDK K hr.units) (pe_callB cSortTx (by rfl) T.m_sorted (by decide +kernel) (pa_cons (pe_slice sl_str (pv 0) po_none (po_some (pv 4))) pa_nil)) (pe_callB cSortTx (by rfl) T.m_sorted (by decide +kernel) (pa_cons (pv 2) pa_nil)) (nomark _)) (pe_one (bmK K PySem.F.plainAttrs_str PySem.F.slot_str_startswith PySem.F.type_str_startswith mt_startswith (pe_slice sl_str (pv 0) (po_some (pv 4)) po_none) (pa_cons (pv 3) pa_nil)))))))), ?_⟩
    have sz : ∀ l : List Nat, l.length < 64 → (⟨l.toArray⟩ : Str).length ≤ sizeLine := fun l h => by
      show l.toArray.size ≤ sizeLine
      rw [List.size_toArray]
      exact Nat.le_of_lt (small1000 (by omega))
    have el : ∀ l : List Nat, ((⟨l.toArray⟩ : Str).length : Int) = (l.length : Nat) := fun l => by simp [Str.length]
    refine ⟨.ref na, rfl, na, [tx es, tx rc], rfl, .inl (.inl hna), rfl, tx es, [tx rc], rfl, tx rc, [], rfl, rfl, ?_⟩
    refine ⟨tx es, rfl, _, rfl, sz es hel, ?_⟩
    refine ⟨tx one, rfl, _, rfl, _, rfl, _, rfl, sz one hol, ?_⟩
    rw [el, cut_take]
    have htl : (one.take es.length).length < 64 := by
      rw [List.length_take]
      omega
    refine ⟨_, rfl, htl, fun l1 p1 hp1 hs1 np1 => ?_⟩
    refine ⟨tx es, rfl, es, rfl, hel, fun l2 p2 hp2 hs2 np2 => ?_⟩
    refine ⟨_, _, .lst (.inl (.inl (keep_new upd_same np2))) (dp_signs l1), .lst (.inl (.inl upd_same)) (dp_signs l2), shaped_signs (fun c h => hoz c (List.mem_of_mem_take (hp1.mem_iff.mp h))), shaped_signs (fun c h => hez c (hp2.mem_iff.mp h)), _, rfl, ?_⟩
    rw [eqv_signs]
    have sm : Same H (upd (upd H p1 (.lst (l1.map sg))) p2 (.lst (l2.map sg))) := Same.new (Same.new (Same.refl H) np1) np2
    have key : decide (l1 = l2) = decide ((one.take es.length).Perm es) := by
      rw [Bool.eq_iff_iff, decide_eq_true_eq, decide_eq_true_eq]
      constructor
      · intro e
        rw [e] at hp1
        exact hp1.symm.trans hp2
      · intro hp
        exact le_perm_eq (hp1.trans (hp.trans hp2.symm)) hs1 hs2
    rw [key]
    refine ite2 (fun e => ?_) (fun e => ?_)
    · refine ⟨tx one, rfl, _, rfl, _, rfl, _, rfl, sz one hol, ?_⟩
      rw [cut_from]
      refine ⟨rfl, tx rc, rfl, _, _, rfl, rfl, ?_⟩
      rw [starts_txt]
      have e2 : snM one es rc = decide ((one.drop es.length).take rc.length = rc) := by
        unfold snM
        rw [e, Bool.true_and]
      rw [← e2]
      exact q _ sm
    · have e2 : snM one es rc = false := by
        unfold snM
        rw [Bool.not_eq_true _ |>.mp e, Bool.false_and]
      rw [← e2]
      exact q _ sm

/-! ### _law_serves -/
def spLserves (K : PySem.W.Frag) : Sp := fun vs H Q _ => ∃ (one es rc : List Nat) (na : Addr), vs = [tx one, .ref na] ∧ H na = some (.tup [tx es, tx rc]) ∧ one.length < 64 ∧ es.length < 64 ∧ rc.length < 64 ∧ (∀ c ∈ one, c ≤ 122) ∧ ∀ (H' : Hp), Same H H' → Q (.bl (lsM one es rc)) H'
theorem ok_lservesneed (T : Tx K mg Z) : FnOk P w K mg base CX0 1 Z.f_l_serves Z.d_l_serves ["one", "need"] (spLserves K) := by
  refine T.F_l_serves.ok sc_l_serves (fun vs H Q E h => ?_) (fun cdv A outer s H vs Q E hr h => ?_)
  · obtain ⟨one, es, rc, na, rfl, _⟩ := h
    rfl
  · obtain ⟨one, es, rc, na, rfl, hna, hol, hel, hrl, hoz, q⟩ := h
    refine ⟨_, (pss_cons (ps_set (i := 2) sc_l_serves.nd rfl (.inl rfl) (pe_callB call_len_str (by rfl) T.m_len (by decide +kernel) (pa_cons (pe_ix (ixT K) (pv 1) pe_int (fun _ _ => rfl)) pa_nil)))
      (pss_cons (ps_if (PW.pt (pw_or (pt_cmpR op_lt (pe_callB call_len_str (by rfl) T.m_len (by decide +kernel) (pa_cons (pv 0) pa_nil)) (pv 2) (nomark _)) (pw_or1 (pt_cmpR (neDK K hr.units) (pe_lc (own := [("letter", 3)]) (tt := _) (by rfl) sc_l_serves.nd (pi_str (pe_slice sl_str (pv 0) po_none (po_some (pv 2)))) (blkOk_by (own := [("letter", 3)]) (by kernel_rfl)) (fun _ _ _ _ _ => (pg_name (i := 3) sc_l_serves.nd rfl (.inl rfl))) (fun _ _ _ _ _ => (pts_one (pt_cmpR op_notIn_sign (pv 3) (pe_ix (ixT K) (pv 1) pe_int (fun _ _ => rfl)) (by rfl)))) (fun _ _ _ _ _ => (pv 3))) (pe_lst pa_nil) (nomark _))))) (pss_one (ps_ret pe_bl)) pss_nil)
      (pss_one (ps_ret (pe_cmpR op_eq (pe_slice sl_str (pv 0) (po_some (pv 2)) (po_some (pe_op op_add (pv 2) (pe_callB call_len_str (by rfl) T.m_len (by decide +kernel) (pa_cons (pe_ix (ixT K) (pv 1) pe_int (fun _ _ => rfl)) pa_nil))))) (pe_ix (ixT K) (pv 1) pe_int (fun _ _ => rfl)) (nomark _)))))), ?_⟩
    have sz : ∀ l : List Nat, l.length < 64 → (⟨l.toArray⟩ : Str).length ≤ sizeLine := fun l h => by
      show l.toArray.size ≤ sizeLine
      rw [List.size_toArray]
      exact Nat.le_of_lt (small1000 (by omega))
    have el : ∀ l : List Nat, ((⟨l.toArray⟩ : Str).length : Int) = (l.length : Nat) := fun l => by simp [Str.length]
    refine ⟨.ref na, rfl, na, [tx es, tx rc], 0, tx es, rfl, rfl, .inl (.inl hna), rfl, _, rfl, sz es hel, ?_⟩
    rw [el]
    refine ⟨tx one, rfl, _, rfl, sz one hol, ?_⟩
    rw [el]
    refine ⟨_, rfl, _, _, rfl, rfl, _, rfl, ite2 (fun e => ?_) (fun e => ?_)⟩
    · have e1 : (one.length : Int) < (es.length : Int) := of_decide_eq_true e
      have e2 : lsM one es rc = false := by
        unfold lsM
        rw [if_pos (.inl (by omega))]
      rw [← e2]
      exact q _ (Same.refl H)
    · have e1 : ¬ one.length < es.length := fun z => e (decide_eq_true (show (one.length : Int) < (es.length : Int) by omega))
      refine ⟨tx one, rfl, _, rfl, _, rfl, _, rfl, sz one hol, ?_⟩
      rw [cut_take]
      refine ⟨_, rfl, fun D nD => lc_it walk_str (fun i H' => Same H H' ∧ H' D = some (.lst ((((one.take es.length).take i).filter fun c => !decide (c ∈ es)).map sg)))
        ⟨Same.new (Same.refl H) nD, upd_same⟩ (fun _ _ _ _ => trivial) (fun i x H5 H6 hi hP hY => ?_) (fun H5 hP => ?_)⟩
      · obtain ⟨sm5, hD5⟩ := hP
        obtain ⟨rfl, c, hcc, rfl⟩ := hY
        have hi2 : i < (one.take es.length).length := by simpa using hi
        have hci : (one.take es.length)[i] = c := by
          have : (one.take es.length)[i]? = some c := by simpa using hcc
          exact (List.getElem?_eq_some_iff.mp this).2
        have efl : (⟨es.toArray⟩ : Str).cps.toList = es := by simp
        refine ⟨rfl, sg c, rfl, .ref na, rfl, na, [tx es, tx rc], 0, tx es, rfl, rfl, .inl (.inl (sm5 _ _ hna)), rfl, c, _, rfl, rfl, _, rfl, ?_⟩
        rw [efl]
        refine ite2 (fun e5 => ?_) (fun e5 => ?_)
        · refine ⟨sg c, rfl, _, hD5, ?_, Same.mut sm5 nD, ?_⟩
          · rw [List.length_map]
            have := List.length_filter_le (fun c => !decide (c ∈ es)) ((one.take es.length).take i)
            rw [List.length_take, List.length_take] at this
            exact small1000 (by omega)
          · rw [upd_same, List.take_succ_eq_append_getElem hi2, hci, List.filter_append, List.filter_cons, if_pos e5, List.map_append]
            rfl
        · refine ⟨sm5, ?_⟩
          rw [hD5, List.take_succ_eq_append_getElem hi2, hci, List.filter_append, List.filter_cons, if_neg e5, List.filter_nil, List.append_nil]
      · obtain ⟨sm5, hD5⟩ := hP
        have hn : (⟨(one.take es.length).toArray⟩ : Str).cps.size = (one.take es.length).length := by simp
        rw [hn, List.take_of_length_le (Nat.le_refl _)] at hD5
        generalize hll : ((one.take es.length).filter fun c => !decide (c ∈ es)) = ll at hD5
        have hlz : ∀ c ∈ ll, c ≤ 122 := fun c h => by
          rw [← hll] at h
          exact hoz c (List.mem_of_mem_take (List.mem_filter.mp h).1)
        refine ⟨(by show 0 ≤ sizeLine; decide), fun p np => ?_⟩
        have smA : Same H (upd H5 p (.lst [])) := Same.new sm5 np
        have hpA : (upd H5 p (.lst [])) p = some (.lst []) := upd_same
        have hDA := keep_new (o := .lst []) hD5 np
        generalize upd H5 p (.lst []) = HA at smA hpA hDA ⊢
        refine ⟨_, _, .lst (.inl (.inl hDA)) (dp_signs ll), .lst (.inl (.inl hpA)) .nil, shaped_signs hlz, rfl, _, rfl, ite2 (fun e5 => ?_) (fun e5 => ?_)⟩
        · have lne : ll ≠ [] := fun z => by
            rw [z] at e5
            exact absurd e5 (by decide)
          have e2 : lsM one es rc = false := by
            unfold lsM
            rw [hll, if_pos (.inr lne)]
          rw [← e2]
          exact q _ smA
        · have e0 : ll = [] := by
            cases ll with
            | nil => rfl
            | cons x l => exact absurd rfl e5
          have e2 : lsM one es rc = decide ((one.drop es.length).take rc.length = rc) := by
            unfold lsM
            rw [hll, if_neg (fun z => by rcases z with z | z; exact e1 z; exact z e0)]
          have hnaA := smA _ _ hna
          refine ⟨tx one, rfl, _, rfl, _, rfl, _, rfl, .ref na, rfl, na, [tx es, tx rc], 1, tx rc, rfl, rfl, .inl (.inl hnaA), rfl, _, rfl, sz rc hrl, _, _, rfl, rfl, _, rfl, _, rfl, sz one hol, ?_⟩
          rw [el]
          refine ⟨.ref na, rfl, na, [tx es, tx rc], 1, tx rc, rfl, rfl, .inl (.inl hnaA), rfl, rfl, ?_⟩
          show Q (.bl (decide (V.str (cutS ⟨one.toArray⟩ (some (es.length : Int)) (some ((es.length : Int) + (rc.length : Int)))) = tx rc))) HA
          rw [show ((es.length : Int) + (rc.length : Int)) = ((es.length + rc.length : Nat) : Int) by omega, cut_mid, Nat.add_sub_cancel_left]
          have e6 : decide (tx ((one.drop es.length).take rc.length) = tx rc) = decide ((one.drop es.length).take rc.length = rc) := by
            rw [Bool.eq_iff_iff, decide_eq_true_eq, decide_eq_true_eq]
            exact ⟨tx_inj, fun z => by rw [z]⟩
          rw [e6, ← e2]
          exact q _ smA
/-! ### _law_shuffled -/
def spShuf (K : PySem.W.Frag) : Sp := fun vs H Q _ => ∃ (b bl : Addr) (sv : V) (ss : List Nat), vs = [.ref b, sv] ∧ Bag b bl H ∧ (sv = tx ss ∨ ∃ p, sv = .ref p ∧ H p = some (.lst (ss.map sg))) ∧ ss.length ≤ 26 ∧ (∀ c ∈ ss, c ≤ 122) ∧ ∀ (ff : List Nat) (H' : Hp), Kp b H H' → Bag b bl H' → ff.Perm ss → Q (tx ff) H'
theorem ok_shuf (T : Tx K mg Z) : FnOk P w K mg base CX0 2 Z.f_l_shuffled Z.d_l_shuffled ["bag", "some"] (spShuf K) := by
  have G_l_lot : FnOk P w K mg base CX0 1 Z.f_l_lot Z.d_l_lot ["bag", "many"] (spLot K) := ok_lot T
  refine T.F_l_shuffled.ok sc_l_shuffled (fun vs H Q E h => ?_) (fun cdv A outer s H vs Q E hr h => ?_)
  · obtain ⟨b, bl, sv, ss, rfl, _⟩ := h
    rfl
  · obtain ⟨b, bl, sv, ss, rfl, hB, hsv, hsl, hsz, q⟩ := h
    refine ⟨_, (pss_cons (ps_set (i := 2) sc_l_shuffled.nd rfl (.inl rfl) (pe_callTy (cListU K) (by rfl) T.m_list (by decide +kernel) (pa_cons (pv 1) pa_nil)))
      (pss_cons (ps_set (i := 3) sc_l_shuffled.nd rfl (.inl rfl) pe_str)
      (pss_cons (ps_while PassesOwn.never (pt_cmpR (neDK K hr.units) (pv 2) (pe_lst pa_nil) (nomark _)) (pss_one (ps_set (i := 3) sc_l_shuffled.nd rfl (.inl rfl) (pe_op op_add_str (pv 3) (bmK K PySem.F.plainAttrs_list PySem.F.slot_list_pop PySem.F.type_list_pop mt_popAt (pv 2) (pa_cons (pe_call G_l_lot (hr.mono (by omega)) (by rfl) T.g_l_lot T.F_l_lot.kp T.b_l_lot .nil pass0 (pa_cons (pv 0) (pa_cons (pe_callB (cLenSq K) (by rfl) T.m_len (by decide +kernel) (pa_cons (pv 2) pa_nil)) pa_nil))) pa_nil))))))
      (pss_one (ps_ret (pv 3)))))), ?_⟩
    refine ⟨sv, rfl, ss, ?_, fun D nD => ?_⟩
    · rcases hsv with rfl | ⟨p, rfl, hp⟩
      · exact .inl ⟨rfl, Nat.le_of_lt (small1000 (by omega))⟩
      · exact .inr ⟨p, rfl, hp⟩
    have nDb := hB.ne nD
    have hB1 := hB.new nD (o := .lst (ss.map sg))
    have hD1 : (upd H D (.lst (ss.map sg))) D = some (.lst (ss.map sg)) := upd_same
    have kp1 : Kp b H (upd H D (.lst (ss.map sg))) := Kp.new Kp.rfl' nD
    generalize upd H D (.lst (ss.map sg)) = H1 at hB1 hD1 kp1 ⊢
    refine ⟨fun m σ H' => ∃ (ll ff : List Nat), m = ll.length ∧ σ = [some (.ref b), some sv, some (.ref D), some (tx ff)] ∧ Kp b H H' ∧ Bag b bl H' ∧ H' D = some (.lst (ll.map sg)) ∧ (ll ++ ff).Perm ss, ⟨_, ss, [], rfl, rfl, kp1, hB1, hD1, by rw [List.append_nil]⟩, fun m σ H' hW => ?_⟩
    obtain ⟨ll, ff, rfl, rfl, kp2, hB2, hD2, hpm⟩ := hW
    have hlen : ll.length + ff.length = ss.length := by
      have := hpm.length_eq
      rw [List.length_append] at this
      exact this
    have haz : ∀ c ∈ ll, c ≤ 122 := fun c h => hsz c (hpm.mem_iff.mp (List.mem_append_left _ h))
    refine ⟨.ref D, rfl, (by show 0 ≤ sizeLine; decide), fun p np => ?_⟩
    have hDp : (upd H' p (.lst [])) D = some (.lst (ll.map sg)) := keep_new hD2 np
    have hBp := hB2.new np (o := .lst [])
    have kpp : Kp b H (upd H' p (.lst [])) := kp2.new np
    have hpp : (upd H' p (.lst [])) p = some (.lst []) := upd_same
    generalize upd H' p (.lst []) = H3 at hDp hBp kpp hpp ⊢
    refine ⟨_, _, .lst (.inl (.inl hDp)) (dp_signs ll), .lst (.inl (.inl hpp)) .nil, shaped_signs haz, rfl, _, rfl, ite2 (fun e => ?_) (fun e => ?_)⟩
    · have lne : ll ≠ [] := fun z => by
        rw [z] at e
        exact absurd e (by decide)
      have hll : 0 < ll.length := List.length_pos_iff.mpr lne
      refine ⟨fun σ2 H2 => ∃ (ll2 ff2 : List Nat), ll2.length < ll.length ∧ σ2 = [some (.ref b), some sv, some (.ref D), some (tx ff2)] ∧ Kp b H H2 ∧ Bag b bl H2 ∧ H2 D = some (.lst (ll2.map sg)) ∧ (ll2 ++ ff2).Perm ss, fun σ2 H2 hN => ?_, ?_⟩
      · obtain ⟨ll2, ff2, h1, h2, h3, h4, h5, h6⟩ := hN
        exact ⟨ll2.length, h1, ll2, ff2, rfl, h2, h3, h4, h5, h6⟩
      · refine ⟨tx ff, rfl, .ref D, rfl, .inl ⟨rfl, _, .inl (.inl hDp)⟩, .ref b, rfl, .ref D, rfl, D, _, rfl, .inl (.inl (.inl hDp)), b, bl, _, rfl, hBp, ?_, ?_, fun g H4 kp4 hB4 g0 g1 => ?_⟩
        · rw [List.length_map]
          omega
        · rw [List.length_map]
          omega
        · rw [List.length_map] at g1
          have hg : g.toNat < ll.length := by omega
          have hD4 := kp4 _ _ nDb.1 hDp
          have hy : ll[g.toNat]? = some ll[g.toNat] := List.getElem?_eq_getElem hg
          refine ⟨D, _, g, g.toNat, sg ll[g.toNat], rfl, rfl, hD4, by omega, by omega, PySem.seqIndex_of g0 (by rw [List.length_map]; exact g1), ?_, _, _, rfl, rfl, ?_, ?_⟩
          · rw [List.getElem?_map, hy]
            rfl
          · show ff.length + 1 ≤ sizeLine
            exact Nat.le_of_lt (small1000 (by omega))
          · refine ⟨ll.eraseIdx g.toNat, ff ++ [ll[g.toNat]], ?_, ?_, (kpp.trans kp4).mut nD, hB4.upd nDb.1 nDb.2, ?_, (popped hy ff).trans hpm⟩
            · rw [List.length_eraseIdx_of_lt hg]
              omega
            · have e1 : tx (ff ++ [ll[g.toNat]]) = .str ((⟨ff.toArray⟩ : Str) ++ (⟨[ll[g.toNat]].toArray⟩ : Str)) := by
                rw [app_txt]
              rw [e1]
              rfl
            · rw [upd_same, erase_map]
    · have lnil : ll = [] := by
        cases ll with
        | nil => rfl
        | cons c ll => exact absurd rfl e
      subst lnil
      refine ⟨tx ff, rfl, ?_⟩
      exact q ff _ kpp hBp hpm

/-! ### _law_list -/
def spList (K : PySem.W.Frag) : Sp := fun vs H Q _ => ∃ (b bl : Addr) (cols es rc : List Nat) (na : Addr), vs = [.ref b, tx cols, .ref na] ∧ Bag b bl H ∧ Cols cols ∧ 1 ≤ cols.length ∧ cols.length ≤ 26 ∧ H na = some (.tup [tx es, tx rc]) ∧ NOk cols es rc ∧ ∀ (o : List Nat) (H' : Hp), Kp b H H' → Bag b bl H' → o.Nodup → (∀ c ∈ o, c ∈ cols) → Q (tx o) H'
theorem ok_list (T : Tx K mg Z) : FnOk P w K mg base CX0 3 Z.f_l_list Z.d_l_list ["bag", "columns", "need"] (spList K) := by
  have G_l_lot : FnOk P w K mg base CX0 1 Z.f_l_lot Z.d_l_lot ["bag", "many"] (spLot K) := ok_lot T
  have G_l_shuffled : FnOk P w K mg base CX0 2 Z.f_l_shuffled Z.d_l_shuffled ["bag", "some"] (spShuf K) := ok_shuf T
  refine T.F_l_list.ok sc_l_list (fun vs H Q E h => ?_) (fun cdv A outer s H vs Q E hr h => ?_)
  · obtain ⟨b, bl, cols, es, rc, na, rfl, _⟩ := h
    rfl
  · obtain ⟨b, bl, cols, es, rc, na, rfl, hB, hc, hc1, hc2, hna, hok, q⟩ := h
    refine ⟨_, (pss_cons (ps_set (i := 3) sc_l_list.nd rfl (.inr rfl) (pe_op op_add_str (pe_call G_l_shuffled (hr.mono (by omega)) (by rfl) T.g_l_shuffled T.F_l_shuffled.kp T.b_l_shuffled .nil pass0 (pa_cons (pv 0) (pa_cons (pe_ix (ixT K) (pv 2) pe_int (fun _ _ => rfl)) pa_nil))) (pe_ix (ixT K) (pv 2) pe_int (fun _ _ => rfl))))
      (pss_cons (ps_set (i := 3) sc_l_list.nd rfl (.inr rfl) (pe_op op_add_str (pv 3) (pe_call G_l_shuffled (hr.mono (by omega)) (by rfl) T.g_l_shuffled T.F_l_shuffled.kp T.b_l_shuffled .nil pass0 (pa_cons (pv 0) (pa_cons (pe_lc (own := [("letter", 6)]) (tt := _) (by rfl) sc_l_list.nd (pi_str (pv 1)) (blkOk_by (own := [("letter", 6)]) (by kernel_rfl)) (fun _ _ _ _ _ => (pg_name (i := 6) sc_l_list.nd rfl (.inl rfl))) (fun _ _ _ _ _ => (pts_one (pt_cmpR op_notIn_sign (pv 6) (pv 3) (by rfl)))) (fun _ _ _ _ _ => (pv 6))) pa_nil)))))
      (pss_cons (ps_set (i := 4) sc_l_list.nd rfl (.inl rfl) (pe_call G_l_lot (hr.mono (by omega)) (by rfl) T.g_l_lot T.F_l_lot.kp T.b_l_lot .nil pass0 (pa_cons (pv 0) (pa_cons pe_int pa_nil))))
      (pss_cons (ps_set (i := 5) sc_l_list.nd rfl (.inl rfl) (pe_call G_l_lot (hr.mono (by omega)) (by rfl) T.g_l_lot T.F_l_lot.kp T.b_l_lot .nil pass0 (pa_cons (pv 0) (pa_cons (pe_callB call_len_str (by rfl) T.m_len (by decide +kernel) (pa_cons (pv 3) pa_nil)) pa_nil))))
      (pss_cons (ps_if (pt_cmpR op_eq (pv 4) pe_int (nomark _)) (pss_one (ps_ret (pe_op op_add_str (pe_op op_add_str (pe_slice sl_str (pv 3) po_none (po_some (pv 5))) (pe_revS (pe_slice sl_str (pv 3) (po_some (pv 5)) (po_some (pe_op op_add (pv 5) pe_int))))) (pe_slice sl_str (pv 3) (po_some (pe_op op_add (pv 5) pe_int)) po_none)))) pss_nil)
      (pss_cons (ps_if (pt_cmpR op_eq (pv 4) pe_int (nomark _)) (pss_one (ps_ret (pe_op op_add_str (pe_slice sl_str (pv 3) po_none (po_some (pv 5))) (pe_slice sl_str (pv 3) (po_some (pe_op op_add (pv 5) pe_int)) po_none)))) pss_nil)
      (pss_cons (ps_if (pt_cmpR op_eq (pv 4) pe_int (nomark _)) (pss_one (ps_ret (pe_slice sl_str (pv 3) po_none (po_some (pe_op op_add (pv 5) pe_int))))) pss_nil)
      (pss_one (ps_ret (pe_ix (ixL K) (pe_lst (pa_cons (pv 3) (pa_cons (pe_slice sl_str (pe_call G_l_shuffled (hr.mono (by omega)) (by rfl) T.g_l_shuffled T.F_l_shuffled.kp T.b_l_shuffled .nil pass0 (pa_cons (pv 0) (pa_cons (pv 1) pa_nil))) po_none (po_some (pe_op op_add pe_int (pv 5)))) pa_nil))) (pe_callTy call_int1 (by rfl) T.m_int (by decide +kernel) (pa_cons (pe_cmpR op_eq (pv 4) pe_int (nomark _)) pa_nil)) (fun _ _ => rfl))))))))))), ?_⟩
    have hesn : es.Nodup := hok.up.imp fun h => Nat.ne_of_lt h
    have hesl : es.length ≤ 26 := Nat.le_trans (nodup_sub_len hesn hok.sub) hc2
    have hzz : ∀ c ∈ cols, c ≤ 122 := fun c h => (hc.az c h).2
    have nna : na ≠ b := fun z => by
      obtain ⟨ns, k, n, e, g1, g2⟩ := hB
      rw [z, g1] at hna
      cases hna
    have sz : ∀ l : List Nat, l.length ≤ 100 → (⟨l.toArray⟩ : Str).length ≤ sizeLine := fun l h => by
      show l.toArray.size ≤ sizeLine
      rw [List.size_toArray]
      exact Nat.le_of_lt (small1000 (by omega))
    have el : ∀ l : List Nat, ((⟨l.toArray⟩ : Str).length : Int) = (l.length : Nat) := fun l => by simp [Str.length]
    have szc : ∀ l m : List Nat, l.length + m.length ≤ 100 → (⟨l.toArray⟩ : Str).length + (⟨m.toArray⟩ : Str).length ≤ sizeLine := fun l m h => by
      show l.toArray.size + m.toArray.size ≤ sizeLine
      rw [List.size_toArray, List.size_toArray]
      exact Nat.le_of_lt (small1000 (by omega))
    refine ⟨.ref b, rfl, .ref na, rfl, na, [tx es, tx rc], 0, tx es, rfl, rfl, .inl (.inl hna), rfl, b, bl, tx es, es, rfl, hB, .inl rfl, hesl, fun c h => hzz c (hok.sub c h), fun f1 H1 kp1 hB1 hp1 => ?_⟩
    have hna1 := kp1 _ _ nna hna
    have hf1l : f1.length ≤ 26 := by
      rw [hp1.length_eq]
      exact hesl
    have hrl := hok.one
    refine ⟨.ref na, rfl, na, [tx es, tx rc], 1, tx rc, rfl, rfl, .inl (.inl hna1), rfl, _, _, rfl, rfl, szc f1 rc (by omega), ?_⟩
    rw [app_txt]
    have hn1 : (f1 ++ rc).Nodup := List.nodup_append.mpr ⟨hp1.nodup_iff.mpr hesn, by
      cases rc with
      | nil => exact List.nodup_nil
      | cons x l =>
        have : l = [] := by
          cases l with
          | nil => rfl
          | cons y l => exact absurd hrl (by simp)
        rw [this]
        simp, fun x hx y hy e => (hok.rsub y hy).2 (by rw [← e]; exact hp1.mem_iff.mp hx)⟩
    have hs1 : ∀ c ∈ f1 ++ rc, c ∈ cols := fun c h => by
      rcases List.mem_append.mp h with z | z
      · exact hok.sub c (hp1.mem_iff.mp z)
      · exact (hok.rsub c z).1
    have hl1 : (f1 ++ rc).length ≤ 26 := Nat.le_trans (nodup_sub_len hn1 hs1) hc2
    generalize f1 ++ rc = o1 at hn1 hs1 hl1 ⊢
    -- the other letters
    refine ⟨tx o1, rfl, .ref b, rfl, tx cols, rfl, _, rfl, fun D nD => lc_it walk_str (fun i H' => Same H1 H' ∧ H' D = some (.lst (((cols.take i).filter fun c => !decide (c ∈ o1)).map sg)))
      ⟨Same.new (Same.refl H1) nD, upd_same⟩ (fun _ _ _ _ => trivial) (fun m x HA HB hm hP hY => ?_) (fun H2 hP => ?_)⟩
    · obtain ⟨smA, hDA⟩ := hP
      obtain ⟨rfl, c, hcc, rfl⟩ := hY
      have hi2 : m < cols.length := by simpa using hm
      have hci : cols[m] = c := by
        have : cols[m]? = some c := by simpa using hcc
        exact (List.getElem?_eq_some_iff.mp this).2
      have efl : (⟨o1.toArray⟩ : Str).cps.toList = o1 := by simp
      refine ⟨rfl, sg c, rfl, tx o1, rfl, c, _, rfl, rfl, _, rfl, ?_⟩
      rw [efl]
      refine ite2 (fun e5 => ?_) (fun e5 => ?_)
      · refine ⟨sg c, rfl, _, hDA, ?_, Same.mut smA nD, ?_⟩
        · rw [List.length_map]
          have := List.length_filter_le (fun c => !decide (c ∈ o1)) (cols.take m)
          rw [List.length_take] at this
          exact small1000 (by omega)
        · rw [upd_same, List.take_succ_eq_append_getElem hi2, hci, List.filter_append, List.filter_cons, if_pos e5, List.map_append]
          rfl
      · refine ⟨smA, ?_⟩
        rw [hDA, List.take_succ_eq_append_getElem hi2, hci, List.filter_append, List.filter_cons, if_neg e5, List.filter_nil, List.append_nil]
    · obtain ⟨sm2, hD2⟩ := hP
      have hn : (⟨cols.toArray⟩ : Str).cps.size = cols.length := by simp
      rw [hn, List.take_of_length_le (Nat.le_refl _)] at hD2
      have hln : (cols.filter fun c => !decide (c ∈ o1)).Nodup := hc.nd.sublist List.filter_sublist
      generalize hll : (cols.filter fun c => !decide (c ∈ o1)) = ll at hD2 hln
      have hlm : ∀ c ∈ ll, c ∈ cols ∧ c ∉ o1 := fun c h => by
        rw [← hll] at h
        obtain ⟨h1, h2⟩ := List.mem_filter.mp h
        exact ⟨h1, by simpa using h2⟩
      have hllen : ll.length ≤ 26 := by
        rw [← hll]
        exact Nat.le_trans (List.length_filter_le _ _) hc2
      refine ⟨b, bl, .ref D, ll, rfl, hB1.same sm2, .inr ⟨D, rfl, hD2⟩, hllen, fun c h => hzz c (hlm c h).1, fun f2 H3 kp3 hB3 hp2 => ?_⟩
      have kp03 : Kp b H H3 := (kp1.trans (Same.kp sm2)).trans kp3
      refine ⟨_, _, rfl, rfl, szc o1 f2 (by rw [hp2.length_eq]; omega), ?_⟩
      rw [app_txt]
      have hn2 : (o1 ++ f2).Nodup := List.nodup_append.mpr ⟨hn1, hp2.nodup_iff.mpr hln, fun x hx y hy e => (hlm y (hp2.mem_iff.mp hy)).2 (by rw [← e]; exact hx)⟩
      have hs2 : ∀ c ∈ o1 ++ f2, c ∈ cols := fun c h => by
        rcases List.mem_append.mp h with z | z
        · exact hs1 c z
        · exact (hlm c (hp2.mem_iff.mp z)).1
      have hl2 : (o1 ++ f2).length ≤ 26 := Nat.le_trans (nodup_sub_len hn2 hs2) hc2
      have hpos : 0 < (o1 ++ f2).length := by
        cases cols with
        | nil => exact absurd hc1 (by decide)
        | cons x l =>
          by_cases hx : x ∈ o1
          · exact List.length_pos_of_mem (List.mem_append_left _ hx)
          · have : x ∈ ll := by
              rw [← hll]
              exact List.mem_filter.mpr ⟨by simp, by simp [hx]⟩
            exact List.length_pos_of_mem (List.mem_append_right _ (hp2.mem_iff.mpr this))
      generalize o1 ++ f2 = o at hn2 hs2 hl2 hpos ⊢
      refine ⟨.ref b, rfl, b, bl, 5, rfl, hB3, by decide, by decide, fun way H4 kp4 hB4 w0 w1 => ?_⟩
      refine ⟨.ref b, rfl, tx o, rfl, _, rfl, sz o (by omega), b, bl, _, rfl, hB4, by rw [el]; omega, by rw [el]; omega, fun at_ H5 kp5 hB5 a0 a1 => ?_⟩
      rw [el] at a1
      have kp05 : Kp b H H5 := (kp03.trans kp4).trans kp5
      obtain ⟨k, rfl⟩ : ∃ k : Nat, at_ = (k : Int) := ⟨at_.toNat, by omega⟩
      have hk : k < o.length := by omega
      -- way 1
      refine ⟨_, rfl, rfl, _, rfl, ite2 (fun e1 => ?_) (fun e1 => ?_)⟩
      · refine ⟨tx o, rfl, .int k, rfl, _, rfl, _, rfl, sz o (by omega), ?_⟩
        rw [cut_take]
        refine ⟨tx o, rfl, .int k, rfl, _, rfl, .int k, rfl, _, 2, rfl, rfl, _, rfl, _, rfl, sz o (by omega), ?_⟩
        show ∃ l : List Nat, V.str (cutS ⟨o.toArray⟩ (some (k : Int)) (some ((k : Int) + 2))) = tx l ∧ _
        rw [show ((k : Int) + 2) = ((k + 2 : Nat) : Int) by omega, cut_mid, Nat.add_sub_cancel_left]
        refine ⟨_, rfl, ?_, _, _, rfl, rfl, szc (o.take k) ((o.drop k).take 2).reverse ?_, ?_⟩
        · rw [List.length_take]
          exact Nat.le_of_lt (small1000 (by omega))
        · rw [List.length_reverse, List.length_take, List.length_take]
          omega
        rw [app_txt]
        refine ⟨tx o, rfl, .int k, rfl, _, 2, rfl, rfl, _, rfl, _, rfl, sz o (by omega), ?_⟩
        rw [show ((k : Int) + 2) = ((k + 2 : Nat) : Int) by omega, cut_from]
        refine ⟨_, _, rfl, rfl, szc (o.take k ++ ((o.drop k).take 2).reverse) (o.drop (k + 2)) ?_, ?_⟩
        · rw [List.length_append, List.length_reverse, List.length_take, List.length_take, List.length_drop, List.length_drop]
          omega
        rw [app_txt]
        have hperm : (o.take k ++ ((o.drop k).take 2).reverse ++ o.drop (k + 2)).Perm o := by
          have h1 : (o.take k ++ ((o.drop k).take 2).reverse ++ o.drop (k + 2)).Perm (o.take k ++ (o.drop k).take 2 ++ o.drop (k + 2)) := (List.Perm.append_left _ (List.reverse_perm _)).append_right _
          refine h1.trans (List.Perm.of_eq ?_)
          rw [← List.take_add, List.take_append_drop]
        exact q _ H5 kp05 hB5 (hperm.nodup_iff.mpr hn2) (fun c h => hs2 c (hperm.mem_iff.mp h))
      refine ⟨_, rfl, rfl, _, rfl, ite2 (fun e2 => ?_) (fun e2 => ?_)⟩
      · refine ⟨tx o, rfl, .int k, rfl, _, rfl, _, rfl, sz o (by omega), ?_⟩
        rw [cut_take]
        refine ⟨tx o, rfl, .int k, rfl, _, 1, rfl, rfl, _, rfl, _, rfl, sz o (by omega), ?_⟩
        rw [show ((k : Int) + 1) = ((k + 1 : Nat) : Int) by omega, cut_from]
        refine ⟨_, _, rfl, rfl, szc (o.take k) (o.drop (k + 1)) ?_, ?_⟩
        · rw [List.length_take, List.length_drop]
          omega
        rw [app_txt, ← List.eraseIdx_eq_take_drop_succ]
        have hsb : (o.eraseIdx k).Sublist o := List.eraseIdx_sublist ..
        exact q _ H5 kp05 hB5 (hn2.sublist hsb) (fun c h => hs2 c (hsb.subset h))
      refine ⟨_, rfl, rfl, _, rfl, ite2 (fun e3 => ?_) (fun e3 => ?_)⟩
      · refine ⟨tx o, rfl, .int k, rfl, _, 1, rfl, rfl, _, rfl, _, rfl, sz o (by omega), ?_⟩
        rw [show ((k : Int) + 1) = ((k + 1 : Nat) : Int) by omega, cut_take]
        have hsb : (o.take (k + 1)).Sublist o := List.take_sublist _ _
        exact q _ H5 kp05 hB5 (hn2.sublist hsb) (fun c h => hs2 c (hsb.subset h))
      refine ⟨tx o, rfl, .ref b, rfl, tx cols, rfl, b, bl, tx cols, cols, rfl, hB5, .inl rfl, hc2, hzz, fun f3 H6 kp6 hB6 hp3 => ?_⟩
      have hf3 : f3.length ≤ 26 := by
        rw [hp3.length_eq]
        exact hc2
      refine ⟨.int k, rfl, 1, _, rfl, rfl, _, rfl, _, rfl, sz f3 (by omega), ?_⟩
      rw [show (1 + (k : Int)) = ((1 + k : Nat) : Int) by omega, cut_take]
      have hsb : (f3.take (1 + k)).Sublist f3 := List.take_sublist _ _
      have hn3 : f3.Nodup := hp3.nodup_iff.mpr hc.nd
      refine ⟨(by show 2 ≤ sizeLine; decide), fun L nL => ?_⟩
      have hBL := hB6.new nL (o := .lst [tx o, tx (f3.take (1 + k))])
      have kpL : Kp b H (upd H6 L (.lst [tx o, tx (f3.take (1 + k))])) := (kp05.trans kp6).new nL
      refine ⟨_, rfl, rfl, .inr ⟨_, rfl, ?_⟩⟩
      by_cases e4 : V.int way = V.int 4
      · rw [decide_eq_true e4]
        refine ⟨L, [tx o, tx (f3.take (1 + k))], 1, tx (f3.take (1 + k)), rfl, rfl, .inl (.inl upd_same), rfl, ?_⟩
        exact q _ _ kpL hBL (hn3.sublist hsb) (fun c h => hp3.mem_iff.mp (hsb.subset h))
      · rw [decide_eq_false e4]
        refine ⟨L, [tx o, tx (f3.take (1 + k))], 0, tx o, rfl, rfl, .inl (.inl upd_same), rfl, ?_⟩
        exact q _ _ kpL hBL hn2 hs2

/-! ### the law -/
def spLaw (K : PySem.W.Frag) : Sp := fun vs H Q _ => ∃ (a : Addr) (ns : List Int), vs = [.ref a] ∧ SqL K H a (ns.map V.int) ∧ ns.length ≤ 63 ∧ ∀ H', Q (.bl true) H'
theorem ok_law (T : Tx K mg Z) : FnOk P w K mg base CX0 4 Z.f_law Z.d_law ["script"] (spLaw K) := by
  have G_l_bag : FnOk P w K mg base CX0 1 Z.f_l_bag Z.d_l_bag ["script"] (spBag K) := ok_bag T
  have G_l_columns : FnOk P w K mg base CX0 2 Z.f_l_columns Z.d_l_columns ["bag", "most"] (spColumns K) := ok_columns T
  have G_l_need : FnOk P w K mg base CX0 2 Z.f_l_need Z.d_l_need ["bag", "columns"] (spNeed K) := ok_need T
  have G_l_list : FnOk P w K mg base CX0 3 Z.f_l_list Z.d_l_list ["bag", "columns", "need"] (spList K) := ok_list T
  have G_l_serves : FnOk P w K mg base CX0 1 Z.f_l_serves Z.d_l_serves ["one", "need"] (spLserves K) := ok_lservesneed T
  have G_serves_need : FnOk P w K mg base CX0 1 Z.f_serves_need Z.d_serves_need ["one", "need"] (spServesNeed K) := ok_servesneed T
  refine T.F_law.ok sc_law (fun vs H Q E h => ?_) (fun cdv A outer s H vs Q E hr h => ?_)
  · obtain ⟨a, ns, rfl, _⟩ := h
    rfl
  · obtain ⟨a, ns, rfl, hS, hlen, q⟩ := h
    refine ⟨_, (pss_cons (ps_set (i := 1) sc_law.nd rfl (.inl rfl) (pe_call G_l_bag (hr.mono (by omega)) (by rfl) T.g_l_bag T.F_l_bag.kp T.b_l_bag .nil pass0 (pa_cons (pv 0) pa_nil)))
      (pss_cons (ps_for PassesOwn.never rfl (pi_range1 (by rfl) T.m_range (pa_cons pe_int pa_nil)) (pg_name (i := 2) sc_law.nd rfl (.inl rfl)) (pss_cons (ps_set (i := 3) sc_law.nd rfl (.inl rfl) (pe_call G_l_columns (hr.mono (by omega)) (by rfl) T.g_l_columns T.F_l_columns.kp T.b_l_columns .nil pass0 (pa_cons (pv 1) (pa_cons pe_int pa_nil))))
      (pss_one (ps_for PassesOwn.never rfl (pi_range1 (by rfl) T.m_range (pa_cons pe_int pa_nil)) (pg_name (i := 4) sc_law.nd rfl (.inl rfl)) (pss_cons (ps_set (i := 5) sc_law.nd rfl (.inl rfl) (pe_call G_l_need (hr.mono (by omega)) (by rfl) T.g_l_need T.F_l_need.kp T.b_l_need .nil pass0 (pa_cons (pv 1) (pa_cons (pv 3) pa_nil))))
      (pss_cons (ps_set (i := 6) sc_law.nd rfl (.inl rfl) (pe_call G_l_list (hr.mono (by omega)) (by rfl) T.g_l_list T.F_l_list.kp T.b_l_list .nil pass0 (pa_cons (pv 1) (pa_cons (pv 3) (pa_cons (pv 5) pa_nil)))))
      (pss_one (ps_if (pt_cmpR op_ne (pv 6) pe_str (nomark _)) (pss_cons (ps_set (i := 7) sc_law.nd rfl (.inl rfl) (pe_call G_serves_need (hr.mono (by omega)) (by rfl) T.g_serves_need T.F_serves_need.kp T.b_serves_need .nil pass0 (pa_cons (pv 6) (pa_cons (pv 5) pa_nil))))
      (pss_one (ps_if (PW.pt (pw_or (pt_not (pt_val (pe_callB (isiK K) (by rfl) T.m_isinstance (by decide +kernel) (pa_cons (pv 7) (pa_cons (pe_bltn (v := .ty "bool") (by rfl) T.m_bool (by decide +kernel) rfl) pa_nil))))) (pw_or1 (pt_cmpR op_ne (pv 7) (pe_call G_l_serves (hr.mono (by omega)) (by rfl) T.g_l_serves T.F_l_serves.kp T.b_l_serves .nil pass0 (pa_cons (pv 6) (pa_cons (pv 5) pa_nil))) (nomark _))))) (pss_one (ps_ret pe_bl)) pss_nil))) pss_nil))))))))
      (pss_one (ps_ret pe_bl)))), ?_⟩
    refine ⟨.ref a, rfl, a, ns, rfl, hS, hlen, fun b bl H1 sm1 nb nbl hB1 => ?_⟩
    refine ⟨4, rfl, by decide, by decide, for_range (fun i σ H' => ∃ y2 y3 y4 y5 y6 y7 : Option V, σ = [some (.ref a), some (.ref b), y2, y3, y4, y5, y6, y7] ∧ Bag b bl H') ⟨_, _, _, _, _, _, rfl, hB1⟩ (fun i σ H2 hi hP => ?_) (fun σ H2 hP => q H2)⟩
    obtain ⟨y2, y3, y4, y5, y6, y7, rfl, hB2⟩ := hP
    refine ⟨.ref b, rfl, b, bl, 8, rfl, hB2, by decide, by decide, fun cols H3 kp3 hB3 hc hc1 hc2 => ?_⟩
    refine ⟨6, rfl, by decide, by decide, for_range (fun j σ H' => ∃ y4 y5 y6 y7 : Option V, σ = [some (.ref a), some (.ref b), some (.int (0 + (i : Nat))), some (tx cols), y4, y5, y6, y7] ∧ Bag b bl H') ⟨_, _, _, _, rfl, hB3⟩ (fun j σ H4 hj hP => ?_) (fun σ H4 hP => ?_)⟩
    · obtain ⟨y4, y5, y6, y7, rfl, hB4⟩ := hP
      refine ⟨.ref b, rfl, tx cols, rfl, b, bl, cols, rfl, hB4, hc, hc1, by omega, fun es rc na H5 kp5 hB5 nna hna hok => ?_⟩
      refine ⟨.ref b, rfl, tx cols, rfl, .ref na, rfl, b, bl, cols, es, rc, na, rfl, hB5, hc, hc1, by omega, hna, hok, fun o H6 kp6 hB6 hon hos => ?_⟩
      have nnb : na ≠ b := (hB4.ne nna).1
      have hna6 := kp6 _ _ nnb hna
      have hesn : es.Nodup := hok.up.imp fun h => Nat.ne_of_lt h
      have hol : o.length ≤ 26 := by
        have := nodup_sub_len hon hos
        omega
      have hel : es.length ≤ 26 := by
        have := nodup_sub_len hesn hok.sub
        omega
      have hrl := hok.one
      have hzz : ∀ c ∈ cols, c ≤ 122 := fun c h => (hc.az c h).2
      refine ⟨tx o, rfl, rfl, _, rfl, ite2 (fun e => ?_) (fun e => ?_)⟩
      · refine ⟨tx o, rfl, .ref na, rfl, o, es, rc, na, rfl, hna6, by omega, by omega, fun c h => hzz c (hos c h), fun c h => hzz c (hok.sub c h), fun H7 sm7 => ?_⟩
        refine ⟨_, rfl, _, .ty "bool", _, _, isBl (.bool (snM o es rc)), rfl, .ty _, .base (.bl _), kit_bl (.bool _), _, rfl, ite2 (fun e2 => absurd e2 (by simp [isBl])) (fun _ => ?_)⟩
        refine ⟨_, rfl, tx o, rfl, .ref na, rfl, o, es, rc, na, rfl, sm7 _ _ hna6, by omega, by omega, by omega, fun c h => hzz c (hos c h), fun H8 sm8 => ?_⟩
        refine ⟨rfl, _, rfl, iteNS ?_ ?_⟩
        · rw [need_same hon hesn]
        · exact ⟨_, _, _, _, rfl, (hB6.same sm7).same sm8⟩
      · exact ⟨_, _, _, _, rfl, hB6⟩
    · obtain ⟨y4, y5, y6, y7, rfl, hB4⟩ := hP
      exact ⟨_, _, _, _, _, _, rfl, hB4⟩

end
theorem all_mk {l : PySem.W.OpenLaw} {w : World} {K : PySem.W.Frag} {h : Heap} {mg : Str → Option Value} {fa : Addr} (X : K.In h) (G : h.Ns mainGlobals mg) (hfa : mg "law" = some (.ref fa))
    {oc0 kv0 dc0 pm0 cd0 ct0 : Value} {od0 an0 : Option Addr} {sl0 : Array (Option Value)} {f0 : Addr}
    {oc1 kv1 dc1 pm1 cd1 ct1 : Value} {od1 an1 : Option Addr} {sl1 : Array (Option Value)} {f1 : Addr}
    {oc2 kv2 dc2 pm2 cd2 ct2 : Value} {od2 an2 : Option Addr} {sl2 : Array (Option Value)} {f2 : Addr}
    {oc3 kv3 dc3 pm3 cd3 ct3 : Value} {od3 an3 : Option Addr} {sl3 : Array (Option Value)} {f3 : Addr}
    {oc4 kv4 dc4 pm4 cd4 ct4 : Value} {od4 an4 : Option Addr} {sl4 : Array (Option Value)} {f4 : Addr}
    {oc5 kv5 dc5 pm5 cd5 ct5 : Value} {od5 an5 : Option Addr} {sl5 : Array (Option Value)} {f5 : Addr}
    {oc6 kv6 dc6 pm6 cd6 ct6 : Value} {od6 an6 : Option Addr} {sl6 : Array (Option Value)} {f6 : Addr}
    {oc7 kv7 dc7 pm7 cd7 ct7 : Value} {od7 an7 : Option Addr} {sl7 : Array (Option Value)} {f7 : Addr}
    {oc8 kv8 dc8 pm8 cd8 ct8 : Value} {od8 an8 : Option Addr} {sl8 : Array (Option Value)} {f8 : Addr}
    (a0 : PySem.W.nsIn K mainGlobals "serves_need" = some (some (.ref f0)))
    (l0 : K.lookup f0 = some ⟨oc0, od0, .func (PySem.W.fnOf "serves_need" "serves_need" (defArgs s_serves_need) (defBody s_serves_need) (defScope s_serves_need) .none kv0 dc0 pm0 an0 cd0 ct0), sl0⟩)
    (c0 : PySem.W.codeIn K cd0 "serves_need" = true) (k0 : PySem.W.keepIn K (.ref f0) = true)
    (a1 : PySem.W.nsIn K mainGlobals "_law_bag" = some (some (.ref f1)))
    (l1 : K.lookup f1 = some ⟨oc1, od1, .func (PySem.W.fnOf "_law_bag" "_law_bag" (defArgs s_l_bag) (defBody s_l_bag) (defScope s_l_bag) .none kv1 dc1 pm1 an1 cd1 ct1), sl1⟩)
    (c1 : PySem.W.codeIn K cd1 "_law_bag" = true) (k1 : PySem.W.keepIn K (.ref f1) = true)
    (a2 : PySem.W.nsIn K mainGlobals "_law_lot" = some (some (.ref f2)))
    (l2 : K.lookup f2 = some ⟨oc2, od2, .func (PySem.W.fnOf "_law_lot" "_law_lot" (defArgs s_l_lot) (defBody s_l_lot) (defScope s_l_lot) .none kv2 dc2 pm2 an2 cd2 ct2), sl2⟩)
    (c2 : PySem.W.codeIn K cd2 "_law_lot" = true) (k2 : PySem.W.keepIn K (.ref f2) = true)
    (a3 : PySem.W.nsIn K mainGlobals "_law_columns" = some (some (.ref f3)))
    (l3 : K.lookup f3 = some ⟨oc3, od3, .func (PySem.W.fnOf "_law_columns" "_law_columns" (defArgs s_l_columns) (defBody s_l_columns) (defScope s_l_columns) .none kv3 dc3 pm3 an3 cd3 ct3), sl3⟩)
    (c3 : PySem.W.codeIn K cd3 "_law_columns" = true) (k3 : PySem.W.keepIn K (.ref f3) = true)
    (a4 : PySem.W.nsIn K mainGlobals "_law_need" = some (some (.ref f4)))
    (l4 : K.lookup f4 = some ⟨oc4, od4, .func (PySem.W.fnOf "_law_need" "_law_need" (defArgs s_l_need) (defBody s_l_need) (defScope s_l_need) .none kv4 dc4 pm4 an4 cd4 ct4), sl4⟩)
    (c4 : PySem.W.codeIn K cd4 "_law_need" = true) (k4 : PySem.W.keepIn K (.ref f4) = true)
    (a5 : PySem.W.nsIn K mainGlobals "_law_serves" = some (some (.ref f5)))
    (l5 : K.lookup f5 = some ⟨oc5, od5, .func (PySem.W.fnOf "_law_serves" "_law_serves" (defArgs s_l_serves) (defBody s_l_serves) (defScope s_l_serves) .none kv5 dc5 pm5 an5 cd5 ct5), sl5⟩)
    (c5 : PySem.W.codeIn K cd5 "_law_serves" = true) (k5 : PySem.W.keepIn K (.ref f5) = true)
    (a6 : PySem.W.nsIn K mainGlobals "_law_shuffled" = some (some (.ref f6)))
    (l6 : K.lookup f6 = some ⟨oc6, od6, .func (PySem.W.fnOf "_law_shuffled" "_law_shuffled" (defArgs s_l_shuffled) (defBody s_l_shuffled) (defScope s_l_shuffled) .none kv6 dc6 pm6 an6 cd6 ct6), sl6⟩)
    (c6 : PySem.W.codeIn K cd6 "_law_shuffled" = true) (k6 : PySem.W.keepIn K (.ref f6) = true)
    (a7 : PySem.W.nsIn K mainGlobals "_law_list" = some (some (.ref f7)))
    (l7 : K.lookup f7 = some ⟨oc7, od7, .func (PySem.W.fnOf "_law_list" "_law_list" (defArgs s_l_list) (defBody s_l_list) (defScope s_l_list) .none kv7 dc7 pm7 an7 cd7 ct7), sl7⟩)
    (c7 : PySem.W.codeIn K cd7 "_law_list" = true) (k7 : PySem.W.keepIn K (.ref f7) = true)
    (a8 : PySem.W.nsIn K mainGlobals "law" = some (some (.ref f8)))
    (l8 : K.lookup f8 = some ⟨oc8, od8, .func (PySem.W.fnOf "law" "law" (defArgs s_law) (defBody s_law) (defScope s_law) .none kv8 dc8 pm8 an8 cd8 ct8), sl8⟩)
    (c8 : PySem.W.codeIn K cd8 "law" = true) (k8 : PySem.W.keepIn K (.ref f8) = true)
    (z0 : PySem.W.nsIn K mainGlobals "len" = some none)
    (z1 : PySem.W.nsIn K mainGlobals "range" = some none)
    (z2 : PySem.W.nsIn K mainGlobals "list" = some none)
    (z3 : PySem.W.nsIn K mainGlobals "sorted" = some none)
    (z4 : PySem.W.nsIn K mainGlobals "tuple" = some none)
    (z5 : PySem.W.nsIn K mainGlobals "isinstance" = some none)
    (z6 : PySem.W.nsIn K mainGlobals "bool" = some none)
    (z7 : PySem.W.nsIn K mainGlobals "int" = some none)
    : ∃ fd : FuncData, (∀ (s : Shared) (v : Value), BindsTo s fd ⟨[v], []⟩ [("script", v)]) ∧ ∀ base : Heap, K.In base → base.Ns mainGlobals mg → FnOk l.prog w K mg base CX0 4 fa fd ["script"] (spLaw K) := by
  have e := hfa.symm.trans (PySem.W.mg_of X G a8)
  cases e
  have F0 := fun_mk (st := s_serves_need) l0 c0 k0
  have b0 := F0.binds (ps := ["one", "need"]) fun _ _ _ _ _ _ us hl => match us, hl with | [_, _], _ => rfl
  have F1 := fun_mk (st := s_l_bag) l1 c1 k1
  have b1 := F1.binds (ps := ["script"]) fun _ _ _ _ _ _ us hl => match us, hl with | [_], _ => rfl
  have F2 := fun_mk (st := s_l_lot) l2 c2 k2
  have b2 := F2.binds (ps := ["bag", "many"]) fun _ _ _ _ _ _ us hl => match us, hl with | [_, _], _ => rfl
  have F3 := fun_mk (st := s_l_columns) l3 c3 k3
  have b3 := F3.binds (ps := ["bag", "most"]) fun _ _ _ _ _ _ us hl => match us, hl with | [_, _], _ => rfl
  have F4 := fun_mk (st := s_l_need) l4 c4 k4
  have b4 := F4.binds (ps := ["bag", "columns"]) fun _ _ _ _ _ _ us hl => match us, hl with | [_, _], _ => rfl
  have F5 := fun_mk (st := s_l_serves) l5 c5 k5
  have b5 := F5.binds (ps := ["one", "need"]) fun _ _ _ _ _ _ us hl => match us, hl with | [_, _], _ => rfl
  have F6 := fun_mk (st := s_l_shuffled) l6 c6 k6
  have b6 := F6.binds (ps := ["bag", "some"]) fun _ _ _ _ _ _ us hl => match us, hl with | [_, _], _ => rfl
  have F7 := fun_mk (st := s_l_list) l7 c7 k7
  have b7 := F7.binds (ps := ["bag", "columns", "need"]) fun _ _ _ _ _ _ us hl => match us, hl with | [_, _, _], _ => rfl
  have F8 := fun_mk (st := s_law) l8 c8 k8
  have b8 := F8.binds (ps := ["script"]) fun _ _ _ _ _ _ us hl => match us, hl with | [_], _ => rfl
  let Z : Ad := ⟨f0, PySem.W.fnOf "serves_need" "serves_need" (defArgs s_serves_need) (defBody s_serves_need) (defScope s_serves_need) .none kv0 dc0 pm0 an0 cd0 ct0, f1, PySem.W.fnOf "_law_bag" "_law_bag" (defArgs s_l_bag) (defBody s_l_bag) (defScope s_l_bag) .none kv1 dc1 pm1 an1 cd1 ct1, f2, PySem.W.fnOf "_law_lot" "_law_lot" (defArgs s_l_lot) (defBody s_l_lot) (defScope s_l_lot) .none kv2 dc2 pm2 an2 cd2 ct2, f3, PySem.W.fnOf "_law_columns" "_law_columns" (defArgs s_l_columns) (defBody s_l_columns) (defScope s_l_columns) .none kv3 dc3 pm3 an3 cd3 ct3, f4, PySem.W.fnOf "_law_need" "_law_need" (defArgs s_l_need) (defBody s_l_need) (defScope s_l_need) .none kv4 dc4 pm4 an4 cd4 ct4, f5, PySem.W.fnOf "_law_serves" "_law_serves" (defArgs s_l_serves) (defBody s_l_serves) (defScope s_l_serves) .none kv5 dc5 pm5 an5 cd5 ct5, f6, PySem.W.fnOf "_law_shuffled" "_law_shuffled" (defArgs s_l_shuffled) (defBody s_l_shuffled) (defScope s_l_shuffled) .none kv6 dc6 pm6 an6 cd6 ct6, f7, PySem.W.fnOf "_law_list" "_law_list" (defArgs s_l_list) (defBody s_l_list) (defScope s_l_list) .none kv7 dc7 pm7 an7 cd7 ct7, fa, PySem.W.fnOf "law" "law" (defArgs s_law) (defBody s_law) (defScope s_law) .none kv8 dc8 pm8 an8 cd8 ct8⟩
  have T : Tx K mg Z := ⟨F0, b0, PySem.W.mg_of X G a0, F1, b1, PySem.W.mg_of X G a1, F2, b2, PySem.W.mg_of X G a2, F3, b3, PySem.W.mg_of X G a3, F4, b4, PySem.W.mg_of X G a4, F5, b5, PySem.W.mg_of X G a5, F6, b6, PySem.W.mg_of X G a6, F7, b7, PySem.W.mg_of X G a7, F8, b8, PySem.W.mg_of X G a8, PySem.W.mg_none_of X G z0, PySem.W.mg_none_of X G z1, PySem.W.mg_none_of X G z2, PySem.W.mg_none_of X G z3, PySem.W.mg_none_of X G z4, PySem.W.mg_none_of X G z5, PySem.W.mg_none_of X G z6, PySem.W.mg_none_of X G z7⟩
  exact ⟨_, fun s v => .of_eq rfl, fun base _ _ => ok_law T⟩
end My
open PySem PySem.W PyProof.Rows
set_option maxHeartbeats 0 in
theorem PySem.Challenge.cw_stretchkeep_k34_needs_served_holds : PySem.Challenge.rw_stretchkeep_k34_needs_served.Holds := by
  w_on; o_law; k_head; (case hw => w_witness2)
  k_fill
  refine L2.walk_of (l := PySem.Challenge.rw_stretchkeep_k34_needs_served) (n := 63) (k := 4) (x := "script") (CX := fun _ => L2.CX0) (sp := fun w => My.spLaw _) rfl (by decide) rfl ⟨rfl, by decide, by decide⟩ (fun w h Y => PySem.W.kIn_of Y) ?F (fun _ _ a ns hl _ hS => ⟨a, ns, rfl, hS, hl, fun _ => rfl⟩) (fun _ _ _ _ _ h => h)
  case F =>
    intro w mg fa h KX G hmg
    refine' My.all_mk KX G hmg ?a0 ?l0 ?c0 ?k0 ?a1 ?l1 ?c1 ?k1 ?a2 ?l2 ?c2 ?k2 ?a3 ?l3 ?c3 ?k3 ?a4 ?l4 ?c4 ?k4 ?a5 ?l5 ?c5 ?k5 ?a6 ?l6 ?c6 ?k6 ?a7 ?l7 ?c7 ?k7 ?a8 ?l8 ?c8 ?k8 ?z0 ?z1 ?z2 ?z3 ?z4 ?z5 ?z6 ?z7
    (case a0 => k_is)
    (case l0 => k_is)
    (case c0 => k_is)
    (case k0 => k_is)
    (case a1 => k_is)
    (case l1 => k_is)
    (case c1 => k_is)
    (case k1 => k_is)
    (case a2 => k_is)
    (case l2 => k_is)
    (case c2 => k_is)
    (case k2 => k_is)
    (case a3 => k_is)
    (case l3 => k_is)
    (case c3 => k_is)
    (case k3 => k_is)
    (case a4 => k_is)
    (case l4 => k_is)
    (case c4 => k_is)
    (case k4 => k_is)
    (case a5 => k_is)
    (case l5 => k_is)
    (case c5 => k_is)
    (case k5 => k_is)
    (case a6 => k_is)
    (case l6 => k_is)
    (case c6 => k_is)
    (case k6 => k_is)
    (case a7 => k_is)
    (case l7 => k_is)
    (case c7 => k_is)
    (case k7 => k_is)
    (case a8 => k_is)
    (case l8 => k_is)
    (case c8 => k_is)
    (case k8 => k_is)
    (case z0 => k_is)
    (case z1 => k_is)
    (case z2 => k_is)
    (case z3 => k_is)
    (case z4 => k_is)
    (case z5 => k_is)
    (case z6 => k_is)
    (case z7 => k_is)

