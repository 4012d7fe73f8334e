import PyProof.Rows.All
import Wide.All
import OpenK.AllK
import Wide.FinOn
import HandS.ForMost
import HandS.Walk
import HandS.IsInst
import HandS.DictComp
import HandS.SortInts
import HandS.NoneIn
import HandS.Replace
import HandS.TupAny
import HandS.TupLe
import PyProof.ListStr
import PyProof.TupleOfStr
import KE.GoesNew
import HandS.Zip
import HandS.More
import PyProof.StrLawsFirst
import HandS.Conv
import KE.KSortedM
import HandS.AnyAll
import HandS.EndTab
import PyProof.TupleOfGen
import HandS.EndOwn
import KE.KDictPairs
import KE.SortData
import KE.DataCmp
import PyProof.DictWalks
import KE.KDictWalk
import HandS.Style
import PyProof.CollectStr
import PyProof.SliceStr2
import PyProof.TupleOfSeq
import HandS.Star
import HandS.Wide
import KE.DataMinMax
import HandS.GenOver
import HandS.GenList
import KE.DatumIndex
import PyProof.ConsumeWalk
import HandS.SetFor
import PyProof.StrWalks
import PyProof.SetRoads
import PyProof.Rows.StrCase
import HandS.TupMul
import PyProof.ListNew
import HandS.SetBool
import KE.DataMinKey
import HandS.SortKw
import HandS.Strs
import HandS.Deep
import HandS.ListItems
import KE.KDictZip
import KE.GoesMore
import KE.GoesEnum
import PySem.Challenge.RW_stretchkeep_k36_whole_fewest_of_other_ne
set_option Elab.async false
set_option linter.all false
set_option maxRecDepth 100000
namespace My
open PySem PySem.Spec PyProof.Rows L2
/-! ### heaps -/
/-- all but r is as it was -/
def Kp (r : Addr) (H H' : Hp) : Prop := ∀ b o, b ≠ r → H b = some o → H' b = some o
theorem Kp.rfl' {r : Addr} {H : Hp} : Kp r H H := fun _ _ _ h => h
theorem Kp.trans {r : Addr} {H H1 H2 : Hp} (a : Kp r H H1) (b : Kp r H1 H2) : Kp r H H2 := fun c o n h => b c o n (a c o n h)
theorem Kp.new {r p : Addr} {H H1 : Hp} {o : HO} (a : Kp r H H1) (n : H1 p = none) : Kp r H (upd H1 p o) := fun b x nb h => by
  have h1 := a b x nb h
  rw [upd_ne (ne_of_none h1 n)]
  exact h1
theorem Kp.own {r : Addr} {H H1 : Hp} {o : HO} (a : Kp r H H1) : Kp r H (upd H1 r o) := fun b x nb h => by
  rw [upd_ne nb]
  exact a b x nb h
/-- an object that H does not know is written -/
theorem Kp.mut {r p : Addr} {H H1 : Hp} {o : HO} (a : Kp r H H1) (n : H p = none) : Kp r H (upd H1 p o) := fun b x nb h => by
  rw [upd_ne (ne_of_none h n)]
  exact a b x nb h
theorem Same.kp {r : Addr} {H H' : Hp} (s : Same H H') : Kp r H H' := fun b o _ h => s b o h
theorem Same.new {p : Addr} {H H1 : Hp} {o : HO} (a : Same H H1) (n : H1 p = none) : Same H (upd H1 p o) := fun b x h => by
  have h1 := a b x h
  rw [upd_ne (ne_of_none h1 n)]
  exact h1
theorem Same.mut {p : Addr} {H H1 : Hp} {o : HO} (a : Same H H1) (n : H p = none) : Same H (upd H1 p o) := fun b x h => by
  rw [upd_ne (ne_of_none h n)]
  exact a b x h
theorem Same.tup {K : PySem.W.Frag} {H H' : Hp} {a : Addr} {xs : List V} (e : Same H H') (h : SqT K H a xs) : SqT K H' a xs := by
  rcases h with (h | ⟨o, h⟩) | h
  · exact .inl (.inl (e _ _ h))
  · exact .inl (.inr ⟨o, e _ _ h⟩)
  · exact .inr h
theorem Kp.none {r p : Addr} {H H' : Hp} (e : Kp r H H') (n : p ≠ r) (h : H' p = Option.none) : H p = Option.none := by
  cases q : H p with
  | none => rfl
  | some o =>
    rw [e p o n q] at h
    cases h
theorem keep_new {H : Hp} {p b : Addr} {o x : HO} (h : H b = some x) (n : H p = Option.none) : (upd H p o) b = some x := by
  rw [upd_ne (ne_of_none h n)]
  exact h
theorem keep_ne {H : Hp} {p b : Addr} {o x : HO} (h : H b = some x) (n : b ≠ p) : (upd H p o) b = some x := by
  rw [upd_ne n]
  exact h
/-! ### a word between a statement and the rest -/
def tMid (t u : TS) : TS := fun D σ H => ∃ M : L2.St → Hp → Prop, t { D with nx := M } σ H ∧ ∀ σ1 H1, M σ1 H1 → u D σ1 H1
theorem pss_mid {X : Cx} {st : Stmt} {r : List Stmt} {t u : TS} (a : PS X st t) (b : PSs X r u) : PSs X (st :: r) (tMid t u) := ⟨fun pins s σ H D I h => by
  obtain ⟨M, hm, hu⟩ := h
  refine wpAny_execs_cons (thn (a.run pins s σ H { D with nx := M } I hm) fun f s1 q => ?_)
  cases f
  case next =>
    obtain ⟨σ1, H1, I1, q1⟩ := q
    exact b.run pins s1 σ1 H1 D I1 (hu σ1 H1 q1)
  all_goals exact q⟩
/-! ### texts -/
/-- a text of these codes; one sign -/
abbrev tx (l : List Nat) : V := .str ⟨l.toArray⟩
abbrev sg (c : Nat) : V := .str ⟨#[c]⟩
theorem signs_vals {x : Str} {acc : Array Value} (h : ItemsOf (SignAt x) acc x.cps.size) : Vals (x.cps.toList.map sg) acc.toList := by
  obtain ⟨hz, hi⟩ := h
  have key : ∀ (l : List Nat) (us : List Value), l.length = us.length → (∀ (j : Nat) (c : Nat) (v : Value), l[j]? = some c → us[j]? = some v → ∃ t, v = Value.str ⟨#[c]⟩ t) → Vals (l.map sg) us := by
    intro l
    induction l with
    | nil =>
      intro us hl _
      cases us with
      | nil => exact .nil
      | cons a b => cases hl
    | cons c l ih =>
      intro us hl hh
      cases us with
      | nil => cases hl
      | cons u us =>
        refine .cons ?_ (ih us (Nat.succ.inj hl) fun j c v h1 h2 => hh (j + 1) c v h1 h2)
        obtain ⟨t, e⟩ := hh 0 c u rfl rfl
        exact ⟨t, e⟩
  refine key _ _ (by rw [Array.length_toList, Array.length_toList, hz]) fun j c v h1 h2 => ?_
  obtain ⟨cc, t, e1, e2⟩ := hi j v (by rw [← Array.getElem?_toList]; exact h2)
  rw [Array.getElem?_toList] at h1
  rw [h1] at e1
  cases e1
  exact ⟨t, e2⟩
/-- the text of one sign -/
abbrev sS (c : Nat) : Str := ⟨#[c]⟩
theorem str_empty : (Str.ofString "").cps = #[] := by decide +kernel
theorem join_signs : ∀ l : List Nat, Txt.join (Str.ofString "") (l.map sS) = ⟨l.toArray⟩ := by
  intro l
  show PySem.Builtin.Str.glued (Str.ofString "") (l.map sS) = _
  rw [PySem.StrLaws.glued_eq_join]
  induction l with
  | nil => rfl
  | cons c l ih =>
    cases l with
    | nil => rfl
    | cons d l =>
      show sS c ++ Str.ofString "" ++ Str.join (Str.ofString "") ((d :: l).map sS) = _
      rw [ih]
      show (⟨(#[c] ++ (Str.ofString "").cps) ++ (d :: l).toArray⟩ : Str) = _
      rw [str_empty]
      simp
theorem ltCps_one {a b : Nat} (h : ltCps [a] [b] = false) : b ≤ a := by
  simp [ltCps] at h
  exact h
theorem rising_signs : ∀ (l : List Nat) (c : Nat), risingS (sS c) (l.map sS) = true → (c :: l).Pairwise (· ≤ ·)
  | [], c, _ => List.pairwise_singleton _ _
  | d :: l, c, h => by
    have h' : (!ltCps [d] [c] && risingS (sS d) (l.map sS)) = true := h
    rw [Bool.and_eq_true, Bool.not_eq_true'] at h'
    have hd := ltCps_one h'.1
    have ih := rising_signs l d h'.2
    refine List.Pairwise.cons (fun x hx => ?_) ih
    rcases List.mem_cons.mp hx with e | hx
    · rw [e]
      exact hd
    · exact Nat.le_trans hd ((List.pairwise_cons.mp ih).1 x hx)
theorem sorted_signs : ∀ (l : List Nat), sortedS (l.map sS) = true → l.Pairwise (· ≤ ·)
  | [], _ => List.Pairwise.nil
  | c :: l, h => rising_signs l c h
theorem perm_signs {ys : List Str} {l : List Nat} (h : ys.Perm (l.map sS)) : ∃ l' : List Nat, ys = l'.map sS ∧ l'.Perm l := by
  let hd : Str → Nat := fun z => z.cps.toList.headD 0
  refine ⟨ys.map hd, ?_, ?_⟩
  · rw [List.map_map]
    have e : ∀ y ∈ ys, (sS ∘ hd) y = y := fun y hy => by
      obtain ⟨c, _, rfl⟩ := List.mem_map.mp (h.mem_iff.mp hy)
      rfl
    conv => lhs; rw [← List.map_id ys]
    exact (List.map_congr_left e).symm
  · have e := h.map hd
    rw [List.map_map] at e
    have e2 : l.map (hd ∘ sS) = l := by
      conv => rhs; rw [← List.map_id l]
      exact List.map_congr_left fun c _ => rfl
    rw [e2] at e
    exact e
theorem strict_of {l : List Nat} (h : l.Pairwise (· ≤ ·)) (n : l.Nodup) : l.Pairwise (· < ·) := by
  refine (h.and n).imp fun {a b} q => ?_
  have h1 := q.1
  have h2 : a ≠ b := q.2
  omega
theorem map_sg (l : List Nat) : l.map sg = (l.map sS).map V.str := by
  rw [List.map_map]
  rfl
theorem erase_map {α β : Type} (f : α → β) : ∀ (l : List α) (k : Nat), (l.map f).eraseIdx k = (l.eraseIdx k).map f
  | [], _ => rfl
  | _ :: _, 0 => rfl
  | a :: l, k + 1 => by
    show f a :: (l.map f).eraseIdx k = f a :: (l.eraseIdx k).map f
    rw [erase_map f l k]
theorem pop_perm : ∀ {l : List Nat} {k : Nat} {y : Nat}, l[k]? = some y → (y :: l.eraseIdx k).Perm l
  | [], k, y, h => by simp at h
  | a :: l, 0, y, h => by
    have e : a = y := Option.some.inj h
    rw [e]
    exact List.Perm.refl _
  | a :: l, k + 1, y, h => by
    have ih := pop_perm (l := l) (k := k) (y := y) h
    exact (List.Perm.swap a y (l.eraseIdx k)).trans (ih.cons a)
theorem popped {l : List Nat} {k : Nat} {y : Nat} (h : l[k]? = some y) (f : List Nat) : (l.eraseIdx k ++ (f ++ [y])).Perm (l ++ f) := by
  have p := pop_perm h
  have p1 : (l.eraseIdx k ++ (f ++ [y])).Perm ([y] ++ (l.eraseIdx k ++ f)) := by
    rw [← List.append_assoc]
    exact List.perm_append_comm
  refine p1.trans ?_
  rw [← List.append_assoc]
  exact p.append_right f
section
variable {X : Cx}
theorem call_list_txt (hc : X.calm = true := by rfl) : CallR X (.type "list") (fun xs H Q => ∃ z : Str, xs = [.str z] ∧ z.length ≤ sizeLine ∧ ∀ l, H l = none → Q (.ref l) (upd H l (.lst (z.cps.toList.map sg)))) := by
  intro pins s σ H xs us Q I r h
  obtain ⟨z, rfl, hz, q⟩ := h
  obtain ⟨u, rfl, rx⟩ := vals1 r
  obtain ⟨t, rfl⟩ := rx
  refine PySem.call_list_str (I.ok.hd hc) z t (fun h' tk acc c kp e hi => ?_) hz
  have hv := signs_vals hi
  exact ⟨.ref s.heap.objs.size, _, I.laid (t' := tk) kp (Nat.le_refl _) (show ObjOk X.prog X.w _ h' _ (.lst (z.cps.toList.map sg)) from ⟨by rw [List.length_map, Array.length_toList]; exact hz, acc.toList, c, hv, by rw [Array.toArray_toList]; exact e⟩), rfl, q _ (I.hok.fresh (Nat.le_refl _))⟩
end
end My

set_option Elab.async false
set_option linter.all false
set_option maxRecDepth 100000
set_option maxHeartbeats 1000000
namespace My
open PySem PySem.Spec PyProof.Rows L2
/-! ### calls by named readings -/
def rLenSq (K : PySem.W.Frag) : List V → Hp → VK → Prop := fun xs H Q => ∃ p ys, xs = [.ref p] ∧ (SqL K H p ys ∨ SqT K H p ys) ∧ Q (.int (ys.length : Nat)) H
def rListSq (K : PySem.W.Frag) : List V → Hp → VK → Prop := fun xs H Q => ∃ p ys, xs = [.ref p] ∧ (SqL K H p ys ∨ SqT K H p ys) ∧ ∀ l, H l = none → Q (.ref l) (upd H l (.lst ys))
section
variable (K : PySem.W.Frag) {X : Cx}
theorem cLenSq (hK : X.K = K := by rfl) : CallR X (.builtin "len") (rLenSq K) := by
  subst hK
  exact call_len_seq
theorem cListSq (hK : X.K = K := by rfl) : CallR X (.type "list") (rListSq K) := by
  subst hK
  exact call_list_of
theorem ixL (hK : X.K = K := by rfl) : IxR X (rIxL K) := by
  subst hK
  exact ix_list
theorem ixT (hK : X.K = K := by rfl) : IxR X (rIxT K) := by
  subst hK
  exact ix_tup
theorem piL {tg l : Expr} {tl : TE} (hl : PE X l tl) (hK : X.K = K := by rfl) : PI X tg l (iList K tl) := by
  subst hK
  exact pi_list hl
theorem pgT {es : List Expr} {k : Nat} {t : TGs} {n : Nat} {pos : Pos} (h : PGs X es t) (hK : X.K = K := by rfl) (hc : X.calm = true := by rfl) (hn : (assignEach es X.env).length = n := by rfl) (hst : (assignEach es X.env).findIdx? (·.1) = none := by rfl) : PG X (.Tuple es k pos) (gTup K n t) := by
  subst hK
  exact pg_tup hc h hn hst
theorem notInSq (hK : X.K = K := by rfl) : OpR X (compareOp .NotIn) (rIn K true) := by
  subst hK
  exact op_notIn_seq
theorem eqDK (hu : X.A.units + 64 < cLine) (hK : X.K = K := by rfl) : OpR X (compareOp .Eq) (rEqD K) := by
  subst hK
  exact op_eqD hu
theorem neDK (hu : X.A.units + 64 < cLine) (hK : X.K = K := by rfl) : OpR X (compareOp .NotEq) (rNeD K) := by
  subst hK
  exact op_neD hu
theorem bmK {T id : String} {name : Str} {r : V → List V → Hp → VK → Prop} {o e : Expr} {es : List Expr} {to : TE} {t : TA} {apos cpos : Pos} (pa : PlainAttrs T) (slot : Slot T name id) (hty : typeOf (.builtin id) = pure (.type "method_descriptor")) (hm : MtR X id r) (ho : PE X o to) (ha : PA X (e :: es) t) (hK : X.K = K := by rfl)
    (hbase : attributeBase o name X.env (eval o X.env) = eval o X.env := by rfl)
    (hfew : ((backTo cpos (starEach (e :: es) X.env)).all (fun x => !x.1) && (backToKw cpos (keywordEach [] X.env)).all (fun x => x.1.isSome) && decide ((e :: es).length + ([] : List Keyword).length + (if ([] : List Keyword).isEmpty then 0 else 1) < 30)) = true := by rfl)
    (hline : (apos.endLine == cpos.line) = true := by rfl) (hs : starEach (e :: es) X.env = (false, eval e X.env) :: starEach es X.env := by rfl) (hplain : (backTo cpos (starEach es X.env)).any (·.1) = false := by rfl) :
    PE X (.Call (.Attribute o name apos) (e :: es) [] cpos) (tBM K T r to t) := by
  subst hK
  exact pe_bm pa slot hty hm ho ha hbase hfew hline hs hplain
end
/-! ### frozen data: numbers, texts, None, truths, tuples of these -/
/-- tuples stay -/
def Kt (H H' : Hp) : Prop := ∀ b xs, H b = some (.tup xs) → H' b = some (.tup xs)
theorem Kt.rfl' {H : Hp} : Kt H H := fun _ _ h => h
theorem Kt.trans {H H1 H2 : Hp} (a : Kt H H1) (b : Kt H1 H2) : Kt H H2 := fun c o h => b c o (a c o h)
theorem Kt.new {H : Hp} {p : Addr} {o : HO} (n : H p = none) : Kt H (upd H p o) := fun b xs h => by
  rw [upd_ne (ne_of_none h n)]
  exact h
theorem Kt.lst {H : Hp} {p : Addr} {xs : List V} {o : HO} (n : H p = some (.lst xs)) : Kt H (upd H p o) := fun b ys h => by
  have e : b ≠ p := fun z => by
    rw [z, n] at h
    cases h
  rw [upd_ne e]
  exact h
theorem Kp.kt {r : Addr} {H H' : Hp} {xs : List V} (k : Kp r H H') (h : H r = some (.lst xs)) : Kt H H' := fun b ys e => k b _ (fun z => by
  rw [z, h] at e
  cases e) e
theorem Same.kt {H H' : Hp} (k : Same H H') : Kt H H' := fun b ys e => k b _ e
/-! ### tables -/
/-- rising unlike letters -/
structure Cols (l : List Nat) : Prop where
  up : l.Pairwise (· < ·)
  az : ∀ c ∈ l, 97 ≤ c ∧ c ≤ 122
theorem Cols.nd {l : List Nat} (c : Cols l) : l.Nodup := c.up.imp fun {a b} h => by
  have : a < b := h
  omega
/-! ### questions -/
theorem merge_new : ∀ (more acc : List (Key × V)), ((acc ++ more).map (·.1)).Nodup → mergeK acc more = acc ++ more
  | [], acc, _ => by
    rw [List.append_nil]
    rfl
  | kv :: more, acc, h => by
    have h2 : ((acc ++ [kv]) ++ more).map (·.1) = (acc ++ kv :: more).map (·.1) := by
      rw [List.append_assoc]
      rfl
    have nk : valV acc kv.1 = none := by
      cases e : valV acc kv.1 with
      | none => rfl
      | some v =>
        exfalso
        have hm : kv.1 ∈ acc.map (·.1) := valV_in e
        rw [List.map_append] at h
        have := (List.nodup_append.mp h).2.2
        exact this _ hm _ (by simp) rfl
    show mergeK (putK acc kv.1 kv.2) more = _
    rw [putK_new kv.2 nk]
    have e := merge_new more (acc ++ [(kv.1, kv.2)]) (by
      show (((acc ++ [kv]) ++ more).map (·.1)).Nodup
      rw [h2]
      exact h)
    rw [e, List.append_assoc]
    rfl
theorem dp_signs {K : PySem.W.Frag} {H : Hp} : ∀ l : List Nat, DpAll K H (l.map sg) (l.map fun c => PyData.str (sS c))
  | [] => .nil
  | c :: l => .cons (.str _) (dp_signs l)
theorem shaped_signs {l : List Nat} (h : ∀ c ∈ l, c ≤ 122) : SeqAt.shaped (.list (l.map fun c => PyData.str (sS c))) = true := by
  have e1 : PyData.canLayAll0 (l.map fun c => PyData.str (sS c)) = true := by
    induction l with
    | nil => rfl
    | cons c l ih =>
      show (PyData.canLay0 (.str (sS c)) && PyData.canLayAll0 (l.map fun c => PyData.str (sS c))) = true
      rw [ih fun d hd => h d (List.mem_cons_of_mem _ hd), Bool.and_true]
      have hc := h c (List.mem_cons_self ..)
      show (#[c] : Array Nat).all (· < 0x110000) = true
      simp
      omega
  have e2 : PyData.depthAll (l.map fun c => PyData.str (sS c)) = 0 := by
    clear h e1
    induction l with
    | nil => rfl
    | cons c l ih =>
      show max (PyData.depth (.str (sS c))) (PyData.depthAll (l.map fun c => PyData.str (sS c))) = 0
      rw [ih]
      rfl
  unfold SeqAt.shaped
  show (PyData.canLayAll0 _ && decide (PyData.depthAll _ + 1 ≤ 64)) = true
  rw [e1, e2]
  rfl
end My

set_option Elab.async false
set_option linter.all false
set_option maxRecDepth 100000
set_option maxHeartbeats 1000000
namespace My
open PySem PySem.Spec PyProof.Rows L2
/-! ### name = {.. for ..} on one line -/
section
variable {X : Cx} {pins : List (Addr × Obj)} {σ : L2.St} {H : Hp} {s : Shared}
/-- an object of the frame's own at C may become anything: all that is known stays -/
theorem past {C : Addr} {h' : Heap} {t' : Nat} (I : Inv X pins σ H s) (f : FpOk X pins H C) (kp : ∀ b u, b ≠ C → s.heap.get? b = some u → h'.get? b = some u) : Inv X pins σ H { s with heap := h', toks := t' } :=
  I.turned kp f.1 f.2.1 f.2.2.2.1 f.2.2.2.2.1 f.2.2.2.2.2
/-- it is neither the frame's dict nor one of its cells -/
theorem apart_of {C a : Addr} {y : Str} (f : FpOk X pins H C) (ha : a = X.env.locals ∨ X.env.cells.lookup y = some a) : C ≠ a := fun z =>
  ha.elim (fun e => f.2.1 (z.trans e)) fun e => f.2.2.2.2.1 y a e z.symm
end
/-! ### spans: letters with their bounds -/
theorem sS_inj {a b : Nat} (h : sS a = sS b) : a = b := by
  have z3 : (#[a] : Array Nat) = #[b] := congrArg Str.cps h
  simpa using z3
def spanL (es : List (Nat × Int)) (rc : Option (Nat × Int × Int)) : List (Nat × Int × Int) := es.map (fun p => (p.1, p.2, p.2)) ++ rc.toList
/-! ### what fits -/
def rowAt (cols : List Nat) (row : List Int) (c : Nat) : Int := row.getD (cols.idxOf c) 0
/-! ### data with lists -/
/-! ### what isinstance tells of data -/
end My

set_option Elab.async false
set_option linter.all false
set_option maxRecDepth 100000
set_option maxHeartbeats 1000000
namespace My
open PySem PySem.Spec PyProof.Rows L2
/-! ### lists of numbers compared -/
/-! ### questions and what fits -/
/-- the letter taken out of equals -/
def fewer (es : List (Nat × Int)) (c : Nat) : List (Nat × Int) := es.filter fun p => !decide (p.1 = c)
end My

set_option Elab.async false
set_option linter.all false
set_option maxRecDepth 100000
set_option maxHeartbeats 2000000
namespace My
open PySem PySem.Spec PyProof.Rows L2
/-! ### generator expressions whose element changes nothing -/
/-- the element at a place of the walked thing: what it gives, from any state in which what stood still stands -/
def EltQ (X : Cx) (σ : L2.St) (G : Hp) (P : Addr) (scope : Scope) (x : Str) (elt : Expr) (Pf F : Nat → Value → Prop) : Prop :=
  ∀ (pins : List (Addr × Obj)) (u1 : Shared), Inv X pins σ G u1 → ∀ (ce : Env) (B : Around) (E' : Value → Shared → Prop) (i : Nat) (v : Value) (u2 : Shared) (m2 : Str → Option Value), B.handled = none → ce.scope = scope → ce.cells = cloFrom X.env.cells scope.names [] →
    Pf i v → u2.heap.Ns ce.locals m2 → m2 x = some v → (∀ b o, b ≠ P → u1.heap.get? b = some o → u2.heap.get? b = some o) → wpAny (model X.prog X.w) B (eval elt ce) (fun y u3 => F i y ∧ Keeps u2 u3) E' u2
/-- the generator stands, ready to be walked n times -/
def ReadyQ (X : Cx) (pins : List (Addr × Obj)) (σ : L2.St) (G : Hp) (P : Addr) (n : Nat) (F : Nat → Value → Prop) (g : Addr) (u5 : Shared) : Prop :=
  ∃ (fp wr : List Addr) (Gn : Array GenState → Array GenState → Prop) (St : Nat → Shared → Prop),
    WalksS X.prog X.w X.A.in4 g fp wr Gn n F St ∧ St 0 u5 ∧ (∀ i s, St i s → s.TypeIs (.ref g) "generator") ∧ (∀ b ∈ fp, b < u5.heap.objs.size) ∧ g ∈ fp ∧
    ∀ u', Moved wr Gn u5 u' → ∃ G2, GxR.Tabbed P G G2 ∧ Inv X pins σ G2 u'
/-- what a walk over the value v begins with -/
def Src (X : Cx) (pins : List (Addr × Obj)) (σ : L2.St) (G : Hp) (P : Addr) (v : Value) (n : Nat) (Pf : Nat → Value → Prop) : Prop :=
  ∀ (u1 : Shared), Inv X pins σ G u1 → ∀ (Q : Value → Shared → Prop) (E : Value → Shared → Prop), (∀ (o : Obj) (St : Nat → Heap → Prop) (fps : List Addr),
    (∀ A' : Around, A'.handled = none → Walks X.prog X.w A' u1.heap.objs.size (u1.heap.objs.size :: fps) [u1.heap.objs.size] n Pf St) → St 0 (u1.heap.push o) → (∀ b ∈ fps, b < u1.heap.objs.size ∧ b ≠ P) →
    Q (.ref u1.heap.objs.size) { u1 with heap := u1.heap.push o }) → wpAny (model X.prog X.w) X.A (pyIter v) Q E u1
section
variable {X : Cx} {pins : List (Addr × Obj)} {σ : L2.St} {H : Hp} {s : Shared}
/-- what stood stands: a frame knows what it knew -/
theorem grew {s' : Shared} (I : Inv X pins σ H s) (os : s'.os = s.os) (bare : AllBare s'.gens) (kp : ∀ b u, s.heap.get? b = some u → s'.heap.get? b = some u) : Inv X pins σ H s' :=
  I.call' (ch := []) os (Un.kept kp) (I.hok.kept kp) bare fun _ hb => nomatch hb
/-- the code object of a generator expression comes out of its maker's table, or is made and written into it; then the built-ins are looked up -/
theorem gen_code {c P : Addr} {gpos : Pos} {qn : Str} {scope : Scope} {R : Value → Addr → Shared → Prop} (I : Inv X pins σ H s) (TB : LamX.TabB X.base X.mg c P) (hcode : X.env.code = .ref c) (hT : GxR.TabG H P)
    (h : ∀ (code : Value) (H2 : Hp) (s2 : Shared), GxR.Tabbed P H H2 → Inv X pins σ H2 s2 → (∀ b u, b ≠ P → s.heap.get? b = some u → s2.heap.get? b = some u) → s.heap.objs.size ≤ s2.heap.objs.size → R code builtinsNs s2) :
    wpAny (model X.prog X.w) X.A (genexprCode X.env gpos qn scope) (fun code s3 => wpAny (model X.prog X.w) X.A (builtinsFor X.env.globals X.env.builtins) (R code) X.xe s3) X.xe s := by
  obtain ⟨ps, hP, tri⟩ := hT
  have rawP := I.hok P _ hP
  have hd : PySem.W.CodeHd s.heap c P := TB.code.keeps I.bk
  have go : ∀ (code : Value) (g : Heap) (tk : Nat) (more : Array Value), Heap.ExtBut P s.heap g → s.heap.objs.size ≤ g.objs.size → g.get? P = some { cls := .none, data := .fields (ps ++ more) } → TriplesOk (ps ++ more).toList →
      wpAny (model X.prog X.w) X.A (builtinsFor X.env.globals X.env.builtins) (R code) X.xe { s with heap := g, toks := tk } := fun code g tk more ext le tab tri' => by
    have J : Inv X pins σ (upd H P (.tbl (ps ++ more))) { s with heap := g, toks := tk } := GxR.inv_tab (g' := s.gens) (d' := s.drawn) I hP ext tab I.bare
    obtain ⟨bm, ob, b1, b2, _, _, b5, b6, b7, b8⟩ := TB.bm
    refine wpAny_builtinsFor (m := X.mg) ?_ b1 b2 (J.bk _ _ b5) b6 b7 b8 (h code _ _ ⟨⟨_, upd_same, tri'⟩, fun b ne => upd_ne ne⟩ J ext le)
    rw [J.ok.glob]
    exact J.mod.glob.keeps J.bk
  match hf : codeAmong gpos ps.toList with
  | some cv => exact wpAny_genexprCode_hit hcode (hd.code rawP tri) hf (go cv s.heap s.toks #[] (Heap.ExtBut.refl _ _) (Nat.le_refl _) (by rw [Array.append_empty]; exact rawP) (by rw [Array.append_empty]; exact tri))
  | none =>
    refine wpAny_genexprCodeX hcode (hd.code rawP tri) (hd.tab rawP) hf fun c' g tk ext ge lt isC _ isT _ => go _ g tk _ ext (Nat.le_trans ge (Nat.le_of_lt lt)) isT.2 ?_
    obtain ⟨_, _, _, _, _, _, _, _, _, _, _, _, _, _, _, _, _, _, _, z, _⟩ := isC
    exact z
/-- the generator (elt for x in iter), its element changing nothing -/
theorem gen_q {c P : Addr} {elt iter : Expr} {x : Str} {px gpos : Pos} {scope : Scope} {te : TE} {k : Nat} {Q' : Value → Shared → Prop} {R : V → Hp → Nat → (Nat → Value → Prop) → Prop} {R0 : V → Hp → Prop}
    (hr : Room k X.A) (TB : LamX.TabB X.base X.mg c P) (hcode : X.env.code = .ref c) (S : GxR.GenS X.env scope x) (hi : PE X iter te)
    (hs : ∀ v, genFold iter X.env v = pure v) (I : Inv X pins σ H s)
    (h : te σ H R0) (hc : ∀ v G, R0 v G → ∃ (n : Nat) (Pf F : Nat → Value → Prop), (∀ u, RelV v u → Src X pins σ G P u n Pf) ∧ GxR.TabG G P ∧ EltQ X σ G P scope x elt Pf F ∧ R v G n F)
    (hQ : ∀ v G n F g u5, R v G n F → ReadyQ X pins σ G P n F g u5 → Q' (.ref g) u5) :
    wpAny (model X.prog X.w) X.A (eval (.GeneratorExp elt [⟨.Name x px, iter, [], 0⟩] scope gpos) X.env) Q' X.xe s := by
  have deep : X.A.depth < recursionLimit := by
    have := hr.dp
    omega
  refine wpAny_GeneratorExp_walksQ hr.hd S.co (closure_ok S.free) S.cell S.dot S.loc S.kind deep (thn (hi.run pins s σ H _ I h) fun xv u1 ⟨v, G, I1, rv, h0⟩ => ?_) hs
  obtain ⟨n, Pf, F, src, hT, elq, hR⟩ := hc v G h0
  refine src xv rv u1 I1 _ _ fun o St fps W st0 below => ?_
  -- the walked thing's iterator o at i0; the table at P is older
  generalize hi0 : u1.heap.objs.size = i0 at W below ⊢
  have older : P ≠ i0 := fun z => by
    obtain ⟨ps, e, _⟩ := hT
    rw [I1.hok.fresh (Nat.le_of_eq (hi0.trans z.symm))] at e
    cases e
  have Io : Inv X pins σ G { u1 with heap := u1.heap.push o } := grew I1 rfl I1.bare fun b u e => Heap.get?_push_of_some _ e
  refine ⟨Io.nolimit, gen_code Io TB hcode hT fun code G2 s4 tab I4 kp le => ?_⟩
  have lt4 : i0 < s4.heap.objs.size := Nat.lt_of_lt_of_le (by rw [← hi0, Heap.size_push]; exact Nat.lt_succ_self _) le
  have kp1 : ∀ b u, b ≠ P → u1.heap.get? b = some u → s4.heap.get? b = some u := fun b u ne e => kp b u ne (Heap.get?_push_of_some _ e)
  have fo : FpOk X pins G2 i0 := I1.fpOk (Nat.le_of_eq hi0) ((tab.2 i0 older.symm).trans (I1.hok.fresh (Nat.le_of_eq hi0)))
  refine ⟨i0, i0 :: fps, [i0], n, Pf, St, fun _ => true, F, rfl, W, (W X.A hr.hd).frame _ _ _ st0 fun b hb u e => kp b u ?_ e, fun b hb => ?_, I4.nolimit, fun z => ?_, fun g keep => ⟨?_, fun A' E' i v s₂ m₂ hA hv _ hn hm stay => ?_⟩, fun g h5 tk5 gs bare above size5 stay W5 at5 => ?_⟩
  · exact (List.mem_cons.mp hb).elim (fun z q => older (q.symm.trans z)) fun z => (below b z).2
  · exact (List.mem_cons.mp hb).elim (fun z => z ▸ lt4) fun z => Nat.lt_trans (below b z).1 lt4
  · obtain ⟨_, ns, _⟩ := I1.nolimit
    exact Nat.ne_of_lt (hi0 ▸ ns.lt) (List.mem_singleton.mp z)
  · intro A' E' i v s₂ m₂ _ _ _ _ _
    rw [List.forIn_nil]
    exact wpAny_pure ⟨rfl, GxR.keeps_refl _⟩
  · refine elq pins u1 I1 _ A' E' i v s₂ m₂ hA rfl rfl hv hn hm fun b u ne e => ?_
    have here := kp1 b u ne e
    exact stay b (List.mem_range.mpr (Heap.lt_size here)) (fun z => Nat.ne_of_lt (hi0 ▸ Heap.lt_size e) (List.mem_singleton.mp z)) u (keep b u here)
  · rw [show passing (fun _ => true) n 0 = List.range n from GxR.passing_true n] at W5
    rw [List.length_range] at W5
    have place : ∀ {i : Nat} {y : Value}, (∃ j, (List.range n)[i]? = some j ∧ F j y) → F i y := fun ⟨j, e, fj⟩ => by
      obtain ⟨_, q⟩ := List.getElem?_eq_some_iff.mp e
      rw [List.getElem_range] at q
      rw [q]
      exact fj
    have W6 : WalksS X.prog X.w X.A.in4 g (g :: s4.heap.objs.size :: List.range s4.heap.objs.size) [s4.heap.objs.size, i0] (GenOnlyQ s4.gens.size) n F _ := { W5 with item := fun i s Q E lt st k => W5.item i s Q E lt st fun y s' z => k y s' (place z) }
    refine hQ v G n F g _ hR ⟨_, _, _, _, W6, at5, fun i s st => Heap.IsGen.typeIs st.1, fun b hb => ?_, List.mem_cons_self, fun u' mv => ⟨G2, tab, ?_⟩⟩
    · show b < h5.objs.size
      rw [show h5.objs.size = g + 1 from size5]
      rcases List.mem_cons.mp hb with z | z
      · exact z ▸ Nat.lt_succ_self g
      · refine Nat.lt_succ_of_lt ((List.mem_cons.mp z).elim (fun e => e ▸ above) fun e => Nat.lt_trans (List.mem_range.mp e) above)
    · have J := past (t' := s4.toks) (h' := u'.heap) I4 fo fun b u ne e => mv.heap b u (fun z => (List.mem_cons.mp z).elim (fun q => Nat.ne_of_lt (Heap.lt_size e) q) fun q => ne (List.mem_singleton.mp q)) (stay b u e)
      exact grew J mv.os (AllBare.movedS (I4.bare.push bare) mv) fun _ _ e => e
/-! tuple(elt for x in text): numbers -/
def tTupG (P : Addr) (te : TE) (D : V → L2.St → Hp → List V → Prop) : TE := fun σ H Q => te σ H fun v G => ∃ xs : List V, D v σ G xs ∧ GxR.TabG G P ∧ ∀ G2, GxR.Tabbed P G G2 → ∀ p, G2 p = none → Q (.ref p) (upd G2 p (.tup xs))
theorem vals_of_items : ∀ (xs : List V) (us : List Value), xs.length = us.length → (∀ (j : Nat) (x : V) (u : Value), xs[j]? = some x → us[j]? = some u → RelV x u) → Vals xs us
  | [], [], _, _ => .nil
  | x :: xs, u :: us, hl, hh => .cons (hh 0 x u rfl rfl) (vals_of_items xs us (Nat.succ.inj hl) fun j y w h1 h2 => hh (j + 1) y w h1 h2)
theorem pe_tupG {c P : Addr} {elt iter : Expr} {x : Str} {px p pos gpos : Pos} {scope : Scope} {te : TE} {k : Nat} {D : V → L2.St → Hp → List V → Prop}
    (hr : Room k X.A) (hg : Gl X "tuple") (hm : X.mg "tuple" = none) (TB : LamX.TabB X.base X.mg c P) (hcode : X.env.code = .ref c) (S : GxR.GenS X.env scope x) (hi : PE X iter te)
    (hD : ∀ (pins : List (Addr × Obj)) (σ : L2.St) (G : Hp) (v : V) (xs : List V), D v σ G xs → xs.length ≤ sizeLine ∧ ∃ (Pf F : Nat → Value → Prop), (∀ u, RelV v u → Src X pins σ G P u xs.length Pf) ∧ EltQ X σ G P scope x elt Pf F ∧ ∀ (i : Nat) (y : Value) (z : V), xs[i]? = some z → F i y → RelV z y)
    (hs : ∀ v, genFold iter X.env v = pure v := by intro _; rfl)
    (he : starEach [.GeneratorExp elt [⟨.Name x px, iter, [], 0⟩] scope gpos] X.env = (false, eval (.GeneratorExp elt [⟨.Name x px, iter, [], 0⟩] scope gpos) X.env) :: starEach [] X.env := by rfl) :
    PE X (.Call (.Name "tuple" p) [.GeneratorExp elt [⟨.Name x px, iter, [], 0⟩] scope gpos] [] pos) (tTupG P te D) := by
  refine ⟨fun pins s σ H Q I h => ?_⟩
  refine Call_ (ld_blt I hg hm boot_tuple (PyProof.Rows.callWith_type1 ?_ he))
  rw [he]
  refine Calls.spliced_cons (gen_q (R := fun v G n F => ∃ xs : List V, D v σ G xs ∧ xs.length = n ∧ xs.length ≤ sizeLine ∧ (∀ (i : Nat) (y : Value) (z : V), xs[i]? = some z → F i y → RelV z y) ∧ ∀ G2, GxR.Tabbed P G G2 → ∀ p, G2 p = none → Q (.ref p) (upd G2 p (.tup xs))) hr TB hcode S hi hs I h (fun v G h0 => ?_) fun v G n F g u5 hR hG => ?_)
  · obtain ⟨xs, hd, hT, q⟩ := h0
    obtain ⟨hz, Pf, F, hsrc, hel, hF⟩ := hD pins σ G v xs hd
    exact ⟨xs.length, Pf, F, hsrc, hT, hel, xs, hd, rfl, hz, hF, q⟩
  · obtain ⟨xs, hd, hn, hz, hF, q⟩ := hR
    obtain ⟨fp, wr, Gn, St, W, hst, hty, hfp, hgf, hI⟩ := hG
    refine Calls.spliced_nil ?_
    refine call_tuple_gen W.in4_3 hty hst hfp hgf (fun u' acc mv hit => ?_) (by rw [← hn]; exact hz)
    obtain ⟨G2, hTb, J⟩ := hI u' mv
    have hv : Vals xs acc.toList := vals_of_items _ _ (by rw [show acc.toList.length = acc.size from Array.length_toList, hit.1, hn]) fun j z y h1 h2 => hF j y z h1 (hit.2 j y (by rw [← Array.getElem?_toList]; exact h2))
    have J2 : Inv X pins σ (upd G2 u'.heap.objs.size (.tup xs)) { u' with heap := u'.heap.push { cls := .type "tuple", data := .seq acc } } :=
      J.laid (t' := u'.toks) (fun b o e => Heap.get?_push_of_some _ e) (Nat.le_refl _) (show ObjOk X.prog X.w _ _ _ (.tup xs) from ⟨hz, acc.toList, hv, by rw [Array.toArray_toList]; exact IsTup.new _ _⟩)
    exact ⟨.ref u'.heap.objs.size, _, J2, rfl, q G2 hTb _ (J.hok.fresh (Nat.le_refl _))⟩
/-! all(elt for x in ..) -/
/-! ### what a captured name holds -/
theorem clo_look {cells : List (Str × Addr)} {names : List (Str × NameKind)} {y : Str} {c : Addr} (hy : (y, NameKind.free) ∈ names) (hc : cells.lookup y = some c) : (cloFrom cells names []).lookup y = some c := by
  obtain ⟨c', e⟩ := mem_lookup (cloFrom_has (acc := []) (cells := cells) hy)
  have hm : (y, c') ∈ cloFrom cells names [] := by
    have : ∀ {l : List (Str × Addr)} {n : Str} {d : Addr}, l.lookup n = some d → (n, d) ∈ l := by
      intro l
      induction l with
      | nil =>
        intro n d h
        cases h
      | cons p l ih =>
        intro n d h
        rw [List.lookup_cons] at h
        cases hb : n == p.1 with
        | true =>
          rw [hb] at h
          have e1 : n = p.1 := by simpa using hb
          have e2 : p.2 = d := Option.some.inj h
          rw [e1, ← e2]
          exact List.mem_cons_self ..
        | false =>
          rw [hb] at h
          exact List.mem_cons_of_mem _ (ih h)
    exact this e
  rcases cloFrom_mem hm with z | ⟨_, z⟩
  · cases z
  · rw [e, z, hc]
    rfl
theorem capt {G : Hp} {u1 : Shared} {i : Nat} {y : Str} {v : V} {scope : Scope} (I : Inv X pins σ G u1) (hN : X.N[i]? = some y) (hv : σ[i]? = some (some v)) (hk : X.env.scope.names.lookup y = some .cell) (hy : (y, NameKind.free) ∈ scope.names) :
    ∃ u c, RelV v u ∧ (cloFrom X.env.cells scope.names []).lookup y = some c ∧ u1.heap.IsCell c (some u) := by
  obtain ⟨m, hm, hl⟩ := I.loc
  obtain ⟨u, ru, lk⟩ := hl i y v hN hv (.inr (.inl hk))
  rcases lk with ⟨k1, _⟩ | ⟨_, c, hc, hcell⟩
  · have : X.env.kindOf y = some .cell := hk
    rw [this] at k1
    cases k1
  · exact ⟨u, c, ru, clo_look hy hc, hcell⟩
theorem cell_kept {G : Hp} {P c : Addr} {u1 u2 : Shared} {u : Value} (I : Inv X pins σ G u1) (hT : GxR.TabG G P) (hc : u1.heap.IsCell c (some u)) (hk : ∀ b o, b ≠ P → u1.heap.get? b = some o → u2.heap.get? b = some o) : u2.heap.IsCell c (some u) := by
  obtain ⟨o, ho, hd⟩ := hc
  refine ⟨o, hk c o (fun z => ?_) ho, hd⟩
  obtain ⟨ps, hP, _⟩ := hT
  have h1 : u1.heap.get? P = some { cls := .none, data := .fields ps } := I.hok P _ hP
  rw [z, h1] at ho
  cases ho
  cases hd
/-! x in y, y a captured text -/
/-! r[y.index(x)], r a captured tuple of numbers, y a captured text -/
end
end My

set_option Elab.async false
set_option linter.all false
set_option maxRecDepth 100000
set_option maxHeartbeats 2000000
namespace My
open PySem PySem.Spec PyProof.Rows L2
/-! ### tables of code objects: they may grow, all else stays -/
def TG (Ps : List Addr) (H : Hp) : Prop := ∀ P ∈ Ps, GxR.TabG H P
def Sx (Ps : List Addr) (H H' : Hp) : Prop := ∀ b o, b ∉ Ps → H b = some o → H' b = some o
theorem Sx.rfl' {Ps : List Addr} {H : Hp} : Sx Ps H H := fun _ _ _ h => h
theorem Sx.trans {Ps : List Addr} {H H1 H2 : Hp} (a : Sx Ps H H1) (b : Sx Ps H1 H2) : Sx Ps H H2 := fun c o n h => b c o n (a c o n h)
theorem Same.sx {Ps : List Addr} {H H' : Hp} (s : Same H H') : Sx Ps H H' := fun b o _ h => s b o h
theorem TG.same {Ps : List Addr} {H H' : Hp} (t : TG Ps H) (s : Same H H') : TG Ps H' := fun P hP => by
  obtain ⟨ps, h, r⟩ := t P hP
  exact ⟨ps, s _ _ h, r⟩
theorem TG.not {Ps : List Addr} {H : Hp} {b : Addr} {o : HO} (t : TG Ps H) (h : H b = some o) (ho : ∀ q, o ≠ .tbl q) : b ∉ Ps := fun hb => by
  obtain ⟨ps, h2, _⟩ := t b hb
  rw [h2] at h
  exact ho ps (Option.some.inj h).symm
theorem TG.kp {Ps : List Addr} {H H' : Hp} {r : Addr} {xs : List V} (t : TG Ps H) (hr : H r = some (.lst xs)) (k : Kp r H H') : TG Ps H' := fun P hP => by
  obtain ⟨ps, h, q⟩ := t P hP
  refine ⟨ps, k _ _ (fun z => ?_) h, q⟩
  rw [z, hr] at h
  cases h
theorem TG.new {Ps : List Addr} {H : Hp} {p : Addr} {o : HO} (t : TG Ps H) (n : H p = none) : TG Ps (upd H p o) := t.same (Same.new (Same.refl H) n)
theorem Sx.kt {Ps : List Addr} {H H' : Hp} (t : TG Ps H) (s : Sx Ps H H') : Kt H H' := fun b xs h => s b _ (t.not h fun q z => nomatch z) h
theorem Sx.lst {Ps : List Addr} {H H' : Hp} {b : Addr} {xs : List V} (t : TG Ps H) (s : Sx Ps H H') (h : H b = some (.lst xs)) : H' b = some (.lst xs) := s b _ (t.not h fun q z => nomatch z) h
theorem Sx.new {Ps : List Addr} {H H1 : Hp} {p : Addr} {o : HO} (s : Sx Ps H H1) (n : H1 p = none) : Sx Ps H (upd H1 p o) := fun b x nb h => keep_new (s b x nb h) n
theorem Sx.mut {Ps : List Addr} {H H1 : Hp} {p : Addr} {o : HO} (s : Sx Ps H H1) (n : H p = none) : Sx Ps H (upd H1 p o) := fun b x nb h => keep_ne (s b x nb h) (ne_of_none h n)
theorem Sx.free {Ps : List Addr} {H H' : Hp} {p : Addr} (t : TG Ps H') (s : Sx Ps H H') (h : H' p = none) : H p = none := by
  cases q : H p with
  | none => rfl
  | some o =>
    by_cases hp : p ∈ Ps
    · obtain ⟨ps, h2, _⟩ := t p hp
      rw [h] at h2
      cases h2
    · rw [s p o hp q] at h
      cases h
/-- one table of them has grown -/
theorem Tabbed.sx {Ps : List Addr} {P : Addr} {H H' : Hp} (hP : P ∈ Ps) (t : GxR.Tabbed P H H') : Sx Ps H H' := fun b o nb h => by
  rw [t.2 b fun z => nb (z ▸ hP)]
  exact h
theorem Tabbed.tg {Ps : List Addr} {P : Addr} {H H' : Hp} (g : TG Ps H) (t : GxR.Tabbed P H H') : TG Ps H' := fun P' hP' => by
  by_cases e : P' = P
  · rw [e]
    exact t.1
  · obtain ⟨ps, h, q⟩ := g P' hP'
    exact ⟨ps, (t.2 P' e).trans h, q⟩
/-! ### a def whose code object is told -/
def FunC (K : PySem.W.Frag) (x qual : Str) (st : Stmt) (f : Addr) (fd : FuncData) (c : Addr) : Prop :=
  ∃ (oc : Value) (od : Option Addr) (kV doc pm : Value) (an : Option Addr) (ct : Value) (osl : Array (Option Value)), fd = PySem.W.fnOf x qual (defArgs st) (defBody st) (defScope st) .none kV doc pm an (.ref c) ct ∧ K.lookup f = some ⟨oc, od, .func fd, osl⟩ ∧ PySem.W.codeIn K (.ref c) qual = true
theorem FunC.ok {P : Program} {w : World} {K : PySem.W.Frag} {mg : Str → Option Value} {base : Heap} {x qual : Str} {st : Stmt} {f c : Addr} {fd : FuncData} {N ps : List Str} {k : Nat} {sp : Sp} (F : FunC K x qual st f fd c) (S : FnScope N ps (defScope st)) (len : ∀ vs H Q E, sp vs H Q E → vs.length = ps.length)
    (hbody : ∀ (A : Around) (outer : List Env) (s : Shared) (H : Hp) (vs : List V) (Q : VK) (E : XK), Room k (A.deeper (envOfC qual (defScope st) s.heap.objs.size f (.ref c))) → sp vs H Q E →
      ∃ t, PSs (cxOf CX0 P w K mg base N qual (defScope st) f (.ref c) A outer s H E).nox (defBody st) t ∧ t { nx := fun _ H' => Q .non H', rt := Q } (start N vs) H) : FnOk P w K mg base CX0 (k + 1) f fd ps sp := by
  obtain ⟨oc, od, kV, doc, pm, an, ct, osl, rfl, lk, hcd⟩ := F
  refine fn_of lk hcd S len fun A outer s H vs Q E hr hsp => ?_
  obtain ⟨t, h, q⟩ := hbody A outer s H vs Q E hr hsp
  exact ⟨t, h.nox, q⟩
theorem FunC.fn {K : PySem.W.Frag} {x qual : Str} {st : Stmt} {f c : Addr} {fd : FuncData} (F : FunC K x qual st f fd c) (k : PySem.W.keepIn K (.ref f) = true) : Fun K x qual st f fd := by
  obtain ⟨oc, od, kV, doc, pm, an, ct, osl, e, lk, hcd⟩ := F
  exact ⟨⟨oc, od, kV, doc, pm, an, .ref c, ct, osl, e, lk, hcd⟩, k⟩
/-- the generator expression's scope within a def's -/
def genC (sc scope : Scope) (x : Str) : Bool :=
  (match scope.kind with | .function => true | _ => false) && !scope.isCoroutine && (scope.names.all fun y => match y.2 with | .cell => false | .free => (match sc.names.lookup y.1 with | some .cell => true | _ => false) | _ => true) &&
    (match scope.names.lookup (".0" : Str) with | some .local => true | _ => false) && (match scope.names.lookup x with | some .local => true | _ => false)
theorem genS_by {sc scope : Scope} {x : Str} {env : Env} {n : Nat} (h : genC sc scope x = true) (hc : env.cells = cellsFrom n sc.names []) : GxR.GenS env scope x := by
  unfold genC at h
  simp only [Bool.and_eq_true] at h
  obtain ⟨⟨⟨⟨h1, h2⟩, h3⟩, h4⟩, h5⟩ := h
  rw [List.all_eq_true] at h3
  refine ⟨?_, ?_, fun y hy z => ?_, ?_, ?_, fun y hy z => ?_⟩
  · revert h1
    cases scope.kind <;> simp
  · simpa using h2
  · have := h3 y hy
    rw [z] at this
    cases this
  · revert h4
    cases scope.names.lookup (".0" : Str) with
    | none => simp
    | some k => cases k <;> simp
  · revert h5
    cases scope.names.lookup x with
    | none => simp
    | some k => cases k <;> simp
  · have q := h3 y hy
    rw [z] at q
    have q2 : sc.names.lookup y.1 = some .cell := by
      revert q
      cases sc.names.lookup y.1 with
      | none => simp
      | some k => cases k <;> simp
    have := PySem.W.cellsFrom_some sc.names n [] (.inl q2)
    rw [hc]
    exact Option.isSome_iff_exists.mp this
/-! ### the generator expressions that we met -/
/-! ### the end: the tables of all defs are empty -/
def OwnTC (K : PySem.W.Frag) (fa : Addr) (h : Heap) : Prop := ∀ (c P : Addr) (o : Obj) (fd : FuncData) (e : Value) (dd : Option Addr) (vs : Array Value) (sl : Array (Option Value)), K.lookup fa = some o → o.data = .func fd → fd.code = .ref c → K.lookup c = some ⟨e, dd, .fields vs, sl⟩ → vs[11]? = some (.ref P) →
  h.get? P = some { cls := .none, data := .fields #[] } ∧ PySem.W.CodeHd h c P
/-- the table of each def that the top has bound is empty, and its code object shows it -/
theorem own_of {q : Program} {loose : List Str} {mean : ExcName → Option Value} {mg mb : Str → Option Value} {h : Heap} {K : PySem.W.Frag} (KX : K.In h) (T : Top q loose mean mg mb h) {nm : Str} {fb : Addr} (hr : ((recsOf q).any fun e => e.name == nm) = true) (hm : mg nm = some (.ref fb)) : OwnTC K fb h := by
  intro c P o fd e dd vs sl lf df cf lc at11
  obtain ⟨d, hd, en⟩ := List.any_eq_true.mp hr
  obtain ⟨fb', o', fd', c', P', h1, h2, h3, h4, isC, isT⟩ := T.tab d hd
  obtain rfl : fb = fb' := Value.ref.inj (Option.some.inj (hm.symm.trans ((congrArg mg (beq_iff_eq.mp en)).symm.trans h1)))
  obtain rfl : o = o' := Option.some.inj ((KX _ _ lf).symm.trans h2)
  obtain rfl : fd = fd' := Data.func.inj (df.symm.trans h3)
  obtain rfl : c = c' := Value.ref.inj (cf.symm.trans h4)
  have hd := PySem.W.CodeHd.of isC isT
  obtain ⟨⟨oc, vc, g1, _, g3, g4⟩, empty⟩ := isT
  obtain rfl := Option.some.inj ((KX _ _ lc).symm.trans g1)
  obtain rfl : vs = vc := Data.fields.inj g3
  obtain rfl : P = P' := Value.ref.inj (Option.some.inj (at11.symm.trans g4))
  exact ⟨empty, hd⟩
theorem walk_ofTabs {l : PySem.W.OpenLaw} {n k : Nat} {q : Program} {loose : List Str} {XP : (Str → Option Value) → Heap → Prop} {YP : World → Heap → Prop} {d : DefRec} {K : Params → PySem.W.Frag} {CX : World → CXT} {x : Str}
    (most : l.most = some n) (short : n ≤ sizeLine) (plain : d.params.defaults = []) (room : Room k callerA) (inK : ∀ (w : World) (h : Heap), YP w h → (K w.params).In h)
    (F : ∀ (w : World) (mg : Str → Option Value) (fa : Addr) (h : Heap), YP w h → (K w.params).In h → h.Ns mainGlobals mg → mg d.name = some (.ref fa) →
      (∀ (nm : Str) (fb : Addr), ((recsOf q).any fun e => e.name == nm) = true → mg nm = some (.ref fb) → OwnTC (K w.params) fb h) → LamX.LawAtS l w (K w.params) (CX w) k n x mg fa h)
    (calm : ∀ (w : World) (H : Hp) (s : Shared) (e : Value) (s' : Shared), CX w [] H s (fun _ _ _ => False) e s' → False) :
    PySem.W.WalkO q loose XP YP l.row.toRowW d [] (fun f vs => PySem.call f vs) :=
  Att.attach_callB most plain fun w _ s₁ _ _ _ _ _ _ _ a _ ns G Y _ _ _ mgF obj isInts len bits gens =>
    have KX := inK w _ Y
    let ⟨_, _, _, empty, out, code, bind, pre, ok⟩ := F w _ _ _ Y KX G.T.g mgF fun _ _ => own_of KX G.T
    LamX.law_callTs KX G.T.g G.T.b G.T.builtins G.T.nolimit gens empty out code G.T.bmain obj isInts (Nat.le_trans len short) room ok bind (fun H tabs list => pre H a ns len bits tabs list) fun H e s' => calm w H s₁ e s'
end My

set_option Elab.async false
set_option linter.all false
set_option maxRecDepth 100000
set_option maxHeartbeats 2000000
namespace My
open PySem PySem.Spec PyProof.Rows L2
/-! ### texts by their codes -/
theorem inV_signs (c : Nat) : ∀ l : List Nat, inV (sg c) (l.map sg) = decide (c ∈ l)
  | [] => rfl
  | d :: l => by
    have ih := inV_signs c l
    show (((sS d) == (sS c)) || inV (sg c) (l.map sg)) = decide (c ∈ d :: l)
    rw [ih]
    by_cases e : d = c
    · rw [e]
      simp
    · have e2 : ((sS d) == (sS c)) = false := by
        rw [Bool.eq_false_iff]
        intro z
        exact e (sS_inj (by simpa using z))
      have e3 : ¬ c = d := fun z => e z.symm
      rw [e2]
      simp [e3]
theorem flat_signs (l : List Nat) : (l.map sg).all flatV = true := by
  rw [List.all_map, List.all_eq_true]
  intro c _
  rfl
theorem cut_take (l : List Nat) (k : Nat) : cutS ⟨l.toArray⟩ none (some (k : Int)) = ⟨(l.take k).toArray⟩ := by
  unfold cutS
  rw [HT.sIx_none, HT.sIx_nat]
  show (⟨((l.toArray.toList.drop 0).take (min k l.toArray.size - 0)).toArray⟩ : Str) = _
  have e1 : l.toArray.toList = l := by simp
  have e2 : l.toArray.size = l.length := by simp
  rw [e1, e2, List.drop_zero, Nat.sub_zero]
  congr 2
  rw [List.take_eq_take_iff]
  omega
theorem tx_inj {a b : List Nat} (h : tx a = tx b) : a = b := by
  have h2 : (⟨a.toArray⟩ : Str) = ⟨b.toArray⟩ := V.str.inj h
  have h3 : a.toArray = b.toArray := congrArg Str.cps h2
  simpa using h3
/-! ### the letters that a question uses -/
section
variable (K : PySem.W.Frag) {X : Cx}
end
/-! ### the bounds that a question asks of a letter -/
def spanOf (es : List (Nat × Int)) (rc : Option (Nat × Int × Int)) (c : Nat) : Int × Int := match (spanL es rc).find? (fun t => decide (t.1 = c)) with
  | some t => t.2
  | none => (0, 0)
theorem TG.mut {Ps : List Addr} {H : Hp} {p : Addr} {xs : List V} {o : HO} (t : TG Ps H) (h : H p = some (.lst xs)) : TG Ps (upd H p o) := fun P hP => by
  obtain ⟨ps, h2, q⟩ := t P hP
  refine ⟨ps, ?_, q⟩
  rw [upd_ne (fun z => ?_)]
  · exact h2
  · rw [z, h] at h2
    cases h2
/-! ### stretches -/
end My

set_option Elab.async false
set_option linter.all false
set_option maxRecDepth 100000
set_option maxHeartbeats 2000000
namespace My
open PySem PySem.Spec PyProof.Rows L2
/-! ### tuples whose own object is told: without a dict of its own -/
section
variable (K : PySem.W.Frag) {X : Cx}
end
/-! ### questions: their equals are such a tuple -/
def KT (H H' : Hp) : Prop := Kt H H' ∧ ∀ b o xs, H b = some (.frz o (.tup xs)) → H' b = some (.frz o (.tup xs))
theorem KT.rfl' {H : Hp} : KT H H := ⟨Kt.rfl', fun _ _ _ h => h⟩
theorem KT.trans {H H1 H2 : Hp} (a : KT H H1) (b : KT H1 H2) : KT H H2 := ⟨a.1.trans b.1, fun c o xs h => b.2 c o xs (a.2 c o xs h)⟩
theorem Same.kT {H H' : Hp} (s : Same H H') : KT H H' := ⟨Same.kt s, fun b o xs h => s b _ h⟩
theorem Kp.kT {r : Addr} {H H' : Hp} {xs : List V} (k : Kp r H H') (hr : H r = some (.lst xs)) : KT H H' := ⟨k.kt hr, fun b o ys h => k b _ (fun z => by
  rw [z, hr] at h
  cases h) h⟩
theorem Sx.kT {Ps : List Addr} {H H' : Hp} (t : TG Ps H) (s : Sx Ps H H') : KT H H' := ⟨s.kt t, fun b o xs h => s b _ (t.not h fun q z => nomatch z) h⟩
theorem KT.new {H : Hp} {p : Addr} {o : HO} (n : H p = none) : KT H (upd H p o) := ⟨Kt.new n, fun b u xs h => keep_new h n⟩
theorem KT.lst {H : Hp} {p : Addr} {xs : List V} {o : HO} (n : H p = some (.lst xs)) : KT H (upd H p o) := ⟨Kt.lst n, fun b u ys h => keep_ne h fun z => by
  rw [z, n] at h
  cases h⟩
end My

set_option Elab.async false
set_option linter.all false
set_option maxRecDepth 100000
set_option maxHeartbeats 2000000
namespace My
open PySem PySem.Spec PyProof.Rows L2
section
variable (K : PySem.W.Frag) {X : Cx}
end
/-! ### the order of keys, by a sign -/
def sgn (k lo hi : Int) : Int := (if decide (hi < k) = true then 1 else 0) - (if decide (k < lo) = true then 1 else 0)
def signF (k lo hi : Nat → Int) (u : List Nat) (s : Int) : Int := u.foldl (fun s c => if s = 0 then sgn (k c) (lo c) (hi c) else s) s
def signM (cols : List Nat) (row : List Int) (es : List (Nat × Int)) (rc : Option (Nat × Int × Int)) (u : List Nat) : Int := signF (rowAt cols row) (fun c => (spanOf es rc c).1) (fun c => (spanOf es rc c).2) u 0
end My

set_option Elab.async false
set_option linter.all false
set_option maxRecDepth 100000
set_option maxHeartbeats 2000000
namespace My
open PySem PySem.Spec PyProof.Rows L2
section
variable (K : PySem.W.Frag) {X : Cx}
theorem slLK (hK : X.K = K := by rfl) : SlR X (rSlL K) := by
  subst hK
  exact sl_list
end
/-! ### what a stretch of the sorted rows holds -/
def below (cols : List Nat) (rows : List (List Int)) (es : List (Nat × Int)) (rc : Option (Nat × Int × Int)) (u : List Nat) (n : Int) (o : Nat) : Bool := decide (signM cols (rows.getD o []) es rc u < n)
end My

set_option Elab.async false
set_option linter.all false
set_option maxRecDepth 100000
set_option maxHeartbeats 2000000
namespace My
open PySem PySem.Spec PyProof.Rows L2
theorem nodup_sub_len : ∀ {l m : List Nat}, l.Nodup → (∀ c ∈ l, c ∈ m) → l.length ≤ m.length
  | [], _, _, _ => Nat.zero_le _
  | a :: l, m, h, hs => by
    have h2 := List.nodup_cons.mp h
    have ha := hs a (by simp)
    have ih := nodup_sub_len (m := m.erase a) h2.2 (fun c hc => (List.mem_erase_of_ne (fun e => h2.1 (by rw [← e]; exact hc))).mpr (hs c (by simp [hc])))
    rw [List.length_erase_of_mem ha] at ih
    have hp : 0 < m.length := List.length_pos_of_mem ha
    rw [List.length_cons]
    omega
end My

set_option Elab.async false
set_option linter.all false
set_option maxRecDepth 100000
set_option maxHeartbeats 2000000
namespace My
open PySem PySem.Spec PyProof.Rows L2
section
variable {X : Cx}
/-! ### text[::-1] -/
theorem fm_all (l : List Nat) : (List.range l.length).filterMap (l[·]?) = l := by
  induction l with
  | nil => rfl
  | cons a l ih =>
    rw [List.length_cons, List.range_succ_eq_map, List.filterMap_cons]
    show a :: List.filterMap _ _ = _
    rw [List.filterMap_map]
    congr 1
theorem rev_pick (l : List Nat) : (Builtin.Str.strSliceIndices none none (-1) l.length).filterMap (l[·]?) = l.reverse := by
  have e : Builtin.Str.strSliceIndices none none (-1) l.length = sliceRange ((l.length : Int) - 1) (-1) (-1) := rfl
  rw [e, PySem.W.krv_sliceRange, PySem.W.krv_range, List.filterMap_reverse, fm_all]
/-- the slice ::-1 as it stands behind its making -/
theorem ev_back {pins : List (Addr × Obj)} {σ : L2.St} {H : Hp} {s : Shared} {k : Nat} {p1 p2 p3 : Pos} {Q' : Value → Shared → Prop} (I : Inv X pins σ H s)
    (goal : ∀ (tk : Tok) (s2 : Shared), Inv X pins σ H s2 → Q' (.ref s2.heap.objs.size) { s2 with heap := s2.heap.push { cls := .type "slice", data := .fields #[.none, .none, .int (-1) tk] } }) :
    wpAny (model X.prog X.w) X.A (eval (.Slice none none (some (.UnaryOp .USub (.Constant (.int 1) k p1) p2)) p3) X.env) Q' X.xe s := by
  refine wpAny_Slice ?_
  rw [evalPart_none, evalPart_some]
  refine wpAny_pure (wpAny_pure (thn ((pe_un un_neg pe_int).run pins s σ H (fun x G => x = .int (-1) ∧ G = H) I ⟨1, rfl, rfl, rfl⟩) ?_))
  rintro u s2 ⟨x, G, I2, r, rfl, rfl⟩
  obtain ⟨tk, rfl⟩ := r
  exact goal tk s2 I2
def tRevS (te : TE) : TE := fun σ H Q => te σ H fun x H1 => ∃ l : List Nat, x = tx l ∧ l.length ≤ sizeLine ∧ Q (tx l.reverse) H1
theorem pe_revS {e : Expr} {te : TE} {k : Nat} {p1 p2 p3 pos : Pos} (he : PE X e te) : PE X (.Subscript e (.Slice none none (some (.UnaryOp .USub (.Constant (.int 1) k p1) p2)) p3) pos) (tRevS te) := by
  refine ⟨fun pins s σ H Q I h => Subscript_ (thn (he.run pins s σ H _ I h) ?_)⟩
  rintro _ s1 ⟨_, H1, I1, r1, l, rfl, hl, q⟩
  obtain ⟨t, rfl⟩ := r1
  refine ev_back I1 fun tk s4 I4 => ?_
  have I5 : Inv X pins σ H1 { s4 with heap := s4.heap.push { cls := .type "slice", data := .fields #[.none, .none, .int (-1) tk] } } := I4.kept fun _ _ => Heap.get?_push_of_some _
  refine tail_any (ops := [.str ⟨l.toArray⟩ t, .ref s4.heap.objs.size]) (typeIs_str _ _ _) F.slot_str_getitem.lookup ?_ (by with_unfolding_all rfl)
  refine wpAny_getItem_str_slice (l := none) (u := none) (st := some (-1, tk)) ⟨_, Heap.get?_push_size _ rfl, rfl, rfl⟩ rfl ?_
  have ep : ((Builtin.Str.strSliceIndices none none (-1) (⟨l.toArray⟩ : Str).length).filterMap ((⟨l.toArray⟩ : Str).cps[·]?)).toArray = l.reverse.toArray := by
    have e3 : (⟨l.toArray⟩ : Str).length = l.length := by simp [Str.length]
    rw [e3]
    congr 1
    rw [← rev_pick l]
    congr 1
    funext i
    simp
  show Made.post (if ((-1 : Int) == 1 && (Builtin.Str.strSliceIndices none none (-1) (⟨l.toArray⟩ : Str).length).length == (⟨l.toArray⟩ : Str).length) = true then Made.val (.str ⟨l.toArray⟩ t)
    else Made.str ⟨((Builtin.Str.strSliceIndices none none (-1) (⟨l.toArray⟩ : Str).length).filterMap ((⟨l.toArray⟩ : Str).cps[·]?)).toArray⟩) (EP X pins σ Q) _
  have c0 : ((-1 : Int) == 1) = false := by decide
  rw [c0, Bool.false_and, if_neg Bool.false_ne_true, ep]
  exact ⟨by show l.reverse.toArray.size ≤ sizeLine; simpa using hl, .str _, H1, I5.tok _, ⟨_, rfl⟩, q⟩
end
section
variable {prog : Program} {w : World} {A : Around} {E : Value → Shared → Prop} {s : Shared}
/-- sorted of what is collected as fewer than 64 texts -/
theorem sorted_texts {x : Value} {Q : Value → Shared → Prop} (got : wpAny (model prog w) A.in1 (collect x) (fun out s1 => ∃ zs, StrsAre out zs ∧ out.length < 64 ∧ ∀ (ys : List Str) (us : List Value) (c : Nat) (h' : Heap),
      StrsAre us ys → ys.Perm zs → sortedS ys = true → h'.get? s1.heap.objs.size = some (seqObj "list" us.toArray c) → (∀ b u, s1.heap.get? b = some u → h'.get? b = some u) → Q (.ref s1.heap.objs.size) { s1 with heap := h' }) E s) :
    wpAny (model prog w) A (call (.builtin "sorted") [x]) Q E s := by
  refine Calls.call_function_entry kind_sorted plain_sorted entry_sorted (args_sorted1 _) (wpAny_bind (wpAny_pure (wpAny_bind (wpAny_mono got ?_ fun _ _ z => z))))
  rintro out s1 ⟨zs, ht, l64, goal⟩
  have le : out.length ≤ sizeLine := by rw [sizeLine_eq]; omega
  refine wpAny_bind (wpAny_newList ?_ le)
  have hp : (s1.heap.push (seqObj "list" out.toArray 0)).get? s1.heap.objs.size = some (seqObj "list" out.toArray 0) := Heap.get?_push_size _ rfl
  refine wpAny_bind (wpAny_holding (wpAny_call_entry slot_list_sort ⟨_, hp, rfl⟩ entry_list_sort (list_sort_treeK strKind_oneLt (s := { s1 with heap := _ }) hp ht.keysOf (fun _ _ _ e => keyKind_strs (e ▸ ht)) l64 fun st pm so => ⟨_, rfl, ?_⟩) (args_list_sort _)))
  have ⟨ys, y1, y2, y3⟩ := sorted_out_str ht pm so
  have ⟨c, hc⟩ := sortedHeap_at (vs := out) (out := (arrOf st).map (·.2)) hp
  refine wpAny_pure ⟨_, rfl, goal ys _ c _ y1 y2 y3 (by rw [Array.toArray_toList]; exact hc) fun b u e => ?_⟩
  have lt := Heap.lt_size e
  exact (sortedHeap_old (Nat.ne_of_lt lt) (by rw [size_push']; exact Nat.lt_succ_of_lt lt)).trans (Heap.get?_push_of_some _ e)
end
section
variable {X : Cx}
/-! ### sorted(text) -/
def rSortTx : List V → Hp → VK → Prop := fun xs H Q => ∃ l : List Nat, xs = [tx l] ∧ l.length < 64 ∧ ∀ (l' : List Nat) (p : Addr), l'.Perm l → l'.Pairwise (· ≤ ·) → H p = none → Q (.ref p) (upd H p (.lst (l'.map sg)))
theorem cSortTx (hcalm : X.calm = true := by rfl) : CallR X (.builtin "sorted") rSortTx := by
  rintro pins s σ H xs us Q I r ⟨l, rfl, l64, q⟩
  obtain ⟨_, rfl, t, rfl⟩ := vals1 r
  have n : (⟨l.toArray⟩ : Str).cps.size = l.length := by simp
  have few : l.length ≤ sizeLine := by rw [sizeLine_eq]; omega
  refine sorted_texts (wpAny_collect_str (A := X.A.in1) (I.ok.hd hcalm) ⟨l.toArray⟩ t (fun s1 acc old hg hd ho hacc => ?_) (n ▸ few))
  obtain ⟨h1, g, d, tk, os⟩ := s1
  obtain ⟨rfl, rfl, rfl⟩ : g = s.gens ∧ d = s.drawn ∧ os = s.os := ⟨hg, hd, ho⟩
  have I1 : Inv X pins σ H { s with heap := h1, toks := tk } := I.kept old
  have hv := signs_vals hacc
  rw [show (⟨l.toArray⟩ : Str).cps.toList.map sg = (l.map sS).map V.str from map_sg ..] at hv
  refine ⟨l.map sS, hv.strs, by rw [Array.length_toList, hacc.1, n]; exact l64, fun ys us c h' y1 y2 y3 hp old2 => ?_⟩
  obtain ⟨l', rfl, pm⟩ := perm_signs y2
  have vs := vals_of_strs y1
  rw [← map_sg] at vs
  exact ⟨.ref h1.objs.size, _, I1.laid (t' := tk) (o := .lst (l'.map sg)) old2 (Nat.le_refl _) ⟨by rw [List.length_map, pm.length_eq]; exact few, us, c, vs, hp⟩, rfl, q l' _ pm (sorted_signs l' y3) (I1.hok.fresh (Nat.le_refl _))⟩
end
theorem eqvA_signs : ∀ ns ms : List Nat, PyData.eqvAll (ns.map fun c => PyData.str (sS c)) (ms.map fun c => PyData.str (sS c)) = decide (ns = ms)
  | [], [] => rfl
  | [], m :: ms => by
    show false = _
    simp
  | n :: ns, [] => by
    show false = _
    simp
  | n :: ns, m :: ms => by
    show (PyData.eqv (.str (sS n)) (.str (sS m)) && PyData.eqvAll (ns.map fun c => PyData.str (sS c)) (ms.map fun c => PyData.str (sS c))) = _
    rw [eqvA_signs ns ms]
    show ((sS n == sS m) && _) = _
    by_cases e : n = m
    · subst e
      simp
    · have e2 : (sS n == sS m) = false := by
        rw [Bool.eq_false_iff]
        intro z
        exact e (sS_inj (by simpa using z))
      rw [e2]
      simp [e]
theorem eqv_signs (ns ms : List Nat) : PyData.eqv (.list (ns.map fun c => PyData.str (sS c))) (.list (ms.map fun c => PyData.str (sS c))) = decide (ns = ms) := eqvA_signs ns ms
theorem le_perm_eq : ∀ {l m : List Nat}, l.Perm m → l.Pairwise (· ≤ ·) → m.Pairwise (· ≤ ·) → l = m := fun h h1 h2 => List.Perm.eq_of_pairwise (le := fun a b => a ≤ b) (fun a b _ _ h3 h4 => Nat.le_antisymm h3 h4) h1 h2 h
end My

set_option Elab.async false
set_option linter.all false
set_option maxRecDepth 100000
set_option maxHeartbeats 2000000
namespace My
open PySem PySem.Spec PyProof.Rows L2
section
variable (K : PySem.W.Frag) {X : Cx}
/-! ### the least of a list -/
end
/-! ### keys of a merged dict -/
/-! ### choices: texts in a row -/
abbrev txS (l : List Nat) : Str := ⟨l.toArray⟩
theorem txS_inj {a b : List Nat} (h : txS a = txS b) : a = b := tx_inj (congrArg V.str h)
/-! ### prices -/
end My

set_option Elab.async false
set_option linter.all false
set_option maxRecDepth 100000
set_option maxHeartbeats 2000000
namespace My
open PySem PySem.Spec PyProof.Rows L2
theorem signs_len (l : List Nat) : ((l.map sS).map fun x : Str => x.length).sum = l.length := by
  induction l with
  | nil => rfl
  | cons a k ih =>
    rw [List.map_cons, List.map_cons, List.sum_cons, ih, List.length_cons]
    show 1 + k.length = k.length + 1
    omega
/-! ### texts cut -/
theorem cut_from (l : List Nat) (a : Nat) : cutS ⟨l.toArray⟩ (some (a : Int)) none = ⟨(l.drop a).toArray⟩ := by
  unfold cutS
  rw [HT.sIx_nat, HT.sIx_none]
  have e1 : (⟨l.toArray⟩ : Str).cps.toList = l := by simp
  have e2 : (⟨l.toArray⟩ : Str).length = l.length := by simp [Str.length]
  rw [e1, e2]
  congr 2
  by_cases h : a ≤ l.length
  · rw [Nat.min_eq_left h, List.take_of_length_le (by rw [List.length_drop]; omega)]
  · rw [List.drop_of_length_le (by omega), List.drop_of_length_le (by omega), List.take_nil]
theorem starts_txt (a b : List Nat) : Txt.startswith (txS a) (txS b) = decide (a.take b.length = b) := by
  unfold Txt.startswith
  rw [PySem.StrLaws.subAt_eq]
  have e1 : (txS a).cps.toList = a := by simp
  have e2 : (txS b).cps.toList = b := by simp
  have e3 : (txS a).length = a.length := by simp [Str.length]
  have e4 : (txS b).length = b.length := by simp [Str.length]
  rw [e1, e2, e3, e4, List.drop_zero, Nat.zero_add]
  by_cases h : a.take b.length = b
  · have hl : b.length ≤ a.length := by
      have := congrArg List.length h
      rw [List.length_take] at this
      omega
    rw [decide_eq_true h, decide_eq_true hl, h]
    simp
  · rw [decide_eq_false h]
    have : (a.take b.length == b) = false := by simpa using h
    rw [this, Bool.and_false]
/-! ### list(x), x a text or a row -/
/-! ### a need and a list: two ways to look -/
def snM (one es rc : List Nat) : Bool := decide ((one.take es.length).Perm es) && decide ((one.drop es.length).take rc.length = rc)
end My

set_option Elab.async false
set_option linter.all false
set_option maxRecDepth 100000
set_option maxHeartbeats 2000000
namespace My
open PySem PySem.Spec PyProof.Rows L2
/-! ### generator expressions whose element calls defs -/
/-- the context of a generator expression's own frame -/
abbrev gxC (X : Cx) (A : Around) (s : Shared) (H : Hp) (cenv : Env) (fp : List Addr) (pn : List (Addr × Obj)) : Cx :=
  { X with A := A, s_0 := s, H_0 := H, env := cenv, outer := X.stack, stack := cenv :: X.stack, ex := fp, fn := fun _ => false, pn := pn, xe := fun _ _ => False }
theorem over_gen {A : Around} {elt : Expr} {gs : List Comprehension} {scope : Scope} {pos : Pos} {it acc : Value} {env : Env} : A.over (.compLoop (.GeneratorExp elt gs scope pos) 0 it acc env) [] = A.deeper env := rfl
section
variable {X : Cx} {pins : List (Addr × Obj)} {σ : L2.St} {H : Hp} {s : Shared}
/-- what its consumer wrote at S while it slept -/
theorem woke {S : Addr} {o o' : Obj} {pins0 : List (Addr × Obj)} {s' : Shared} (I : Inv X ((S, o) :: pins0) σ H s) (h0 : X.s_0.heap.objs.size ≤ S) (hc : ∀ x c, X.env.cells.lookup x = some c → c ≠ S) (hpn : ∀ p ∈ X.pn ++ pins0, p.1 ≠ S)
    (os : s'.os = s.os) (bare : AllBare s'.gens) (keep : ∀ b u, b ≠ S → s.heap.get? b = some u → s'.heap.get? b = some u) (own : s'.heap.get? S = some o') (hd : ∀ v, o'.data ≠ .cell v) : Inv X ((S, o') :: pins0) σ H s' := by
  obtain ⟨p1, p2, p3, p4, p5⟩ := I.pin (S, o) (List.mem_append_right _ List.mem_cons_self)
  have I0 : Inv X pins0 σ H s := I.pins_of fun p hp => I.pin p (List.mem_append_right _ (List.mem_cons_of_mem _ hp))
  have J : Inv X pins0 σ H { s with heap := s'.heap, toks := s.toks } := I0.turned (t' := s.toks) keep p2 p3 (.inr h0) hc hpn
  have J2 : Inv X pins0 σ H s' := J.call' (ch := []) os (Un.kept fun b o e => e) J.hok bare (fun b hb => absurd hb (by simp))
  refine J2.pins_of fun p hp => ?_
  rcases List.mem_cons.mp hp with z | z
  · rw [z]
    exact ⟨own, p2, p3, p4, hd⟩
  · exact J2.pin p (List.mem_append_right _ z)
/-- a scope without cells makes none -/
theorem none_made : ∀ {names : List (Str × NameKind)}, (∀ y ∈ names, y.2 ≠ .cell) → (∀ n acc, cellsFrom n names acc = acc) ∧ ∀ h, pushCells h names = h
  | [], _ => ⟨fun _ _ => rfl, fun _ => rfl⟩
  | y :: r, no => by
    have hy : (y.2 == NameKind.cell) = false := beq_eq_false_iff_ne.mpr (no y List.mem_cons_self)
    have ⟨p, q⟩ := none_made (names := r) fun z hz => no z (List.mem_cons_of_mem y hz)
    exact ⟨fun n acc => by rw [cellsFrom, hy]; exact p n acc, fun h => by rw [pushCells, hy]; exact q h⟩
/-- names keep their places when only their kinds change -/
theorem lookup_kinds {f : Str × NameKind → Str × NameKind} (same : ∀ p, (f p).1 = p.1) {x : Str} {k : NameKind} : ∀ {names : List (Str × NameKind)}, names.lookup x = some k → (names.map f).lookup x = some (f (x, k)).2
  | [], e => nomatch e
  | (n, j) :: r, e => by
    rw [List.map_cons, show f (n, j) = (n, (f (n, j)).2) from Prod.ext (same _) rfl]
    cases hx : x == n with
    | true =>
      rw [List.lookup_cons, hx] at e ⊢
      obtain rfl : j = k := Option.some.inj e
      rw [eq_of_beq hx]
    | false =>
      rw [List.lookup_cons, hx] at e ⊢
      exact lookup_kinds same e
/-- a free name stays free or is a cell in the block's scope -/
theorem relab_free {env : Env} {scope : Scope} {x : Str} (e : scope.names.lookup x = some .free) : (relabel scope env).names.lookup x = some .cell ∨ (relabel scope env).names.lookup x = some .free := by
  unfold relabel
  rw [lookup_kinds (fun p => ?_) e]
  · dsimp only
    split
    · exact .inl rfl
    · exact .inr rfl
  · dsimp only
    split <;> rfl
/-- the generator's frame as it begins: what a block's frame would know, with the iterator under its own name -/
theorem gx_start {scope : Scope} {own : List (Str × Nat)} {fp : List Addr} {A : Around} {code : Value} {it : Value} {h' : Heap} {go : Obj} {G : Array GenState} {tk : Nat} (I : Inv X pins σ H s) (ok : BlkOk X.N X.env.scope scope own) (hcell : ∀ y ∈ scope.names, y.2 ≠ .cell) (hN : X.N.Nodup)
    (hfp : ∀ b ∈ fp, FpOk X pins H b ∧ b < s.heap.objs.size) (hA : A.handled = none) (hfr : A.frames = some X.stack) (hn : h'.Ns s.heap.objs.size (fun y => if y = ".0" then some it else none))
    (hs : Heap.SameBut s.heap.objs.size (s.heap.push { cls := .type "frame", data := .dict #[] }) h') (hG : AllBare G) (hgp : (h'.push go).get? h'.objs.size = some go) (hgd : ∀ v, go.data ≠ .cell v) :
    Inv (gxC X (A.deeper (genEnv scope (cloFrom X.env.cells scope.names []) s.heap.objs.size code builtinsNs X.env)) s H (genEnv scope (cloFrom X.env.cells scope.names []) s.heap.objs.size code builtinsNs X.env) fp [(h'.objs.size, go)]) [] (wipe σ (own.map (·.2))) H
      { s with gens := G, toks := tk, heap := h'.push go } := by
  have J := block_start I ok hN hfp
  rw [(none_made hcell).1, (none_made hcell).2] at J
  have lt : s.heap.objs.size < h'.objs.size := hn.lt
  have kp : ∀ b o, s.heap.get? b = some o → (h'.push go).get? b = some o := fun b o e => Heap.get?_push_of_some _ (hs.extBut b o (Nat.ne_of_lt (Heap.lt_size e)) (Heap.get?_push_of_some _ e))
  have cells : ∀ {c : Addr} {v : Option Value}, (s.heap.push { cls := .type "dict", data := .dict #[] }).IsCell c v → (h'.push go).IsCell c v := by
    rintro c v ⟨o, e, d⟩
    have ne : c ≠ s.heap.objs.size := fun z => by
      rw [z, Heap.get?_push_size _ rfl] at e
      rw [← Option.some.inj e] at d
      cases d
    exact ⟨o, kp c o (Heap.get?_push_ne _ _ _ ne ▸ e), d⟩
  have outside : ∀ {y : Str}, scope.names.lookup y = some .cell ∨ scope.names.lookup y = some .free → (relabel scope X.env).names.lookup y = some .cell ∨ (relabel scope X.env).names.lookup y = some .free := fun z => z.elim (fun e => absurd rfl (hcell _ (PySem.mem_of_lookup e))) relab_free
  refine { ok := { mod := J.ok.mod, kind := ok.kind, glob := J.ok.glob, blt := rfl, above := Nat.le_refl _, inj := J.ok.inj, has := fun y z => J.ok.has y (outside z), cab := (fun _ _ z => nomatch z), hd := fun _ => hA, frames := Around.frames_deeper hfr, stk := .inr ⟨rfl, rfl⟩,
                   exf := J.ok.exf, bs := J.ok.bs, bsz := J.ok.bsz, noex := J.ok.noex, exfs := J.ok.exfs, funs := J.ok.funs, frf := J.ok.frf }
           os := rfl, bare := hG, base := Un.kept kp, loc := ⟨_, hn.push go, fun i y v hy hv vis => ?_⟩, cell := fun y c e => (J.cell y c e).imp fun _ => cells, free := J.free, freeC := J.freeC, pin := ?_, hok := I.hok.kept kp, len := J.len }
  · obtain ⟨m, hm, all⟩ := J.loc
    have blank : m y = none := hm.agree (Heap.Ns.new s.heap (.type "dict")) y
    have get := all i y v hy hv
    rcases vis with l | l
    · have l2 : (relabel scope X.env).names.lookup y = some .local := lookup_relabel_local l
      obtain ⟨u, _, z | z⟩ := get (.inl l2)
      · rw [blank] at z
        exact nomatch z.2
      · rcases z.1 with z | z <;> exact nomatch l2.symm.trans z
    · obtain ⟨u, r, z | ⟨_, c, e, k⟩⟩ := get (.inr (outside l))
      · rw [blank] at z
        exact nomatch z.2
      · exact ⟨u, r, .inr ⟨l, c, e, cells k⟩⟩
  · intro p hp
    obtain rfl : p = (h'.objs.size, go) := by simpa using hp
    refine ⟨hgp, I.hok.fresh (Nat.le_of_lt lt), Nat.ne_of_gt lt, fun z => ?_, hgd⟩
    rcases List.mem_cons.mp (I.stkSub _ z) with e | e
    · exact Nat.lt_irrefl _ (Nat.lt_trans lt (show h'.objs.size < _ from (show h'.objs.size = X.env.locals from e) ▸ I.lt))
    · exact I.nofs (Nat.le_of_lt lt) e
end
end My

set_option Elab.async false
set_option linter.all false
set_option maxRecDepth 100000
set_option maxHeartbeats 2000000
namespace My
open PySem PySem.Spec PyProof.Rows L2
/-- where such a generator stands: i items are out; S: what its consumer keeps -/
structure GxAt (X : Cx) (fp : List Addr) (tn : Nat → Heap → Prop) (σ0 : L2.St) (W : Nat → Hp → Prop) (S : Addr) (i : Nat) (o : Obj) (H : Hp) (s : Shared) : Prop where
  inv : Inv X [(S, o)] σ0 H s
  st : tn i s.heap
  nfp : ∀ b ∈ fp, H b = none
  w : W i H
/-- the consumer wrote at S alone -/
structure Wrote (S : Addr) (s s' : Shared) (o' : Obj) : Prop where
  os : s'.os = s.os
  bare : AllBare s'.gens
  keep : ∀ b u, b ≠ S → s.heap.get? b = some u → s'.heap.get? b = some u
  own : s'.heap.get? S = some o'
  nc : ∀ v, o'.data ≠ .cell v
def gxY (X : Cx) (fp : List Addr) (tn : Nat → Heap → Prop) (σ0 : L2.St) (W : Nat → Hp → Prop) (S : Addr) (n : Nat) (F : Nat → V) : Protocol := fun m s₀ v s kap =>
  ∃ i o H, m + i + 1 = n ∧ RelV (F i) v ∧ s₀.heap.get? S = some o ∧ GxAt X fp tn σ0 W S (i + 1) o H s ∧ ∀ s'' o', Wrote S s s'' o' → kap (.send .none) s''
def gxP (X : Cx) (σ0 : L2.St) (W : Nat → Hp → Prop) (S : Addr) (n : Nat) : Nat → Shared → Shared → Prop := fun m s₀ s₁ => m = 0 ∧ ∃ o H, Inv X [(S, o)] σ0 H s₁ ∧ W n H
section
variable {X : Cx}
/-- one item's reading -/
def gxStep (J : It) (g : L2.TG) (te : TE) (vs : List Nat) (σ0 : L2.St) (W : Nat → Hp → Prop) (n : Nat) (F : Nat → V) : Prop :=
  ∀ i H, W i H → (i < n → J.go i H ∧ ∀ x H', J.yld i H x H' → g x σ0 H' fun σ2 H2 => wipe σ2 vs = σ0 ∧ te σ2 H2 fun y H3 => y = F i ∧ W (i + 1) H3) ∧ (i = n → J.stop i H)
theorem gx_loop {A : Around} {elt tg iter : Expr} {scope : Scope} {pos : Pos} {J : It} {fp : List Addr} {it : Addr} {tn : Nat → Heap → Prop} {g : L2.TG} {te : TE} {vs : List Nat} {σ0 : L2.St} {W : Nat → Hp → Prop} {n : Nat} {F : Nat → V} {S : Addr}
    (hA : A.deeper X.env = X.A) (T : Turn X.prog X.w X.K tg J fp it tn) (hc : X.calm = true) (hex : X.ex = fp) (hSf : S ∉ fp) (hpf : ∀ p ∈ X.pn, p.1 ∉ fp) (hxe : ∀ e s, X.xe e s → False) (hco : X.env.scope.isCoroutine = false)
    (h0 : X.s_0.heap.objs.size ≤ S) (hcs : ∀ x c, X.env.cells.lookup x = some c → c ≠ S) (hpS : ∀ p ∈ X.pn, p.1 ≠ S)
    (pg : PG X tg g) (pe : PE X elt te) (step : gxStep J g te vs σ0 W n F) :
    ∀ (k i : Nat) (s₀ s : Shared) (o : Obj) (H : Hp), i + k = n → s₀.heap.get? S = some o → GxAt X fp tn σ0 W S i o H s →
      Seg (model X.prog X.w) A (fun m s₀ r s₁ => r = .ok .next ∧ gxP X σ0 W S n m s₀ s₁) (gxY X fp tn σ0 W S n F) k s₀
        (.compLoop (.GeneratorExp elt [⟨tg, iter, [], 0⟩] scope pos) 0 (.ref it) .none X.env)
        ((model X.prog X.w).den (.compLoop (.GeneratorExp elt [⟨tg, iter, [], 0⟩] scope pos) 0 (.ref it) .none X.env)) [] s := by
  have stat : ∀ {o : Obj} {σ' : L2.St} {H' : Hp} {s' : Shared}, Inv X [(S, o)] σ' H' s' → (∀ b ∈ fp, H' b = none) → ∀ b ∈ fp, FpOk X [(S, o)] H' b := fun {o σ' H' s'} I' hn b hb =>
    ⟨hn b hb, (I'.ok.exf b (hex ▸ hb)).1, I'.ok.exfs b (hex ▸ hb), .inl (hex ▸ hb), fun x c e => (I'.ok.exf b (hex ▸ hb)).2 x c e, fun p hp z => by
      rcases List.mem_append.mp hp with q | q
      · exact hpf p q (z ▸ hb)
      · have e : p = (S, o) := by simpa using q
        rw [e] at z
        exact hSf (by rw [show S = b from z]; exact hb)⟩
  intro k
  induction k with
  | zero =>
    intro i s₀ s o H hk hs0 G
    have hin : i = n := by omega
    subst hin
    show Seg _ A _ _ _ s₀ _ ((compTurn (.GeneratorExp elt [⟨tg, iter, [], 0⟩] scope pos) 0 (.ref it) .none X.env).onRaise (leaving X.env)) [] s
    rw [compTurn_gen, Sem.onRaise_eq_wrap]
    refine seg_bind_wrap (wpAny_standAt ?_)
    refine seg_bind_wrap ?_
    rw [over_gen, hA]
    refine thnF (T.done X rfl rfl rfl hc i [(S, o)] s σ0 H (fun _ _ => False) G.inv (stat G.inv G.nfp) G.st ((step i H G.w).2 rfl)) fun r s6 ⟨hr, I6⟩ => ?_
    subst hr
    exact seg_end (.ok .next) ⟨rfl, rfl, o, H, I6, G.w⟩
  | succ k ih =>
    intro i s₀ s o H hk hs0 G
    have hlt : i < n := by omega
    obtain ⟨go, st⟩ := (step i H G.w).1 hlt
    show Seg _ A _ _ _ s₀ _ ((compTurn (.GeneratorExp elt [⟨tg, iter, [], 0⟩] scope pos) 0 (.ref it) .none X.env).onRaise (leaving X.env)) [] s
    rw [compTurn_gen, Sem.onRaise_eq_wrap]
    refine seg_bind_wrap (wpAny_standAt ?_)
    refine seg_bind_wrap ?_
    rw [over_gen, hA]
    refine thnF (T.item X rfl rfl rfl hc i [(S, o)] s σ0 H (fun _ _ => False) G.inv (stat G.inv G.nfp) G.st go) fun r s6 ⟨u, hr, h6⟩ => ?_
    subst hr
    refine seg_bind_wrap ?_
    rw [over_gen, hA]
    refine thnF h6 fun _ s7 ⟨x, H7, I7, r7, y7, st7, n7⟩ => ?_
    have I7' := I7.pinned (stat I7 n7) (T.obj _ _ st7)
    refine seg_bind_wrap ?_
    rw [over_gen, hA]
    refine wpAny_mono (pg.run _ s7 _ H7 x u _ I7' r7 (st x H7 y7)) (fun _ s8 h8 => ?_) (fun e s' z => (hxe e s' z).elim)
    obtain ⟨σ8, H8, I8, hw8, q8⟩ := h8
    refine seg_bind_wrap (wpAny_tests_nil ?_)
    simp only [if_true]
    have hy : ∀ v, yieldOut X.env v = yieldValue v := fun v => by simp only [yieldOut, hco, Bool.false_eq_true, if_false]
    simp only [hy]
    rw [Sem.bind_eq_wrap', Sem.bind_eq_wrap', Sem.wrap_wrap, Sem.wrap_wrap]
    refine seg_wrap ?_
    rw [over_gen, hA]
    refine wpAny_mono (pe.run _ s8 σ8 H8 _ I8 q8) (fun yv s10 h10 => ?_) (fun e s' z => (hxe e s' z).elim)
    obtain ⟨y, H10, I10, r10, ey, w10⟩ := h10
    have pin' : ∀ b ∈ fp, ∀ ob, s7.heap.get? b = some ob → s10.heap.get? b = some ob ∧ H10 b = none := fun b hb ob e =>
      let z := I10.pin (b, ob) (List.mem_append_right _ (List.mem_append_right _ (mem_pinsAt hb e)))
      ⟨z.1, z.2.1⟩
    have hl : σ0.length = σ8.length := by rw [← hw8, wipe_length]
    have I11 : Inv X [(S, o)] σ0 H10 s10 := (I10.unpinned (pins := [(S, o)])).weak hl fun j v e => by
      rw [← hw8] at e
      exact (wipe_some e).1
    have G11 : GxAt X fp tn σ0 W S (i + 1) o H10 s10 := ⟨I11, T.keep _ _ _ st7 fun b hb ob e => (pin' b hb ob e).1, fun b hb => by
      obtain ⟨ob, e, _⟩ := T.obj _ _ st7 b hb
      exact (pin' b hb ob e).2, w10⟩
    refine seg_at (seg_yield rfl rfl rfl ⟨i, o, H10, by omega, by rw [← ey]; exact r10, hs0, G11, fun s'' o' z => ?_⟩)
    refine seg_again rfl (ih (i + 1) s'' s'' o' H10 (by omega) z.own ⟨woke G11.inv h0 hcs (fun p hp => hpS p (by simpa using hp)) z.os z.bare z.keep z.own z.nc, T.keep _ _ _ G11.st fun b hb ob e => z.keep b ob (fun q => hSf (q ▸ hb)) e, G11.nfp, G11.w⟩)
/-- from its beginning -/
theorem gx_begin {A : Around} {elt tg iter : Expr} {scope : Scope} {pos : Pos} {J : It} {fp : List Addr} {it : Addr} {tn : Nat → Heap → Prop} {R : GenEnd} {Y : Protocol} {k : Nat} {s₀ s : Shared} (T : Turn X.prog X.w X.K tg J fp it tn) (st : tn 0 s.heap)
    (loop : Seg (model X.prog X.w) A R Y k s₀ (.compLoop (.GeneratorExp elt [⟨tg, iter, [], 0⟩] scope pos) 0 (.ref it) .none X.env)
        ((model X.prog X.w).den (.compLoop (.GeneratorExp elt [⟨tg, iter, [], 0⟩] scope pos) 0 (.ref it) .none X.env)) [] s) :
    Seg (model X.prog X.w) A R Y k s₀ (.compStart (.GeneratorExp elt [⟨tg, iter, [], 0⟩] scope pos) 0 (.ref it) .none X.env)
        ((model X.prog X.w).den (.compStart (.GeneratorExp elt [⟨tg, iter, [], 0⟩] scope pos) 0 (.ref it) .none X.env)) [] s := by
  show Seg _ A _ _ _ s₀ _ ((compStart (.GeneratorExp elt [⟨tg, iter, [], 0⟩] scope pos) 0 (.ref it) .none X.env).onRaise (leaving X.env)) [] s
  unfold compStart
  rw [Sem.onRaise_eq_wrap]
  show Seg _ A _ _ _ s₀ _ ((ask >>= _).wrap _ _ _ _) [] s
  refine seg_bind_wrap (wpAny_askSetting ?_)
  split
  · exact seg_again rfl loop
  · refine seg_bind_wrap (wpAny_rule ?_)
    show Seg _ A _ _ _ s₀ _ ((standAt iter.pos >>= _).wrap _ _ _ _) [] s
    exact seg_bind_wrap (wpAny_standAt (seg_bind_wrap (T.self _ 0 s _ _ st (seg_again rfl loop))))
end
end My

set_option Elab.async false
set_option linter.all false
set_option maxRecDepth 100000
set_option maxHeartbeats 2000000
namespace My
open PySem PySem.Spec PyProof.Rows L2
section
variable {X : Cx}
/-- what sum() walks: the generator at a sleeps, k items are still to come -/
structure GxSt (X : Cx) (A : Around) (fp : List Addr) (tn : Nat → Heap → Prop) (σ0 : L2.St) (W : Nat → Hp → Prop) (S : Addr) (n : Nat) (F : Nat → V) (a : Addr) (g k : Nat) (s : Shared) : Prop where
  gen : s.heap.IsGen a g
  lim : s.heap.NoLimit
  bare : AllBare s.gens
  go : ∃ gs, s.gens[g]? = some gs ∧ ∀ s'' o', Wrote S s s'' o' → gs.Goes (model X.prog X.w) A (fun m s₀ r s₁ => r = .ok .next ∧ gxP X σ0 W S n m s₀ s₁) (gxY X fp tn σ0 W S n F) k (.send .none) s''
end
end My

set_option Elab.async false
set_option linter.all false
set_option maxRecDepth 100000
set_option maxHeartbeats 2000000
namespace My
open PySem PySem.Spec PyProof.Rows L2
section
variable {X : Cx} {pins : List (Addr × Obj)} {σ : L2.St} {H : Hp} {s : Shared}
/-- the generator expression's scope -/
structure GxS (X : Cx) (scope : Scope) (own : List (Str × Nat)) : Prop where
  blk : BlkOk X.N X.env.scope scope own
  co : scope.isCoroutine = false
  cell : ∀ y ∈ scope.names, y.2 ≠ .cell
  dot : scope.names.lookup (".0" : Str) = some NameKind.local
/-- the generator at a, as it was made -/
def GxNew (X : Cx) (pins : List (Addr × Obj)) (σ : L2.St) (elt tg iter : Expr) (scope : Scope) (pos : Pos) (own : List (Str × Nat)) (J : It) (H2 : Hp) (a : Addr) (s5 : Shared) : Prop :=
  ∃ (s4 : Shared) (code : Value) (cenv : Env) (fp : List Addr) (it : Addr) (tn : Nat → Heap → Prop) (go : Obj),
    cenv = genEnv scope (cloFrom X.env.cells scope.names []) s4.heap.objs.size code builtinsNs X.env ∧ Inv X pins σ H2 s4 ∧ (∀ b ∈ fp, FpOk X pins H2 b ∧ b < s4.heap.objs.size) ∧ Turn X.prog X.w X.K tg J fp it tn ∧ tn 0 s5.heap ∧
    s5.gens = s4.gens.push (.fresh (.compStart (.GeneratorExp elt [⟨tg, iter, [], 0⟩] scope pos) 0 (.ref it) .none cenv)) ∧ (∀ h : Heap, h.get? a = some go → h.IsGen a s4.gens.size) ∧ s5.heap.get? a = some go ∧ s4.heap.objs.size < a ∧
    (∀ A : Around, A.handled = none → A.frames = some X.stack → Inv (gxC X (A.deeper cenv) s4 H2 cenv fp [(a, go)]) [] (wipe σ (own.map (·.2))) H2 s5)
theorem gx_make {c P : Addr} {elt tg iter : Expr} {gpos : Pos} {scope : Scope} {own : List (Str × Nat)} {wi : TI} {k : Nat} {Q' : Value → Shared → Prop} {R : It → Hp → Prop}
    (hr : Room k X.A) (TB : LamX.TabB X.base X.mg c P) (hcode : X.env.code = .ref c) (S : GxS X scope own) (hN : X.N.Nodup) (hi : PI X tg iter wi)
    (hs : ∀ v, genFold iter X.env v = pure v) (I : Inv X pins σ H s) (h : wi σ H fun J H1 => GxR.TabG H1 P ∧ R J H1)
    (hQ : ∀ J H1 H2 a s5, R J H1 → GxR.Tabbed P H1 H2 → GxNew X pins σ elt tg iter scope gpos own J H2 a s5 → Q' (.ref a) s5) :
    wpAny (model X.prog X.w) X.A (eval (.GeneratorExp elt [⟨tg, iter, [], 0⟩] scope gpos) X.env) Q' X.xe s := by
  have caught : ∀ y ∈ scope.names, y.2 = .free → ∃ c, X.env.cells.lookup y.1 = some c := fun y hy e => I.ok.has _ (S.blk.free y hy e)
  have deep : X.A.depth < recursionLimit := by
    have := hr.dp
    omega
  refine wpAny_GeneratorExp_make S.co (closure_ok caught) S.cell S.dot S.blk.kind deep (thn (hi.run pins s σ H _ I h) fun xv s1 hx => thn hx fun itv s2 h2 => ?_) hs
  obtain ⟨it, fp, tn, J, H1, rfl, I2, T, st2, f2, hT, hR⟩ := h2
  refine ⟨I2.nolimit, gen_code I2 TB hcode hT fun code H2 s4 tab I4 kp _ h' hn' hs' => ?_⟩
  have apart : ∀ b ∈ fp, b ≠ P := fun b hb z => by
    obtain ⟨_, e, _⟩ := hT
    rw [← z, (f2 b hb).1] at e
    cases e
  have kp5 : ∀ (go : Obj) b u, s4.heap.get? b = some u → (h'.push go).get? b = some u := fun go b u e => Heap.get?_push_of_some _ (hs'.extBut b u (Nat.ne_of_lt (Heap.lt_size e)) (Heap.get?_push_of_some _ e))
  have f4 : ∀ b ∈ fp, FpOk X pins H2 b ∧ b < s4.heap.objs.size := fun b hb => by
    obtain ⟨o, e, _⟩ := T.obj _ _ st2 b hb
    exact ⟨⟨(tab.2 b (apart b hb)).trans (f2 b hb).1, (f2 b hb).2⟩, Heap.lt_size (kp b o (apart b hb) e)⟩
  generalize hgo : ({ cls := .type "generator", data := .fields #[.int s4.gens.size 0, .str "<genexpr>" (s4.toks + 1), .str (X.env.qual ++ "<genexpr>") (s4.toks + 1 + 1)] } : Obj) = go
  have hgp : (h'.push go).get? h'.objs.size = some go := Heap.get?_push_size _ (by rw [← hgo]; rfl)
  have hgd : ∀ v, go.data ≠ .cell v := fun v z => by
    rw [← hgo] at z
    cases z
  exact hQ J H1 H2 h'.objs.size _ hR tab ⟨s4, code, _, fp, it, tn, go, rfl, I4, f4, T, T.keep _ _ _ st2 fun b hb u e => kp5 go b u (kp b u (apart b hb) e), rfl, fun hh e => ⟨go, _, _, e, by rw [← hgo], by rw [← hgo], by rw [← hgo]⟩, hgp, hn'.lt,
    fun A hA hfr => gx_start I4 S.blk S.cell hN f4 hA hfr hn' hs' (I4.bare.push rfl) hgp hgd⟩
end
end My

set_option Elab.async false
set_option linter.all false
set_option maxRecDepth 100000
set_option maxHeartbeats 2000000
namespace My
open PySem PySem.Spec PyProof.Rows L2
def gxCk (scope : Scope) : Bool := !scope.isCoroutine && (scope.names.all fun y => match y.2 with | .cell => false | _ => true) && (match scope.names.lookup (".0" : Str) with | some .local => true | _ => false)
theorem gxS_by {X : Cx} {scope : Scope} {own : List (Str × Nat)} (b : BlkOk X.N X.env.scope scope own) (h : gxCk scope = true) : GxS X scope own := by
  unfold gxCk at h
  simp only [Bool.and_eq_true] at h
  obtain ⟨⟨h1, h2⟩, h3⟩ := h
  rw [List.all_eq_true] at h2
  refine ⟨b, by simpa using h1, fun y hy z => ?_, ?_⟩
  · have q := h2 y hy
    rw [z] at q
    cases q
  · revert h3
    cases scope.names.lookup (".0" : Str) with
    | none => simp
    | some k => cases k <;> simp
/-! sums -/
/-! works -/
end My

set_option Elab.async false
set_option linter.all false
set_option maxRecDepth 100000
set_option maxHeartbeats 2000000
namespace My
open PySem PySem.Spec PyProof.Rows L2
/-! ### slices of a tuple of its own, sorted(tuple of texts) -/
theorem cut_to (xs : List V) (b : Nat) : cutV xs none (some (b : Int)) = xs.take b := by
  unfold cutV
  rw [HT.sIx_nat, HT.sIx_none, List.drop_zero, Nat.sub_zero]
  by_cases h : b ≤ xs.length
  · rw [Nat.min_eq_left h]
  · rw [Nat.min_eq_right (by omega), List.take_length, List.take_of_length_le (by omega)]
theorem cut_of (xs : List V) (a : Nat) (h : a ≤ xs.length) : cutV xs (some (a : Int)) none = xs.drop a := by
  unfold cutV
  rw [HT.sIx_nat, HT.sIx_none, Nat.min_eq_left h]
  exact List.take_of_length_le (by rw [List.length_drop]; omega)
/-! ### prices of more lists -/
end My

set_option Elab.async false
set_option linter.all false
set_option maxRecDepth 100000
set_option maxHeartbeats 2000000
namespace My
open PySem PySem.Spec PyProof.Rows L2
/-! ### a promise where no repr is under way -/
/-! ### repr of data -/
/-! ### the law's own call -/
section
variable {P : Program} {w : World} {K : PySem.W.Frag} {mg mb : Str → Option Value} {cs : List (Addr × Addr)} {a : Addr} {vs : List Value} {ns : List Int} {s : Shared} {H : Hp}
/-- told of at the beginning: the script, where it is no part of what is written, and the tables of code -/
structure Begun (P : Program) (w : World) (K : PySem.W.Frag) (cs : List (Addr × Addr)) (a : Addr) (vs : List Value) (ns : List Int) (s : Shared) (H : Hp) : Prop where
  tb : ∀ p ∈ cs, H p.2 = some (.tbl #[])
  only : ∀ b u, H b = some u → (b ∈ cs.map (·.2) ∧ u = .tbl #[]) ∨ (b = a ∧ K.lookup a = Option.none ∧ u = .frz { cls := .type "list", data := .seq vs.toArray } (.lst (ns.map V.int)))
  sc : SqL K H a (ns.map V.int)
  hok : HOk P w H s.heap
open Classical in
theorem begun (inK : K.In s.heap) (hT : ∀ p ∈ cs, s.heap.get? p.2 = some { cls := .none, data := .fields #[] }) (ha : s.heap.get? a = some { cls := .type "list", data := .seq vs.toArray }) (hi : IntsAre vs ns) (hl : ns.length ≤ sizeLine) : ∃ H, Begun P w K cs a vs ns s H := by
  have tabs : ∀ b, b ∈ cs.map (·.2) → s.heap.get? b = some { cls := .none, data := .fields #[] } := fun b z => by
    obtain ⟨p, hp, rfl⟩ := List.mem_map.mp z
    exact hT p hp
  have far : a ∉ cs.map (·.2) := fun z => by
    have z1 := (tabs a z).symm.trans ha
    cases congrArg Obj.data (Option.some.inj z1)
  refine ⟨fun b => if b ∈ cs.map (·.2) then some (.tbl #[]) else if b = a ∧ K.lookup a = Option.none then some (.frz { cls := .type "list", data := .seq vs.toArray } (.lst (ns.map V.int))) else Option.none, fun p hp => if_pos (List.mem_map.mpr ⟨p, hp, rfl⟩), fun b u hu => ?_, ?_, fun b u hu => ?_⟩
  · split at hu
    · rename_i z
      exact .inl ⟨z, (Option.some.inj hu).symm⟩
    · split at hu
      · rename_i z
        exact .inr ⟨z.1, z.2, (Option.some.inj hu).symm⟩
      · cases hu
  · cases hk : K.lookup a with
    | some o =>
      have z := (inK a o hk).symm.trans ha
      cases z
      exact .inr ⟨_, vs.toArray, _, hk, rfl, rfl, rfl, by rw [List.size_toArray, hi.length]; exact hl, by simpa using vals_ints hi⟩
    | none => exact .inl (.inr ⟨{ cls := .type "list", data := .seq vs.toArray }, (if_neg far).trans (if_pos ⟨rfl, rfl⟩)⟩)
  · split at hu
    · rename_i z
      cases hu
      exact tabs b z
    · split at hu
      · rename_i z
        cases hu
        rw [z.1]
        exact ⟨ha, by rw [List.length_map]; exact hl, vs, _, vals_ints hi, ha⟩
      · cases hu
/-- what is no list and no empty table is not told of -/
theorem Begun.bare (B : Begun P w K cs a vs ns s H) {b : Addr} {o : Obj} (hT : ∀ p ∈ cs, s.heap.get? p.2 = some { cls := .none, data := .fields #[] }) (ha : s.heap.get? a = some { cls := .type "list", data := .seq vs.toArray }) (e : s.heap.get? b = some o) (h1 : ∀ us n, o.data ≠ .seq us n) (h2 : o.data ≠ .fields #[]) : (hidT s.heap H).get? b = some o := by
  refine hidT_get e ?_
  cases hb : H b with
  | none => rfl
  | some u =>
    rcases B.only b u hb with ⟨z, _⟩ | ⟨z, _⟩
    · obtain ⟨p, hp, rfl⟩ := List.mem_map.mp z
      have z1 := Option.some.inj ((hT p hp).symm.trans e)
      exact absurd (congrArg Obj.data z1).symm h2
    · subst z
      have z1 := Option.some.inj (ha.symm.trans e)
      exact absurd (congrArg Obj.data z1).symm (h1 _ _)
end
end My

set_option Elab.async false
set_option linter.all false
set_option maxRecDepth 100000
set_option maxHeartbeats 2000000
namespace My
open PySem PySem.Spec PyProof.Rows L2
/-! ### all(elt for target in iter), any(..), the element of any kind -/
section
variable {X : Cx}
theorem repin {A : Around} {s s' : Shared} {H H' : Hp} {cenv : Env} {fp : List Addr} {pn pins : List (Addr × Obj)} {σ : L2.St} (I : Inv (gxC X A s H cenv fp pn) pins σ H' s') : Inv (gxC X A s H cenv fp []) (pn ++ pins) σ H' s' :=
  ⟨⟨I.ok.mod, I.ok.kind, I.ok.glob, I.ok.blt, I.ok.above, I.ok.inj, I.ok.has, I.ok.cab, I.ok.hd, I.ok.frames, I.ok.stk, I.ok.exf, I.ok.bs, I.ok.bsz, I.ok.noex, I.ok.exfs, I.ok.funs, I.ok.frf⟩, I.os, I.bare, I.base, I.loc, I.cell, I.free, I.freeC, I.pin, I.hok, I.len⟩
theorem all_loopC {A : Around} {fp : List Addr} {tn : Nat → Heap → Prop} {σ0 : L2.St} {W : Nat → Hp → Prop} {n : Nat} {tr : Nat → Bool} {a : Addr} {g : Nat} {go : Obj} {R : Result → Shared → Prop}
    (hh : A.handled = none) (hd : A.depth < recursionLimit) (hgo : ∀ h : Heap, h.get? a = some go → h.IsGen a g) (hnc : ∀ v, go.data ≠ .cell v)
    (hR1 : ∀ s' o H, (∀ j, j < n → tr j = true) → Inv X [(a, o)] σ0 H s' → W n H → R (.ok (.ret (.bool true))) s')
    (hR0 : ∀ s' o H j, j < n → tr j = false → (∀ i, i < j → tr i = true) → Inv X [(a, o)] σ0 H s' → W (j + 1) H → R (.ok (.ret (.bool false))) s') :
    ∀ (k i : Nat) (s : Shared), i + k = n → (∀ j, j < i → tr j = true) → GxSt X A.in1.in1 fp tn σ0 W a n (fun i => .bl (tr i)) a g k s → s.heap.get? a = some go →
      codeAny (model X.prog X.w) A (.builtin "all.loop" ⟨[.ref a], []⟩) R s := by
  intro k
  induction k with
  | zero =>
    intro i s hk hall Z hS
    have hin : i = n := by omega
    subst hin
    obtain ⟨hg, hl, hb, gs, hgs, hgoes⟩ := Z
    refine codeAny_builtin F.entry_all_loop ?_
    rw [Around.under_plainId F.plain_all_loop _]
    show wpAny _ A.in1 (pyNext (.ref a) >>= _) _ _ s
    refine wpAny_bind (wpAny_pyNext_genexpQ (A := A.in1) hh hl hd hg hgs (hgoes (s.setGen g .running) _ ⟨rfl, allBare_setGen hb rfl, fun b u _ e => e, hS, hnc⟩) (fun v s₁ gs' hbare hv => ?_) fun s₁ hp h' hk' => ?_)
    · obtain ⟨i', o, H, _, _, _, G, hkap⟩ := hv
      obtain ⟨p1, _, _, _, p5⟩ := G.inv.pin (a, o) (List.mem_append_right _ List.mem_cons_self)
      exact (hkap s₁ o ⟨rfl, G.inv.bare, fun b u _ e => e, p1, p5⟩).elim
    · obtain ⟨_, o, H, I, w⟩ := hp
      refine wpAny_bind (wpAny_rule (wpAny_pure (hR1 _ o H hall ?_ w)))
      exact I.call' (ch := []) rfl (Un.kept hk') (I.hok.kept hk') (allBare_setGen I.bare rfl) (fun b hb => absurd hb (by simp))
  | succ k ih =>
    intro i s hk hall Z hS
    have hlt : i < n := by omega
    obtain ⟨hg, hl, hb, gs, hgs, hgoes⟩ := Z
    have hgl : g < s.gens.size := (Array.getElem?_eq_some_iff.mp hgs).1
    refine codeAny_builtin F.entry_all_loop ?_
    rw [Around.under_plainId F.plain_all_loop _]
    show wpAny _ A.in1 (pyNext (.ref a) >>= _) _ _ s
    refine wpAny_bind (GenW.wpAny_gsz (n := g + 1) hgl (wpAny_pyNext_genexpQ (A := A.in1) hh hl hd hg hgs (hgoes (s.setGen g .running) _ ⟨rfl, allBare_setGen hb rfl, fun b u _ e => e, hS, hnc⟩) (fun v s₁ gs' hbare hv => ?_) fun s₁ hp h' hk' => ?_))
    · intro hsz
      obtain ⟨i', o, H, hi', hrel, hs0, G, hkap⟩ := hv
      have ei : i' = i := by omega
      subst ei
      obtain rfl : v = .bool (tr i') := hrel
      have eo : o = go := by
        have h1 : s.heap.get? a = some o := hs0
        rw [hS] at h1
        exact (Option.some.inj h1).symm
      subst eo
      obtain ⟨p1, _, _, _, p5⟩ := G.inv.pin (a, o) (List.mem_append_right _ List.mem_cons_self)
      refine wpAny_bind (wpAny_holding (wpAny_truthy_bool (wpAny_bind (wpAny_letGo ?_))))
      cases hb : tr i' with
      | true =>
        simp only [if_true]
        have hsz1 : g < s₁.gens.size := by
          have q : (s₁.setGen g gs').gens.size = s₁.gens.size := GenW.setGen_size _ _ _
          have hsz' : g + 1 ≤ (s₁.setGen g gs').gens.size := hsz
          omega
        refine wpAny_pure ⟨plainId_quiet F.plain_all_loop _, ih (i' + 1) _ (by omega) (fun j hj => ?_) ⟨hgo _ p1, G.inv.nolimit, allBare_setGen (s := s₁) G.inv.bare hbare, gs', setGen_at (s := s₁) hsz1, fun s'' o'' z => ?_⟩ p1⟩
        · by_cases e : j = i'
          · rw [e]
            exact hb
          · exact hall j (by omega)
        · exact hkap s'' o'' ⟨z.os, z.bare, z.keep, z.own, z.nc⟩
      | false =>
        simp only [Bool.false_eq_true, if_false]
        refine wpAny_bind (wpAny_rule (wpAny_pure (hR0 _ o H i' hlt hb hall ?_ G.w)))
        exact G.inv.call' (ch := []) rfl (Un.kept fun b u e => e) G.inv.hok (allBare_setGen G.inv.bare hbare) (fun b hb => absurd hb (by simp))
    · exact absurd hp.1 (Nat.succ_ne_zero k)
/-- all(..) -/
def tAllC (P : Addr) (wi : TI) (g : L2.TG) (te : TE) (vs : List Nat) : TE := fun σ H Q => wi σ H fun J H1 => GxR.TabG H1 P ∧ ∀ H2, GxR.Tabbed P H1 H2 →
  ∃ (n : Nat) (tr : Nat → Bool) (W : Nat → Hp → Prop), W 0 H2 ∧ gxStep J g te vs (wipe σ vs) W n (fun i => .bl (tr i)) ∧ (∀ H3, W n H3 → (∀ j, j < n → tr j = true) → Q (.bl true) H3) ∧ ∀ j H3, j < n → tr j = false → (∀ i, i < j → tr i = true) → W (j + 1) H3 → Q (.bl false) H3
theorem pe_allC {c P : Addr} {elt tg iter : Expr} {p pos gpos : Pos} {scope : Scope} {own : List (Str × Nat)} {wi : TI} {g : L2.TG} {te : TE} {k : Nat}
    (hr : Room (k + 3) X.A) (hg : Gl X "all") (hm : X.mg "all" = none) (TB : LamX.TabB X.base X.mg c P) (hcode : X.env.code = .ref c) (S : GxS X scope own) (hN : X.N.Nodup) (hc : X.calm = true) (hi : PI X tg iter wi)
    (pg : ∀ (A : Around) (s : Shared) (H : Hp) (C : Addr) (cl : List (Str × Addr)) (code : Value) (fp : List Addr) (pn : List (Addr × Obj)), PG (gxC X A s H (genEnv scope cl C code builtinsNs X.env) fp pn) tg g)
    (pe : ∀ (A : Around) (s : Shared) (H : Hp) (C : Addr) (cl : List (Str × Addr)) (code : Value) (fp : List Addr) (pn : List (Addr × Obj)), Room k A → PE (gxC X A s H (genEnv scope cl C code builtinsNs X.env) fp pn) elt te)
    (hb : bootBuiltins "all" = some (.builtin "all") := by decide +kernel) (hs : ∀ v, genFold iter X.env v = pure v := by intro _; rfl)
    (he : starEach [.GeneratorExp elt [⟨tg, iter, [], 0⟩] scope gpos] X.env = (false, eval (.GeneratorExp elt [⟨tg, iter, [], 0⟩] scope gpos) X.env) :: starEach [] X.env := by rfl) :
    PE X (.Call (.Name "all" p) [.GeneratorExp elt [⟨tg, iter, [], 0⟩] scope gpos] [] pos) (tAllC P wi g te (own.map (·.2))) := by
  refine ⟨fun pins s σ H Q I h => ?_⟩
  refine wpAny_Call_Name_kw (ld_blt I hg hm hb (PyProof.Rows.callWith_builtin1 ?_ he (by rfl)))
  rw [he]
  refine Calls.spliced_cons (gx_make hr TB hcode S hN hi hs I h fun J H1 H2 a s5 hR hTb hG => ?_)
  refine Calls.spliced_nil ?_
  obtain ⟨n, tr, W, w0, step, hend1, hend0⟩ := hR H2 hTb
  obtain ⟨s4, code, cenv, fp, it, tn, go, ec, I4, f4, T, st5, egs, hgen, hga, hlt, hInv⟩ := hG
  have I5 := repin (hInv X.A.in1.in1 hr.hd I4.ok.frames)
  have hroom : Room k (X.A.in1.in1.deeper cenv) := hr.in1.in1.deeper cenv
  have pg' := pg (X.A.in1.in1.deeper cenv) s4 H2 s4.heap.objs.size (cloFrom X.env.cells scope.names []) code fp []
  have pe' := pe (X.A.in1.in1.deeper cenv) s4 H2 s4.heap.objs.size (cloFrom X.env.cells scope.names []) code fp [] hroom
  rw [← ec] at pg' pe'
  have hgen5 : s5.heap.IsGen a s4.gens.size := hgen _ hga
  obtain ⟨_, ga, gb, gc, hnc⟩ := I5.pin (a, go) (by simp)
  have haf : a ∉ fp := fun hb => Nat.lt_irrefl _ (Nat.lt_trans (f4 a hb).2 hlt)
  have hcl : ∀ x c, cenv.cells.lookup x = some c → c ≠ a := fun x c e z => by
    obtain ⟨v, o, e1, e2⟩ := I5.cell x c e
    rw [z, hga] at e1
    cases e1
    exact hnc _ e2
  refine call_function_tree F.kind_all F.plain_all F.entry_all (F.args_all1 _) ?_
  unfold Builtin.«all»
  refine wpAny_bind (m := oneArg "all" _) (wpAny_pure ?_)
  refine wpAny_bind (wpAny_pyIter_gen hgen5 ?_)
  refine wpAny_pure ⟨plainId_quiet F.plain_all_loop _, all_loopC (X := gxC X (X.A.in1.in1.deeper cenv) s4 H2 cenv fp []) (A := X.A) (fp := fp) (tn := tn) (σ0 := wipe σ (own.map (·.2))) (W := W) (n := n) (tr := tr) (a := a) (g := s4.gens.size) (go := go)
    hr.hd (by have := hr.dp; omega) hgen hnc (fun s' o H3 hdone I' w' => ?_) (fun s' o H3 j hj hsj hal I' w' => ?_) n 0 _ (Nat.zero_add n) (fun j hj => absurd hj (Nat.not_lt_zero j)) ⟨hgen5, I5.nolimit, I5.bare, .fresh (.compStart (.GeneratorExp elt [⟨tg, iter, [], 0⟩] scope gpos) 0 (.ref it) .none cenv), ?_, fun s'' o' z => ⟨rfl, ?_⟩⟩ hga⟩
  · refine ⟨.bl true, H3, ?_, rfl, hend1 H3 w' hdone⟩
    exact I4.call' (ch := fp) I'.os I'.base I'.hok I'.bare fun b hb => ⟨(f4 b hb).1.2.2.2.1, (f4 b hb).1.2.1, (f4 b hb).1.2.2.2.2.1, (f4 b hb).1.2.2.2.2.2⟩
  · refine ⟨.bl false, H3, ?_, rfl, hend0 j H3 hj hsj hal w'⟩
    exact I4.call' (ch := fp) I'.os I'.base I'.hok I'.bare fun b hb => ⟨(f4 b hb).1.2.2.2.1, (f4 b hb).1.2.1, (f4 b hb).1.2.2.2.2.1, (f4 b hb).1.2.2.2.2.2⟩
  · show s5.gens[s4.gens.size]? = _
    rw [egs]
    exact Array.getElem?_push_size ..
  · have Iz : Inv (gxC X (X.A.in1.in1.deeper cenv) s4 H2 cenv fp []) [(a, o')] (wipe σ (own.map (·.2))) H2 s'' := woke I5 (Nat.le_of_lt hlt) hcl (fun p hp => absurd hp (by simp)) z.os z.bare z.keep z.own z.nc
    have stz : tn 0 s''.heap := T.keep _ _ _ st5 fun b hb u e => z.keep b u (fun q => haf (q ▸ hb)) e
    exact gx_begin (X := gxC X (X.A.in1.in1.deeper cenv) s4 H2 cenv fp []) T stz (gx_loop (X := gxC X (X.A.in1.in1.deeper cenv) s4 H2 cenv fp []) rfl T hc rfl haf (fun p hp => absurd hp List.not_mem_nil) (fun _ _ q => q) (by rw [ec]; exact S.co) (Nat.le_of_lt hlt) hcl (fun p hp => absurd hp List.not_mem_nil) pg' pe' step n 0 s'' s'' o' H2 (Nat.zero_add n) z.own ⟨Iz, stz, fun b hb => (f4 b hb).1.1, w0⟩)
end
end My

set_option Elab.async false
set_option linter.all false
set_option maxRecDepth 100000
set_option maxHeartbeats 2000000
namespace My
open PySem PySem.Spec PyProof.Rows L2
theorem gx_step {J : It} {n : Nat} {G : Hp → Prop} {Y : Nat → Hp → V → Hp → Prop} (w : Walk J n G Y) {g : L2.TG} {te : TE} {vs : List Nat} {σ0 : L2.St} {F : Nat → V} {Pv : Nat → Hp → Prop}
    (hG : ∀ i H, i ≤ n → Pv i H → G H) (hs : ∀ i x H H', i < n → Pv i H → Y i H x H' → g x σ0 H' fun σ2 H2 => wipe σ2 vs = σ0 ∧ te σ2 H2 fun y H3 => y = F i ∧ i + 1 ≤ n ∧ Pv (i + 1) H3) :
    gxStep J g te vs σ0 (fun i H => i ≤ n ∧ Pv i H) n F := fun i H hW => ⟨fun hi => ⟨w.goes i H hi (hG i H hW.1 hW.2), fun x H' y => hs i x H H' hi hW.2 (w.yields i H x H' hi (hG i H hW.1 hW.2) y)⟩, fun e => by
    subst e
    exact w.stops H (hG i H hW.1 hW.2)⟩
/-! ### data that lies away from some places -/
/-! ### what isinstance tells of data, more -/
/-! ### questions, of any data -/
end My
namespace My
open PySem PySem.Spec PyProof.Rows L2
end My

set_option Elab.async false
set_option linter.all false
set_option maxRecDepth 100000
set_option maxHeartbeats 2000000
namespace My
open PySem PySem.Spec PyProof.Rows L2
/-! ### lists of columns, of any data -/
theorem cat_tx (l k : List Nat) : V.str ((⟨l.toArray⟩ : Str) ++ ⟨k.toArray⟩) = tx (l ++ k) := by
  show V.str ⟨l.toArray ++ k.toArray⟩ = V.str ⟨(l ++ k).toArray⟩
  simp
end My

set_option Elab.async false
set_option linter.all false
set_option maxRecDepth 100000
set_option maxHeartbeats 2000000
namespace My
open PySem PySem.Spec PyProof.Rows L2
/-! ### needs, one ahead of the other -/
abbrev Nd2 := List Nat × List Nat
def ahd (p q : Nd2) : Bool := !decide (p = q) && (p.1 ++ p.2).all fun c => decide (c ∈ q.1)
structure NdOk (p : Nd2) : Prop where
  up : p.1.Pairwise (· < ·)
  one : p.2.length ≤ 1
  out : ∀ c ∈ p.2, c ∉ p.1
theorem ahd_iff {p q : Nd2} : ahd p q = true ↔ p ≠ q ∧ ∀ c ∈ p.1 ++ p.2, c ∈ q.1 := by
  unfold ahd
  rw [Bool.and_eq_true, List.all_eq_true]
  constructor
  · rintro ⟨h1, h2⟩
    exact ⟨by simpa using h1, fun c hc => of_decide_eq_true (h2 c hc)⟩
  · rintro ⟨h1, h2⟩
    exact ⟨by simpa using h1, fun c hc => decide_eq_true (h2 c hc)⟩
theorem up_ext {a b : List Nat} (ha : a.Pairwise (· < ·)) (hb : b.Pairwise (· < ·)) (h : ∀ c, c ∈ a ↔ c ∈ b) : a = b := by
  have nda : a.Nodup := ha.imp fun {a b} z => by omega
  have ndb : b.Nodup := hb.imp fun {a b} z => by omega
  have pm : a.Perm b := (List.perm_ext_iff_of_nodup nda ndb).mpr h
  exact le_perm_eq pm (ha.imp fun {a b} z => by omega) (hb.imp fun {a b} z => by omega)
theorem nd_eq {p q : Nd2} (hp : NdOk p) (hq : NdOk q) (h1 : ∀ c ∈ p.1 ++ p.2, c ∈ q.1) (h2 : ∀ c ∈ q.1 ++ q.2, c ∈ p.1) : p = q := by
  have e2 : p.2 = [] := List.eq_nil_iff_forall_not_mem.mpr fun c hc => hp.out c hc (h2 c (List.mem_append_left _ (h1 c (List.mem_append_right _ hc))))
  have f2 : q.2 = [] := List.eq_nil_iff_forall_not_mem.mpr fun c hc => hq.out c hc (h1 c (List.mem_append_left _ (h2 c (List.mem_append_right _ hc))))
  have e1 : p.1 = q.1 := up_ext hp.up hq.up fun c => ⟨fun h => h1 c (List.mem_append_left _ h), fun h => h2 c (List.mem_append_left _ h)⟩
  exact Prod.ext e1 (e2.trans f2.symm)
theorem ahd_trans {a b c : Nd2} (ha : NdOk a) (hb : NdOk b) (h1 : ahd a b = true) (h2 : ahd b c = true) : ahd a c = true := by
  obtain ⟨n1, s1⟩ := ahd_iff.mp h1
  obtain ⟨n2, s2⟩ := ahd_iff.mp h2
  refine ahd_iff.mpr ⟨fun e => ?_, fun x hx => s2 x (List.mem_append_left _ (s1 x hx))⟩
  rw [← e] at s2
  exact n1 (nd_eq ha hb s1 s2)
/-! whether one list may serve both -/
def wthn (a b : List Nat) : Bool := a.all fun c => decide (c ∈ b)
theorem wthn_iff {a b : List Nat} : wthn a b = true ↔ ∀ c ∈ a, c ∈ b := by
  unfold wthn
  rw [List.all_eq_true]
  exact ⟨fun h c hc => of_decide_eq_true (h c hc), fun h c hc => decide_eq_true (h c hc)⟩
def stps (p : Nd2) : List (List Nat) := [p.1, p.1 ++ p.2]
def agr (p q : Nd2) : Bool := (stps p).all fun s => (stps q).all fun o => wthn s o || wthn o s
theorem agr_half {p q : Nd2} (hp : NdOk p) (hq : NdOk q) (h1 : ∀ c ∈ p.1, c ∈ q.1) (h3 : (∀ c ∈ p.1 ++ p.2, c ∈ q.1) ∨ ∀ c ∈ q.1, c ∈ p.1 ++ p.2)
    (h4 : (∀ c ∈ p.1 ++ p.2, c ∈ q.1 ++ q.2) ∨ ∀ c ∈ q.1 ++ q.2, c ∈ p.1 ++ p.2) : p = q ∨ ahd p q = true ∨ ahd q p = true := by
  by_cases e : p = q
  · exact .inl e
  refine .inr ?_
  rcases h3 with h3 | h3
  · exact .inl (ahd_iff.mpr ⟨e, h3⟩)
  obtain ⟨p1, p2⟩ := p
  obtain ⟨q1, q2⟩ := q
  dsimp only at *
  match p2, hp with
  | [], hp => exact .inl (ahd_iff.mpr ⟨e, fun c hc => h1 c (by simpa using hc)⟩)
  | [r], hp =>
    by_cases hr : r ∈ q1
    · refine .inl (ahd_iff.mpr ⟨e, fun c hc => ?_⟩)
      rcases List.mem_append.mp hc with z | z
      · exact h1 c z
      · rw [List.mem_singleton.mp z]
        exact hr
    have h5 : ∀ c ∈ q1, c ∈ p1 := fun c hc => by
      rcases List.mem_append.mp (h3 c hc) with z | z
      · exact z
      · rw [List.mem_singleton.mp z] at hc
        exact absurd hc hr
    have e1 : p1 = q1 := up_ext hp.up hq.up fun c => ⟨h1 c, h5 c⟩
    match q2, hq with
    | [], hq => exact .inr (ahd_iff.mpr ⟨fun z => e z.symm, fun c hc => h5 c (by simpa using hc)⟩)
    | [t], hq =>
      exfalso
      apply e
      have ht : t ∉ q1 := hq.out t (by simp)
      have ert : r = t := by
        rcases h4 with h4 | h4
        · rcases List.mem_append.mp (h4 r (by simp)) with z | z
          · exact absurd z hr
          · exact List.mem_singleton.mp z
        · rcases List.mem_append.mp (h4 t (by simp)) with z | z
          · exact absurd (h1 t z) ht
          · exact (List.mem_singleton.mp z).symm
      rw [e1, ert]
    | a :: b :: l, hq => exact absurd hq.one (by simp)
  | a :: b :: l, hp => exact absurd hp.one (by simp)
theorem agr_no {p q : Nd2} (hp : NdOk p) (hq : NdOk q) (h : agr p q = true) : p = q ∨ ahd p q = true ∨ ahd q p = true := by
  unfold agr stps at h
  simp only [List.all_cons, List.all_nil, Bool.and_true, Bool.and_eq_true, Bool.or_eq_true, wthn_iff] at h
  obtain ⟨⟨h1, h2⟩, h3, h4⟩ := h
  rcases h1 with h1 | h1
  · exact agr_half hp hq h1 h3 h4
  · rcases agr_half hq hp h1 (h2.symm) (h4.symm) with z | z | z
    · exact .inl z.symm
    · exact .inr (.inr z)
    · exact .inr (.inl z)
/-! ### pairs, one right ahead of the other -/
structure Mt (n : Nat) (R : Nat → Nat → Bool) (m : Nat → Option Nat) : Prop where
  edge : ∀ j a, m j = some a → j < n ∧ a < n ∧ R a j = true
  inj : ∀ j k a, m j = some a → m k = some a → j = k
def Cl (n : Nat) (R : Nat → Nat → Bool) (m : Nat → Option Nat) (F : Nat → Prop) : Prop := ∀ t, F t → ∃ a, m t = some a ∧ ∀ j, j < n → R a j = true → F j
def FlM (n : Nat) (R : Nat → Nat → Bool) (m : Nat → Option Nat) (a : Nat) : Prop := ∃ F : Nat → Prop, Cl n R m F ∧ ∀ j, j < n → R a j = true → F j
def putM (m : Nat → Option Nat) (j a : Nat) : Nat → Option Nat := fun x => if x = j then some a else m x
theorem putM_at {m : Nat → Option Nat} {j a : Nat} : putM m j a j = some a := if_pos rfl
theorem putM_ne {m : Nat → Option Nat} {j a x : Nat} (h : x ≠ j) : putM m j a x = m x := if_neg h
structure FbF (n : Nat) (R : Nat → Nat → Bool) (m : Nat → Option Nat) (a : Nat) (T T' : List Nat) : Prop where
  sub : ∀ t ∈ T, t ∈ T'
  all : ∀ j, j < n → R a j = true → j ∈ T'
  new : ∀ t ∈ T', t ∉ T → ∃ b, m t = some b ∧ ∀ j, j < n → R b j = true → j ∈ T'
structure FbT (n : Nat) (R : Nat → Nat → Bool) (m m' : Nat → Option Nat) (a : Nat) (T : List Nat) : Prop where
  edge : ∀ j b, m' j = some b → j < n ∧ b < n ∧ R b j = true
  same : ∀ t ∈ T, m' t = m t
  has : ∃ j, j ∉ T ∧ m' j = some a
  inj : ∀ j k b, m' j = some b → m' k = some b → (b = a → j ∉ T ∧ k ∉ T) → j = k
  val : ∀ t b, m' t = some b → m t = some b ∨ b = a ∨ ∃ t0, t0 ∉ T ∧ m t0 = some b
  keep : ∀ t b, m t = some b → ∃ t', m' t' = some b
  cl : ∀ F, Cl n R m F → ∀ t, F t → m' t = m t
  no : ∀ F, Cl n R m F → ¬ ∀ j, j < n → R a j = true → F j
theorem FbT.base {n : Nat} {R : Nat → Nat → Bool} {m : Nat → Option Nat} {a j : Nat} {T : List Nat} (M : Mt n R m) (hj : j < n) (ha : a < n) (hr : R a j = true) (hT : j ∉ T) (hm : m j = none) (hp : ∀ t, m t = some a → t ∈ T) : FbT n R m (putM m j a) a T := by
  refine ⟨fun k b e => ?_, fun t ht => ?_, ⟨j, hT, putM_at⟩, fun k l b e1 e2 h => ?_, fun t b e => ?_, fun t b e => ?_, fun F hF t ht => ?_, fun F hF h => ?_⟩
  · by_cases z : k = j
    · rw [z, putM_at] at e
      cases e
      exact ⟨z ▸ hj, ha, z ▸ hr⟩
    · rw [putM_ne z] at e
      exact M.edge k b e
  · exact putM_ne fun z => hT (z ▸ ht)
  · by_cases z1 : k = j
    · by_cases z2 : l = j
      · rw [z1, z2]
      · rw [z1, putM_at] at e1
        cases e1
        rw [putM_ne z2] at e2
        exact absurd (hp l e2) (h rfl).2
    · rw [putM_ne z1] at e1
      by_cases z2 : l = j
      · rw [z2, putM_at] at e2
        cases e2
        exact absurd (hp k e1) (h rfl).1
      · rw [putM_ne z2] at e2
        exact M.inj k l b e1 e2
  · by_cases z : t = j
    · rw [z, putM_at] at e
      cases e
      exact .inr (.inl rfl)
    · rw [putM_ne z] at e
      exact .inl e
  · refine ⟨t, ?_⟩
    rw [putM_ne (show t ≠ j from fun z => by rw [z, hm] at e; cases e)]
    exact e
  · refine putM_ne fun z => ?_
    obtain ⟨b, e, _⟩ := hF t ht
    rw [z, hm] at e
    cases e
  · obtain ⟨b, e, _⟩ := hF j (h j hj hr)
    rw [hm] at e
    cases e
theorem FbT.step {n : Nat} {R : Nat → Nat → Bool} {m m1 : Nat → Option Nat} {a b j : Nat} {T T1 : List Nat} (M : Mt n R m) (hj : j < n) (ha : a < n) (hr : R a j = true) (hT : j ∉ T) (hm : m j = some b) (hp : ∀ t, m t = some a → t ∈ T)
    (h1 : ∀ t ∈ T, t ∈ T1) (hj1 : j ∈ T1) (h : FbT n R m m1 b T1) : FbT n R m (putM m1 j a) a T := by
  have e1j : m1 j = some b := (h.same j hj1).trans hm
  have hab : a ≠ b := fun z => hT (hp j (by rw [hm, z]))
  refine ⟨fun k c e => ?_, fun t ht => ?_, ⟨j, hT, putM_at⟩, fun k l c e1 e2 hh => ?_, fun t c e => ?_, fun t c e => ?_, fun F hF t ht => ?_, fun F hF hh => ?_⟩
  · by_cases z : k = j
    · rw [z, putM_at] at e
      cases e
      exact ⟨z ▸ hj, ha, z ▸ hr⟩
    · rw [putM_ne z] at e
      exact h.edge k c e
  · rw [putM_ne (show t ≠ j from fun z => hT (by rw [← z]; exact ht))]
    exact h.same t (h1 t ht)
  · have key : ∀ l, l ≠ j → m1 l = some a → l ∉ T → False := fun l z e hl => by
      rcases h.val l a e with q | q | ⟨t0, q1, q2⟩
      · exact hl (hp l q)
      · exact hab q
      · exact q1 (h1 t0 (hp t0 q2))
    by_cases z1 : k = j
    · by_cases z2 : l = j
      · rw [z1, z2]
      · rw [z1, putM_at] at e1
        cases e1
        rw [putM_ne z2] at e2
        exact (key l z2 e2 (hh rfl).2).elim
    · rw [putM_ne z1] at e1
      by_cases z2 : l = j
      · rw [z2, putM_at] at e2
        cases e2
        exact (key k z1 e1 (hh rfl).1).elim
      · rw [putM_ne z2] at e2
        have off : ∀ k, k ≠ j → m1 k = some b → k ∉ T1 := fun k z e hk => by
          rw [h.same k hk] at e
          exact z (M.inj k j b e hm)
        exact h.inj k l c e1 e2 fun z => ⟨off k z1 (z ▸ e1), off l z2 (z ▸ e2)⟩
  · by_cases z : t = j
    · rw [z, putM_at] at e
      cases e
      exact .inr (.inl rfl)
    · rw [putM_ne z] at e
      rcases h.val t c e with q | q | ⟨t0, q1, q2⟩
      · exact .inl q
      · exact .inr (.inr ⟨j, hT, by rw [hm, q]⟩)
      · exact .inr (.inr ⟨t0, fun z => q1 (h1 t0 z), q2⟩)
  · obtain ⟨t', e'⟩ := h.keep t c e
    by_cases z : t' = j
    · rw [z, e1j] at e'
      cases e'
      obtain ⟨k, k1, k2⟩ := h.has
      exact ⟨k, by rw [putM_ne (show k ≠ j from fun z => k1 (by rw [z]; exact hj1))]; exact k2⟩
    · exact ⟨t', by rw [putM_ne z]; exact e'⟩
  · have hjF : ¬ F j := fun z => by
      obtain ⟨c, e, hc⟩ := hF j z
      rw [hm] at e
      cases e
      exact h.no F hF hc
    rw [putM_ne (show t ≠ j from fun z => hjF (by rw [← z]; exact ht))]
    exact h.cl F hF t ht
  · obtain ⟨c, e, hc⟩ := hF j (hh j hj hr)
    rw [hm] at e
    cases e
    exact h.no F hF hc
/-- as many pairs as can be -/
structure Mx (n : Nat) (R : Nat → Nat → Bool) (k : Nat) (m : Nat → Option Nat) : Prop where
  mt : Mt n R m
  low : ∀ t a, m t = some a → a < k
  tot : ∀ a, a < k → (∃ t, m t = some a) ∨ FlM n R m a
theorem Mx.nil {n : Nat} {R : Nat → Nat → Bool} : Mx n R 0 (fun _ => none) := ⟨⟨(fun _ _ e => nomatch e), (fun _ _ _ e => nomatch e)⟩, (fun _ _ e => nomatch e), fun a h => absurd h (Nat.not_lt_zero a)⟩
theorem Mx.no {n k : Nat} {R : Nat → Nat → Bool} {m : Nat → Option Nat} {T' : List Nat} (M : Mx n R k m) (h : FbF n R m k [] T') : Mx n R (k + 1) m := by
  refine ⟨M.mt, fun t a e => Nat.lt_succ_of_lt (M.low t a e), fun a ha => ?_⟩
  by_cases z : a = k
  · rw [z]
    exact .inr ⟨(· ∈ T'), fun t ht => h.new t ht (by simp), h.all⟩
  · exact M.tot a (by omega)
theorem Mx.yes {n k : Nat} {R : Nat → Nat → Bool} {m m' : Nat → Option Nat} (M : Mx n R k m) (h : FbT n R m m' k []) : Mx n R (k + 1) m' := by
  refine ⟨⟨h.edge, fun j l a e1 e2 => h.inj j l a e1 e2 fun _ => ⟨by simp, by simp⟩⟩, fun t a e => ?_, fun a ha => ?_⟩
  · rcases h.val t a e with q | q | ⟨t0, _, q⟩
    · exact Nat.lt_succ_of_lt (M.low t a q)
    · omega
    · exact Nat.lt_succ_of_lt (M.low t0 a q)
  · by_cases z : a = k
    · obtain ⟨j, _, e⟩ := h.has
      exact .inl ⟨j, by rw [z]; exact e⟩
    · rcases M.tot a (by omega) with ⟨t, e⟩ | ⟨F, hF, h2⟩
      · exact .inl (h.keep t a e)
      · refine .inr ⟨F, fun t ht => ?_, h2⟩
        obtain ⟨b, e, hb⟩ := hF t ht
        exact ⟨b, (h.cl F hF t ht).trans e, hb⟩
end My

set_option Elab.async false
set_option linter.all false
set_option maxRecDepth 100000
set_option maxHeartbeats 2000000
namespace My
open PySem PySem.Spec PyProof.Rows L2
/-! ### as many needs apart as there are chains -/
/-- where the look goes: W waiting, L looked at, B behind -/
structure Kg (n : Nat) (R : Nat → Nat → Bool) (m : Nat → Option Nat) (lasts W L B : List Nat) : Prop where
  wl : ∀ l, l ∈ W ∨ l ∈ L → l < n ∧ FlM n R m l ∧ (l ∈ lasts ∨ ∃ b ∈ B, m b = some l)
  bn : ∀ b ∈ B, b < n ∧ (∃ a, m b = some a ∧ (a ∈ W ∨ a ∈ L)) ∧ ∃ l ∈ L, R l b = true
  nd : B.Nodup
  lb : ∀ l ∈ L, ∀ j, j < n → R l j = true → j ∈ B
  la : ∀ l ∈ lasts, l ∈ W ∨ l ∈ L
structure Lst (n : Nat) (m : Nat → Option Nat) (lasts : List Nat) : Prop where
  mem : ∀ a, a ∈ lasts ↔ a < n ∧ ∀ t, m t ≠ some a
  nd : lasts.Nodup
theorem Kg.start {n : Nat} {R : Nat → Nat → Bool} {m : Nat → Option Nat} {lasts : List Nat} (M : Mx n R n m) (hl : Lst n m lasts) : Kg n R m lasts lasts [] [] := by
  refine ⟨fun l h => ?_, (fun b hb => nomatch hb), List.nodup_nil, (fun l hl => nomatch hl), fun l h => .inl h⟩
  rcases h with h | h
  · obtain ⟨h1, h2⟩ := (hl.mem l).mp h
    refine ⟨h1, ?_, .inl h⟩
    rcases M.tot l h1 with ⟨t, e⟩ | z
    · exact absurd e (h2 t)
    · exact z
  · cases h
/-- what is ahead of a need that is met is there -/
theorem FlM.met {n : Nat} {R : Nat → Nat → Bool} {m : Nat → Option Nat} {l b : Nat} (h : FlM n R m l) (hb : b < n) (hr : R l b = true) : ∃ a, m b = some a ∧ FlM n R m a := by
  obtain ⟨F, hF, h2⟩ := h
  obtain ⟨a, e, ha⟩ := hF b (h2 b hb hr)
  exact ⟨a, e, F, hF, ha⟩
theorem len_filter (p : Nat → Bool) : ∀ l : List Nat, (l.filter p).length + (l.filter fun x => !p x).length = l.length
  | [] => rfl
  | x :: l => by
    have ih := len_filter p l
    cases h : p x
    · simp only [List.filter_cons, h, Bool.not_false, if_true, List.length_cons, Bool.false_eq_true, if_false]
      omega
    · simp only [List.filter_cons, h, Bool.not_true, if_true, List.length_cons, Bool.false_eq_true, if_false]
      omega
def apM (n : Nat) (L B : List Nat) : List Nat := (List.range n).filter fun a => decide (a ∈ L) && !decide (a ∈ B)
theorem apM_mem {n : Nat} {L B : List Nat} {a : Nat} : a ∈ apM n L B ↔ a < n ∧ a ∈ L ∧ a ∉ B := by
  unfold apM
  rw [List.mem_filter, List.mem_range]
  simp
theorem Kg.many {n : Nat} {R : Nat → Nat → Bool} {m : Nat → Option Nat} {lasts L B : List Nat} (M : Mx n R n m) (hl : Lst n m lasts) (k : Kg n R m lasts [] L B) (tr : ∀ a b c, R a b = true → R b c = true → R a c = true) : (apM n L B).length = lasts.length := by
  have inL : ∀ l, l ∈ L ↔ l ∈ lasts ∨ ∃ b ∈ B, m b = some l := fun l => by
    constructor
    · intro h
      exact (k.wl l (.inr h)).2.2
    · rintro (h | ⟨b, hb, e⟩)
      · rcases k.la l h with z | z
        · cases z
        · exact z
      · obtain ⟨_, ⟨a, e2, z⟩, _⟩ := k.bn b hb
        rw [e] at e2
        cases e2
        rcases z with z | z
        · cases z
        · exact z
  have BL : ∀ b ∈ B, b ∈ L := fun b hb => by
    obtain ⟨hbn, _, l, hlL, hr⟩ := k.bn b hb
    by_cases z : b ∈ lasts
    · exact (inL b).mpr (.inl z)
    · have h2 : ∃ t, m t = some b := by
        refine Classical.byContradiction fun hh => z ((hl.mem b).mpr ⟨hbn, fun t e => hh ⟨t, e⟩⟩)
      obtain ⟨t, e⟩ := h2
      obtain ⟨htn, _, hrt⟩ := M.mt.edge t b e
      exact (inL b).mpr (.inr ⟨t, k.lb l hlL t htn (tr _ _ _ hr hrt), e⟩)
  -- all that were looked at
  have pm : ((List.range n).filter fun a => decide (a ∈ L)).Perm (lasts ++ B.filterMap m) := by
    refine (List.perm_ext_iff_of_nodup (List.Pairwise.filter _ List.nodup_range) ?_).mpr fun a => ?_
    · rw [List.nodup_append]
      refine ⟨hl.nd, ?_, fun a ha b hb z => ?_⟩
      · have : ∀ B : List Nat, B.Nodup → (B.filterMap m).Nodup := by
          intro B
          induction B with
          | nil => intro _; exact List.nodup_nil
          | cons b B ih =>
            intro hn
            obtain ⟨h1, h2⟩ := List.nodup_cons.mp hn
            cases e : m b with
            | none =>
              rw [List.filterMap_cons_none e]
              exact ih h2
            | some c =>
              rw [List.filterMap_cons_some e]
              refine List.nodup_cons.mpr ⟨fun hc => ?_, ih h2⟩
              obtain ⟨b2, hb2, e2⟩ := List.mem_filterMap.mp hc
              exact h1 (by rw [M.mt.inj b b2 c e e2]; exact hb2)
        exact this B k.nd
      · obtain ⟨b2, _, e2⟩ := List.mem_filterMap.mp hb
        exact ((hl.mem a).mp ha).2 b2 (by rw [e2, z])
    · rw [List.mem_filter, List.mem_range, decide_eq_true_eq, List.mem_append, List.mem_filterMap]
      constructor
      · rintro ⟨_, h⟩
        exact (inL a).mp h
      · intro h
        have h2 := (inL a).mpr h
        exact ⟨(k.wl a (.inr h2)).1, h2⟩
  have lenB : (B.filterMap m).length = B.length := by
    have : ∀ C : List Nat, (∀ b ∈ C, b ∈ B) → (C.filterMap m).length = C.length := by
      intro C
      induction C with
      | nil => intro _; rfl
      | cons b C ih =>
        intro h
        obtain ⟨_, ⟨a, e, _⟩, _⟩ := k.bn b (h b (by simp))
        rw [List.filterMap_cons_some e, List.length_cons, List.length_cons, ih fun c hc => h c (by simp [hc])]
    exact this B fun b h => h
  have pB : (((List.range n).filter fun a => decide (a ∈ L)).filter fun a => decide (a ∈ B)).Perm B := by
    refine (List.perm_ext_iff_of_nodup (List.Pairwise.filter _ (List.Pairwise.filter _ List.nodup_range)) k.nd).mpr fun a => ?_
    rw [List.mem_filter, List.mem_filter, List.mem_range, decide_eq_true_eq, decide_eq_true_eq]
    exact ⟨fun h => h.2, fun h => ⟨⟨(k.bn a h).1, BL a h⟩, h⟩⟩
  have e1 := len_filter (fun a => decide (a ∈ B)) ((List.range n).filter fun a => decide (a ∈ L))
  have e2 := pm.length_eq
  have e3 := pB.length_eq
  have e4 : (((List.range n).filter fun a => decide (a ∈ L)).filter fun x => !decide (x ∈ B)) = apM n L B := by
    rw [List.filter_filter]
    unfold apM
    congr 1
    funext a
    exact Bool.and_comm _ _
  rw [e4] at e1
  rw [List.length_append, lenB] at e2
  omega
theorem Kg.apart {n : Nat} {R : Nat → Nat → Bool} {m : Nat → Option Nat} {lasts L B : List Nat} (k : Kg n R m lasts [] L B) {a b : Nat} (ha : a ∈ apM n L B) (hb : b ∈ apM n L B) : R a b = false := by
  obtain ⟨_, h2, _⟩ := apM_mem.mp ha
  obtain ⟨g1, _, g3⟩ := apM_mem.mp hb
  refine eq_false_of_ne_true fun z => g3 (k.lb a h2 b g1 z)
/-- one turn of the look: l is looked at; the first i numbers are gone through -/
structure Kgt (n : Nat) (R : Nat → Nat → Bool) (m : Nat → Option Nat) (lasts W L B : List Nat) (l i : Nat) : Prop where
  wl : ∀ l', l' ∈ W ∨ l' ∈ L → l' < n ∧ FlM n R m l' ∧ (l' ∈ lasts ∨ ∃ b ∈ B, m b = some l')
  bn : ∀ b ∈ B, b < n ∧ (∃ a, m b = some a ∧ (a ∈ W ∨ a ∈ L)) ∧ ∃ l ∈ L, R l b = true
  nd : B.Nodup
  lb : ∀ l' ∈ L, ∀ j, j < n → (l' = l → j < i) → R l' j = true → j ∈ B
  la : ∀ l' ∈ lasts, l' ∈ W ∨ l' ∈ L
  me : l ∈ L
theorem Kg.pop {n : Nat} {R : Nat → Nat → Bool} {m : Nat → Option Nat} {lasts W W' L L' B : List Nat} {l : Nat} (k : Kg n R m lasts W L B) (hW : W = W' ++ [l]) (hL : ∀ x, x ∈ L' ↔ x = l ∨ x ∈ L) : Kgt n R m lasts W' L' B l 0 := by
  have e : ∀ x, x ∈ W' ∨ x ∈ L' ↔ x ∈ W ∨ x ∈ L := fun x => by
    rw [hW, hL, List.mem_append, List.mem_singleton]
    constructor
    · rintro (h | h | h)
      · exact .inl (.inl h)
      · exact .inl (.inr h)
      · exact .inr h
    · rintro ((h | h) | h)
      · exact .inl h
      · exact .inr (.inl h)
      · exact .inr (.inr h)
  refine ⟨fun x hx => k.wl x ((e x).mp hx), fun b hb => ?_, k.nd, fun x hx j hj hi hr => ?_, fun x hx => (e x).mpr (k.la x hx), (hL l).mpr (.inl rfl)⟩
  · obtain ⟨h1, ⟨a, h2, h3⟩, x, h4, h5⟩ := k.bn b hb
    exact ⟨h1, ⟨a, h2, (e a).mpr h3⟩, x, (hL x).mpr (.inr h4), h5⟩
  · by_cases z : x = l
    · exact absurd (hi z) (Nat.not_lt_zero j)
    · rcases (hL x).mp hx with q | q
      · exact absurd q z
      · exact k.lb x q j hj hr
theorem Kgt.skip {n : Nat} {R : Nat → Nat → Bool} {m : Nat → Option Nat} {lasts W L B : List Nat} {l i : Nat} (k : Kgt n R m lasts W L B l i) (h : R l i = true → i ∈ B) : Kgt n R m lasts W L B l (i + 1) := by
  refine ⟨k.wl, k.bn, k.nd, fun x hx j hj hi hr => ?_, k.la, k.me⟩
  by_cases z : x = l ∧ j = i
  · rw [z.2]
    rw [z.1, z.2] at hr
    exact h hr
  · refine k.lb x hx j hj (fun q => ?_) hr
    have := hi q
    have : j ≠ i := fun y => z ⟨q, y⟩
    omega
theorem Kgt.more {n : Nat} {R : Nat → Nat → Bool} {m : Nat → Option Nat} {lasts W L B : List Nat} {l i a : Nat} (M : Mt n R m) (k : Kgt n R m lasts W L B l i) (hi : i < n) (hB : i ∉ B) (hr : R l i = true) (hm : m i = some a) (hf : FlM n R m a) : Kgt n R m lasts (W ++ [a]) L (B ++ [i]) l (i + 1) := by
  have e : ∀ x, x ∈ W ++ [a] ∨ x ∈ L ↔ x = a ∨ (x ∈ W ∨ x ∈ L) := fun x => by
    rw [List.mem_append, List.mem_singleton]
    constructor
    · rintro ((h | h) | h)
      · exact .inr (.inl h)
      · exact .inl h
      · exact .inr (.inr h)
    · rintro (h | h | h)
      · exact .inl (.inr h)
      · exact .inl (.inl h)
      · exact .inr h
  refine ⟨fun x hx => ?_, fun b hb => ?_, ?_, fun x hx j hj hji hrj => ?_, fun x hx => (e x).mpr (.inr (k.la x hx)), k.me⟩
  · rcases (e x).mp hx with z | z
    · rw [z]
      exact ⟨(M.edge i a hm).2.1, hf, .inr ⟨i, by simp, hm⟩⟩
    · obtain ⟨h1, h2, h3⟩ := k.wl x z
      refine ⟨h1, h2, ?_⟩
      rcases h3 with q | ⟨b, q1, q2⟩
      · exact .inl q
      · exact .inr ⟨b, List.mem_append_left _ q1, q2⟩
  · rcases List.mem_append.mp hb with z | z
    · obtain ⟨h1, ⟨c, h2, h3⟩, h4⟩ := k.bn b z
      exact ⟨h1, ⟨c, h2, (e c).mpr (.inr h3)⟩, h4⟩
    · rw [List.mem_singleton.mp z]
      exact ⟨hi, ⟨a, hm, (e a).mpr (.inl rfl)⟩, l, k.me, hr⟩
  · rw [List.nodup_append]
    refine ⟨k.nd, by simp, fun x hx y hy z => hB ?_⟩
    rw [← List.mem_singleton.mp hy, ← z]
    exact hx
  · by_cases z : x = l ∧ j = i
    · rw [z.2]
      simp
    · refine List.mem_append_left _ (k.lb x hx j hj (fun q => ?_) hrj)
      have := hji q
      have : j ≠ i := fun y => z ⟨q, y⟩
      omega
theorem Kgt.done {n : Nat} {R : Nat → Nat → Bool} {m : Nat → Option Nat} {lasts W L B : List Nat} {l : Nat} (k : Kgt n R m lasts W L B l n) : Kg n R m lasts W L B := ⟨k.wl, k.bn, k.nd, fun x hx j hj hr => k.lb x hx j hj (fun _ => hj) hr, k.la⟩
theorem nodup_lt_len {n : Nat} {B : List Nat} (hn : B.Nodup) (h : ∀ b ∈ B, b < n) : B.length ≤ n := by
  have := nodup_sub_len hn (m := List.range n) fun b hb => List.mem_range.mpr (h b hb)
  rw [List.length_range] at this
  exact this
/-! ### chains -/
inductive Dn (m : Nat → Option Nat) (l : Nat) : Nat → Prop
  | refl : Dn m l l
  | step {t i : Nat} : Dn m l t → m t = some i → Dn m l i
theorem up_lasts {n : Nat} {R : Nat → Nat → Bool} {m : Nat → Option Nat} {lasts : List Nat} (M : Mt n R m) (hl : Lst n m lasts) (tr : ∀ a b c, R a b = true → R b c = true → R a c = true) (ir : ∀ a, R a a = false) : ∀ (k i : Nat), i < n → ((List.range n).filter fun x => R i x).length ≤ k → ∃ l ∈ lasts, Dn m l i := by
  intro k
  induction k with
  | zero =>
    intro i hi h
    refine ⟨i, (hl.mem i).mpr ⟨hi, fun t e => ?_⟩, .refl⟩
    obtain ⟨h1, _, h3⟩ := M.edge t i e
    have : t ∈ (List.range n).filter fun x => R i x := List.mem_filter.mpr ⟨List.mem_range.mpr h1, h3⟩
    rw [List.length_eq_zero_iff.mp (Nat.le_zero.mp h)] at this
    cases this
  | succ k ih =>
    intro i hi h
    by_cases z : ∃ t, m t = some i
    · obtain ⟨t, e⟩ := z
      obtain ⟨h1, _, h3⟩ := M.edge t i e
      have hlt : ((List.range n).filter fun x => R t x).length < ((List.range n).filter fun x => R i x).length := by
        have nd : (t :: (List.range n).filter fun x => R t x).Nodup := by
          refine List.nodup_cons.mpr ⟨fun hm => ?_, List.Pairwise.filter _ List.nodup_range⟩
          have h4 : R t t = true := (List.mem_filter.mp hm).2
          rw [ir t] at h4
          cases h4
        have hs := nodup_sub_len nd (m := (List.range n).filter fun x => R i x) fun x hx => by
          rcases List.mem_cons.mp hx with q | q
          · rw [q]
            exact List.mem_filter.mpr ⟨List.mem_range.mpr h1, h3⟩
          · obtain ⟨q1, q2⟩ := List.mem_filter.mp q
            exact List.mem_filter.mpr ⟨q1, tr _ _ _ h3 q2⟩
        rw [List.length_cons] at hs
        omega
      obtain ⟨l, hl1, hd⟩ := ih t h1 (by omega)
      exact ⟨l, hl1, .step hd e⟩
    · exact ⟨i, (hl.mem i).mpr ⟨hi, fun t e => z ⟨t, e⟩⟩, .refl⟩
theorem below_lt {n : Nat} {R : Nat → Nat → Bool} {a t : Nat} (ha : a < n) (hr : R a t = true) (tr : ∀ a b c, R a b = true → R b c = true → R a c = true) (ir : ∀ a, R a a = false) : ((List.range n).filter fun x => R x a).length < ((List.range n).filter fun x => R x t).length := by
  have nd : (a :: (List.range n).filter fun x => R x a).Nodup := by
    refine List.nodup_cons.mpr ⟨fun hm => ?_, List.Pairwise.filter _ List.nodup_range⟩
    have h4 : R a a = true := (List.mem_filter.mp hm).2
    rw [ir a] at h4
    cases h4
  have hs := nodup_sub_len nd (m := (List.range n).filter fun x => R x t) fun x hx => by
    rcases List.mem_cons.mp hx with q | q
    · rw [q]
      exact List.mem_filter.mpr ⟨List.mem_range.mpr ha, hr⟩
    · obtain ⟨q1, q2⟩ := List.mem_filter.mp q
      exact List.mem_filter.mpr ⟨q1, tr _ _ _ q2 hr⟩
  rw [List.length_cons] at hs
  omega
/-! ### a list for a chain -/
def addL (one : List Nat) (ls : List Nat) : List Nat := ls.foldl (fun o c => if c ∈ o then o else o ++ [c]) one
def lstM (ch : List Nd2) : List Nat := ch.foldl (fun o p => addL o (p.1 ++ p.2)) []
theorem addL_spec : ∀ (ls one : List Nat), one.Nodup → (addL one ls).Nodup ∧ (∃ y, addL one ls = one ++ y) ∧ ∀ c, c ∈ addL one ls ↔ c ∈ one ∨ c ∈ ls
  | [], one, h => ⟨h, ⟨[], by simp [addL]⟩, fun c => by simp [addL]⟩
  | x :: ls, one, h => by
    by_cases hx : x ∈ one
    · have e : addL one (x :: ls) = addL one ls := by simp [addL, hx]
      obtain ⟨h1, h2, h3⟩ := addL_spec ls one h
      rw [e]
      refine ⟨h1, h2, fun c => ?_⟩
      rw [h3 c, List.mem_cons]
      constructor
      · rintro (q | q)
        · exact .inl q
        · exact .inr (.inr q)
      · rintro (q | q | q)
        · exact .inl q
        · exact .inl (by rw [q]; exact hx)
        · exact .inr q
    · have e : addL one (x :: ls) = addL (one ++ [x]) ls := by simp [addL, hx]
      have hn : (one ++ [x]).Nodup := by
        rw [List.nodup_append]
        refine ⟨h, by simp, fun a ha b hb z => hx ?_⟩
        rw [← List.mem_singleton.mp hb, ← z]
        exact ha
      obtain ⟨h1, ⟨y, h2⟩, h3⟩ := addL_spec ls (one ++ [x]) hn
      rw [e]
      refine ⟨h1, ⟨x :: y, by rw [h2]; simp⟩, fun c => ?_⟩
      rw [h3 c, List.mem_cons, List.mem_append, List.mem_singleton]
      constructor
      · rintro ((q | q) | q)
        · exact .inl q
        · exact .inr (.inl q)
        · exact .inr (.inr q)
      · rintro (q | q | q)
        · exact .inl (.inl q)
        · exact .inl (.inr q)
        · exact .inr q
/-- the list one serves the need -/
def srv (one : List Nat) (p : Nd2) : Prop := ∃ x y, one = x ++ (p.2 ++ y) ∧ x.Perm p.1
theorem srv.more {one : List Nat} {p : Nd2} (h : srv one p) (z : List Nat) : srv (one ++ z) p := by
  obtain ⟨x, y, e, pm⟩ := h
  exact ⟨x, y ++ z, by rw [e]; simp, pm⟩
theorem addL_app (one a b : List Nat) : addL one (a ++ b) = addL (addL one a) b := by
  unfold addL
  rw [List.foldl_append]
theorem srv_add {one : List Nat} {p : Nd2} (hp : NdOk p) (hn : one.Nodup) (hs : ∀ c ∈ one, c ∈ p.1) : srv (addL one (p.1 ++ p.2)) p ∧ ∀ c, c ∈ addL one (p.1 ++ p.2) ↔ c ∈ p.1 ++ p.2 := by
  obtain ⟨h1, _, h3⟩ := addL_spec p.1 one hn
  have h4 : ∀ c, c ∈ addL one p.1 ↔ c ∈ p.1 := fun c => by
    rw [h3 c]
    exact ⟨fun q => q.elim (hs c) id, .inr⟩
  have pm : (addL one p.1).Perm p.1 := (List.perm_ext_iff_of_nodup h1 (hp.up.imp fun {a b} z => by omega)).mpr h4
  have e2 : addL one (p.1 ++ p.2) = addL one p.1 ++ p.2 := by
    rw [addL_app]
    match hp2 : p.2 with
    | [] => simp [addL]
    | [r] =>
      have : r ∉ addL one p.1 := fun z => hp.out r (by rw [hp2]; simp) ((h4 r).mp z)
      simp [addL] at this ⊢
      simp [this]
    | a :: b :: l =>
      have := hp.one
      rw [hp2] at this
      exact absurd this (by simp)
  refine ⟨⟨addL one p.1, [], by rw [e2]; simp, pm⟩, fun c => ?_⟩
  rw [e2, List.mem_append, List.mem_append, h4 c]
theorem lstM_snoc (ch : List Nd2) (p : Nd2) : lstM (ch ++ [p]) = addL (lstM ch) (p.1 ++ p.2) := by
  unfold lstM
  rw [List.foldl_append]
  rfl
/-- each behind the one ahead of it -/
def Chn (ch : List Nd2) : Prop := ch.Pairwise fun p q => ahd p q = true
theorem lstM_spec : ∀ (k : Nat) (ch : List Nd2), ch.length = k → (∀ p ∈ ch, NdOk p) → Chn ch → (lstM ch).Nodup ∧ (∀ p ∈ ch, srv (lstM ch) p) ∧ ∀ c, c ∈ lstM ch ↔ ∃ p ∈ ch, c ∈ p.1 ++ p.2 := by
  intro k
  induction k with
  | zero =>
    intro ch h _ _
    rw [List.length_eq_zero_iff.mp h]
    exact ⟨List.nodup_nil, (fun p hp => nomatch hp), fun c => by simp [lstM]⟩
  | succ k ih =>
    intro ch h hok hch
    have hne : ch ≠ [] := fun z => by
      rw [z] at h
      cases h
    obtain ⟨ch', q, rfl⟩ : ∃ ch' q, ch = ch' ++ [q] := ⟨ch.dropLast, ch.getLast hne, (List.dropLast_concat_getLast hne).symm⟩
    have hl : ch'.length = k := by
      rw [List.length_append] at h
      simpa using h
    obtain ⟨c1, _, c3⟩ := List.pairwise_append.mp hch
    obtain ⟨h1, h2, h3⟩ := ih ch' hl (fun p hp => hok p (List.mem_append_left _ hp)) c1
    have hsub : ∀ c ∈ lstM ch', c ∈ q.1 := fun c hc => by
      obtain ⟨p, hp, hcp⟩ := (h3 c).mp hc
      exact (ahd_iff.mp (c3 p hp q (by simp))).2 c hcp
    obtain ⟨g1, g2⟩ := srv_add (hok q (by simp)) h1 hsub
    obtain ⟨g3, ⟨y, g4⟩, _⟩ := addL_spec (q.1 ++ q.2) (lstM ch') h1
    rw [lstM_snoc]
    refine ⟨g3, fun p hp => ?_, fun c => ?_⟩
    · rcases List.mem_append.mp hp with z | z
      · rw [g4]
        exact (h2 p z).more y
      · rw [List.mem_singleton.mp z]
        exact g1
    · rw [g2 c]
      constructor
      · intro z
        exact ⟨q, by simp, z⟩
      · rintro ⟨p, hp, hcp⟩
        rcases List.mem_append.mp hp with z | z
        · exact List.mem_append_left _ ((ahd_iff.mp (c3 p z q (by simp))).2 c hcp)
        · rw [← List.mem_singleton.mp z]
          exact hcp
end My

set_option Elab.async false
set_option linter.all false
set_option maxRecDepth 100000
set_option maxHeartbeats 2000000
namespace My
open PySem PySem.Spec PyProof.Rows L2
section
variable {X : Cx}
theorem ip_addS : PIp X .Add (fun x y H Q => ∃ i j, x = .str i ∧ y = .str j ∧ i.length + j.length ≤ sizeLine ∧ Q (.str (i ++ j)) H) := fun pins s σ H x y v u Q I rx ry h => iop_add_str pins s σ H x y v u Q I rx ry h
theorem mtIndexD (K : PySem.W.Frag) (hu : X.A.units + 65 < cLine) (hK : X.K = K := by rfl) : MtR X "list.index" (rIndexD K) := by
  subst hK
  exact mt_indexD hu
/-- list(e.values()) -/
def tListVals (te : TE) : TE := fun σ H Q => te σ H fun x H1 => ∃ (d : Addr) (kvs : List (Key × V)), x = .ref d ∧ H1 d = some (.dK kvs) ∧ ∀ p, H1 p = none → Q (.ref p) (upd H1 p (.lst (kvs.map (·.2))))
theorem vals_at : ∀ {kvs : List (Key × V)} {vs : List (Key × Value)} {us : List Value}, KV kvs vs → us = vs.map (·.2) → Vals (kvs.map (·.2)) us
  | _, _, _, .nil, e => by
    subst e
    exact .nil
  | _, _, _, .cons h t, e => by
    subst e
    exact .cons h.2 (vals_at t rfl)
theorem pe_listVals {e : Expr} {te : TE} {p apos cpos pos : Pos} (hc : X.calm = true) (he : PE X e te) (hg : Gl X "list") (hm : X.mg "list" = none) (hv : bootBuiltins "list" = some (.type "list") := by decide +kernel) (hbase : attributeBase e "values" X.env (eval e X.env) = eval e X.env := by rfl) (hline : (apos.endLine == cpos.line) = true := by rfl)
    (hs : starEach [.Call (.Attribute e "values" apos) [] [] cpos] X.env = (false, eval (.Call (.Attribute e "values" apos) [] [] cpos) X.env) :: starEach [] X.env := by rfl) :
    PE X (.Call (.Name "list" p) [.Call (.Attribute e "values" apos) [] [] cpos] [] pos) (tListVals te) := by
  refine ⟨fun pins s σ H Q I hq => ?_⟩
  refine wpAny_Call_Name_kw (ld_blt I hg hm hv ?_)
  refine PyProof.Rows.callWith_type1 ?_ hs rfl
  rw [hs]
  show wpAny _ _ (spliced ((false, eval (.Call (.Attribute e "values" apos) [] [] cpos) X.env) :: backTo pos (starEach [] X.env))) _ _ s
  refine Calls.spliced_cons ?_
  refine wpAny_Call_method (T := "dict") (id := "dict.values") hbase rfl hline F.plainAttrs_dict F.slot_dict_values F.type_dict_values (thn (he.run pins s σ H _ I hq) fun u s1 ⟨x, H1, I1, rx, d, kvs, ex, hd, q⟩ => ?_)
  subst ex
  obtain rfl : u = Value.ref d := rx
  obtain ⟨hz, hs0, vs, kv, hdo⟩ := I1.hok d _ hd
  obtain ⟨ep, hat⟩ := hdo.dictAt
  have lk : kvs.length = vs.length := Paired.length kv
  have I2 : Inv X pins σ H1 { s1 with heap := s1.heap.push { cls := .type "dict_values", data := .fields #[.ref d] } } := I1.kept (t' := s1.toks) fun b ob q => Heap.get?_push_of_some _ q
  refine ⟨hdo.typeIs, hdo.mapOf.noDict, ?_⟩
  show wpAny _ _ (callWith cpos (.builtin "dict.values") [.ref d] [] []) _ X.xe s1
  refine method_meetsIn F.slot_dict_values F.entry_dict_values rfl (PySem.evalArgs_none ⟨rfl, hdo.typeIs, F.args_dict_values_1 _, _, meets_dict_values (mixKind X.prog X.w) d hs0, ⟨vs, hdo⟩, ?_⟩)
  refine Calls.spliced_nil ?_
  refine PySem.W.kdl_call (PySem.W.kdl_values (knd := mixKind X.prog X.w) (kvs := vs) (ep := ep)) (I1.ok.hd hc) ⟨⟨_, Heap.get?_push_size _ rfl, rfl, rfl⟩, hat.push _⟩ (by omega) fun h' tk acc c' hk hD hacc => ?_
  have ev : acc.toList = vs.map (·.2) := PySem.W.kdl_vals_eq _ (by rw [Array.length_toList]; exact hacc.1) fun j v e => hacc.2 j v (by rw [← Array.getElem?_toList]; exact e)
  have J := I2.laid (t' := tk) (a := _) (o := .lst (kvs.map (·.2))) hk (Nat.le_refl _) (show ObjOk X.prog X.w _ _ _ (.lst (kvs.map (·.2))) from ⟨by rw [List.length_map]; exact hz, acc.toList, c', vals_at kv ev, by rw [Array.toArray_toList]; exact hD⟩)
  exact ⟨.ref _, _, J, rfl, q _ (I2.hok.fresh (Nat.le_refl _))⟩
end
/-! ### tuple(ys[x] for x in list of places) -/
section
variable {X : Cx} {pins : List (Addr × Obj)} {σ : L2.St}
def IntAt (ns : List Int) : Nat → Value → Prop := fun i v => ∃ n t, ns[i]? = some n ∧ v = .int n t
theorem src_list {G : Hp} {P d : Addr} {ns : List Int} (hT : GxR.TabG G P) (hd : G d = some (.lst (ns.map V.int))) : Src X pins σ G P (.ref d) ns.length (IntAt ns) := by
  intro u1 I Q E h
  obtain ⟨its, rv, pl, _⟩ := I.list (show SqL X.K G d (ns.map V.int) from .inl (.inl hd))
  have hdl : d < u1.heap.objs.size := pl.lt
  have hdP : d ≠ P := fun z => by
    obtain ⟨ps, hP, _⟩ := hT
    rw [z, hP] at hd
    cases hd
  have hl : its.length = ns.length := by
    have := rv.length
    rw [List.length_map] at this
    exact this.symm
  refine wpAny_pyIter_list pl.isList ?_
  refine h _ (fun i g => g.IsListIter u1.heap.objs.size d i ∧ g.IsList d its.toArray) [d] (fun A' hh => ?_) ⟨⟨_, Heap.get?_push_size _ rfl, rfl, rfl⟩, (pl.keeps fun b o e => Heap.get?_push_of_some _ e).isList⟩ (fun b hb => ?_)
  · have W := Walks.list hh u1.heap.objs.size d (Nat.ne_of_lt hdl) its.toArray (prog := X.prog) (w := X.w)
    have hls : its.toArray.size = ns.length := by rw [List.size_toArray, hl]
    rw [hls] at W
    refine W.mono_item fun i v hi hv => ?_
    have hv2 : its[i]? = some v := by simpa using hv
    obtain ⟨n, hn⟩ : ∃ n, ns[i]? = some n := ⟨ns[i], List.getElem?_eq_getElem hi⟩
    obtain ⟨w, hw, t, rfl⟩ := rv.get (show (ns.map V.int)[i]? = some (.int n) by rw [List.getElem?_map, hn]; rfl)
    rw [hw] at hv2
    cases hv2
    exact ⟨n, t, hn, rfl⟩
  · rw [List.mem_singleton.mp hb]
    exact ⟨hdl, hdP⟩
theorem elt_itm {G : Hp} {P ra : Addr} {scope : Scope} {x rn : Str} {p1 p2 p3 : Pos} {j : Nat} {ns ys : List Int} (hT : GxR.TabG G P)
    (hN2 : X.N[j]? = some rn) (hv2 : σ[j]? = some (some (.ref ra))) (hk2 : X.env.scope.names.lookup rn = some .cell) (hra : G ra = some (.lst (ys.map V.int))) (hin : ∀ n ∈ ns, 0 ≤ n ∧ n < ys.length)
    (hf : scope.kind = .function) (hx : scope.names.lookup x = some .local) (hr : (rn, NameKind.free) ∈ scope.names) (hrf : scope.names.lookup rn = some .free)
    (hd1 : (x == ("__debug__" : Str)) = false := by decide) (hd4 : (rn == ("__debug__" : Str)) = false := by decide) (hd5 : (rn == ("__classdict__" : Str)) = false := by decide) :
    EltQ X σ G P scope x (.Subscript (.Name rn p1) (.Name x p2) p3) (IntAt ns) (fun l w => ∃ n t, ns[l]? = some n ∧ w = .int (ys.getD n.toNat 0) t) := by
  intro pins u1 I ce B E' l v u2 m2 hB hs hcl hP hn hm hk3
  obtain ⟨n, t, hc, rfl⟩ := hP
  obtain ⟨ur, cl2, ru2, hl2, hcell2⟩ := capt I hN2 hv2 hk2 hr
  cases ru2
  obtain ⟨h0, h1⟩ := hin n (List.mem_of_getElem? hc)
  obtain ⟨its, rv, pl, hz⟩ := I.list (show SqL X.K G ra (ys.map V.int) from .inl (.inl hra))
  have hlt : n.toNat < ys.length := by omega
  obtain ⟨w, hw, tw, rfl⟩ := rv.get (show (ys.map V.int)[n.toNat]? = some (.int (ys.getD n.toNat 0)) by rw [List.getElem?_map, List.getD_eq_getElem?_getD, List.getElem?_eq_getElem hlt]; rfl)
  have pl2 : PlainL u2.heap ra its.toArray := pl.at fun o e => hk3 ra o (fun z => by
    obtain ⟨ps, hPp, _⟩ := hT
    rw [z, hPp] at hra
    cases hra) e
  have kf : ce.scope.kind = .function := by rw [hs]; exact hf
  refine PyProof.Rows.Subscript_ ?_
  refine wpAny_Name (wpAny_loadName_free kf (show ce.scope.names.lookup rn = some .free by rw [hs]; exact hrf) (by rw [hcl]; exact hl2) (cell_kept I hT hcell2 hk3) ?_ hd5) hd4
  refine wpAny_Name (wpAny_loadName_local kf (show ce.scope.names.lookup x = some .local by rw [hs]; exact hx) hn hm ?_) hd1
  have h63 := line63
  rw [List.length_map] at hz
  refine item_listR pl2.isList h0 (by omega) (by simpa using hw) ⟨⟨n, tw, hc, rfl⟩, GxR.keeps_refl _⟩ (by rfl)
end
def DItm (P : Addr) (j : Nat) : V → L2.St → Hp → List V → Prop := fun v σ G xs => GxR.TabG G P ∧ ∃ (d ra : Addr) (ns ys : List Int), v = .ref d ∧ ns.length ≤ sizeLine ∧ G d = some (.lst (ns.map V.int)) ∧ σ[j]? = some (some (.ref ra)) ∧ G ra = some (.lst (ys.map V.int)) ∧ (∀ n ∈ ns, 0 ≤ n ∧ n < ys.length) ∧ xs = ns.map fun n => V.int (ys.getD n.toNat 0)
theorem hd_itm {X : Cx} {P : Addr} {scope : Scope} {x rn : Str} {p1 p2 p3 : Pos} {j : Nat} (hN2 : X.N[j]? = some rn) (hk2 : X.env.scope.names.lookup rn = some .cell)
    (hf : scope.kind = .function) (hx : scope.names.lookup x = some .local) (hrf : scope.names.lookup rn = some .free) (hr : (rn, NameKind.free) ∈ scope.names)
    (hd1 : (x == ("__debug__" : Str)) = false := by decide) (hd4 : (rn == ("__debug__" : Str)) = false := by decide) (hd5 : (rn == ("__classdict__" : Str)) = false := by decide) :
    ∀ (pins : List (Addr × Obj)) (σ : L2.St) (G : Hp) (v : V) (xs : List V), DItm P j v σ G xs → xs.length ≤ sizeLine ∧ ∃ (Pf F : Nat → Value → Prop), (∀ u, RelV v u → Src X pins σ G P u xs.length Pf) ∧
      EltQ X σ G P scope x (.Subscript (.Name rn p1) (.Name x p2) p3) Pf F ∧ ∀ (l : Nat) (y : Value) (z : V), xs[l]? = some z → F l y → RelV z y := by
  intro pins σ G v xs h
  obtain ⟨hT, d, ra, ns, ys, rfl, hz, hd, hv2, hra, hin, rfl⟩ := h
  refine ⟨by rw [List.length_map]; exact hz, _, _, fun u ru => ?_, elt_itm (ns := ns) hT hN2 hv2 hk2 hra hin hf hx hr hrf hd1 hd4 hd5, fun l y z h1 h2 => ?_⟩
  · cases ru
    rw [List.length_map]
    exact src_list hT hd
  · obtain ⟨n, t, hc, rfl⟩ := h2
    rw [List.getElem?_map, hc] at h1
    cases h1
    exact ⟨t, rfl⟩
end My

set_option Elab.async false
set_option linter.all false
set_option maxRecDepth 100000
set_option maxHeartbeats 2000000
namespace My
open PySem PySem.Spec PyProof.Rows L2
/-! ### needs as data -/
def ndD (p : Nd2) : PyData := .tuple [.str (txS p.1), .str (txS p.2)]
structure NdS (p : Nd2) : Prop where
  l1 : p.1.length ≤ 26
  l2 : p.2.length ≤ 26
  az : ∀ c ∈ p.1 ++ p.2, c ≤ 122
theorem lay_txt {l : List Nat} (h : ∀ c ∈ l, c ≤ 122) : PyData.canLay0 (.str (txS l)) = true := by
  show (txS l).cps.all (· < 0x110000) = true
  rw [Array.all_eq_true']
  intro c hc
  have := h c (by simpa using hc)
  exact decide_eq_true (by omega)
theorem lay_nd {p : Nd2} (h : NdS p) : PyData.canLay0 (ndD p) = true := by
  have h1 := lay_txt (l := p.1) fun c hc => h.az c (List.mem_append_left _ hc)
  have h2 := lay_txt (l := p.2) fun c hc => h.az c (List.mem_append_right _ hc)
  show ((PyData.canLay0 (.str (txS p.1))) && ((PyData.canLay0 (.str (txS p.2))) && true)) = true
  rw [h1, h2]
  rfl
theorem depth_nd (p : Nd2) : (ndD p).depth = 1 := by simp [ndD, PyData.depth, PyData.depthAll]
theorem shaped_nd {p : Nd2} (h : NdS p) : SeqAt.shaped (ndD p) = true := by
  unfold SeqAt.shaped
  rw [lay_nd h, depth_nd]
  rfl
theorem lay_nds : ∀ {nd : List Nd2}, (∀ p ∈ nd, NdS p) → PyData.canLayAll0 (nd.map ndD) = true
  | [], _ => by simp [PyData.canLayAll0]
  | p :: nd, h => by
    rw [List.map_cons]
    show (PyData.canLay0 (ndD p) && PyData.canLayAll0 (nd.map ndD)) = true
    rw [lay_nd (h p (by simp)), lay_nds fun q hq => h q (by simp [hq])]
    rfl
theorem depth_nds : ∀ nd : List Nd2, PyData.depthAll (nd.map ndD) ≤ 1
  | [] => by simp [PyData.depthAll]
  | p :: nd => by
    have := depth_nds nd
    simp only [List.map_cons, PyData.depthAll, depth_nd]
    omega
theorem shaped_nds {nd : List Nd2} (h : ∀ p ∈ nd, NdS p) : SeqAt.shaped (.list (nd.map ndD)) = true := by
  unfold SeqAt.shaped
  have h1 : PyData.canLay0 (.list (nd.map ndD)) = true := lay_nds h
  have h2 := depth_nds nd
  rw [h1, Bool.true_and]
  refine decide_eq_true ?_
  simp only [PyData.depth]
  omega
theorem eqv_nd (p q : Nd2) : PyData.eqv (ndD p) (ndD q) = decide (p = q) := by
  show ((txS p.1 == txS q.1) && ((txS p.2 == txS q.2) && true)) = _
  have key : ∀ a b : List Nat, (txS a == txS b) = decide (a = b) := fun a b => by
    by_cases h : a = b
    · rw [h]
      simp
    · rw [beq_eq_false_iff_ne.mpr fun z => h (txS_inj z), decide_eq_false h]
  rw [key, key, Bool.and_true, Bool.eq_iff_iff, Bool.and_eq_true, decide_eq_true_eq, decide_eq_true_eq, decide_eq_true_eq]
  exact ⟨fun h => Prod.ext h.1 h.2, fun h => by rw [h]; exact ⟨rfl, rfl⟩⟩
theorem eqv_nds : ∀ (a b : List Nd2), PyData.eqv (.list (a.map ndD)) (.list (b.map ndD)) = decide (a = b)
  | [], [] => rfl
  | [], q :: b => by
    show false = _
    simp
  | p :: a, [] => by
    show false = _
    simp
  | p :: a, q :: b => by
    have ih : PyData.eqv (.list (a.map ndD)) (.list (b.map ndD)) = decide (a = b) := eqv_nds a b
    have e1 : PyData.eqv (.list ((p :: a).map ndD)) (.list ((q :: b).map ndD)) = (PyData.eqv (ndD p) (ndD q) && PyData.eqv (.list (a.map ndD)) (.list (b.map ndD))) := rfl
    rw [e1, ih, eqv_nd, Bool.eq_iff_iff, Bool.and_eq_true, decide_eq_true_eq, decide_eq_true_eq, decide_eq_true_eq]
    exact ⟨fun h => by rw [h.1, h.2], fun h => by injection h with h1 h2; exact ⟨h1, h2⟩⟩
/-- the needs stand at these places -/
inductive NA (H : Hp) : List Addr → List Nd2 → Prop
  | nil : NA H [] []
  | cons {a : Addr} {p : Nd2} {as : List Addr} {nd : List Nd2} : H a = some (.tup [tx p.1, tx p.2]) → NA H as nd → NA H (a :: as) (p :: nd)
theorem NA.len {H : Hp} {as : List Addr} {nd : List Nd2} (h : NA H as nd) : as.length = nd.length := by
  induction h with
  | nil => rfl
  | cons _ _ ih => rw [List.length_cons, List.length_cons, ih]
theorem NA.at {H : Hp} {as : List Addr} {nd : List Nd2} (h : NA H as nd) : ∀ {i : Nat} {p : Nd2}, nd[i]? = some p → ∃ a, as[i]? = some a ∧ H a = some (.tup [tx p.1, tx p.2]) := by
  induction h with
  | nil => intro i p e; cases e
  | cons h1 _ ih =>
    intro i p e
    cases i with
    | zero =>
      cases e
      exact ⟨_, rfl, h1⟩
    | succ i => exact ih (i := i) (p := p) e
theorem NA.mono {H H' : Hp} {as : List Addr} {nd : List Nd2} (h : NA H as nd) (k : ∀ b xs, H b = some (.tup xs) → H' b = some (.tup xs)) : NA H' as nd := by
  induction h with
  | nil => exact .nil
  | cons h1 _ ih => exact .cons (k _ _ h1) ih
theorem NA.snoc {H : Hp} {as : List Addr} {nd : List Nd2} (h : NA H as nd) {a : Addr} {p : Nd2} (ha : H a = some (.tup [tx p.1, tx p.2])) : NA H (as ++ [a]) (nd ++ [p]) := by
  induction h with
  | nil => exact .cons ha .nil
  | cons h1 _ ih => exact .cons h1 ih
theorem NA.dp {K : PySem.W.Frag} {H : Hp} {as : List Addr} {nd : List Nd2} (h : NA H as nd) : DpAll K H (as.map V.ref) (nd.map ndD) := by
  induction h with
  | nil => exact .nil
  | cons h1 _ ih => exact .cons (.tup (.inl (.inl h1)) (.cons (.str _) (.cons (.str _) .nil))) ih
def Rn (nd : List Nd2) (a j : Nat) : Bool := match nd[a]?, nd[j]? with
  | some p, some q => ahd p q
  | _, _ => false
theorem Rn_at {nd : List Nd2} {a j : Nat} {p q : Nd2} (h1 : nd[a]? = some p) (h2 : nd[j]? = some q) : Rn nd a j = ahd p q := by
  unfold Rn
  rw [h1, h2]
theorem Rn_open {nd : List Nd2} {a j : Nat} (h : Rn nd a j = true) : ∃ p q, nd[a]? = some p ∧ nd[j]? = some q ∧ ahd p q = true := by
  unfold Rn at h
  cases h1 : nd[a]? with
  | none => rw [h1] at h; cases h
  | some p =>
    cases h2 : nd[j]? with
    | none => rw [h1, h2] at h; cases h
    | some q =>
      rw [h1, h2] at h
      exact ⟨p, q, rfl, rfl, h⟩
theorem Rn_tr {nd : List Nd2} (hok : ∀ p ∈ nd, NdOk p) : ∀ a b c, Rn nd a b = true → Rn nd b c = true → Rn nd a c = true := fun a b c h1 h2 => by
  obtain ⟨p, q, e1, e2, e3⟩ := Rn_open h1
  obtain ⟨q', r, f1, f2, f3⟩ := Rn_open h2
  rw [e2] at f1
  cases f1
  rw [Rn_at e1 f2]
  exact ahd_trans (hok p (List.mem_of_getElem? e1)) (hok q (List.mem_of_getElem? e2)) e3 f3
theorem Rn_ir (nd : List Nd2) : ∀ a, Rn nd a a = false := fun a => by
  refine eq_false_of_ne_true fun h => ?_
  obtain ⟨p, q, e1, e2, e3⟩ := Rn_open h
  rw [e1] at e2
  cases e2
  exact (ahd_iff.mp e3).1 rfl
/-! ### dicts by numbers -/
abbrev nK (j : Nat) : Key := Sum.inl (j : Int)
theorem nK_inj {i j : Nat} (h : nK i = nK j) : i = j := by
  have h2 : (i : Int) = (j : Int) := Sum.inl.inj h
  omega
structure AhD (kvs : List (Key × V)) (m : Nat → Option Nat) : Prop where
  get : ∀ j : Nat, valV kvs (nK j) = (m j).map fun a => V.int (a : Int)
  key : ∀ q ∈ kvs, ∃ j a : Nat, q = (nK j, V.int (a : Int)) ∧ m j = some a
  nd : (kvs.map (·.1)).Nodup
theorem AhD.nil : AhD [] (fun _ => none) := ⟨fun _ => rfl, (fun q hq => nomatch hq), List.nodup_nil⟩
theorem putK_keys {kvs : List (Key × V)} {k : Key} {v : V} (h : (kvs.map (·.1)).Nodup) : ((putK kvs k v).map (·.1)).Nodup := by
  unfold putK
  split
  · rw [List.map_map]
    have : (kvs.map ((fun q : Key × V => q.1) ∘ fun kv => if kv.1 = k then (kv.1, v) else kv)) = kvs.map (·.1) := List.map_congr_left fun q _ => by
      show (if q.1 = k then (q.1, v) else q).1 = q.1
      split <;> rfl
    rw [this]
    exact h
  · rename_i hn
    rw [List.map_append, List.nodup_append]
    refine ⟨h, by simp, fun a ha b hb z => hn ?_⟩
    obtain ⟨q, hq, rfl⟩ := List.mem_map.mp ha
    rw [List.any_eq_true]
    refine ⟨q, hq, decide_eq_true ?_⟩
    rw [z]
    simpa using hb
theorem putK_mem {kvs : List (Key × V)} {k : Key} {v : V} {q : Key × V} (h : q ∈ putK kvs k v) : q = (k, v) ∨ (q ∈ kvs ∧ q.1 ≠ k) := by
  unfold putK at h
  split at h
  · obtain ⟨r, hr, e⟩ := List.mem_map.mp h
    by_cases z : r.1 = k
    · rw [if_pos z] at e
      exact .inl (by rw [← e, z])
    · rw [if_neg z] at e
      exact .inr (by rw [← e]; exact ⟨hr, z⟩)
  · rename_i hn
    rcases List.mem_append.mp h with z | z
    · refine .inr ⟨z, fun y => hn ?_⟩
      rw [List.any_eq_true]
      exact ⟨q, z, decide_eq_true y⟩
    · exact .inl (List.mem_singleton.mp z)
theorem AhD.put {kvs : List (Key × V)} {m : Nat → Option Nat} (h : AhD kvs m) (j a : Nat) : AhD (putK kvs (nK j) (.int (a : Int))) (putM m j a) := by
  refine ⟨fun i => ?_, fun q hq => ?_, putK_keys h.nd⟩
  · rw [valV_put]
    by_cases z : i = j
    · rw [z, if_pos rfl, putM_at]
      rfl
    · rw [if_neg fun y => z (nK_inj y), putM_ne z]
      exact h.get i
  · rcases putK_mem hq with z | ⟨z, y⟩
    · exact ⟨j, a, z, putM_at⟩
    · obtain ⟨i, b, e1, e2⟩ := h.key q z
      refine ⟨i, b, e1, ?_⟩
      rw [putM_ne fun x => y (by rw [e1, x])]
      exact e2
theorem AhD.len {kvs : List (Key × V)} {m : Nat → Option Nat} {n : Nat} (h : AhD kvs m) (hn : ∀ j a, m j = some a → j < n) : kvs.length ≤ n := by
  have key : ∀ l : List (Key × V), (∀ q ∈ l, ∃ j : Nat, q.1 = nK j ∧ j < n) → (l.map (·.1)).Nodup → ∃ js : List Nat, js.length = l.length ∧ js.Nodup ∧ (∀ j ∈ js, j < n) ∧ ∀ j ∈ js, nK j ∈ l.map (·.1) := by
    intro l
    induction l with
    | nil => exact fun _ _ => ⟨[], rfl, List.nodup_nil, (fun j hj => nomatch hj), fun j hj => nomatch hj⟩
    | cons q l ih =>
      intro h1 h2
      obtain ⟨h3, h4⟩ := List.nodup_cons.mp h2
      obtain ⟨js, g1, g2, g3, g4⟩ := ih (fun r hr => h1 r (by simp [hr])) h4
      obtain ⟨j, e, hj⟩ := h1 q (by simp)
      refine ⟨j :: js, by rw [List.length_cons, List.length_cons, g1], List.nodup_cons.mpr ⟨fun z => h3 ?_, g2⟩, fun i hi => ?_, fun i hi => ?_⟩
      · have := g4 j z
        rw [← e] at this
        exact this
      · rcases List.mem_cons.mp hi with z | z
        · rw [z]; exact hj
        · exact g3 i z
      · rcases List.mem_cons.mp hi with z | z
        · rw [z, List.map_cons, ← e]
          exact List.mem_cons_self
        · exact List.mem_cons_of_mem _ (g4 i z)
  obtain ⟨js, g1, g2, g3, _⟩ := key kvs (fun q hq => by
    obtain ⟨j, a, e, hm⟩ := h.key q hq
    exact ⟨j, by rw [e], hn j a hm⟩) h.nd
  have := nodup_lt_len g2 g3
  omega
theorem AhD.vals {kvs : List (Key × V)} {m : Nat → Option Nat} (h : AhD kvs m) (a : Nat) : inV (.int (a : Int)) (kvs.map (·.2)) = true ↔ ∃ j, m j = some a := by
  have key : ∀ l : List V, (∀ v ∈ l, ∃ b : Nat, v = .int (b : Int)) → (inV (.int (a : Int)) l = true ↔ V.int (a : Int) ∈ l) := by
    intro l
    induction l with
    | nil => intro _; simp [inV]
    | cons v l ih =>
      intro hl
      obtain ⟨b, rfl⟩ := hl v (by simp)
      have ih2 := ih fun u hu => hl u (by simp [hu])
      show (((b : Int) == (a : Int)) || inV (.int (a : Int)) l) = true ↔ _
      rw [Bool.or_eq_true, ih2, List.mem_cons, beq_iff_eq]
      constructor
      · rintro (z | z)
        · exact .inl (by rw [z])
        · exact .inr z
      · rintro (z | z)
        · injection z with z
          exact .inl z.symm
        · exact .inr z
  rw [key _ fun v hv => ?_]
  · rw [List.mem_map]
    constructor
    · rintro ⟨q, hq, e⟩
      obtain ⟨j, b, e1, e2⟩ := h.key q hq
      rw [e1] at e
      injection e with e
      exact ⟨j, by rw [e2]; congr 1; omega⟩
    · rintro ⟨j, e⟩
      have g := h.get j
      rw [e] at g
      unfold valV at g
      obtain ⟨q, hq, e2⟩ := Option.map_eq_some_iff.mp g
      exact ⟨q, List.mem_of_find?_eq_some hq, e2⟩
  · obtain ⟨q, hq, e⟩ := List.mem_map.mp hv
    obtain ⟨j, b, e1, e2⟩ := h.key q hq
    exact ⟨b, by rw [← e, e1]⟩
structure TrD (kvs : List (Key × V)) (T : List Nat) : Prop where
  has : ∀ j : Nat, (valV kvs (nK j)).isSome = decide (j ∈ T)
  len : kvs.length ≤ T.length
theorem TrD.nil : TrD [] [] := ⟨fun j => by simp [valV_nil], Nat.le_refl _⟩
theorem TrD.put {kvs : List (Key × V)} {T : List Nat} (h : TrD kvs T) (j : Nat) (v : V) : TrD (putK kvs (nK j) v) (T ++ [j]) := by
  refine ⟨fun i => ?_, ?_⟩
  · rw [valV_put]
    by_cases z : i = j
    · rw [z, if_pos rfl]
      simp
    · rw [if_neg fun y => z (nK_inj y), h.has i]
      simp [z]
  · rw [List.length_append]
    have := h.len
    unfold putK
    split
    · rw [List.length_map]
      omega
    · rw [List.length_append]
      simp
      exact this
end My

set_option Elab.async false
set_option linter.all false
set_option maxRecDepth 100000
set_option maxHeartbeats 2000000
namespace My
open PySem PySem.Spec PyProof.Rows L2
theorem units65 {A : Around} {k : Nat} (hr : Room k A) : A.units + 65 < cLine := by
  have := hr.un
  omega
/-! ### needs in a list; what stays -/
def NdL (H : Hp) (na : Addr) (nd : List Nd2) : Prop := ∃ as : List Addr, H na = some (.lst (as.map V.ref)) ∧ NA H as nd
def Off (L : List Addr) (H : Hp) : Prop := ∀ b xs, (H b = some (.tup xs) ∨ H b = some (.lst xs)) → b ∉ L
theorem Off.nil {H : Hp} : Off [] H := fun b xs _ h => nomatch h
theorem Off.cons {L : List Addr} {H : Hp} {a : Addr} {kvs : List (Key × V)} (o : Off L H) (h : H a = some (.dK kvs)) : Off (a :: L) H := fun b xs hb hm => by
  rcases List.mem_cons.mp hm with e | e
  · rw [e, h] at hb
    rcases hb with z | z <;> cases z
  · exact o b xs hb e
theorem TG.off {Ps : List Addr} {H : Hp} (t : TG Ps H) : Off Ps H := fun b xs h => by
  rcases h with h | h
  · exact t.not h fun q z => nomatch z
  · exact t.not h fun q z => nomatch z
theorem NdL.sx {L : List Addr} {H H' : Hp} {na : Addr} {nd : List Nd2} (h : NdL H na nd) (o : Off L H) (s : Sx L H H') : NdL H' na nd := by
  obtain ⟨as, h1, h2⟩ := h
  exact ⟨as, s _ _ (o na _ (.inr h1)) h1, h2.mono fun b xs hb => s b _ (o b xs (.inl hb)) hb⟩
theorem NdL.same {H H' : Hp} {na : Addr} {nd : List Nd2} (h : NdL H na nd) (s : Same H H') : NdL H' na nd := h.sx Off.nil (Same.sx s)
theorem Sx.more {L L' : List Addr} {H H' : Hp} (s : Sx L H H') (h : ∀ b ∈ L, b ∈ L') : Sx L' H H' := fun b o nb e => s b o (fun z => nb (h b z)) e
theorem Sx.cons {L : List Addr} {H H' : Hp} (s : Sx L H H') (a : Addr) : Sx (a :: L) H H' := s.more fun b h => List.mem_cons_of_mem _ h
theorem Sx.updL {L : List Addr} {H H1 : Hp} {a : Addr} {o : HO} (s : Sx (a :: L) H H1) : Sx (a :: L) H (upd H1 a o) := fun b x nb e => keep_ne (s b x nb e) fun z => nb (by rw [z]; exact List.mem_cons_self)
theorem Sx.updM {L : List Addr} {H H1 : Hp} {a : Addr} {o : HO} (s : Sx L H H1) (h : a ∈ L) : Sx L H (upd H1 a o) := fun b x nb e => keep_ne (s b x nb e) fun z => nb (by rw [z]; exact h)
theorem TG.upd {Ps : List Addr} {H : Hp} {a : Addr} {o : HO} (t : TG Ps H) (h : a ∉ Ps) : TG Ps (L2.upd H a o) := fun P hP => by
  obtain ⟨ps, h1, r⟩ := t P hP
  exact ⟨ps, keep_ne h1 fun z => h (z ▸ hP), r⟩
/-- how far the look for one behind has gone -/
structure Fbi (n : Nat) (R : Nat → Nat → Bool) (m : Nat → Option Nat) (a : Nat) (T T' : List Nat) (i : Nat) : Prop where
  sub : ∀ t ∈ T, t ∈ T'
  all : ∀ j, j < i → R a j = true → j ∈ T'
  new : ∀ t ∈ T', t ∉ T → ∃ b, m t = some b ∧ ∀ j, j < n → R b j = true → j ∈ T'
theorem Fbi.zero {n : Nat} {R : Nat → Nat → Bool} {m : Nat → Option Nat} {a : Nat} {T : List Nat} : Fbi n R m a T T 0 := ⟨fun _ h => h, (fun j h => absurd h (Nat.not_lt_zero j)), fun t h1 h2 => absurd h1 h2⟩
theorem Fbi.done {n : Nat} {R : Nat → Nat → Bool} {m : Nat → Option Nat} {a : Nat} {T T' : List Nat} (h : Fbi n R m a T T' n) : FbF n R m a T T' := ⟨h.sub, h.all, h.new⟩
theorem Fbi.skip {n : Nat} {R : Nat → Nat → Bool} {m : Nat → Option Nat} {a i : Nat} {T T' : List Nat} (h : Fbi n R m a T T' i) (hi : R a i = true → i ∈ T') : Fbi n R m a T T' (i + 1) := by
  refine ⟨h.sub, fun j hj hr => ?_, h.new⟩
  by_cases z : j = i
  · rw [z] at hr ⊢
    exact hi hr
  · exact h.all j (by omega) hr
theorem Fbi.deep {n : Nat} {R : Nat → Nat → Bool} {m : Nat → Option Nat} {a b i : Nat} {T T1 T' : List Nat} (h : Fbi n R m a T T1 i) (hm : m i = some b) (f : FbF n R m b (T1 ++ [i]) T') : Fbi n R m a T T' (i + 1) := by
  have s1 : ∀ t ∈ T1, t ∈ T' := fun t ht => f.sub t (List.mem_append_left _ ht)
  have si : i ∈ T' := f.sub i (by simp)
  refine ⟨fun t ht => s1 t (h.sub t ht), fun j hj hr => ?_, fun t ht hn => ?_⟩
  · by_cases z : j = i
    · rw [z]
      exact si
    · exact s1 j (h.all j (by omega) hr)
  · by_cases z : t ∈ T1
    · obtain ⟨c, e, hc⟩ := h.new t z hn
      exact ⟨c, e, fun j hj hr => s1 j (hc j hj hr)⟩
    · by_cases z2 : t = i
      · rw [z2]
        exact ⟨b, hm, f.all⟩
      · exact f.new t ht fun z3 => by
          rcases List.mem_append.mp z3 with q | q
          · exact z q
          · exact z2 (List.mem_singleton.mp q)
end My

set_option Elab.async false
set_option linter.all false
set_option maxRecDepth 100000
set_option maxHeartbeats 2000000
namespace My
open PySem PySem.Spec PyProof.Rows L2
/-! ### chains -/
theorem Dn_none {m : Nat → Option Nat} {l i : Nat} (h : Dn m l i) (hm : m l = none) : i = l := by
  induction h with
  | refl => rfl
  | step _ e ih =>
    rw [ih, hm] at e
    cases e
theorem Dn_some {m : Nat → Option Nat} {l b i : Nat} (h : Dn m l i) (hm : m l = some b) : i = l ∨ Dn m b i := by
  induction h with
  | refl => exact .inl rfl
  | step _ e ih =>
    rcases ih with z | z
    · rw [z, hm] at e
      cases e
      exact .inr .refl
    · exact .inr (.step z e)
structure ChT (nd : List Nd2) (m : Nat → Option Nat) (last : Nat) (ch : List Nd2) : Prop where
  chn : Chn ch
  mem : ∀ p ∈ ch, p ∈ nd
  all : ∀ i p, Dn m last i → nd[i]? = some p → p ∈ ch
/-- a chain on its way, from its end -/
structure ChI (nd : List Nd2) (m : Nat → Option Nat) (last l : Nat) (ch : List Nd2) : Prop where
  pw : ch.Pairwise fun p q => ahd q p = true
  mem : ∀ p ∈ ch, p ∈ nd
  lt : l < nd.length
  low : ∀ p ∈ ch, ∀ q, nd[l]? = some q → p = q ∨ ahd q p = true
  all : ∀ i p, Dn m last i → nd[i]? = some p → p ∈ ch ∨ Dn m l i
  me : ∀ q, nd[l]? = some q → q ∈ ch
theorem ChI.start {nd : List Nd2} {m : Nat → Option Nat} {l : Nat} {p : Nd2} (h : nd[l]? = some p) : ChI nd m l l [p] := by
  refine ⟨List.pairwise_singleton _ _, fun q hq => ?_, (List.getElem?_eq_some_iff.mp h).1, fun q hq r hr => ?_, fun i q hd _ => .inr hd, fun q hq => ?_⟩
  · rw [List.mem_singleton.mp hq]
    exact List.mem_of_getElem? h
  · rw [h] at hr
    cases hr
    exact .inl (List.mem_singleton.mp hq)
  · rw [h] at hq
    cases hq
    simp
theorem ChI.next {nd : List Nd2} {m : Nat → Option Nat} {last l b : Nat} {ch : List Nd2} {p : Nd2} (hok : ∀ p ∈ nd, NdOk p) (c : ChI nd m last l ch) (M : Mt nd.length (Rn nd) m) (hm : m l = some b) (hp : nd[b]? = some p) : ChI nd m last b (ch ++ [p]) := by
  obtain ⟨_, hb, hr⟩ := M.edge l b hm
  obtain ⟨p', q, e1, e2, e3⟩ := Rn_open hr
  rw [hp] at e1
  cases e1
  have hpn := List.mem_of_getElem? hp
  have key : ∀ r ∈ ch, ahd p r = true := fun r hr => by
    rcases c.low r hr q e2 with z | z
    · rw [z]
      exact e3
    · exact ahd_trans (hok p hpn) (hok q (List.mem_of_getElem? e2)) e3 z
  refine ⟨?_, fun r hr => ?_, hb, fun r hr q' hq' => ?_, fun i r hd hi => ?_, fun r hr => ?_⟩
  · rw [List.pairwise_append]
    refine ⟨c.pw, List.pairwise_singleton _ _, fun r hr s hs => ?_⟩
    rw [List.mem_singleton.mp hs]
    exact key r hr
  · rcases List.mem_append.mp hr with z | z
    · exact c.mem r z
    · rw [List.mem_singleton.mp z]
      exact hpn
  · rw [hp] at hq'
    cases hq'
    rcases List.mem_append.mp hr with z | z
    · exact .inr (key r z)
    · exact .inl (List.mem_singleton.mp z)
  · rcases c.all i r hd hi with z | z
    · exact .inl (List.mem_append_left _ z)
    · rcases Dn_some z hm with y | y
      · rw [y] at hi
        exact .inl (List.mem_append_left _ (c.me r hi))
      · exact .inr y
  · rw [hp] at hr
    cases hr
    simp
theorem ChI.done {nd : List Nd2} {m : Nat → Option Nat} {last l : Nat} {ch : List Nd2} (c : ChI nd m last l ch) (hm : m l = none) : ChT nd m last ch.reverse := by
  refine ⟨?_, fun p hp => c.mem p (List.mem_reverse.mp hp), fun i p hd hi => List.mem_reverse.mpr ?_⟩
  · unfold Chn
    rw [List.pairwise_reverse]
    exact c.pw
  · rcases c.all i p hd hi with z | z
    · exact z
    · rw [Dn_none z hm] at hi
      exact c.me p hi
theorem NA.rev {H : Hp} {as : List Addr} {nd : List Nd2} (h : NA H as nd) : NA H as.reverse nd.reverse := by
  induction h with
  | nil => exact .nil
  | cons h1 _ ih =>
    rw [List.reverse_cons, List.reverse_cons]
    exact ih.snoc h1
/-! ### the first of like ones -/
def ixN (p : Nd2) : List Nd2 → Nat
  | [] => 0
  | q :: l => if q = p then 0 else ixN p l + 1
theorem ixN_at {p : Nd2} : ∀ {l : List Nd2}, p ∈ l → l[ixN p l]? = some p
  | q :: l, h => by
    unfold ixN
    split
    · rename_i e
      rw [e]
      rfl
    · rename_i e
      rcases List.mem_cons.mp h with z | z
      · exact absurd z.symm e
      · exact ixN_at z
theorem ixN_lt {p : Nd2} : ∀ {l : List Nd2} {k : Nat} {z : Nd2}, k < ixN p l → l[k]? = some z → z ≠ p
  | [], k, z, h, e => by cases e
  | q :: l, k, z, h, e => by
    unfold ixN at h
    split at h
    · exact absurd h (Nat.not_lt_zero k)
    · rename_i hq
      cases k with
      | zero =>
        cases e
        exact hq
      | succ k => exact ixN_lt (l := l) (k := k) (by omega) e
def isFst (nd : List Nd2) (i : Nat) : Bool := match nd[i]? with
  | some p => decide (ixN p nd = i)
  | none => false
def plM (nd : List Nd2) : List Nat := (List.range nd.length).filter (isFst nd)
abbrev ndG (nd : List Nd2) (i : Nat) : Nd2 := nd.getD i ([], [])
def unM (nd : List Nd2) : List Nd2 := (plM nd).map (ndG nd)
theorem ndG_at {nd : List Nd2} {i : Nat} (h : i < nd.length) : nd[i]? = some (ndG nd i) := by
  unfold ndG
  rw [List.getD_eq_getElem?_getD, List.getElem?_eq_getElem h]
  rfl
theorem isFst_at {nd : List Nd2} {i : Nat} {p : Nd2} (h : nd[i]? = some p) : isFst nd i = decide (ixN p nd = i) := by
  unfold isFst
  rw [h]
theorem pl_mem {nd : List Nd2} {i : Nat} (h : i ∈ plM nd) : i < nd.length ∧ ixN (ndG nd i) nd = i := by
  unfold plM at h
  obtain ⟨h1, h2⟩ := List.mem_filter.mp h
  have h3 := List.mem_range.mp h1
  rw [isFst_at (ndG_at h3)] at h2
  exact ⟨h3, of_decide_eq_true h2⟩
theorem pl_up (nd : List Nd2) : (plM nd).Pairwise (· < ·) := List.Pairwise.filter _ List.pairwise_lt_range
theorem un_nd (nd : List Nd2) : (unM nd).Nodup := by
  unfold unM List.Nodup
  rw [List.pairwise_map]
  refine (pl_up nd).imp_of_mem fun {a b} ha hb hab e => ?_
  have h1 := (pl_mem ha).2
  have h2 := (pl_mem hb).2
  rw [e] at h1
  omega
theorem un_has {nd : List Nd2} {p : Nd2} (h : p ∈ nd) : p ∈ unM nd := by
  have h1 := ixN_at h
  have h2 : ixN p nd < nd.length := (List.getElem?_eq_some_iff.mp h1).1
  have h3 : ndG nd (ixN p nd) = p := by
    unfold ndG
    rw [List.getD_eq_getElem?_getD, h1]
    rfl
  refine List.mem_map.mpr ⟨ixN p nd, ?_, h3⟩
  unfold plM
  exact List.mem_filter.mpr ⟨List.mem_range.mpr h2, by rw [isFst_at h1]; simp⟩
theorem un_sub {nd : List Nd2} {p : Nd2} (h : p ∈ unM nd) : p ∈ nd := by
  obtain ⟨i, hi, rfl⟩ := List.mem_map.mp h
  exact List.mem_of_getElem? (ndG_at (pl_mem hi).1)
theorem un_len (nd : List Nd2) : (unM nd).length = (plM nd).length := by
  unfold unM
  rw [List.length_map]
theorem pl_len (nd : List Nd2) : (plM nd).length ≤ nd.length := by
  have := List.length_filter_le (isFst nd) (List.range nd.length)
  rw [List.length_range] at this
  exact this
theorem un_at {nd : List Nd2} {a : Nat} (h : a < (plM nd).length) : (unM nd)[a]? = some (ndG nd ((plM nd).getD a 0)) := by
  unfold unM
  rw [List.getElem?_map, List.getD_eq_getElem?_getD, List.getElem?_eq_getElem h]
  rfl
/-! ### the fewest lists -/
structure FewOk (nd : List Nd2) (ls : List (List Nat)) (ap : List Nat) : Prop where
  len : ls.length = ap.length
  up : ap.Pairwise (· < ·)
  lt : ∀ a ∈ ap, a < nd.length
  srv : ∀ p ∈ nd, ∃ l ∈ ls, srv l p
  lst : ∀ l ∈ ls, l.Nodup ∧ (∀ c ∈ l, ∃ p ∈ nd, c ∈ p.1 ++ p.2) ∧ ∃ p ∈ nd, ∀ c ∈ p.1 ++ p.2, c ∈ l
  apart : ∀ a b p q, a ∈ ap → b ∈ ap → a ≠ b → nd[a]? = some p → nd[b]? = some q → agr p q = false
theorem few_ok {nd : List Nd2} {m : Nat → Option Nat} {lasts L B : List Nat} {chs : List (List Nd2)} (hok : ∀ p ∈ nd, NdOk p) (M : Mx (unM nd).length (Rn (unM nd)) (unM nd).length m) (hl : Lst (unM nd).length m lasts) (hcl : chs.length = lasts.length)
    (hch : ∀ (j last : Nat) (ch : List Nd2), lasts[j]? = some last → chs[j]? = some ch → ChT (unM nd) m last ch) (k : Kg (unM nd).length (Rn (unM nd)) m lasts [] L B) : FewOk nd (chs.map lstM) ((apM (unM nd).length L B).map fun a => (plM nd).getD a 0) := by
  have hoku : ∀ p ∈ unM nd, NdOk p := fun p hp => hok p (un_sub hp)
  have tr := Rn_tr hoku
  have ir := Rn_ir (unM nd)
  have plt : ∀ a ∈ apM (unM nd).length L B, a < (plM nd).length := fun a ha => by
    have := (apM_mem.mp ha).1
    rw [un_len] at this
    exact this
  have atp : ∀ a, a < (plM nd).length → (plM nd).getD a 0 ∈ plM nd := fun a ha => by
    rw [List.getD_eq_getElem?_getD, List.getElem?_eq_getElem ha]
    exact List.getElem_mem ha
  have chm : ∀ ch ∈ chs, ∃ last ∈ lasts, ChT (unM nd) m last ch := fun ch hc => by
    obtain ⟨j, hj, rfl⟩ := List.getElem_of_mem hc
    have hj2 : j < lasts.length := by omega
    exact ⟨lasts[j], List.getElem_mem hj2, hch j _ _ (List.getElem?_eq_getElem hj2) (List.getElem?_eq_getElem hj)⟩
  refine ⟨?_, ?_, fun a ha => ?_, fun p hp => ?_, fun l hl2 => ?_, fun a b p q ha hb hab hp hq => ?_⟩
  · rw [List.length_map, List.length_map, hcl, k.many M hl tr]
  · rw [List.pairwise_map]
    have h1 : (apM (unM nd).length L B).Pairwise (· < ·) := List.Pairwise.filter _ List.pairwise_lt_range
    refine h1.imp_of_mem fun {a b} ha hb hab => ?_
    have h3 := plt a ha
    have h4 := plt b hb
    rw [List.getD_eq_getElem?_getD, List.getD_eq_getElem?_getD, List.getElem?_eq_getElem h3, List.getElem?_eq_getElem h4]
    exact List.pairwise_iff_getElem.mp (pl_up nd) a b h3 h4 hab
  · obtain ⟨a', ha', rfl⟩ := List.mem_map.mp ha
    exact (pl_mem (atp a' (plt a' ha'))).1
  · obtain ⟨i, hi, e⟩ := List.getElem_of_mem (un_has hp)
    have hi2 : (unM nd)[i]? = some p := by rw [List.getElem?_eq_getElem hi, e]
    obtain ⟨last, hla, hd⟩ := up_lasts M.mt hl tr ir _ i hi (Nat.le_refl _)
    obtain ⟨j, hj, e2⟩ := List.getElem_of_mem hla
    have hj2 : j < chs.length := by omega
    have hc := hch j last chs[j] (by rw [List.getElem?_eq_getElem hj, e2]) (List.getElem?_eq_getElem hj2)
    have hs := lstM_spec _ chs[j] rfl (fun p hp => hoku p (hc.mem p hp)) hc.chn
    exact ⟨lstM chs[j], List.mem_map.mpr ⟨_, List.getElem_mem hj2, rfl⟩, hs.2.1 p (hc.all i p hd hi2)⟩
  · obtain ⟨ch, hc, rfl⟩ := List.mem_map.mp hl2
    obtain ⟨last, hla, c⟩ := chm ch hc
    obtain ⟨h1, h2, h3⟩ := lstM_spec _ ch rfl (fun p hp => hoku p (c.mem p hp)) c.chn
    refine ⟨h1, fun x hx => ?_, ?_⟩
    · obtain ⟨p, hp, hxp⟩ := (h3 x).mp hx
      exact ⟨p, un_sub (c.mem p hp), hxp⟩
    · obtain ⟨hln, _⟩ := (hl.mem last).mp hla
      have hp := c.all last (unM nd)[last] .refl (List.getElem?_eq_getElem hln)
      exact ⟨_, un_sub (c.mem _ hp), fun x hx => (h3 x).mpr ⟨_, hp, hx⟩⟩
  · obtain ⟨a', ha', rfl⟩ := List.mem_map.mp ha
    obtain ⟨b', hb', rfl⟩ := List.mem_map.mp hb
    have h3 := plt a' ha'
    have h4 := plt b' hb'
    have hne : a' ≠ b' := fun z => hab (by rw [z])
    have ea : (unM nd)[a']? = some p := by
      rw [un_at h3, ← hp, ← ndG_at (pl_mem (atp a' h3)).1]
    have eb : (unM nd)[b']? = some q := by
      rw [un_at h4, ← hq, ← ndG_at (pl_mem (atp b' h4)).1]
    refine eq_false_of_ne_true fun z => ?_
    rcases agr_no (hoku p (List.mem_of_getElem? ea)) (hoku q (List.mem_of_getElem? eb)) z with y | y | y
    · rw [y] at ea
      obtain ⟨ga, ea2⟩ := List.getElem?_eq_some_iff.mp ea
      obtain ⟨gb, eb2⟩ := List.getElem?_eq_some_iff.mp eb
      exact hne ((List.getElem_inj (un_nd nd)).mp (ea2.trans eb2.symm))
    · have := k.apart ha' hb'
      rw [Rn_at ea eb, y] at this
      cases this
    · have := k.apart hb' ha'
      rw [Rn_at eb ea, y] at this
      cases this
/-! ### the list for a chain, bounds -/
theorem addL_sub {ls one : List Nat} {b : Nat} (hn : one.Nodup) (h1 : ∀ c ∈ one, c ≤ b) (h2 : ∀ c ∈ ls, c ≤ b) : (addL one ls).Nodup ∧ (∀ c ∈ addL one ls, c ≤ b) ∧ (addL one ls).length ≤ b + 1 := by
  obtain ⟨g1, _, g3⟩ := addL_spec ls one hn
  have g4 : ∀ c ∈ addL one ls, c ≤ b := fun c hc => ((g3 c).mp hc).elim (h1 c) (h2 c)
  exact ⟨g1, g4, nodup_lt_len g1 fun c hc => by have := g4 c hc; omega⟩
theorem addL_snoc (one ls : List Nat) (c : Nat) : addL one (ls ++ [c]) = if c ∈ addL one ls then addL one ls else addL one ls ++ [c] := by
  unfold addL
  rw [List.foldl_append]
  rfl
end My

set_option Elab.async false
set_option linter.all false
set_option maxRecDepth 100000
set_option maxHeartbeats 2000000
namespace My
open PySem PySem.Spec PyProof.Rows L2
abbrev nV (a : Nat) : V := .int (a : Int)
theorem nV_int (l : List Nat) : l.map nV = (l.map fun (a : Nat) => ((a : Nat) : Int)).map V.int := by
  rw [List.map_map]
  rfl
end My

set_option Elab.async false
set_option linter.all false
set_option maxRecDepth 100000
set_option maxHeartbeats 2000000
namespace My
open PySem PySem.Spec PyProof.Rows L2
/-! ### how many lists are needed -/
theorem wthn_take {l : List Nat} {i j : Nat} {a b : List Nat} (ha : ∀ c, c ∈ a ↔ c ∈ l.take i) (hb : ∀ c, c ∈ b ↔ c ∈ l.take j) : (wthn a b || wthn b a) = true := by
  rw [Bool.or_eq_true, wthn_iff, wthn_iff]
  by_cases h : i ≤ j
  · refine .inl fun c hc => (hb c).mpr ?_
    have h1 := (ha c).mp hc
    have e : l.take i = (l.take j).take i := by rw [List.take_take, Nat.min_eq_left h]
    rw [e] at h1
    exact List.mem_of_mem_take h1
  · refine .inr fun c hc => (ha c).mpr ?_
    have h1 := (hb c).mp hc
    have e : l.take j = (l.take i).take j := by rw [List.take_take, Nat.min_eq_left (by omega)]
    rw [e] at h1
    exact List.mem_of_mem_take h1
theorem srv_steps {l : List Nat} {p : Nd2} (h : srv l p) : ∀ s ∈ stps p, ∃ i, ∀ c, c ∈ s ↔ c ∈ l.take i := by
  obtain ⟨x, y, e, pm⟩ := h
  intro s hs
  unfold stps at hs
  rcases List.mem_cons.mp hs with z | z
  · refine ⟨x.length, fun c => ?_⟩
    rw [z, e, List.take_left' rfl]
    exact pm.mem_iff.symm
  · refine ⟨(x ++ p.2).length, fun c => ?_⟩
    rw [List.mem_singleton.mp z, e, ← List.append_assoc, List.take_left' rfl, List.mem_append, List.mem_append, pm.mem_iff]
theorem srv_agr {l : List Nat} {p q : Nd2} (hp : srv l p) (hq : srv l q) : agr p q = true := by
  unfold agr
  rw [List.all_eq_true]
  intro s hs
  rw [List.all_eq_true]
  intro o ho
  obtain ⟨i, hi⟩ := srv_steps hp s hs
  obtain ⟨j, hj⟩ := srv_steps hq o ho
  exact wthn_take hi hj
theorem inj_len {α β : Type} : ∀ (as : List α) (bs : List β) (R : α → β → Prop), as.Nodup → (∀ a ∈ as, ∃ b ∈ bs, R a b) → (∀ a a' b, a ∈ as → a' ∈ as → a ≠ a' → R a b → R a' b → False) → as.length ≤ bs.length
  | [], _, _, _, _, _ => Nat.zero_le _
  | a :: as, bs, R, nd, ex, no => by
    obtain ⟨b, hb, hr⟩ := ex a (by simp)
    obtain ⟨h1, h2⟩ := List.nodup_cons.mp nd
    obtain ⟨s, t, rfl⟩ := List.append_of_mem hb
    have ih := inj_len as (s ++ t) R h2 (fun a' ha' => by
      obtain ⟨b', hb', hr'⟩ := ex a' (by simp [ha'])
      have hne : a ≠ a' := fun z => h1 (z ▸ ha')
      rcases List.mem_append.mp hb' with z | z
      · exact ⟨b', List.mem_append_left _ z, hr'⟩
      · rcases List.mem_cons.mp z with y | y
        · rw [y] at hr'
          exact (no a a' b (by simp) (by simp [ha']) hne hr hr').elim
        · exact ⟨b', List.mem_append_right _ y, hr'⟩) (fun a' a'' b' ha' ha'' => no a' a'' b' (by simp [ha']) (by simp [ha'']))
    rw [List.length_append] at ih
    rw [List.length_cons, List.length_append, List.length_cons]
    omega
theorem few_le {nd : List Nd2} {ls ls' : List (List Nat)} {ap : List Nat} (f : FewOk nd ls ap) (h : ∀ p ∈ nd, ∃ l ∈ ls', srv l p) : ls.length ≤ ls'.length := by
  rw [f.len]
  refine inj_len ap ls' (fun a l => ∃ p, nd[a]? = some p ∧ srv l p) (f.up.imp fun {a b} z => by omega) (fun a ha => ?_) (fun a b l ha hb hne h1 h2 => ?_)
  · have hp := ndG_at (f.lt a ha)
    obtain ⟨l, hl, hs⟩ := h _ (List.mem_of_getElem? hp)
    exact ⟨l, hl, _, hp, hs⟩
  · obtain ⟨p, hp, hs⟩ := h1
    obtain ⟨q, hq, hs'⟩ := h2
    have := f.apart a b p q ha hb hne hp hq
    rw [srv_agr hs hs'] at this
    cases this
/-- so many lists are the fewest -/
def Few (nd : List Nd2) (n : Nat) : Prop := ∃ ls ap, FewOk nd ls ap ∧ ls.length = n
theorem Few.le {nd : List Nd2} {n : Nat} {ls' : List (List Nat)} (f : Few nd n) (h : ∀ p ∈ nd, ∃ l ∈ ls', srv l p) : n ≤ ls'.length := by
  obtain ⟨ls, ap, f, rfl⟩ := f
  exact few_le f h
theorem Few.sub {nd nd' : List Nd2} {n n' : Nat} (f : Few nd n) (f' : Few nd' n') (h : ∀ p ∈ nd, p ∈ nd') : n ≤ n' := by
  obtain ⟨ls', ap', f', rfl⟩ := f'
  exact f.le fun p hp => f'.srv p (h p hp)
theorem Few.same {nd nd' : List Nd2} {n n' : Nat} (f : Few nd n) (f' : Few nd' n') (h : ∀ p, p ∈ nd ↔ p ∈ nd') : n' = n := Nat.le_antisymm (f'.sub f fun p hp => (h p).mpr hp) (f.sub f' fun p hp => (h p).mp hp)
theorem srv_own (p : Nd2) : srv (p.1 ++ p.2) p := ⟨p.1, [], by rw [List.append_nil], List.Perm.refl _⟩
theorem Few.more {nd nd' : List Nd2} {n n' : Nat} {p : Nd2} (f : Few nd n) (f' : Few nd' n') (h : ∀ q ∈ nd', q ∈ nd ∨ q = p) : n' ≤ n + 1 := by
  obtain ⟨ls, ap, f, rfl⟩ := f
  have := f'.le (ls' := ls ++ [p.1 ++ p.2]) fun q hq => by
    rcases h q hq with z | z
    · obtain ⟨l, hl, hs⟩ := f.srv q z
      exact ⟨l, List.mem_append_left _ hl, hs⟩
    · exact ⟨p.1 ++ p.2, by simp, z ▸ srv_own p⟩
  rw [List.length_append] at this
  exact this
theorem Few.pos {nd : List Nd2} {n : Nat} (f : Few nd n) (h : nd ≠ []) : 1 ≤ n := by
  obtain ⟨ls, ap, f, rfl⟩ := f
  obtain ⟨p, hp⟩ := List.exists_mem_of_ne_nil _ h
  obtain ⟨l, hl, _⟩ := f.srv p hp
  exact List.length_pos_of_mem hl
theorem Few.len {nd : List Nd2} {n : Nat} (f : Few nd n) : n ≤ nd.length := by
  obtain ⟨ls, ap, f, rfl⟩ := f
  rw [f.len]
  exact nodup_lt_len (f.up.imp fun {a b} z => by omega) f.lt
theorem Few.one {nd : List Nd2} {n : Nat} {l : List Nat} (f : Few nd n) (h : nd ≠ []) (hl : ∀ p ∈ nd, srv l p) : n = 1 := Nat.le_antisymm (f.le (ls' := [l]) fun p hp => ⟨l, by simp, hl p hp⟩) (f.pos h)
theorem sn_srv {one : List Nat} {p : Nd2} (h : snM one p.1 p.2 = true) : srv one p := by
  unfold snM at h
  rw [Bool.and_eq_true, decide_eq_true_eq, decide_eq_true_eq] at h
  refine ⟨one.take p.1.length, (one.drop p.1.length).drop p.2.length, ?_, h.1⟩
  have e1 := List.take_append_drop p.2.length (one.drop p.1.length)
  rw [h.2] at e1
  rw [e1, List.take_append_drop]
/-! ### other letters -/
structure Ren (f : Nat → Nat) (cols : List Nat) : Prop where
  to : ∀ c ∈ cols, f c ∈ cols
  inv : ∀ c ∈ cols, f (f c) = c
theorem srv_map {f : Nat → Nat} {cols l : List Nat} {p p' : Nd2} (r : Ren f cols) (hp : ∀ c ∈ p.1 ++ p.2, c ∈ cols) (h1 : p'.1.Perm (p.1.map f)) (h2 : p'.2 = p.2.map f) (h : srv l p') : srv (l.map f) p := by
  obtain ⟨x, y, e, pm⟩ := h
  have ii : ∀ a : List Nat, (∀ c ∈ a, c ∈ cols) → (a.map f).map f = a := fun a ha => by
    rw [List.map_map]
    conv => rhs; rw [← List.map_id a]
    exact List.map_congr_left fun c hc => r.inv c (ha c hc)
  refine ⟨x.map f, y.map f, ?_, ?_⟩
  · rw [e, List.map_append, List.map_append, h2, ii p.2 fun c hc => hp c (List.mem_append_right _ hc)]
  · have := (pm.trans h1).map f
    rw [ii p.1 fun c hc => hp c (List.mem_append_left _ hc)] at this
    exact this
theorem srv_ren {f : Nat → Nat} {l : List Nat} {p p' : Nd2} (h1 : p'.1.Perm (p.1.map f)) (h2 : p'.2 = p.2.map f) (h : srv l p) : srv (l.map f) p' := by
  obtain ⟨x, y, e, pm⟩ := h
  exact ⟨x.map f, y.map f, by rw [e, List.map_append, List.map_append, h2], (pm.map f).trans h1.symm⟩
/-- need by need with other letters -/
inductive RenL (f : Nat → Nat) : List Nd2 → List Nd2 → Prop
  | nil : RenL f [] []
  | cons {p p' : Nd2} {nd nd' : List Nd2} : p'.1.Perm (p.1.map f) → p'.2 = p.2.map f → RenL f nd nd' → RenL f (p :: nd) (p' :: nd')
theorem RenL.snoc {f : Nat → Nat} {nd nd' : List Nd2} {p p' : Nd2} (h : RenL f nd nd') (h1 : p'.1.Perm (p.1.map f)) (h2 : p'.2 = p.2.map f) : RenL f (nd ++ [p]) (nd' ++ [p']) := by
  induction h with
  | nil => exact .cons h1 h2 .nil
  | cons a b _ ih => exact .cons a b ih
theorem RenL.l {f : Nat → Nat} {nd nd' : List Nd2} (h : RenL f nd nd') : ∀ p ∈ nd, ∃ p' ∈ nd', p'.1.Perm (p.1.map f) ∧ p'.2 = p.2.map f := by
  induction h with
  | nil => exact fun p hp => nomatch hp
  | cons a b _ ih =>
    intro p hp
    rcases List.mem_cons.mp hp with z | z
    · exact ⟨_, List.mem_cons_self, by rw [z]; exact ⟨a, b⟩⟩
    · obtain ⟨p', h1, h2⟩ := ih p z
      exact ⟨p', List.mem_cons_of_mem _ h1, h2⟩
theorem RenL.r {f : Nat → Nat} {nd nd' : List Nd2} (h : RenL f nd nd') : ∀ p' ∈ nd', ∃ p ∈ nd, p'.1.Perm (p.1.map f) ∧ p'.2 = p.2.map f := by
  induction h with
  | nil => exact fun p hp => nomatch hp
  | cons a b _ ih =>
    intro p hp
    rcases List.mem_cons.mp hp with z | z
    · exact ⟨_, List.mem_cons_self, by rw [z]; exact ⟨a, b⟩⟩
    · obtain ⟨p', h1, h2⟩ := ih p z
      exact ⟨p', List.mem_cons_of_mem _ h1, h2⟩
theorem RenL.len {f : Nat → Nat} {nd nd' : List Nd2} (h : RenL f nd nd') : nd'.length = nd.length := by
  induction h with
  | nil => rfl
  | cons _ _ _ ih => rw [List.length_cons, List.length_cons, ih]
theorem Few.ren {f : Nat → Nat} {cols : List Nat} {nd nd' : List Nd2} {n n' : Nat} (r : Ren f cols) (h : RenL f nd nd') (hc : ∀ p ∈ nd, ∀ c ∈ p.1 ++ p.2, c ∈ cols) (g : Few nd n) (g' : Few nd' n') : n' = n := by
  obtain ⟨ls, ap, f1, rfl⟩ := g
  obtain ⟨ls', ap', f2, rfl⟩ := g'
  refine Nat.le_antisymm ?_ ?_
  · have := few_le f2 (ls' := ls.map (List.map f)) fun p' hp' => by
      obtain ⟨p, hp, h1, h2⟩ := h.r p' hp'
      obtain ⟨l, hl, hs⟩ := f1.srv p hp
      exact ⟨l.map f, List.mem_map.mpr ⟨l, hl, rfl⟩, srv_ren h1 h2 hs⟩
    rw [List.length_map] at this
    exact this
  · have := few_le f1 (ls' := ls'.map (List.map f)) fun p hp => by
      obtain ⟨p', hp', h1, h2⟩ := h.l p hp
      obtain ⟨l, hl, hs⟩ := f2.srv p' hp'
      exact ⟨l.map f, List.mem_map.mpr ⟨l, hl, rfl⟩, srv_map r (hc p hp) h1 h2 hs⟩
    rw [List.length_map] at this
    exact this
end My

set_option Elab.async false
set_option linter.all false
set_option maxRecDepth 100000
set_option maxHeartbeats 2000000
namespace My
open PySem PySem.Spec PyProof.Rows L2
/-! ### a turn of zip while its last tuple is still out -/
/-- all but these stay -/
def But (L : List Addr) (g h : Heap) : Prop := ∀ c o, c ∉ L → g.get? c = some o → h.get? c = some o
theorem But.then {L : List Addr} {g h k : Heap} (a : But L g h) (b : But L h k) : But L g k := fun c o n e => b c o n (a c o n e)
theorem But.one {L : List Addr} {g h : Heap} {x : Addr} (hx : x ∈ L) (e : Heap.ExtBut x g h) : But L g h := fun c o n q => e c o (fun z => n (z ▸ hx)) q
theorem But.push {L : List Addr} {g h : Heap} {ob : Obj} (a : But L g h) : But L g (h.push ob) := fun c o n q => Heap.get?_push_of_some _ (a c o n q)
section
variable {prog : Program} {w : World} {A : Around} {E : Value → Shared → Prop} {s : Shared} {z TI TO T i1 i2 : Addr} {fp1 fp2 : List Addr} {n1 n2 i : Nat} {P1 P2 : Nat → Value → Prop} {St1 St2 : Nat → Heap → Prop} {f : Bool} {oT : Obj}
/-- how such a turn may end: a new pair, or the end of one of the two -/
structure ZTurn (z TI TO T i1 i2 : Addr) (n1 n2 i : Nat) (P1 P2 : Nat → Value → Prop) (St1 St2 : Nat → Heap → Prop) (s : Shared) (Q : Value → Shared → Prop) (E : Value → Shared → Prop) : Prop where
  both : i < n1 → i < n2 → ∀ x y h' tk, P1 i x → P2 i y → IsZipHeld h' z TI TO T true → St1 (i + 1) h' → St2 (i + 1) h' → IsTupOf2 h' s.heap.objs.size x y → But [z, i1, i2] s.heap h' → Q (.ref s.heap.objs.size) { s with heap := h', toks := tk }
  stop : ¬ (i < n1 ∧ i < n2) → ∀ h' tk e oe, But [z, i1, i2] s.heap h' → h'.get? e = some oe → oe.cls = .type "StopIteration" → E (.ref e) { s with heap := h', toks := tk }
theorem zip_turn {Q : Value → Shared → Prop} (S : ZipSep2 z TI TO i1 i2 fp1 fp2) (D1 : Draws prog w A i1 fp1 n1 P1 St1) (D2 : Draws prog w A i2 fp2 n2 P2 St2) (hz : IsZipHeld s.heap z TI TO T f) (hT : s.heap.get? T = some oT) (hTI : IsTupOf2 s.heap TI (.ref i1) (.ref i2))
    (st1 : St1 i s.heap) (st2 : St2 i s.heap) (l1 : i ≤ n1) (l2 : i ≤ n2) (end_ : ZTurn z TI TO T i1 i2 n1 n2 i P1 P2 St1 St2 s Q E) :
    wpAny (model prog w) A (Builtin.«zip.__next__» ⟨[.ref z], []⟩) (fun fin s' => ∃ v, fin = .done (.ret v) ∧ Q v s') E s := by
  have mz : z ∈ [z, i1, i2] := by simp
  have m1 : i1 ∈ [z, i1, i2] := by simp
  have m2 : i2 ∈ [z, i1, i2] := by simp
  -- the zip's own parts, then the tuple that is out
  refine wpAny_bind (m := field (.ref z) 2) (wpAny_field hz rfl (x := .bool false) rfl (wpAny_bind (m := field (.ref z) 3) (wpAny_field hz rfl (x := .ref TI) rfl (wpAny_bind (wpAny_seqItems hTI rfl (wpAny_bind (m := Builtin.SmallTypes.ownedTupleIsFree (.ref z)) (wpAny_tupleHeld_zip hz hT fun g0 z0 k0 => ?_)))))))
  have b0 : But [z, i1, i2] s.heap g0 := But.one mz k0.extBut
  rw [if_neg Bool.false_ne_true]
  refine wpAny_bind ?_
  rw [← Array.forIn_toList]
  simp only [List.forIn_nil, List.forIn_cons]
  refine wpAny_bind (wpAny_bind (wpAny_holding (wpAny_bind (m := Builtin.SmallTypes.nextOf (.ref i1)) ?_)))
  by_cases g1 : i < n1
  · refine D1.item i { s with heap := g0 } _ _ g1 (D1.over st1 k0 S.zf1) fun x p1 t1 px s1 k1 => wpAny_pure (wpAny_pure ?_)
    have b1 := b0.then (But.one m1 k1.extBut)
    have q2 := D2.over (D2.over st2 k0 S.zf2) k1 S.sep1_2
    refine wpAny_bind (wpAny_bind (wpAny_holding (wpAny_bind (m := Builtin.SmallTypes.nextOf (.ref i2)) ?_)))
    by_cases g2 : i < n2
    · refine D2.item i { s with heap := p1, toks := t1 } _ _ g2 q2 fun y p2 t2 py s2 k2 => wpAny_pure (wpAny_pure ?_)
      refine wpAny_pure (wpAny_bind (m := newTuple [x, y]) (wpAny_newTuple (wpAny_pure ⟨_, rfl, ?_⟩)))
      have zs : p2.objs.size = s.heap.objs.size := k2.1.trans (k1.1.trans k0.1)
      have tup : IsTupOf2 (p2.push { cls := .type "tuple", data := .seq #[x, y] }) p2.objs.size x y := Heap.get?_push_size _ rfl
      have r1 := D1.over s1 k2 S.sep2_1
      have zh : IsZipHeld p2 z TI TO T true := k2.extBut _ _ S.zi2 (k1.extBut _ _ S.zi1 z0)
      show Q (.ref p2.objs.size) _
      rw [zs] at tup ⊢
      exact end_.both g1 g2 x y _ t2 px py (Heap.get?_push_of_some _ zh) (D1.frame _ _ _ r1 fun b _ o e => Heap.get?_push_of_some _ e) (D2.frame _ _ _ s2 fun b _ o e => Heap.get?_push_of_some _ e) tup (b1.then (But.one m2 k2.extBut)).push
    · have e2 : i = n2 := by omega
      refine D2.done { s with heap := p1, toks := t1 } _ _ (e2 ▸ q2) fun h' e k2 hx => ?_
      obtain ⟨oe, he, hc⟩ := hx
      exact end_.stop (fun w => g2 w.2) h' t1 e oe (b1.then (But.one m2 k2)) he hc
  · have e1 : i = n1 := by omega
    refine D1.done { s with heap := g0 } _ _ (e1 ▸ D1.over st1 k0 S.zf1) fun h' e k1 hx => ?_
    obtain ⟨oe, he, hc⟩ := hx
    exact end_.stop (fun w => g1 w.1) h' s.toks e oe (b0.then (But.one m1 k1)) he hc
/-- the same by next -/
theorem zip_next {Q : Option Value → Shared → Prop} (S : ZipSep2 z TI TO i1 i2 fp1 fp2) (D1 : Draws prog w A.in1 i1 fp1 n1 P1 St1) (D2 : Draws prog w A.in1 i2 fp2 n2 P2 St2) (hz : IsZipHeld s.heap z TI TO T f) (hT : s.heap.get? T = some oT) (hTI : IsTupOf2 s.heap TI (.ref i1) (.ref i2))
    (st1 : St1 i s.heap) (st2 : St2 i s.heap) (l1 : i ≤ n1) (l2 : i ≤ n2) (end_ : ZTurn z TI TO T i1 i2 n1 n2 i P1 P2 St1 St2 s (fun v => Q (some v)) (fun _ => Q none)) :
    wpAny (model prog w) A (pyNext (.ref z)) Q E s := by
  have ty : s.TypeIs (.ref z) "zip" := ⟨_, hz, rfl⟩
  unfold pyNext
  refine wpAny_bind (wpAny_attempt (wpAny_callSpecial?_slot (name := Str.ofString "__next__") ty F.slot_zip_next (wpAny_call_entry F.slot_zip_next ty F.entry_zip_next (zip_turn S D1 D2 hz hT hTI st1 st2 l1 l2 ⟨fun g1 g2 x y h' tk px py a b c d e => wpAny_pure (end_.both g1 g2 x y h' tk px py a b c d e), fun g h' tk e oe b he hc => ?_⟩) (F.args_zip_next_1 _))))
  exact wpAny_bind (wpAny_isInstance (T := "StopIteration") (b := true) ⟨oe, he, hc⟩ isSubtype_stop (wpAny_pure (end_.stop g h' tk e oe b he hc)))
end
/-! ### zip of two texts, walked while a dict is filled -/
abbrev sgAt (x : Str) : Nat → Value → Prop := fun i v => ∃ c u, x.cps[i]? = some c ∧ v = .str ⟨#[c]⟩ u
/-- the five cells of zip(x, y) -/
structure ZC where
  z : Addr
  TI : Addr
  TO : Addr
  a : Addr
  b : Addr
theorem three_four {a b c d x : Addr} (h : x ∈ [a, c, d]) : x ∈ [a, b, c, d] := by
  simp only [List.mem_cons, List.not_mem_nil, or_false] at h
  rcases h with h | h | h <;> simp [h]
theorem four_five {a b c d e x : Addr} (h : x ∈ [a, c, d, e]) : x ∈ [a, b, c, d, e] := by
  simp only [List.mem_cons, List.not_mem_nil, or_false] at h
  rcases h with h | h | h | h <;> simp [h]
/-- i pairs of it were drawn; d: the dict -/
structure ZT (Z : ZC) (d : Addr) (x y : Str) (t u : Tok) (i : Nat) (h : Heap) : Prop where
  ti : IsTupOf2 h Z.TI (.ref Z.a) (.ref Z.b)
  sa : h.IsStrIter Z.a (strIterType x) x t i
  sb : h.IsStrIter Z.b (strIterType y) y u i
  zz : (IsZip h Z.z Z.TI Z.TO .none ∧ ∃ v v', IsTupOf2 h Z.TO v v') ∨ ∃ T f oT, IsZipHeld h Z.z Z.TI Z.TO T f ∧ h.get? T = some oT ∧ T ∉ [d, Z.z, Z.a, Z.b]
theorem iter_kept {h h' : Heap} {a : Addr} {ty : String} {x : Str} {t : Tok} {i : Nat} (e : h.IsStrIter a ty x t i) (k : ∀ o, h.get? a = some o → h'.get? a = some o) : h'.IsStrIter a ty x t i := by
  obtain ⟨o, ho, r⟩ := e
  exact ⟨o, k o ho, r⟩
theorem ZT.kept {Z : ZC} {d : Addr} {x y : Str} {t u : Tok} {i : Nat} {h h' : Heap} (s : ZT Z d x y t u i h) (hd : d ∉ [Z.z, Z.TI, Z.TO, Z.a, Z.b]) (k : ∀ b o, b ≠ d → h.get? b = some o → h'.get? b = some o) : ZT Z d x y t u i h' := by
  have ne : ∀ b, b ∈ [Z.z, Z.TI, Z.TO, Z.a, Z.b] → b ≠ d := fun b hb e => hd (e ▸ hb)
  refine ⟨k _ _ (ne _ (by simp)) s.ti, iter_kept s.sa fun o => k _ o (ne _ (by simp)), iter_kept s.sb fun o => k _ o (ne _ (by simp)), ?_⟩
  rcases s.zz with ⟨q, v, v', p⟩ | ⟨T, f, oT, q, p, n⟩
  · exact .inl ⟨k _ _ (ne _ (by simp)) q, v, v', k _ _ (ne _ (by simp)) p⟩
  · exact .inr ⟨T, f, oT, k _ _ (ne _ (by simp)) q, k _ _ (fun e => n (by simp [e])) p, n⟩
section
variable {prog : Program} {w : World} {Z : ZC} {d : Addr} {x y : Str} {t u : Tok} {i : Nat}
/-- one more pair, or the end -/
theorem ZT.next {A : Around} {s : Shared} {Q : Option Value → Shared → Prop} {E : Value → Shared → Prop} (S : ZipSep2 Z.z Z.TI Z.TO Z.a Z.b [Z.a] [Z.b]) (hA : A.handled = none) (hd : i < x.cps.size → i < y.cps.size → d ≠ s.heap.objs.size) (st : ZT Z d x y t u i s.heap) (hx : i ≤ x.cps.size) (hy : i ≤ y.cps.size)
    (go : i < x.cps.size → i < y.cps.size → ∀ v v' h' tk, sgAt x i v → sgAt y i v' → IsTupOf2 h' s.heap.objs.size v v' → ZT Z d x y t u (i + 1) h' → But [Z.z, Z.TO, Z.a, Z.b] s.heap h' → Q (some (.ref s.heap.objs.size)) { s with heap := h', toks := tk })
    (stop : ¬ (i < x.cps.size ∧ i < y.cps.size) → ∀ h' tk, But [Z.z, Z.TO, Z.a, Z.b] s.heap h' → Q none { s with heap := h', toks := tk }) : wpAny (model prog w) A (pyNext (.ref Z.z)) Q E s := by
  have D1 : Draws prog w A.in1 Z.a [Z.a] x.cps.size (sgAt x) (fun i h => h.IsStrIter Z.a (strIterType x) x t i) := Draws.text (A := A.in1) (show A.in1.handled = none from hA) Z.a x t
  have D2 : Draws prog w A.in1 Z.b [Z.b] y.cps.size (sgAt y) (fun i h => h.IsStrIter Z.b (strIterType y) y u i) := Draws.text (A := A.in1) (show A.in1.handled = none from hA) Z.b y u
  have out : ∀ c o, s.heap.get? c = some o → s.heap.objs.size ≠ c := fun c o e => Nat.ne_of_gt (Heap.lt_size e)
  have fresh : i < x.cps.size → i < y.cps.size → s.heap.objs.size ∉ [d, Z.z, Z.a, Z.b] := fun g1 g2 hm => by
    obtain ⟨oa, ha, _⟩ := st.sa
    obtain ⟨ob, hb, _⟩ := st.sb
    have hz : ∃ o, s.heap.get? Z.z = some o := by
      rcases st.zz with ⟨q, _⟩ | ⟨_, _, _, q, _⟩
      · exact ⟨_, q⟩
      · exact ⟨_, q⟩
    obtain ⟨oz, hz⟩ := hz
    simp only [List.mem_cons, List.not_mem_nil, or_false] at hm
    rcases hm with e | e | e | e
    · exact hd g1 g2 e.symm
    · exact out _ _ hz e
    · exact out _ _ ha e
    · exact out _ _ hb e
  rcases st.zz with ⟨q, v0, v1, p⟩ | ⟨T, f, oT, q, p, n⟩
  · have wide : ∀ h', (∀ c o, c ≠ Z.z → c ≠ Z.TO → c ≠ Z.a → c ≠ Z.b → s.heap.get? c = some o → h'.get? c = some o) → But [Z.z, Z.TO, Z.a, Z.b] s.heap h' := fun h' k c o hc e => by
      simp only [List.mem_cons, List.not_mem_nil, or_false, not_or] at hc
      exact k c o hc.1 hc.2.1 hc.2.2.1 hc.2.2.2 e
    by_cases g : i < x.cps.size ∧ i < y.cps.size
    · refine wpAny_pyNext_zipD2_item S D1 D2 q st.ti p st.sa st.sb g.1 g.2 fun v v' h' tk pv pv' a1 _ a3 a4 a5 _ k => ?_
      exact go g.1 g.2 v v' h' tk pv pv' a5 ⟨k _ _ S.TIz S.TITO S.TIi1 S.TIi2 st.ti, a3, a4, .inr ⟨_, false, _, a1, a5, fresh g.1 g.2⟩⟩ (wide h' k)
    · exact wpAny_pyNext_zipD2_end S D1 D2 q st.ti p st.sa st.sb hx hy (by omega) fun h' tk k => stop g h' tk (wide h' k)
  · have wide : ∀ {h'}, But [Z.z, Z.a, Z.b] s.heap h' → But [Z.z, Z.TO, Z.a, Z.b] s.heap h' := fun {h'} k c o hc e => k c o (fun hm => hc (three_four hm)) e
    refine zip_next S D1 D2 q p st.ti st.sa st.sb hx hy ⟨fun g1 g2 v v' h' tk pv pv' a1 a3 a4 a5 k => ?_, fun g h' tk _ _ k _ _ => stop g h' tk (wide k)⟩
    refine go g1 g2 v v' h' tk pv pv' a5 ⟨k _ _ (by simp [S.TIz, S.TIi1, S.TIi2]) st.ti, a3, a4, .inr ⟨T, true, oT, a1, k _ _ (fun hm => n (List.mem_cons_of_mem _ hm)) p, n⟩⟩ (wide k)
theorem pair_zipT (S : ZipSep2 Z.z Z.TI Z.TO Z.a Z.b [Z.a] [Z.b]) :
    PairArg prog w "zip" Z.z [Z.z, Z.TI, Z.TO, Z.a, Z.b] [Z.z, Z.TO, Z.a, Z.b] (min x.cps.size y.cps.size) (fun i k v => sgAt x i k ∧ sgAt y i v)
      (fun h => IsZip h Z.z Z.TI Z.TO .none ∧ (∃ v v', IsTupOf2 h Z.TO v v') ∧ IsTupOf2 h Z.TI (.ref Z.a) (.ref Z.b) ∧ h.IsStrIter Z.a (strIterType x) x t 0 ∧ h.IsStrIter Z.b (strIterType y) y u 0) := by
  refine ⟨fun s ok => ⟨_, ok.1, rfl⟩, by decide, fun h h' ok k => ?_, fun h ok c hc => ?_, fun c hc => ?_, fun A s Q E hA ok q => getAttrOr_miss_zip ok.1 rfl rfl rfl zip_no_keys (by decide +kernel) hA q, fun A s d Q E hA ok hd hn q => ?_⟩
  · obtain ⟨o1, ⟨v, v', o2⟩, o3, o4, o5⟩ := ok
    exact ⟨k _ _ o1, ⟨v, v', k _ _ o2⟩, k _ _ o3, iter_kept o4 fun o => k _ o, iter_kept o5 fun o => k _ o⟩
  · obtain ⟨o1, ⟨v, v', o2⟩, o3, ⟨p, o4, _⟩, ⟨p', o5, _⟩⟩ := ok
    simp only [List.mem_cons, List.not_mem_nil, or_false] at hc
    rcases hc with e | e | e | e | e <;> rw [e]
    · exact ⟨_, o1⟩
    · exact ⟨_, o3⟩
    · exact ⟨_, o2⟩
    · exact ⟨_, o4⟩
    · exact ⟨_, o5⟩
  · exact four_five hc
  · obtain ⟨o1, o2, o3, o4, o5⟩ := ok
    refine wpAny_pyIter_zip o1 (q Z.z [Z.z, Z.TO, Z.a, Z.b] (ZT Z d x y t u) s.heap s.toks ⟨fun hm => hn (four_five hm), fun i h h' st k => st.kept hn k, fun i s1 Q1 E1 hi st hds q1 => ?_, fun s1 Q1 E1 st q1 => ?_⟩ ⟨o3, o4, o5, .inl ⟨o1, o2⟩⟩ (fun _ _ e => e) fun c hc => .inl hc)
    · refine st.next S hA (fun _ _ => Nat.ne_of_lt hds) (by omega) (by omega) (fun _ _ v v' h' tk pv pv' tup st' k => ?_) fun g => absurd (by omega) g
      exact q1 _ _ _ h' tk ⟨pv, pv'⟩ (.inl ⟨_, tup, rfl, _, rfl⟩) st' k
    · exact ZT.next (d := d) S hA (fun g1 g2 => by omega) st (Nat.min_le_left ..) (Nat.min_le_right ..) (fun g1 g2 => by omega) fun _ h' tk k => q1 h' tk k
end
end My

set_option Elab.async false
set_option linter.all false
set_option maxRecDepth 100000
set_option maxHeartbeats 2000000
namespace My
open PySem PySem.Spec PyProof.Rows L2
/-! ### dict(zip(text, text)) -/
section
variable {X : Cx} {prog : Program} {w : World}
/-- dict(pairs) where the values are told but for their marks -/
theorem call_dict_loose {A : Around} {E : Value → Shared → Prop} {s : Shared} {T : String} {a : Addr} {fp wr : List Addr} {n : Nat} {Rel : Nat → Value → Value → Prop} {OK : Heap → Prop} {kvs : List (Key × V)} {Q : Value → Shared → Prop} (P : PairArg prog w T a fp wr n Rel OK) (hh : A.handled = none) (ok : OK s.heap)
    (hn : kvs.length = n) (hc : ∀ i key v, Rel i key v → ∃ k x, kvs[i]? = some (k, x) ∧ keyIs k key = true ∧ RelV x v) (hsz : n ≤ sizeLine)
    (h : ∀ h' tk vs, KV kvs vs → h'.DictOf (mixKind prog w) s.heap.objs.size (merged [] vs) → But wr s.heap h' → Q (.ref s.heap.objs.size) { s with heap := h', toks := tk }) :
    wpAny (model prog w) A (call (.type "dict") [.ref a]) Q E s := by
  -- behind i pairs: a dict of pairs that go with the first i of kvs
  let Tab : Nat → Heap → Prop := fun i g => ∃ vs, KV (kvs.take i) vs ∧ g.DictOf (mixKind prog w) s.heap.objs.size (merged [] vs)
  refine call_dict_arg P ok fun s1 e1 away ok1 => ?_
  cases e1
  have tab0 : Tab 0 (s.heap.push { cls := .type "dict", data := .dict #[] }) := ⟨[], by rw [List.take_zero]; exact .nil, Heap.DictOf.new s.heap⟩
  refine updateFrom_arg (A := A.in1) (Tab := Tab) P .none hh ok1 away tab0 (fun _ _ z => z.elim fun _ q => q.2.lt_size) (fun i g g' wr' off _ z k => ?_) (fun i key v s2 Q2 E2 hi hrel z _ q2 => ?_) (fun g tk z k => ?_)
  · obtain ⟨vs, kv, dd⟩ := z
    exact ⟨vs, kv, dd.at' fun o e => k _ o off e⟩
  · obtain ⟨vs, kv, dd⟩ := z
    obtain ⟨k, x, hk, his, hr⟩ := hc i key v hrel
    have e1 := Paired.length kv
    have e2 := merged_length [] vs
    rw [List.length_take] at e1
    rw [List.length_nil] at e2
    have more : merged [] (vs ++ [(k, v)]) = stored (merged [] vs) k v := by simp only [merged, List.foldl_append, List.foldl_cons, List.foldl_nil]
    refine wpAny_dictSet_pairs (hsz := by omega) his dd fun g' dd' same => q2 g' _ ⟨vs ++ [(k, v)], ?_, by rw [more]; exact dd'⟩ same
    rw [List.take_add_one, hk]
    exact Paired.snoc kv ⟨rfl, hr⟩
  · obtain ⟨vs, kv, dd⟩ := z
    rw [List.take_of_length_le (Nat.le_of_eq hn)] at kv
    exact ⟨rfl, h g tk vs kv dd fun c o hw e => k c o (Nat.ne_of_lt (Heap.lt_size e)) hw (Heap.get?_push_of_some _ e)⟩
/-- the pairs of two texts -/
def zipK (a b : List Nat) : List (Key × V) := (a.zip b).map fun q => (Sum.inr (sS q.1), sg q.2)
def tDictZip (t : TA) : TE := fun σ H Q => t σ H fun vs H1 => ∃ a b : List Nat, vs = [tx a, tx b] ∧ a.length ≤ 1000 ∧ ∀ p, H1 p = none → Q (.ref p) (upd H1 p (.dK (mergeK [] (zipK a b))))
theorem pe_dictZip {e e2 : Expr} {t : TA} {p p2 pos2 pos : Pos} (hc : X.calm = true) (ha : PA X [e, e2] t) (hgd : Gl X "dict") (hmd : X.mg "dict" = none) (hg : Gl X "zip") (hm : X.mg "zip" = none)
    (hs : starEach [e, e2] X.env = (false, eval e X.env) :: starEach [e2] X.env := by rfl) (hpl : (backTo pos2 (starEach [e2] X.env)).any (·.1) = false := by rfl)
    (hs1 : starEach [.Call (.Name "zip" p2) [e, e2] [] pos2] X.env = (false, eval (.Call (.Name "zip" p2) [e, e2] [] pos2) X.env) :: starEach [] X.env := by rfl) :
    PE X (.Call (.Name "dict" p) [.Call (.Name "zip" p2) [e, e2] [] pos2] [] pos) (tDictZip t) := by
  refine ⟨fun pins s σ H Q I h => ?_⟩
  refine wpAny_Call_Name_kw (ld_blt I hgd hmd (show bootBuiltins "dict" = some (.type "dict") by decide +kernel) ?_)
  refine PyProof.Rows.callWith_type1 ?_ hs1 rfl
  rw [hs1]
  show wpAny _ _ (spliced ((false, eval (.Call (.Name "zip" p2) [e, e2] [] pos2) X.env) :: backTo pos (starEach [] X.env))) _ _ s
  refine Calls.spliced_cons ?_
  refine Call_ (ld_blt I hg hm PyProof.Rows.boot_zip (PyProof.Rows.callWith_type1 (thn (ha.run pos2 pins s σ H _ I h) fun us s1 ⟨vs, H1, I1, r1, q1⟩ => ?_) hs hpl))
  obtain ⟨a, b, ex, hal, q⟩ := q1
  subst ex
  cases r1 with
  | cons r rr =>
    cases rr with
    | cons r' rr =>
      cases rr
      obtain ⟨t1, rfl⟩ := r
      obtain ⟨t2, rfl⟩ := r'
      refine zip_begins2 (begins_text _ t1) (begins_text _ t2) trivial trivial fun h' hz hTI hTO h1 h2 hsz hk => ?_
      have I2 : Inv X pins σ H1 { s1 with heap := h' } := I1.kept (t' := s1.toks) hk
      refine Calls.spliced_nil ?_
      have S : ZipSep2 (s1.heap.objs.size + 4) (s1.heap.objs.size + 2) (s1.heap.objs.size + 3) s1.heap.objs.size (s1.heap.objs.size + 1) [s1.heap.objs.size] [s1.heap.objs.size + 1] := zip_sep2 (fp1 := []) (fp2 := []) (fun b hb => nomatch hb) (fun b hb => nomatch hb)
      have ea : (⟨a.toArray⟩ : Str).cps.size = a.length := by simp
      have eb : (⟨b.toArray⟩ : Str).cps.size = b.length := by simp
      have hzl : (zipK a b).length = min (⟨a.toArray⟩ : Str).cps.size (⟨b.toArray⟩ : Str).cps.size := by
        unfold zipK
        rw [List.length_map, List.length_zip, ea, eb]
      refine call_dict_loose (kvs := zipK a b) (pair_zipT (Z := ⟨s1.heap.objs.size + 4, s1.heap.objs.size + 2, s1.heap.objs.size + 3, s1.heap.objs.size, s1.heap.objs.size + 1⟩) (x := ⟨a.toArray⟩) (y := ⟨b.toArray⟩) (t := t1) (u := t2) S) (I2.ok.hd hc) ⟨hz, ⟨_, _, hTO⟩, hTI, ⟨_, h1, rfl, rfl⟩, ⟨_, h2, rfl, rfl⟩⟩ hzl (fun i key v hr => ?_) ?_ fun h2' tk vs kv hd hk2 => ?_
      · obtain ⟨⟨c, u, hc1, rfl⟩, ⟨d, u', hd1, rfl⟩⟩ := hr
        have hc2 : a[i]? = some c := by simpa using hc1
        have hd2 : b[i]? = some d := by simpa using hd1
        refine ⟨.inr (sS c), sg d, ?_, ?_, ⟨u', rfl⟩⟩
        · unfold zipK
          rw [List.getElem?_map, (List.getElem?_zip_eq_some (z := (c, d))).mpr ⟨hc2, hd2⟩]
          rfl
        · simp [keyIs, Value.isStrOf]
      · have := small1000 hal
        omega
      · have hlen : (mergeK [] (zipK a b)).length ≤ sizeLine := by
          have z := length_mergeK (zipK a b) []
          rw [List.length_nil, Nat.zero_add, hzl] at z
          have := small1000 hal
          omega
        have hm2 : (h'.objs.size == sysModules) = false := beq_eq_false_iff_ne.mpr (Nat.ne_of_gt I2.big)
        have keep : ∀ c o, s1.heap.get? c = some o → h2'.get? c = some o := fun c o e => by
          have hlt : c < s1.heap.objs.size := Heap.lt_size e
          refine hk2 c o (fun hm => ?_) (hk c o e)
          simp only [List.mem_cons, List.not_mem_nil, or_false] at hm
          have hlt' : (c : Nat) < s1.heap.objs.size := hlt
          rcases hm with z | z | z | z
          · rw [z] at hlt'
            exact Nat.not_lt.mpr (Nat.le_add_right _ _) hlt'
          · rw [z] at hlt'
            exact Nat.not_lt.mpr (Nat.le_add_right _ _) hlt'
          · rw [z] at hlt'
            exact Nat.lt_irrefl _ hlt'
          · rw [z] at hlt'
            exact Nat.not_lt.mpr (Nat.le_add_right _ _) hlt'
        have hle : s1.heap.objs.size ≤ h'.objs.size := by rw [hsz]; exact Nat.le_add_right _ _
        have new : ObjOk X.prog X.w (upd H1 h'.objs.size (.dK (mergeK [] (zipK a b)))) h2' h'.objs.size (.dK (mergeK [] (zipK a b))) := ⟨hlen, hm2, merged [] vs, KV.merge kv .nil, hd⟩
        have I3 := I1.laid (t' := tk) keep hle new
        exact ⟨.ref h'.objs.size, _, I3, rfl, q _ (I1.hok.fresh hle)⟩
end
end My

set_option Elab.async false
set_option linter.all false
set_option maxRecDepth 100000
set_option maxHeartbeats 2000000
namespace My
open PySem PySem.Spec PyProof.Rows L2
/-! ### other letters by a dict -/
theorem zip_val : ∀ {a b : List Nat} {i c d : Nat}, a.Nodup → a[i]? = some c → b[i]? = some d → valV (zipK a b) (.inr (sS c)) = some (sg d)
  | [], _, _, _, _, _, h, _ => by cases h
  | x :: a, [], _, _, _, _, _, h => by cases h
  | x :: a, y :: b, 0, c, d, hn, h1, h2 => by
    cases h1
    cases h2
    show ((zipK (x :: a) (y :: b)).find? _).map _ = _
    simp [zipK]
  | x :: a, y :: b, i + 1, c, d, hn, h1, h2 => by
    obtain ⟨h3, h4⟩ := List.nodup_cons.mp hn
    have ih := zip_val (a := a) (b := b) (i := i) h4 h1 h2
    have hne : x ≠ c := fun z => h3 (z ▸ List.mem_of_getElem? h1)
    have hk : ((Sum.inr (sS x) : Key)) ≠ .inr (sS c) := fun z => hne (sS_inj (Sum.inr.inj z))
    show ((zipK (x :: a) (y :: b)).find? _).map _ = _
    rw [show zipK (x :: a) (y :: b) = (.inr (sS x), sg y) :: zipK a b from rfl, List.find?_cons_of_neg (by simpa using hk)]
    exact ih
theorem zip_merge {a b : List Nat} (h : a.Nodup) : mergeK [] (zipK a b) = zipK a b := by
  refine merge_new _ [] ?_
  rw [List.nil_append]
  have e : (zipK a b).map (·.1) = ((a.zip b).map (·.1)).map fun c => (Sum.inr (sS c) : Key) := by
    unfold zipK
    rw [List.map_map, List.map_map]
    rfl
  have hs : ((a.zip b).map (·.1)).Sublist a := by
    clear e h
    induction a generalizing b with
    | nil => exact List.nil_sublist _
    | cons x a ih =>
      cases b with
      | nil => exact List.nil_sublist _
      | cons y b => exact (ih (b := b)).cons₂ x
  rw [e]
  unfold List.Nodup
  rw [List.pairwise_map]
  exact (h.sublist hs).imp fun {a b} hne z => hne (sS_inj (Sum.inr.inj z))
def mirF (cols : List Nat) (c : Nat) : Nat := match (cols.zip cols.reverse).find? fun q => decide (q.1 = c) with
  | some q => q.2
  | none => 0
theorem find_zip : ∀ {a b : List Nat} {i c d : Nat}, a.Nodup → a[i]? = some c → b[i]? = some d → ((a.zip b).find? fun q => decide (q.1 = c)) = some (c, d)
  | [], _, _, _, _, _, h, _ => by cases h
  | x :: a, [], _, _, _, _, _, h => by cases h
  | x :: a, y :: b, 0, c, d, hn, h1, h2 => by
    cases h1
    cases h2
    simp
  | x :: a, y :: b, i + 1, c, d, hn, h1, h2 => by
    obtain ⟨h3, h4⟩ := List.nodup_cons.mp hn
    have hne : x ≠ c := fun z => h3 (z ▸ List.mem_of_getElem? h1)
    rw [List.zip_cons_cons, List.find?_cons_of_neg (by simpa using hne)]
    exact find_zip (a := a) (b := b) (i := i) h4 h1 h2
theorem mir_at {cols : List Nat} {i c : Nat} (hn : cols.Nodup) (h : cols[i]? = some c) : ∃ d, cols[cols.length - 1 - i]? = some d ∧ mirF cols c = d ∧ valV (mergeK [] (zipK cols cols.reverse)) (.inr (sS c)) = some (sg d) := by
  have hi := (List.getElem?_eq_some_iff.mp h).1
  have hj : cols.length - 1 - i < cols.length := by omega
  refine ⟨cols[cols.length - 1 - i], List.getElem?_eq_getElem hj, ?_, ?_⟩
  · have hr : cols.reverse[i]? = some cols[cols.length - 1 - i] := by rw [List.getElem?_reverse hi, List.getElem?_eq_getElem hj]
    unfold mirF
    rw [find_zip hn h hr]
  · have hr : cols.reverse[i]? = some cols[cols.length - 1 - i] := by rw [List.getElem?_reverse hi, List.getElem?_eq_getElem hj]
    rw [zip_merge hn]
    exact zip_val hn h hr
theorem mir_val {cols : List Nat} {c : Nat} (hn : cols.Nodup) (h : c ∈ cols) : valV (mergeK [] (zipK cols cols.reverse)) (.inr (sS c)) = some (sg (mirF cols c)) := by
  obtain ⟨i, hi, e⟩ := List.getElem_of_mem h
  obtain ⟨d, _, h2, h3⟩ := mir_at hn (show cols[i]? = some c by rw [List.getElem?_eq_getElem hi, e])
  rw [h2]
  exact h3
theorem mir_ren {cols : List Nat} (hn : cols.Nodup) : Ren (mirF cols) cols := by
  refine ⟨fun c h => ?_, fun c h => ?_⟩
  · obtain ⟨i, hi, e⟩ := List.getElem_of_mem h
    obtain ⟨d, h1, h2, _⟩ := mir_at hn (show cols[i]? = some c by rw [List.getElem?_eq_getElem hi, e])
    rw [h2]
    exact List.mem_of_getElem? h1
  · obtain ⟨i, hi, e⟩ := List.getElem_of_mem h
    have h0 : cols[i]? = some c := by rw [List.getElem?_eq_getElem hi, e]
    obtain ⟨d, h1, h2, _⟩ := mir_at hn h0
    obtain ⟨d', h3, h4, _⟩ := mir_at hn h1
    rw [h2, h4]
    have hj : cols.length - 1 - (cols.length - 1 - i) = i := by omega
    rw [hj, h0] at h3
    exact (Option.some.inj h3).symm
theorem ren_inj {f : Nat → Nat} {cols : List Nat} (r : Ren f cols) {a b : Nat} (ha : a ∈ cols) (hb : b ∈ cols) (h : f a = f b) : a = b := by
  rw [← r.inv a ha, ← r.inv b hb, h]
end My

set_option Elab.async false
set_option linter.all false
set_option maxRecDepth 100000
set_option maxHeartbeats 1000000
namespace My
open PySem PySem.Spec PyProof.Rows L2
def topS (i : Nat) : Stmt := PySem.Challenge.pw_stretchkeep_k36_whole_fewest_of_other_ne.main.body.getD i (.Pass ⟨0, 0, 0, 0⟩)
abbrev s_serves_need : Stmt := topS 1
theorem sc_serves_need : FnScope ["one", "need", "equals", "reach", "many"] ["one", "need"] (defScope s_serves_need) := ⟨rfl, rfl, rfl, by decide +kernel, rfl, by decide +kernel, by decide +kernel⟩
abbrev s_is_ahead : Stmt := topS 2
theorem sc_is_ahead : FnScope ["first", "second", "equals", "reach", "letter"] ["first", "second"] (defScope s_is_ahead) := ⟨rfl, rfl, rfl, by decide +kernel, rfl, by decide +kernel, by decide +kernel⟩
abbrev s_find_behind : Stmt := topS 3
theorem sc_find_behind : FnScope ["needs", "at", "tried", "ahead", "other"] ["needs", "at", "tried", "ahead"] (defScope s_find_behind) := ⟨rfl, rfl, rfl, by decide +kernel, rfl, by decide +kernel, by decide +kernel⟩
abbrev s_fewest_chains : Stmt := topS 4
theorem sc_fewest_chains : FnScope ["needs", "ahead", "at"] ["needs"] (defScope s_fewest_chains) := ⟨rfl, rfl, rfl, by decide +kernel, rfl, by decide +kernel, by decide +kernel⟩
abbrev s_chain_to : Stmt := topS 5
theorem sc_chain_to : FnScope ["needs", "ahead", "last", "chain"] ["needs", "ahead", "last"] (defScope s_chain_to) := ⟨rfl, rfl, rfl, by decide +kernel, rfl, by decide +kernel, by decide +kernel⟩
abbrev s_list_for : Stmt := topS 6
theorem sc_list_for : FnScope ["chain", "one", "equals", "reach", "letter"] ["chain"] (defScope s_list_for) := ⟨rfl, rfl, rfl, by decide +kernel, rfl, by decide +kernel, by decide +kernel⟩
abbrev s_apart_of : Stmt := topS 7
theorem sc_apart_of : FnScope ["needs", "ahead", "lasts", "waiting", "looked", "behind", "at", "other"] ["needs", "ahead", "lasts"] (defScope s_apart_of) := ⟨rfl, rfl, rfl, by decide +kernel, rfl, by decide +kernel, by decide +kernel⟩
abbrev s_fewest : Stmt := topS 8
theorem sc_fewest : FnScope ["columns", "needs", "unlike", "ahead", "followed", "lasts", "lists", "apart", "places", "at", "need", "last"] ["columns", "needs"] (defScope s_fewest) := ⟨rfl, rfl, rfl, by decide +kernel, rfl, by decide +kernel, by decide +kernel⟩
abbrev s_l_bag : Stmt := topS 10
theorem sc_l_bag : FnScope ["script"] ["script"] (defScope s_l_bag) := ⟨rfl, rfl, rfl, by decide +kernel, rfl, by decide +kernel, by decide +kernel⟩
abbrev s_l_lot : Stmt := topS 11
theorem sc_l_lot : FnScope ["bag", "many", "at", "cell", "one", "two", "three", "found"] ["bag", "many"] (defScope s_l_lot) := ⟨rfl, rfl, rfl, by decide +kernel, rfl, by decide +kernel, by decide +kernel⟩
abbrev s_l_columns : Stmt := topS 12
theorem sc_l_columns : FnScope ["bag", "most", "left", "found", "k"] ["bag", "most"] (defScope s_l_columns) := ⟨rfl, rfl, rfl, by decide +kernel, rfl, by decide +kernel, by decide +kernel⟩
abbrev s_l_need : Stmt := topS 13
theorem sc_l_need : FnScope ["bag", "columns", "some", "others", "reach", "letter"] ["bag", "columns"] (defScope s_l_need) := ⟨rfl, rfl, rfl, by decide +kernel, rfl, by decide +kernel, by decide +kernel⟩
abbrev s_l_needs : Stmt := topS 14
theorem sc_l_needs : FnScope ["bag", "columns", "most", "found", "k", "way", "last", "others", "letter"] ["bag", "columns", "most"] (defScope s_l_needs) := ⟨rfl, rfl, rfl, by decide +kernel, rfl, by decide +kernel, by decide +kernel⟩
abbrev s_l_renamed : Stmt := topS 15
theorem sc_l_renamed : FnScope ["columns", "needs", "named", "found", "equals", "reach", "others", "letter"] ["columns", "needs"] (defScope s_l_renamed) := ⟨rfl, rfl, rfl, by decide +kernel, rfl, by decide +kernel, by decide +kernel⟩
abbrev s_l_many : Stmt := topS 16
theorem sc_l_many : FnScope ["columns", "needs"] ["columns", "needs"] (defScope s_l_many) := ⟨rfl, rfl, rfl, by decide +kernel, rfl, by decide +kernel, by decide +kernel⟩
abbrev s_law : Stmt := topS 17
theorem sc_law : FnScope ["script", "bag", "turn", "columns", "needs", "many", "at", "some", "one", "need"] ["script"] (defScope s_law) := ⟨rfl, rfl, rfl, by decide +kernel, rfl, by decide +kernel, by decide +kernel⟩
structure Ad where
  f_serves_need : Addr
  d_serves_need : FuncData
  f_is_ahead : Addr
  d_is_ahead : FuncData
  c_is_ahead : Addr
  P_is_ahead : Addr
  f_find_behind : Addr
  d_find_behind : FuncData
  f_fewest_chains : Addr
  d_fewest_chains : FuncData
  f_chain_to : Addr
  d_chain_to : FuncData
  f_list_for : Addr
  d_list_for : FuncData
  f_apart_of : Addr
  d_apart_of : FuncData
  f_fewest : Addr
  d_fewest : FuncData
  c_fewest : Addr
  P_fewest : Addr
  f_l_bag : Addr
  d_l_bag : FuncData
  f_l_lot : Addr
  d_l_lot : FuncData
  f_l_columns : Addr
  d_l_columns : FuncData
  f_l_need : Addr
  d_l_need : FuncData
  f_l_needs : Addr
  d_l_needs : FuncData
  f_l_renamed : Addr
  d_l_renamed : FuncData
  f_l_many : Addr
  d_l_many : FuncData
  f_law : Addr
  d_law : FuncData
abbrev Ad.Ps (Z : Ad) : List Addr := [Z.P_fewest, Z.P_is_ahead]
structure Tb (base : Heap) (mg : Str → Option Value) (Z : Ad) : Prop where
  t_fewest : LamX.TabB base mg Z.c_fewest Z.P_fewest
  t_is_ahead : LamX.TabB base mg Z.c_is_ahead Z.P_is_ahead
structure Tx (K : PySem.W.Frag) (mg : Str → Option Value) (Z : Ad) : Prop where
  F_serves_need : Fun K "serves_need" "serves_need" s_serves_need Z.f_serves_need Z.d_serves_need
  b_serves_need : Binds K Z.d_serves_need ["one", "need"] []
  g_serves_need : mg "serves_need" = some (.ref Z.f_serves_need)
  F_is_ahead : Fun K "is_ahead" "is_ahead" s_is_ahead Z.f_is_ahead Z.d_is_ahead
  C_is_ahead : FunC K "is_ahead" "is_ahead" s_is_ahead Z.f_is_ahead Z.d_is_ahead Z.c_is_ahead
  b_is_ahead : Binds K Z.d_is_ahead ["first", "second"] []
  g_is_ahead : mg "is_ahead" = some (.ref Z.f_is_ahead)
  F_find_behind : Fun K "find_behind" "find_behind" s_find_behind Z.f_find_behind Z.d_find_behind
  b_find_behind : Binds K Z.d_find_behind ["needs", "at", "tried", "ahead"] []
  g_find_behind : mg "find_behind" = some (.ref Z.f_find_behind)
  F_fewest_chains : Fun K "fewest_chains" "fewest_chains" s_fewest_chains Z.f_fewest_chains Z.d_fewest_chains
  b_fewest_chains : Binds K Z.d_fewest_chains ["needs"] []
  g_fewest_chains : mg "fewest_chains" = some (.ref Z.f_fewest_chains)
  F_chain_to : Fun K "chain_to" "chain_to" s_chain_to Z.f_chain_to Z.d_chain_to
  b_chain_to : Binds K Z.d_chain_to ["needs", "ahead", "last"] []
  g_chain_to : mg "chain_to" = some (.ref Z.f_chain_to)
  F_list_for : Fun K "list_for" "list_for" s_list_for Z.f_list_for Z.d_list_for
  b_list_for : Binds K Z.d_list_for ["chain"] []
  g_list_for : mg "list_for" = some (.ref Z.f_list_for)
  F_apart_of : Fun K "apart_of" "apart_of" s_apart_of Z.f_apart_of Z.d_apart_of
  b_apart_of : Binds K Z.d_apart_of ["needs", "ahead", "lasts"] []
  g_apart_of : mg "apart_of" = some (.ref Z.f_apart_of)
  F_fewest : Fun K "fewest" "fewest" s_fewest Z.f_fewest Z.d_fewest
  C_fewest : FunC K "fewest" "fewest" s_fewest Z.f_fewest Z.d_fewest Z.c_fewest
  b_fewest : Binds K Z.d_fewest ["columns", "needs"] []
  g_fewest : mg "fewest" = some (.ref Z.f_fewest)
  F_l_bag : Fun K "_law_bag" "_law_bag" s_l_bag Z.f_l_bag Z.d_l_bag
  b_l_bag : Binds K Z.d_l_bag ["script"] []
  g_l_bag : mg "_law_bag" = some (.ref Z.f_l_bag)
  F_l_lot : Fun K "_law_lot" "_law_lot" s_l_lot Z.f_l_lot Z.d_l_lot
  b_l_lot : Binds K Z.d_l_lot ["bag", "many"] []
  g_l_lot : mg "_law_lot" = some (.ref Z.f_l_lot)
  F_l_columns : Fun K "_law_columns" "_law_columns" s_l_columns Z.f_l_columns Z.d_l_columns
  b_l_columns : Binds K Z.d_l_columns ["bag", "most"] []
  g_l_columns : mg "_law_columns" = some (.ref Z.f_l_columns)
  F_l_need : Fun K "_law_need" "_law_need" s_l_need Z.f_l_need Z.d_l_need
  b_l_need : Binds K Z.d_l_need ["bag", "columns"] []
  g_l_need : mg "_law_need" = some (.ref Z.f_l_need)
  F_l_needs : Fun K "_law_needs" "_law_needs" s_l_needs Z.f_l_needs Z.d_l_needs
  b_l_needs : Binds K Z.d_l_needs ["bag", "columns", "most"] []
  g_l_needs : mg "_law_needs" = some (.ref Z.f_l_needs)
  F_l_renamed : Fun K "_law_renamed" "_law_renamed" s_l_renamed Z.f_l_renamed Z.d_l_renamed
  b_l_renamed : Binds K Z.d_l_renamed ["columns", "needs"] []
  g_l_renamed : mg "_law_renamed" = some (.ref Z.f_l_renamed)
  F_l_many : Fun K "_law_many" "_law_many" s_l_many Z.f_l_many Z.d_l_many
  b_l_many : Binds K Z.d_l_many ["columns", "needs"] []
  g_l_many : mg "_law_many" = some (.ref Z.f_l_many)
  F_law : Fun K "law" "law" s_law Z.f_law Z.d_law
  b_law : Binds K Z.d_law ["script"] []
  g_law : mg "law" = some (.ref Z.f_law)
  m_len : mg "len" = none
  m_range : mg "range" = none
  m_list : mg "list" = none
  m_sorted : mg "sorted" = none
  m_tuple : mg "tuple" = none
  m_all : mg "all" = none
  m_bool : mg "bool" = none
  m_int : mg "int" = none
  m_enumerate : mg "enumerate" = none
  m_dict : mg "dict" = none
  m_zip : mg "zip" = none
section
variable {P : Program} {w : World} {K : PySem.W.Frag} {mg : Str → Option Value} {base : Heap} {Z : Ad}
/-! ### a bag of numbers -/
def Bag (b bl : Addr) (H : Hp) : Prop := ∃ (ns : List Int) (k : Nat) (n : Int), b ≠ bl ∧ H b = some (.lst [.ref bl, .int k, .int n]) ∧ H bl = some (.lst (ns.map V.int))
theorem Bag.same {b bl : Addr} {H H' : Hp} (h : Bag b bl H) (s : Same H H') : Bag b bl H' := by
  obtain ⟨ns, k, n, e, h1, h2⟩ := h
  exact ⟨ns, k, n, e, s _ _ h1, s _ _ h2⟩
theorem Bag.upd {b bl p : Addr} {H : Hp} {o : HO} (h : Bag b bl H) (h1 : p ≠ b) (h2 : p ≠ bl) : Bag b bl (L2.upd H p o) := by
  obtain ⟨ns, k, n, e, g1, g2⟩ := h
  exact ⟨ns, k, n, e, keep_ne g1 (fun z => h1 z.symm), keep_ne g2 (fun z => h2 z.symm)⟩
theorem Bag.new {b bl p : Addr} {H : Hp} {o : HO} (h : Bag b bl H) (n : H p = none) : Bag b bl (L2.upd H p o) := h.same (Same.new (Same.refl H) n)
theorem Bag.ne {b bl p : Addr} {H : Hp} (h : Bag b bl H) (n : H p = none) : p ≠ b ∧ p ≠ bl := by
  obtain ⟨ns, k, m, e, g1, g2⟩ := h
  exact ⟨(ne_of_none g1 n).symm, (ne_of_none g2 n).symm⟩
theorem Kp.kTb {b bl : Addr} {H H' : Hp} (k : Kp b H H') (h : Bag b bl H) : KT H H' := by
  obtain ⟨ns, m, n, e, g1, g2⟩ := h
  exact k.kT g1
def spBag (K : PySem.W.Frag) : Sp := fun vs H Q _ => ∃ (a : Addr) (ns : List Int), vs = [.ref a] ∧ SqL K H a (ns.map V.int) ∧ ns.length ≤ 63 ∧ ∀ (b bl : Addr) (H' : Hp), Same H H' → H b = none → H bl = none → Bag b bl H' → Q (.ref b) H'
theorem ok_bag (T : Tx K mg Z) : FnOk P w K mg base CX0 1 Z.f_l_bag Z.d_l_bag ["script"] (spBag K) := by
  refine T.F_l_bag.ok sc_l_bag (fun vs H Q E h => ?_) (fun cdv A outer s H vs Q E hr h => ?_)
  · obtain ⟨a, ns, rfl, _⟩ := h
    rfl
  · obtain ⟨a, ns, rfl, hS, hl, q⟩ := h
    refine ⟨_, (pss_one (ps_ret (pe_lst (pa_cons (pe_callTy (cListSq K) (by rfl) T.m_list (by decide +kernel) (pa_cons (pe_slice (slLK K) (pv 0) po_none (po_some pe_int)) pa_nil)) (pa_cons pe_int (pa_cons pe_int pa_nil)))))), ?_⟩
    refine ⟨.ref a, rfl, _, rfl, a, _, rfl, hS, fun p np => ?_⟩
    have ecut : cutV (ns.map V.int) none (some (63 : Int)) = ns.map V.int := by
      unfold cutV
      rw [HT.sIx_none, show (63 : Int) = ((63 : Nat) : Int) from rfl, HT.sIx_nat, List.drop_zero, List.take_of_length_le (by rw [List.length_map]; omega)]
    rw [ecut]
    refine ⟨p, _, rfl, .inl (.inl (.inl upd_same)), fun l nl => ?_⟩
    refine ⟨(by show 3 ≤ sizeLine; decide), fun b nb => ?_⟩
    have s1 : Same H (upd H p (.lst (ns.map V.int))) := Same.new (Same.refl H) np
    have s2 : Same H (upd (upd H p (.lst (ns.map V.int))) l (.lst (ns.map V.int))) := Same.new s1 nl
    exact q b l _ (Same.new s2 nb) (Same.free s2 nb) (Same.free s1 nl) ⟨ns, (0 : Nat), (0 : Int), (fun e => by rw [e, upd_same] at nb; cases nb), upd_same, keep_new upd_same nb⟩
/-! ### _law_lot -/
def spLot (K : PySem.W.Frag) : Sp := fun vs H Q _ => ∃ (b bl : Addr) (m : Int), vs = [.ref b, .int m] ∧ Bag b bl H ∧ 0 < m ∧ m < 1073741824 ∧ ∀ (d : Int) (H' : Hp), Kp b H H' → Bag b bl H' → 0 ≤ d → d < m → Q (.int d) H'
set_option maxHeartbeats 4000000 in
theorem ok_lot (T : Tx K mg Z) : FnOk P w K mg base CX0 1 Z.f_l_lot Z.d_l_lot ["bag", "many"] (spLot K) := by
  refine T.F_l_lot.ok sc_l_lot (fun vs H Q E h => ?_) (fun cdv A outer s H vs Q E hr h => ?_)
  · obtain ⟨b, bl, m, rfl, _⟩ := h
    rfl
  · obtain ⟨b, bl, m, rfl, hB, h0, h1, q⟩ := h
    obtain ⟨ns, k, n, hne, hb, hbl⟩ := hB
    refine ⟨_, (pss_mid (ps_if (pt_cmpR op_eq (pe_ix (ixL K) (pv 0) pe_int (fun _ _ => rfl)) pe_int (nomark _)) (pss_cons (ps_set (i := 2) sc_l_lot.nd rfl (.inl rfl) (pe_ix (ixL K) (pv 0) pe_int (fun _ _ => rfl)))
      (pss_cons (ps_asg (pe_op op_add (pv 2) pe_int) (pg_sub (pv 0) pe_int set_list))
      (pss_cons (ps_set (i := 3) sc_l_lot.nd rfl (.inl rfl) pe_int)
      (pss_mid (ps_if (pt_cmpR op_lt (pv 2) (pe_callB (cLenSq K) (by rfl) T.m_len (by decide +kernel) (pa_cons (pe_ix (ixL K) (pv 0) pe_int (fun _ _ => rfl)) pa_nil)) (nomark _)) (pss_one (ps_set (i := 3) sc_l_lot.nd rfl (.inl rfl) (pe_ix (ixL K) (pe_ix (ixL K) (pv 0) pe_int (fun _ _ => rfl)) (pv 2) (fun _ _ => rfl)))) (pss_one (ps_if (pt_cmpR op_gt (pe_callB (cLenSq K) (by rfl) T.m_len (by decide +kernel) (pa_cons (pe_ix (ixL K) (pv 0) pe_int (fun _ _ => rfl)) pa_nil)) pe_int (nomark _)) (pss_one (ps_set (i := 3) sc_l_lot.nd rfl (.inl rfl) (pe_op op_add (pe_op op_mod (pe_ix (ixL K) (pe_ix (ixL K) (pv 0) pe_int (fun _ _ => rfl)) (pe_op op_mod (pe_op op_mul (pv 2) pe_int) (pe_callB (cLenSq K) (by rfl) T.m_len (by decide +kernel) (pa_cons (pe_ix (ixL K) (pv 0) pe_int (fun _ _ => rfl)) pa_nil))) (fun _ _ => rfl)) pe_int) (pe_op op_mul pe_int (pv 2))))) pss_nil)))
      (pss_cons (ps_set (i := 4) sc_l_lot.nd rfl (.inl rfl) (pe_op op_mod (pe_op op_mul (pe_op op_add (pe_op op_add (pe_op op_mod (pv 3) pe_int) (pe_op op_mul pe_int (pv 2))) pe_int) pe_int) pe_int))
      (pss_cons (ps_set (i := 5) sc_l_lot.nd rfl (.inl rfl) (pe_op op_mod (pe_op op_add (pe_op op_add (pe_op op_mul (pv 4) (pv 4)) (pe_op op_mul pe_int (pv 2))) pe_int) pe_int))
      (pss_cons (ps_set (i := 6) sc_l_lot.nd rfl (.inl rfl) (pe_op op_mod (pe_op op_add (pe_op op_add (pe_op op_mul (pv 5) (pv 5)) (pe_op op_mul pe_int (pv 4))) pe_int) pe_int))
      (pss_cons (ps_asg (pe_op op_add (pe_op op_fdivW (pe_op op_add (pe_op op_mul (pv 5) pe_int) (pv 6)) pe_int) pe_int) (pg_sub (pv 0) pe_int set_list))
      (pss_one (ps_if (pt_cmpR op_ge (pv 3) (pe_op op_pow pe_int pe_int) (nomark _)) (pss_one (ps_asg (pe_op op_fdivW (pv 3) (pe_op op_pow pe_int pe_int)) (pg_sub (pv 0) pe_int set_list))) pss_nil)))))))))) pss_nil)
      (pss_cons (ps_set (i := 7) sc_l_lot.nd rfl (.inl rfl) (pe_op op_mod (pe_ix (ixL K) (pv 0) pe_int (fun _ _ => rfl)) (pv 1)))
      (pss_cons (ps_asg (pe_op op_fdivW (pe_ix (ixL K) (pv 0) pe_int (fun _ _ => rfl)) (pv 1)) (pg_sub (pv 0) pe_int set_list))
      (pss_one (ps_ret (pv 7)))))), ?_⟩
    refine ⟨fun σ H' => ∃ (y2 y3 y4 y5 y6 : Option V) (k2 : Nat) (n2 : Int), σ = [some (.ref b), some (.int m), y2, y3, y4, y5, y6, none] ∧ Kp b H H' ∧ H' b = some (.lst [.ref bl, .int k2, .int n2]) ∧ H' bl = some (.lst (ns.map V.int)), ?_, fun σ H1 hM => ?_⟩
    · refine ⟨.ref b, rfl, b, _, 2, .int n, rfl, rfl, .inl (.inl hb), rfl, rfl, _, rfl, ite2 (fun e => ?_) (fun e => ?_)⟩
      · refine ⟨.ref b, rfl, b, _, 1, .int k, rfl, rfl, .inl (.inl hb), rfl, ?_⟩
        refine ⟨.int k, rfl, _, 1, rfl, rfl, .ref b, rfl, b, _, 1, 1, rfl, rfl, hb, rfl, ?_⟩
        have hb2 : (upd H b (.lst ([V.ref bl, .int k, .int n].set 1 (.int ((k : Int) + 1))))) b = some (.lst [.ref bl, .int ((k + 1 : Nat) : Int), .int n]) := by
          rw [upd_same]
          rfl
        have hbl2 : (upd H b (.lst ([V.ref bl, .int k, .int n].set 1 (.int ((k : Int) + 1))))) bl = some (.lst (ns.map V.int)) := keep_ne hbl (fun z => hne z.symm)
        have kp2 : Kp b H (upd H b (.lst ([V.ref bl, .int k, .int n].set 1 (.int ((k : Int) + 1))))) := fun c o hc hh => keep_ne hh hc
        refine ⟨fun σ H' => ∃ c : Int, σ = [some (.ref b), some (.int m), some (.int k), some (.int c), none, none, none, none] ∧ Kp b H H' ∧ H' b = some (.lst [.ref bl, .int ((k + 1 : Nat) : Int), .int n]) ∧ H' bl = some (.lst (ns.map V.int)), ?_, fun σ H2 hM => ?_⟩
        · refine ⟨.int k, rfl, .ref b, rfl, b, _, 0, .ref bl, rfl, rfl, .inl (.inl hb2), rfl, bl, _, rfl, .inl (.inl (.inl hbl2)), _, _, rfl, rfl, _, rfl, ite2 (fun e2 => ?_) (fun e2 => ?_)⟩
          · have e3 : (k : Int) < ((ns.map V.int).length : Nat) := of_decide_eq_true e2
            have e4 : k < ns.length := by
              rw [List.length_map] at e3
              omega
            refine ⟨.ref b, rfl, b, _, 0, .ref bl, rfl, rfl, .inl (.inl hb2), rfl, .int k, rfl, bl, _, _, .int ns[k], rfl, rfl, .inl (.inl hbl2), atI_nat (by rw [List.getElem?_map, List.getElem?_eq_getElem e4]; rfl), ?_⟩
            exact ⟨_, rfl, kp2, hb2, hbl2⟩
          · refine ⟨.ref b, rfl, b, _, 0, .ref bl, rfl, rfl, .inl (.inl hb2), rfl, bl, _, rfl, .inl (.inl (.inl hbl2)), _, _, rfl, rfl, _, rfl, ite2 (fun e3 => ?_) (fun e3 => ?_)⟩
            · have e4 : (0 : Int) < ((ns.map V.int).length : Nat) := of_decide_eq_true e3
              have hl0 : 0 < ns.length := by
                rw [List.length_map] at e4
                omega
              refine ⟨.ref b, rfl, b, _, 0, .ref bl, rfl, rfl, .inl (.inl hb2), rfl, .int k, rfl, _, 5, rfl, rfl, .inr ⟨by decide, by decide⟩, .ref b, rfl, b, _, 0, .ref bl, rfl, rfl, .inl (.inl hb2), rfl, bl, _, rfl, .inl (.inl (.inl hbl2)), _, _, rfl, rfl, e4, ?_⟩
              rw [List.length_map]
              have g0 : 0 ≤ ((k : Int) * 5) % (ns.length : Int) := Int.emod_nonneg _ (by omega)
              have g1 : ((k : Int) * 5) % (ns.length : Int) < (ns.length : Int) := Int.emod_lt_of_pos _ (by omega)
              have hj : (((k : Int) * 5) % (ns.length : Int)).toNat < ns.length := by omega
              refine ⟨bl, _, _, .int ns[(((k : Int) * 5) % (ns.length : Int)).toNat], rfl, rfl, .inl (.inl hbl2), L2.at_of (j := (((k : Int) * 5) % (ns.length : Int)).toNat) (by omega) (by rw [List.getElem?_map, List.getElem?_eq_getElem hj]; rfl), _, 1000003, rfl, rfl, (by show (0 : Int) < 1000003; decide), .int k, rfl, 97, _, rfl, rfl, .inl ⟨by decide, by decide⟩, _, _, rfl, rfl, ?_⟩
              exact ⟨_, rfl, kp2, hb2, hbl2⟩
            · exact ⟨_, rfl, kp2, hb2, hbl2⟩
        · obtain ⟨c, rfl, kp3, hb3, hbl3⟩ := hM
          have em : ∀ (x : Int) (d : Int), 0 < d → 0 ≤ x % d ∧ x % d < d := fun x d hd => ⟨Int.emod_nonneg _ (by omega), Int.emod_lt_of_pos _ hd⟩
          have b64 : ∀ x : Int, 0 ≤ x → x < 2147483647 → -(2 ^ 64) < x ∧ x < 2 ^ 64 := fun x h0 h1 => ⟨by omega, by omega⟩
          refine ⟨.int c, rfl, c, 2147483629, rfl, rfl, (by show (0 : Int) < 2147483629; decide), .int k, rfl, 83, _, rfl, rfl, .inl ⟨by decide, by decide⟩, _, _, rfl, rfl, _, 5, rfl, rfl, _, 48271, rfl, rfl, .inr ⟨by decide, by decide⟩, _, 998244353, rfl, rfl, (by show (0 : Int) < 998244353; decide), ?_⟩
          refine ⟨_, rfl, _, rfl, _, _, rfl, rfl, .inl (b64 _ (em _ 998244353 (by decide)).1 (Int.lt_trans (em _ 998244353 (by decide)).2 (by decide))), .int k, rfl, 69621, _, rfl, rfl, .inl ⟨by decide, by decide⟩, _, _, rfl, rfl, _, 17, rfl, rfl, _, 2147483647, rfl, rfl, (by show (0 : Int) < 2147483647; decide), ?_⟩
          refine ⟨_, rfl, _, rfl, _, _, rfl, rfl, .inl (b64 _ (em _ 2147483647 (by decide)).1 (em _ 2147483647 (by decide)).2), _, rfl, 3, _, rfl, rfl, .inl ⟨by decide, by decide⟩, _, _, rfl, rfl, _, 1, rfl, rfl, _, 1000000007, rfl, rfl, (by show (0 : Int) < 1000000007; decide), ?_⟩
          refine ⟨_, rfl, _, 1000000007, rfl, rfl, .inr ⟨by decide, by decide⟩, _, rfl, _, _, rfl, rfl, _, 4, rfl, rfl, wide_div (b := 4) (by decide) (by decide) (by decide) (by decide), _, 1, rfl, rfl, .ref b, rfl, b, _, 2, 2, rfl, rfl, hb3, rfl, ?_⟩
          refine ⟨.int c, rfl, 10, 18, rfl, rfl, ⟨by decide, by decide, by decide⟩, _, _, rfl, rfl, _, rfl, ite2 (fun e6 => ?_) (fun e6 => ?_)⟩
          · refine ⟨.int c, rfl, 10, 18, rfl, rfl, ⟨by decide, by decide, by decide⟩, _, _, rfl, rfl, wide_div (b := 60) (by decide) (by decide) (by decide) (by decide), .ref b, rfl, b, _, 2, 2, rfl, rfl, upd_same, rfl, ?_⟩
            exact ⟨_, _, _, _, _, k + 1, _, rfl, fun c o hc hh => keep_ne (keep_ne (kp3 c o hc hh) hc) hc, upd_same, keep_ne (keep_ne hbl3 (fun z => hne z.symm)) (fun z => hne z.symm)⟩
          · exact ⟨_, _, _, _, _, k + 1, _, rfl, fun c o hc hh => keep_ne (kp3 c o hc hh) hc, upd_same, keep_ne hbl3 (fun z => hne z.symm)⟩
      · exact ⟨_, _, _, _, _, k, n, rfl, Kp.rfl', hb, hbl⟩
    · obtain ⟨y2, y3, y4, y5, y6, k2, n2, rfl, kp1, hb1, hbl1⟩ := hM
      refine ⟨.ref b, rfl, b, _, 2, .int n2, rfl, rfl, .inl (.inl hb1), rfl, .int m, rfl, n2, m, rfl, rfl, h0, ?_⟩
      refine ⟨.ref b, rfl, b, _, 2, .int n2, rfl, rfl, .inl (.inl hb1), rfl, .int m, rfl, n2, m, rfl, rfl, wide_div (b := 30) h0 (by omega) (by decide) (by decide), ?_⟩
      refine ⟨.ref b, rfl, b, _, 2, 2, rfl, rfl, hb1, rfl, _, rfl, ?_⟩
      refine q _ _ ?_ ⟨ns, k2, n2 / m, hne, upd_same, keep_ne hbl1 (fun z => hne z.symm)⟩ (Int.emod_nonneg _ (by omega)) (Int.emod_lt_of_pos _ h0)
      exact fun c o hc hh => keep_ne (kp1 c o hc hh) hc

/-! ### _law_columns -/
def alpha : List Nat := [97, 98, 99, 100, 101, 102, 103, 104, 105, 106, 107, 108, 109, 110, 111, 112, 113, 114, 115, 116, 117, 118, 119, 120, 121, 122]
def spColumns (K : PySem.W.Frag) : Sp := fun vs H Q _ => ∃ (b bl : Addr) (m : Nat), vs = [.ref b, .int m] ∧ Bag b bl H ∧ 1 ≤ m ∧ m ≤ 26 ∧ ∀ (l : List Nat) (H' : Hp), Kp b H H' → Bag b bl H' → Cols l → 1 ≤ l.length → l.length ≤ m → Q (tx l) H'
theorem ok_columns (T : Tx K mg Z) : FnOk P w K mg base CX0 2 Z.f_l_columns Z.d_l_columns ["bag", "most"] (spColumns K) := by
  have G_l_lot : FnOk P w K mg base CX0 1 Z.f_l_lot Z.d_l_lot ["bag", "many"] (spLot K) := ok_lot T
  refine T.F_l_columns.ok sc_l_columns (fun vs H Q E h => ?_) (fun cdv A outer s H vs Q E hr h => ?_)
  · obtain ⟨b, bl, m, rfl, _⟩ := h
    rfl
  · obtain ⟨b, bl, m, rfl, hB, hm1, hm, q⟩ := h
    refine ⟨_, (pss_cons (ps_set (i := 2) sc_l_columns.nd rfl (.inl rfl) (pe_callTy call_list_txt (by rfl) T.m_list (by decide +kernel) (pa_cons pe_str pa_nil)))
      (pss_cons (ps_set (i := 3) sc_l_columns.nd rfl (.inl rfl) (pe_lst pa_nil))
      (pss_cons (ps_for PassesOwn.never rfl (pi_range1 (by rfl) T.m_range (pa_cons (pe_op op_add pe_int (pe_call G_l_lot (hr.mono (by omega)) (by rfl) T.g_l_lot T.F_l_lot.kp T.b_l_lot .nil pass0 (pa_cons (pv 0) (pa_cons (pv 1) pa_nil)))) pa_nil)) (pg_name (i := 4) sc_l_columns.nd rfl (.inl rfl)) (pss_one (ps_expr (bmK K PySem.F.plainAttrs_list PySem.F.slot_list_append PySem.F.type_list_append mt_append (pv 3) (pa_cons (bmK K PySem.F.plainAttrs_list PySem.F.slot_list_pop PySem.F.type_list_pop mt_popAt (pv 2) (pa_cons (pe_call G_l_lot (hr.mono (by omega)) (by rfl) T.g_l_lot T.F_l_lot.kp T.b_l_lot .nil pass0 (pa_cons (pv 0) (pa_cons (pe_callB (cLenSq K) (by rfl) T.m_len (by decide +kernel) (pa_cons (pv 2) pa_nil)) pa_nil))) pa_nil)) pa_nil)))))
      (pss_one (ps_ret (pe_join pe_str (pe_callB cr_sortedS (by rfl) T.m_sorted (by decide +kernel) (pa_cons (pv 3) pa_nil)))))))), ?_⟩
    have ea : (Str.ofString "abcdefghijklmnopqrstuvwxyz").cps.toList = alpha := by decide +kernel
    refine ⟨_, rfl, (by decide +kernel), fun L nL => ?_⟩
    rw [ea]
    refine ⟨Nat.zero_le _, fun F nF => ?_⟩
    have nFL : F ≠ L := fun e => by
      rw [e, upd_same] at nF
      cases nF
    have nF0 : H F = none := by
      rw [upd_ne nFL] at nF
      exact nF
    have nLb := hB.ne nL
    have nFb := hB.ne nF0
    have hB2 := (hB.new nL (o := .lst (alpha.map sg))).new nF (o := .lst [])
    have hL2 : (upd (upd H L (.lst (alpha.map sg))) F (.lst [])) L = some (.lst (alpha.map sg)) := keep_new upd_same nF
    have hF2 : (upd (upd H L (.lst (alpha.map sg))) F (.lst [])) F = some (.lst []) := upd_same
    have kp2 : Kp b H (upd (upd H L (.lst (alpha.map sg))) F (.lst [])) := (Kp.new Kp.rfl' nL).new nF
    generalize upd (upd H L (.lst (alpha.map sg))) F (.lst []) = H2 at hB2 hL2 hF2 kp2 ⊢
    refine ⟨.ref b, rfl, .int m, rfl, b, bl, m, rfl, hB2, by omega, by omega, fun g H3 kp3 hB3 g0 g1 => ?_⟩
    have hL3 := kp3 _ _ nLb.1 hL2
    have hF3 := kp3 _ _ nFb.1 hF2
    refine ⟨1, _, rfl, rfl, _, rfl, by omega, by omega, for_range (fun i σ H' => ∃ (ll ff : List Nat) (y : Option V), σ = [some (.ref b), some (.int m), some (.ref L), some (.ref F), y] ∧ Kp b H H' ∧ Bag b bl H' ∧ H' L = some (.lst (ll.map sg)) ∧ H' F = some (.lst (ff.map sg)) ∧ (ll ++ ff).Perm alpha ∧ ff.length = i)
      ⟨alpha, [], none, rfl, kp2.trans kp3, hB3, hL3, hF3, by rw [List.append_nil], rfl⟩ (fun i σ H' hi hP => ?_) (fun σ H' hP => ?_)⟩
    · obtain ⟨ll, ff, y, rfl, kp, hB1, hL, hF, hp, hl⟩ := hP
      have hlen : ll.length + ff.length = 26 := by
        have := hp.length_eq
        rw [List.length_append] at this
        exact this
      have hll : 0 < ll.length := by omega
      refine ⟨.ref F, rfl, .inl ⟨rfl, _, .inl (.inl hF)⟩, .ref L, rfl, .inl ⟨rfl, _, .inl (.inl hL)⟩, .ref b, rfl, .ref L, rfl, L, _, rfl, .inl (.inl (.inl hL)), b, bl, _, rfl, hB1, ?_, ?_, fun d H4 kp4 hB4 d0 d1 => ?_⟩
      · rw [List.length_map]
        omega
      · rw [List.length_map]
        omega
      · rw [List.length_map] at d1
        have hd : d.toNat < ll.length := by omega
        have hL4 : H4 L = some (.lst (ll.map sg)) := kp4 _ _ nLb.1 hL
        have hF4 : (upd H4 L (.lst ((ll.map sg).eraseIdx d.toNat))) F = some (.lst (ff.map sg)) := keep_ne (kp4 _ _ nFb.1 hF) nFL
        have hy : ll[d.toNat]? = some ll[d.toNat] := List.getElem?_eq_getElem hd
        refine ⟨L, _, d, d.toNat, sg ll[d.toNat], rfl, rfl, hL4, by omega, by omega, PySem.seqIndex_of d0 (by rw [List.length_map]; exact d1), ?_, F, _, _, rfl, rfl, hF4, ?_, ?_⟩
        · rw [List.getElem?_map, hy]
          rfl
        · rw [List.length_map]
          exact small1000 (by omega)
        · refine ⟨ll.eraseIdx d.toNat, ff ++ [ll[d.toNat]], _, rfl, ?_, ?_, ?_, ?_, (popped hy ff).trans hp, by rw [List.length_append, hl]; rfl⟩
          · exact ((kp.trans kp4).mut nL).mut nF0
          · exact (hB4.upd nLb.1 nLb.2).upd nFb.1 nFb.2
          · rw [upd_ne nFL.symm, upd_same, erase_map]
          · rw [upd_same, List.map_append]
            rfl
    · obtain ⟨ll, ff, y, rfl, kp, hB1, hL, hF, hp, hl⟩ := hP
      have hm2 : 1 ≤ ff.length ∧ ff.length ≤ m := by
        rw [hl]
        omega
      refine ⟨⟨_, rfl⟩, .ref F, rfl, F, ff.map sS, rfl, .inl (.inl (by rw [← map_sg]; exact hF)), by rw [List.length_map]; omega, fun ys p hys hso np => ?_⟩
      obtain ⟨l, rfl, pl⟩ := perm_signs hys
      have ndA : (ll ++ ff).Nodup := hp.nodup_iff.mpr (by decide)
      have ndf : ff.Nodup := (List.nodup_append.mp ndA).2.1
      have ndl : l.Nodup := pl.nodup_iff.mpr ndf
      refine ⟨_, p, _, rfl, rfl, .inl (.inl (.inl upd_same)), ?_, ?_⟩
      · rw [show (Str.ofString "").length = 0 by decide +kernel, Nat.mul_zero, Nat.add_zero, signs_len, pl.length_eq]
        exact Nat.le_of_lt (small1000 (by omega))
      · rw [join_signs]
        refine q l _ (kp.new np) (hB1.new np) ⟨strict_of (sorted_signs l hso) ndl, fun c hc => ?_⟩ (by rw [pl.length_eq]; exact hm2.1) (by rw [pl.length_eq]; exact hm2.2)
        have hc2 : c ∈ alpha := hp.mem_iff.mp (List.mem_append_right _ (pl.mem_iff.mp hc))
        have : ∀ c ∈ alpha, 97 ≤ c ∧ c ≤ 122 := by decide
        exact this c hc2
/-! ### _law_need -/
structure NOk (cols es rc : List Nat) : Prop where
  up : es.Pairwise (· < ·)
  sub : ∀ c ∈ es, c ∈ cols
  one : rc.length ≤ 1
  rsub : ∀ c ∈ rc, c ∈ cols ∧ c ∉ es
  some : es ≠ [] ∨ rc ≠ []
def needD (es rc : List Nat) : PyData := .tuple [.str (txS es), .str (txS rc)]
def spNeed (K : PySem.W.Frag) : Sp := fun vs H Q _ => ∃ (b bl : Addr) (cols : List Nat), vs = [.ref b, tx cols] ∧ Bag b bl H ∧ Cols cols ∧ 1 ≤ cols.length ∧ cols.length ≤ 26 ∧ ∀ (es rc : List Nat) (v : Addr) (H' : Hp), Kp b H H' → Bag b bl H' → H v = none → H' v = some (.tup [tx es, tx rc]) → NOk cols es rc → Q (.ref v) H'
theorem ok_need (T : Tx K mg Z) : FnOk P w K mg base CX0 2 Z.f_l_need Z.d_l_need ["bag", "columns"] (spNeed K) := by
  have G_l_lot : FnOk P w K mg base CX0 1 Z.f_l_lot Z.d_l_lot ["bag", "many"] (spLot K) := ok_lot T
  refine T.F_l_need.ok sc_l_need (fun vs H Q E h => ?_) (fun cdv A outer s H vs Q E hr h => ?_)
  · obtain ⟨b, bl, cols, rfl, _⟩ := h
    rfl
  · obtain ⟨b, bl, cols, rfl, hB, hc, hc1, hc2, q⟩ := h
    refine ⟨_, (pss_cons (ps_set (i := 2) sc_l_need.nd rfl (.inr rfl) (pe_lc (own := [("letter", 5)]) (tt := _) (by rfl) sc_l_need.nd (pi_str (pv 1)) (blkOk_by (own := [("letter", 5)]) (by kernel_rfl)) (fun _ _ _ _ _ => (pg_name (i := 5) sc_l_need.nd rfl (.inl rfl))) (fun _ _ _ _ _ => (pts_one (pt_cmpR op_eq (pe_call G_l_lot (hr.mono (by omega)) (by rfl) T.g_l_lot T.F_l_lot.kp T.b_l_lot .nil pass0 (pa_cons (pv 0) (pa_cons pe_int pa_nil))) pe_int (nomark _)))) (fun _ _ _ _ _ => (pv 5))))
      (pss_cons (ps_setLc (i := 3) (own := [("letter", 5)]) (tt := _) (by rfl) sc_l_need.nd rfl rfl (sw_true rfl rfl rfl (by decide +kernel)) (pi_str (pv 1)) (blkOk_by (own := [("letter", 5)]) (by kernel_rfl)) (fun _ _ _ _ _ => (pg_name (i := 5) sc_l_need.nd rfl (.inl rfl))) (fun _ _ _ _ _ => (pts_one (pt_cmpR (notInSq K) (pv 5) (pv 2) (by rfl)))) (fun _ _ _ _ _ => (pv 5)))
      (pss_cons (ps_set (i := 4) sc_l_need.nd rfl (.inl rfl) pe_str)
      (pss_mid (ps_if (PW.pt (pw_and (pt_cmpR (neDK K hr.units) (pv 3) (pe_lst pa_nil) (nomark _)) (pw_and1 (PW.pt (pw_or (pt_cmpR (eqDK K hr.units) (pv 2) (pe_lst pa_nil) (nomark _)) (pw_or1 (pt_cmpR op_gt (pe_call G_l_lot (hr.mono (by omega)) (by rfl) T.g_l_lot T.F_l_lot.kp T.b_l_lot .nil pass0 (pa_cons (pv 0) (pa_cons pe_int pa_nil))) pe_int (nomark _)))))))) (pss_one (ps_set (i := 4) sc_l_need.nd rfl (.inl rfl) (pe_ix (ixL K) (pv 3) (pe_call G_l_lot (hr.mono (by omega)) (by rfl) T.g_l_lot T.F_l_lot.kp T.b_l_lot .nil pass0 (pa_cons (pv 0) (pa_cons (pe_callB (cLenSq K) (by rfl) T.m_len (by decide +kernel) (pa_cons (pv 3) pa_nil)) pa_nil))) (fun _ _ => rfl)))) pss_nil)
      (pss_one (ps_ret (pe_tup (pa_cons (pe_join pe_str (pv 2)) (pa_cons (pv 4) pa_nil))))))))), ?_⟩
    refine ⟨tx cols, rfl, _, rfl, fun D nD => lc_it walk_str (fun i H' => ∃ ss : List Nat, Kp b H H' ∧ Bag b bl H' ∧ H' D = some (.lst (ss.map sg)) ∧ ss.Sublist (cols.take i))
      ⟨[], Kp.new Kp.rfl' nD, hB.new nD, upd_same, List.nil_sublist _⟩ (fun _ _ _ _ => trivial) (fun i x H4 H5 hi hP hY => ?_) (fun H4 hP => ?_)⟩
    · obtain ⟨ss, kp4, hB4, hD4, hss⟩ := hP
      obtain ⟨rfl, c, hcc, rfl⟩ := hY
      have nDb := hB.ne nD
      have hi2 : i < cols.length := by simpa using hi
      have hci : cols[i] = c := by
        have : cols[i]? = some c := by simpa using hcc
        exact (List.getElem?_eq_some_iff.mp this).2
      have htk : cols.take (i + 1) = cols.take i ++ [c] := by rw [List.take_succ_eq_append_getElem hi2, hci]
      refine ⟨rfl, .ref b, rfl, b, bl, 2, rfl, hB4, by decide, by decide, fun d H6 kp6 hB6 d0 d1 => ⟨rfl, _, rfl, ite2 (fun e => ?_) (fun e => ?_)⟩⟩
      · have hD6 := kp6 _ _ nDb.1 hD4
        refine ⟨sg c, rfl, _, hD6, ?_, ss ++ [c], (kp4.trans kp6).mut nD, hB6.upd nDb.1 nDb.2, ?_, ?_⟩
        · have := hss.length_le
          rw [List.length_take] at this
          rw [List.length_map]
          exact small1000 (by omega)
        · rw [upd_same, List.map_append]
          rfl
        · rw [htk]
          exact hss.append (List.Sublist.refl _)
      · refine ⟨ss, kp4.trans kp6, hB6, kp6 _ _ nDb.1 hD4, ?_⟩
        rw [htk]
        exact hss.trans (List.sublist_append_left _ _)
    · obtain ⟨ss, kp4, hB4, hD4, hss⟩ := hP
      have nDb := hB.ne nD
      have hn : (⟨cols.toArray⟩ : Str).cps.size = cols.length := by simp
      rw [hn, List.take_of_length_le (Nat.le_refl _)] at hss
      have hssl : ss.length ≤ 26 := Nat.le_trans hss.length_le hc2
      -- others
      refine ⟨tx cols, rfl, _, rfl, fun D2 nD2 => lc_it walk_str (fun i H' => Same H4 H' ∧ H' D2 = some (.lst (((cols.take i).filter fun c => !decide (c ∈ ss)).map sg)))
        ⟨Same.new (Same.refl H4) nD2, upd_same⟩ (fun _ _ _ _ => trivial) (fun i x H5 H6 hi hP hY => ?_) (fun H5 hP => ?_)⟩
      · obtain ⟨sm5, hD5⟩ := hP
        obtain ⟨rfl, c, hcc, rfl⟩ := hY
        have hi2 : i < cols.length := by simpa using hi
        have hci : cols[i] = c := by
          have : cols[i]? = some c := by simpa using hcc
          exact (List.getElem?_eq_some_iff.mp this).2
        refine ⟨rfl, sg c, rfl, .ref D, rfl, D, _, rfl, .inl (.inl (.inl (sm5 _ _ hD4))), rfl, flat_signs _, _, rfl, ?_⟩
        show (if (!inV (sg c) (ss.map sg)) = true then _ else _)
        rw [inV_signs]
        refine ite2 (fun e5 => ?_) (fun e5 => ?_)
        · refine ⟨sg c, rfl, _, hD5, ?_, Same.mut sm5 nD2, ?_⟩
          · rw [List.length_map]
            have := List.length_filter_le (fun c => !decide (c ∈ ss)) (cols.take i)
            rw [List.length_take] at this
            exact small1000 (by omega)
          · rw [upd_same, List.take_succ_eq_append_getElem hi2, hci, List.filter_append, List.filter_cons, if_pos e5, List.map_append]
            rfl
        · refine ⟨sm5, ?_⟩
          rw [hD5, List.take_succ_eq_append_getElem hi2, hci, List.filter_append, List.filter_cons, if_neg e5, List.filter_nil, List.append_nil]
      · obtain ⟨sm5, hD5⟩ := hP
        rw [hn, List.take_of_length_le (Nat.le_refl _)] at hD5
        generalize hll : (cols.filter fun c => !decide (c ∈ ss)) = ll at hD5
        have hlm : ∀ c ∈ ll, c ∈ cols ∧ c ∉ ss := fun c h => by
          rw [← hll] at h
          obtain ⟨h1, h2⟩ := List.mem_filter.mp h
          exact ⟨h1, by simpa using h2⟩
        have hllen : ll.length ≤ 26 := by
          rw [← hll]
          exact Nat.le_trans (List.length_filter_le _ _) hc2
        have kp5 : Kp b H H5 := kp4.trans (Same.kp sm5)
        have hB5 := hB4.same sm5
        have nD2b := hB4.ne nD2
        have hD5s := sm5 _ _ hD4
        have hup : ss.Pairwise (· < ·) := hc.up.sublist hss
        have hsub : ∀ c ∈ ss, c ∈ cols := fun c h => hss.subset h
        -- reach
        refine ⟨fun σ H' => ∃ (rc : List Nat), σ = [some (.ref b), some (tx cols), some (.ref D), some (.ref D2), some (tx rc), none] ∧ Kp b H H' ∧ Bag b bl H' ∧ H' D = some (.lst (ss.map sg)) ∧ NOk cols ss rc, ?_, fun σ H6 hM => ?_⟩
        · refine ⟨.ref D2, rfl, (by show 0 ≤ sizeLine; decide), fun p np => ?_⟩
          have smA : Same H5 (upd H5 p (.lst [])) := Same.new (Same.refl H5) np
          have hpA : (upd H5 p (.lst [])) p = some (.lst []) := upd_same
          generalize upd H5 p (.lst []) = HA at smA hpA ⊢
          have hD2A := smA _ _ hD5
          have hDA := smA _ _ hD5s
          have hBA := hB5.same smA
          have kpA : Kp b H HA := kp5.trans (Same.kp smA)
          refine ⟨_, _, .lst (.inl (.inl hD2A)) (dp_signs ll), .lst (.inl (.inl hpA)) .nil, shaped_signs (fun c h => (hc.az c (hlm c h).1).2), rfl, _, rfl, ite2 (fun e => ?_) (fun e => ?_)⟩
          · have lne : ll ≠ [] := fun z => by
              rw [z] at e
              exact absurd e (by decide)
            have lpos : 0 < ll.length := List.length_pos_iff.mpr lne
            have draw : ∀ (HX : Hp), Kp b H HX → Bag b bl HX → HX D2 = some (.lst (ll.map sg)) → HX D = some (.lst (ss.map sg)) → tAsg (tOp (rIxL K) (tVar 3) (tCall (spLot K) [] E0 (tCons (tVar 0) (tCons (tCB (rLenSq K) (tCons (tVar 3) tNil)) tNil)))) (gName 4) { nx := fun σ H' => ∃ (rc : List Nat), σ = [some (.ref b), some (tx cols), some (.ref D), some (.ref D2), some (tx rc), none] ∧ Kp b H H' ∧ Bag b bl H' ∧ H' D = some (.lst (ss.map sg)) ∧ NOk cols ss rc, rt := Q } [some (.ref b), some (tx cols), some (.ref D), some (.ref D2), some (tx []), none] HX := by
              intro HX kpX hBX hD2X hDX
              refine ⟨.ref D2, rfl, .ref b, rfl, .ref D2, rfl, D2, _, rfl, .inl (.inl (.inl hD2X)), b, bl, _, rfl, hBX, by rw [List.length_map]; omega, by rw [List.length_map]; omega, fun f HY kpY hBY f0 f1 => ?_⟩
              rw [List.length_map] at f1
              have hf : f.toNat < ll.length := by omega
              have hcm := hlm ll[f.toNat] (List.getElem_mem hf)
              generalize hcc : ll[f.toNat] = cc at hcm
              refine ⟨D2, ll.map sg, f, sg cc, rfl, rfl, .inl (.inl (kpY _ _ nD2b.1 hD2X)), L2.at_of (j := f.toNat) (by omega) (by rw [List.getElem?_map, List.getElem?_eq_getElem hf, hcc]; rfl), ?_⟩
              exact ⟨[cc], rfl, kpX.trans kpY, hBY, kpY _ _ nDb.1 hDX, hup, hsub, Nat.le_refl _, fun c h => by rw [List.mem_singleton.mp h]; exact hcm, .inr (by simp)⟩
            refine ⟨.ref D, rfl, (by show 0 ≤ sizeLine; decide), fun p2 np2 => ?_⟩
            have smB : Same HA (upd HA p2 (.lst [])) := Same.new (Same.refl HA) np2
            have hpB : (upd HA p2 (.lst [])) p2 = some (.lst []) := upd_same
            generalize upd HA p2 (.lst []) = HB at smB hpB ⊢
            have hDB := smB _ _ hDA
            refine ⟨_, _, .lst (.inl (.inl hDB)) (dp_signs ss), .lst (.inl (.inl hpB)) .nil, shaped_signs (fun c h => (hc.az c (hsub c h)).2), rfl, _, rfl, ite2 (fun e2 => ?_) (fun e2 => ?_)⟩
            · exact draw HB (kpA.trans (Same.kp smB)) (hBA.same smB) (smB _ _ hD2A) hDB
            · have sne : ss ≠ [] := fun z => by
                rw [z] at e2
                exact e2 rfl
              refine ⟨.ref b, rfl, b, bl, 3, rfl, hBA.same smB, by decide, by decide, fun d HC kpC hBC d0 d1 => ⟨_, _, rfl, rfl, _, rfl, ite2 (fun e3 => ?_) (fun e3 => ?_)⟩⟩
              · exact draw HC ((kpA.trans (Same.kp smB)).trans kpC) hBC (kpC _ _ nD2b.1 (smB _ _ hD2A)) (kpC _ _ nDb.1 hDB)
              · exact ⟨[], rfl, (kpA.trans (Same.kp smB)).trans kpC, hBC, kpC _ _ nDb.1 hDB, hup, hsub, Nat.zero_le _, (fun c h => nomatch h), .inl sne⟩
          · refine ⟨[], rfl, kpA, hBA, hDA, hup, hsub, Nat.zero_le _, (fun c h => nomatch h), .inl fun z => ?_⟩
            have e0 : ll = [] := by
              cases ll with
              | nil => rfl
              | cons x l => exact absurd rfl e
            rw [e0, z] at hll
            have : cols = [] := List.eq_nil_iff_forall_not_mem.mpr (by simpa using hll)
            rw [this] at hc1
            exact absurd hc1 (by decide)
        · obtain ⟨rc, rfl, kp6, hB6, hD6, hok⟩ := hM
          refine ⟨⟨_, rfl⟩, .ref D, rfl, _, D, ss.map sS, rfl, rfl, .inl (.inl (.inl (by rw [← map_sg]; exact hD6))), ?_, ?_⟩
          · rw [show (Str.ofString "").length = 0 by decide +kernel, Nat.mul_zero, Nat.add_zero, signs_len]
            exact Nat.le_of_lt (small1000 (by omega))
          · rw [join_signs]
            refine ⟨tx rc, rfl, (by show 2 ≤ sizeLine; decide), fun v nv => ?_⟩
            exact q ss rc v _ (kp6.new nv) (hB6.new nv) (Kp.none kp6 (hB6.ne nv).1 nv) upd_same hok

/-! ### is_ahead -/
def spAhead (K : PySem.W.Frag) (Z : Ad) : Sp := fun vs H Q _ => ∃ (p r : Nd2) (pa ra : Addr), vs = [.ref pa, .ref ra] ∧ TG Z.Ps H ∧ H pa = some (.tup [tx p.1, tx p.2]) ∧ H ra = some (.tup [tx r.1, tx r.2]) ∧ NdS p ∧ NdS r ∧ ∀ (H' : Hp), Sx Z.Ps H H' → TG Z.Ps H' → Q (.bl (ahd p r)) H'
theorem ok_ahead (T : Tx K mg Z) (TB : Tb base mg Z) : FnOk P w K mg base CX0 4 Z.f_is_ahead Z.d_is_ahead ["first", "second"] (spAhead K Z) := by
  refine T.C_is_ahead.ok sc_is_ahead (fun vs H Q E h => ?_) (fun A outer s H vs Q E hr h => ?_)
  · obtain ⟨p, r, pa, ra, rfl, _⟩ := h
    rfl
  · obtain ⟨p, r, pa, ra, rfl, tg, hpa, hra, np, nr, q⟩ := h
    refine ⟨_, (pss_cons (ps_asg (pv 0) (pgT K (n := 2) (pgs_cons (pg_name (i := 2) sc_is_ahead.nd rfl (.inl rfl)) (pgs_cons (pg_name (i := 3) sc_is_ahead.nd rfl (.inl rfl)) pgs_nil))))
      (pss_one (ps_ret (pe_and (pe_cmpR (neDK K hr.units) (pv 0) (pv 1) (nomark _)) (pe_one (pe_allC (own := [("letter", 4)]) (k := 0) (hr.mono (by omega)) (by rfl) T.m_all (TB.t_is_ahead) rfl (gxS_by (blkOk_by (own := [("letter", 4)]) (by kernel_rfl)) (by kernel_rfl)) sc_is_ahead.nd (by rfl) (pi_str (pe_op op_add_str (pv 2) (pv 3))) (fun _ _ _ _ _ _ _ _ => (pg_name (i := 4) sc_is_ahead.nd rfl (.inl rfl))) (fun _ _ _ _ _ _ _ _ hr => (pe_cmpR op_in_sign (pv 4) (pe_ix (ixT K) (pv 1) pe_int (fun _ _ => rfl)) (by rfl))))))))), ?_⟩
    have hP : Z.P_is_ahead ∈ Z.Ps := by simp
    have l1 := np.l1
    have l2 := np.l2
    refine ⟨.ref pa, rfl, pa, [tx p.1, tx p.2], rfl, .inl (.inl hpa), rfl, tx p.1, [tx p.2], rfl, tx p.2, [], rfl, rfl, ?_⟩
    refine ⟨.ref pa, rfl, .ref ra, rfl, ndD p, ndD r, .tup (.inl (.inl hpa)) (.cons (.str _) (.cons (.str _) .nil)), .tup (.inl (.inl hra)) (.cons (.str _) (.cons (.str _) .nil)), shaped_nd np, shaped_nd nr, _, rfl, ?_⟩
    rw [eqv_nd]
    refine ite2 (fun e => ?_) (fun e => ?_)
    · have hq : ahd p r = ((p.1 ++ p.2).all fun c => decide (c ∈ r.1)) := by
        unfold ahd
        rw [e, Bool.true_and]
      rw [hq] at q
      have sz : ∀ l : List Nat, (⟨l.toArray⟩ : Str).length = l.length := fun l => by simp [Str.length]
      refine ⟨tx p.1, rfl, tx p.2, rfl, ⟨p.1.toArray⟩, ⟨p.2.toArray⟩, rfl, rfl, by rw [sz, sz]; exact Nat.le_of_lt (small1000 (by omega)), ?_⟩
      rw [cat_tx p.1 p.2]
      generalize p.1 ++ p.2 = l at q ⊢
      refine ⟨_, rfl, tg _ hP, fun H2 hT => ?_⟩
      have tg2 := Tabbed.tg tg hT
      have sx2 := Tabbed.sx hP hT
      have hcs : (⟨l.toArray⟩ : Str).cps.size = l.length := by simp
      have hra2 := sx2 _ _ (tg.off ra _ (.inl hra)) hra
      refine ⟨(⟨l.toArray⟩ : Str).cps.size, fun i => decide (l.getD i 0 ∈ r.1), fun i H' => i ≤ (⟨l.toArray⟩ : Str).cps.size ∧ H' = H2, ⟨Nat.zero_le _, rfl⟩, gx_step walk_str (fun _ _ _ _ => trivial) (fun i x H3 H4 hi e hY => ?_), fun H3 e hall => ?_, fun j H3 hj hs hal e => ?_⟩
      · obtain ⟨rfl, c, hc, rfl⟩ := hY
        have hc2 : l[i]? = some c := by simpa using hc
        subst e
        refine ⟨rfl, sg c, rfl, .ref ra, rfl, ra, [tx r.1, tx r.2], 0, tx r.1, rfl, rfl, .inl (.inl hra2), rfl, c, ⟨r.1.toArray⟩, rfl, rfl, ?_, hi, rfl⟩
        simp only [show (⟨r.1.toArray⟩ : Str).cps.toList = r.1 by simp, List.getD_eq_getElem?_getD, hc2]
        rfl
      · obtain ⟨_, rfl⟩ := e
        have hq2 : (l.all fun c => decide (c ∈ r.1)) = true := by
          rw [List.all_eq_true]
          intro c hc
          obtain ⟨i, hi, rfl⟩ := List.getElem_of_mem hc
          have := hall i (by rw [hcs]; exact hi)
          simp only [List.getD_eq_getElem?_getD, List.getElem?_eq_getElem hi] at this
          exact this
        rw [hq2] at q
        exact q _ sx2 tg2
      · obtain ⟨_, rfl⟩ := e
        have hj2 : j < l.length := by
          rw [hcs] at hj
          exact hj
        have hq2 : (l.all fun c => decide (c ∈ r.1)) = false := by
          refine eq_false_of_ne_true fun z => ?_
          have h1 := List.all_eq_true.mp z l[j] (List.getElem_mem hj2)
          simp only [List.getD_eq_getElem?_getD, List.getElem?_eq_getElem hj2] at hs
          rw [show decide (l[j] ∈ r.1) = false from hs] at h1
          cases h1
        rw [hq2] at q
        exact q _ sx2 tg2
    · have hq : ahd p r = false := by
        unfold ahd
        rw [eq_false_of_ne_true e, Bool.false_and]
      rw [hq] at q
      exact q H (fun _ _ _ h => h) tg

/-! ### find_behind -/
def spFind (K : PySem.W.Frag) (Z : Ad) (d : Nat) : Sp := fun vs H Q _ => ∃ (na ta aa : Addr) (nd : List Nd2) (a0 : Nat) (T : List Nat) (m : Nat → Option Nat) (tk ak : List (Key × V)), vs = [.ref na, .int a0, .ref ta, .ref aa] ∧ TG Z.Ps H ∧ NdL H na nd ∧ (∀ p ∈ nd, NdS p) ∧ nd.length ≤ 1000 ∧ a0 < nd.length ∧ ta ≠ aa ∧
  H ta = some (.dK tk) ∧ TrD tk T ∧ H aa = some (.dK ak) ∧ AhD ak m ∧ T.Nodup ∧ (∀ t ∈ T, t < nd.length) ∧ nd.length ≤ T.length + d ∧ Mt nd.length (Rn nd) m ∧ (∀ t, m t = some a0 → t ∈ T) ∧
  (∀ (H' : Hp) (T' : List Nat) (tk' : List (Key × V)), Sx (ta :: Z.Ps) H H' → TG Z.Ps H' → H' ta = some (.dK tk') → TrD tk' T' → T'.Nodup → (∀ t ∈ T', t < nd.length) → FbF nd.length (Rn nd) m a0 T T' → Q (.bl false) H') ∧
  (∀ (H' : Hp) (m' : Nat → Option Nat) (ak' : List (Key × V)), Sx (ta :: aa :: Z.Ps) H H' → TG Z.Ps H' → H' aa = some (.dK ak') → AhD ak' m' → FbT nd.length (Rn nd) m m' a0 T → Q (.bl true) H')
def spFindP (K : PySem.W.Frag) (Z : Ad) : Nat → Sp
  | 0 => fun _ _ _ _ => False
  | d + 1 => spFind K Z d
theorem ok_find1 (T : Tx K mg Z) (TB : Tb base mg Z) (d : Nat) (G_find_behind : FnOk P w K mg base CX0 (d + 4) Z.f_find_behind Z.d_find_behind ["needs", "at", "tried", "ahead"] (spFindP K Z d)) : FnOk P w K mg base CX0 (d + 5) Z.f_find_behind Z.d_find_behind ["needs", "at", "tried", "ahead"] (spFind K Z d) := by
  have G_is_ahead : FnOk P w K mg base CX0 4 Z.f_is_ahead Z.d_is_ahead ["first", "second"] (spAhead K Z) := ok_ahead T TB
  refine T.F_find_behind.ok sc_find_behind (fun vs H Q E h => ?_) (fun cdv A outer s H vs Q E hr h => ?_)
  · obtain ⟨na, ta, aa, nd, a0, T0, m, tk, ak, rfl, _⟩ := h
    rfl
  · obtain ⟨na, ta, aa, nd, a0, T0, m, tk, ak, rfl, tg, hnd, hns, hnl, ha0, hta, htk, trd, hak, ahD, ndT, hT, hd, M, hp, q0, q1⟩ := h
    refine ⟨_, (pss_cons (ps_for PassesOwn.never rfl (pi_range1 (by rfl) T.m_range (pa_cons (pe_callB (cLenSq K) (by rfl) T.m_len (by decide +kernel) (pa_cons (pv 0) pa_nil)) pa_nil)) (pg_name (i := 4) sc_find_behind.nd rfl (.inl rfl)) (pss_one (ps_if (PW.pt (pw_and (pt_cmp (pc_dnotin (hu_of hr) (pv 4) (pv 2))) (pw_and1 (pt_val (pe_call G_is_ahead (hr.mono (by omega)) (by rfl) T.g_is_ahead T.F_is_ahead.kp T.b_is_ahead .nil pass0 (pa_cons (pe_ix (ixL K) (pv 0) (pv 1) (fun _ _ => rfl)) (pa_cons (pe_ix (ixL K) (pv 0) (pv 4) (fun _ _ => rfl)) pa_nil))))))) (pss_cons (ps_dput (hu_of hr) (pv 2) (pv 4) pe_bl rfl)
      (pss_one (ps_if (PW.pt (pw_or (pt_cmp (pc_dnotin (hu_of hr) (pv 4) (pv 3))) (pw_or1 (pt_val (pe_call G_find_behind (hr.mono (by omega)) (by rfl) T.g_find_behind T.F_find_behind.kp T.b_find_behind .nil pass0 (pa_cons (pv 0) (pa_cons (pe_dget (hu_of hr) (pv 3) (pv 4) (fun _ _ => rfl)) (pa_cons (pv 2) (pa_cons (pv 3) pa_nil))))))))) (pss_cons (ps_dput (hu_of hr) (pv 3) (pv 4) (pv 1) rfl)
      (pss_one (ps_ret pe_bl))) pss_nil))) pss_nil)))
      (pss_one (ps_ret pe_bl))), ?_⟩
    obtain ⟨as, hna, nA⟩ := hnd
    have hal := nA.len
    have el : (as.map V.ref).length = nd.length := by rw [List.length_map, hal]
    have taPs : ta ∉ Z.Ps := tg.not htk fun q z => nomatch z
    have aaPs : aa ∉ Z.Ps := tg.not hak fun q z => nomatch z
    have offT : Off (ta :: Z.Ps) H := tg.off.cons htk
    have naT : na ∉ ta :: Z.Ps := offT na _ (.inr hna)
    refine ⟨.ref na, rfl, na, _, rfl, .inl (.inl (.inl hna)), _, rfl, by rw [el]; omega, by rw [el]; omega, for_range (fun i σ H' => ∃ (y : Option V) (T1 : List Nat) (tk1 : List (Key × V)), σ = [some (.ref na), some (.int a0), some (.ref ta), some (.ref aa), y] ∧ Sx (ta :: Z.Ps) H H' ∧ TG Z.Ps H' ∧ H' ta = some (.dK tk1) ∧ TrD tk1 T1 ∧ T1.Nodup ∧ (∀ t ∈ T1, t < nd.length) ∧ Fbi nd.length (Rn nd) m a0 T0 T1 i)
      ⟨none, T0, tk, rfl, Sx.rfl', tg, htk, trd, ndT, hT, Fbi.zero⟩ (fun i σ H1 hi hP => ?_) (fun σ H1 hP => ?_)⟩
    · obtain ⟨y, T1, tk1, rfl, sx1, tg1, htk1, trd1, nd1, hT1, fb⟩ := hP
      have hi2 : i < nd.length := by
        have : ((((as.map V.ref).length : Nat) : Int)).toNat = nd.length := by rw [el]; omega
        omega
      have e0 : (0 : Int) + (i : Nat) = ((i : Nat) : Int) := by omega
      have nA1 : NA H1 as nd := nA.mono fun b xs hb => sx1 b _ (offT b xs (.inl hb)) hb
      have hna1 := sx1 _ _ naT hna
      have hak1 : H1 aa = some (.dK ak) := sx1 _ _ (fun z => (List.mem_cons.mp z).elim (fun e => hta e.symm) aaPs) hak
      obtain ⟨p, hp1⟩ : ∃ p, nd[a0]? = some p := ⟨nd[a0], List.getElem?_eq_getElem ha0⟩
      obtain ⟨r, hr1⟩ : ∃ r, nd[i]? = some r := ⟨nd[i], List.getElem?_eq_getElem hi2⟩
      obtain ⟨pa, hpa, hpo⟩ := nA1.at hp1
      obtain ⟨ra, hra, hro⟩ := nA1.at hr1
      have np := hns p (List.mem_of_getElem? hp1)
      have nr := hns r (List.mem_of_getElem? hr1)
      have eR : Rn nd a0 i = ahd p r := Rn_at hp1 hr1
      have gtk : DGet H1 ta (.int (0 + (i : Nat))) (valV tk1 (nK i)) := by rw [e0]; exact DGet.k (k := nK i) htk1
      have hlT1 : T1.length ≤ nd.length := nodup_lt_len nd1 hT1
      refine ⟨_, rfl, _, rfl, ta, _, rfl, gtk, ?_⟩
      rw [trd1.has i]
      refine ⟨_, rfl, ite2 (fun e => ?_) (fun e => ?_)⟩
      · have hiT : i ∉ T1 := by simpa using e
        have hxi : (as.map V.ref)[i]? = some (.ref ra) := by rw [List.getElem?_map, hra]; rfl
        have hxa : (as.map V.ref)[a0]? = some (.ref pa) := by rw [List.getElem?_map, hpa]; rfl
        refine ⟨.ref na, rfl, .int a0, rfl, na, _, _, .ref pa, rfl, rfl, .inl (.inl hna1), atI_nat hxa, .ref na, rfl, _, rfl, na, _, _, .ref ra, rfl, rfl, .inl (.inl hna1), by rw [e0]; exact atI_nat hxi, p, r, pa, ra, rfl, tg1, hpo, hro, np, nr, fun H2 sx2 tg2 => ?_⟩
        rw [← eR]
        have htk2 := sx2 _ _ taPs htk1
        have hak2 := sx2 _ _ aaPs hak1
        have nA2 : NA H2 as nd := nA1.mono fun b xs hb => sx2 b _ (tg1.off b xs (.inl hb)) hb
        have hna2 := sx2 _ _ (tg1.off na _ (.inr hna1)) hna1
        have sx2' : Sx (ta :: Z.Ps) H H2 := sx1.trans (sx2.cons ta)
        refine ⟨_, rfl, ite2 (fun e2 => ?_) (fun e2 => ?_)⟩
        · have hl1 : tk1.length < sizeLine := small1000 (by have := trd1.len; omega)
          refine ⟨.ref ta, rfl, _, rfl, ta, _, rfl, (by rw [e0]; exact DPut.k (k := nK i) htk2 hl1), ?_⟩
          have trd3 := trd1.put i (.bl true)
          have htk3 : (upd H2 ta (.dK (putK tk1 (nK i) (.bl true)))) ta = some (.dK (putK tk1 (nK i) (.bl true))) := upd_same
          have hak3 : (upd H2 ta (.dK (putK tk1 (nK i) (.bl true)))) aa = some (.dK ak) := keep_ne hak2 fun z => hta z.symm
          have sx3 : Sx (ta :: Z.Ps) H (upd H2 ta (.dK (putK tk1 (nK i) (.bl true)))) := sx2'.updL
          have tg3 : TG Z.Ps (upd H2 ta (.dK (putK tk1 (nK i) (.bl true)))) := tg2.upd taPs
          have hna3 : (upd H2 ta (.dK (putK tk1 (nK i) (.bl true)))) na = some (.lst (as.map V.ref)) := keep_ne hna2 fun z => naT (by rw [z]; simp)
          have nA3 : NA (upd H2 ta (.dK (putK tk1 (nK i) (.bl true)))) as nd := nA2.mono fun b xs hb => keep_ne hb fun z => by
            rw [z, htk2] at hb
            cases hb
          generalize upd H2 ta (.dK (putK tk1 (nK i) (.bl true))) = H3 at htk3 hak3 sx3 tg3 hna3 nA3 ⊢
          have nd3 : (T1 ++ [i]).Nodup := by
            rw [List.nodup_append]
            refine ⟨nd1, by simp, fun a ha b hb z => hiT ?_⟩
            rw [← List.mem_singleton.mp hb, ← z]
            exact ha
          have hT3 : ∀ t ∈ T1 ++ [i], t < nd.length := fun t ht => by
            rcases List.mem_append.mp ht with z | z
            · exact hT1 t z
            · rw [List.mem_singleton.mp z]
              exact hi2
          have hl3 : (T1 ++ [i]).length ≤ nd.length := nodup_lt_len nd3 hT3
          have hiT0 : i ∉ T0 := fun z => hiT (fb.sub i z)
          have gak : DGet H3 aa (.int (0 + (i : Nat))) (valV ak (nK i)) := by rw [e0]; exact DGet.k (k := nK i) hak3
          have hakl : ak.length < sizeLine := small1000 (by have := ahD.len fun j a h => (M.edge j a h).1; omega)
          refine ⟨_, rfl, _, rfl, aa, _, rfl, gak, ?_⟩
          rw [ahD.get i]
          cases hmi : m i with
          | none =>
            refine ⟨_, rfl, iteT (iteT ?_)⟩
            refine ⟨.int a0, rfl, .ref aa, rfl, _, rfl, aa, _, rfl, (by rw [e0]; exact DPut.k (k := nK i) hak3 hakl), ?_⟩
            exact q1 _ _ _ ((sx3.more fun b hb => by
              rcases List.mem_cons.mp hb with z | z
              · rw [z]; simp
              · exact List.mem_cons_of_mem _ (List.mem_cons_of_mem _ z)).updM (by simp)) (tg3.upd aaPs) upd_same (ahD.put i a0) (FbT.base M hi2 ha0 e2 hiT0 hmi hp)
          | some b =>
            have hb := (M.edge i b hmi).2.1
            refine ⟨_, rfl, ite2 (fun z => absurd z (by simp)) (fun _ => ?_)⟩
            have gak2 : DGet H3 aa (.int (0 + (i : Nat))) (some (.int (b : Int))) := by
              rw [ahD.get i, hmi] at gak
              exact gak
            refine ⟨.ref na, rfl, .ref aa, rfl, _, rfl, aa, .int (b : Int), rfl, gak2, .ref ta, rfl, .ref aa, rfl, ?_⟩
            have hlen : nd.length ≤ (T1 ++ [i]).length + (d - 1) ∧ 0 < d := by
              have h1 : T0.length ≤ T1.length := nodup_sub_len ndT fun t ht => fb.sub t ht
              rw [List.length_append] at hl3 ⊢
              simp only [List.length_singleton] at hl3 ⊢
              refine ⟨by omega, by omega⟩
            match d, hlen with
            | d' + 1, hlen =>
              refine ⟨na, ta, aa, nd, b, T1 ++ [i], m, _, ak, rfl, tg3, ⟨as, hna3, nA3⟩, hns, hnl, hb, hta, htk3, trd3, hak3, ahD, nd3, hT3, hlen.1, M, fun t ht => ?_, fun H4 T4 tk4 sx4 tg4 htk4 trd4 nd4 hT4 fbF => ?_, fun H4 m4 ak4 sx4 tg4 hak4 ahD4 fbT => ?_⟩
              · rw [M.inj t i b ht hmi]
                simp
              · refine ⟨_, rfl, ite2 (fun z => absurd z (by simp)) (fun _ => ?_)⟩
                exact ⟨_, T4, tk4, rfl, sx3.trans sx4, tg4, htk4, trd4, nd4, hT4, fb.deep hmi fbF⟩
              · refine ⟨_, rfl, iteT ?_⟩
                have hakl4 : ak4.length < sizeLine := small1000 (by have := ahD4.len fun j a h => (fbT.edge j a h).1; omega)
                refine ⟨.int a0, rfl, .ref aa, rfl, _, rfl, aa, _, rfl, (by rw [e0]; exact DPut.k (k := nK i) hak4 hakl4), ?_⟩
                have sx3' : Sx (ta :: aa :: Z.Ps) H H3 := sx3.more fun b hb => by
                  rcases List.mem_cons.mp hb with z | z
                  · rw [z]; simp
                  · exact List.mem_cons_of_mem _ (List.mem_cons_of_mem _ z)
                exact q1 _ _ _ ((sx3'.trans sx4).updM (by simp)) (tg4.upd aaPs) upd_same (ahD4.put i a0) (FbT.step M hi2 ha0 e2 hiT0 hmi hp (fun t ht => List.mem_append_left _ (fb.sub t ht)) (by simp) fbT)
        · exact ⟨_, T1, tk1, rfl, sx2', tg2, htk2, trd1, nd1, hT1, fb.skip fun z => absurd z e2⟩
      · have hiT : i ∈ T1 := by simpa using e
        exact ⟨_, T1, tk1, rfl, sx1, tg1, htk1, trd1, nd1, hT1, fb.skip fun _ => hiT⟩
    · obtain ⟨y, T1, tk1, rfl, sx1, tg1, htk1, trd1, nd1, hT1, fb⟩ := hP
      rw [show ((((as.map V.ref).length : Nat) : Int)).toNat = nd.length by rw [el]; omega] at fb
      exact q0 H1 T1 tk1 sx1 tg1 htk1 trd1 nd1 hT1 fb.done
theorem ok_find (T : Tx K mg Z) (TB : Tb base mg Z) : ∀ d : Nat, FnOk P w K mg base CX0 (d + 5) Z.f_find_behind Z.d_find_behind ["needs", "at", "tried", "ahead"] (spFind K Z d)
  | 0 => ok_find1 T TB 0 ⟨fun _ _ _ _ h => h.elim, fun _ _ _ _ _ _ _ _ _ _ _ _ _ h => h.elim⟩
  | d + 1 => ok_find1 T TB (d + 1) (ok_find T TB d)
/-! ### fewest_chains -/
def spChains (K : PySem.W.Frag) (Z : Ad) : Sp := fun vs H Q _ => ∃ (na : Addr) (nd : List Nd2), vs = [.ref na] ∧ TG Z.Ps H ∧ NdL H na nd ∧ (∀ p ∈ nd, NdS p) ∧ nd.length ≤ 24 ∧
  ∀ (H' : Hp) (aa : Addr) (m : Nat → Option Nat) (ak : List (Key × V)), Sx Z.Ps H H' → TG Z.Ps H' → H aa = none → H' aa = some (.dK ak) → AhD ak m → Mx nd.length (Rn nd) nd.length m → Q (.ref aa) H'
theorem ok_chains (T : Tx K mg Z) (TB : Tb base mg Z) : FnOk P w K mg base CX0 30 Z.f_fewest_chains Z.d_fewest_chains ["needs"] (spChains K Z) := by
  have G_find_behind : FnOk P w K mg base CX0 29 Z.f_find_behind Z.d_find_behind ["needs", "at", "tried", "ahead"] (spFind K Z 24) := ok_find T TB 24
  refine T.F_fewest_chains.ok sc_fewest_chains (fun vs H Q E h => ?_) (fun cdv A outer s H vs Q E hr h => ?_)
  · obtain ⟨na, nd, rfl, _⟩ := h
    rfl
  · obtain ⟨na, nd, rfl, tg, hnd, hns, hnl, q⟩ := h
    refine ⟨_, (pss_cons (ps_set (i := 1) sc_fewest_chains.nd rfl (.inl rfl) pe_dnewK)
      (pss_cons (ps_for PassesOwn.never rfl (pi_range1 (by rfl) T.m_range (pa_cons (pe_callB (cLenSq K) (by rfl) T.m_len (by decide +kernel) (pa_cons (pv 0) pa_nil)) pa_nil)) (pg_name (i := 2) sc_fewest_chains.nd rfl (.inl rfl)) (pss_one (ps_expr (pe_call G_find_behind (hr.mono (by omega)) (by rfl) T.g_find_behind T.F_find_behind.kp T.b_find_behind .nil pass0 (pa_cons (pv 0) (pa_cons (pv 2) (pa_cons pe_dnewK (pa_cons (pv 1) pa_nil))))))))
      (pss_one (ps_ret (pv 1))))), ?_⟩
    refine fun aa naa => ?_
    have tg1 : TG Z.Ps (upd H aa (.dK [])) := tg.new naa
    have hnd1 : NdL (upd H aa (.dK [])) na nd := hnd.same (Same.new (Same.refl H) naa)
    obtain ⟨as, hna, nA⟩ := hnd1
    have hal := nA.len
    have el : (as.map V.ref).length = nd.length := by rw [List.length_map, hal]
    refine ⟨.ref na, rfl, na, _, rfl, .inl (.inl (.inl hna)), _, rfl, by rw [el]; omega, by rw [el]; omega, for_range (fun i σ H' => ∃ (y : Option V) (m : Nat → Option Nat) (ak : List (Key × V)), σ = [some (.ref na), some (.ref aa), y] ∧ Sx Z.Ps H H' ∧ TG Z.Ps H' ∧ H' aa = some (.dK ak) ∧ AhD ak m ∧ Mx nd.length (Rn nd) i m)
      ⟨none, _, [], rfl, Sx.new Sx.rfl' naa, tg1, upd_same, AhD.nil, Mx.nil⟩ (fun i σ H1 hi hP => ?_) (fun σ H1 hP => ?_)⟩
    · obtain ⟨y, m, ak, rfl, sx1, tg1, hak, ahD, M⟩ := hP
      have hi2 : i < nd.length := by
        have : ((((as.map V.ref).length : Nat) : Int)).toNat = nd.length := by rw [el]; omega
        omega
      have e0 : (0 : Int) + (i : Nat) = ((i : Nat) : Int) := by omega
      have aaPs : aa ∉ Z.Ps := tg1.not hak fun q z => nomatch z
      refine ⟨.ref na, rfl, _, rfl, fun ta nta => ?_⟩
      have nta2 : H ta = none := Sx.free tg1 sx1 nta
      have tg2 : TG Z.Ps (upd H1 ta (.dK [])) := tg1.new nta
      have sx2 : Sx Z.Ps H (upd H1 ta (.dK [])) := Sx.new sx1 nta
      have hak2 : (upd H1 ta (.dK [])) aa = some (.dK ak) := keep_new hak nta
      have hta : ta ≠ aa := (ne_of_none hak nta).symm
      have hnd2 : NdL (upd H1 ta (.dK [])) na nd := hnd.sx tg.off sx2
      rw [e0]
      refine ⟨.ref aa, rfl, na, ta, aa, nd, i, [], m, [], ak, rfl, tg2, hnd2, hns, by omega, hi2, hta, upd_same, TrD.nil, hak2, ahD, List.nodup_nil, (fun t ht => nomatch ht), by simp; omega, M.mt, fun t ht => ?_, fun H4 T4 tk4 sx4 tg4 htk4 trd4 nd4 hT4 fbF => ?_, fun H4 m4 ak4 sx4 tg4 hak4 ahD4 fbT => ?_⟩
      · exact absurd (M.low t i ht) (Nat.lt_irrefl i)
      · refine ⟨_, m, ak, rfl, fun b o nb h => ?_, tg4, sx4 _ _ (fun z => (List.mem_cons.mp z).elim (fun e => hta e.symm) aaPs) hak2, ahD, M.no fbF⟩
        exact sx4 b o (fun z => (List.mem_cons.mp z).elim (ne_of_none h nta2) nb) (sx2 b o nb h)
      · refine ⟨_, m4, ak4, rfl, fun b o nb h => ?_, tg4, hak4, ahD4, M.yes fbT⟩
        exact sx4 b o (fun z => (List.mem_cons.mp z).elim (ne_of_none h nta2) fun z => (List.mem_cons.mp z).elim (ne_of_none h naa) nb) (sx2 b o nb h)
    · obtain ⟨y, m, ak, rfl, sx1, tg1, hak, ahD, M⟩ := hP
      rw [show ((((as.map V.ref).length : Nat) : Int)).toNat = nd.length by rw [el]; omega] at M
      exact ⟨_, rfl, q H1 aa m ak sx1 tg1 naa hak ahD M⟩

/-! ### chain_to -/
def spChainTo (K : PySem.W.Frag) : Sp := fun vs H Q _ => ∃ (na aa : Addr) (nd : List Nd2) (last : Nat) (m : Nat → Option Nat) (ak : List (Key × V)), vs = [.ref na, .ref aa, .int last] ∧ NdL H na nd ∧ (∀ p ∈ nd, NdOk p) ∧ nd.length ≤ 100 ∧ H aa = some (.dK ak) ∧ AhD ak m ∧ Mt nd.length (Rn nd) m ∧ last < nd.length ∧
  ∀ (H' : Hp) (p : Addr) (ch : List Nd2), Same H H' → NdL H' p ch → ChT nd m last ch → ch.length ≤ 101 → Q (.ref p) H'
theorem ok_chainto (T : Tx K mg Z) : FnOk P w K mg base CX0 1 Z.f_chain_to Z.d_chain_to ["needs", "ahead", "last"] (spChainTo K) := by
  refine T.F_chain_to.ok sc_chain_to (fun vs H Q E h => ?_) (fun cdv A outer s H vs Q E hr h => ?_)
  · obtain ⟨na, aa, nd, last, m, ak, rfl, _⟩ := h
    rfl
  · obtain ⟨na, aa, nd, last, m, ak, rfl, hnd, hok, hnl, hak, ahD, M, hla, q⟩ := h
    refine ⟨_, (pss_cons (ps_set (i := 3) sc_chain_to.nd rfl (.inl rfl) (pe_lst (pa_cons (pe_ix (ixL K) (pv 0) (pv 2) (fun _ _ => rfl)) pa_nil)))
      (pss_cons (ps_while PassesOwn.never (pt_cmp (pc_din (hu_of hr) (pv 2) (pv 1))) (pss_cons (ps_set (i := 2) sc_chain_to.nd rfl (.inl rfl) (pe_dget (hu_of hr) (pv 1) (pv 2) (fun _ _ => rfl)))
      (pss_one (ps_expr (bmK K PySem.F.plainAttrs_list PySem.F.slot_list_append PySem.F.type_list_append mt_append (pv 3) (pa_cons (pe_ix (ixL K) (pv 0) (pv 2) (fun _ _ => rfl)) pa_nil))))))
      (pss_one (ps_ret (pe_revL (pv 3)))))), ?_⟩
    obtain ⟨as, hna, nA⟩ := hnd
    have tr := Rn_tr hok
    have ir := Rn_ir nd
    obtain ⟨p, hp⟩ : ∃ p, nd[last]? = some p := ⟨nd[last], List.getElem?_eq_getElem hla⟩
    obtain ⟨pa, hpa, hpo⟩ := nA.at hp
    have hxa : (as.map V.ref)[last]? = some (.ref pa) := by rw [List.getElem?_map, hpa]; rfl
    refine ⟨.ref na, rfl, .int last, rfl, na, _, _, .ref pa, rfl, rfl, .inl (.inl hna), atI_nat hxa, (by show 1 ≤ sizeLine; decide), fun C nC => ?_⟩
    have smC : Same H (upd H C (.lst [.ref pa])) := Same.new (Same.refl H) nC
    refine ⟨fun k σ H' => ∃ (l : Nat) (cs : List Addr) (ch : List Nd2), σ = [some (.ref na), some (.ref aa), some (.int l), some (.ref C)] ∧ Same H H' ∧ H' C = some (.lst (cs.map V.ref)) ∧ NA H' cs ch ∧ ChI nd m last l ch ∧ k = ((List.range nd.length).filter fun x => Rn nd x l).length ∧ ch.length + k ≤ nd.length + 1,
      ⟨_, last, [pa], [p], rfl, smC, upd_same, .cons (smC _ _ hpo) .nil, ChI.start hp, rfl, ?_⟩, fun k σ H1 hP => ?_⟩
    · have := List.length_filter_le (fun x => Rn nd x last) (List.range nd.length)
      rw [List.length_range] at this
      simp only [List.length_singleton]
      omega
    · obtain ⟨l, cs, ch, rfl, sm, hC, nC1, chI, rfl, hcl⟩ := hP
      have gak : DGet H1 aa (.int (l : Nat)) (valV ak (nK l)) := DGet.k (k := nK l) (sm _ _ hak)
      refine ⟨.int l, rfl, .ref aa, rfl, aa, _, rfl, gak, ?_⟩
      rw [ahD.get l] at gak ⊢
      cases hml : m l with
      | none =>
        refine ⟨_, rfl, ite2 (fun z => absurd z (by simp)) (fun _ => ?_)⟩
        refine ⟨.ref C, rfl, C, _, rfl, .inl (.inl hC), fun R nR => ?_⟩
        rw [← List.map_reverse]
        refine q _ R ch.reverse (Same.new sm nR) ⟨cs.reverse, upd_same, (nC1.mono fun b xs hb => keep_new hb nR).rev⟩ (chI.done hml) ?_
        rw [List.length_reverse]
        omega
      | some b =>
        rw [hml] at gak
        obtain ⟨hl1, hb, hr1⟩ := M.edge l b hml
        obtain ⟨r, hr2⟩ : ∃ r, nd[b]? = some r := ⟨nd[b], List.getElem?_eq_getElem hb⟩
        obtain ⟨ra, hra, hro⟩ := nA.at hr2
        have hxb : (as.map V.ref)[b]? = some (.ref ra) := by rw [List.getElem?_map, hra]; rfl
        have hcl2 := nC1.len
        have hlt := below_lt hb hr1 tr ir
        refine ⟨_, rfl, iteT ⟨_, fun _ _ z => z, ?_⟩⟩
        refine ⟨.ref aa, rfl, .int l, rfl, aa, .int (b : Int), rfl, gak, ?_⟩
        refine ⟨.ref C, rfl, .inl ⟨rfl, _, .inl (.inl hC)⟩, .ref na, rfl, .int b, rfl, na, _, _, .ref ra, rfl, rfl, .inl (.inl (sm _ _ hna)), atI_nat hxb, C, _, _, rfl, rfl, hC, ?_, ?_⟩
        · rw [List.length_map]
          exact small1000 (by omega)
        · refine ⟨_, hlt, b, cs ++ [ra], ch ++ [r], rfl, Same.mut sm nC, ?_, ?_, chI.next hok M hml hr2, rfl, ?_⟩
          · rw [upd_same, List.map_append]
            rfl
          · refine NA.snoc (nC1.mono fun b xs hb => keep_ne hb fun z => ?_) (keep_ne (sm _ _ hro) fun z => ?_)
            · rw [z, hC] at hb
              cases hb
            · rw [← z, sm _ _ hro] at hC
              cases hC
          · rw [List.length_append, List.length_singleton]
            omega
/-! ### list_for -/
def spListFor (K : PySem.W.Frag) : Sp := fun vs H Q _ => ∃ (ca : Addr) (ch : List Nd2), vs = [.ref ca] ∧ NdL H ca ch ∧ (∀ p ∈ ch, NdS p) ∧ (∀ (H' : Hp), Same H H' → Q (tx (lstM ch)) H')
theorem lstM_bd {ch : List Nd2} : ∀ (k : Nat), (∀ p ∈ ch, NdS p) → (lstM (ch.take k)).Nodup ∧ (∀ c ∈ lstM (ch.take k), c ≤ 122) := by
  intro k h
  induction k with
  | zero =>
    rw [List.take_zero]
    exact ⟨List.nodup_nil, fun c hc => nomatch hc⟩
  | succ k ih =>
    by_cases hk : k < ch.length
    · rw [List.take_succ_eq_append_getElem hk, lstM_snoc]
      have := addL_sub ih.1 ih.2 (h ch[k] (List.getElem_mem hk)).az
      exact ⟨this.1, this.2.1⟩
    · have e : ch.take (k + 1) = ch.take k := by
        rw [List.take_of_length_le (by omega), List.take_of_length_le (by omega)]
      rw [e]
      exact ih
theorem ok_listfor (T : Tx K mg Z) : FnOk P w K mg base CX0 1 Z.f_list_for Z.d_list_for ["chain"] (spListFor K) := by
  refine T.F_list_for.ok sc_list_for (fun vs H Q E h => ?_) (fun cdv A outer s H vs Q E hr h => ?_)
  · obtain ⟨ca, ch, rfl, _⟩ := h
    rfl
  · obtain ⟨ca, ch, rfl, hnd, hns, q⟩ := h
    refine ⟨_, (pss_cons (ps_set (i := 1) sc_list_for.nd rfl (.inl rfl) pe_str)
      (pss_cons (ps_for PassesOwn.never rfl (piL K (pv 0)) (pgT K (n := 2) (pgs_cons (pg_name (i := 2) sc_list_for.nd rfl (.inl rfl)) (pgs_cons (pg_name (i := 3) sc_list_for.nd rfl (.inl rfl)) pgs_nil))) (pss_one (ps_for PassesOwn.never rfl (pi_str (pe_op op_add_str (pv 2) (pv 3))) (pg_name (i := 4) sc_list_for.nd rfl (.inl rfl)) (pss_one (ps_if (pt_cmpR op_notIn_sign (pv 4) (pv 1) (by rfl)) (pss_one (ps_aug (i := 1) sc_list_for.nd rfl (.inl rfl) (pv 4) ip_addS)) pss_nil)))))
      (pss_one (ps_ret (pv 1))))), ?_⟩
    obtain ⟨as, hca, nA⟩ := hnd
    have hal := nA.len
    have e0 : Str.ofString "" = txS [] := by decide +kernel
    have sz : ∀ l : List Nat, (⟨l.toArray⟩ : Str).length = l.length := fun l => by simp [Str.length]
    refine ⟨.ref ca, rfl, ca, rfl, ⟨_, .inl (.inl hca)⟩, for_list (xs := as.map V.ref) (fun i σ H' => ∃ (y2 y3 y4 : Option V), σ = [some (.ref ca), some (tx (lstM (ch.take i))), y2, y3, y4] ∧ H' = H)
      ⟨none, none, none, (by rw [List.take_zero, e0]; rfl), rfl⟩ (fun i σ H' _ hP => by
        obtain ⟨_, _, _, _, rfl⟩ := hP
        exact .inl (.inl hca)) (fun i x σ H1 hx hP => ?_) (fun σ H1 hP => ?_)⟩
    · obtain ⟨y2, y3, y4, rfl, rfl⟩ := hP
      rw [List.getElem?_map] at hx
      obtain ⟨a, ha, rfl⟩ := Option.map_eq_some_iff.mp hx
      have hi : i < ch.length := by
        have := (List.getElem?_eq_some_iff.mp ha).1
        omega
      obtain ⟨p, hp⟩ : ∃ p, ch[i]? = some p := ⟨ch[i], List.getElem?_eq_getElem hi⟩
      have ep : ch[i] = p := (List.getElem?_eq_some_iff.mp hp).2
      obtain ⟨a', ha', hao⟩ := nA.at hp
      rw [ha] at ha'
      cases ha'
      have np := hns p (List.mem_of_getElem? hp)
      have l1 := np.l1
      have l2 := np.l2
      obtain ⟨b1, b2⟩ := lstM_bd i hns
      have nx : lstM (ch.take (i + 1)) = addL (lstM (ch.take i)) (p.1 ++ p.2) := by rw [List.take_succ_eq_append_getElem hi, lstM_snoc, ep]
      have az := np.az
      refine ⟨a, [tx p.1, tx p.2], rfl, .inl (.inl hao), rfl, tx p.1, [tx p.2], rfl, tx p.2, [], rfl, rfl, ?_⟩
      refine ⟨tx p.1, rfl, tx p.2, rfl, ⟨p.1.toArray⟩, ⟨p.2.toArray⟩, rfl, rfl, by rw [sz, sz]; exact Nat.le_of_lt (small1000 (by omega)), ?_⟩
      rw [cat_tx p.1 p.2]
      generalize p.1 ++ p.2 = l at nx az ⊢
      generalize lstM (ch.take i) = one at nx b1 b2 ⊢
      have hcs : (⟨l.toArray⟩ : Str).cps.size = l.length := by simp
      refine ⟨_, rfl, for_it walk_str (fun j σ H' => ∃ (y4 : Option V), σ = [some (.ref ca), some (tx (addL one (l.take j))), some (tx p.1), some (tx p.2), y4] ∧ H' = H1)
        ⟨_, rfl, rfl⟩ (fun _ _ _ _ _ => trivial) (fun j x σ H2 H3 hj hP hY => ?_) (fun σ H2 hP => ?_)⟩
      · obtain ⟨y4, rfl, rfl⟩ := hP
        obtain ⟨rfl, c, hc, rfl⟩ := hY
        have hc2 : l[j]? = some c := by simpa using hc
        have hj2 : j < l.length := (List.getElem?_eq_some_iff.mp hc2).1
        have ec : l[j] = c := (List.getElem?_eq_some_iff.mp hc2).2
        have nx2 : addL one (l.take (j + 1)) = if c ∈ addL one (l.take j) then addL one (l.take j) else addL one (l.take j) ++ [c] := by rw [List.take_succ_eq_append_getElem hj2, ec, addL_snoc]
        obtain ⟨g1, g2, g3⟩ := addL_sub (ls := l.take j) b1 b2 fun c hc => az c (List.mem_of_mem_take hc)
        refine ⟨sg c, rfl, tx _, rfl, c, ⟨(addL one (l.take j)).toArray⟩, rfl, rfl, _, rfl, ?_⟩
        rw [show (⟨(addL one (l.take j)).toArray⟩ : Str).cps.toList = addL one (l.take j) by simp]
        refine ite2 (fun e => ?_) (fun e => ?_)
        · have e2 : c ∉ addL one (l.take j) := by simpa using e
          rw [if_neg e2] at nx2
          refine ⟨_, rfl, sg c, rfl, ⟨(addL one (l.take j)).toArray⟩, sS c, rfl, rfl, ?_, ?_⟩
          · rw [sz]
            exact Nat.le_of_lt (small1000 (show (addL one (l.take j)).length + 1 ≤ 1000 by omega))
          · refine ⟨some (sg c), ?_, rfl⟩
            rw [nx2, ← cat_tx (addL one (l.take j)) [c]]
            rfl
        · have e2 : c ∈ addL one (l.take j) := by simpa using e
          rw [if_pos e2] at nx2
          exact ⟨_, by rw [nx2]; rfl, rfl⟩
      · obtain ⟨y4, rfl, rfl⟩ := hP
        rw [hcs, List.take_of_length_le (Nat.le_refl _)]
        exact ⟨_, _, _, by rw [nx], rfl⟩
    · obtain ⟨y2, y3, y4, rfl, rfl⟩ := hP
      rw [List.length_map, hal, List.take_of_length_le (Nat.le_refl _)]
      exact ⟨_, rfl, q _ (Same.refl _)⟩

/-! ### apart_of -/
def spApart (K : PySem.W.Frag) (Z : Ad) : Sp := fun vs H Q _ => ∃ (na aa la : Addr) (nd : List Nd2) (m : Nat → Option Nat) (ak : List (Key × V)) (lasts : List Nat), vs = [.ref na, .ref aa, .ref la] ∧ TG Z.Ps H ∧ NdL H na nd ∧ (∀ p ∈ nd, NdS p) ∧ nd.length ≤ 100 ∧
  H aa = some (.dK ak) ∧ AhD ak m ∧ Mx nd.length (Rn nd) nd.length m ∧ H la = some (.lst (lasts.map nV)) ∧ Lst nd.length m lasts ∧
  ∀ (H' : Hp) (p : Addr) (L B : List Nat), Sx Z.Ps H H' → TG Z.Ps H' → H' p = some (.lst ((apM nd.length L B).map nV)) → Kg nd.length (Rn nd) m lasts [] L B → Q (.ref p) H'
set_option maxHeartbeats 4000000 in
theorem ok_apart (T : Tx K mg Z) (TB : Tb base mg Z) : FnOk P w K mg base CX0 5 Z.f_apart_of Z.d_apart_of ["needs", "ahead", "lasts"] (spApart K Z) := by
  have G_is_ahead : FnOk P w K mg base CX0 4 Z.f_is_ahead Z.d_is_ahead ["first", "second"] (spAhead K Z) := ok_ahead T TB
  refine T.F_apart_of.ok sc_apart_of (fun vs H Q E h => ?_) (fun cdv A outer s H vs Q E hr h => ?_)
  · obtain ⟨na, aa, la, nd, m, ak, lasts, rfl, _⟩ := h
    rfl
  · obtain ⟨na, aa, la, nd, m, ak, lasts, rfl, tg, hnd, hns, hnl, hak, ahD, M, hla, hL, q⟩ := h
    refine ⟨_, (pss_cons (ps_set (i := 3) sc_apart_of.nd rfl (.inl rfl) (pe_callTy (cListSq K) (by rfl) T.m_list (by decide +kernel) (pa_cons (pv 2) pa_nil)))
      (pss_cons (ps_set (i := 4) sc_apart_of.nd rfl (.inr rfl) pe_dnewK)
      (pss_cons (ps_set (i := 5) sc_apart_of.nd rfl (.inr rfl) pe_dnewK)
      (pss_cons (ps_while PassesOwn.never (pt_truth (pv 3) (by intro _; rfl)) (pss_cons (ps_set (i := 6) sc_apart_of.nd rfl (.inl rfl) (pe_bm0 PySem.F.plainAttrs_list PySem.F.slot_list_pop PySem.F.type_list_pop mt_pop (pv 3)))
      (pss_cons (ps_dput (hu_of hr) (pv 4) (pv 6) pe_bl rfl)
      (pss_one (ps_for PassesOwn.never rfl (pi_range1 (by rfl) T.m_range (pa_cons (pe_callB (cLenSq K) (by rfl) T.m_len (by decide +kernel) (pa_cons (pv 0) pa_nil)) pa_nil)) (pg_name (i := 7) sc_apart_of.nd rfl (.inl rfl)) (pss_one (ps_if (PW.pt (pw_and (pt_cmp (pc_dnotin (hu_of hr) (pv 7) (pv 5))) (pw_and1 (pt_val (pe_call G_is_ahead (hr.mono (by omega)) (by rfl) T.g_is_ahead T.F_is_ahead.kp T.b_is_ahead .nil pass0 (pa_cons (pe_ix (ixL K) (pv 0) (pv 6) (fun _ _ => rfl)) (pa_cons (pe_ix (ixL K) (pv 0) (pv 7) (fun _ _ => rfl)) pa_nil))))))) (pss_cons (ps_dput (hu_of hr) (pv 5) (pv 7) pe_bl rfl)
      (pss_one (ps_expr (bmK K PySem.F.plainAttrs_list PySem.F.slot_list_append PySem.F.type_list_append mt_append (pv 3) (pa_cons (pe_dget (hu_of hr) (pv 1) (pv 7) (fun _ _ => rfl)) pa_nil))))) pss_nil)))))))
      (pss_one (ps_ret (pe_lc (own := [("at", 6)]) (tt := _) (by rfl) sc_apart_of.nd (pi_range1 (by rfl) T.m_range (pa_cons (pe_callB (cLenSq K) (by rfl) T.m_len (by decide +kernel) (pa_cons (pv 0) pa_nil)) pa_nil)) (blkOk_by (own := [("at", 6)]) (by kernel_rfl)) (fun _ _ _ _ _ => (pg_name (i := 6) sc_apart_of.nd rfl (.inl rfl))) (fun _ _ _ _ _ => (pts_one (PW.pt (pw_and (pt_cmp (pc_din (hu_of hr) (pv 6) (pv 4))) (pw_and1 (pt_cmp (pc_dnotin (hu_of hr) (pv 6) (pv 5)))))))) (fun _ _ _ _ _ => (pv 6))))))))), ?_⟩
    have hlal : lasts.length ≤ nd.length := nodup_lt_len hL.nd fun a ha => ((hL.mem a).mp ha).1
    have aaPs : aa ∉ Z.Ps := tg.not hak fun q z => nomatch z
    refine ⟨.ref la, rfl, la, _, rfl, .inl (.inl (.inl hla)), fun wa nwa => ?_⟩
    have sx1 : Sx Z.Ps H (upd H wa (.lst (lasts.map nV))) := Sx.new Sx.rfl' nwa
    have tg1 : TG Z.Ps (upd H wa (.lst (lasts.map nV))) := tg.new nwa
    have hw1 : (upd H wa (.lst (lasts.map nV))) wa = some (.lst (lasts.map nV)) := upd_same
    generalize upd H wa (.lst (lasts.map nV)) = H1 at sx1 tg1 hw1 ⊢
    refine fun lo nlo => ?_
    have nlo0 : H lo = none := Sx.free tg1 sx1 nlo
    have sx2 : Sx Z.Ps H (upd H1 lo (.dK [])) := Sx.new sx1 nlo
    have tg2 : TG Z.Ps (upd H1 lo (.dK [])) := tg1.new nlo
    have hw2 : (upd H1 lo (.dK [])) wa = some (.lst (lasts.map nV)) := keep_new hw1 nlo
    have hl2 : (upd H1 lo (.dK [])) lo = some (.dK []) := upd_same
    generalize upd H1 lo (.dK []) = H2 at sx2 tg2 hw2 hl2 ⊢
    refine fun be nbe => ?_
    have nbe0 : H be = none := Sx.free tg2 sx2 nbe
    have sx3 : Sx Z.Ps H (upd H2 be (.dK [])) := Sx.new sx2 nbe
    have tg3 : TG Z.Ps (upd H2 be (.dK [])) := tg2.new nbe
    have hw3 : (upd H2 be (.dK [])) wa = some (.lst (lasts.map nV)) := keep_new hw2 nbe
    have hl3 : (upd H2 be (.dK [])) lo = some (.dK []) := keep_new hl2 nbe
    have hb3 : (upd H2 be (.dK [])) be = some (.dK []) := upd_same
    have lobe : lo ≠ be := ne_of_none hl2 nbe
    have walo : wa ≠ lo := fun z => by
      rw [z, hl3] at hw3
      cases hw3
    have wabe : wa ≠ be := fun z => by
      rw [z, hb3] at hw3
      cases hw3
    generalize upd H2 be (.dK []) = H3 at sx3 tg3 hw3 hl3 hb3 ⊢
    have loPs : lo ∉ Z.Ps := tg3.not hl3 fun q z => nomatch z
    have bePs : be ∉ Z.Ps := tg3.not hb3 fun q z => nomatch z
    have waPs : wa ∉ Z.Ps := tg3.not hw3 fun q z => nomatch z
    refine ⟨fun k σ H' => ∃ (y6 y7 : Option V) (W L B : List Nat) (kl kb : List (Key × V)), σ = [some (.ref na), some (.ref aa), some (.ref la), some (.ref wa), some (.ref lo), some (.ref be), y6, y7] ∧ Sx Z.Ps H H' ∧ TG Z.Ps H' ∧ H' wa = some (.lst (W.map nV)) ∧ H' lo = some (.dK kl) ∧ TrD kl L ∧ H' be = some (.dK kb) ∧ TrD kb B ∧
        Kg nd.length (Rn nd) m lasts W L B ∧ k = W.length + (nd.length - B.length) ∧ L.length + k ≤ 200,
      ⟨_, none, none, lasts, [], [], [], [], rfl, sx3, tg3, hw3, hl3, TrD.nil, hb3, TrD.nil, Kg.start M hL, rfl, by simp; omega⟩, fun k σ H4 hP => ?_⟩
    obtain ⟨y6, y7, W, L, B, kl, kb, rfl, sx4, tg4, hw4, hl4, trl, hb4, trb, kg, rfl, hlen⟩ := hP
    have hBl : B.length ≤ nd.length := nodup_lt_len kg.nd fun b hb => (kg.bn b hb).1
    refine ⟨.ref wa, rfl, _, .inl ⟨_, .inl (.inl hw4), rfl⟩, ite2 (fun e => ?_) (fun e => ?_)⟩
    · have hne : W ≠ [] := fun z => by
        rw [z] at e
        exact absurd e (by simp)
      obtain ⟨W', l, rfl⟩ : ∃ W' l, W = W' ++ [l] := ⟨W.dropLast, W.getLast hne, (List.dropLast_concat_getLast hne).symm⟩
      refine ⟨_, fun _ _ z => z, ?_⟩
      refine ⟨.ref wa, rfl, .inl ⟨rfl, _, .inl (.inl hw4)⟩, wa, _, nV l, rfl, rfl, hw4, by simp, ?_⟩
      rw [show ((W' ++ [l]).map nV).dropLast = W'.map nV by simp]
      have sx5 : Sx Z.Ps H (upd H4 wa (.lst (W'.map nV))) := Sx.mut sx4 nwa
      have tg5 : TG Z.Ps (upd H4 wa (.lst (W'.map nV))) := tg4.upd waPs
      have hw5 : (upd H4 wa (.lst (W'.map nV))) wa = some (.lst (W'.map nV)) := upd_same
      have hl5 : (upd H4 wa (.lst (W'.map nV))) lo = some (.dK kl) := keep_ne hl4 fun z => walo z.symm
      have hb5 : (upd H4 wa (.lst (W'.map nV))) be = some (.dK kb) := keep_ne hb4 fun z => wabe z.symm
      generalize upd H4 wa (.lst (W'.map nV)) = H5 at sx5 tg5 hw5 hl5 hb5 ⊢
      have hlk : kl.length < sizeLine := small1000 (by have := trl.len; rw [List.length_append] at hlen; omega)
      refine ⟨.ref lo, rfl, nV l, rfl, lo, _, rfl, DPut.k (k := nK l) hl5 hlk, ?_⟩
      have trl6 := trl.put l (.bl true)
      have sx6 : Sx Z.Ps H (upd H5 lo (.dK (putK kl (nK l) (.bl true)))) := Sx.mut sx5 nlo0
      have tg6 : TG Z.Ps (upd H5 lo (.dK (putK kl (nK l) (.bl true)))) := tg5.upd loPs
      have hw6 : (upd H5 lo (.dK (putK kl (nK l) (.bl true)))) wa = some (.lst (W'.map nV)) := keep_ne hw5 walo
      have hl6 : (upd H5 lo (.dK (putK kl (nK l) (.bl true)))) lo = some (.dK (putK kl (nK l) (.bl true))) := upd_same
      have hb6 : (upd H5 lo (.dK (putK kl (nK l) (.bl true)))) be = some (.dK kb) := keep_ne hb5 lobe.symm
      generalize upd H5 lo (.dK (putK kl (nK l) (.bl true))) = H6 at sx6 tg6 hw6 hl6 hb6 ⊢
      generalize putK kl (nK l) (.bl true) = kl6 at trl6 hl6
      have kgt0 : Kgt nd.length (Rn nd) m lasts W' (L ++ [l]) B l 0 := kg.pop rfl fun x => by
        rw [List.mem_append, List.mem_singleton]
        exact Or.comm
      obtain ⟨as, hna, nA⟩ := hnd.sx tg.off sx6
      have hal := nA.len
      have el : (as.map V.ref).length = nd.length := by rw [List.length_map, hal]
      refine ⟨.ref na, rfl, na, _, rfl, .inl (.inl (.inl hna)), _, rfl, by rw [el]; omega, by rw [el]; omega, for_range (fun i σ H' => ∃ (y7 : Option V) (W1 B1 : List Nat) (kb1 : List (Key × V)), σ = [some (.ref na), some (.ref aa), some (.ref la), some (.ref wa), some (.ref lo), some (.ref be), some (nV l), y7] ∧ Sx Z.Ps H H' ∧ TG Z.Ps H' ∧ H' wa = some (.lst (W1.map nV)) ∧ H' lo = some (.dK kl6) ∧ H' be = some (.dK kb1) ∧ TrD kb1 B1 ∧
          Kgt nd.length (Rn nd) m lasts W1 (L ++ [l]) B1 l i ∧ W1.length + B.length = W'.length + B1.length)
        ⟨_, W', B, kb, rfl, sx6, tg6, hw6, hl6, hb6, trb, kgt0, rfl⟩ (fun i σ H7 hi hP => ?_) (fun σ H7 hP => ?_)⟩
      · obtain ⟨y7, W1, B1, kb1, rfl, sx7, tg7, hw7, hl7, hb7, trb7, kgt, hWB⟩ := hP
        have hi2 : i < nd.length := by
          have : ((((as.map V.ref).length : Nat) : Int)).toNat = nd.length := by rw [el]; omega
          omega
        have e0 : (0 : Int) + (i : Nat) = ((i : Nat) : Int) := by omega
        rw [e0]
        obtain ⟨as7, hna7, nA7⟩ := hnd.sx tg.off sx7
        have hak7 := sx7 _ _ aaPs hak
        have hln : l < nd.length := (kgt.wl l (.inr kgt.me)).1
        obtain ⟨p, hp1⟩ : ∃ p, nd[l]? = some p := ⟨nd[l], List.getElem?_eq_getElem hln⟩
        obtain ⟨r, hr1⟩ : ∃ r, nd[i]? = some r := ⟨nd[i], List.getElem?_eq_getElem hi2⟩
        obtain ⟨pa, hpa, hpo⟩ := nA7.at hp1
        obtain ⟨ra, hra, hro⟩ := nA7.at hr1
        have np := hns p (List.mem_of_getElem? hp1)
        have nr := hns r (List.mem_of_getElem? hr1)
        have eR : Rn nd l i = ahd p r := Rn_at hp1 hr1
        have hxp : (as7.map V.ref)[l]? = some (.ref pa) := by rw [List.getElem?_map, hpa]; rfl
        have hxr : (as7.map V.ref)[i]? = some (.ref ra) := by rw [List.getElem?_map, hra]; rfl
        have hB1 : B1.length ≤ nd.length := nodup_lt_len kgt.nd fun b hb => (kgt.bn b hb).1
        refine ⟨nV i, rfl, .ref be, rfl, be, _, rfl, DGet.k (k := nK i) hb7, ?_⟩
        rw [trb7.has i]
        refine ⟨_, rfl, ite2 (fun e2 => ?_) (fun e2 => ?_)⟩
        · have hiB : i ∉ B1 := by simpa using e2
          refine ⟨.ref na, rfl, nV l, rfl, na, _, _, .ref pa, rfl, rfl, .inl (.inl hna7), atI_nat hxp, .ref na, rfl, nV i, rfl, na, _, _, .ref ra, rfl, rfl, .inl (.inl hna7), atI_nat hxr, p, r, pa, ra, rfl, tg7, hpo, hro, np, nr, fun H8 sx8 tg8 => ?_⟩
          rw [← eR]
          have sx8' : Sx Z.Ps H H8 := sx7.trans sx8
          have hw8 := sx8 _ _ waPs hw7
          have hl8 := sx8 _ _ loPs hl7
          have hb8 := sx8 _ _ bePs hb7
          refine ⟨_, rfl, ite2 (fun e3 => ?_) (fun e3 => ?_)⟩
          · obtain ⟨a, hma, hfa⟩ := FlM.met (kgt.wl l (.inr kgt.me)).2.1 hi2 e3
            have hkb : kb1.length < sizeLine := small1000 (by have := trb7.len; omega)
            refine ⟨.ref be, rfl, nV i, rfl, be, _, rfl, DPut.k (k := nK i) hb8 hkb, ?_⟩
            have trb9 := trb7.put i (.bl true)
            have sx9 : Sx Z.Ps H (upd H8 be (.dK (putK kb1 (nK i) (.bl true)))) := Sx.mut sx8' nbe0
            have tg9 : TG Z.Ps (upd H8 be (.dK (putK kb1 (nK i) (.bl true)))) := tg8.upd bePs
            have hw9 : (upd H8 be (.dK (putK kb1 (nK i) (.bl true)))) wa = some (.lst (W1.map nV)) := keep_ne hw8 wabe
            have hl9 : (upd H8 be (.dK (putK kb1 (nK i) (.bl true)))) lo = some (.dK kl6) := keep_ne hl8 lobe
            have hb9 : (upd H8 be (.dK (putK kb1 (nK i) (.bl true)))) be = some (.dK (putK kb1 (nK i) (.bl true))) := upd_same
            generalize upd H8 be (.dK (putK kb1 (nK i) (.bl true))) = H9 at sx9 tg9 hw9 hl9 hb9 ⊢
            have hak9 := sx9 _ _ aaPs hak
            have gak : DGet H9 aa (nV i) (some (nV a)) := by
              have h1 : DGet H9 aa (nV i) (valV ak (nK i)) := DGet.k (k := nK i) hak9
              rw [ahD.get i, hma] at h1
              exact h1
            refine ⟨.ref wa, rfl, .inl ⟨rfl, _, .inl (.inl hw9)⟩, .ref aa, rfl, nV i, rfl, aa, nV a, rfl, gak, wa, _, _, rfl, rfl, hw9, ?_, ?_⟩
            · rw [List.length_map]
              rw [List.length_append] at hlen
              exact small1000 (by omega)
            · refine ⟨_, W1 ++ [a], B1 ++ [i], _, rfl, Sx.mut sx9 nwa, tg9.upd waPs, ?_, keep_ne hl9 fun z => walo z.symm, keep_ne hb9 fun z => wabe z.symm, trb9, Kgt.more M.mt kgt hi2 hiB e3 hma hfa, ?_⟩
              · rw [upd_same, List.map_append]
                rfl
              · rw [List.length_append, List.length_append]
                simp only [List.length_singleton]
                omega
          · exact ⟨_, W1, B1, kb1, rfl, sx8', tg8, hw8, hl8, hb8, trb7, kgt.skip fun z => absurd z e3, hWB⟩
        · have hiB : i ∈ B1 := by simpa using e2
          exact ⟨_, W1, B1, kb1, rfl, sx7, tg7, hw7, hl7, hb7, trb7, kgt.skip fun _ => hiB, hWB⟩
      · obtain ⟨y7, W1, B1, kb1, rfl, sx7, tg7, hw7, hl7, hb7, trb7, kgt, hWB⟩ := hP
        rw [show ((((as.map V.ref).length : Nat) : Int)).toNat = nd.length by rw [el]; omega] at kgt
        have hB1 : B1.length ≤ nd.length := nodup_lt_len kgt.nd fun b hb => (kgt.bn b hb).1
        refine ⟨_, ?_, _, _, W1, L ++ [l], B1, kl6, kb1, rfl, sx7, tg7, hw7, hl7, trl6, hb7, trb7, kgt.done, rfl, ?_⟩
        · rw [List.length_append, List.length_singleton]
          omega
        · rw [List.length_append, List.length_singleton]
          rw [List.length_append, List.length_singleton] at hlen
          omega
    · have hW : W = [] := by
        cases W with
        | nil => rfl
        | cons a W => exact absurd rfl e
      subst hW
      obtain ⟨as, hna, nA⟩ := hnd.sx tg.off sx4
      have hal := nA.len
      have el : (as.map V.ref).length = nd.length := by rw [List.length_map, hal]
      refine ⟨.ref na, rfl, na, _, rfl, .inl (.inl (.inl hna)), _, rfl, by rw [el]; omega, by rw [el]; omega, fun D nD => lc_range (fun i H' => Same H4 H' ∧ H' D = some (.lst ((apM i L B).map nV)))
        ⟨Same.new (Same.refl H4) nD, upd_same⟩ (fun i H7 hi hP => ?_) (fun H7 hP => ?_)⟩
      · obtain ⟨sm7, hD7⟩ := hP
        have hi2 : i < nd.length := by
          have : ((((as.map V.ref).length : Nat) : Int)).toNat = nd.length := by rw [el]; omega
          omega
        have e0 : (0 : Int) + (i : Nat) = ((i : Nat) : Int) := by omega
        rw [e0]
        have nx : apM (i + 1) L B = apM i L B ++ (if (decide (i ∈ L) && !decide (i ∈ B)) = true then [i] else []) := by
          unfold apM
          rw [List.range_succ, List.filter_append, List.filter_cons, List.filter_nil]
        refine ⟨rfl, nV i, rfl, .ref lo, rfl, lo, _, rfl, DGet.k (k := nK i) (sm7 _ _ hl4), ?_⟩
        rw [trl.has i]
        refine ⟨_, rfl, ite2 (fun e2 => ?_) (fun e2 => ?_)⟩
        · refine ⟨nV i, rfl, .ref be, rfl, be, _, rfl, DGet.k (k := nK i) (sm7 _ _ hb4), ?_⟩
          rw [trb.has i]
          refine ⟨_, rfl, ite2 (fun e3 => ?_) (fun e3 => ?_)⟩
          · rw [if_pos (by rw [e2, e3]; rfl)] at nx
            refine ⟨nV i, rfl, _, hD7, ?_, Same.mut sm7 nD, ?_⟩
            · rw [List.length_map]
              have := List.length_filter_le (fun a => decide (a ∈ L) && !decide (a ∈ B)) (List.range i)
              rw [List.length_range] at this
              exact small1000 (show (apM i L B).length ≤ 1000 by unfold apM; omega)
            · rw [upd_same, nx, List.map_append]
              rfl
          · rw [if_neg (by rw [e2, eq_false_of_ne_true e3]; simp), List.append_nil] at nx
            exact ⟨sm7, by rw [nx]; exact hD7⟩
        · rw [if_neg (by rw [eq_false_of_ne_true e2]; simp), List.append_nil] at nx
          exact ⟨sm7, by rw [nx]; exact hD7⟩
      · obtain ⟨sm7, hD7⟩ := hP
        rw [show ((((as.map V.ref).length : Nat) : Int)).toNat = nd.length by rw [el]; omega] at hD7
        exact q H7 D L B (sx4.trans (Same.sx sm7)) (tg4.same sm7) hD7 kg

/-! ### fewest -/
def spFewest (K : PySem.W.Frag) (Z : Ad) : Sp := fun vs H Q _ => ∃ (cv : V) (na : Addr) (nd : List Nd2), vs = [cv, .ref na] ∧ TG Z.Ps H ∧ NdL H na nd ∧ (∀ p ∈ nd, NdS p) ∧ (∀ p ∈ nd, NdOk p) ∧ nd.length ≤ 24 ∧
  ∀ (H' : Hp) (p la ta : Addr) (ls : List (List Nat)) (ap : List Nat), Sx Z.Ps H H' → TG Z.Ps H' → H p = none → H la = none → H ta = none → H' p = some (.tup [.ref la, .ref ta]) → H' la = some (.lst (ls.map tx)) → H' ta = some (.tup (ap.map nV)) → FewOk nd ls ap → Q (.ref p) H'
set_option maxHeartbeats 4000000 in
theorem ok_fewest (T : Tx K mg Z) (TB : Tb base mg Z) : FnOk P w K mg base CX0 31 Z.f_fewest Z.d_fewest ["columns", "needs"] (spFewest K Z) := by
  have G_fewest_chains : FnOk P w K mg base CX0 30 Z.f_fewest_chains Z.d_fewest_chains ["needs"] (spChains K Z) := ok_chains T TB
  have G_chain_to : FnOk P w K mg base CX0 1 Z.f_chain_to Z.d_chain_to ["needs", "ahead", "last"] (spChainTo K) := ok_chainto T
  have G_list_for : FnOk P w K mg base CX0 1 Z.f_list_for Z.d_list_for ["chain"] (spListFor K) := ok_listfor T
  have G_apart_of : FnOk P w K mg base CX0 5 Z.f_apart_of Z.d_apart_of ["needs", "ahead", "lasts"] (spApart K Z) := ok_apart T TB
  refine T.C_fewest.ok sc_fewest (fun vs H Q E h => ?_) (fun A outer s H vs Q E hr h => ?_)
  · obtain ⟨cv, na, nd, rfl, _⟩ := h
    rfl
  · obtain ⟨cv, na, nd, rfl, tg, hnd, hns, hok, hnl, q⟩ := h
    refine ⟨_, (pss_cons (ps_set (i := 8) sc_fewest.nd rfl (.inr rfl) (pe_lc (own := [("at", 9), ("need", 10)]) (tt := _) (by rfl) sc_fewest.nd (pi_enum (by rfl) T.m_enumerate (pa_cons (pv 1) pa_nil)) (blkOk_by (own := [("at", 9), ("need", 10)]) (by kernel_rfl)) (fun _ _ _ _ _ => (pgT K (n := 2) (pgs_cons (pg_name (i := 9) sc_fewest.nd rfl (.inl rfl)) (pgs_cons (pg_name (i := 10) sc_fewest.nd rfl (.inl rfl)) pgs_nil)))) (fun _ _ _ _ _ => (pts_one (pt_cmpR op_eq (bmK K PySem.F.plainAttrs_list PySem.F.slot_list_index PySem.F.type_list_index (mtIndexD K (units65 hr)) (pv 1) (pa_cons (pv 10) pa_nil)) (pv 9) (nomark _)))) (fun _ _ _ _ _ => (pv 9))))
      (pss_cons (ps_set (i := 2) sc_fewest.nd rfl (.inr rfl) (pe_lc (own := [("at", 9)]) (tt := tYes) (by rfl) sc_fewest.nd (piL K (pv 8)) (blkOk_by (own := [("at", 9)]) (by kernel_rfl)) (fun _ _ _ _ _ => (pg_name (i := 9) sc_fewest.nd rfl (.inl rfl))) (fun _ _ _ _ _ => pts_nil) (fun _ _ _ _ _ => (pe_ix (ixL K) (pv 1) (pv 9) (fun _ _ => rfl)))))
      (pss_cons (ps_set (i := 3) sc_fewest.nd rfl (.inr rfl) (pe_call G_fewest_chains (hr.mono (by omega)) (by rfl) T.g_fewest_chains T.F_fewest_chains.kp T.b_fewest_chains .nil pass0 (pa_cons (pv 2) pa_nil)))
      (pss_cons (ps_set (i := 4) sc_fewest.nd rfl (.inr rfl) (pe_listVals (by rfl) (pv 3) (by rfl) T.m_list))
      (pss_cons (ps_setLc (i := 5) (own := [("at", 9)]) (tt := _) (by rfl) sc_fewest.nd rfl rfl (sw_true rfl rfl rfl (by decide +kernel)) (pi_range1 (by rfl) T.m_range (pa_cons (pe_callB (cLenSq K) (by rfl) T.m_len (by decide +kernel) (pa_cons (pv 2) pa_nil)) pa_nil)) (blkOk_by (own := [("at", 9)]) (by kernel_rfl)) (fun _ _ _ _ _ => (pg_name (i := 9) sc_fewest.nd rfl (.inl rfl))) (fun _ _ _ _ _ => (pts_one (pt_cmpR (notInSq K) (pv 9) (pv 4) (by rfl)))) (fun _ _ _ _ _ => (pv 9)))
      (pss_cons (ps_setLc (i := 6) (own := [("last", 11)]) (tt := tYes) (by rfl) sc_fewest.nd rfl rfl (sw_true rfl rfl rfl (by decide +kernel)) (piL K (pv 5)) (blkOk_by (own := [("last", 11)]) (by kernel_rfl)) (fun _ _ _ _ _ => (pg_name (i := 11) sc_fewest.nd rfl (.inl rfl))) (fun _ _ _ _ _ => pts_nil) (fun _ _ _ _ _ => (pe_call G_list_for (hr.mono (by omega)) (by rfl) T.g_list_for T.F_list_for.kp T.b_list_for .nil pass0 (pa_cons (pe_call G_chain_to (hr.mono (by omega)) (by rfl) T.g_chain_to T.F_chain_to.kp T.b_chain_to .nil pass0 (pa_cons (pv 2) (pa_cons (pv 3) (pa_cons (pv 11) pa_nil)))) pa_nil))))
      (pss_cons (ps_set (i := 7) sc_fewest.nd rfl (.inl rfl) (pe_tupG (D := (DItm Z.P_fewest 8)) hr (by rfl) T.m_tuple (TB.t_fewest) rfl (genS_by (sc := defScope s_fewest) (by kernel_rfl) rfl) (pe_call G_apart_of (hr.mono (by omega)) (by rfl) T.g_apart_of T.F_apart_of.kp T.b_apart_of .nil pass0 (pa_cons (pv 2) (pa_cons (pv 3) (pa_cons (pv 5) pa_nil)))) (hd_itm rfl rfl rfl rfl rfl (by decide))))
      (pss_one (ps_ret (pe_tup (pa_cons (pv 6) (pa_cons (pv 7) pa_nil)))))))))))), ?_⟩
    have hP : Z.P_fewest ∈ Z.Ps := by simp
    obtain ⟨as, hna, nA⟩ := hnd
    have hal := nA.len
    -- places
    refine ⟨.ref na, rfl, na, _, rfl, .inl (.inl hna), fun D nD => lc_it (walk_enum (xs := as.map V.ref)) (fun i H' => Same H H' ∧ H' D = some (.lst (((List.range i).filter (isFst nd)).map nV)))
      ⟨Same.new (Same.refl H) nD, upd_same⟩ (fun i H' _ hP => .inl (.inl (hP.1 _ _ hna))) (fun i x H1 H2 hi hP hY => ?_) (fun H1 hP => ?_)⟩
    · obtain ⟨sm1, hD1⟩ := hP
      obtain ⟨t, x1, x2, rfl, nt, rfl, e1, e2⟩ := hY
      cases e1
      have e2' : (as.map V.ref)[i]? = some x2 := e2
      rw [List.getElem?_map] at e2'
      obtain ⟨a, ha, rfl⟩ := Option.map_eq_some_iff.mp e2'
      have hi2 : i < nd.length := by
        rw [List.length_map] at hi
        omega
      have hp1 := ndG_at hi2
      generalize ndG nd i = p at hp1
      obtain ⟨a', ha', hao⟩ := nA.at hp1
      rw [ha] at ha'
      cases ha'
      have hpn := List.mem_of_getElem? hp1
      have sm2 : Same H (upd H1 t (.tup [.int (i : Nat), .ref a])) := Same.new sm1 nt
      have hD2 : (upd H1 t (.tup [.int (i : Nat), .ref a])) D = some (.lst (((List.range i).filter (isFst nd)).map nV)) := keep_new hD1 nt
      have ht2 : (upd H1 t (.tup [.int (i : Nat), .ref a])) t = some (.tup [.int (i : Nat), .ref a]) := upd_same
      generalize upd H1 t (.tup [.int (i : Nat), .ref a]) = H2 at sm2 hD2 ht2 ⊢
      have nA2 : NA H2 as nd := nA.mono fun b xs hb => sm2 _ _ hb
      have nx : (List.range (i + 1)).filter (isFst nd) = (List.range i).filter (isFst nd) ++ (if isFst nd i = true then [i] else []) := by
        rw [List.range_succ, List.filter_append, List.filter_cons, List.filter_nil]
      rw [isFst_at hp1] at nx
      refine ⟨t, _, rfl, .inl (.inl ht2), rfl, .int (i : Nat), [.ref a], rfl, .ref a, [], rfl, rfl, rfl, ?_⟩
      refine ⟨.ref na, rfl, .inl ⟨rfl, _, .inl (.inl (sm2 _ _ hna))⟩, .ref a, rfl, na, .ref a, ndD p, nd.map ndD, ixN p nd, ndD p, rfl, rfl, .lst (.inl (.inl (sm2 _ _ hna))) nA2.dp, .tup (.inl (.inl (sm2 _ _ hao))) (.cons (.str _) (.cons (.str _) .nil)), shaped_nds hns, shaped_nd (hns p hpn), ?_, ?_, fun k z hk hz => ?_, .int (i : Nat), rfl, rfl, _, rfl, ?_⟩
      · rw [List.getElem?_map, ixN_at hpn]
        rfl
      · rw [eqv_nd]
        simp
      · rw [List.getElem?_map] at hz
        obtain ⟨r, hr, rfl⟩ := Option.map_eq_some_iff.mp hz
        rw [eqv_nd]
        exact decide_eq_false (ixN_lt hk hr)
      · refine ite2 (fun e => ?_) (fun e => ?_)
        · have e3 : V.int (ixN p nd : Nat) = V.int (i : Nat) := of_decide_eq_true e
          have e4 : ((ixN p nd : Nat) : Int) = (i : Nat) := by injection e3
          have e5 : ixN p nd = i := by omega
          rw [if_pos (decide_eq_true e5)] at nx
          refine ⟨.int (i : Nat), rfl, _, hD2, ?_, Same.mut sm2 nD, ?_⟩
          · rw [List.length_map]
            have := List.length_filter_le (isFst nd) (List.range i)
            rw [List.length_range] at this
            exact small1000 (by omega)
          · rw [upd_same, nx, List.map_append]
            rfl
        · have e5 : ¬ ixN p nd = i := fun z => e (decide_eq_true (by rw [z]))
          rw [decide_eq_false e5, if_neg (by simp), List.append_nil] at nx
          exact ⟨sm2, by rw [nx]; exact hD2⟩
    · obtain ⟨sm1, hD1⟩ := hP
      rw [List.length_map, hal, show (List.range nd.length).filter (isFst nd) = plM nd from rfl] at hD1
      have hpl := pl_len nd
      have hul := un_len nd
      have nA1 : NA H1 as nd := nA.mono fun b xs hb => sm1 _ _ hb
      have hna1 := sm1 _ _ hna
      have tg1 := tg.same sm1
      -- unlike
      refine ⟨.ref D, rfl, D, rfl, ⟨_, .inl (.inl hD1)⟩, fun U nU => lc_list (xs := (plM nd).map nV) (fun i H' => Same H1 H' ∧ ∃ us, H' U = some (.lst (us.map V.ref)) ∧ NA H' us (((plM nd).take i).map (ndG nd)))
        ⟨Same.new (Same.refl H1) nU, [], upd_same, .nil⟩ (fun i H' _ hP => .inl (.inl (hP.1 _ _ hD1))) (fun i x H2 hx hP => ?_) (fun H2 hP => ?_)⟩
      · obtain ⟨sm2, us, hU2, nU2⟩ := hP
        rw [List.getElem?_map] at hx
        obtain ⟨j, hj, rfl⟩ := Option.map_eq_some_iff.mp hx
        obtain ⟨hi2, ej⟩ := List.getElem?_eq_some_iff.mp hj
        have hjn := (pl_mem (List.mem_of_getElem? hj)).1
        obtain ⟨a, ha, hao⟩ := nA1.at (ndG_at hjn)
        have hxa : (as.map V.ref)[j]? = some (.ref a) := by rw [List.getElem?_map, ha]; rfl
        have hul2 := nU2.len
        rw [List.length_map, List.length_take] at hul2
        refine ⟨rfl, .ref na, rfl, nV j, rfl, na, _, _, .ref a, rfl, rfl, .inl (.inl (sm2 _ _ hna1)), atI_nat hxa, _, hU2, ?_, Same.mut sm2 nU, us ++ [a], ?_, ?_⟩
        · rw [List.length_map]
          exact small1000 (by omega)
        · rw [upd_same, List.map_append]
          rfl
        · rw [List.take_succ_eq_append_getElem hi2, ej, List.map_append]
          refine NA.snoc (nU2.mono fun b xs hb => keep_ne hb fun z => ?_) (keep_ne (sm2 _ _ hao) fun z => ?_)
          · rw [z, hU2] at hb
            cases hb
          · rw [← z, sm2 _ _ hao] at hU2
            cases hU2
      · obtain ⟨sm2, us, hU2, nU2⟩ := hP
        rw [List.length_map, List.take_of_length_le (Nat.le_refl _), show (plM nd).map (ndG nd) = unM nd from rfl] at nU2
        have hunl : NdL H2 U (unM nd) := ⟨us, hU2, nU2⟩
        have hD2 := sm2 _ _ hD1
        have tg2 := tg1.same sm2
        have sx2 : Sx Z.Ps H H2 := Same.sx (Same.trans sm1 sm2)
        have husS : ∀ p ∈ unM nd, NdS p := fun p hp => hns p (un_sub hp)
        have husO : ∀ p ∈ unM nd, NdOk p := fun p hp => hok p (un_sub hp)
        have hun24 : (unM nd).length ≤ 24 := by omega
        refine ⟨.ref U, rfl, U, unM nd, rfl, tg2, hunl, husS, hun24, fun H3 aa m ak sx3 tg3 naa hak ahD M => ?_⟩
        have hunl3 := hunl.sx tg2.off sx3
        have hD3 := sx3 _ _ (tg2.off D _ (.inr hD2)) hD2
        have sx3' : Sx Z.Ps H H3 := sx2.trans sx3
        -- followed
        refine ⟨.ref aa, rfl, aa, ak, rfl, hak, fun F nF => ?_⟩
        have sm4 : Same H3 (upd H3 F (.lst (ak.map (·.2)))) := Same.new (Same.refl H3) nF
        have hF4 : (upd H3 F (.lst (ak.map (·.2)))) F = some (.lst (ak.map (·.2))) := upd_same
        generalize upd H3 F (.lst (ak.map (·.2))) = H4 at sm4 hF4 ⊢
        obtain ⟨us4, hU4, nU4⟩ := hunl3.same sm4
        have hul4 := nU4.len
        have el : (us4.map V.ref).length = (unM nd).length := by rw [List.length_map, hul4]
        have hfl : (ak.map (·.2)).all flatV = true := by
          rw [List.all_eq_true]
          intro v hv
          obtain ⟨x, hx, rfl⟩ := List.mem_map.mp hv
          obtain ⟨j, a, e, _⟩ := ahD.key x hx
          rw [e]
          rfl
        -- lasts
        refine ⟨.ref U, rfl, U, _, rfl, .inl (.inl (.inl hU4)), _, rfl, by rw [el]; omega, by rw [el]; omega, fun LA nLA => lc_range (fun i H' => Same H4 H' ∧ H' LA = some (.lst (((List.range i).filter fun a => !inV (nV a) (ak.map (·.2))).map nV)))
          ⟨Same.new (Same.refl H4) nLA, upd_same⟩ (fun i H5 hi hP => ?_) (fun H5 hP => ?_)⟩
        · obtain ⟨sm5, hL5⟩ := hP
          have hi2 : i < (unM nd).length := by
            have : ((((us4.map V.ref).length : Nat) : Int)).toNat = (unM nd).length := by rw [el]; omega
            omega
          have e0 : (0 : Int) + (i : Nat) = ((i : Nat) : Int) := by omega
          rw [e0]
          have nx : (List.range (i + 1)).filter (fun a => !inV (nV a) (ak.map (·.2))) = (List.range i).filter (fun a => !inV (nV a) (ak.map (·.2))) ++ (if (!inV (nV i) (ak.map (·.2))) = true then [i] else []) := by
            rw [List.range_succ, List.filter_append, List.filter_cons, List.filter_nil]
          refine ⟨rfl, nV i, rfl, .ref F, rfl, F, _, rfl, .inl (.inl (.inl (sm5 _ _ hF4))), rfl, hfl, _, rfl, ?_⟩
          show (if (!inV (nV i) (ak.map (·.2))) = true then _ else _)
          refine ite2 (fun e => ?_) (fun e => ?_)
          · rw [if_pos e] at nx
            refine ⟨nV i, rfl, _, hL5, ?_, Same.mut sm5 nLA, ?_⟩
            · rw [List.length_map]
              have := List.length_filter_le (fun a => !inV (nV a) (ak.map (·.2))) (List.range i)
              rw [List.length_range] at this
              exact small1000 (by omega)
            · rw [upd_same, nx, List.map_append]
              rfl
          · rw [if_neg e, List.append_nil] at nx
            exact ⟨sm5, by rw [nx]; exact hL5⟩
        · obtain ⟨sm5, hL5⟩ := hP
          rw [show ((((us4.map V.ref).length : Nat) : Int)).toNat = (unM nd).length by rw [el]; omega] at hL5
          have hLst : Lst (unM nd).length m ((List.range (unM nd).length).filter fun a => !inV (nV a) (ak.map (·.2))) := by
            refine ⟨fun a => ?_, List.Pairwise.filter _ List.nodup_range⟩
            rw [List.mem_filter, List.mem_range, Bool.not_eq_true', ← Bool.not_eq_true, ahD.vals a]
            exact ⟨fun h => ⟨h.1, fun t e => h.2 ⟨t, e⟩⟩, fun h => ⟨h.1, fun ⟨t, e⟩ => h.2 t e⟩⟩
          generalize (List.range (unM nd).length).filter (fun a => !inV (nV a) (ak.map (·.2))) = lasts at hL5 hLst
          have hlal : lasts.length ≤ (unM nd).length := nodup_lt_len hLst.nd fun a ha => ((hLst.mem a).mp ha).1
          have sm5' : Same H3 H5 := Same.trans sm4 sm5
          have hunl5 := hunl3.same sm5'
          have hak5 := sm5' _ _ hak
          -- lists
          refine ⟨.ref LA, rfl, LA, rfl, ⟨_, .inl (.inl hL5)⟩, fun LS nLS => lc_list (xs := lasts.map nV) (fun i H' => Same H5 H' ∧ ∃ chs : List (List Nd2), chs.length = i ∧ H' LS = some (.lst ((chs.map lstM).map tx)) ∧ ∀ (j last : Nat) (ch : List Nd2), lasts[j]? = some last → chs[j]? = some ch → ChT (unM nd) m last ch)
            ⟨Same.new (Same.refl H5) nLS, [], rfl, upd_same, (fun j last ch _ e => nomatch e)⟩ (fun i H' _ hP => .inl (.inl (hP.1 _ _ hL5))) (fun i x H6 hx hP => ?_) (fun H6 hP => ?_)⟩
          · obtain ⟨sm6, chs, hcl, hLS, hch⟩ := hP
            rw [List.getElem?_map] at hx
            obtain ⟨last, hla, rfl⟩ := Option.map_eq_some_iff.mp hx
            have hi2 := (List.getElem?_eq_some_iff.mp hla).1
            have hln := ((hLst.mem last).mp (List.mem_of_getElem? hla)).1
            refine ⟨rfl, .ref U, rfl, .ref aa, rfl, nV last, rfl, U, aa, unM nd, last, m, ak, rfl, hunl5.same sm6, husO, by omega, sm6 _ _ hak5, ahD, M.mt, hln, fun H7 p ch sm7 hnc cht hcl7 => ?_⟩
            refine ⟨p, ch, rfl, hnc, fun p hp => husS p (cht.mem p hp), fun H8 sm8 => ?_⟩
            refine ⟨_, sm8 _ _ (sm7 _ _ hLS), ?_, Same.mut (Same.trans sm6 (Same.trans sm7 sm8)) nLS, chs ++ [ch], ?_, ?_, fun j last' ch' hj hc => ?_⟩
            · rw [List.length_map, List.length_map]
              exact small1000 (by omega)
            · rw [List.length_append, hcl]
              rfl
            · rw [upd_same, List.map_append, List.map_append]
              rfl
            · by_cases z : j = chs.length
              · rw [z, List.getElem?_append_right (Nat.le_refl _), Nat.sub_self] at hc
                cases hc
                rw [z, hcl, hla] at hj
                cases hj
                exact cht
              · have hj2 : j < chs.length := by
                  have := (List.getElem?_eq_some_iff.mp hc).1
                  rw [List.length_append, List.length_singleton] at this
                  omega
                rw [List.getElem?_append_left hj2] at hc
                exact hch j last' ch' hj hc
          · obtain ⟨sm6, chs, hcl, hLS, hch⟩ := hP
            rw [List.length_map] at hcl
            have sm6' : Same H3 H6 := Same.trans sm5' sm6
            have tg6 := tg3.same sm6'
            have nLS0 : H LS = none := Sx.free (tg3.same sm5') (sx3'.trans (Same.sx sm5')) nLS
            -- apart
            refine ⟨.ref U, rfl, .ref aa, rfl, .ref LA, rfl, U, aa, LA, unM nd, m, ak, lasts, rfl, tg6, hunl3.same sm6', husS, by omega, sm6' _ _ hak, ahD, M, sm6 _ _ hL5, hLst, fun H7 AP L B sx7 tg7 hAP kg => ?_⟩
            have hLS7 := sx7 _ _ (tg6.off LS _ (.inr hLS)) hLS
            have hD6 := sm6' _ _ hD3
            have hD7 := sx7 _ _ (tg6.off D _ (.inr hD6)) hD6
            have sx7' : Sx Z.Ps H H7 := (sx3'.trans (Same.sx sm6')).trans sx7
            have hapl : ∀ a ∈ apM (unM nd).length L B, a < (plM nd).length := fun a ha => by
              have := (apM_mem.mp ha).1
              omega
            have haplen : (apM (unM nd).length L B).length ≤ 1000 := by
              have := List.length_filter_le (fun a => decide (a ∈ L) && !decide (a ∈ B)) (List.range (unM nd).length)
              rw [List.length_range] at this
              unfold apM
              omega
            refine ⟨((apM (unM nd).length L B).map fun a => (plM nd).getD a 0).map nV, ⟨tg7 _ hP, AP, D, (apM (unM nd).length L B).map (fun (a : Nat) => ((a : Nat) : Int)), (plM nd).map (fun (a : Nat) => ((a : Nat) : Int)), rfl, ?_, ?_, rfl, ?_, fun n hn => ?_, ?_⟩, tg7 _ hP, fun H8 hT p np => ?_⟩
            · rw [List.length_map]
              exact Nat.le_of_lt (small1000 haplen)
            · rw [← nV_int]
              exact hAP
            · rw [← nV_int]
              exact hD7
            · obtain ⟨a, ha, rfl⟩ := List.mem_map.mp hn
              have := hapl a ha
              rw [List.length_map]
              omega
            · rw [List.map_map, List.map_map]
              refine List.map_congr_left fun a ha => ?_
              have := hapl a ha
              show V.int (((plM nd).getD a 0 : Nat) : Int) = V.int (((plM nd).map (fun (a : Nat) => ((a : Nat) : Int))).getD ((a : Nat) : Int).toNat 0)
              rw [List.getD_eq_getElem?_getD, List.getD_eq_getElem?_getD, List.getElem?_map, show ((a : Nat) : Int).toNat = a from rfl, List.getElem?_eq_getElem this]
              rfl
            · have tg8 := Tabbed.tg tg7 hT
              have sx8 : Sx Z.Ps H H8 := sx7'.trans (Tabbed.sx hP hT)
              have hLS8 := (Tabbed.sx hP hT) _ _ (tg7.off LS _ (.inr hLS7)) hLS7
              have np0 : H p = none := Sx.free tg8 sx8 np
              have sx9 := Sx.new (o := .tup (((apM (unM nd).length L B).map fun a => (plM nd).getD a 0).map nV)) sx8 np
              have tg9 := tg8.new (o := .tup (((apM (unM nd).length L B).map fun a => (plM nd).getD a 0).map nV)) np
              refine ⟨.ref LS, rfl, .ref p, rfl, (by show 2 ≤ sizeLine; decide), fun R nR => ?_⟩
              have nR0 : H R = none := Sx.free tg9 sx9 nR
              refine q _ R LS p (chs.map lstM) ((apM (unM nd).length L B).map fun a => (plM nd).getD a 0) (Sx.new sx9 nR) (tg9.new nR) nR0 nLS0 np0 upd_same (keep_new (keep_new hLS8 np) nR) (keep_new upd_same nR) ?_
              exact few_ok hok M hLst hcl hch kg

/-! ### _law_needs -/
theorem NA.kp {b bl : Addr} {H H' : Hp} {as : List Addr} {nd : List Nd2} (h : NA H as nd) (B : Bag b bl H) (k : Kp b H H') : NA H' as nd := h.mono fun a xs ha => k a _ (fun z => by
  obtain ⟨_, _, _, _, h1, _⟩ := B
  rw [z, h1] at ha
  cases ha) ha
theorem NOk.next {cols es rc la : List Nat} (h : NOk cols es rc) (hp : la.Perm (es ++ rc)) (hs : la.Pairwise (· ≤ ·)) : la.Pairwise (· < ·) ∧ (∀ c ∈ la, c ∈ cols) ∧ la ≠ [] := by
  have nd : (es ++ rc).Nodup := by
    rw [List.nodup_append]
    refine ⟨h.up.imp fun {a b} z => by omega, ?_, fun a ha b hb z => (h.rsub b hb).2 (z ▸ ha)⟩
    match rc, h.one with
    | [], _ => exact List.nodup_nil
    | [x], _ => simp
    | x :: y :: l, h => exact absurd h (by simp)
  refine ⟨strict_of hs (hp.nodup_iff.mpr nd), fun c hc => ?_, fun z => ?_⟩
  · rcases List.mem_append.mp (hp.mem_iff.mp hc) with q | q
    · exact h.sub c q
    · exact (h.rsub c q).1
  · rw [z] at hp
    have := List.append_eq_nil_iff.mp hp.symm.eq_nil
    rcases h.some with q | q
    · exact q this.1
    · exact q this.2
def spNeeds (K : PySem.W.Frag) : Sp := fun vs H Q _ => ∃ (b bl : Addr) (cols : List Nat) (m : Nat), vs = [.ref b, tx cols, .int m] ∧ Bag b bl H ∧ Cols cols ∧ 1 ≤ cols.length ∧ cols.length ≤ 26 ∧ 1 ≤ m ∧ m ≤ 24 ∧
  ∀ (nd : List Nd2) (na : Addr) (H' : Hp), Kp b H H' → Bag b bl H' → H na = none → NdL H' na nd → 1 ≤ nd.length → nd.length ≤ m → (∀ p ∈ nd, NOk cols p.1 p.2) → Q (.ref na) H'
set_option maxHeartbeats 4000000 in
theorem ok_needs (T : Tx K mg Z) : FnOk P w K mg base CX0 3 Z.f_l_needs Z.d_l_needs ["bag", "columns", "most"] (spNeeds K) := by
  have G_l_lot : FnOk P w K mg base CX0 1 Z.f_l_lot Z.d_l_lot ["bag", "many"] (spLot K) := ok_lot T
  have G_l_need : FnOk P w K mg base CX0 2 Z.f_l_need Z.d_l_need ["bag", "columns"] (spNeed K) := ok_need T
  refine T.F_l_needs.ok sc_l_needs (fun vs H Q E h => ?_) (fun cdv A outer s H vs Q E hr h => ?_)
  · obtain ⟨b, bl, cols, m, rfl, _⟩ := h
    rfl
  · obtain ⟨b, bl, cols, m, rfl, hB, hc, hc1, hc2, hm1, hm2, q⟩ := h
    refine ⟨_, (pss_cons (ps_set (i := 3) sc_l_needs.nd rfl (.inl rfl) (pe_lst (pa_cons (pe_call G_l_need (hr.mono (by omega)) (by rfl) T.g_l_need T.F_l_need.kp T.b_l_need .nil pass0 (pa_cons (pv 0) (pa_cons (pv 1) pa_nil))) pa_nil)))
      (pss_cons (ps_for PassesOwn.never rfl (pi_range1 (by rfl) T.m_range (pa_cons (pe_call G_l_lot (hr.mono (by omega)) (by rfl) T.g_l_lot T.F_l_lot.kp T.b_l_lot .nil pass0 (pa_cons (pv 0) (pa_cons (pv 2) pa_nil))) pa_nil)) (pg_name (i := 4) sc_l_needs.nd rfl (.inl rfl)) (pss_cons (ps_set (i := 5) sc_l_needs.nd rfl (.inl rfl) (pe_call G_l_lot (hr.mono (by omega)) (by rfl) T.g_l_lot T.F_l_lot.kp T.b_l_lot .nil pass0 (pa_cons (pv 0) (pa_cons pe_int pa_nil))))
      (pss_cons (ps_set (i := 6) sc_l_needs.nd rfl (.inr rfl) (pe_join pe_str (pe_callB cSortTx (by rfl) T.m_sorted (by decide +kernel) (pa_cons (pe_op op_add_str (pe_ix (ixT K) (pe_ix (ixL K) (pv 3) (pe_un un_neg pe_int) (fun _ _ => rfl)) pe_int (fun _ _ => rfl)) (pe_ix (ixT K) (pe_ix (ixL K) (pv 3) (pe_un un_neg pe_int) (fun _ _ => rfl)) pe_int (fun _ _ => rfl))) pa_nil))))
      (pss_cons (ps_setLc (i := 7) (own := [("letter", 8)]) (tt := _) (by rfl) sc_l_needs.nd rfl rfl (sw_true rfl rfl rfl (by decide +kernel)) (pi_str (pv 1)) (blkOk_by (own := [("letter", 8)]) (by kernel_rfl)) (fun _ _ _ _ _ => (pg_name (i := 8) sc_l_needs.nd rfl (.inl rfl))) (fun _ _ _ _ _ => (pts_one (pt_cmpR op_notIn_sign (pv 8) (pv 6) (by rfl)))) (fun _ _ _ _ _ => (pv 8)))
      (pss_one (ps_if (PW.pt (pw_and (pt_cmpR op_eq (pv 5) pe_int (nomark _)) (pw_and1 (pt_cmpR (neDK K hr.units) (pv 7) (pe_lst pa_nil) (nomark _))))) (pss_one (ps_expr (bmK K PySem.F.plainAttrs_list PySem.F.slot_list_append PySem.F.type_list_append mt_append (pv 3) (pa_cons (pe_tup (pa_cons (pv 6) (pa_cons (pe_ix (ixL K) (pv 7) (pe_call G_l_lot (hr.mono (by omega)) (by rfl) T.g_l_lot T.F_l_lot.kp T.b_l_lot .nil pass0 (pa_cons (pv 0) (pa_cons (pe_callB (cLenSq K) (by rfl) T.m_len (by decide +kernel) (pa_cons (pv 7) pa_nil)) pa_nil))) (fun _ _ => rfl)) pa_nil))) pa_nil)))) (pss_one (ps_if (pt_cmpR op_eq (pv 5) pe_int (nomark _)) (pss_one (ps_expr (bmK K PySem.F.plainAttrs_list PySem.F.slot_list_append PySem.F.type_list_append mt_append (pv 3) (pa_cons (pe_ix (ixL K) (pe_lst (pa_cons (pe_ix (ixL K) (pv 3) (pe_un un_neg pe_int) (fun _ _ => rfl)) (pa_cons (pe_tup (pa_cons (pv 6) (pa_cons pe_str pa_nil))) pa_nil))) (pe_call G_l_lot (hr.mono (by omega)) (by rfl) T.g_l_lot T.F_l_lot.kp T.b_l_lot .nil pass0 (pa_cons (pv 0) (pa_cons pe_int pa_nil))) (fun _ _ => rfl)) pa_nil)))) (pss_one (ps_expr (bmK K PySem.F.plainAttrs_list PySem.F.slot_list_append PySem.F.type_list_append mt_append (pv 3) (pa_cons (pe_call G_l_need (hr.mono (by omega)) (by rfl) T.g_l_need T.F_l_need.kp T.b_l_need .nil pass0 (pa_cons (pv 0) (pa_cons (pv 1) pa_nil))) pa_nil))))))))))))
      (pss_one (ps_ret (pv 3))))), ?_⟩
    have e0 : Str.ofString "" = txS [] := by decide +kernel
    refine ⟨.ref b, rfl, tx cols, rfl, b, bl, cols, rfl, hB, hc, hc1, hc2, fun es rc v H1 kp1 hB1 nv hv hok => ?_⟩
    refine ⟨(by show 1 ≤ sizeLine; decide), fun F nF => ?_⟩
    have nFb := hB1.ne nF
    have nF0 : H F = none := Kp.none kp1 nFb.1 nF
    have kp2 : Kp b H (upd H1 F (.lst [.ref v])) := kp1.new nF
    have hB2 : Bag b bl (upd H1 F (.lst [.ref v])) := hB1.new nF
    have hF2 : (upd H1 F (.lst [.ref v])) F = some (.lst [.ref v]) := upd_same
    have hv2 : (upd H1 F (.lst [.ref v])) v = some (.tup [tx es, tx rc]) := keep_new hv nF
    generalize upd H1 F (.lst [.ref v]) = H2 at kp2 hB2 hF2 hv2 ⊢
    refine ⟨.ref b, rfl, .int m, rfl, b, bl, m, rfl, hB2, by omega, by omega, fun g H3 kp3 hB3 g0 g1 => ?_⟩
    have nA2 : NA H2 [v] [(es, rc)] := .cons hv2 .nil
    refine ⟨_, rfl, by omega, by omega, for_range (fun i σ H' => ∃ (y4 y5 y6 y7 y8 : Option V) (as : List Addr) (nd : List Nd2), σ = [some (.ref b), some (tx cols), some (.int m), some (.ref F), y4, y5, y6, y7, y8] ∧ Kp b H H' ∧ Bag b bl H' ∧ H' F = some (.lst (as.map V.ref)) ∧ NA H' as nd ∧ nd.length = i + 1 ∧ ∀ p ∈ nd, NOk cols p.1 p.2)
      ⟨_, _, _, _, _, [v], [(es, rc)], rfl, kp2.trans kp3, hB3, kp3 _ _ nFb.1 hF2, nA2.kp hB2 kp3, rfl, fun p hp => by rw [List.mem_singleton.mp hp]; exact hok⟩ (fun i σ H4 hi hP => ?_) (fun σ H4 hP => ?_)⟩
    · obtain ⟨y4, y5, y6, y7, y8, as, nd, rfl, kp4, hB4, hF4, nA4, hnl, hnd⟩ := hP
      have hi2 : i < 24 := by omega
      refine ⟨.ref b, rfl, b, bl, 4, rfl, hB4, by decide, by decide, fun way H5 kp5 hB5 w0 w1 => ?_⟩
      have hF5 := kp5 _ _ nFb.1 hF4
      have nA5 := nA4.kp hB4 kp5
      have kp5' := kp4.trans kp5
      have hal := nA5.len
      -- the last one
      obtain ⟨nd', p, rfl⟩ : ∃ nd' p, nd = nd' ++ [p] := by
        have hne : nd ≠ [] := fun z => by rw [z] at hnl; cases hnl
        exact ⟨nd.dropLast, nd.getLast hne, (List.dropLast_concat_getLast hne).symm⟩
      obtain ⟨as', pa, rfl⟩ : ∃ as' pa, as = as' ++ [pa] := by
        have hne : as ≠ [] := fun z => by rw [z, hnl] at hal; cases hal
        exact ⟨as.dropLast, as.getLast hne, (List.dropLast_concat_getLast hne).symm⟩
      have hpo : H5 pa = some (.tup [tx p.1, tx p.2]) := by
        obtain ⟨a, ha, hao⟩ := nA5.at (i := nd'.length) (p := p) (by simp)
        rw [List.length_append, List.length_append] at hal
        have e : as'.length = nd'.length := by simpa using hal
        rw [← e, List.getElem?_append_right (Nat.le_refl _), Nat.sub_self] at ha
        cases ha
        exact hao
      have hp := hnd p (by simp)
      have hlast : atI ((as' ++ [pa]).map V.ref) (-1) = some (.ref pa) := by
        rw [List.map_append]
        exact atI_last _ _
      have hpl : (p.1 ++ p.2).length ≤ 27 := by
        have h1 := nodup_sub_len (hp.up.imp fun {a b} z => by omega) hp.sub
        have h2 := hp.one
        rw [List.length_append]
        omega
      have sz : ∀ l : List Nat, (⟨l.toArray⟩ : Str).length = l.length := fun l => by simp [Str.length]
      refine ⟨⟨_, rfl⟩, .ref F, rfl, 1, rfl, F, _, _, .ref pa, rfl, rfl, .inl (.inl hF5), hlast, pa, [tx p.1, tx p.2], 0, tx p.1, rfl, rfl, .inl (.inl hpo), rfl, .ref F, rfl, 1, rfl, F, _, _, .ref pa, rfl, rfl, .inl (.inl hF5), hlast, pa, [tx p.1, tx p.2], 1, tx p.2, rfl, rfl, .inl (.inl hpo), rfl, ⟨p.1.toArray⟩, ⟨p.2.toArray⟩, rfl, rfl, ?_, ?_⟩
      · rw [sz, sz, ← List.length_append]
        exact Nat.le_of_lt (small1000 (by omega))
      · rw [cat_tx p.1 p.2]
        refine ⟨p.1 ++ p.2, rfl, by omega, fun la S hla hls nS => ?_⟩
        obtain ⟨lup, lsub, lne⟩ := hp.next hla hls
        have kp6 : Kp b H (upd H5 S (.lst (la.map sg))) := kp5'.new nS
        have hB6 : Bag b bl (upd H5 S (.lst (la.map sg))) := hB5.new nS
        have hF6 : (upd H5 S (.lst (la.map sg))) F = some (.lst ((as' ++ [pa]).map V.ref)) := keep_new hF5 nS
        have nA6 : NA (upd H5 S (.lst (la.map sg))) (as' ++ [pa]) (nd' ++ [p]) := nA5.mono fun a xs ha => keep_new ha nS
        have hS6 : (upd H5 S (.lst (la.map sg))) S = some (.lst (la.map sg)) := upd_same
        generalize upd H5 S (.lst (la.map sg)) = H6 at kp6 hB6 hF6 nA6 hS6 ⊢
        have hlal : la.length ≤ 27 := by rw [hla.length_eq]; exact hpl
        refine ⟨_, S, la.map sS, rfl, rfl, .inl (.inl (.inl (by rw [← map_sg]; exact hS6))), ?_, ?_⟩
        · rw [show (Str.ofString "").length = 0 by decide +kernel, Nat.mul_zero, Nat.add_zero, signs_len]
          exact Nat.le_of_lt (small1000 (by omega))
        rw [join_signs]
        -- others
        have ecs : (⟨cols.toArray⟩ : Str).cps.size = cols.length := by simp
        refine ⟨tx cols, rfl, _, rfl, fun D nD => lc_it walk_str (fun j H' => Same H6 H' ∧ H' D = some (.lst (((cols.take j).filter fun c => !decide (c ∈ la)).map sg)))
          ⟨Same.new (Same.refl H6) nD, upd_same⟩ (fun _ _ _ _ => trivial) (fun j x H7 H8 hj hP hY => ?_) (fun H7 hP => ?_)⟩
        · obtain ⟨sm7, hD7⟩ := hP
          obtain ⟨rfl, c, hcc, rfl⟩ := hY
          have hj2 : j < cols.length := by simpa using hj
          have hcj : cols[j] = c := by
            have : cols[j]? = some c := by simpa using hcc
            exact (List.getElem?_eq_some_iff.mp this).2
          refine ⟨rfl, sg c, rfl, tx la, rfl, c, ⟨la.toArray⟩, rfl, rfl, _, rfl, ?_⟩
          rw [show (⟨la.toArray⟩ : Str).cps.toList = la by simp]
          refine ite2 (fun e5 => ?_) (fun e5 => ?_)
          · refine ⟨sg c, rfl, _, hD7, ?_, Same.mut sm7 nD, ?_⟩
            · rw [List.length_map]
              have := List.length_filter_le (fun c => !decide (c ∈ la)) (cols.take j)
              rw [List.length_take] at this
              exact small1000 (by omega)
            · rw [upd_same, List.take_succ_eq_append_getElem hj2, hcj, List.filter_append, List.filter_cons, if_pos e5, List.map_append]
              rfl
          · refine ⟨sm7, ?_⟩
            rw [hD7, List.take_succ_eq_append_getElem hj2, hcj, List.filter_append, List.filter_cons, if_neg e5, List.filter_nil, List.append_nil]
        · obtain ⟨sm7, hD7⟩ := hP
          rw [ecs, List.take_of_length_le (Nat.le_refl _)] at hD7
          generalize hll : (cols.filter fun c => !decide (c ∈ la)) = ll at hD7
          have hlm : ∀ c ∈ ll, c ∈ cols ∧ c ∉ la := fun c h => by
            rw [← hll] at h
            obtain ⟨h1, h2⟩ := List.mem_filter.mp h
            exact ⟨h1, by simpa using h2⟩
          have hllen : ll.length ≤ 26 := by
            rw [← hll]
            exact Nat.le_trans (List.length_filter_le _ _) hc2
          have nDb := hB6.ne nD
          have nD0 : H D = none := Kp.none kp6 nDb.1 nD
          have kp7 : Kp b H H7 := kp6.trans (Same.kp sm7)
          have hB7 := hB6.same sm7
          have hF7 := sm7 _ _ hF6
          have nA7 : NA H7 (as' ++ [pa]) (nd' ++ [p]) := nA6.mono fun a xs ha => sm7 _ _ ha
          have hlen7 : ((as' ++ [pa]).map V.ref).length < sizeLine := by
            rw [List.length_map, nA7.len, hnl]
            exact small1000 (by omega)
          -- what is put
          have put : ∀ (HX : Hp) (t : Addr) (r : Nd2) (y4 y5 y6 y7 y8 : Option V), Kp b H HX → Bag b bl HX → HX F = some (.lst ((as' ++ [pa]).map V.ref)) → NA HX (as' ++ [pa]) (nd' ++ [p]) → HX t = some (.tup [tx r.1, tx r.2]) → NOk cols r.1 r.2 →
              ∃ (y4' y5' y6' y7' y8' : Option V) (as : List Addr) (nd : List Nd2), ([some (.ref b), some (tx cols), some (.int m), some (.ref F), y4, y5, y6, y7, y8] : L2.St) = [some (.ref b), some (tx cols), some (.int m), some (.ref F), y4', y5', y6', y7', y8'] ∧ Kp b H (upd HX F (.lst ((as' ++ [pa]).map V.ref ++ [.ref t]))) ∧ Bag b bl (upd HX F (.lst ((as' ++ [pa]).map V.ref ++ [.ref t]))) ∧
                (upd HX F (.lst ((as' ++ [pa]).map V.ref ++ [.ref t]))) F = some (.lst (as.map V.ref)) ∧ NA (upd HX F (.lst ((as' ++ [pa]).map V.ref ++ [.ref t]))) as nd ∧ nd.length = i + 1 + 1 ∧ ∀ p ∈ nd, NOk cols p.1 p.2 := by
            intro HX t r y4 y5 y6 y7 y8 kpX hBX hFX nAX htX hrX
            refine ⟨y4, y5, y6, y7, y8, (as' ++ [pa]) ++ [t], (nd' ++ [p]) ++ [r], rfl, kpX.mut nF0, hBX.upd nFb.1 nFb.2, ?_, ?_, ?_, fun z hz => ?_⟩
            · rw [upd_same, List.map_append (l₂ := [t])]
              rfl
            · refine NA.snoc (nAX.mono fun a xs ha => keep_ne ha fun z => ?_) (keep_ne htX fun z => ?_)
              · rw [z, hFX] at ha
                cases ha
              · rw [z, hFX] at htX
                cases htX
            · rw [List.length_append, hnl]
              rfl
            · rcases List.mem_append.mp hz with y | y
              · exact hnd z y
              · rw [List.mem_singleton.mp y]
                exact hrX
          refine ⟨.int way, rfl, rfl, _, rfl, ite2 (fun e => ?_) (fun e => ?_)⟩
          · refine ⟨.ref D, rfl, (by show 0 ≤ sizeLine; decide), fun N nN => ?_⟩
            have sm8 : Same H7 (upd H7 N (.lst [])) := Same.new (Same.refl H7) nN
            have hD8 := sm8 _ _ hD7
            have hN8 : (upd H7 N (.lst [])) N = some (.lst []) := upd_same
            generalize upd H7 N (.lst []) = H8 at sm8 hD8 hN8 ⊢
            refine ⟨_, _, .lst (.inl (.inl hD8)) (dp_signs ll), .lst (.inl (.inl hN8)) .nil, shaped_signs (fun c h => (hc.az c (hlm c h).1).2), rfl, _, rfl, ite2 (fun e2 => ?_) (fun e2 => ?_)⟩
            · have lne2 : ll ≠ [] := fun z => by
                rw [z] at e2
                exact absurd e2 (by decide)
              have lpos : 0 < ll.length := List.length_pos_iff.mpr lne2
              refine ⟨.ref F, rfl, .inl ⟨rfl, _, .inl (.inl (sm8 _ _ hF7))⟩, tx la, rfl, .ref D, rfl, .ref b, rfl, .ref D, rfl, D, _, rfl, .inl (.inl (.inl hD8)), b, bl, _, rfl, hB7.same sm8, by rw [List.length_map]; omega, by rw [List.length_map]; omega, fun f HY kpY hBY f0 f1 => ?_⟩
              rw [List.length_map] at f1
              have hf : f.toNat < ll.length := by omega
              have hcm := hlm ll[f.toNat] (List.getElem_mem hf)
              generalize hcc : ll[f.toNat] = cc at hcm
              refine ⟨D, ll.map sg, f, sg cc, rfl, rfl, .inl (.inl (kpY _ _ nDb.1 hD8)), L2.at_of (j := f.toNat) (by omega) (by rw [List.getElem?_map, List.getElem?_eq_getElem hf, hcc]; rfl), (by show 2 ≤ sizeLine; decide), fun t nt => ?_⟩
              have hFY := kpY _ _ nFb.1 (sm8 _ _ hF7)
              refine ⟨F, _, _, rfl, rfl, keep_new hFY nt, hlen7, ?_⟩
              exact put _ t (la, [cc]) _ _ _ _ _ (((kp7.trans (Same.kp sm8)).trans kpY).new nt) (hBY.new nt) (keep_new hFY nt) (((nA7.mono fun a xs ha => sm8 _ _ ha).kp (hB7.same sm8) kpY).mono fun a xs ha => keep_new ha nt) upd_same ⟨lup, lsub, Nat.le_refl _, fun c h => by rw [List.mem_singleton.mp h]; exact hcm, .inr (by simp)⟩
            · refine ⟨.int way, rfl, rfl, _, rfl, ite2 (fun e3 => ?_) (fun e3 => ?_)⟩
              · have h1 : V.int way = V.int 0 := of_decide_eq_true e
                have h2 : V.int way = V.int 1 := of_decide_eq_true e3
                rw [h1] at h2
                cases h2
              · refine ⟨.ref F, rfl, .inl ⟨rfl, _, .inl (.inl (sm8 _ _ hF7))⟩, .ref b, rfl, tx cols, rfl, b, bl, cols, rfl, hB7.same sm8, hc, hc1, hc2, fun es2 rc2 v2 HY kpY hBY nvY hvY hokY => ⟨F, _, _, rfl, rfl, kpY _ _ nFb.1 (sm8 _ _ hF7), hlen7, ?_⟩⟩
                exact put HY v2 (es2, rc2) _ _ _ _ _ ((kp7.trans (Same.kp sm8)).trans kpY) hBY (kpY _ _ nFb.1 (sm8 _ _ hF7)) ((nA7.mono fun a xs ha => sm8 _ _ ha).kp (hB7.same sm8) kpY) hvY hokY
          · refine ⟨.int way, rfl, rfl, _, rfl, ite2 (fun e3 => ?_) (fun e3 => ?_)⟩
            · refine ⟨.ref F, rfl, .inl ⟨rfl, _, .inl (.inl hF7)⟩, .ref F, rfl, 1, rfl, F, _, _, .ref pa, rfl, rfl, .inl (.inl hF7), hlast, tx la, rfl, (by show 2 ≤ sizeLine; decide), fun t nt => ⟨(by show 2 ≤ sizeLine; decide), fun l2 nl2 => ?_⟩⟩
              have sm8 : Same H7 (upd H7 t (.tup [tx la, .str (Str.ofString "")])) := Same.new (Same.refl H7) nt
              have ht8 : (upd H7 t (.tup [tx la, .str (Str.ofString "")])) t = some (.tup [tx la, tx []]) := by
                rw [upd_same, e0]
              generalize upd H7 t (.tup [tx la, .str (Str.ofString "")]) = H8 at sm8 ht8 nl2 ⊢
              have sm9 : Same H7 (upd H8 l2 (.lst [.ref pa, .ref t])) := Same.new sm8 nl2
              have hl9 : (upd H8 l2 (.lst [.ref pa, .ref t])) l2 = some (.lst [.ref pa, .ref t]) := upd_same
              have ht9 : (upd H8 l2 (.lst [.ref pa, .ref t])) t = some (.tup [tx la, tx []]) := keep_new ht8 nl2
              generalize upd H8 l2 (.lst [.ref pa, .ref t]) = H9 at sm9 hl9 ht9 ⊢
              have hB9 := hB7.same sm9
              have nl2b : l2 ≠ b := (hB7.same sm8 |>.ne nl2).1
              have hpa9 := sm9 _ _ (sm7 _ _ (show H6 pa = some (.tup [tx p.1, tx p.2]) from by
                obtain ⟨a, ha, hao⟩ := nA6.at (i := nd'.length) (p := p) (by simp)
                rw [List.length_append, List.length_append] at hal
                have e : as'.length = nd'.length := by simpa using hal
                rw [← e, List.getElem?_append_right (Nat.le_refl _), Nat.sub_self] at ha
                cases ha
                exact hao))
              have bne : ∀ a xs, H9 a = some (.tup xs) → a ≠ b := fun a xs ha z => by
                obtain ⟨_, _, _, _, h1, _⟩ := hB9
                rw [z, h1] at ha
                cases ha
              refine ⟨.ref b, rfl, b, bl, 2, rfl, hB9, by decide, by decide, fun f HY kpY hBY f0 f1 => ?_⟩
              have hFY := kpY _ _ nFb.1 (sm9 _ _ hF7)
              have kpY' := (kp7.trans (Same.kp sm9)).trans kpY
              have nAY := (nA7.mono fun a xs ha => sm9 _ _ ha).kp hB9 kpY
              have hlY := kpY _ _ nl2b hl9
              have hf : f = 0 ∨ f = 1 := by omega
              rcases hf with rfl | rfl
              · refine ⟨l2, _, 0, .ref pa, rfl, rfl, .inl (.inl hlY), rfl, F, _, _, rfl, rfl, hFY, hlen7, ?_⟩
                exact put HY pa p _ _ _ _ _ kpY' hBY hFY nAY (kpY _ _ (bne _ _ hpa9) hpa9) hp
              · refine ⟨l2, _, 1, .ref t, rfl, rfl, .inl (.inl hlY), rfl, F, _, _, rfl, rfl, hFY, hlen7, ?_⟩
                exact put HY t (la, []) _ _ _ _ _ kpY' hBY hFY nAY (kpY _ _ (bne _ _ ht9) ht9) ⟨lup, lsub, Nat.zero_le _, (fun c h => nomatch h), .inl lne⟩
            · have sm8 : Same H7 H7 := Same.refl H7
              refine ⟨.ref F, rfl, .inl ⟨rfl, _, .inl (.inl (sm8 _ _ hF7))⟩, .ref b, rfl, tx cols, rfl, b, bl, cols, rfl, hB7.same sm8, hc, hc1, hc2, fun es2 rc2 v2 HY kpY hBY nvY hvY hokY => ⟨F, _, _, rfl, rfl, kpY _ _ nFb.1 (sm8 _ _ hF7), hlen7, ?_⟩⟩
              exact put HY v2 (es2, rc2) _ _ _ _ _ ((kp7.trans (Same.kp sm8)).trans kpY) hBY (kpY _ _ nFb.1 (sm8 _ _ hF7)) ((nA7.mono fun a xs ha => sm8 _ _ ha).kp (hB7.same sm8) kpY) hvY hokY
    · obtain ⟨y4, y5, y6, y7, y8, as, nd, rfl, kp4, hB4, hF4, nA4, hnl, hnd⟩ := hP
      exact ⟨.ref F, rfl, q nd F H4 kp4 hB4 nF0 ⟨as, hF4, nA4⟩ (by omega) (by omega) hnd⟩

/-! ### serves_need -/
def spServesNeed (K : PySem.W.Frag) : Sp := fun vs H Q _ => ∃ (one es rc : List Nat) (na : Addr), vs = [tx one, .ref na] ∧ H na = some (.tup [tx es, tx rc]) ∧ one.length < 64 ∧ es.length < 64 ∧ (∀ c ∈ one, c ≤ 122) ∧ (∀ c ∈ es, c ≤ 122) ∧ ∀ (H' : Hp), Same H H' → Q (.bl (snM one es rc)) H'
theorem ok_servesneed (T : Tx K mg Z) : FnOk P w K mg base CX0 1 Z.f_serves_need Z.d_serves_need ["one", "need"] (spServesNeed K) := by
  refine T.F_serves_need.ok sc_serves_need (fun vs H Q E h => ?_) (fun cdv A outer s H vs Q E hr h => ?_)
  · obtain ⟨one, es, rc, na, rfl, _⟩ := h
    rfl
  · obtain ⟨one, es, rc, na, rfl, hna, hol, hel, hoz, hez, q⟩ := h
    refine ⟨_, (pss_cons (ps_asg (pv 1) (pgT K (n := 2) (pgs_cons (pg_name (i := 2) sc_serves_need.nd rfl (.inl rfl)) (pgs_cons (pg_name (i := 3) sc_serves_need.nd rfl (.inl rfl)) pgs_nil))))
      (pss_cons (ps_set (i := 4) sc_serves_need.nd rfl (.inl rfl) (pe_callB call_len_str (by rfl) T.m_len (by decide +kernel) (pa_cons (pv 2) pa_nil)))
      (pss_one (ps_ret (pe_and (pe_cmpR (eqDK K hr.units) (pe_callB cSortTx (by rfl) T.m_sorted (by decide +kernel) (pa_cons (pe_slice sl_str (pv 0) po_none (po_some (pv 4))) pa_nil)) (pe_callB cSortTx (by rfl) T.m_sorted (by decide +kernel) (pa_cons (pv 2) pa_nil)) (nomark _)) (pe_one (bmK K PySem.F.plainAttrs_str PySem.F.slot_str_startswith PySem.F.type_str_startswith mt_startswith (pe_slice sl_str (pv 0) (po_some (pv 4)) po_none) (pa_cons (pv 3) pa_nil)))))))), ?_⟩
    have sz : ∀ l : List Nat, l.length < 64 → (⟨l.toArray⟩ : Str).length ≤ sizeLine := fun l h => by
      show l.toArray.size ≤ sizeLine
      rw [List.size_toArray]
      exact Nat.le_of_lt (small1000 (by omega))
    have el : ∀ l : List Nat, ((⟨l.toArray⟩ : Str).length : Int) = (l.length : Nat) := fun l => by simp [Str.length]
    refine ⟨.ref na, rfl, na, [tx es, tx rc], rfl, .inl (.inl hna), rfl, tx es, [tx rc], rfl, tx rc, [], rfl, rfl, ?_⟩
    refine ⟨tx es, rfl, _, rfl, sz es hel, ?_⟩
    refine ⟨tx one, rfl, _, rfl, _, rfl, _, rfl, sz one hol, ?_⟩
    rw [el, cut_take]
    have htl : (one.take es.length).length < 64 := by
      rw [List.length_take]
      omega
    refine ⟨_, rfl, htl, fun l1 p1 hp1 hs1 np1 => ?_⟩
    refine ⟨tx es, rfl, es, rfl, hel, fun l2 p2 hp2 hs2 np2 => ?_⟩
    refine ⟨_, _, .lst (.inl (.inl (keep_new upd_same np2))) (dp_signs l1), .lst (.inl (.inl upd_same)) (dp_signs l2), shaped_signs (fun c h => hoz c (List.mem_of_mem_take (hp1.mem_iff.mp h))), shaped_signs (fun c h => hez c (hp2.mem_iff.mp h)), _, rfl, ?_⟩
    rw [eqv_signs]
    have sm : Same H (upd (upd H p1 (.lst (l1.map sg))) p2 (.lst (l2.map sg))) := Same.new (Same.new (Same.refl H) np1) np2
    have key : decide (l1 = l2) = decide ((one.take es.length).Perm es) := by
      rw [Bool.eq_iff_iff, decide_eq_true_eq, decide_eq_true_eq]
      constructor
      · intro e
        rw [e] at hp1
        exact hp1.symm.trans hp2
      · intro hp
        exact le_perm_eq (hp1.trans (hp.trans hp2.symm)) hs1 hs2
    rw [key]
    refine ite2 (fun e => ?_) (fun e => ?_)
    · refine ⟨tx one, rfl, _, rfl, _, rfl, _, rfl, sz one hol, ?_⟩
      rw [cut_from]
      refine ⟨rfl, tx rc, rfl, _, _, rfl, rfl, ?_⟩
      rw [starts_txt]
      have e2 : snM one es rc = decide ((one.drop es.length).take rc.length = rc) := by
        unfold snM
        rw [e, Bool.true_and]
      rw [← e2]
      exact q _ sm
    · have e2 : snM one es rc = false := by
        unfold snM
        rw [Bool.not_eq_true _ |>.mp e, Bool.false_and]
      rw [← e2]
      exact q _ sm

/-! ### _law_renamed -/
theorem NOk.ren {f : Nat → Nat} {cols : List Nat} {p p' : Nd2} (r : Ren f cols) (h : NOk cols p.1 p.2) (h1 : p'.1.Perm (p.1.map f)) (hs : p'.1.Pairwise (· ≤ ·)) (h2 : p'.2 = p.2.map f) : NOk cols p'.1 p'.2 := by
  have nd : (p.1.map f).Nodup := by
    unfold List.Nodup
    rw [List.pairwise_map]
    have h0 : p.1.Nodup := h.up.imp fun {a b} z => by omega
    exact h0.imp_of_mem fun {a b} ha hb hne e => hne (ren_inj r (h.sub a ha) (h.sub b hb) e)
  refine ⟨strict_of hs (h1.nodup_iff.mpr nd), fun c hc => ?_, by rw [h2, List.length_map]; exact h.one, fun c hc => ?_, ?_⟩
  · obtain ⟨a, ha, rfl⟩ := List.mem_map.mp (h1.mem_iff.mp hc)
    exact r.to a (h.sub a ha)
  · rw [h2] at hc
    obtain ⟨a, ha, rfl⟩ := List.mem_map.mp hc
    refine ⟨r.to a (h.rsub a ha).1, fun z => ?_⟩
    obtain ⟨b, hb, e⟩ := List.mem_map.mp (h1.mem_iff.mp z)
    exact (h.rsub a ha).2 (ren_inj r (h.sub b hb) (h.rsub a ha).1 e ▸ hb)
  · rcases h.some with z | z
    · refine .inl fun y => z ?_
      rw [y] at h1
      exact List.map_eq_nil_iff.mp h1.symm.eq_nil
    · refine .inr fun y => z ?_
      rw [h2] at y
      exact List.map_eq_nil_iff.mp y
def spRenamed (K : PySem.W.Frag) : Sp := fun vs H Q _ => ∃ (cols : List Nat) (na : Addr) (nd : List Nd2), vs = [tx cols, .ref na] ∧ Cols cols ∧ cols.length ≤ 26 ∧ NdL H na nd ∧ nd.length ≤ 24 ∧ (∀ p ∈ nd, NOk cols p.1 p.2) ∧
  ∀ (nd' : List Nd2) (p : Addr) (H' : Hp), Same H H' → NdL H' p nd' → RenL (mirF cols) nd nd' → (∀ p ∈ nd', NOk cols p.1 p.2) → Q (.ref p) H'
set_option maxHeartbeats 4000000 in
theorem ok_renamed (T : Tx K mg Z) : FnOk P w K mg base CX0 1 Z.f_l_renamed Z.d_l_renamed ["columns", "needs"] (spRenamed K) := by
  refine T.F_l_renamed.ok sc_l_renamed (fun vs H Q E h => ?_) (fun cdv A outer s H vs Q E hr h => ?_)
  · obtain ⟨cols, na, nd, rfl, _⟩ := h
    rfl
  · obtain ⟨cols, na, nd, rfl, hc, hc2, hnd, hnl, hok, q⟩ := h
    refine ⟨_, (pss_cons (ps_set (i := 2) sc_l_renamed.nd rfl (.inr rfl) (pe_dictZip (by rfl) (pa_cons (pv 0) (pa_cons (pe_revS (pv 0)) pa_nil)) (by rfl) T.m_dict (by rfl) T.m_zip))
      (pss_cons (ps_set (i := 3) sc_l_renamed.nd rfl (.inl rfl) (pe_lst pa_nil))
      (pss_cons (ps_for PassesOwn.never rfl (piL K (pv 1)) (pgT K (n := 2) (pgs_cons (pg_name (i := 4) sc_l_renamed.nd rfl (.inl rfl)) (pgs_cons (pg_name (i := 5) sc_l_renamed.nd rfl (.inl rfl)) pgs_nil))) (pss_cons (ps_set (i := 6) sc_l_renamed.nd rfl (.inl rfl) (pe_callB cr_sortedS (by rfl) T.m_sorted (by decide +kernel) (pa_cons (pe_lc (own := [("letter", 7)]) (tt := tYes) (by rfl) sc_l_renamed.nd (pi_str (pv 4)) (blkOk_by (own := [("letter", 7)]) (by kernel_rfl)) (fun _ _ _ _ _ => (pg_name (i := 7) sc_l_renamed.nd rfl (.inl rfl))) (fun _ _ _ _ _ => pts_nil) (fun _ _ _ _ _ => (pe_dget (hu_of hr) (pv 2) (pv 7) (fun _ _ => rfl)))) pa_nil)))
      (pss_one (ps_expr (bmK K PySem.F.plainAttrs_list PySem.F.slot_list_append PySem.F.type_list_append mt_append (pv 3) (pa_cons (pe_tup (pa_cons (pe_join pe_str (pv 6)) (pa_cons (pe_join pe_str (pe_lc (own := [("letter", 7)]) (tt := tYes) (by rfl) sc_l_renamed.nd (pi_str (pv 5)) (blkOk_by (own := [("letter", 7)]) (by kernel_rfl)) (fun _ _ _ _ _ => (pg_name (i := 7) sc_l_renamed.nd rfl (.inl rfl))) (fun _ _ _ _ _ => pts_nil) (fun _ _ _ _ _ => (pe_dget (hu_of hr) (pv 2) (pv 7) (fun _ _ => rfl))))) pa_nil))) pa_nil))))))
      (pss_one (ps_ret (pv 3)))))), ?_⟩
    have hcn : cols.Nodup := hc.nd
    have r := mir_ren hcn
    obtain ⟨as, hna, nA⟩ := hnd
    have hal := nA.len
    have csz : cols.length ≤ sizeLine := Nat.le_of_lt (small1000 (by omega))
    refine ⟨tx cols, rfl, tx cols, rfl, cols, rfl, csz, cols, cols.reverse, rfl, by omega, fun nm nnm => ?_⟩
    have smN : Same H (upd H nm (.dK (mergeK [] (zipK cols cols.reverse)))) := Same.new (Same.refl H) nnm
    have hnm : (upd H nm (.dK (mergeK [] (zipK cols cols.reverse)))) nm = some (.dK (mergeK [] (zipK cols cols.reverse))) := upd_same
    generalize upd H nm (.dK (mergeK [] (zipK cols cols.reverse))) = H1 at smN hnm ⊢
    refine ⟨(by show 0 ≤ sizeLine; decide), fun F nF => ?_⟩
    have sm2 : Same H1 (upd H1 F (.lst [])) := Same.new (Same.refl H1) nF
    refine ⟨.ref na, rfl, na, rfl, ⟨_, .inl (.inl (sm2 _ _ (smN _ _ hna)))⟩, for_list (xs := as.map V.ref) (fun i σ H' => ∃ (y4 y5 y6 y7 : Option V) (fs : List Addr) (nd' : List Nd2), σ = [some (tx cols), some (.ref na), some (.ref nm), some (.ref F), y4, y5, y6, y7] ∧ Same H1 H' ∧ H' F = some (.lst (fs.map V.ref)) ∧ NA H' fs nd' ∧ RenL (mirF cols) (nd.take i) nd' ∧ ∀ p ∈ nd', NOk cols p.1 p.2)
      ⟨_, _, _, _, [], [], rfl, sm2, upd_same, .nil, (by rw [List.take_zero]; exact .nil), (fun p hp => nomatch hp)⟩ (fun i σ H' _ hP => by
        obtain ⟨_, _, _, _, _, _, _, sm, _⟩ := hP
        exact .inl (.inl (sm _ _ (smN _ _ hna)))) (fun i x σ H2 hx hP => ?_) (fun σ H2 hP => ?_)⟩
    · obtain ⟨y4, y5, y6, y7, fs, nd', rfl, sm2, hF2, nF2, ren, hok'⟩ := hP
      rw [List.getElem?_map] at hx
      obtain ⟨a, ha, rfl⟩ := Option.map_eq_some_iff.mp hx
      have hi : i < nd.length := by
        have := (List.getElem?_eq_some_iff.mp ha).1
        omega
      obtain ⟨p, hp⟩ : ∃ p, nd[i]? = some p := ⟨nd[i], List.getElem?_eq_getElem hi⟩
      have ep : nd[i] = p := (List.getElem?_eq_some_iff.mp hp).2
      obtain ⟨a', ha', hao⟩ := nA.at hp
      rw [ha] at ha'
      cases ha'
      have hpo := hok p (List.mem_of_getElem? hp)
      have hrl := ren.len
      rw [List.length_take] at hrl
      have hfl := nF2.len
      have pl1 : p.1.length ≤ 26 := Nat.le_trans (nodup_sub_len (hpo.up.imp fun {a b} z => by omega) hpo.sub) hc2
      have pl2 := hpo.one
      refine ⟨a, [tx p.1, tx p.2], rfl, .inl (.inl (sm2 _ _ (smN _ _ hao))), rfl, tx p.1, [tx p.2], rfl, tx p.2, [], rfl, rfl, ?_⟩
      -- letters of equals
      have ecs : ∀ l : List Nat, (⟨l.toArray⟩ : Str).cps.size = l.length := fun l => by simp
      refine ⟨tx p.1, rfl, _, rfl, fun D nD => lc_it walk_str (fun j H' => Same H2 H' ∧ H' D = some (.lst (((p.1.take j).map (mirF cols)).map sg)))
        ⟨Same.new (Same.refl H2) nD, upd_same⟩ (fun _ _ _ _ => trivial) (fun j x H3 H4 hj hP hY => ?_) (fun H3 hP => ?_)⟩
      · obtain ⟨sm3, hD3⟩ := hP
        obtain ⟨rfl, c, hcc, rfl⟩ := hY
        have hcc2 : p.1[j]? = some c := by simpa using hcc
        obtain ⟨hj2, hcj⟩ := List.getElem?_eq_some_iff.mp hcc2
        have gn : DGet H4 nm (sg c) (some (sg (mirF cols c))) := by
          have h1 : DGet H4 nm (kV (.inr (sS c))) (valV (mergeK [] (zipK cols cols.reverse)) (.inr (sS c))) := DGet.k (k := .inr (sS c)) (sm3 _ _ (sm2 _ _ hnm))
          rw [mir_val hcn (hpo.sub c (List.mem_of_getElem? hcc2))] at h1
          exact h1
        refine ⟨rfl, .ref nm, rfl, sg c, rfl, nm, sg (mirF cols c), rfl, gn, _, hD3, ?_, Same.mut sm3 nD, ?_⟩
        · rw [List.length_map, List.length_map, List.length_take]
          exact small1000 (by omega)
        · rw [upd_same, List.take_succ_eq_append_getElem hj2, hcj, List.map_append, List.map_append]
          rfl
      · obtain ⟨sm3, hD3⟩ := hP
        rw [ecs, List.take_of_length_le (Nat.le_refl _)] at hD3
        refine ⟨D, (p.1.map (mirF cols)).map sS, rfl, .inl (.inl (by rw [← map_sg]; exact hD3)), by rw [List.length_map, List.length_map]; omega, fun ys S hys hso nS => ?_⟩
        obtain ⟨es, rfl, hes⟩ := perm_signs hys
        rw [← map_sg]
        have sm4 : Same H2 (upd H3 S (.lst (es.map sg))) := Same.new sm3 nS
        have hS4 : (upd H3 S (.lst (es.map sg))) S = some (.lst (es.map sg)) := upd_same
        generalize upd H3 S (.lst (es.map sg)) = H4 at sm4 hS4 ⊢
        have hesl : es.length ≤ 26 := by rw [hes.length_eq, List.length_map]; exact pl1
        -- the new need
        refine ⟨.ref F, rfl, .inl ⟨rfl, _, .inl (.inl (sm4 _ _ hF2))⟩, ⟨_, rfl⟩, .ref S, rfl, _, S, es.map sS, rfl, rfl, .inl (.inl (.inl (by rw [← map_sg]; exact hS4))), ?_, ?_⟩
        · rw [show (Str.ofString "").length = 0 by decide +kernel, Nat.mul_zero, Nat.add_zero, signs_len]
          exact Nat.le_of_lt (small1000 (by omega))
        rw [join_signs]
        refine ⟨⟨_, rfl⟩, tx p.2, rfl, _, rfl, fun D2 nD2 => lc_it walk_str (fun j H' => Same H4 H' ∧ H' D2 = some (.lst (((p.2.take j).map (mirF cols)).map sg)))
          ⟨Same.new (Same.refl H4) nD2, upd_same⟩ (fun _ _ _ _ => trivial) (fun j x H5 H6 hj hP hY => ?_) (fun H5 hP => ?_)⟩
        · obtain ⟨sm5, hD5⟩ := hP
          obtain ⟨rfl, c, hcc, rfl⟩ := hY
          have hcc2 : p.2[j]? = some c := by simpa using hcc
          obtain ⟨hj2, hcj⟩ := List.getElem?_eq_some_iff.mp hcc2
          have gn : DGet H6 nm (sg c) (some (sg (mirF cols c))) := by
            have h1 : DGet H6 nm (kV (.inr (sS c))) (valV (mergeK [] (zipK cols cols.reverse)) (.inr (sS c))) := DGet.k (k := .inr (sS c)) (sm5 _ _ (sm4 _ _ (sm2 _ _ hnm)))
            rw [mir_val hcn (hpo.rsub c (List.mem_of_getElem? hcc2)).1] at h1
            exact h1
          refine ⟨rfl, .ref nm, rfl, sg c, rfl, nm, sg (mirF cols c), rfl, gn, _, hD5, ?_, Same.mut sm5 nD2, ?_⟩
          · rw [List.length_map, List.length_map, List.length_take]
            exact small1000 (by omega)
          · rw [upd_same, List.take_succ_eq_append_getElem hj2, hcj, List.map_append, List.map_append]
            rfl
        · obtain ⟨sm5, hD5⟩ := hP
          rw [ecs, List.take_of_length_le (Nat.le_refl _)] at hD5
          refine ⟨_, D2, (p.2.map (mirF cols)).map sS, rfl, rfl, .inl (.inl (.inl (by rw [← map_sg]; exact hD5))), ?_, ?_⟩
          · rw [show (Str.ofString "").length = 0 by decide +kernel, Nat.mul_zero, Nat.add_zero, signs_len, List.length_map]
            exact Nat.le_of_lt (small1000 (by omega))
          rw [join_signs]
          refine ⟨(by show 2 ≤ sizeLine; decide), fun t nt => ?_⟩
          have sm6 : Same H2 (upd H5 t (.tup [tx es, tx (p.2.map (mirF cols))])) := Same.new (Same.trans sm4 sm5) nt
          have ht6 : (upd H5 t (.tup [tx es, tx (p.2.map (mirF cols))])) t = some (.tup [tx es, tx (p.2.map (mirF cols))]) := upd_same
          generalize upd H5 t (.tup [tx es, tx (p.2.map (mirF cols))]) = H6 at sm6 ht6 ⊢
          have hF6 := sm6 _ _ hF2
          refine ⟨F, _, _, rfl, rfl, hF6, ?_, ?_⟩
          · rw [List.length_map, hfl]
            exact small1000 (by omega)
          · refine ⟨_, _, _, _, fs ++ [t], nd' ++ [(es, p.2.map (mirF cols))], rfl, Same.mut (Same.trans sm2 sm6) nF, ?_, ?_, ?_, fun z hz => ?_⟩
            · rw [upd_same, List.map_append]
              rfl
            · refine NA.snoc (nF2.mono fun b xs hb => keep_ne (sm6 _ _ hb) fun z => ?_) (keep_ne ht6 fun z => ?_)
              · rw [z, hF2] at hb
                cases hb
              · rw [z, hF6] at ht6
                cases ht6
            · rw [List.take_succ_eq_append_getElem hi, ep]
              exact ren.snoc hes rfl
            · rcases List.mem_append.mp hz with y | y
              · exact hok' z y
              · rw [List.mem_singleton.mp y]
                exact hpo.ren (p' := (es, p.2.map (mirF cols))) r hes (sorted_signs es hso) rfl
    · obtain ⟨y4, y5, y6, y7, fs, nd', rfl, sm2, hF2, nF2, ren, hok'⟩ := hP
      rw [List.length_map, hal, List.take_of_length_le (Nat.le_refl _)] at ren
      exact ⟨.ref F, rfl, q nd' F H2 (Same.trans smN sm2) ⟨fs, hF2, nF2⟩ ren hok'⟩
/-! ### _law_many -/
def spMany (K : PySem.W.Frag) (Z : Ad) : Sp := fun vs H Q _ => ∃ (cv : V) (na : Addr) (nd : List Nd2), vs = [cv, .ref na] ∧ TG Z.Ps H ∧ NdL H na nd ∧ (∀ p ∈ nd, NdS p) ∧ (∀ p ∈ nd, NdOk p) ∧ nd.length ≤ 24 ∧
  ∀ (H' : Hp) (n : Nat), Sx Z.Ps H H' → TG Z.Ps H' → Few nd n → Q (nV n) H'
theorem ok_many (T : Tx K mg Z) (TB : Tb base mg Z) : FnOk P w K mg base CX0 32 Z.f_l_many Z.d_l_many ["columns", "needs"] (spMany K Z) := by
  have G_fewest : FnOk P w K mg base CX0 31 Z.f_fewest Z.d_fewest ["columns", "needs"] (spFewest K Z) := ok_fewest T TB
  refine T.F_l_many.ok sc_l_many (fun vs H Q E h => ?_) (fun cdv A outer s H vs Q E hr h => ?_)
  · obtain ⟨cv, na, nd, rfl, _⟩ := h
    rfl
  · obtain ⟨cv, na, nd, rfl, tg, hnd, hns, hok, hnl, q⟩ := h
    refine ⟨_, (pss_one (ps_ret (pe_callB (cLenSq K) (by rfl) T.m_len (by decide +kernel) (pa_cons (pe_ix (ixT K) (pe_call G_fewest (hr.mono (by omega)) (by rfl) T.g_fewest T.F_fewest.kp T.b_fewest .nil pass0 (pa_cons (pv 0) (pa_cons (pv 1) pa_nil))) pe_int (fun _ _ => rfl)) pa_nil)))), ?_⟩
    refine ⟨cv, rfl, .ref na, rfl, cv, na, nd, rfl, tg, hnd, hns, hok, hnl, fun H1 p la ta ls ap sx tg1 np nla nta hp hla hta few => ?_⟩
    refine ⟨p, [.ref la, .ref ta], 0, .ref la, rfl, rfl, .inl (.inl hp), rfl, la, _, rfl, .inl (.inl (.inl hla)), ?_⟩
    rw [List.length_map]
    exact q H1 ls.length sx tg1 ⟨ls, ap, few, rfl⟩

/-! ### the law -/
theorem Bag.sx {b bl : Addr} {Ps : List Addr} {H H' : Hp} (h : Bag b bl H) (t : TG Ps H) (s : Sx Ps H H') : Bag b bl H' := by
  obtain ⟨ns, k, n, e, h1, h2⟩ := h
  exact ⟨ns, k, n, e, s _ _ (t.not h1 fun q z => nomatch z) h1, s _ _ (t.not h2 fun q z => nomatch z) h2⟩
theorem TG.kb {b bl : Addr} {Ps : List Addr} {H H' : Hp} (t : TG Ps H) (h : Bag b bl H) (k : Kp b H H') : TG Ps H' := by
  obtain ⟨ns, m, n, e, h1, h2⟩ := h
  exact t.kp h1 k
theorem NOk.ndok {cols : List Nat} {p : Nd2} (h : NOk cols p.1 p.2) : NdOk p := ⟨h.up, h.one, fun c hc => (h.rsub c hc).2⟩
theorem NOk.nds {cols : List Nat} {p : Nd2} (hc : Cols cols) (hl : cols.length ≤ 26) (h : NOk cols p.1 p.2) : NdS p := by
  refine ⟨Nat.le_trans (nodup_sub_len (h.up.imp fun {a b} z => by omega) h.sub) hl, by have := h.one; omega, fun c hc' => ?_⟩
  rcases List.mem_append.mp hc' with z | z
  · exact (hc.az c (h.sub c z)).2
  · exact (hc.az c (h.rsub c z).1).2
theorem NOk.all {cols : List Nat} {p : Nd2} (h : NOk cols p.1 p.2) : ∀ c ∈ p.1 ++ p.2, c ∈ cols := fun c hc => by
  rcases List.mem_append.mp hc with z | z
  · exact h.sub c z
  · exact (h.rsub c z).1
theorem NA.take {H : Hp} {as : List Addr} {nd : List Nd2} (h : NA H as nd) : ∀ k : Nat, NA H (as.take k) (nd.take k) := by
  induction h with
  | nil => intro k; rw [List.take_nil, List.take_nil]; exact .nil
  | cons h1 _ ih =>
    intro k
    cases k with
    | zero => exact .nil
    | succ k => exact .cons h1 (ih k)
theorem NA.drop {H : Hp} {as : List Addr} {nd : List Nd2} (h : NA H as nd) : ∀ k : Nat, NA H (as.drop k) (nd.drop k) := by
  induction h with
  | nil => intro k; rw [List.drop_nil, List.drop_nil]; exact .nil
  | cons h1 h2 ih =>
    intro k
    cases k with
    | zero => exact .cons h1 h2
    | succ k => exact ih k
theorem NA.cat {H : Hp} {as bs : List Addr} {nd nd' : List Nd2} (h : NA H as nd) (h' : NA H bs nd') : NA H (as ++ bs) (nd ++ nd') := by
  induction h with
  | nil => exact h'
  | cons h1 _ ih => exact .cons h1 ih
theorem NA.same {H H' : Hp} {as : List Addr} {nd : List Nd2} (h : NA H as nd) (s : Same H H') : NA H' as nd := h.mono fun b xs hb => s _ _ hb
def spLaw (K : PySem.W.Frag) (Z : Ad) : Sp := fun vs H Q _ => ∃ (a : Addr) (ns : List Int), vs = [.ref a] ∧ SqL K H a (ns.map V.int) ∧ ns.length ≤ 63 ∧ (∀ P ∈ Z.Ps, GxR.TabG H P) ∧ ∀ H', Q (.bl true) H'
set_option maxHeartbeats 8000000 in
theorem ok_law (T : Tx K mg Z) (TB : Tb base mg Z) : FnOk P w K mg base CX0 33 Z.f_law Z.d_law ["script"] (spLaw K Z) := by
  have G_l_bag : FnOk P w K mg base CX0 1 Z.f_l_bag Z.d_l_bag ["script"] (spBag K) := ok_bag T
  have G_l_lot : FnOk P w K mg base CX0 1 Z.f_l_lot Z.d_l_lot ["bag", "many"] (spLot K) := ok_lot T
  have G_l_columns : FnOk P w K mg base CX0 2 Z.f_l_columns Z.d_l_columns ["bag", "most"] (spColumns K) := ok_columns T
  have G_l_need : FnOk P w K mg base CX0 2 Z.f_l_need Z.d_l_need ["bag", "columns"] (spNeed K) := ok_need T
  have G_l_needs : FnOk P w K mg base CX0 3 Z.f_l_needs Z.d_l_needs ["bag", "columns", "most"] (spNeeds K) := ok_needs T
  have G_l_renamed : FnOk P w K mg base CX0 1 Z.f_l_renamed Z.d_l_renamed ["columns", "needs"] (spRenamed K) := ok_renamed T
  have G_l_many : FnOk P w K mg base CX0 32 Z.f_l_many Z.d_l_many ["columns", "needs"] (spMany K Z) := ok_many T TB
  have G_serves_need : FnOk P w K mg base CX0 1 Z.f_serves_need Z.d_serves_need ["one", "need"] (spServesNeed K) := ok_servesneed T
  have G_fewest : FnOk P w K mg base CX0 31 Z.f_fewest Z.d_fewest ["columns", "needs"] (spFewest K Z) := ok_fewest T TB
  refine T.F_law.ok sc_law (fun vs H Q E h => ?_) (fun cdv A outer s H vs Q E hr h => ?_)
  · obtain ⟨a, ns, rfl, _⟩ := h
    rfl
  · obtain ⟨a, ns, rfl, hS, hlen, tgA, q⟩ := h
    have tg : TG Z.Ps H := tgA
    refine ⟨_, (pss_cons (ps_set (i := 1) sc_law.nd rfl (.inl rfl) (pe_call G_l_bag (hr.mono (by omega)) (by rfl) T.g_l_bag T.F_l_bag.kp T.b_l_bag .nil pass0 (pa_cons (pv 0) pa_nil)))
      (pss_cons (ps_for PassesOwn.never rfl (pi_range1 (by rfl) T.m_range (pa_cons pe_int pa_nil)) (pg_name (i := 2) sc_law.nd rfl (.inl rfl)) (pss_cons (ps_set (i := 3) sc_law.nd rfl (.inl rfl) (pe_call G_l_columns (hr.mono (by omega)) (by rfl) T.g_l_columns T.F_l_columns.kp T.b_l_columns .nil pass0 (pa_cons (pv 1) (pa_cons (pe_ix (ixL K) (pe_lst (pa_cons pe_int (pa_cons pe_int pa_nil))) (pe_call G_l_lot (hr.mono (by omega)) (by rfl) T.g_l_lot T.F_l_lot.kp T.b_l_lot .nil pass0 (pa_cons (pv 1) (pa_cons pe_int pa_nil))) (fun _ _ => rfl)) pa_nil))))
      (pss_cons (ps_set (i := 4) sc_law.nd rfl (.inl rfl) (pe_call G_l_needs (hr.mono (by omega)) (by rfl) T.g_l_needs T.F_l_needs.kp T.b_l_needs .nil pass0 (pa_cons (pv 1) (pa_cons (pv 3) (pa_cons pe_int pa_nil)))))
      (pss_cons (ps_set (i := 5) sc_law.nd rfl (.inl rfl) (pe_call G_l_many (hr.mono (by omega)) (by rfl) T.g_l_many T.F_l_many.kp T.b_l_many .nil pass0 (pa_cons (pv 3) (pa_cons (pv 4) pa_nil))))
      (pss_cons (ps_set (i := 6) sc_law.nd rfl (.inl rfl) (pe_call G_l_lot (hr.mono (by omega)) (by rfl) T.g_l_lot T.F_l_lot.kp T.b_l_lot .nil pass0 (pa_cons (pv 1) (pa_cons (pe_callB (cLenSq K) (by rfl) T.m_len (by decide +kernel) (pa_cons (pv 4) pa_nil)) pa_nil))))
      (pss_mid (ps_if (PW.pt (pw_or (pt_not (pt_chain op_le op_le pe_int (pv 5) (pe_callB (cLenSq K) (by rfl) T.m_len (by decide +kernel) (pa_cons (pv 4) pa_nil)))) (pw_or1 (pt_cmpR op_ne (pe_call G_l_many (hr.mono (by omega)) (by rfl) T.g_l_many T.F_l_many.kp T.b_l_many .nil pass0 (pa_cons (pv 3) (pa_cons (pe_revL (pv 4)) pa_nil))) (pv 5) (nomark _))))) (pss_one (ps_ret pe_bl)) pss_nil)
      (pss_cons (ps_if (pt_cmpR op_ne (pe_call G_l_many (hr.mono (by omega)) (by rfl) T.g_l_many T.F_l_many.kp T.b_l_many .nil pass0 (pa_cons (pv 3) (pa_cons (pe_op op_cat (pe_slice (slLK K) (pv 4) (po_some (pv 6)) po_none) (pe_slice (slLK K) (pv 4) po_none (po_some (pv 6)))) pa_nil))) (pv 5) (nomark _)) (pss_one (ps_ret pe_bl)) pss_nil)
      (pss_cons (ps_if (pt_cmpR op_ne (pe_call G_l_many (hr.mono (by omega)) (by rfl) T.g_l_many T.F_l_many.kp T.b_l_many .nil pass0 (pa_cons (pv 3) (pa_cons (pe_call G_l_renamed (hr.mono (by omega)) (by rfl) T.g_l_renamed T.F_l_renamed.kp T.b_l_renamed .nil pass0 (pa_cons (pv 3) (pa_cons (pv 4) pa_nil))) pa_nil))) (pv 5) (nomark _)) (pss_one (ps_ret pe_bl)) pss_nil)
      (pss_cons (ps_set (i := 7) sc_law.nd rfl (.inl rfl) (pe_slice (slLK K) (pv 4) po_none (po_some pe_int)))
      (pss_cons (ps_if (pt_cmpR op_ne (pe_call G_l_many (hr.mono (by omega)) (by rfl) T.g_l_many T.F_l_many.kp T.b_l_many .nil pass0 (pa_cons (pv 3) (pa_cons (pe_op op_cat (pv 7) (pv 7)) pa_nil))) (pe_call G_l_many (hr.mono (by omega)) (by rfl) T.g_l_many T.F_l_many.kp T.b_l_many .nil pass0 (pa_cons (pv 3) (pa_cons (pv 7) pa_nil))) (nomark _)) (pss_one (ps_ret pe_bl)) pss_nil)
      (pss_cons (ps_set (i := 7) sc_law.nd rfl (.inl rfl) (pe_op op_cat (pe_slice (slLK K) (pv 4) po_none (po_some (pv 6))) (pe_slice (slLK K) (pv 4) (po_some (pe_op op_add (pv 6) pe_int)) po_none)))
      (pss_mid (ps_if (PW.pt (pw_and (pt_cmpR (neDK K hr.units) (pv 7) (pe_lst pa_nil) (nomark _)) (pw_and1 (pt_not (pt_chain op_le op_le (pe_op op_sub (pv 5) pe_int) (pe_call G_l_many (hr.mono (by omega)) (by rfl) T.g_l_many T.F_l_many.kp T.b_l_many .nil pass0 (pa_cons (pv 3) (pa_cons (pv 7) pa_nil))) (pv 5)))))) (pss_one (ps_ret pe_bl)) pss_nil)
      (pss_cons (ps_set (i := 7) sc_law.nd rfl (.inl rfl) (pe_op op_cat (pv 4) (pe_lst (pa_cons (pe_call G_l_need (hr.mono (by omega)) (by rfl) T.g_l_need T.F_l_need.kp T.b_l_need .nil pass0 (pa_cons (pv 1) (pa_cons (pv 3) pa_nil))) pa_nil))))
      (pss_cons (ps_if (pt_not (pt_chain op_le op_le (pv 5) (pe_call G_l_many (hr.mono (by omega)) (by rfl) T.g_l_many T.F_l_many.kp T.b_l_many .nil pass0 (pa_cons (pv 3) (pa_cons (pv 7) pa_nil))) (pe_op op_add (pv 5) pe_int))) (pss_one (ps_ret pe_bl)) pss_nil)
      (pss_one (ps_for PassesOwn.never rfl (piL K (pe_ix (ixT K) (pe_call G_fewest (hr.mono (by omega)) (by rfl) T.g_fewest T.F_fewest.kp T.b_fewest .nil pass0 (pa_cons (pv 3) (pa_cons (pv 4) pa_nil))) pe_int (fun _ _ => rfl))) (pg_name (i := 8) sc_law.nd rfl (.inr rfl)) (pss_cons (ps_setLc (i := 7) (own := [("need", 9)]) (tt := _) (by rfl) sc_law.nd rfl rfl (sw_true rfl rfl rfl (by decide +kernel)) (piL K (pv 4)) (blkOk_by (own := [("need", 9)]) (by kernel_rfl)) (fun _ _ _ _ _ => (pg_name (i := 9) sc_law.nd rfl (.inl rfl))) (fun _ _ _ _ _ => (pts_one (pt_val (pe_call G_serves_need (hr.mono (by omega)) (by rfl) T.g_serves_need T.F_serves_need.kp T.b_serves_need .nil pass0 (pa_cons (pv 8) (pa_cons (pv 9) pa_nil)))))) (fun _ _ _ _ _ => (pv 9)))
      (pss_one (ps_if (PW.pt (pw_and (pt_cmpR (neDK K hr.units) (pv 7) (pe_lst pa_nil) (nomark _)) (pw_and1 (pt_cmpR op_ne (pe_call G_l_many (hr.mono (by omega)) (by rfl) T.g_l_many T.F_l_many.kp T.b_l_many .nil pass0 (pa_cons (pv 3) (pa_cons (pv 7) pa_nil))) pe_int (nomark _))))) (pss_one (ps_ret pe_bl)) pss_nil)))))))))))))))))))
      (pss_one (ps_ret pe_bl)))), ?_⟩
    refine ⟨.ref a, rfl, a, ns, rfl, hS, hlen, fun b bl H1 sm1 nb nbl hB1 => ?_⟩
    refine ⟨3, rfl, by decide, by decide, for_range (fun i σ H' => ∃ y2 y3 y4 y5 y6 y7 y8 y9 : Option V, σ = [some (.ref a), some (.ref b), y2, y3, y4, y5, y6, y7, y8, y9] ∧ Bag b bl H' ∧ TG Z.Ps H')
      ⟨none, none, none, none, none, none, none, none, rfl, hB1, tg.same sm1⟩ (fun i σ H2 hi hP => ?_) (fun σ H2 hP => q H2)⟩
    obtain ⟨y2, y3, y4, y5, y6, y7, y8, y9, rfl, hB2, tg2⟩ := hP
    refine ⟨.ref b, rfl, (by show 2 ≤ sizeLine; decide), fun t nt => ?_⟩
    have hB3 : Bag b bl (upd H2 t (.lst [.int 4, .int 8])) := hB2.new nt
    have tg3 : TG Z.Ps (upd H2 t (.lst [.int 4, .int 8])) := tg2.new nt
    have ht3 : (upd H2 t (.lst [.int 4, .int 8])) t = some (.lst [.int 4, .int 8]) := upd_same
    have ntb := hB2.ne nt
    generalize upd H2 t (.lst [.int 4, .int 8]) = H3 at hB3 tg3 ht3 ⊢
    refine ⟨.ref b, rfl, b, bl, 2, rfl, hB3, by decide, by decide, fun d H4 kp4 hB4 d0 d1 => ?_⟩
    have tg4 := tg3.kb hB3 kp4
    obtain ⟨m, hm, hat⟩ : ∃ m : Nat, (1 ≤ m ∧ m ≤ 26) ∧ atI [V.int 4, V.int 8] d = some (.int m) := by
      have : d = 0 ∨ d = 1 := by omega
      rcases this with rfl | rfl
      · exact ⟨4, by omega, rfl⟩
      · exact ⟨8, by omega, rfl⟩
    refine ⟨t, _, d, .int m, rfl, rfl, .inl (.inl (kp4 _ _ ntb.1 ht3)), hat, b, bl, m, rfl, hB4, hm.1, hm.2, fun cols H5 kp5 hB5 hc hc1 hc2 => ?_⟩
    have tg5 := tg4.kb hB4 kp5
    refine ⟨.ref b, rfl, tx cols, rfl, b, bl, cols, 10, rfl, hB5, hc, hc1, by omega, by decide, by decide, fun nd na H6 kp6 hB6 nna hnd hn1 hn2 hok => ?_⟩
    have tg6 := tg5.kb hB5 kp6
    have hns : ∀ p, NOk cols p.1 p.2 → NdS p := fun p hp => hp.nds hc (by omega)
    have hno : ∀ p, NOk cols p.1 p.2 → NdOk p := fun p hp => hp.ndok
    have nnb := (hB5.ne nna).1
    obtain ⟨as, hna, nA⟩ := hnd
    have hal := nA.len
    have bPs : b ∉ Z.Ps := by
      obtain ⟨_, _, _, _, h1, _⟩ := hB6
      exact tg6.not h1 fun q z => nomatch z
    -- what stays
    have at_ : ∀ HX, Sx (b :: Z.Ps) H6 HX → HX na = some (.lst (as.map V.ref)) ∧ NA HX as nd := fun HX sx => by
      refine ⟨sx _ _ (fun z => ?_) hna, nA.mono fun c xs hc => sx _ _ (fun z => ?_) hc⟩
      · rcases List.mem_cons.mp z with y | y
        · exact nnb y
        · exact tg6.off na _ (.inr hna) y
      · rcases List.mem_cons.mp z with y | y
        · obtain ⟨_, _, _, _, h1, _⟩ := hB6
          rw [y, h1] at hc
          cases hc
        · exact tg6.off c xs (.inl hc) y
    have kpS : ∀ HX HY, Kp b HX HY → Sx (b :: Z.Ps) HX HY := fun HX HY k c o hc => k c o fun z => hc (by rw [z]; simp)
    refine ⟨tx cols, rfl, .ref na, rfl, tx cols, na, nd, rfl, tg6, ⟨as, hna, nA⟩, fun p hp => hns p (hok p hp), fun p hp => hno p (hok p hp), by omega, fun H7 many sx7 tg7 few => ?_⟩
    have hB7 := hB6.sx tg6 sx7
    have sx7' := sx7.cons b
    obtain ⟨hna7, nA7⟩ := at_ H7 sx7'
    have hne : nd ≠ [] := fun z => by
      rw [z] at hn1
      exact absurd hn1 (by decide)
    have hm1 := few.pos hne
    have hm2 := few.len
    have el : ((as.map V.ref).length : Nat) = nd.length := by rw [List.length_map, hal]
    -- at
    refine ⟨.ref b, rfl, .ref na, rfl, na, _, rfl, .inl (.inl (.inl hna7)), b, bl, _, rfl, hB7, by rw [el]; omega, by rw [el]; omega, fun at0 H8 kp8 hB8 a0 a1 => ?_⟩
    rw [el] at a1
    obtain ⟨k, rfl⟩ : ∃ k : Nat, at0 = (k : Int) := ⟨at0.toNat, by omega⟩
    have hk : k < nd.length := by omega
    have tg8 := tg7.kb hB7 kp8
    have sx8 : Sx (b :: Z.Ps) H6 H8 := sx7'.trans (kpS _ _ kp8)
    obtain ⟨hna8, nA8⟩ := at_ H8 sx8
    have cal : ∀ (HX : Hp) (t : Addr) (bs : List Addr) (nd' : List Nd2), HX t = some (.lst (bs.map V.ref)) → NA HX bs nd' → NdL HX t nd' := fun HX t bs nd' h1 h2 => ⟨bs, h1, h2⟩
    -- turned about
    refine ⟨fun σ H' => σ = [some (.ref a), some (.ref b), some (.int (0 + (i : Nat))), some (tx cols), some (.ref na), some (nV many), some (nV k), y7, y8, y9] ∧ Bag b bl H' ∧ TG Z.Ps H' ∧ Sx (b :: Z.Ps) H6 H', ?_, fun σ H9 hM => ?_⟩
    · refine ⟨nV many, rfl, 1, (many : Int), rfl, rfl, _, rfl, ite2 (fun _ => ?_) (fun e => absurd (decide_eq_true (show (1 : Int) ≤ (many : Int) by omega)) e)⟩
      refine ⟨.ref na, rfl, na, _, rfl, .inl (.inl (.inl hna8)), (many : Int), _, rfl, rfl, _, rfl, ite2 (fun e => ?_) (fun _ => ?_)⟩
      · exfalso
        rw [el] at e
        simp at e
        omega
      · refine ⟨tx cols, rfl, .ref na, rfl, na, _, rfl, .inl (.inl hna8), fun R nR => ?_⟩
        rw [← List.map_reverse]
        refine ⟨tx cols, R, nd.reverse, rfl, tg8.new nR, cal _ R as.reverse _ upd_same (nA8.mono fun c xs hc => keep_new hc nR).rev, fun p hp => hns p (hok p (List.mem_reverse.mp hp)), fun p hp => hno p (hok p (List.mem_reverse.mp hp)), by rw [List.length_reverse]; omega, fun H9 n9 sx9 tg9 few9 => ?_⟩
        have e9 : n9 = many := few.same few9 fun p => (List.mem_reverse).symm
        refine ⟨nV many, rfl, rfl, _, rfl, ite2 (fun e => absurd e (by rw [e9]; simp)) (fun _ => ?_)⟩
        exact ⟨rfl, (hB8.new nR).sx (tg8.new nR) sx9, tg9, (Sx.new sx8 nR).trans (sx9.cons b)⟩
    obtain ⟨rfl, hB9, tg9, sx9⟩ := hM
    obtain ⟨hna9, nA9⟩ := at_ H9 sx9
    -- begun elsewhere
    refine ⟨tx cols, rfl, .ref na, rfl, nV k, rfl, _, rfl, na, _, rfl, .inl (.inl hna9), fun p1 np1 => ?_⟩
    rw [cut_of _ _ (by rw [el]; omega), ← List.map_drop]
    have sm10 : Same H9 (upd H9 p1 (.lst ((as.drop k).map V.ref))) := Same.new (Same.refl H9) np1
    have hp10 : (upd H9 p1 (.lst ((as.drop k).map V.ref))) p1 = some (.lst ((as.drop k).map V.ref)) := upd_same
    generalize upd H9 p1 (.lst ((as.drop k).map V.ref)) = H10 at sm10 hp10 ⊢
    refine ⟨.ref na, rfl, nV k, rfl, _, rfl, na, _, rfl, .inl (.inl (sm10 _ _ hna9)), fun p2 np2 => ?_⟩
    rw [cut_to, ← List.map_take]
    have sm11 : Same H9 (upd H10 p2 (.lst ((as.take k).map V.ref))) := Same.new sm10 np2
    have hp11 : (upd H10 p2 (.lst ((as.take k).map V.ref))) p1 = some (.lst ((as.drop k).map V.ref)) := keep_new hp10 np2
    have hq11 : (upd H10 p2 (.lst ((as.take k).map V.ref))) p2 = some (.lst ((as.take k).map V.ref)) := upd_same
    generalize upd H10 p2 (.lst ((as.take k).map V.ref)) = H11 at sm11 hp11 hq11 ⊢
    have l1 : (as.drop k).length + (as.take k).length ≤ 10 := by rw [List.length_drop, List.length_take]; omega
    refine ⟨p1, p2, _, _, rfl, rfl, hp11, hq11, by rw [List.length_map, List.length_map]; exact Nat.le_of_lt (small1000 (by omega)), fun p3 np3 => ?_⟩
    rw [← List.map_append]
    have sm12 : Same H9 (upd H11 p3 (.lst ((as.drop k ++ as.take k).map V.ref))) := Same.new sm11 np3
    have rot : ∀ p, p ∈ nd ↔ p ∈ nd.drop k ++ nd.take k := fun p => by
      rw [List.mem_append, Or.comm, ← List.mem_append, List.take_append_drop]
    refine ⟨tx cols, p3, nd.drop k ++ nd.take k, rfl, tg9.same sm12, cal _ p3 _ _ upd_same ((nA9.same sm12).drop k |>.cat ((nA9.same sm12).take k)), fun p hp => hns p (hok p ((rot p).mpr hp)), fun p hp => hno p (hok p ((rot p).mpr hp)), by rw [List.length_append, List.length_drop, List.length_take]; omega, fun H13 n13 sx13 tg13 few13 => ?_⟩
    have e13 : n13 = many := few.same few13 rot
    refine ⟨nV many, rfl, rfl, _, rfl, ite2 (fun e => absurd e (by rw [e13]; simp)) (fun _ => ?_)⟩
    have hB13 := (hB9.same sm12).sx (tg9.same sm12) sx13
    have sx13' : Sx (b :: Z.Ps) H6 H13 := (sx9.trans (Same.sx sm12)).trans (sx13.cons b)
    obtain ⟨hna13, nA13⟩ := at_ H13 sx13'
    -- by other letters
    refine ⟨tx cols, rfl, tx cols, rfl, .ref na, rfl, cols, na, nd, rfl, hc, by omega, ⟨as, hna13, nA13⟩, by omega, hok, fun nd' p4 H14 sm14 hnd14 ren hok14 => ?_⟩
    refine ⟨tx cols, p4, nd', rfl, tg13.same sm14, hnd14, fun p hp => hns p (hok14 p hp), fun p hp => hno p (hok14 p hp), by rw [ren.len]; omega, fun H15 n15 sx15 tg15 few15 => ?_⟩
    have e15 : n15 = many := Few.ren (mir_ren hc.nd) ren (fun p hp => (hok p hp).all) few few15
    refine ⟨nV many, rfl, rfl, _, rfl, ite2 (fun e => absurd e (by rw [e15]; simp)) (fun _ => ?_)⟩
    have hB15 := (hB13.same sm14).sx (tg13.same sm14) sx15
    have sx15' : Sx (b :: Z.Ps) H6 H15 := (sx13'.trans (Same.sx sm14)).trans (sx15.cons b)
    obtain ⟨hna15, nA15⟩ := at_ H15 sx15'
    -- told twice
    refine ⟨.ref na, rfl, _, rfl, na, _, rfl, .inl (.inl hna15), fun p5 np5 => ?_⟩
    rw [show (some (6 : Int)) = some ((6 : Nat) : Int) from rfl, cut_to, ← List.map_take]
    have sm16 : Same H15 (upd H15 p5 (.lst ((as.take 6).map V.ref))) := Same.new (Same.refl H15) np5
    have hp16 : (upd H15 p5 (.lst ((as.take 6).map V.ref))) p5 = some (.lst ((as.take 6).map V.ref)) := upd_same
    generalize upd H15 p5 (.lst ((as.take 6).map V.ref)) = H16 at sm16 hp16 ⊢
    have nS16 : NA H16 (as.take 6) (nd.take 6) := (nA15.same sm16).take 6
    have l6 : (as.take 6).length ≤ 6 := by rw [List.length_take]; omega
    have m6 : (nd.take 6).length ≤ 6 := by rw [List.length_take]; omega
    have ok6 : ∀ p ∈ nd.take 6, NOk cols p.1 p.2 := fun p hp => hok p (List.mem_of_mem_take hp)
    refine ⟨tx cols, rfl, .ref p5, rfl, .ref p5, rfl, p5, p5, _, _, rfl, rfl, hp16, hp16, by rw [List.length_map]; exact Nat.le_of_lt (small1000 (by omega)), fun p6 np6 => ?_⟩
    rw [← List.map_append]
    have sm17 : Same H16 (upd H16 p6 (.lst ((as.take 6 ++ as.take 6).map V.ref))) := Same.new (Same.refl H16) np6
    have dbl : ∀ p, p ∈ nd.take 6 ↔ p ∈ nd.take 6 ++ nd.take 6 := fun p => by rw [List.mem_append, or_self]
    have tg17 := (tg15.same sm16).same sm17
    refine ⟨tx cols, p6, nd.take 6 ++ nd.take 6, rfl, tg17, cal _ p6 _ _ upd_same ((nS16.same sm17).cat (nS16.same sm17)), fun p hp => hns p (ok6 p ((dbl p).mpr hp)), fun p hp => hno p (ok6 p ((dbl p).mpr hp)), by rw [List.length_append]; omega, fun H18 n18 sx18 tg18 few18 => ?_⟩
    have hB17 := (hB15.same sm16).same sm17
    have hB18 := hB17.sx tg17 sx18
    have hp17 := sm17 _ _ hp16
    have hp18 := sx18 _ _ (tg17.off p5 _ (.inr hp17)) hp17
    have nS18 : NA H18 (as.take 6) (nd.take 6) := (nS16.same sm17).mono fun c xs hc => sx18 _ _ (tg17.off c xs (.inl hc)) hc
    have sx18' : Sx (b :: Z.Ps) H6 H18 := (sx15'.trans (Same.sx (Same.trans sm16 sm17))).trans (sx18.cons b)
    refine ⟨tx cols, rfl, .ref p5, rfl, tx cols, p5, nd.take 6, rfl, tg18, cal _ p5 _ _ hp18 nS18, fun p hp => hns p (ok6 p hp), fun p hp => hno p (ok6 p hp), by omega, fun H19 n19 sx19 tg19 few19 => ?_⟩
    have e19 : n18 = n19 := few19.same few18 dbl
    refine ⟨rfl, _, rfl, ite2 (fun e => absurd e (by rw [e19]; simp)) (fun _ => ?_)⟩
    have hB19 := hB18.sx tg18 sx19
    have sx19' : Sx (b :: Z.Ps) H6 H19 := sx18'.trans (sx19.cons b)
    obtain ⟨hna19, nA19⟩ := at_ H19 sx19'
    -- without one
    refine ⟨.ref na, rfl, nV k, rfl, _, rfl, na, _, rfl, .inl (.inl hna19), fun p7 np7 => ?_⟩
    rw [cut_to, ← List.map_take]
    have sm20 : Same H19 (upd H19 p7 (.lst ((as.take k).map V.ref))) := Same.new (Same.refl H19) np7
    have hp20 : (upd H19 p7 (.lst ((as.take k).map V.ref))) p7 = some (.lst ((as.take k).map V.ref)) := upd_same
    generalize upd H19 p7 (.lst ((as.take k).map V.ref)) = H20 at sm20 hp20 ⊢
    refine ⟨.ref na, rfl, nV k, rfl, (k : Int), 1, rfl, rfl, _, rfl, na, _, rfl, .inl (.inl (sm20 _ _ hna19)), fun p8 np8 => ?_⟩
    rw [show ((k : Nat) : Int) + 1 = ((k + 1 : Nat) : Int) from rfl, cut_of _ _ (by rw [el]; omega), ← List.map_drop]
    have sm21 : Same H19 (upd H20 p8 (.lst ((as.drop (k + 1)).map V.ref))) := Same.new sm20 np8
    have hp21 : (upd H20 p8 (.lst ((as.drop (k + 1)).map V.ref))) p7 = some (.lst ((as.take k).map V.ref)) := keep_new hp20 np8
    have hq21 : (upd H20 p8 (.lst ((as.drop (k + 1)).map V.ref))) p8 = some (.lst ((as.drop (k + 1)).map V.ref)) := upd_same
    generalize upd H20 p8 (.lst ((as.drop (k + 1)).map V.ref)) = H21 at sm21 hp21 hq21 ⊢
    have l2 : (as.take k).length + (as.drop (k + 1)).length ≤ 10 := by rw [List.length_drop, List.length_take]; omega
    refine ⟨p7, p8, _, _, rfl, rfl, hp21, hq21, by rw [List.length_map, List.length_map]; exact Nat.le_of_lt (small1000 (by omega)), fun p9 np9 => ?_⟩
    rw [← List.map_append]
    have sm22 : Same H19 (upd H21 p9 (.lst ((as.take k ++ as.drop (k + 1)).map V.ref))) := Same.new sm21 np9
    have hp22 : (upd H21 p9 (.lst ((as.take k ++ as.drop (k + 1)).map V.ref))) p9 = some (.lst ((as.take k ++ as.drop (k + 1)).map V.ref)) := upd_same
    generalize upd H21 p9 (.lst ((as.take k ++ as.drop (k + 1)).map V.ref)) = H22 at sm22 hp22 ⊢
    have nS22 : NA H22 (as.take k ++ as.drop (k + 1)) (nd.take k ++ nd.drop (k + 1)) := ((nA19.same sm22).take k).cat ((nA19.same sm22).drop (k + 1))
    have tg22 := tg19.same sm22
    have hB22 := hB19.same sm22
    have sx22 : Sx (b :: Z.Ps) H6 H22 := sx19'.trans (Same.sx sm22)
    have esp : nd = nd.take k ++ nd[k] :: nd.drop (k + 1) := by rw [← List.drop_eq_getElem_cons hk, List.take_append_drop]
    have sub : ∀ p ∈ nd.take k ++ nd.drop (k + 1), p ∈ nd := fun p hp => by
      rcases List.mem_append.mp hp with z | z
      · exact List.mem_of_mem_take z
      · exact List.mem_of_mem_drop z
    have sup : ∀ p ∈ nd, p ∈ nd.take k ++ nd.drop (k + 1) ∨ p = nd[k] := fun p hp => by
      rw [esp] at hp
      rcases List.mem_append.mp hp with z | z
      · exact .inl (List.mem_append_left _ z)
      · rcases List.mem_cons.mp z with y | y
        · exact .inr y
        · exact .inl (List.mem_append_right _ y)
    have lw : (nd.take k ++ nd.drop (k + 1)).length ≤ 10 := by rw [List.length_append, List.length_take, List.length_drop]; omega
    refine ⟨fun σ H' => σ = [some (.ref a), some (.ref b), some (.int (0 + (i : Nat))), some (tx cols), some (.ref na), some (nV many), some (nV k), some (.ref p9), y8, y9] ∧ Bag b bl H' ∧ TG Z.Ps H' ∧ Sx (b :: Z.Ps) H6 H', ?_, fun σ H23 hM => ?_⟩
    · refine ⟨.ref p9, rfl, (by show 0 ≤ sizeLine; decide), fun N nN => ?_⟩
      have sm23 : Same H22 (upd H22 N (.lst [])) := Same.new (Same.refl H22) nN
      have hN23 : (upd H22 N (.lst [])) N = some (.lst []) := upd_same
      generalize upd H22 N (.lst []) = H23 at sm23 hN23 ⊢
      refine ⟨_, _, .lst (.inl (.inl (sm23 _ _ hp22))) (nS22.same sm23).dp, .lst (.inl (.inl hN23)) (NA.dp .nil), shaped_nds (fun p hp => hns p (hok p (sub p hp))), rfl, _, rfl, ?_⟩
      rw [eqv_nds]
      refine ite2 (fun e => ?_) (fun e => ⟨rfl, hB22.same sm23, tg22.same sm23, sx22.trans (Same.sx sm23)⟩)
      refine ⟨nV many, rfl, (many : Int), 1, rfl, rfl, tx cols, rfl, .ref p9, rfl, tx cols, p9, _, rfl, tg22.same sm23, cal _ p9 _ _ (sm23 _ _ hp22) (nS22.same sm23), fun p hp => hns p (hok p (sub p hp)), fun p hp => hno p (hok p (sub p hp)), by omega, fun H24 n24 sx24 tg24 few24 => ?_⟩
      have e24 : n24 ≤ many ∧ many ≤ n24 + 1 := ⟨few24.sub few sub, few24.more few sup⟩
      refine ⟨(many : Int) - 1, (n24 : Int), rfl, rfl, _, rfl, ite2 (fun _ => ?_) (fun e => absurd (decide_eq_true (show (many : Int) - 1 ≤ (n24 : Int) by omega)) e)⟩
      refine ⟨nV many, rfl, (n24 : Int), (many : Int), rfl, rfl, _, rfl, ite2 (fun e => ?_) (fun _ => ?_)⟩
      · exfalso
        simp at e
        omega
      · exact ⟨rfl, (hB22.same sm23).sx (tg22.same sm23) sx24, tg24, (sx22.trans (Same.sx sm23)).trans (sx24.cons b)⟩
    obtain ⟨rfl, hB23, tg23, sx23⟩ := hM
    obtain ⟨hna23, nA23⟩ := at_ H23 sx23
    -- with one more
    refine ⟨.ref na, rfl, .ref b, rfl, tx cols, rfl, b, bl, cols, rfl, hB23, hc, hc1, by omega, fun es rc v H24 kp24 hB24 nv hv hokv => ?_⟩
    have tg24 := tg23.kb hB23 kp24
    have sx24 : Sx (b :: Z.Ps) H6 H24 := sx23.trans (kpS _ _ kp24)
    obtain ⟨hna24, nA24⟩ := at_ H24 sx24
    refine ⟨(by show 1 ≤ sizeLine; decide), fun l1 nl1 => ?_⟩
    have sm25 : Same H24 (upd H24 l1 (.lst [.ref v])) := Same.new (Same.refl H24) nl1
    have hl25 : (upd H24 l1 (.lst [.ref v])) l1 = some (.lst [.ref v]) := upd_same
    generalize upd H24 l1 (.lst [.ref v]) = H25 at sm25 hl25 ⊢
    refine ⟨na, l1, _, _, rfl, rfl, sm25 _ _ hna24, hl25, by rw [el]; exact Nat.le_of_lt (small1000 (show nd.length + 1 ≤ 1000 by omega)), fun p10 np10 => ?_⟩
    have sm26 : Same H24 (upd H25 p10 (.lst (as.map V.ref ++ [.ref v]))) := Same.new sm25 np10
    have hp26 : (upd H25 p10 (.lst (as.map V.ref ++ [.ref v]))) p10 = some (.lst ((as ++ [v]).map V.ref)) := by
      rw [upd_same, List.map_append]
      rfl
    generalize upd H25 p10 (.lst (as.map V.ref ++ [.ref v])) = H26 at sm26 hp26 ⊢
    have nS26 : NA H26 (as ++ [v]) (nd ++ [(es, rc)]) := (nA24.same sm26).snoc (sm26 _ _ hv)
    have okm : ∀ p ∈ nd ++ [(es, rc)], NOk cols p.1 p.2 := fun p hp => by
      rcases List.mem_append.mp hp with z | z
      · exact hok p z
      · rw [List.mem_singleton.mp z]
        exact hokv
    have tg26 := tg24.same sm26
    have hB26 := hB24.same sm26
    have sx26 : Sx (b :: Z.Ps) H6 H26 := sx24.trans (Same.sx sm26)
    refine ⟨nV many, rfl, tx cols, rfl, .ref p10, rfl, tx cols, p10, _, rfl, tg26, cal _ p10 _ _ hp26 nS26, fun p hp => hns p (okm p hp), fun p hp => hno p (okm p hp), by rw [List.length_append, List.length_singleton]; omega, fun H27 n27 sx27 tg27 few27 => ?_⟩
    have e27 : many ≤ n27 ∧ n27 ≤ many + 1 := ⟨few.sub few27 fun p hp => List.mem_append_left _ hp, few.more few27 fun p hp => by
      rcases List.mem_append.mp hp with z | z
      · exact .inl z
      · exact .inr (List.mem_singleton.mp z)⟩
    refine ⟨(many : Int), (n27 : Int), rfl, rfl, _, rfl, ite2 (fun _ => ?_) (fun e => absurd (decide_eq_true (show (many : Int) ≤ (n27 : Int) by omega)) e)⟩
    refine ⟨nV many, rfl, (many : Int), 1, rfl, rfl, (n27 : Int), (many : Int) + 1, rfl, rfl, _, rfl, ite2 (fun e => ?_) (fun _ => ?_)⟩
    · exfalso
      simp at e
      omega
    have hB27 := hB26.sx tg26 sx27
    have sx27' : Sx (b :: Z.Ps) H6 H27 := sx26.trans (sx27.cons b)
    obtain ⟨hna27, nA27⟩ := at_ H27 sx27'
    -- those of one list
    refine ⟨tx cols, rfl, .ref na, rfl, tx cols, na, nd, rfl, tg27, ⟨as, hna27, nA27⟩, fun p hp => hns p (hok p hp), fun p hp => hno p (hok p hp), by omega, fun H28 fa la ta ls ap sx28 tg28 np nla nta hfa hla hta fok => ?_⟩
    have hB28 := hB27.sx tg27 sx28
    have sx28' : Sx (b :: Z.Ps) H6 H28 := sx27'.trans (sx28.cons b)
    have laB : la ≠ b := by
      obtain ⟨_, _, _, _, h1, _⟩ := hB27
      exact fun z => by
        rw [z, h1] at nla
        cases nla
    refine ⟨fa, [.ref la, .ref ta], 0, .ref la, rfl, rfl, .inl (.inl hfa), rfl, la, rfl, ⟨_, .inl (.inl hla)⟩, for_list (xs := ls.map tx) (fun j σ H' => ∃ y7 y8 y9 : Option V, σ = [some (.ref a), some (.ref b), some (.int (0 + (i : Nat))), some (tx cols), some (.ref na), some (nV many), some (nV k), y7, y8, y9] ∧ Bag b bl H' ∧ TG Z.Ps H' ∧ Sx (b :: Z.Ps) H6 H' ∧ H' la = some (.lst (ls.map tx)))
      ⟨_, _, _, rfl, hB28, tg28, sx28', hla⟩ (fun j σ H' _ hP => by
        obtain ⟨_, _, _, _, _, _, _, h⟩ := hP
        exact .inl (.inl h)) (fun j x σ H29 hx hP => ?_) (fun σ H29 hP => ?_)⟩
    · obtain ⟨y7, y8, y9, rfl, hB29, tg29, sx29, hla29⟩ := hP
      rw [List.getElem?_map] at hx
      obtain ⟨l, hl, rfl⟩ := Option.map_eq_some_iff.mp hx
      have hlm := List.mem_of_getElem? hl
      obtain ⟨hl1, hl2, _⟩ := fok.lst l hlm
      have hlc : ∀ c ∈ l, c ∈ cols := fun c hc => by
        obtain ⟨p, hp, h⟩ := hl2 c hc
        exact (hok p hp).all c h
      have hll : l.length ≤ 26 := by
        have := nodup_sub_len hl1 hlc
        omega
      have hz : ∀ c ∈ cols, c ≤ 122 := fun c h => (hc.az c h).2
      obtain ⟨hna29, nA29⟩ := at_ H29 sx29
      refine ⟨.ref na, rfl, na, rfl, ⟨_, .inl (.inl hna29)⟩, fun D nD => lc_list (xs := as.map V.ref) (fun j H' => Same H29 H' ∧ ∃ bs, H' D = some (.lst (bs.map V.ref)) ∧ NA H' bs ((nd.take j).filter fun p => snM l p.1 p.2))
        ⟨Same.new (Same.refl H29) nD, [], upd_same, (by rw [List.take_zero]; exact .nil)⟩ (fun j H' _ hP => .inl (.inl (hP.1 _ _ hna29))) (fun j x H30 hx hP => ?_) (fun H30 hP => ?_)⟩
      · obtain ⟨sm30, bs, hD30, nB30⟩ := hP
        rw [List.getElem?_map] at hx
        obtain ⟨c, hcc, rfl⟩ := Option.map_eq_some_iff.mp hx
        have hj : j < nd.length := by
          have := (List.getElem?_eq_some_iff.mp hcc).1
          omega
        obtain ⟨p, hp⟩ : ∃ p, nd[j]? = some p := ⟨nd[j], List.getElem?_eq_getElem hj⟩
        have ep : nd[j] = p := (List.getElem?_eq_some_iff.mp hp).2
        obtain ⟨a', ha', hao⟩ := nA29.at hp
        rw [hcc] at ha'
        cases ha'
        have hpo := hok p (List.mem_of_getElem? hp)
        have pl := (hns p hpo).l1
        have hbl := nB30.len
        refine ⟨rfl, tx l, rfl, .ref c, rfl, l, p.1, p.2, c, rfl, sm30 _ _ hao, by omega, by omega, fun c h => hz c (hlc c h), fun c h => hz c (hpo.sub c h), fun H31 sm31 => ⟨_, rfl, ite2 (fun e => ?_) (fun e => ?_)⟩⟩
        · refine ⟨.ref c, rfl, _, sm31 _ _ hD30, ?_, Same.mut (Same.trans sm30 sm31) nD, bs ++ [c], ?_, ?_⟩
          · rw [List.length_map, hbl]
            have := List.length_filter_le (fun p : Nd2 => snM l p.1 p.2) (nd.take j)
            rw [List.length_take] at this
            exact small1000 (by omega)
          · rw [upd_same, List.map_append]
            rfl
          · rw [List.take_succ_eq_append_getElem hj, ep, List.filter_append, List.filter_cons, if_pos e, List.filter_nil]
            refine NA.snoc (nB30.mono fun b xs hb => keep_ne (sm31 _ _ hb) fun z => ?_) (keep_ne (sm31 _ _ (sm30 _ _ hao)) fun z => ?_)
            · rw [z, hD30] at hb
              cases hb
            · rw [← z, sm30 _ _ hao] at hD30
              cases hD30
        · refine ⟨Same.trans sm30 sm31, bs, sm31 _ _ hD30, ?_⟩
          rw [List.take_succ_eq_append_getElem hj, ep, List.filter_append, List.filter_cons, if_neg e, List.filter_nil, List.append_nil]
          exact nB30.same sm31
      · obtain ⟨sm30, bs, hD30, nB30⟩ := hP
        rw [List.length_map, hal, List.take_of_length_le (Nat.le_refl _)] at nB30
        have fsub : ∀ p ∈ nd.filter (fun p => snM l p.1 p.2), p ∈ nd := fun p hp => (List.mem_filter.mp hp).1
        have flen : (nd.filter (fun p => snM l p.1 p.2)).length ≤ 10 := Nat.le_trans (List.length_filter_le _ _) hn2
        have tg30 := tg29.same sm30
        have hB30 := hB29.same sm30
        have hla30 := sm30 _ _ hla29
        have sx30 : Sx (b :: Z.Ps) H6 H30 := sx29.trans (Same.sx sm30)
        refine ⟨.ref D, rfl, (by show 0 ≤ sizeLine; decide), fun N nN => ?_⟩
        have sm31 : Same H30 (upd H30 N (.lst [])) := Same.new (Same.refl H30) nN
        have hN31 : (upd H30 N (.lst [])) N = some (.lst []) := upd_same
        generalize upd H30 N (.lst []) = H31 at sm31 hN31 ⊢
        have tg31 := tg30.same sm31
        refine ⟨_, _, .lst (.inl (.inl (sm31 _ _ hD30))) (nB30.same sm31).dp, .lst (.inl (.inl hN31)) (NA.dp .nil), shaped_nds (fun p hp => hns p (hok p (fsub p hp))), rfl, _, rfl, ?_⟩
        rw [eqv_nds]
        refine ite2 (fun e => ?_) (fun e => ⟨_, _, _, rfl, hB30.same sm31, tg31, sx30.trans (Same.sx sm31), sm31 _ _ hla30⟩)
        have fne : nd.filter (fun p => snM l p.1 p.2) ≠ [] := by simpa using e
        refine ⟨tx cols, rfl, .ref D, rfl, tx cols, D, _, rfl, tg31, cal _ D _ _ (sm31 _ _ hD30) (nB30.same sm31), fun p hp => hns p (hok p (fsub p hp)), fun p hp => hno p (hok p (fsub p hp)), by omega, fun H32 n32 sx32 tg32 few32 => ?_⟩
        have e32 : n32 = 1 := few32.one (l := l) fne fun p hp => sn_srv (List.mem_filter.mp hp).2
        refine ⟨rfl, _, rfl, ite2 (fun e => absurd e (by rw [e32]; simp)) (fun _ => ?_)⟩
        have hla31 := sm31 _ _ hla30
        exact ⟨_, _, _, rfl, (hB30.same sm31).sx tg31 sx32, tg32, (sx30.trans (Same.sx sm31)).trans (sx32.cons b), sx32 _ _ (tg31.off la _ (.inr hla31)) hla31⟩
    · obtain ⟨y7, y8, y9, rfl, hB29, tg29, _, _⟩ := hP
      exact ⟨_, _, _, _, _, _, _, _, rfl, hB29, tg29⟩

end

theorem all_mk {l : PySem.W.OpenLaw} {q : Program} {w : World} {K : PySem.W.Frag} {h : Heap} {mg : Str → Option Value} {fa : Addr} (X : K.In h) (G : h.Ns mainGlobals mg) (hfa : mg "law" = some (.ref fa))
    (own : ∀ (nm : Str) (fb : Addr), ((recsOf q).any fun e => e.name == nm) = true → mg nm = some (.ref fb) → OwnTC K fb h)
    {oc0 kv0 dc0 pm0 cd0 ct0 : Value} {od0 an0 : Option Addr} {sl0 : Array (Option Value)} {f0 : Addr}
    {oc1 kv1 dc1 pm1 ct1 : Value} {od1 an1 : Option Addr} {sl1 : Array (Option Value)} {f1 : Addr}
    {c1 P1 : Addr} {ec1 : Value} {ed1 : Option Addr} {ev1 : Array Value} {es1 : Array (Option Value)}
    {oc2 kv2 dc2 pm2 cd2 ct2 : Value} {od2 an2 : Option Addr} {sl2 : Array (Option Value)} {f2 : Addr}
    {oc3 kv3 dc3 pm3 cd3 ct3 : Value} {od3 an3 : Option Addr} {sl3 : Array (Option Value)} {f3 : Addr}
    {oc4 kv4 dc4 pm4 cd4 ct4 : Value} {od4 an4 : Option Addr} {sl4 : Array (Option Value)} {f4 : Addr}
    {oc5 kv5 dc5 pm5 cd5 ct5 : Value} {od5 an5 : Option Addr} {sl5 : Array (Option Value)} {f5 : Addr}
    {oc6 kv6 dc6 pm6 cd6 ct6 : Value} {od6 an6 : Option Addr} {sl6 : Array (Option Value)} {f6 : Addr}
    {oc7 kv7 dc7 pm7 ct7 : Value} {od7 an7 : Option Addr} {sl7 : Array (Option Value)} {f7 : Addr}
    {c7 P7 : Addr} {ec7 : Value} {ed7 : Option Addr} {ev7 : Array Value} {es7 : Array (Option Value)}
    {oc8 kv8 dc8 pm8 cd8 ct8 : Value} {od8 an8 : Option Addr} {sl8 : Array (Option Value)} {f8 : Addr}
    {oc9 kv9 dc9 pm9 cd9 ct9 : Value} {od9 an9 : Option Addr} {sl9 : Array (Option Value)} {f9 : Addr}
    {oc10 kv10 dc10 pm10 cd10 ct10 : Value} {od10 an10 : Option Addr} {sl10 : Array (Option Value)} {f10 : Addr}
    {oc11 kv11 dc11 pm11 cd11 ct11 : Value} {od11 an11 : Option Addr} {sl11 : Array (Option Value)} {f11 : Addr}
    {oc12 kv12 dc12 pm12 cd12 ct12 : Value} {od12 an12 : Option Addr} {sl12 : Array (Option Value)} {f12 : Addr}
    {oc13 kv13 dc13 pm13 cd13 ct13 : Value} {od13 an13 : Option Addr} {sl13 : Array (Option Value)} {f13 : Addr}
    {oc14 kv14 dc14 pm14 cd14 ct14 : Value} {od14 an14 : Option Addr} {sl14 : Array (Option Value)} {f14 : Addr}
    {oc15 kv15 dc15 pm15 cd15 ct15 : Value} {od15 an15 : Option Addr} {sl15 : Array (Option Value)} {f15 : Addr}
    (a0 : PySem.W.nsIn K mainGlobals "serves_need" = some (some (.ref f0)))
    (l0 : K.lookup f0 = some ⟨oc0, od0, .func (PySem.W.fnOf "serves_need" "serves_need" (defArgs s_serves_need) (defBody s_serves_need) (defScope s_serves_need) .none kv0 dc0 pm0 an0 cd0 ct0), sl0⟩)
    (c0_ : PySem.W.codeIn K cd0 "serves_need" = true) (k0 : PySem.W.keepIn K (.ref f0) = true)
    (a1 : PySem.W.nsIn K mainGlobals "is_ahead" = some (some (.ref f1)))
    (l1 : K.lookup f1 = some ⟨oc1, od1, .func (PySem.W.fnOf "is_ahead" "is_ahead" (defArgs s_is_ahead) (defBody s_is_ahead) (defScope s_is_ahead) .none kv1 dc1 pm1 an1 (.ref c1) ct1), sl1⟩)
    (c1_ : PySem.W.codeIn K (.ref c1) "is_ahead" = true) (k1 : PySem.W.keepIn K (.ref f1) = true)
    (lc1 : K.lookup c1 = some ⟨ec1, ed1, .fields ev1, es1⟩) (vc1 : ev1[11]? = some (.ref P1)) (np1 : K.lookup P1 = none) (rc1 : ((recsOf q).any fun e => e.name == "is_ahead") = true)
    (a2 : PySem.W.nsIn K mainGlobals "find_behind" = some (some (.ref f2)))
    (l2 : K.lookup f2 = some ⟨oc2, od2, .func (PySem.W.fnOf "find_behind" "find_behind" (defArgs s_find_behind) (defBody s_find_behind) (defScope s_find_behind) .none kv2 dc2 pm2 an2 cd2 ct2), sl2⟩)
    (c2_ : PySem.W.codeIn K cd2 "find_behind" = true) (k2 : PySem.W.keepIn K (.ref f2) = true)
    (a3 : PySem.W.nsIn K mainGlobals "fewest_chains" = some (some (.ref f3)))
    (l3 : K.lookup f3 = some ⟨oc3, od3, .func (PySem.W.fnOf "fewest_chains" "fewest_chains" (defArgs s_fewest_chains) (defBody s_fewest_chains) (defScope s_fewest_chains) .none kv3 dc3 pm3 an3 cd3 ct3), sl3⟩)
    (c3_ : PySem.W.codeIn K cd3 "fewest_chains" = true) (k3 : PySem.W.keepIn K (.ref f3) = true)
    (a4 : PySem.W.nsIn K mainGlobals "chain_to" = some (some (.ref f4)))
    (l4 : K.lookup f4 = some ⟨oc4, od4, .func (PySem.W.fnOf "chain_to" "chain_to" (defArgs s_chain_to) (defBody s_chain_to) (defScope s_chain_to) .none kv4 dc4 pm4 an4 cd4 ct4), sl4⟩)
    (c4_ : PySem.W.codeIn K cd4 "chain_to" = true) (k4 : PySem.W.keepIn K (.ref f4) = true)
    (a5 : PySem.W.nsIn K mainGlobals "list_for" = some (some (.ref f5)))
    (l5 : K.lookup f5 = some ⟨oc5, od5, .func (PySem.W.fnOf "list_for" "list_for" (defArgs s_list_for) (defBody s_list_for) (defScope s_list_for) .none kv5 dc5 pm5 an5 cd5 ct5), sl5⟩)
    (c5_ : PySem.W.codeIn K cd5 "list_for" = true) (k5 : PySem.W.keepIn K (.ref f5) = true)
    (a6 : PySem.W.nsIn K mainGlobals "apart_of" = some (some (.ref f6)))
    (l6 : K.lookup f6 = some ⟨oc6, od6, .func (PySem.W.fnOf "apart_of" "apart_of" (defArgs s_apart_of) (defBody s_apart_of) (defScope s_apart_of) .none kv6 dc6 pm6 an6 cd6 ct6), sl6⟩)
    (c6_ : PySem.W.codeIn K cd6 "apart_of" = true) (k6 : PySem.W.keepIn K (.ref f6) = true)
    (a7 : PySem.W.nsIn K mainGlobals "fewest" = some (some (.ref f7)))
    (l7 : K.lookup f7 = some ⟨oc7, od7, .func (PySem.W.fnOf "fewest" "fewest" (defArgs s_fewest) (defBody s_fewest) (defScope s_fewest) .none kv7 dc7 pm7 an7 (.ref c7) ct7), sl7⟩)
    (c7_ : PySem.W.codeIn K (.ref c7) "fewest" = true) (k7 : PySem.W.keepIn K (.ref f7) = true)
    (lc7 : K.lookup c7 = some ⟨ec7, ed7, .fields ev7, es7⟩) (vc7 : ev7[11]? = some (.ref P7)) (np7 : K.lookup P7 = none) (rc7 : ((recsOf q).any fun e => e.name == "fewest") = true)
    (a8 : PySem.W.nsIn K mainGlobals "_law_bag" = some (some (.ref f8)))
    (l8 : K.lookup f8 = some ⟨oc8, od8, .func (PySem.W.fnOf "_law_bag" "_law_bag" (defArgs s_l_bag) (defBody s_l_bag) (defScope s_l_bag) .none kv8 dc8 pm8 an8 cd8 ct8), sl8⟩)
    (c8_ : PySem.W.codeIn K cd8 "_law_bag" = true) (k8 : PySem.W.keepIn K (.ref f8) = true)
    (a9 : PySem.W.nsIn K mainGlobals "_law_lot" = some (some (.ref f9)))
    (l9 : K.lookup f9 = some ⟨oc9, od9, .func (PySem.W.fnOf "_law_lot" "_law_lot" (defArgs s_l_lot) (defBody s_l_lot) (defScope s_l_lot) .none kv9 dc9 pm9 an9 cd9 ct9), sl9⟩)
    (c9_ : PySem.W.codeIn K cd9 "_law_lot" = true) (k9 : PySem.W.keepIn K (.ref f9) = true)
    (a10 : PySem.W.nsIn K mainGlobals "_law_columns" = some (some (.ref f10)))
    (l10 : K.lookup f10 = some ⟨oc10, od10, .func (PySem.W.fnOf "_law_columns" "_law_columns" (defArgs s_l_columns) (defBody s_l_columns) (defScope s_l_columns) .none kv10 dc10 pm10 an10 cd10 ct10), sl10⟩)
    (c10_ : PySem.W.codeIn K cd10 "_law_columns" = true) (k10 : PySem.W.keepIn K (.ref f10) = true)
    (a11 : PySem.W.nsIn K mainGlobals "_law_need" = some (some (.ref f11)))
    (l11 : K.lookup f11 = some ⟨oc11, od11, .func (PySem.W.fnOf "_law_need" "_law_need" (defArgs s_l_need) (defBody s_l_need) (defScope s_l_need) .none kv11 dc11 pm11 an11 cd11 ct11), sl11⟩)
    (c11_ : PySem.W.codeIn K cd11 "_law_need" = true) (k11 : PySem.W.keepIn K (.ref f11) = true)
    (a12 : PySem.W.nsIn K mainGlobals "_law_needs" = some (some (.ref f12)))
    (l12 : K.lookup f12 = some ⟨oc12, od12, .func (PySem.W.fnOf "_law_needs" "_law_needs" (defArgs s_l_needs) (defBody s_l_needs) (defScope s_l_needs) .none kv12 dc12 pm12 an12 cd12 ct12), sl12⟩)
    (c12_ : PySem.W.codeIn K cd12 "_law_needs" = true) (k12 : PySem.W.keepIn K (.ref f12) = true)
    (a13 : PySem.W.nsIn K mainGlobals "_law_renamed" = some (some (.ref f13)))
    (l13 : K.lookup f13 = some ⟨oc13, od13, .func (PySem.W.fnOf "_law_renamed" "_law_renamed" (defArgs s_l_renamed) (defBody s_l_renamed) (defScope s_l_renamed) .none kv13 dc13 pm13 an13 cd13 ct13), sl13⟩)
    (c13_ : PySem.W.codeIn K cd13 "_law_renamed" = true) (k13 : PySem.W.keepIn K (.ref f13) = true)
    (a14 : PySem.W.nsIn K mainGlobals "_law_many" = some (some (.ref f14)))
    (l14 : K.lookup f14 = some ⟨oc14, od14, .func (PySem.W.fnOf "_law_many" "_law_many" (defArgs s_l_many) (defBody s_l_many) (defScope s_l_many) .none kv14 dc14 pm14 an14 cd14 ct14), sl14⟩)
    (c14_ : PySem.W.codeIn K cd14 "_law_many" = true) (k14 : PySem.W.keepIn K (.ref f14) = true)
    (a15 : PySem.W.nsIn K mainGlobals "law" = some (some (.ref f15)))
    (l15 : K.lookup f15 = some ⟨oc15, od15, .func (PySem.W.fnOf "law" "law" (defArgs s_law) (defBody s_law) (defScope s_law) .none kv15 dc15 pm15 an15 cd15 ct15), sl15⟩)
    (c15_ : PySem.W.codeIn K cd15 "law" = true) (k15 : PySem.W.keepIn K (.ref f15) = true)
    (z0 : PySem.W.nsIn K mainGlobals "len" = some none)
    (z1 : PySem.W.nsIn K mainGlobals "range" = some none)
    (z2 : PySem.W.nsIn K mainGlobals "list" = some none)
    (z3 : PySem.W.nsIn K mainGlobals "sorted" = some none)
    (z4 : PySem.W.nsIn K mainGlobals "tuple" = some none)
    (z5 : PySem.W.nsIn K mainGlobals "all" = some none)
    (z6 : PySem.W.nsIn K mainGlobals "bool" = some none)
    (z7 : PySem.W.nsIn K mainGlobals "int" = some none)
    (z8 : PySem.W.nsIn K mainGlobals "enumerate" = some none)
    (z9 : PySem.W.nsIn K mainGlobals "dict" = some none)
    (z10 : PySem.W.nsIn K mainGlobals "zip" = some none)
    : LamX.LawAtS l w K CX0 33 63 "script" mg fa h := by
  have e := hfa.symm.trans (PySem.W.mg_of X G a15)
  cases e
  have F0 := fun_mk (st := s_serves_need) l0 c0_ k0
  have b0 := F0.binds (ps := ["one", "need"]) fun _ _ _ _ _ _ us hl => match us, hl with | [_, _], _ => rfl
  have F1 := fun_mk (st := s_is_ahead) l1 c1_ k1
  have b1 := F1.binds (ps := ["first", "second"]) fun _ _ _ _ _ _ us hl => match us, hl with | [_, _], _ => rfl
  have o1 := own "is_ahead" _ rc1 (PySem.W.mg_of X G a1) c1 P1 _ _ _ _ _ _ l1 rfl rfl lc1 vc1
  have F2 := fun_mk (st := s_find_behind) l2 c2_ k2
  have b2 := F2.binds (ps := ["needs", "at", "tried", "ahead"]) fun _ _ _ _ _ _ us hl => match us, hl with | [_, _, _, _], _ => rfl
  have F3 := fun_mk (st := s_fewest_chains) l3 c3_ k3
  have b3 := F3.binds (ps := ["needs"]) fun _ _ _ _ _ _ us hl => match us, hl with | [_], _ => rfl
  have F4 := fun_mk (st := s_chain_to) l4 c4_ k4
  have b4 := F4.binds (ps := ["needs", "ahead", "last"]) fun _ _ _ _ _ _ us hl => match us, hl with | [_, _, _], _ => rfl
  have F5 := fun_mk (st := s_list_for) l5 c5_ k5
  have b5 := F5.binds (ps := ["chain"]) fun _ _ _ _ _ _ us hl => match us, hl with | [_], _ => rfl
  have F6 := fun_mk (st := s_apart_of) l6 c6_ k6
  have b6 := F6.binds (ps := ["needs", "ahead", "lasts"]) fun _ _ _ _ _ _ us hl => match us, hl with | [_, _, _], _ => rfl
  have F7 := fun_mk (st := s_fewest) l7 c7_ k7
  have b7 := F7.binds (ps := ["columns", "needs"]) fun _ _ _ _ _ _ us hl => match us, hl with | [_, _], _ => rfl
  have o7 := own "fewest" _ rc7 (PySem.W.mg_of X G a7) c7 P7 _ _ _ _ _ _ l7 rfl rfl lc7 vc7
  have F8 := fun_mk (st := s_l_bag) l8 c8_ k8
  have b8 := F8.binds (ps := ["script"]) fun _ _ _ _ _ _ us hl => match us, hl with | [_], _ => rfl
  have F9 := fun_mk (st := s_l_lot) l9 c9_ k9
  have b9 := F9.binds (ps := ["bag", "many"]) fun _ _ _ _ _ _ us hl => match us, hl with | [_, _], _ => rfl
  have F10 := fun_mk (st := s_l_columns) l10 c10_ k10
  have b10 := F10.binds (ps := ["bag", "most"]) fun _ _ _ _ _ _ us hl => match us, hl with | [_, _], _ => rfl
  have F11 := fun_mk (st := s_l_need) l11 c11_ k11
  have b11 := F11.binds (ps := ["bag", "columns"]) fun _ _ _ _ _ _ us hl => match us, hl with | [_, _], _ => rfl
  have F12 := fun_mk (st := s_l_needs) l12 c12_ k12
  have b12 := F12.binds (ps := ["bag", "columns", "most"]) fun _ _ _ _ _ _ us hl => match us, hl with | [_, _, _], _ => rfl
  have F13 := fun_mk (st := s_l_renamed) l13 c13_ k13
  have b13 := F13.binds (ps := ["columns", "needs"]) fun _ _ _ _ _ _ us hl => match us, hl with | [_, _], _ => rfl
  have F14 := fun_mk (st := s_l_many) l14 c14_ k14
  have b14 := F14.binds (ps := ["columns", "needs"]) fun _ _ _ _ _ _ us hl => match us, hl with | [_, _], _ => rfl
  have F15 := fun_mk (st := s_law) l15 c15_ k15
  have b15 := F15.binds (ps := ["script"]) fun _ _ _ _ _ _ us hl => match us, hl with | [_], _ => rfl
  let Z : Ad := ⟨f0, PySem.W.fnOf "serves_need" "serves_need" (defArgs s_serves_need) (defBody s_serves_need) (defScope s_serves_need) .none kv0 dc0 pm0 an0 cd0 ct0, f1, PySem.W.fnOf "is_ahead" "is_ahead" (defArgs s_is_ahead) (defBody s_is_ahead) (defScope s_is_ahead) .none kv1 dc1 pm1 an1 (.ref c1) ct1, c1, P1, f2, PySem.W.fnOf "find_behind" "find_behind" (defArgs s_find_behind) (defBody s_find_behind) (defScope s_find_behind) .none kv2 dc2 pm2 an2 cd2 ct2, f3, PySem.W.fnOf "fewest_chains" "fewest_chains" (defArgs s_fewest_chains) (defBody s_fewest_chains) (defScope s_fewest_chains) .none kv3 dc3 pm3 an3 cd3 ct3, f4, PySem.W.fnOf "chain_to" "chain_to" (defArgs s_chain_to) (defBody s_chain_to) (defScope s_chain_to) .none kv4 dc4 pm4 an4 cd4 ct4, f5, PySem.W.fnOf "list_for" "list_for" (defArgs s_list_for) (defBody s_list_for) (defScope s_list_for) .none kv5 dc5 pm5 an5 cd5 ct5, f6, PySem.W.fnOf "apart_of" "apart_of" (defArgs s_apart_of) (defBody s_apart_of) (defScope s_apart_of) .none kv6 dc6 pm6 an6 cd6 ct6, f7, PySem.W.fnOf "fewest" "fewest" (defArgs s_fewest) (defBody s_fewest) (defScope s_fewest) .none kv7 dc7 pm7 an7 (.ref c7) ct7, c7, P7, f8, PySem.W.fnOf "_law_bag" "_law_bag" (defArgs s_l_bag) (defBody s_l_bag) (defScope s_l_bag) .none kv8 dc8 pm8 an8 cd8 ct8, f9, PySem.W.fnOf "_law_lot" "_law_lot" (defArgs s_l_lot) (defBody s_l_lot) (defScope s_l_lot) .none kv9 dc9 pm9 an9 cd9 ct9, f10, PySem.W.fnOf "_law_columns" "_law_columns" (defArgs s_l_columns) (defBody s_l_columns) (defScope s_l_columns) .none kv10 dc10 pm10 an10 cd10 ct10, f11, PySem.W.fnOf "_law_need" "_law_need" (defArgs s_l_need) (defBody s_l_need) (defScope s_l_need) .none kv11 dc11 pm11 an11 cd11 ct11, f12, PySem.W.fnOf "_law_needs" "_law_needs" (defArgs s_l_needs) (defBody s_l_needs) (defScope s_l_needs) .none kv12 dc12 pm12 an12 cd12 ct12, f13, PySem.W.fnOf "_law_renamed" "_law_renamed" (defArgs s_l_renamed) (defBody s_l_renamed) (defScope s_l_renamed) .none kv13 dc13 pm13 an13 cd13 ct13, f14, PySem.W.fnOf "_law_many" "_law_many" (defArgs s_l_many) (defBody s_l_many) (defScope s_l_many) .none kv14 dc14 pm14 an14 cd14 ct14, fa, PySem.W.fnOf "law" "law" (defArgs s_law) (defBody s_law) (defScope s_law) .none kv15 dc15 pm15 an15 cd15 ct15⟩
  have T : Tx K mg Z := ⟨F0, b0, PySem.W.mg_of X G a0, F1, ⟨_, _, _, _, _, _, _, _, rfl, l1, c1_⟩, b1, PySem.W.mg_of X G a1, F2, b2, PySem.W.mg_of X G a2, F3, b3, PySem.W.mg_of X G a3, F4, b4, PySem.W.mg_of X G a4, F5, b5, PySem.W.mg_of X G a5, F6, b6, PySem.W.mg_of X G a6, F7, ⟨_, _, _, _, _, _, _, _, rfl, l7, c7_⟩, b7, PySem.W.mg_of X G a7, F8, b8, PySem.W.mg_of X G a8, F9, b9, PySem.W.mg_of X G a9, F10, b10, PySem.W.mg_of X G a10, F11, b11, PySem.W.mg_of X G a11, F12, b12, PySem.W.mg_of X G a12, F13, b13, PySem.W.mg_of X G a13, F14, b14, PySem.W.mg_of X G a14, F15, b15, PySem.W.mg_of X G a15, PySem.W.mg_none_of X G z0, PySem.W.mg_none_of X G z1, PySem.W.mg_none_of X G z2, PySem.W.mg_none_of X G z3, PySem.W.mg_none_of X G z4, PySem.W.mg_none_of X G z5, PySem.W.mg_none_of X G z6, PySem.W.mg_none_of X G z7, PySem.W.mg_none_of X G z8, PySem.W.mg_none_of X G z9, PySem.W.mg_none_of X G z10⟩
  have each : ∀ {R : Addr × Addr → Prop}, R (c7, P7) → R (c1, P1) → ∀ p ∈ [(c7, P7), (c1, P1)], R p := fun h7 h1 p hp => by
    simp only [List.mem_cons, List.not_mem_nil, or_false] at hp
    rcases hp with e | e
    · rw [e]
      exact h7
    · rw [e]
      exact h1
  refine ⟨Z.d_law, [(c7, P7), (c1, P1)], spLaw K Z, each o7.1 o1.1, each np7 np1, each o7.2 o1.2, fun s v => .of_eq rfl, fun H a ns hl _ hT hS => ?_, fun base _ _ hTB => ?_⟩
  · refine ⟨a, ns, rfl, hS, hl, fun P hP => ?_, fun _ => rfl⟩
    obtain ⟨p, hp, rfl⟩ : ∃ p ∈ [((c7, P7) : Addr × Addr), ((c1, P1) : Addr × Addr)], p.2 = P := by
      have hP2 : P ∈ [((c7, P7) : Addr × Addr).2, ((c1, P1) : Addr × Addr).2] := hP
      exact List.mem_map.mp (show P ∈ List.map (fun p : Addr × Addr => p.2) [(c7, P7), (c1, P1)] from hP2)
    exact ⟨#[], hT p hp, trivial⟩
  · exact ok_law T ⟨hTB (c7, P7) (by simp), hTB (c1, P1) (by simp)⟩
end My
open PySem PySem.W PyProof.Rows
set_option maxHeartbeats 0 in
theorem PySem.Challenge.cw_stretchkeep_k36_whole_fewest_of_other_ne_holds : PySem.Challenge.rw_stretchkeep_k36_whole_fewest_of_other_ne.Holds := by
  w_on; o_law; k_head; (case hw => w_witness2)
  k_fill
  refine My.walk_ofTabs (l := PySem.Challenge.rw_stretchkeep_k36_whole_fewest_of_other_ne) (n := 63) (k := 33) (x := "script") (CX := fun _ => L2.CX0) rfl (by decide) rfl ⟨rfl, by decide, by decide⟩ (fun w h Y => PySem.W.kIn_of Y) ?F (fun _ _ _ _ _ h => h)
  case F =>
    intro w mg fa h Y KX G hmg own
    refine' My.all_mk KX G hmg own ?a0 ?l0 ?c0_ ?k0 ?a1 ?l1 ?c1_ ?k1 ?lc1 ?vc1 ?np1 ?rc1 ?a2 ?l2 ?c2_ ?k2 ?a3 ?l3 ?c3_ ?k3 ?a4 ?l4 ?c4_ ?k4 ?a5 ?l5 ?c5_ ?k5 ?a6 ?l6 ?c6_ ?k6 ?a7 ?l7 ?c7_ ?k7 ?lc7 ?vc7 ?np7 ?rc7 ?a8 ?l8 ?c8_ ?k8 ?a9 ?l9 ?c9_ ?k9 ?a10 ?l10 ?c10_ ?k10 ?a11 ?l11 ?c11_ ?k11 ?a12 ?l12 ?c12_ ?k12 ?a13 ?l13 ?c13_ ?k13 ?a14 ?l14 ?c14_ ?k14 ?a15 ?l15 ?c15_ ?k15 ?z0 ?z1 ?z2 ?z3 ?z4 ?z5 ?z6 ?z7 ?z8 ?z9 ?z10
    (case a0 => k_is)
    (case l0 => k_is)
    (case c0_ => k_is)
    (case k0 => k_is)
    (case a1 => k_is)
    (case l1 => k_is)
    (case c1_ => k_is)
    (case k1 => k_is)
    (case lc1 => k_is)
    (case vc1 => rfl)
    (case np1 => first | rfl | kernel_rfl)
    (case rc1 => decide +kernel)
    (case a2 => k_is)
    (case l2 => k_is)
    (case c2_ => k_is)
    (case k2 => k_is)
    (case a3 => k_is)
    (case l3 => k_is)
    (case c3_ => k_is)
    (case k3 => k_is)
    (case a4 => k_is)
    (case l4 => k_is)
    (case c4_ => k_is)
    (case k4 => k_is)
    (case a5 => k_is)
    (case l5 => k_is)
    (case c5_ => k_is)
    (case k5 => k_is)
    (case a6 => k_is)
    (case l6 => k_is)
    (case c6_ => k_is)
    (case k6 => k_is)
    (case a7 => k_is)
    (case l7 => k_is)
    (case c7_ => k_is)
    (case k7 => k_is)
    (case lc7 => k_is)
    (case vc7 => rfl)
    (case np7 => first | rfl | kernel_rfl)
    (case rc7 => decide +kernel)
    (case a8 => k_is)
    (case l8 => k_is)
    (case c8_ => k_is)
    (case k8 => k_is)
    (case a9 => k_is)
    (case l9 => k_is)
    (case c9_ => k_is)
    (case k9 => k_is)
    (case a10 => k_is)
    (case l10 => k_is)
    (case c10_ => k_is)
    (case k10 => k_is)
    (case a11 => k_is)
    (case l11 => k_is)
    (case c11_ => k_is)
    (case k11 => k_is)
    (case a12 => k_is)
    (case l12 => k_is)
    (case c12_ => k_is)
    (case k12 => k_is)
    (case a13 => k_is)
    (case l13 => k_is)
    (case c13_ => k_is)
    (case k13 => k_is)
    (case a14 => k_is)
    (case l14 => k_is)
    (case c14_ => k_is)
    (case k14 => k_is)
    (case a15 => k_is)
    (case l15 => k_is)
    (case c15_ => k_is)
    (case k15 => k_is)
    (case z0 => k_is)
    (case z1 => k_is)
    (case z2 => k_is)
    (case z3 => k_is)
    (case z4 => k_is)
    (case z5 => k_is)
    (case z6 => k_is)
    (case z7 => k_is)
    (case z8 => k_is)
    (case z9 => k_is)
    (case z10 => k_is)

