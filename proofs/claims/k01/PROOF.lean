import PyProof.Rows.All
import Wide.All
import OpenK.AllK
import Wide.FinOn
import HandS.ForMost
import HandS.Walk
import HandS.IsInst
import HandS.DictComp
import HandS.SortInts
import HandS.NoneIn
import HandS.Replace
import HandS.TupAny
import HandS.TupLe
import PyProof.ListStr
import PyProof.TupleOfStr
import KE.GoesNew
import HandS.Zip
import HandS.More
import PyProof.StrLawsFirst
import HandS.Conv
import KE.KSortedM
import HandS.AnyAll
import HandS.EndTab
import PyProof.TupleOfGen
import HandS.EndOwn
import KE.KDictPairs
import KE.SortData
import KE.DataCmp
import PyProof.DictWalks
import KE.KDictWalk
import HandS.Style
import PyProof.CollectStr
import PyProof.SliceStr2
import PyProof.TupleOfSeq
import HandS.Star
import HandS.Wide
import KE.DataMinMax
import HandS.GenOver
import HandS.GenList
import KE.DatumIndex
import PyProof.ConsumeWalk
import HandS.SetFor
import PyProof.StrWalks
import PyProof.SetRoads
import PyProof.Rows.StrCase
import HandS.TupMul
import PySem.Challenge.RW_stretchkeep_k01_what_is_a_table
set_option Elab.async false
set_option linter.all false
set_option maxRecDepth 100000
namespace My
open PySem PySem.Spec PyProof.Rows L2
/-! ### heaps -/
/-- all but r is as it was -/
def Kp (r : Addr) (H H' : Hp) : Prop := ∀ b o, b ≠ r → H b = some o → H' b = some o
theorem Kp.rfl' {r : Addr} {H : Hp} : Kp r H H := fun _ _ _ h => h
theorem Kp.trans {r : Addr} {H H1 H2 : Hp} (a : Kp r H H1) (b : Kp r H1 H2) : Kp r H H2 := fun c o n h => b c o n (a c o n h)
theorem Kp.new {r p : Addr} {H H1 : Hp} {o : HO} (a : Kp r H H1) (n : H1 p = none) : Kp r H (upd H1 p o) := fun b x nb h => by
  have h1 := a b x nb h
  rw [upd_ne (ne_of_none h1 n)]
  exact h1
theorem Kp.own {r : Addr} {H H1 : Hp} {o : HO} (a : Kp r H H1) : Kp r H (upd H1 r o) := fun b x nb h => by
  rw [upd_ne nb]
  exact a b x nb h
/-- an object that H does not know is written -/
theorem Kp.mut {r p : Addr} {H H1 : Hp} {o : HO} (a : Kp r H H1) (n : H p = none) : Kp r H (upd H1 p o) := fun b x nb h => by
  rw [upd_ne (ne_of_none h n)]
  exact a b x nb h
theorem Same.kp {r : Addr} {H H' : Hp} (s : Same H H') : Kp r H H' := fun b o _ h => s b o h
theorem Same.new {p : Addr} {H H1 : Hp} {o : HO} (a : Same H H1) (n : H1 p = none) : Same H (upd H1 p o) := fun b x h => by
  have h1 := a b x h
  rw [upd_ne (ne_of_none h1 n)]
  exact h1
theorem Same.mut {p : Addr} {H H1 : Hp} {o : HO} (a : Same H H1) (n : H p = none) : Same H (upd H1 p o) := fun b x h => by
  rw [upd_ne (ne_of_none h n)]
  exact a b x h
theorem Same.tup {K : PySem.W.Frag} {H H' : Hp} {a : Addr} {xs : List V} (e : Same H H') (h : SqT K H a xs) : SqT K H' a xs := by
  rcases h with (h | ⟨o, h⟩) | h
  · exact .inl (.inl (e _ _ h))
  · exact .inl (.inr ⟨o, e _ _ h⟩)
  · exact .inr h
/-- a list, a tuple that stands there stays, if it is not at r -/
theorem Kp.seqL {K : PySem.W.Frag} {r a : Addr} {H H' : Hp} {xs : List V} (e : Kp r H H') (n : a ≠ r) (h : SqL K H a xs) : SqL K H' a xs := by
  rcases h with (h | ⟨o, h⟩) | h
  · exact .inl (.inl (e _ _ n h))
  · exact .inl (.inr ⟨o, e _ _ n h⟩)
  · exact .inr h
theorem Same.kpN {r : Addr} {H H1 H2 : Hp} (s : Same H H1) (n : H r = Option.none) (k : Kp r H1 H2) : Same H H2 := fun b o h => k b o (ne_of_none h n) (s b o h)
theorem Kp.none {r p : Addr} {H H' : Hp} (e : Kp r H H') (n : p ≠ r) (h : H' p = Option.none) : H p = Option.none := by
  cases q : H p with
  | none => rfl
  | some o =>
    rw [e p o n q] at h
    cases h
theorem keep_new {H : Hp} {p b : Addr} {o x : HO} (h : H b = some x) (n : H p = Option.none) : (upd H p o) b = some x := by
  rw [upd_ne (ne_of_none h n)]
  exact h
theorem keep_ne {H : Hp} {p b : Addr} {o x : HO} (h : H b = some x) (n : b ≠ p) : (upd H p o) b = some x := by
  rw [upd_ne n]
  exact h
/-! ### a word between a statement and the rest -/
def tMid (t u : TS) : TS := fun D σ H => ∃ M : L2.St → Hp → Prop, t { D with nx := M } σ H ∧ ∀ σ1 H1, M σ1 H1 → u D σ1 H1
theorem pss_mid {X : Cx} {st : Stmt} {r : List Stmt} {t u : TS} (a : PS X st t) (b : PSs X r u) : PSs X (st :: r) (tMid t u) := ⟨fun pins s σ H D I h => by
  obtain ⟨M, hm, hu⟩ := h
  refine wpAny_execs_cons (thn (a.run pins s σ H { D with nx := M } I hm) fun f s1 q => ?_)
  cases f
  case next =>
    obtain ⟨σ1, H1, I1, q1⟩ := q
    exact b.run pins s1 σ1 H1 D I1 (hu σ1 H1 q1)
  all_goals exact q⟩
/-! ### texts -/
/-- a text of these codes; one sign -/
abbrev tx (l : List Nat) : V := .str ⟨l.toArray⟩
abbrev sg (c : Nat) : V := .str ⟨#[c]⟩
theorem signs_vals {x : Str} {acc : Array Value} (h : ItemsOf (SignAt x) acc x.cps.size) : Vals (x.cps.toList.map sg) acc.toList := by
  obtain ⟨hz, hi⟩ := h
  have key : ∀ (l : List Nat) (us : List Value), l.length = us.length → (∀ (j : Nat) (c : Nat) (v : Value), l[j]? = some c → us[j]? = some v → ∃ t, v = Value.str ⟨#[c]⟩ t) → Vals (l.map sg) us := by
    intro l
    induction l with
    | nil =>
      intro us hl _
      cases us with
      | nil => exact .nil
      | cons a b => cases hl
    | cons c l ih =>
      intro us hl hh
      cases us with
      | nil => cases hl
      | cons u us =>
        refine .cons ?_ (ih us (Nat.succ.inj hl) fun j c v h1 h2 => hh (j + 1) c v h1 h2)
        obtain ⟨t, e⟩ := hh 0 c u rfl rfl
        exact ⟨t, e⟩
  refine key _ _ (by rw [Array.length_toList, Array.length_toList, hz]) fun j c v h1 h2 => ?_
  obtain ⟨cc, t, e1, e2⟩ := hi j v (by rw [← Array.getElem?_toList]; exact h2)
  rw [Array.getElem?_toList] at h1
  rw [h1] at e1
  cases e1
  exact ⟨t, e2⟩
/-- the text of one sign -/
abbrev sS (c : Nat) : Str := ⟨#[c]⟩
theorem str_empty : (Str.ofString "").cps = #[] := by decide +kernel
theorem join_signs : ∀ l : List Nat, Txt.join (Str.ofString "") (l.map sS) = ⟨l.toArray⟩ := by
  intro l
  show PySem.Builtin.Str.glued (Str.ofString "") (l.map sS) = _
  rw [PySem.StrLaws.glued_eq_join]
  induction l with
  | nil => rfl
  | cons c l ih =>
    cases l with
    | nil => rfl
    | cons d l =>
      show sS c ++ Str.ofString "" ++ Str.join (Str.ofString "") ((d :: l).map sS) = _
      rw [ih]
      show (⟨(#[c] ++ (Str.ofString "").cps) ++ (d :: l).toArray⟩ : Str) = _
      rw [str_empty]
      simp
theorem ltCps_one {a b : Nat} (h : ltCps [a] [b] = false) : b ≤ a := by
  simp [ltCps] at h
  exact h
theorem rising_signs : ∀ (l : List Nat) (c : Nat), risingS (sS c) (l.map sS) = true → (c :: l).Pairwise (· ≤ ·)
  | [], c, _ => List.pairwise_singleton _ _
  | d :: l, c, h => by
    have h' : (!ltCps [d] [c] && risingS (sS d) (l.map sS)) = true := h
    rw [Bool.and_eq_true, Bool.not_eq_true'] at h'
    have hd := ltCps_one h'.1
    have ih := rising_signs l d h'.2
    refine List.Pairwise.cons (fun x hx => ?_) ih
    rcases List.mem_cons.mp hx with e | hx
    · rw [e]
      exact hd
    · exact Nat.le_trans hd ((List.pairwise_cons.mp ih).1 x hx)
theorem sorted_signs : ∀ (l : List Nat), sortedS (l.map sS) = true → l.Pairwise (· ≤ ·)
  | [], _ => List.Pairwise.nil
  | c :: l, h => rising_signs l c h
theorem perm_signs {ys : List Str} {l : List Nat} (h : ys.Perm (l.map sS)) : ∃ l' : List Nat, ys = l'.map sS ∧ l'.Perm l := by
  let hd : Str → Nat := fun z => z.cps.toList.headD 0
  refine ⟨ys.map hd, ?_, ?_⟩
  · rw [List.map_map]
    have e : ∀ y ∈ ys, (sS ∘ hd) y = y := fun y hy => by
      obtain ⟨c, _, rfl⟩ := List.mem_map.mp (h.mem_iff.mp hy)
      rfl
    conv => lhs; rw [← List.map_id ys]
    exact (List.map_congr_left e).symm
  · have e := h.map hd
    rw [List.map_map] at e
    have e2 : l.map (hd ∘ sS) = l := by
      conv => rhs; rw [← List.map_id l]
      exact List.map_congr_left fun c _ => rfl
    rw [e2] at e
    exact e
theorem strict_of {l : List Nat} (h : l.Pairwise (· ≤ ·)) (n : l.Nodup) : l.Pairwise (· < ·) := by
  refine (h.and n).imp fun {a b} q => ?_
  have h1 := q.1
  have h2 : a ≠ b := q.2
  omega
theorem map_sg (l : List Nat) : l.map sg = (l.map sS).map V.str := by
  rw [List.map_map]
  rfl
theorem erase_map {α β : Type} (f : α → β) : ∀ (l : List α) (k : Nat), (l.map f).eraseIdx k = (l.eraseIdx k).map f
  | [], _ => rfl
  | _ :: _, 0 => rfl
  | a :: l, k + 1 => by
    show f a :: (l.map f).eraseIdx k = f a :: (l.eraseIdx k).map f
    rw [erase_map f l k]
theorem pop_perm : ∀ {l : List Nat} {k : Nat} {y : Nat}, l[k]? = some y → (y :: l.eraseIdx k).Perm l
  | [], k, y, h => by simp at h
  | a :: l, 0, y, h => by
    have e : a = y := Option.some.inj h
    rw [e]
    exact List.Perm.refl _
  | a :: l, k + 1, y, h => by
    have ih := pop_perm (l := l) (k := k) (y := y) h
    exact (List.Perm.swap a y (l.eraseIdx k)).trans (ih.cons a)
theorem popped {l : List Nat} {k : Nat} {y : Nat} (h : l[k]? = some y) (f : List Nat) : (l.eraseIdx k ++ (f ++ [y])).Perm (l ++ f) := by
  have p := pop_perm h
  have p1 : (l.eraseIdx k ++ (f ++ [y])).Perm ([y] ++ (l.eraseIdx k ++ f)) := by
    rw [← List.append_assoc]
    exact List.perm_append_comm
  refine p1.trans ?_
  rw [← List.append_assoc]
  exact p.append_right f
section
variable {X : Cx}
theorem call_list_txt (hc : X.calm = true := by rfl) : CallR X (.type "list") (fun xs H Q => ∃ z : Str, xs = [.str z] ∧ z.length ≤ sizeLine ∧ ∀ l, H l = none → Q (.ref l) (upd H l (.lst (z.cps.toList.map sg)))) := by
  intro pins s σ H xs us Q I r h
  obtain ⟨z, rfl, hz, q⟩ := h
  obtain ⟨u, rfl, rx⟩ := vals1 r
  obtain ⟨t, rfl⟩ := rx
  refine PySem.call_list_str (I.ok.hd hc) z t (fun h' tk acc c kp e hi => ?_) hz
  have hv := signs_vals hi
  exact ⟨.ref s.heap.objs.size, _, I.laid (t' := tk) kp (Nat.le_refl _) (show ObjOk X.prog X.w _ h' _ (.lst (z.cps.toList.map sg)) from ⟨by rw [List.length_map, Array.length_toList]; exact hz, acc.toList, c, hv, by rw [Array.toArray_toList]; exact e⟩), rfl, q _ (I.hok.fresh (Nat.le_refl _))⟩
end
end My

set_option Elab.async false
set_option linter.all false
set_option maxRecDepth 100000
set_option maxHeartbeats 1000000
namespace My
open PySem PySem.Spec PyProof.Rows L2
/-! ### calls by named readings -/
def rLenSq (K : PySem.W.Frag) : List V → Hp → VK → Prop := fun xs H Q => ∃ p ys, xs = [.ref p] ∧ (SqL K H p ys ∨ SqT K H p ys) ∧ Q (.int (ys.length : Nat)) H
def rListSq (K : PySem.W.Frag) : List V → Hp → VK → Prop := fun xs H Q => ∃ p ys, xs = [.ref p] ∧ (SqL K H p ys ∨ SqT K H p ys) ∧ ∀ l, H l = none → Q (.ref l) (upd H l (.lst ys))
def rTupSq (K : PySem.W.Frag) : List V → Hp → VK → Prop := fun xs H Q => ∃ p ys, xs = [.ref p] ∧ ((SqL K H p ys ∧ ∀ l, H l = none → Q (.ref l) (upd H l (.tup ys))) ∨ (SqT K H p ys ∧ Q (.ref p) H))
def rDictSq (K : PySem.W.Frag) : List V → Hp → VK → Prop := fun xs H Q => ∃ (a : Addr) (ps : List Addr) (kvs : List (Key × V)), xs = [.ref a] ∧ SqL K H a (ps.map V.ref) ∧ Paired (fun p kv => SqT K H p [kV kv.1, kv.2]) ps kvs ∧ ∀ p, H p = none → Q (.ref p) (upd H p (.dK (mergeK [] kvs)))
section
variable (K : PySem.W.Frag) {X : Cx}
theorem cLenSq (hK : X.K = K := by rfl) : CallR X (.builtin "len") (rLenSq K) := by
  subst hK
  exact call_len_seq
theorem cListSq (hK : X.K = K := by rfl) : CallR X (.type "list") (rListSq K) := by
  subst hK
  exact call_list_of
theorem cTupSq (hK : X.K = K := by rfl) : CallR X (.type "tuple") (rTupSq K) := by
  subst hK
  exact call_tuple_of
theorem cDictSq (hK : X.K = K := by rfl) (hc : X.calm = true := by rfl) : CallR X (.type "dict") (rDictSq K) := by
  subst hK
  exact call_dictP hc
theorem ixL (hK : X.K = K := by rfl) : IxR X (rIxL K) := by
  subst hK
  exact ix_list
theorem ixT (hK : X.K = K := by rfl) : IxR X (rIxT K) := by
  subst hK
  exact ix_tup
theorem piL {tg l : Expr} {tl : TE} (hl : PE X l tl) (hK : X.K = K := by rfl) : PI X tg l (iList K tl) := by
  subst hK
  exact pi_list hl
theorem piT {tg l : Expr} {tl : TE} (hl : PE X l tl) (hK : X.K = K := by rfl) : PI X tg l (iTup K tl) := by
  subst hK
  exact pi_tup hl
theorem pgT {es : List Expr} {k : Nat} {t : TGs} {n : Nat} {pos : Pos} (h : PGs X es t) (hK : X.K = K := by rfl) (hc : X.calm = true := by rfl) (hn : (assignEach es X.env).length = n := by rfl) (hst : (assignEach es X.env).findIdx? (·.1) = none := by rfl) : PG X (.Tuple es k pos) (gTup K n t) := by
  subst hK
  exact pg_tup hc h hn hst
theorem inSq (hK : X.K = K := by rfl) : OpR X (compareOp .In) (rIn K false) := by
  subst hK
  exact op_in_seq
theorem notInSq (hK : X.K = K := by rfl) : OpR X (compareOp .NotIn) (rIn K true) := by
  subst hK
  exact op_notIn_seq
theorem eqDK (hu : X.A.units + 64 < cLine) (hK : X.K = K := by rfl) : OpR X (compareOp .Eq) (rEqD K) := by
  subst hK
  exact op_eqD hu
theorem neDK (hu : X.A.units + 64 < cLine) (hK : X.K = K := by rfl) : OpR X (compareOp .NotEq) (rNeD K) := by
  subst hK
  exact op_neD hu
theorem bmK {T id : String} {name : Str} {r : V → List V → Hp → VK → Prop} {o e : Expr} {es : List Expr} {to : TE} {t : TA} {apos cpos : Pos} (pa : PlainAttrs T) (slot : Slot T name id) (hty : typeOf (.builtin id) = pure (.type "method_descriptor")) (hm : MtR X id r) (ho : PE X o to) (ha : PA X (e :: es) t) (hK : X.K = K := by rfl)
    (hbase : attributeBase o name X.env (eval o X.env) = eval o X.env := by rfl)
    (hfew : ((backTo cpos (starEach (e :: es) X.env)).all (fun x => !x.1) && (backToKw cpos (keywordEach [] X.env)).all (fun x => x.1.isSome) && decide ((e :: es).length + ([] : List Keyword).length + (if ([] : List Keyword).isEmpty then 0 else 1) < 30)) = true := by rfl)
    (hline : (apos.endLine == cpos.line) = true := by rfl) (hs : starEach (e :: es) X.env = (false, eval e X.env) :: starEach es X.env := by rfl) (hplain : (backTo cpos (starEach es X.env)).any (·.1) = false := by rfl) :
    PE X (.Call (.Attribute o name apos) (e :: es) [] cpos) (tBM K T r to t) := by
  subst hK
  exact pe_bm pa slot hty hm ho ha hbase hfew hline hs hplain
theorem isiK (hK : X.K = K := by rfl) : CallR X (.builtin "isinstance") (rIsi K) := by
  subst hK
  exact call_isi
end
/-! ### frozen data: numbers, texts, None, truths, tuples of these -/
mutual
inductive Fz (H : Hp) : V → PyData → Prop
  | non : Fz H .non .none
  | bl (b : Bool) : Fz H (.bl b) (.bool b)
  | int (i : Int) : Fz H (.int i) (.int i)
  | str (x : Str) : Fz H (.str x) (.str x)
  | tup {a : Addr} {xs : List V} {ds : List PyData} : H a = some (.tup xs) → FzA H xs ds → Fz H (.ref a) (.tuple ds)
inductive FzA (H : Hp) : List V → List PyData → Prop
  | nil : FzA H [] []
  | cons {v : V} {vs : List V} {d : PyData} {ds : List PyData} : Fz H v d → FzA H vs ds → FzA H (v :: vs) (d :: ds)
end
/-- tuples stay -/
def Kt (H H' : Hp) : Prop := ∀ b xs, H b = some (.tup xs) → H' b = some (.tup xs)
theorem Kt.rfl' {H : Hp} : Kt H H := fun _ _ h => h
theorem Kt.trans {H H1 H2 : Hp} (a : Kt H H1) (b : Kt H1 H2) : Kt H H2 := fun c o h => b c o (a c o h)
theorem Kt.new {H : Hp} {p : Addr} {o : HO} (n : H p = none) : Kt H (upd H p o) := fun b xs h => by
  rw [upd_ne (ne_of_none h n)]
  exact h
theorem Kt.lst {H : Hp} {p : Addr} {xs : List V} {o : HO} (n : H p = some (.lst xs)) : Kt H (upd H p o) := fun b ys h => by
  have e : b ≠ p := fun z => by
    rw [z, n] at h
    cases h
  rw [upd_ne e]
  exact h
theorem Kp.kt {r : Addr} {H H' : Hp} {xs : List V} (k : Kp r H H') (h : H r = some (.lst xs)) : Kt H H' := fun b ys e => k b _ (fun z => by
  rw [z, h] at e
  cases e) e
theorem Same.kt {H H' : Hp} (k : Same H H') : Kt H H' := fun b ys e => k b _ e
mutual
theorem Fz.mono {H H' : Hp} (k : Kt H H') : ∀ (d : PyData) (v : V), Fz H v d → Fz H' v d
  | .none, _, .non => .non
  | .bool _, _, .bl b => .bl b
  | .int _, _, .int i => .int i
  | .str _, _, .str x => .str x
  | .tuple ds, _, .tup h a => .tup (k _ _ h) (FzA.mono k ds _ a)
theorem FzA.mono {H H' : Hp} (k : Kt H H') : ∀ (ds : List PyData) (vs : List V), FzA H vs ds → FzA H' vs ds
  | [], _, .nil => .nil
  | d :: ds, _, .cons h a => .cons (Fz.mono k d _ h) (FzA.mono k ds _ a)
end
theorem Fz.kt {H H' : Hp} {v : V} {d : PyData} (h : Fz H v d) (k : Kt H H') : Fz H' v d := Fz.mono k d v h
theorem FzA.kt {H H' : Hp} {vs : List V} {ds : List PyData} (h : FzA H vs ds) (k : Kt H H') : FzA H' vs ds := FzA.mono k ds vs h
mutual
theorem Fz.dp {K : PySem.W.Frag} {H : Hp} : ∀ (d : PyData) (v : V), Fz H v d → Dp K H v d
  | .none, _, .non => .non
  | .bool _, _, .bl b => .bl b
  | .int _, _, .int i => .int i
  | .str _, _, .str x => .str x
  | .tuple ds, _, .tup h a => .tup (.inl (.inl h)) (FzA.dp ds _ a)
theorem FzA.dp {K : PySem.W.Frag} {H : Hp} : ∀ (ds : List PyData) (vs : List V), FzA H vs ds → DpAll K H vs ds
  | [], _, .nil => .nil
  | d :: ds, _, .cons h a => .cons (Fz.dp d _ h) (FzA.dp ds _ a)
end
theorem Fz.to {K : PySem.W.Frag} {H : Hp} {v : V} {d : PyData} (h : Fz H v d) : Dp K H v d := Fz.dp d v h
theorem FzA.len : ∀ {H : Hp} {vs : List V} {ds : List PyData}, FzA H vs ds → vs.length = ds.length
  | _, _, _, .nil => rfl
  | _, _, _, .cons _ a => by
    rw [List.length_cons, List.length_cons, FzA.len a]
theorem FzA.get : ∀ {H : Hp} {vs : List V} {ds : List PyData} {i : Nat} {d : PyData}, FzA H vs ds → ds[i]? = some d → ∃ v, vs[i]? = some v ∧ Fz H v d
  | _, _, _, _, _, .nil, h => by simp at h
  | _, _, _, 0, _, .cons a _, h => ⟨_, rfl, Option.some.inj h ▸ a⟩
  | _, _, _, i + 1, _, .cons _ a, h => FzA.get (i := i) a h
theorem FzA.getV : ∀ {H : Hp} {vs : List V} {ds : List PyData} {i : Nat} {v : V}, FzA H vs ds → vs[i]? = some v → ∃ d, ds[i]? = some d ∧ Fz H v d
  | _, _, _, _, _, .nil, h => by simp at h
  | _, _, _, 0, _, .cons a _, h => ⟨_, rfl, Option.some.inj h ▸ a⟩
  | _, _, _, i + 1, _, .cons _ a, h => FzA.getV (i := i) a h
theorem FzA.app : ∀ {H : Hp} {vs ws : List V} {ds es : List PyData}, FzA H vs ds → FzA H ws es → FzA H (vs ++ ws) (ds ++ es)
  | _, _, _, _, _, .nil, b => b
  | _, _, _, _, _, .cons a r, b => .cons a (FzA.app r b)
theorem FzA.snoc {H : Hp} {vs : List V} {ds : List PyData} {v : V} {d : PyData} (a : FzA H vs ds) (b : Fz H v d) : FzA H (vs ++ [v]) (ds ++ [d]) := a.app (.cons b .nil)
theorem FzA.ints : ∀ {H : Hp} {ns : List Int} {vs : List V}, FzA H vs (ns.map PyData.int) → vs = ns.map V.int
  | _, [], _, .nil => rfl
  | _, n :: ns, _, .cons (.int _) a => by
    rw [FzA.ints (ns := ns) a]
    rfl
theorem FzA.ofInts : ∀ {H : Hp} {ns : List Int}, FzA H (ns.map V.int) (ns.map PyData.int)
  | _, [] => .nil
  | _, n :: ns => .cons (.int n) (FzA.ofInts (ns := ns))
/-- a tuple, opened -/
theorem Fz.open {H : Hp} {v : V} {ds : List PyData} (h : Fz H v (.tuple ds)) : ∃ (a : Addr) (xs : List V), v = .ref a ∧ H a = some (.tup xs) ∧ FzA H xs ds := by
  cases h with
  | tup h a => exact ⟨_, _, rfl, h, a⟩
theorem FzA.one {H : Hp} {vs : List V} {d : PyData} (h : FzA H vs [d]) : ∃ x, vs = [x] ∧ Fz H x d := by
  cases h with
  | cons a r =>
    cases r
    exact ⟨_, rfl, a⟩
theorem FzA.two {H : Hp} {vs : List V} {d e : PyData} (h : FzA H vs [d, e]) : ∃ x y, vs = [x, y] ∧ Fz H x d ∧ Fz H y e := by
  cases h with
  | cons a r =>
    obtain ⟨y, rfl, b⟩ := r.one
    exact ⟨_, y, rfl, a, b⟩
theorem Fz.isStr {H : Hp} {v : V} {x : Str} (h : Fz H v (.str x)) : v = .str x := by
  cases h
  rfl
theorem Fz.isInt {H : Hp} {v : V} {i : Int} (h : Fz H v (.int i)) : v = .int i := by
  cases h
  rfl
/-- a tuple just made -/
theorem Fz.made {H : Hp} {p : Addr} {xs : List V} {ds : List PyData} (n : H p = Option.none) (h : FzA H xs ds) : Fz (upd H p (.tup xs)) (.ref p) (.tuple ds) := .tup upd_same (h.kt (.new n))
theorem at_ints {ns : List Int} {d : Int} (h0 : 0 ≤ d) (h1 : d < (ns.length : Nat)) : ∃ t ∈ ns, atI (ns.map V.int) d = some (.int t) := by
  have hd : d.toNat < ns.length := by omega
  refine ⟨ns[d.toNat], List.getElem_mem hd, L2.at_of (j := d.toNat) (by omega) ?_⟩
  rw [List.getElem?_map, List.getElem?_eq_getElem hd]
  rfl
/-! ### tables -/
abbrev rowD (row : List Int) : PyData := .tuple (row.map PyData.int)
abbrev rowsD (rows : List (List Int)) : PyData := .tuple (rows.map rowD)
abbrev tabD (cols : List Nat) (rows : List (List Int)) : PyData := .tuple [.str ⟨cols.toArray⟩, rowsD rows]
/-- rising unlike letters -/
structure Cols (l : List Nat) : Prop where
  up : l.Pairwise (· < ·)
  az : ∀ c ∈ l, 97 ≤ c ∧ c ≤ 122
theorem Cols.nd {l : List Nat} (c : Cols l) : l.Nodup := c.up.imp fun {a b} h => by
  have : a < b := h
  omega
def RowOk (n : Nat) (row : List Int) : Prop := row.length = n ∧ ∀ x ∈ row, 0 ≤ x ∧ x < 1000
def RowsOk (n : Nat) (rows : List (List Int)) : Prop := ∀ row ∈ rows, RowOk n row
theorem row_open {H : Hp} {v : V} {row : List Int} (h : Fz H v (rowD row)) : ∃ a, v = .ref a ∧ H a = some (.tup (row.map V.int)) := by
  obtain ⟨a, xs, rfl, ha, f⟩ := h.open
  rw [FzA.ints f] at ha
  exact ⟨a, rfl, ha⟩
theorem row_made {H : Hp} {p : Addr} {row : List Int} (n : H p = none) : Fz (upd H p (.tup (row.map V.int))) (.ref p) (rowD row) := Fz.made n FzA.ofInts
theorem tab_open {H : Hp} {v : V} {cols : List Nat} {rows : List (List Int)} (h : Fz H v (tabD cols rows)) : ∃ (t R : Addr) (vs : List V), v = .ref t ∧ H t = some (.tup [tx cols, .ref R]) ∧ H R = some (.tup vs) ∧ FzA H vs (rows.map rowD) := by
  obtain ⟨t, xs, rfl, ht, f⟩ := h.open
  obtain ⟨x, y, rfl, fx, fy⟩ := f.two
  obtain ⟨R, vs, rfl, hR, fv⟩ := fy.open
  rw [fx.isStr] at ht
  exact ⟨t, R, vs, rfl, ht, hR, fv⟩
/-! ### questions -/
abbrev eqD (p : Nat × Int) : PyData := .tuple [.str ⟨#[p.1]⟩, .int p.2]
/-- pairs as a dict's entries -/
abbrev kvI (p : Nat × Int) : Key × V := (Sum.inr (sS p.1), .int p.2)
theorem pairs_of {K : PySem.W.Frag} {H : Hp} : ∀ {es : List (Nat × Int)} {vs : List V}, FzA H vs (es.map eqD) → ∃ ps : List Addr, vs = ps.map V.ref ∧ Paired (fun p kv => SqT K H p [kV kv.1, kv.2]) ps (es.map kvI)
  | [], _, .nil => ⟨[], rfl, .nil⟩
  | e :: es, _, .cons a r => by
    obtain ⟨p, xs, rfl, hp, f⟩ := a.open
    obtain ⟨x, y, rfl, fx, fy⟩ := f.two
    obtain ⟨ps, rfl, hps⟩ := pairs_of (K := K) (es := es) r
    rw [fx.isStr, fy.isInt] at hp
    exact ⟨p :: ps, rfl, .cons (.inl (.inl hp)) hps⟩
theorem dp_signs {K : PySem.W.Frag} {H : Hp} : ∀ l : List Nat, DpAll K H (l.map sg) (l.map fun c => PyData.str (sS c))
  | [] => .nil
  | c :: l => .cons (.str _) (dp_signs l)
end My

set_option Elab.async false
set_option linter.all false
set_option maxRecDepth 100000
set_option maxHeartbeats 1000000
namespace My
open PySem PySem.Spec PyProof.Rows L2
/-! ### name = {.. for ..} on one line -/
section
variable {X : Cx} {pins : List (Addr × Obj)} {σ : L2.St} {H : Hp} {s : Shared}
end
/-! ### spans: letters with their bounds -/
/-! ### what fits -/
/-! ### data with lists -/
mutual
inductive Ft (H : Hp) : V → PyData → Prop
  | non : Ft H .non .none
  | bl (b : Bool) : Ft H (.bl b) (.bool b)
  | int (i : Int) : Ft H (.int i) (.int i)
  | str (x : Str) : Ft H (.str x) (.str x)
  | lst {a : Addr} {xs : List V} {ds : List PyData} : H a = some (.lst xs) → FtA H xs ds → Ft H (.ref a) (.list ds)
  | tup {a : Addr} {xs : List V} {ds : List PyData} : H a = some (.tup xs) → FtA H xs ds → Ft H (.ref a) (.tuple ds)
inductive FtA (H : Hp) : List V → List PyData → Prop
  | nil : FtA H [] []
  | cons {v : V} {vs : List V} {d : PyData} {ds : List PyData} : Ft H v d → FtA H vs ds → FtA H (v :: vs) (d :: ds)
end
mutual
theorem Ft.mono {H H' : Hp} (k : Same H H') : ∀ (d : PyData) (v : V), Ft H v d → Ft H' v d
  | .none, _, .non => .non
  | .bool _, _, .bl b => .bl b
  | .int _, _, .int i => .int i
  | .str _, _, .str x => .str x
  | .list ds, _, .lst h a => .lst (k _ _ h) (FtA.mono k ds _ a)
  | .tuple ds, _, .tup h a => .tup (k _ _ h) (FtA.mono k ds _ a)
theorem FtA.mono {H H' : Hp} (k : Same H H') : ∀ (ds : List PyData) (vs : List V), FtA H vs ds → FtA H' vs ds
  | [], _, .nil => .nil
  | d :: ds, _, .cons h a => .cons (Ft.mono k d _ h) (FtA.mono k ds _ a)
end
theorem FtA.len : ∀ {H : Hp} {vs : List V} {ds : List PyData}, FtA H vs ds → vs.length = ds.length
  | _, _, _, .nil => rfl
  | _, _, _, .cons _ a => by
    rw [List.length_cons, List.length_cons, FtA.len a]
theorem FtA.getV : ∀ {H : Hp} {vs : List V} {ds : List PyData} {i : Nat} {v : V}, FtA H vs ds → vs[i]? = some v → ∃ d, ds[i]? = some d ∧ Ft H v d
  | _, _, _, _, _, .nil, h => by simp at h
  | _, _, _, 0, _, .cons a _, h => ⟨_, rfl, Option.some.inj h ▸ a⟩
  | _, _, _, i + 1, _, .cons _ a, h => FtA.getV (i := i) a h
theorem FtA.ofInts : ∀ {H : Hp} (ns : List Int), FtA H (ns.map V.int) (ns.map PyData.int)
  | _, [] => .nil
  | _, n :: ns => .cons (.int n) (FtA.ofInts ns)
mutual
def wd : PyData → Nat
  | .list xs => max xs.length (wdA xs)
  | .tuple xs => max xs.length (wdA xs)
  | _ => 0
def wdA : List PyData → Nat
  | [] => 0
  | x :: xs => max (wd x) (wdA xs)
end
/-! ### what isinstance tells of data -/
def tyN : PyData → String
  | .none => "NoneType"
  | .bool _ => "bool"
  | .int _ => "int"
  | .str _ => "str"
  | .list _ => "list"
  | .tuple _ => "tuple"
  | .dict _ => "dict"
def isTp : PyData → Bool
  | .tuple _ => true
  | _ => false
def isBl : PyData → Bool
  | .bool _ => true
  | _ => false
def isSt : PyData → Bool
  | .str _ => true
  | _ => false
theorem ty_ft {K : PySem.W.Frag} {H : Hp} {v : V} {d : PyData} (h : Ft H v d) : TyX K H v (.type (tyN d)) := by
  cases h with
  | non => exact .base .non
  | bl b => exact .base (.bl b)
  | int i => exact .base (.int i)
  | str x => exact .base (.str x)
  | lst h _ => exact .base (.lst h)
  | tup h _ => exact .base (.tup h)
theorem kit_tp {K : PySem.W.Frag} (d : PyData) : PySem.W.kitOne K (.type (tyN d)) (.type "tuple") = some (isTp d) := by
  cases d <;> exact kit_ty (by kernel_rfl)
theorem kit_bl {K : PySem.W.Frag} (d : PyData) : PySem.W.kitOne K (.type (tyN d)) (.type "bool") = some (isBl d) := by
  cases d <;> exact kit_ty (by kernel_rfl)
theorem kit_st {K : PySem.W.Frag} (d : PyData) : PySem.W.kitOne K (.type (tyN d)) (.type "str") = some (isSt d) := by
  cases d <;> exact kit_ty (by kernel_rfl)
end My

set_option Elab.async false
set_option linter.all false
set_option maxRecDepth 100000
set_option maxHeartbeats 2000000
namespace My
open PySem PySem.Spec PyProof.Rows L2
/-! ### generator expressions whose element changes nothing -/
section
variable {X : Cx} {pins : List (Addr × Obj)} {σ : L2.St} {H : Hp} {s : Shared}
/-- the code object of a generator expression comes out of its maker's table, or is made and written into it; then the built-ins are looked up -/
theorem gen_code {c P : Addr} {gpos : Pos} {qn : Str} {scope : Scope} {R : Value → Addr → Shared → Prop} (I : Inv X pins σ H s) (TB : LamX.TabB X.base X.mg c P) (hcode : X.env.code = .ref c) (hT : GxR.TabG H P)
    (h : ∀ (code : Value) (H2 : Hp) (s2 : Shared), GxR.Tabbed P H H2 → Inv X pins σ H2 s2 → (∀ b u, b ≠ P → s.heap.get? b = some u → s2.heap.get? b = some u) → s.heap.objs.size ≤ s2.heap.objs.size → R code builtinsNs s2) :
    wpAny (model X.prog X.w) X.A (genexprCode X.env gpos qn scope) (fun code s3 => wpAny (model X.prog X.w) X.A (builtinsFor X.env.globals X.env.builtins) (R code) X.xe s3) X.xe s := by
  obtain ⟨ps, hP, tri⟩ := hT
  have rawP := I.hok P _ hP
  have hd : PySem.W.CodeHd s.heap c P := TB.code.keeps I.bk
  have go : ∀ (code : Value) (g : Heap) (tk : Nat) (more : Array Value), Heap.ExtBut P s.heap g → s.heap.objs.size ≤ g.objs.size → g.get? P = some { cls := .none, data := .fields (ps ++ more) } → TriplesOk (ps ++ more).toList →
      wpAny (model X.prog X.w) X.A (builtinsFor X.env.globals X.env.builtins) (R code) X.xe { s with heap := g, toks := tk } := fun code g tk more ext le tab tri' => by
    have J : Inv X pins σ (upd H P (.tbl (ps ++ more))) { s with heap := g, toks := tk } := GxR.inv_tab (g' := s.gens) (d' := s.drawn) I hP ext tab I.bare
    obtain ⟨bm, ob, b1, b2, _, _, b5, b6, b7, b8⟩ := TB.bm
    refine wpAny_builtinsFor (m := X.mg) ?_ b1 b2 (J.bk _ _ b5) b6 b7 b8 (h code _ _ ⟨⟨_, upd_same, tri'⟩, fun b ne => upd_ne ne⟩ J ext le)
    rw [J.ok.glob]
    exact J.mod.glob.keeps J.bk
  match hf : codeAmong gpos ps.toList with
  | some cv => exact wpAny_genexprCode_hit hcode (hd.code rawP tri) hf (go cv s.heap s.toks #[] (Heap.ExtBut.refl _ _) (Nat.le_refl _) (by rw [Array.append_empty]; exact rawP) (by rw [Array.append_empty]; exact tri))
  | none =>
    refine wpAny_genexprCodeX hcode (hd.code rawP tri) (hd.tab rawP) hf fun c' g tk ext ge lt isC _ isT _ => go _ g tk _ ext (Nat.le_trans ge (Nat.le_of_lt lt)) isT.2 ?_
    obtain ⟨_, _, _, _, _, _, _, _, _, _, _, _, _, _, _, _, _, _, _, z, _⟩ := isC
    exact z
/-! tuple(elt for x in text): numbers -/
/-! all(elt for x in ..) -/
/-! ### what a captured name holds -/
/-! x in y, y a captured text -/
/-! r[y.index(x)], r a captured tuple of numbers, y a captured text -/
end
end My

set_option Elab.async false
set_option linter.all false
set_option maxRecDepth 100000
set_option maxHeartbeats 2000000
namespace My
open PySem PySem.Spec PyProof.Rows L2
/-! ### tables of code objects: they may grow, all else stays -/
def TG (Ps : List Addr) (H : Hp) : Prop := ∀ P ∈ Ps, GxR.TabG H P
def Sx (Ps : List Addr) (H H' : Hp) : Prop := ∀ b o, b ∉ Ps → H b = some o → H' b = some o
theorem Sx.rfl' {Ps : List Addr} {H : Hp} : Sx Ps H H := fun _ _ _ h => h
theorem Sx.trans {Ps : List Addr} {H H1 H2 : Hp} (a : Sx Ps H H1) (b : Sx Ps H1 H2) : Sx Ps H H2 := fun c o n h => b c o n (a c o n h)
theorem Same.sx {Ps : List Addr} {H H' : Hp} (s : Same H H') : Sx Ps H H' := fun b o _ h => s b o h
theorem TG.same {Ps : List Addr} {H H' : Hp} (t : TG Ps H) (s : Same H H') : TG Ps H' := fun P hP => by
  obtain ⟨ps, h, r⟩ := t P hP
  exact ⟨ps, s _ _ h, r⟩
theorem TG.not {Ps : List Addr} {H : Hp} {b : Addr} {o : HO} (t : TG Ps H) (h : H b = some o) (ho : ∀ q, o ≠ .tbl q) : b ∉ Ps := fun hb => by
  obtain ⟨ps, h2, _⟩ := t b hb
  rw [h2] at h
  exact ho ps (Option.some.inj h).symm
theorem TG.kp {Ps : List Addr} {H H' : Hp} {r : Addr} {xs : List V} (t : TG Ps H) (hr : H r = some (.lst xs)) (k : Kp r H H') : TG Ps H' := fun P hP => by
  obtain ⟨ps, h, q⟩ := t P hP
  refine ⟨ps, k _ _ (fun z => ?_) h, q⟩
  rw [z, hr] at h
  cases h
theorem TG.new {Ps : List Addr} {H : Hp} {p : Addr} {o : HO} (t : TG Ps H) (n : H p = none) : TG Ps (upd H p o) := t.same (Same.new (Same.refl H) n)
theorem Sx.kt {Ps : List Addr} {H H' : Hp} (t : TG Ps H) (s : Sx Ps H H') : Kt H H' := fun b xs h => s b _ (t.not h fun q z => nomatch z) h
theorem Sx.lst {Ps : List Addr} {H H' : Hp} {b : Addr} {xs : List V} (t : TG Ps H) (s : Sx Ps H H') (h : H b = some (.lst xs)) : H' b = some (.lst xs) := s b _ (t.not h fun q z => nomatch z) h
theorem Sx.new {Ps : List Addr} {H H1 : Hp} {p : Addr} {o : HO} (s : Sx Ps H H1) (n : H1 p = none) : Sx Ps H (upd H1 p o) := fun b x nb h => keep_new (s b x nb h) n
theorem Sx.mut {Ps : List Addr} {H H1 : Hp} {p : Addr} {o : HO} (s : Sx Ps H H1) (n : H p = none) : Sx Ps H (upd H1 p o) := fun b x nb h => keep_ne (s b x nb h) (ne_of_none h n)
theorem Sx.free {Ps : List Addr} {H H' : Hp} {p : Addr} (t : TG Ps H') (s : Sx Ps H H') (h : H' p = none) : H p = none := by
  cases q : H p with
  | none => rfl
  | some o =>
    by_cases hp : p ∈ Ps
    · obtain ⟨ps, h2, _⟩ := t p hp
      rw [h] at h2
      cases h2
    · rw [s p o hp q] at h
      cases h
theorem Sx.seqL {K : PySem.W.Frag} {Ps : List Addr} {H H' : Hp} {a : Addr} {xs : List V} (t : TG Ps H) (s : Sx Ps H H') (h : SqL K H a xs) : SqL K H' a xs := by
  rcases h with (h | ⟨o, h⟩) | h
  · exact .inl (.inl (s.lst t h))
  · exact .inl (.inr ⟨o, s _ _ (t.not h fun q z => nomatch z) h⟩)
  · exact .inr h
/-- one table of them has grown -/
theorem Tabbed.sx {Ps : List Addr} {P : Addr} {H H' : Hp} (hP : P ∈ Ps) (t : GxR.Tabbed P H H') : Sx Ps H H' := fun b o nb h => by
  rw [t.2 b fun z => nb (z ▸ hP)]
  exact h
theorem Tabbed.tg {Ps : List Addr} {P : Addr} {H H' : Hp} (g : TG Ps H) (t : GxR.Tabbed P H H') : TG Ps H' := fun P' hP' => by
  by_cases e : P' = P
  · rw [e]
    exact t.1
  · obtain ⟨ps, h, q⟩ := g P' hP'
    exact ⟨ps, (t.2 P' e).trans h, q⟩
/-! ### a def whose code object is told -/
def FunC (K : PySem.W.Frag) (x qual : Str) (st : Stmt) (f : Addr) (fd : FuncData) (c : Addr) : Prop :=
  ∃ (oc : Value) (od : Option Addr) (kV doc pm : Value) (an : Option Addr) (ct : Value) (osl : Array (Option Value)), fd = PySem.W.fnOf x qual (defArgs st) (defBody st) (defScope st) .none kV doc pm an (.ref c) ct ∧ K.lookup f = some ⟨oc, od, .func fd, osl⟩ ∧ PySem.W.codeIn K (.ref c) qual = true
theorem FunC.ok {P : Program} {w : World} {K : PySem.W.Frag} {mg : Str → Option Value} {base : Heap} {x qual : Str} {st : Stmt} {f c : Addr} {fd : FuncData} {N ps : List Str} {k : Nat} {sp : Sp} (F : FunC K x qual st f fd c) (S : FnScope N ps (defScope st)) (len : ∀ vs H Q E, sp vs H Q E → vs.length = ps.length)
    (hbody : ∀ (A : Around) (outer : List Env) (s : Shared) (H : Hp) (vs : List V) (Q : VK) (E : XK), Room k (A.deeper (envOfC qual (defScope st) s.heap.objs.size f (.ref c))) → sp vs H Q E →
      ∃ t, PSs (cxOf CX0 P w K mg base N qual (defScope st) f (.ref c) A outer s H E).nox (defBody st) t ∧ t { nx := fun _ H' => Q .non H', rt := Q } (start N vs) H) : FnOk P w K mg base CX0 (k + 1) f fd ps sp := by
  obtain ⟨oc, od, kV, doc, pm, an, ct, osl, rfl, lk, hcd⟩ := F
  refine fn_of lk hcd S len fun A outer s H vs Q E hr hsp => ?_
  obtain ⟨t, h, q⟩ := hbody A outer s H vs Q E hr hsp
  exact ⟨t, h.nox, q⟩
theorem FunC.fn {K : PySem.W.Frag} {x qual : Str} {st : Stmt} {f c : Addr} {fd : FuncData} (F : FunC K x qual st f fd c) (k : PySem.W.keepIn K (.ref f) = true) : Fun K x qual st f fd := by
  obtain ⟨oc, od, kV, doc, pm, an, ct, osl, e, lk, hcd⟩ := F
  exact ⟨⟨oc, od, kV, doc, pm, an, .ref c, ct, osl, e, lk, hcd⟩, k⟩
/-! ### the generator expressions that we met -/
/-! ### the end: the tables of all defs are empty -/
def OwnTC (K : PySem.W.Frag) (fa : Addr) (h : Heap) : Prop := ∀ (c P : Addr) (o : Obj) (fd : FuncData) (e : Value) (dd : Option Addr) (vs : Array Value) (sl : Array (Option Value)), K.lookup fa = some o → o.data = .func fd → fd.code = .ref c → K.lookup c = some ⟨e, dd, .fields vs, sl⟩ → vs[11]? = some (.ref P) →
  h.get? P = some { cls := .none, data := .fields #[] } ∧ PySem.W.CodeHd h c P
end My

set_option Elab.async false
set_option linter.all false
set_option maxRecDepth 100000
set_option maxHeartbeats 2000000
namespace My
open PySem PySem.Spec PyProof.Rows L2
/-! ### texts by their codes -/
theorem cut_take (l : List Nat) (k : Nat) : cutS ⟨l.toArray⟩ none (some (k : Int)) = ⟨(l.take k).toArray⟩ := by
  unfold cutS
  rw [HT.sIx_none, HT.sIx_nat]
  show (⟨((l.toArray.toList.drop 0).take (min k l.toArray.size - 0)).toArray⟩ : Str) = _
  have e1 : l.toArray.toList = l := by simp
  have e2 : l.toArray.size = l.length := by simp
  rw [e1, e2, List.drop_zero, Nat.sub_zero]
  congr 2
  rw [List.take_eq_take_iff]
  omega
theorem tx_inj {a b : List Nat} (h : tx a = tx b) : a = b := by
  have h2 : (⟨a.toArray⟩ : Str) = ⟨b.toArray⟩ := V.str.inj h
  have h3 : a.toArray = b.toArray := congrArg Str.cps h2
  simpa using h3
/-! ### the letters that a question uses -/
section
variable (K : PySem.W.Frag) {X : Cx}
end
/-! ### the bounds that a question asks of a letter -/
theorem TG.mut {Ps : List Addr} {H : Hp} {p : Addr} {xs : List V} {o : HO} (t : TG Ps H) (h : H p = some (.lst xs)) : TG Ps (upd H p o) := fun P hP => by
  obtain ⟨ps, h2, q⟩ := t P hP
  refine ⟨ps, ?_, q⟩
  rw [upd_ne (fun z => ?_)]
  · exact h2
  · rw [z, h] at h2
    cases h2
/-! ### stretches -/
end My

set_option Elab.async false
set_option linter.all false
set_option maxRecDepth 100000
set_option maxHeartbeats 2000000
namespace My
open PySem PySem.Spec PyProof.Rows L2
section
variable {X : Cx}
/-! ### text[::-1] -/
theorem fm_all (l : List Nat) : (List.range l.length).filterMap (l[·]?) = l := by
  induction l with
  | nil => rfl
  | cons a l ih =>
    rw [List.length_cons, List.range_succ_eq_map, List.filterMap_cons]
    show a :: List.filterMap _ _ = _
    rw [List.filterMap_map]
    congr 1
theorem rev_pick (l : List Nat) : (Builtin.Str.strSliceIndices none none (-1) l.length).filterMap (l[·]?) = l.reverse := by
  have e : Builtin.Str.strSliceIndices none none (-1) l.length = sliceRange ((l.length : Int) - 1) (-1) (-1) := rfl
  rw [e, PySem.W.krv_sliceRange, PySem.W.krv_range, List.filterMap_reverse, fm_all]
/-- the slice ::-1 as it stands behind its making -/
theorem ev_back {pins : List (Addr × Obj)} {σ : L2.St} {H : Hp} {s : Shared} {k : Nat} {p1 p2 p3 : Pos} {Q' : Value → Shared → Prop} (I : Inv X pins σ H s)
    (goal : ∀ (tk : Tok) (s2 : Shared), Inv X pins σ H s2 → Q' (.ref s2.heap.objs.size) { s2 with heap := s2.heap.push { cls := .type "slice", data := .fields #[.none, .none, .int (-1) tk] } }) :
    wpAny (model X.prog X.w) X.A (eval (.Slice none none (some (.UnaryOp .USub (.Constant (.int 1) k p1) p2)) p3) X.env) Q' X.xe s := by
  refine wpAny_Slice ?_
  rw [evalPart_none, evalPart_some]
  refine wpAny_pure (wpAny_pure (thn ((pe_un un_neg pe_int).run pins s σ H (fun x G => x = .int (-1) ∧ G = H) I ⟨1, rfl, rfl, rfl⟩) ?_))
  rintro u s2 ⟨x, G, I2, r, rfl, rfl⟩
  obtain ⟨tk, rfl⟩ := r
  exact goal tk s2 I2
def tRevS (te : TE) : TE := fun σ H Q => te σ H fun x H1 => ∃ l : List Nat, x = tx l ∧ l.length ≤ sizeLine ∧ Q (tx l.reverse) H1
theorem pe_revS {e : Expr} {te : TE} {k : Nat} {p1 p2 p3 pos : Pos} (he : PE X e te) : PE X (.Subscript e (.Slice none none (some (.UnaryOp .USub (.Constant (.int 1) k p1) p2)) p3) pos) (tRevS te) := by
  refine ⟨fun pins s σ H Q I h => Subscript_ (thn (he.run pins s σ H _ I h) ?_)⟩
  rintro _ s1 ⟨_, H1, I1, r1, l, rfl, hl, q⟩
  obtain ⟨t, rfl⟩ := r1
  refine ev_back I1 fun tk s4 I4 => ?_
  have I5 : Inv X pins σ H1 { s4 with heap := s4.heap.push { cls := .type "slice", data := .fields #[.none, .none, .int (-1) tk] } } := I4.kept fun _ _ => Heap.get?_push_of_some _
  refine tail_any (ops := [.str ⟨l.toArray⟩ t, .ref s4.heap.objs.size]) (typeIs_str _ _ _) F.slot_str_getitem.lookup ?_ (by with_unfolding_all rfl)
  refine wpAny_getItem_str_slice (l := none) (u := none) (st := some (-1, tk)) ⟨_, Heap.get?_push_size _ rfl, rfl, rfl⟩ rfl ?_
  have ep : ((Builtin.Str.strSliceIndices none none (-1) (⟨l.toArray⟩ : Str).length).filterMap ((⟨l.toArray⟩ : Str).cps[·]?)).toArray = l.reverse.toArray := by
    have e3 : (⟨l.toArray⟩ : Str).length = l.length := by simp [Str.length]
    rw [e3]
    congr 1
    rw [← rev_pick l]
    congr 1
    funext i
    simp
  show Made.post (if ((-1 : Int) == 1 && (Builtin.Str.strSliceIndices none none (-1) (⟨l.toArray⟩ : Str).length).length == (⟨l.toArray⟩ : Str).length) = true then Made.val (.str ⟨l.toArray⟩ t)
    else Made.str ⟨((Builtin.Str.strSliceIndices none none (-1) (⟨l.toArray⟩ : Str).length).filterMap ((⟨l.toArray⟩ : Str).cps[·]?)).toArray⟩) (EP X pins σ Q) _
  have c0 : ((-1 : Int) == 1) = false := by decide
  rw [c0, Bool.false_and, if_neg Bool.false_ne_true, ep]
  exact ⟨by show l.reverse.toArray.size ≤ sizeLine; simpa using hl, .str _, H1, I5.tok _, ⟨_, rfl⟩, q⟩
end
section
variable {prog : Program} {w : World} {A : Around} {E : Value → Shared → Prop} {s : Shared}
end
section
variable {X : Cx}
/-! ### sorted(text) -/
end
theorem le_perm_eq : ∀ {l m : List Nat}, l.Perm m → l.Pairwise (· ≤ ·) → m.Pairwise (· ≤ ·) → l = m := fun h h1 h2 => List.Perm.eq_of_pairwise (le := fun a b => a ≤ b) (fun a b _ _ h3 h4 => Nat.le_antisymm h3 h4) h1 h2 h
end My

set_option Elab.async false
set_option linter.all false
set_option maxRecDepth 100000
set_option maxHeartbeats 2000000
namespace My
open PySem PySem.Spec PyProof.Rows L2
section
variable (K : PySem.W.Frag) {X : Cx}
/-! ### the least of a list -/
end
/-! ### keys of a merged dict -/
theorem put_keys (acc : List (Key × V)) (k : Key) (v : V) : (k ∈ acc.map (·.1) ∧ (putK acc k v).map (·.1) = acc.map (·.1)) ∨ (k ∉ acc.map (·.1) ∧ (putK acc k v).map (·.1) = acc.map (·.1) ++ [k]) := by
  unfold putK
  by_cases h : (acc.any fun kv => decide (kv.1 = k)) = true
  · rw [if_pos h]
    refine .inl ⟨?_, ?_⟩
    · obtain ⟨kv, h1, h2⟩ := List.any_eq_true.mp h
      rw [← of_decide_eq_true h2]
      exact List.mem_map_of_mem h1
    · rw [List.map_map]
      refine List.map_congr_left fun kv _ => ?_
      show (if kv.1 = k then (kv.1, v) else kv).1 = kv.1
      split <;> rfl
  · rw [if_neg h]
    refine .inr ⟨fun z => h ?_, ?_⟩
    · obtain ⟨kv, h1, h2⟩ := List.mem_map.mp z
      exact List.any_eq_true.mpr ⟨kv, h1, decide_eq_true h2⟩
    · rw [List.map_append]
      rfl
theorem merge_keys : ∀ (more acc : List (Key × V)), (acc.map (·.1)).Nodup → ((mergeK acc more).map (·.1)).Nodup ∧ (∀ k, k ∈ (mergeK acc more).map (·.1) ↔ (k ∈ acc.map (·.1) ∨ k ∈ more.map (·.1))) ∧ (mergeK acc more).length ≤ acc.length + more.length
  | [], acc, h => ⟨h, fun k => by simp [mergeK], Nat.le_refl _⟩
  | kv :: more, acc, h => by
    have e : mergeK acc (kv :: more) = mergeK (putK acc kv.1 kv.2) more := rfl
    rcases put_keys acc kv.1 kv.2 with ⟨hin, hk⟩ | ⟨hnot, hk⟩
    · obtain ⟨h1, h2, h3⟩ := merge_keys more (putK acc kv.1 kv.2) (by rw [hk]; exact h)
      rw [e]
      refine ⟨h1, fun k => ?_, ?_⟩
      · rw [h2, hk, List.map_cons, List.mem_cons]
        constructor
        · rintro (z | z)
          · exact .inl z
          · exact .inr (.inr z)
        · rintro (z | z | z)
          · exact .inl z
          · exact .inl (by rw [z]; exact hin)
          · exact .inr z
      · have := congrArg List.length hk
        rw [List.length_map, List.length_map] at this
        rw [List.length_cons]
        omega
    · obtain ⟨h1, h2, h3⟩ := merge_keys more (putK acc kv.1 kv.2) (by
        rw [hk]
        exact List.nodup_append.mpr ⟨h, by simp, fun a ha b hb z => hnot (by rw [← List.mem_singleton.mp hb, ← z]; exact ha)⟩)
      rw [e]
      refine ⟨h1, fun k => ?_, ?_⟩
      · rw [h2, hk, List.map_cons, List.mem_cons, List.mem_append, List.mem_singleton]
        constructor
        · rintro ((z | z) | z)
          · exact .inl z
          · exact .inr (.inl z)
          · exact .inr (.inr z)
        · rintro (z | z | z)
          · exact .inl (.inl z)
          · exact .inl (.inr z)
          · exact .inr z
      · have := congrArg List.length hk
        rw [List.length_map, List.length_append, List.length_map] at this
        have h4 : [kv.1].length = 1 := rfl
        rw [List.length_cons]
        omega
/-! ### choices: texts in a row -/
abbrev txS (l : List Nat) : Str := ⟨l.toArray⟩
theorem txS_of (z : Str) : txS z.cps.toList = z := by
  cases z
  simp
/-! ### prices -/
end My

set_option Elab.async false
set_option linter.all false
set_option maxRecDepth 100000
set_option maxHeartbeats 2000000
namespace My
open PySem PySem.Spec PyProof.Rows L2
/-! ### texts cut -/
theorem cut_from (l : List Nat) (a : Nat) : cutS ⟨l.toArray⟩ (some (a : Int)) none = ⟨(l.drop a).toArray⟩ := by
  unfold cutS
  rw [HT.sIx_nat, HT.sIx_none]
  have e1 : (⟨l.toArray⟩ : Str).cps.toList = l := by simp
  have e2 : (⟨l.toArray⟩ : Str).length = l.length := by simp [Str.length]
  rw [e1, e2]
  congr 2
  by_cases h : a ≤ l.length
  · rw [Nat.min_eq_left h, List.take_of_length_le (by rw [List.length_drop]; omega)]
  · rw [List.drop_of_length_le (by omega), List.drop_of_length_le (by omega), List.take_nil]
/-! ### list(x), x a text or a row -/
/-! ### a need and a list: two ways to look -/
end My

set_option Elab.async false
set_option linter.all false
set_option maxRecDepth 100000
set_option maxHeartbeats 2000000
namespace My
open PySem PySem.Spec PyProof.Rows L2
/-! ### sorted again -/
/-! ### rows of lists of numbers -/
mutual
theorem Ft.dp {K : PySem.W.Frag} {H : Hp} : ∀ (d : PyData) (v : V), Ft H v d → Dp K H v d
  | .none, _, .non => .non
  | .bool _, _, .bl b => .bl b
  | .int _, _, .int i => .int i
  | .str _, _, .str z => .str z
  | .list ds, _, .lst h a => .lst (.inl (.inl h)) (FtA.dp ds _ a)
  | .tuple ds, _, .tup h a => .tup (.inl (.inl h)) (FtA.dp ds _ a)
theorem FtA.dp {K : PySem.W.Frag} {H : Hp} : ∀ (ds : List PyData) (vs : List V), FtA H vs ds → DpAll K H vs ds
  | [], _, .nil => .nil
  | d :: ds, _, .cons h a => .cons (Ft.dp d _ h) (FtA.dp ds _ a)
end
theorem FtA.snoc {H : Hp} : ∀ {vs : List V} {ds : List PyData} {v : V} {d : PyData}, FtA H vs ds → Ft H v d → FtA H (vs ++ [v]) (ds ++ [d])
  | _, _, _, _, .nil, h => .cons h .nil
  | _, _, _, _, .cons a r, h => .cons a (r.snoc h)
end My
namespace My
open PySem PySem.Spec PyProof.Rows L2
end My

set_option Elab.async false
set_option linter.all false
set_option maxRecDepth 100000
set_option maxHeartbeats 2000000
namespace My
open PySem PySem.Spec PyProof.Rows L2
/-! ### generator expressions whose element calls defs -/
/-- the context of a generator expression's own frame -/
abbrev gxC (X : Cx) (A : Around) (s : Shared) (H : Hp) (cenv : Env) (fp : List Addr) (pn : List (Addr × Obj)) : Cx :=
  { X with A := A, s_0 := s, H_0 := H, env := cenv, outer := X.stack, stack := cenv :: X.stack, ex := fp, fn := fun _ => false, pn := pn, xe := fun _ _ => False }
theorem over_gen {A : Around} {elt : Expr} {gs : List Comprehension} {scope : Scope} {pos : Pos} {it acc : Value} {env : Env} : A.over (.compLoop (.GeneratorExp elt gs scope pos) 0 it acc env) [] = A.deeper env := rfl
section
variable {X : Cx} {pins : List (Addr × Obj)} {σ : L2.St} {H : Hp} {s : Shared}
/-- what its consumer wrote at S while it slept -/
theorem woke {S : Addr} {o o' : Obj} {pins0 : List (Addr × Obj)} {s' : Shared} (I : Inv X ((S, o) :: pins0) σ H s) (h0 : X.s_0.heap.objs.size ≤ S) (hc : ∀ x c, X.env.cells.lookup x = some c → c ≠ S) (hpn : ∀ p ∈ X.pn ++ pins0, p.1 ≠ S)
    (os : s'.os = s.os) (bare : AllBare s'.gens) (keep : ∀ b u, b ≠ S → s.heap.get? b = some u → s'.heap.get? b = some u) (own : s'.heap.get? S = some o') (hd : ∀ v, o'.data ≠ .cell v) : Inv X ((S, o') :: pins0) σ H s' := by
  obtain ⟨p1, p2, p3, p4, p5⟩ := I.pin (S, o) (List.mem_append_right _ List.mem_cons_self)
  have I0 : Inv X pins0 σ H s := I.pins_of fun p hp => I.pin p (List.mem_append_right _ (List.mem_cons_of_mem _ hp))
  have J : Inv X pins0 σ H { s with heap := s'.heap, toks := s.toks } := I0.turned (t' := s.toks) keep p2 p3 (.inr h0) hc hpn
  have J2 : Inv X pins0 σ H s' := J.call' (ch := []) os (Un.kept fun b o e => e) J.hok bare (fun b hb => absurd hb (by simp))
  refine J2.pins_of fun p hp => ?_
  rcases List.mem_cons.mp hp with z | z
  · rw [z]
    exact ⟨own, p2, p3, p4, hd⟩
  · exact J2.pin p (List.mem_append_right _ z)
/-- a scope without cells makes none -/
theorem none_made : ∀ {names : List (Str × NameKind)}, (∀ y ∈ names, y.2 ≠ .cell) → (∀ n acc, cellsFrom n names acc = acc) ∧ ∀ h, pushCells h names = h
  | [], _ => ⟨fun _ _ => rfl, fun _ => rfl⟩
  | y :: r, no => by
    have hy : (y.2 == NameKind.cell) = false := beq_eq_false_iff_ne.mpr (no y List.mem_cons_self)
    have ⟨p, q⟩ := none_made (names := r) fun z hz => no z (List.mem_cons_of_mem y hz)
    exact ⟨fun n acc => by rw [cellsFrom, hy]; exact p n acc, fun h => by rw [pushCells, hy]; exact q h⟩
/-- names keep their places when only their kinds change -/
theorem lookup_kinds {f : Str × NameKind → Str × NameKind} (same : ∀ p, (f p).1 = p.1) {x : Str} {k : NameKind} : ∀ {names : List (Str × NameKind)}, names.lookup x = some k → (names.map f).lookup x = some (f (x, k)).2
  | [], e => nomatch e
  | (n, j) :: r, e => by
    rw [List.map_cons, show f (n, j) = (n, (f (n, j)).2) from Prod.ext (same _) rfl]
    cases hx : x == n with
    | true =>
      rw [List.lookup_cons, hx] at e ⊢
      obtain rfl : j = k := Option.some.inj e
      rw [eq_of_beq hx]
    | false =>
      rw [List.lookup_cons, hx] at e ⊢
      exact lookup_kinds same e
/-- a free name stays free or is a cell in the block's scope -/
theorem relab_free {env : Env} {scope : Scope} {x : Str} (e : scope.names.lookup x = some .free) : (relabel scope env).names.lookup x = some .cell ∨ (relabel scope env).names.lookup x = some .free := by
  unfold relabel
  rw [lookup_kinds (fun p => ?_) e]
  · dsimp only
    split
    · exact .inl rfl
    · exact .inr rfl
  · dsimp only
    split <;> rfl
/-- the generator's frame as it begins: what a block's frame would know, with the iterator under its own name -/
theorem gx_start {scope : Scope} {own : List (Str × Nat)} {fp : List Addr} {A : Around} {code : Value} {it : Value} {h' : Heap} {go : Obj} {G : Array GenState} {tk : Nat} (I : Inv X pins σ H s) (ok : BlkOk X.N X.env.scope scope own) (hcell : ∀ y ∈ scope.names, y.2 ≠ .cell) (hN : X.N.Nodup)
    (hfp : ∀ b ∈ fp, FpOk X pins H b ∧ b < s.heap.objs.size) (hA : A.handled = none) (hfr : A.frames = some X.stack) (hn : h'.Ns s.heap.objs.size (fun y => if y = ".0" then some it else none))
    (hs : Heap.SameBut s.heap.objs.size (s.heap.push { cls := .type "frame", data := .dict #[] }) h') (hG : AllBare G) (hgp : (h'.push go).get? h'.objs.size = some go) (hgd : ∀ v, go.data ≠ .cell v) :
    Inv (gxC X (A.deeper (genEnv scope (cloFrom X.env.cells scope.names []) s.heap.objs.size code builtinsNs X.env)) s H (genEnv scope (cloFrom X.env.cells scope.names []) s.heap.objs.size code builtinsNs X.env) fp [(h'.objs.size, go)]) [] (wipe σ (own.map (·.2))) H
      { s with gens := G, toks := tk, heap := h'.push go } := by
  have J := block_start I ok hN hfp
  rw [(none_made hcell).1, (none_made hcell).2] at J
  have lt : s.heap.objs.size < h'.objs.size := hn.lt
  have kp : ∀ b o, s.heap.get? b = some o → (h'.push go).get? b = some o := fun b o e => Heap.get?_push_of_some _ (hs.extBut b o (Nat.ne_of_lt (Heap.lt_size e)) (Heap.get?_push_of_some _ e))
  have cells : ∀ {c : Addr} {v : Option Value}, (s.heap.push { cls := .type "dict", data := .dict #[] }).IsCell c v → (h'.push go).IsCell c v := by
    rintro c v ⟨o, e, d⟩
    have ne : c ≠ s.heap.objs.size := fun z => by
      rw [z, Heap.get?_push_size _ rfl] at e
      rw [← Option.some.inj e] at d
      cases d
    exact ⟨o, kp c o (Heap.get?_push_ne _ _ _ ne ▸ e), d⟩
  have outside : ∀ {y : Str}, scope.names.lookup y = some .cell ∨ scope.names.lookup y = some .free → (relabel scope X.env).names.lookup y = some .cell ∨ (relabel scope X.env).names.lookup y = some .free := fun z => z.elim (fun e => absurd rfl (hcell _ (PySem.mem_of_lookup e))) relab_free
  refine { ok := { mod := J.ok.mod, kind := ok.kind, glob := J.ok.glob, blt := rfl, above := Nat.le_refl _, inj := J.ok.inj, has := fun y z => J.ok.has y (outside z), cab := (fun _ _ z => nomatch z), hd := fun _ => hA, frames := Around.frames_deeper hfr, stk := .inr ⟨rfl, rfl⟩,
                   exf := J.ok.exf, bs := J.ok.bs, bsz := J.ok.bsz, noex := J.ok.noex, exfs := J.ok.exfs, funs := J.ok.funs, frf := J.ok.frf }
           os := rfl, bare := hG, base := Un.kept kp, loc := ⟨_, hn.push go, fun i y v hy hv vis => ?_⟩, cell := fun y c e => (J.cell y c e).imp fun _ => cells, free := J.free, freeC := J.freeC, pin := ?_, hok := I.hok.kept kp, len := J.len }
  · obtain ⟨m, hm, all⟩ := J.loc
    have blank : m y = none := hm.agree (Heap.Ns.new s.heap (.type "dict")) y
    have get := all i y v hy hv
    rcases vis with l | l
    · have l2 : (relabel scope X.env).names.lookup y = some .local := lookup_relabel_local l
      obtain ⟨u, _, z | z⟩ := get (.inl l2)
      · rw [blank] at z
        exact nomatch z.2
      · rcases z.1 with z | z <;> exact nomatch l2.symm.trans z
    · obtain ⟨u, r, z | ⟨_, c, e, k⟩⟩ := get (.inr (outside l))
      · rw [blank] at z
        exact nomatch z.2
      · exact ⟨u, r, .inr ⟨l, c, e, cells k⟩⟩
  · intro p hp
    obtain rfl : p = (h'.objs.size, go) := by simpa using hp
    refine ⟨hgp, I.hok.fresh (Nat.le_of_lt lt), Nat.ne_of_gt lt, fun z => ?_, hgd⟩
    rcases List.mem_cons.mp (I.stkSub _ z) with e | e
    · exact Nat.lt_irrefl _ (Nat.lt_trans lt (show h'.objs.size < _ from (show h'.objs.size = X.env.locals from e) ▸ I.lt))
    · exact I.nofs (Nat.le_of_lt lt) e
end
end My

set_option Elab.async false
set_option linter.all false
set_option maxRecDepth 100000
set_option maxHeartbeats 2000000
namespace My
open PySem PySem.Spec PyProof.Rows L2
/-- where such a generator stands: i items are out; S: what its consumer keeps -/
structure GxAt (X : Cx) (fp : List Addr) (tn : Nat → Heap → Prop) (σ0 : L2.St) (W : Nat → Hp → Prop) (S : Addr) (i : Nat) (o : Obj) (H : Hp) (s : Shared) : Prop where
  inv : Inv X [(S, o)] σ0 H s
  st : tn i s.heap
  nfp : ∀ b ∈ fp, H b = none
  w : W i H
/-- the consumer wrote at S alone -/
structure Wrote (S : Addr) (s s' : Shared) (o' : Obj) : Prop where
  os : s'.os = s.os
  bare : AllBare s'.gens
  keep : ∀ b u, b ≠ S → s.heap.get? b = some u → s'.heap.get? b = some u
  own : s'.heap.get? S = some o'
  nc : ∀ v, o'.data ≠ .cell v
def gxY (X : Cx) (fp : List Addr) (tn : Nat → Heap → Prop) (σ0 : L2.St) (W : Nat → Hp → Prop) (S : Addr) (n : Nat) (F : Nat → V) : Protocol := fun m s₀ v s kap =>
  ∃ i o H, m + i + 1 = n ∧ RelV (F i) v ∧ s₀.heap.get? S = some o ∧ GxAt X fp tn σ0 W S (i + 1) o H s ∧ ∀ s'' o', Wrote S s s'' o' → kap (.send .none) s''
def gxP (X : Cx) (σ0 : L2.St) (W : Nat → Hp → Prop) (S : Addr) (n : Nat) : Nat → Shared → Shared → Prop := fun m s₀ s₁ => m = 0 ∧ ∃ o H, Inv X [(S, o)] σ0 H s₁ ∧ W n H
section
variable {X : Cx}
/-- one item's reading -/
def gxStep (J : It) (g : L2.TG) (te : TE) (vs : List Nat) (σ0 : L2.St) (W : Nat → Hp → Prop) (n : Nat) (F : Nat → V) : Prop :=
  ∀ i H, W i H → (i < n → J.go i H ∧ ∀ x H', J.yld i H x H' → g x σ0 H' fun σ2 H2 => wipe σ2 vs = σ0 ∧ te σ2 H2 fun y H3 => y = F i ∧ W (i + 1) H3) ∧ (i = n → J.stop i H)
theorem gx_loop {A : Around} {elt tg iter : Expr} {scope : Scope} {pos : Pos} {J : It} {fp : List Addr} {it : Addr} {tn : Nat → Heap → Prop} {g : L2.TG} {te : TE} {vs : List Nat} {σ0 : L2.St} {W : Nat → Hp → Prop} {n : Nat} {F : Nat → V} {S : Addr}
    (hA : A.deeper X.env = X.A) (T : Turn X.prog X.w X.K tg J fp it tn) (hc : X.calm = true) (hex : X.ex = fp) (hSf : S ∉ fp) (hpf : ∀ p ∈ X.pn, p.1 ∉ fp) (hxe : ∀ e s, X.xe e s → False) (hco : X.env.scope.isCoroutine = false)
    (h0 : X.s_0.heap.objs.size ≤ S) (hcs : ∀ x c, X.env.cells.lookup x = some c → c ≠ S) (hpS : ∀ p ∈ X.pn, p.1 ≠ S)
    (pg : PG X tg g) (pe : PE X elt te) (step : gxStep J g te vs σ0 W n F) :
    ∀ (k i : Nat) (s₀ s : Shared) (o : Obj) (H : Hp), i + k = n → s₀.heap.get? S = some o → GxAt X fp tn σ0 W S i o H s →
      Seg (model X.prog X.w) A (fun m s₀ r s₁ => r = .ok .next ∧ gxP X σ0 W S n m s₀ s₁) (gxY X fp tn σ0 W S n F) k s₀
        (.compLoop (.GeneratorExp elt [⟨tg, iter, [], 0⟩] scope pos) 0 (.ref it) .none X.env)
        ((model X.prog X.w).den (.compLoop (.GeneratorExp elt [⟨tg, iter, [], 0⟩] scope pos) 0 (.ref it) .none X.env)) [] s := by
  have stat : ∀ {o : Obj} {σ' : L2.St} {H' : Hp} {s' : Shared}, Inv X [(S, o)] σ' H' s' → (∀ b ∈ fp, H' b = none) → ∀ b ∈ fp, FpOk X [(S, o)] H' b := fun {o σ' H' s'} I' hn b hb =>
    ⟨hn b hb, (I'.ok.exf b (hex ▸ hb)).1, I'.ok.exfs b (hex ▸ hb), .inl (hex ▸ hb), fun x c e => (I'.ok.exf b (hex ▸ hb)).2 x c e, fun p hp z => by
      rcases List.mem_append.mp hp with q | q
      · exact hpf p q (z ▸ hb)
      · have e : p = (S, o) := by simpa using q
        rw [e] at z
        exact hSf (by rw [show S = b from z]; exact hb)⟩
  intro k
  induction k with
  | zero =>
    intro i s₀ s o H hk hs0 G
    have hin : i = n := by omega
    subst hin
    show Seg _ A _ _ _ s₀ _ ((compTurn (.GeneratorExp elt [⟨tg, iter, [], 0⟩] scope pos) 0 (.ref it) .none X.env).onRaise (leaving X.env)) [] s
    rw [compTurn_gen, Sem.onRaise_eq_wrap]
    refine seg_bind_wrap (wpAny_standAt ?_)
    refine seg_bind_wrap ?_
    rw [over_gen, hA]
    refine thnF (T.done X rfl rfl rfl hc i [(S, o)] s σ0 H (fun _ _ => False) G.inv (stat G.inv G.nfp) G.st ((step i H G.w).2 rfl)) fun r s6 ⟨hr, I6⟩ => ?_
    subst hr
    exact seg_end (.ok .next) ⟨rfl, rfl, o, H, I6, G.w⟩
  | succ k ih =>
    intro i s₀ s o H hk hs0 G
    have hlt : i < n := by omega
    obtain ⟨go, st⟩ := (step i H G.w).1 hlt
    show Seg _ A _ _ _ s₀ _ ((compTurn (.GeneratorExp elt [⟨tg, iter, [], 0⟩] scope pos) 0 (.ref it) .none X.env).onRaise (leaving X.env)) [] s
    rw [compTurn_gen, Sem.onRaise_eq_wrap]
    refine seg_bind_wrap (wpAny_standAt ?_)
    refine seg_bind_wrap ?_
    rw [over_gen, hA]
    refine thnF (T.item X rfl rfl rfl hc i [(S, o)] s σ0 H (fun _ _ => False) G.inv (stat G.inv G.nfp) G.st go) fun r s6 ⟨u, hr, h6⟩ => ?_
    subst hr
    refine seg_bind_wrap ?_
    rw [over_gen, hA]
    refine thnF h6 fun _ s7 ⟨x, H7, I7, r7, y7, st7, n7⟩ => ?_
    have I7' := I7.pinned (stat I7 n7) (T.obj _ _ st7)
    refine seg_bind_wrap ?_
    rw [over_gen, hA]
    refine wpAny_mono (pg.run _ s7 _ H7 x u _ I7' r7 (st x H7 y7)) (fun _ s8 h8 => ?_) (fun e s' z => (hxe e s' z).elim)
    obtain ⟨σ8, H8, I8, hw8, q8⟩ := h8
    refine seg_bind_wrap (wpAny_tests_nil ?_)
    simp only [if_true]
    have hy : ∀ v, yieldOut X.env v = yieldValue v := fun v => by simp only [yieldOut, hco, Bool.false_eq_true, if_false]
    simp only [hy]
    rw [Sem.bind_eq_wrap', Sem.bind_eq_wrap', Sem.wrap_wrap, Sem.wrap_wrap]
    refine seg_wrap ?_
    rw [over_gen, hA]
    refine wpAny_mono (pe.run _ s8 σ8 H8 _ I8 q8) (fun yv s10 h10 => ?_) (fun e s' z => (hxe e s' z).elim)
    obtain ⟨y, H10, I10, r10, ey, w10⟩ := h10
    have pin' : ∀ b ∈ fp, ∀ ob, s7.heap.get? b = some ob → s10.heap.get? b = some ob ∧ H10 b = none := fun b hb ob e =>
      let z := I10.pin (b, ob) (List.mem_append_right _ (List.mem_append_right _ (mem_pinsAt hb e)))
      ⟨z.1, z.2.1⟩
    have hl : σ0.length = σ8.length := by rw [← hw8, wipe_length]
    have I11 : Inv X [(S, o)] σ0 H10 s10 := (I10.unpinned (pins := [(S, o)])).weak hl fun j v e => by
      rw [← hw8] at e
      exact (wipe_some e).1
    have G11 : GxAt X fp tn σ0 W S (i + 1) o H10 s10 := ⟨I11, T.keep _ _ _ st7 fun b hb ob e => (pin' b hb ob e).1, fun b hb => by
      obtain ⟨ob, e, _⟩ := T.obj _ _ st7 b hb
      exact (pin' b hb ob e).2, w10⟩
    refine seg_at (seg_yield rfl rfl rfl ⟨i, o, H10, by omega, by rw [← ey]; exact r10, hs0, G11, fun s'' o' z => ?_⟩)
    refine seg_again rfl (ih (i + 1) s'' s'' o' H10 (by omega) z.own ⟨woke G11.inv h0 hcs (fun p hp => hpS p (by simpa using hp)) z.os z.bare z.keep z.own z.nc, T.keep _ _ _ G11.st fun b hb ob e => z.keep b ob (fun q => hSf (q ▸ hb)) e, G11.nfp, G11.w⟩)
/-- from its beginning -/
theorem gx_begin {A : Around} {elt tg iter : Expr} {scope : Scope} {pos : Pos} {J : It} {fp : List Addr} {it : Addr} {tn : Nat → Heap → Prop} {R : GenEnd} {Y : Protocol} {k : Nat} {s₀ s : Shared} (T : Turn X.prog X.w X.K tg J fp it tn) (st : tn 0 s.heap)
    (loop : Seg (model X.prog X.w) A R Y k s₀ (.compLoop (.GeneratorExp elt [⟨tg, iter, [], 0⟩] scope pos) 0 (.ref it) .none X.env)
        ((model X.prog X.w).den (.compLoop (.GeneratorExp elt [⟨tg, iter, [], 0⟩] scope pos) 0 (.ref it) .none X.env)) [] s) :
    Seg (model X.prog X.w) A R Y k s₀ (.compStart (.GeneratorExp elt [⟨tg, iter, [], 0⟩] scope pos) 0 (.ref it) .none X.env)
        ((model X.prog X.w).den (.compStart (.GeneratorExp elt [⟨tg, iter, [], 0⟩] scope pos) 0 (.ref it) .none X.env)) [] s := by
  show Seg _ A _ _ _ s₀ _ ((compStart (.GeneratorExp elt [⟨tg, iter, [], 0⟩] scope pos) 0 (.ref it) .none X.env).onRaise (leaving X.env)) [] s
  unfold compStart
  rw [Sem.onRaise_eq_wrap]
  show Seg _ A _ _ _ s₀ _ ((ask >>= _).wrap _ _ _ _) [] s
  refine seg_bind_wrap (wpAny_askSetting ?_)
  split
  · exact seg_again rfl loop
  · refine seg_bind_wrap (wpAny_rule ?_)
    show Seg _ A _ _ _ s₀ _ ((standAt iter.pos >>= _).wrap _ _ _ _) [] s
    exact seg_bind_wrap (wpAny_standAt (seg_bind_wrap (T.self _ 0 s _ _ st (seg_again rfl loop))))
end
end My

set_option Elab.async false
set_option linter.all false
set_option maxRecDepth 100000
set_option maxHeartbeats 2000000
namespace My
open PySem PySem.Spec PyProof.Rows L2
section
variable {X : Cx}
/-- what sum() walks: the generator at a sleeps, k items are still to come -/
structure GxSt (X : Cx) (A : Around) (fp : List Addr) (tn : Nat → Heap → Prop) (σ0 : L2.St) (W : Nat → Hp → Prop) (S : Addr) (n : Nat) (F : Nat → V) (a : Addr) (g k : Nat) (s : Shared) : Prop where
  gen : s.heap.IsGen a g
  lim : s.heap.NoLimit
  bare : AllBare s.gens
  go : ∃ gs, s.gens[g]? = some gs ∧ ∀ s'' o', Wrote S s s'' o' → gs.Goes (model X.prog X.w) A (fun m s₀ r s₁ => r = .ok .next ∧ gxP X σ0 W S n m s₀ s₁) (gxY X fp tn σ0 W S n F) k (.send .none) s''
end
end My

set_option Elab.async false
set_option linter.all false
set_option maxRecDepth 100000
set_option maxHeartbeats 2000000
namespace My
open PySem PySem.Spec PyProof.Rows L2
section
variable {X : Cx} {pins : List (Addr × Obj)} {σ : L2.St} {H : Hp} {s : Shared}
/-- the generator expression's scope -/
structure GxS (X : Cx) (scope : Scope) (own : List (Str × Nat)) : Prop where
  blk : BlkOk X.N X.env.scope scope own
  co : scope.isCoroutine = false
  cell : ∀ y ∈ scope.names, y.2 ≠ .cell
  dot : scope.names.lookup (".0" : Str) = some NameKind.local
/-- the generator at a, as it was made -/
def GxNew (X : Cx) (pins : List (Addr × Obj)) (σ : L2.St) (elt tg iter : Expr) (scope : Scope) (pos : Pos) (own : List (Str × Nat)) (J : It) (H2 : Hp) (a : Addr) (s5 : Shared) : Prop :=
  ∃ (s4 : Shared) (code : Value) (cenv : Env) (fp : List Addr) (it : Addr) (tn : Nat → Heap → Prop) (go : Obj),
    cenv = genEnv scope (cloFrom X.env.cells scope.names []) s4.heap.objs.size code builtinsNs X.env ∧ Inv X pins σ H2 s4 ∧ (∀ b ∈ fp, FpOk X pins H2 b ∧ b < s4.heap.objs.size) ∧ Turn X.prog X.w X.K tg J fp it tn ∧ tn 0 s5.heap ∧
    s5.gens = s4.gens.push (.fresh (.compStart (.GeneratorExp elt [⟨tg, iter, [], 0⟩] scope pos) 0 (.ref it) .none cenv)) ∧ (∀ h : Heap, h.get? a = some go → h.IsGen a s4.gens.size) ∧ s5.heap.get? a = some go ∧ s4.heap.objs.size < a ∧
    (∀ A : Around, A.handled = none → A.frames = some X.stack → Inv (gxC X (A.deeper cenv) s4 H2 cenv fp [(a, go)]) [] (wipe σ (own.map (·.2))) H2 s5)
theorem gx_make {c P : Addr} {elt tg iter : Expr} {gpos : Pos} {scope : Scope} {own : List (Str × Nat)} {wi : TI} {k : Nat} {Q' : Value → Shared → Prop} {R : It → Hp → Prop}
    (hr : Room k X.A) (TB : LamX.TabB X.base X.mg c P) (hcode : X.env.code = .ref c) (S : GxS X scope own) (hN : X.N.Nodup) (hi : PI X tg iter wi)
    (hs : ∀ v, genFold iter X.env v = pure v) (I : Inv X pins σ H s) (h : wi σ H fun J H1 => GxR.TabG H1 P ∧ R J H1)
    (hQ : ∀ J H1 H2 a s5, R J H1 → GxR.Tabbed P H1 H2 → GxNew X pins σ elt tg iter scope gpos own J H2 a s5 → Q' (.ref a) s5) :
    wpAny (model X.prog X.w) X.A (eval (.GeneratorExp elt [⟨tg, iter, [], 0⟩] scope gpos) X.env) Q' X.xe s := by
  have caught : ∀ y ∈ scope.names, y.2 = .free → ∃ c, X.env.cells.lookup y.1 = some c := fun y hy e => I.ok.has _ (S.blk.free y hy e)
  have deep : X.A.depth < recursionLimit := by
    have := hr.dp
    omega
  refine wpAny_GeneratorExp_make S.co (closure_ok caught) S.cell S.dot S.blk.kind deep (thn (hi.run pins s σ H _ I h) fun xv s1 hx => thn hx fun itv s2 h2 => ?_) hs
  obtain ⟨it, fp, tn, J, H1, rfl, I2, T, st2, f2, hT, hR⟩ := h2
  refine ⟨I2.nolimit, gen_code I2 TB hcode hT fun code H2 s4 tab I4 kp _ h' hn' hs' => ?_⟩
  have apart : ∀ b ∈ fp, b ≠ P := fun b hb z => by
    obtain ⟨_, e, _⟩ := hT
    rw [← z, (f2 b hb).1] at e
    cases e
  have kp5 : ∀ (go : Obj) b u, s4.heap.get? b = some u → (h'.push go).get? b = some u := fun go b u e => Heap.get?_push_of_some _ (hs'.extBut b u (Nat.ne_of_lt (Heap.lt_size e)) (Heap.get?_push_of_some _ e))
  have f4 : ∀ b ∈ fp, FpOk X pins H2 b ∧ b < s4.heap.objs.size := fun b hb => by
    obtain ⟨o, e, _⟩ := T.obj _ _ st2 b hb
    exact ⟨⟨(tab.2 b (apart b hb)).trans (f2 b hb).1, (f2 b hb).2⟩, Heap.lt_size (kp b o (apart b hb) e)⟩
  generalize hgo : ({ cls := .type "generator", data := .fields #[.int s4.gens.size 0, .str "<genexpr>" (s4.toks + 1), .str (X.env.qual ++ "<genexpr>") (s4.toks + 1 + 1)] } : Obj) = go
  have hgp : (h'.push go).get? h'.objs.size = some go := Heap.get?_push_size _ (by rw [← hgo]; rfl)
  have hgd : ∀ v, go.data ≠ .cell v := fun v z => by
    rw [← hgo] at z
    cases z
  exact hQ J H1 H2 h'.objs.size _ hR tab ⟨s4, code, _, fp, it, tn, go, rfl, I4, f4, T, T.keep _ _ _ st2 fun b hb u e => kp5 go b u (kp b u (apart b hb) e), rfl, fun hh e => ⟨go, _, _, e, by rw [← hgo], by rw [← hgo], by rw [← hgo]⟩, hgp, hn'.lt,
    fun A hA hfr => gx_start I4 S.blk S.cell hN f4 hA hfr hn' hs' (I4.bare.push rfl) hgp hgd⟩
end
end My

set_option Elab.async false
set_option linter.all false
set_option maxRecDepth 100000
set_option maxHeartbeats 2000000
namespace My
open PySem PySem.Spec PyProof.Rows L2
def gxCk (scope : Scope) : Bool := !scope.isCoroutine && (scope.names.all fun y => match y.2 with | .cell => false | _ => true) && (match scope.names.lookup (".0" : Str) with | some .local => true | _ => false)
theorem gxS_by {X : Cx} {scope : Scope} {own : List (Str × Nat)} (b : BlkOk X.N X.env.scope scope own) (h : gxCk scope = true) : GxS X scope own := by
  unfold gxCk at h
  simp only [Bool.and_eq_true] at h
  obtain ⟨⟨h1, h2⟩, h3⟩ := h
  rw [List.all_eq_true] at h2
  refine ⟨b, by simpa using h1, fun y hy z => ?_, ?_⟩
  · have q := h2 y hy
    rw [z] at q
    cases q
  · revert h3
    cases scope.names.lookup (".0" : Str) with
    | none => simp
    | some k => cases k <;> simp
/-! sums -/
/-! works -/
end My

set_option Elab.async false
set_option linter.all false
set_option maxRecDepth 100000
set_option maxHeartbeats 2000000
namespace My
open PySem PySem.Spec PyProof.Rows L2
/-! ### slices of a tuple of its own, sorted(tuple of texts) -/
theorem cut_to (xs : List V) (b : Nat) : cutV xs none (some (b : Int)) = xs.take b := by
  unfold cutV
  rw [HT.sIx_nat, HT.sIx_none, List.drop_zero, Nat.sub_zero]
  by_cases h : b ≤ xs.length
  · rw [Nat.min_eq_left h]
  · rw [Nat.min_eq_right (by omega), List.take_length, List.take_of_length_le (by omega)]
theorem cut_of (xs : List V) (a : Nat) (h : a ≤ xs.length) : cutV xs (some (a : Int)) none = xs.drop a := by
  unfold cutV
  rw [HT.sIx_nat, HT.sIx_none, Nat.min_eq_left h]
  exact List.take_of_length_le (by rw [List.length_drop]; omega)
/-! ### prices of more lists -/
end My

set_option Elab.async false
set_option linter.all false
set_option maxRecDepth 100000
set_option maxHeartbeats 2000000
namespace My
open PySem PySem.Spec PyProof.Rows L2
/-! ### a promise where no repr is under way -/
structure FnG (P : Program) (w : World) (K : PySem.W.Frag) (mg : Str → Option Value) (base : Heap) (k : Nat) (f : Addr) (fd : FuncData) (ps : List Str) (sp : Sp) : Prop where
  ln : ∀ vs H Q E, sp vs H Q E → vs.length = ps.length
  go : ∀ (A : Around), A.guards = some [] → Room k A → ∀ (outer : List Env) (s : Shared) (H : Hp) (args : Args) (us : List Value) (vs : List V) (Q : VK) (E : XK), Env0 P w K mg base A outer s H → BindsTo s fd args (ps.zip us) → Vals vs us → sp vs H Q E → codeAny (model P w) A (.call (.ref f) args) (CR CX0 outer P w H s Q E) s
theorem okG {P : Program} {w : World} {K : PySem.W.Frag} {mg : Str → Option Value} {base : Heap} {x qual : Str} {st : Stmt} {f : Addr} {fd : FuncData} {N ps : List Str} {k : Nat} {sp : Sp} (F : Fun K x qual st f fd) (S : FnScope N ps (defScope st)) (ln : ∀ vs H Q E, sp vs H Q E → vs.length = ps.length)
    (body : ∀ (cdv : Value) (A : Around) (outer : List Env) (s : Shared) (H : Hp) (vs : List V) (Q : VK) (E : XK), A.guards = some [] → Room k (A.deeper (envOfC qual (defScope st) s.heap.objs.size f cdv)) → sp vs H Q E →
      ∃ t, PSs (cxOf CX0 P w K mg base N qual (defScope st) f cdv A outer s H E).nox (defBody st) t ∧ t { nx := fun _ G => Q .non G, rt := Q } (start N vs) H) : FnG P w K mg base (k + 1) f fd ps sp := by
  obtain ⟨oc, od, kV, dcv, pm, an, cdv, ct, osl, rfl, look, hcode⟩ := F.ex
  refine ⟨ln, fun A hgd hr outer s H args us vs Q E e0 hbd rel hsp => ?_⟩
  obtain ⟨t, ht, hq⟩ := body cdv A outer s H vs Q E hgd (hr.deeper _) hsp
  have inK : K.In s.heap := e0.mod.kin.keeps fun c o z => (e0.bs c o z).1
  have nlm : s.heap.NoLimit := e0.mod.nolimit.keeps fun c o z => (e0.bs c o z).1
  refine codeAny_call_function hr.depth (inK _ _ look) rfl S.co S.gen rfl (PySem.W.codeRec_of inK hcode) (hbd _ _ _ _ (wpAny_newFunctionEnv_cells S.kind (fun y hy => ?_) fun env he s1 begun => ?_))
  · rcases S.par y.1 (List.of_mem_zip (show (y.1, y.2) ∈ ps.zip us from hy)).1 with z | z
    · exact .inl z
    · exact .inr ⟨z, PySem.W.cellsFrom_some _ _ _ (.inl z)⟩
  subst he
  refine ⟨nlm.keeps begun.toInCall.keep, codeAny_func (wpAny_mono (ht.nox.run [] s1 _ H _ (inv_start S hr.hd e0 (ln _ _ _ _ hsp) rel begun) hq) (fun fl s' hs => ?_) fun e s' hs => hs)⟩
  cases fl with
  | ret u =>
    obtain ⟨v, σ', G, J, rv, qv⟩ := hs
    exact ⟨v, G, J.os, J.bare, J.base, J.hok, rv, qv⟩
  | next =>
    obtain ⟨σ', G, J, qv⟩ := hs
    exact ⟨V.non, G, J.os, J.bare, J.base, J.hok, rfl, qv⟩
  | brk =>
    obtain ⟨_, _, _, z⟩ := hs
    exact False.elim z
  | cont =>
    obtain ⟨_, _, _, z⟩ := hs
    exact False.elim z
/-! ### repr of data -/
structure Sh (n m : Nat) (d : PyData) : Prop where
  ok : d.showable = true
  nd : d.hasDict = false
  sh : d.leavesShort 100 = true
  dp : d.depth ≤ n
  wt : d.weight ≤ m
  ly : d.canLay0 = true
theorem Sh.mono {n n' m m' : Nat} {d : PyData} (h : Sh n m d) (h1 : n ≤ n') (h2 : m ≤ m') : Sh n' m' d := ⟨h.ok, h.nd, h.sh, Nat.le_trans h.dp h1, Nat.le_trans h.wt h2, h.ly⟩
theorem Sh.none {n m : Nat} : Sh n m .none := ⟨rfl, rfl, rfl, Nat.zero_le _, Nat.zero_le _, rfl⟩
theorem Sh.bool {n m : Nat} (b : Bool) : Sh n m (.bool b) := ⟨rfl, rfl, rfl, Nat.zero_le _, Nat.zero_le _, rfl⟩
theorem Sh.str {n m : Nat} {l : List Nat} (h : ∀ c ∈ l, c < 1000) (hl : l.length ≤ m) : Sh n m (.str (txS l)) := by
  refine ⟨rfl, rfl, ?_, Nat.zero_le _, ?_, ?_⟩
  · have e : l.toArray.toList = l := by simp
    simp only [PyData.leavesShort, List.all_eq_true, decide_eq_true_eq]
    intro c hc
    have := h c hc
    omega
  · show l.toArray.size ≤ m
    simpa using hl
  · show (txS l).cps.all (· < 0x110000) = true
    rw [Array.all_eq_true']
    intro c hc
    have hc2 : c ∈ l := by simpa using hc
    have := h c hc2
    exact decide_eq_true (by omega)
theorem log2_small {i : Int} (h : i.natAbs < 10 ^ 60) : i.natAbs.log2 < 200 := by
  by_cases e : i.natAbs = 0
  · rw [e]
    decide
  · rw [Nat.log2_lt e]
    exact Nat.lt_of_lt_of_le h (by decide)
theorem Sh.int {n m : Nat} {i : Int} (h : i.natAbs < 10 ^ 60) (hm : 200 ≤ m) : Sh n m (.int i) := by
  have h1 := log2_small h
  refine ⟨?_, rfl, ?_, Nat.zero_le _, ?_, rfl⟩
  · simp only [PyData.showable, decide_eq_true_eq]
    omega
  · simp only [PyData.leavesShort, decide_eq_true_eq]
    show (Str.ofString (toString i)).length ≤ 100
    have h2 := int_text_length_le10 (a := i) (k := 60) (by decide) h
    rw [PySem.ofString_length]
    omega
  · simp only [PyData.weight]
    split <;> omega
theorem sh_all {n m : Nat} : ∀ {xs : List PyData}, (∀ x ∈ xs, Sh n m x) → PyData.showableAll xs = true ∧ PyData.hasDictAll xs = false ∧ PyData.leavesShortAll 100 xs = true ∧ PyData.depthAll xs ≤ n ∧ PyData.weightAll xs ≤ (m + 1) * xs.length ∧ PyData.canLayAll0 xs = true
  | [], _ => ⟨rfl, rfl, rfl, Nat.zero_le _, Nat.zero_le _, rfl⟩
  | x :: xs, h => by
    obtain ⟨a1, a2, a3, a4, a5, a6⟩ := sh_all (xs := xs) fun y hy => h y (List.mem_cons_of_mem _ hy)
    have b := h x (List.mem_cons_self ..)
    refine ⟨by simp only [PyData.showableAll, b.ok, a1, Bool.and_self], by simp only [PyData.hasDictAll, b.nd, a2, Bool.or_self], by simp only [PyData.leavesShortAll, b.sh, a3, Bool.and_self], ?_, ?_, by simp only [PyData.canLayAll0, b.ly, a6, Bool.and_self]⟩
    · have := b.dp
      simp only [PyData.depthAll]
      omega
    · have := b.wt
      simp only [PyData.weightAll, List.length_cons, Nat.mul_add, Nat.mul_one]
      omega
theorem Sh.lst {n m : Nat} {xs : List PyData} (h : ∀ x ∈ xs, Sh n m x) : Sh (n + 1) ((m + 1) * xs.length) (.list xs) := by
  obtain ⟨a1, a2, a3, a4, a5, a6⟩ := sh_all h
  exact ⟨a1, a2, a3, Nat.succ_le_succ a4, a5, a6⟩
theorem Sh.tup {n m : Nat} {xs : List PyData} (h : ∀ x ∈ xs, Sh n m x) : Sh (n + 1) ((m + 1) * xs.length) (.tuple xs) := by
  obtain ⟨a1, a2, a3, a4, a5, a6⟩ := sh_all h
  exact ⟨a1, a2, a3, Nat.succ_le_succ a4, a5, a6⟩
theorem Sh.fits {d : PyData} (h : Sh 20 100000 d) : d.shown.length ≤ sizeLine := by
  have h1 := PyData.shown_le 100 (by decide) d h.sh
  have h2 := h.wt
  rw [sizeLine_eq]
  omega
def rRepr (K : PySem.W.Frag) : List V → Hp → VK → Prop := fun xs H Q => ∃ (v : V) (d : PyData), xs = [v] ∧ Dp K H v d ∧ Sh 20 100000 d ∧ Q (.str d.shown) H
theorem cReprK (K : PySem.W.Frag) {X : Cx} {k : Nat} (hgd : X.A.guards = some []) (hr : Room k X.A) (hK : X.K = K := by rfl) : CallR X (.builtin "repr") (rRepr K) := by
  subst hK
  intro pins s σ H xs us Q I r h
  obtain ⟨v, d, rfl, hd, hs, q⟩ := h
  obtain ⟨u, rfl, rx⟩ := vals1 r
  obtain ⟨as, rd⟩ := Dp.reads I _ _ _ hd rx
  have hz := hs.fits
  cases u with
  | ref a =>
    refine repr_of_reads' rd hs.ok (PyData.noDict_hsm hs.nd) hgd ?_ (fun _ _ e => e) (fun h' u tk hk => ⟨.str d.shown, H, I.kept hk, ⟨_, rfl⟩, q⟩) hz
    have h1 := hs.dp
    have h2 := hr.un
    omega
  | none =>
    cases rd
    exact PySem.P.repr_of_none ⟨.str _, H, I.tok _, ⟨_, rfl⟩, q⟩
  | bool b =>
    cases rd
    exact PySem.P.repr_of_bool ⟨.str _, H, I.tok _, ⟨_, rfl⟩, q⟩
  | int i t =>
    cases rd
    refine PySem.P.repr_of_int ?_ ⟨.str _, H, I.tok _, ⟨_, rfl⟩, q⟩
    have := hs.ok
    simpa only [PyData.showable, decide_eq_true_eq] using this
  | str x t =>
    cases rd
    exact PySem.P.repr_of_str ⟨.str _, H, I.tok _, ⟨_, rfl⟩, q⟩ hz
  | _ => cases rd
/-! ### the law's own call -/
section
variable {P : Program} {w : World} {K : PySem.W.Frag} {mg mb : Str → Option Value} {cs : List (Addr × Addr)} {a : Addr} {vs : List Value} {ns : List Int} {s : Shared} {H : Hp}
/-- told of at the beginning: the script, where it is no part of what is written, and the tables of code -/
structure Begun (P : Program) (w : World) (K : PySem.W.Frag) (cs : List (Addr × Addr)) (a : Addr) (vs : List Value) (ns : List Int) (s : Shared) (H : Hp) : Prop where
  tb : ∀ p ∈ cs, H p.2 = some (.tbl #[])
  only : ∀ b u, H b = some u → (b ∈ cs.map (·.2) ∧ u = .tbl #[]) ∨ (b = a ∧ K.lookup a = Option.none ∧ u = .frz { cls := .type "list", data := .seq vs.toArray } (.lst (ns.map V.int)))
  sc : SqL K H a (ns.map V.int)
  hok : HOk P w H s.heap
open Classical in
theorem begun (inK : K.In s.heap) (hT : ∀ p ∈ cs, s.heap.get? p.2 = some { cls := .none, data := .fields #[] }) (ha : s.heap.get? a = some { cls := .type "list", data := .seq vs.toArray }) (hi : IntsAre vs ns) (hl : ns.length ≤ sizeLine) : ∃ H, Begun P w K cs a vs ns s H := by
  have tabs : ∀ b, b ∈ cs.map (·.2) → s.heap.get? b = some { cls := .none, data := .fields #[] } := fun b z => by
    obtain ⟨p, hp, rfl⟩ := List.mem_map.mp z
    exact hT p hp
  have far : a ∉ cs.map (·.2) := fun z => by
    have z1 := (tabs a z).symm.trans ha
    cases congrArg Obj.data (Option.some.inj z1)
  refine ⟨fun b => if b ∈ cs.map (·.2) then some (.tbl #[]) else if b = a ∧ K.lookup a = Option.none then some (.frz { cls := .type "list", data := .seq vs.toArray } (.lst (ns.map V.int))) else Option.none, fun p hp => if_pos (List.mem_map.mpr ⟨p, hp, rfl⟩), fun b u hu => ?_, ?_, fun b u hu => ?_⟩
  · split at hu
    · rename_i z
      exact .inl ⟨z, (Option.some.inj hu).symm⟩
    · split at hu
      · rename_i z
        exact .inr ⟨z.1, z.2, (Option.some.inj hu).symm⟩
      · cases hu
  · cases hk : K.lookup a with
    | some o =>
      have z := (inK a o hk).symm.trans ha
      cases z
      exact .inr ⟨_, vs.toArray, _, hk, rfl, rfl, rfl, by rw [List.size_toArray, hi.length]; exact hl, by simpa using vals_ints hi⟩
    | none => exact .inl (.inr ⟨{ cls := .type "list", data := .seq vs.toArray }, (if_neg far).trans (if_pos ⟨rfl, rfl⟩)⟩)
  · split at hu
    · rename_i z
      cases hu
      exact tabs b z
    · split at hu
      · rename_i z
        cases hu
        rw [z.1]
        exact ⟨ha, by rw [List.length_map]; exact hl, vs, _, vals_ints hi, ha⟩
      · cases hu
/-- what is no list and no empty table is not told of -/
theorem Begun.bare (B : Begun P w K cs a vs ns s H) {b : Addr} {o : Obj} (hT : ∀ p ∈ cs, s.heap.get? p.2 = some { cls := .none, data := .fields #[] }) (ha : s.heap.get? a = some { cls := .type "list", data := .seq vs.toArray }) (e : s.heap.get? b = some o) (h1 : ∀ us n, o.data ≠ .seq us n) (h2 : o.data ≠ .fields #[]) : (hidT s.heap H).get? b = some o := by
  refine hidT_get e ?_
  cases hb : H b with
  | none => rfl
  | some u =>
    rcases B.only b u hb with ⟨z, _⟩ | ⟨z, _⟩
    · obtain ⟨p, hp, rfl⟩ := List.mem_map.mp z
      have z1 := Option.some.inj ((hT p hp).symm.trans e)
      exact absurd (congrArg Obj.data z1).symm h2
    · subst z
      have z1 := Option.some.inj (ha.symm.trans e)
      exact absurd (congrArg Obj.data z1).symm (h1 _ _)
/-- the law's call -/
theorem callG {k : Nat} {fa : Addr} {fd : FuncData} {x : Str} {sp : Sp} (inK : K.In s.heap) (hns : s.heap.Ns mainGlobals mg) (hb : s.heap.Ns builtinsNs mb) (hbb : ∀ y : Str, y ≠ "__name__" → mb y = bootBuiltins y) (hlim : s.heap.NoLimit) (hg : s.gens = #[])
    (hT : ∀ p ∈ cs, s.heap.get? p.2 = some { cls := .none, data := .fields #[] }) (nT : ∀ p ∈ cs, K.lookup p.2 = Option.none) (C : ∀ p ∈ cs, PySem.W.CodeHd s.heap p.1 p.2)
    (hbm : ∃ (m : Addr) (o : Obj), mg "__builtins__" = some (.ref m) ∧ m ≠ builtinsNs ∧ s.heap.get? m = some o ∧ o.cls = .type "module" ∧ o.dict = some builtinsNs ∧ o.data = .plain)
    (ha : s.heap.get? a = some { cls := .type "list", data := .seq vs.toArray }) (hi : IntsAre vs ns) (hl : ns.length ≤ sizeLine) (hr : Room k callerA)
    (F : ∀ base : Heap, K.In base → base.Ns mainGlobals mg → (∀ p ∈ cs, LamX.TabB base mg p.1 p.2) → FnG P w K mg base k fa fd [x] sp) (hbind : ∀ (t : Shared) (u : Value), BindsTo t fd ⟨[u], []⟩ [(x, u)])
    (hsp : ∀ G : Hp, (∀ p ∈ cs, G p.2 = some (.tbl #[])) → SqL K G a (ns.map V.int) → sp [.ref a] G (fun v _ => v = .bl true) fun _ _ _ => False) :
    codeAny (model P w) callerA (.call (.ref fa) ⟨[.ref a], []⟩) (fun r t => r = .ok (.ret (.bool true)) ∧ OldK s.heap t.heap ∧ t.os = s.os ∧ AllBare t.gens) s := by
  obtain ⟨H, B⟩ := begun (P := P) (w := w) inK hT ha hi hl
  have stays : ∀ {b : Addr} {o : Obj}, s.heap.get? b = some o → (∀ us n, o.data ≠ .seq us n) → o.data ≠ .fields #[] → (hidT s.heap H).get? b = some o := fun e h1 h2 => B.bare hT ha e h1 h2
  have names : ∀ {b : Addr} {m : Str → Option Value}, s.heap.Ns b m → (hidT s.heap H).Ns b m := fun ⟨o, es, ep, e, d, r⟩ => ⟨o, es, ep, stays e (fun us n z => by rw [d] at z; cases z) (fun z => by rw [d] at z; cases z), d, r⟩
  have inB : K.In (hidT s.heap H) := fun b o e => hidT_get (inK b o e) (by
    cases hbb : H b with
    | none => rfl
    | some u =>
      exfalso
      rcases B.only b u hbb with ⟨z, _⟩ | ⟨z, z2, _⟩
      · obtain ⟨p, hp, rfl⟩ := List.mem_map.mp z
        cases (nT p hp).symm.trans e
      · subst z
        cases z2.symm.trans e)
  have TB : ∀ p ∈ cs, LamX.TabB (hidT s.heap H) mg p.1 p.2 := fun p hp => by
    have hTp := hT p hp
    refine ⟨?_, ?_, fun z => ?_⟩
    · obtain ⟨o, us, fl, tf, fg, tg, inF, tx, tt, e1, r1, r2, r3, r4⟩ := C p hp
      exact ⟨o, us, fl, tf, fg, tg, inF, tx, tt, stays e1 (fun us n z => by rw [r2] at z; cases z) (fun z => by
        rw [r2] at z
        cases z
        simp at r3), r1, r2, r3, r4⟩
    · obtain ⟨m, o, b1, b2, b3, b4, b5, b6⟩ := hbm
      refine ⟨m, o, b1, b2, fun z => ?_, fun z => ?_, stays b3 (fun us n z => by rw [b6] at z; cases z) (fun z => by rw [b6] at z; cases z), b4, b5, b6⟩
      · obtain ⟨o2, es, ep, e, d, _⟩ := hns
        rw [z] at b3
        cases e.symm.trans b3
        rw [d] at b6
        cases b6
      · rw [z] at b3
        cases hTp.symm.trans b3
        cases b6
    · obtain ⟨o2, es, ep, e, d, _⟩ := hns
      rw [z] at e
      cases hTp.symm.trans e
      cases d
  have hM : L2.Mod K mg (hidT s.heap H) := ⟨inB, names hns, ⟨mb, names hb, hbb⟩, let ⟨mc, h1, h2⟩ := hlim; ⟨mc, names h1, h2⟩⟩
  have e0 : Env0 P w K mg (hidT s.heap H) callerA [] s H := ⟨rfl, hM, fun b o e => of_hidT e, Nat.le_of_eq (hidT_size _ _), trivial, fun b z => absurd z List.not_mem_nil, B.hok, .of_eq hg⟩
  refine codeAny_mono ((F _ inB (names hns) TB).go callerA rfl hr [] s H ⟨[.ref a], []⟩ [.ref a] [.ref a] _ _ e0 (hbind s (.ref a)) (.cons rfl .nil) (hsp H B.tb B.sc)) fun r t h => ?_
  cases r with
  | error e => exact False.elim h
  | ok fl =>
    cases fl with
    | ret u =>
      obtain ⟨v, G, hos, hbare, un, hokG, rel, hv⟩ := h
      have hv2 : v = .bl true := hv
      subst hv2
      obtain rfl : u = Value.bool true := rel
      have more : ∀ p ∈ cs, ∃ m : Array Value, t.heap.get? p.2 = some { cls := .none, data := .fields m } := fun p hp => by
        obtain ⟨m, z⟩ := un.tbls p.2 #[] (B.tb p hp)
        exact ⟨_, hokG p.2 _ z⟩
      have rest : ∀ b o, b ∉ cs.map (·.2) → s.heap.get? b = some o → t.heap.get? b = some o := fun b o nb e => by
        cases hbH : H b with
        | none => exact un.keep b o e hbH (fun z => absurd z List.not_mem_nil) List.not_mem_nil
        | some y =>
          rcases B.only b y hbH with ⟨z, _⟩ | ⟨_, _, rfl⟩
          · exact absurd z nb
          · obtain ⟨g1, _⟩ := B.hok b _ hbH
            obtain ⟨g2, _⟩ := hokG b _ (un.frzs b _ _ hbH)
            cases g1.symm.trans e
            exact g2
      refine ⟨rfl, ⟨fun b o e => ?_, fun b o e => ?_⟩, hos, hbare⟩
      · by_cases z : b ∈ cs.map (·.2)
        · obtain ⟨p, hp, rfl⟩ := List.mem_map.mp z
          obtain ⟨m, hm⟩ := more p hp
          cases (hT p hp).symm.trans e
          exact .inr (.inl ⟨((C p hp).tab (hT p hp)).isCodeTable, rfl, #[], m, rfl, by rw [Array.empty_append]; exact hm⟩)
        · exact .inl (rest b o z e)
      · by_cases z : b ∈ cs.map (·.2)
        · obtain ⟨p, hp, rfl⟩ := List.mem_map.mp z
          obtain ⟨m, hm⟩ := more p hp
          exact ⟨_, hm⟩
        · exact ⟨o, rest b o z e⟩
    | _ => exact False.elim h
end
/-- what is known of the law at the head's heap -/
def LawAtG (l : PySem.W.OpenLaw) (w : World) (K : PySem.W.Frag) (k n : Nat) (x : Str) (mg : Str → Option Value) (fa : Addr) (h : Heap) : Prop :=
  ∃ (fd : FuncData) (cs : List (Addr × Addr)) (sp : Sp), (∀ p ∈ cs, h.get? p.2 = some { cls := .none, data := .fields #[] }) ∧ (∀ p ∈ cs, K.lookup p.2 = none) ∧ (∀ p ∈ cs, PySem.W.CodeHd h p.1 p.2) ∧ (∀ (t : Shared) (u : Value), BindsTo t fd ⟨[u], []⟩ [(x, u)]) ∧
    (∀ (G : Hp) (sc : Addr) (ns : List Int), ns.length ≤ n → (∀ z ∈ ns, Builtin.Int.intBits z ≤ 1048576) → (∀ p ∈ cs, G p.2 = some (.tbl #[])) → SqL K G sc (ns.map V.int) → sp [.ref sc] G (fun v _ => v = .bl true) fun _ _ _ => False) ∧
    ∀ base : Heap, K.In base → base.Ns mainGlobals mg → (∀ p ∈ cs, LamX.TabB base mg p.1 p.2) → FnG l.prog w K mg base k fa fd [x] sp
theorem walk_ofG {l : PySem.W.OpenLaw} {n k : Nat} {q : Program} {loose : List Str} {XP : (Str → Option Value) → Heap → Prop} {YP : World → Heap → Prop} {d : DefRec} {K : Params → PySem.W.Frag} {x : Str}
    (hn : l.most = some n) (hz : n ≤ sizeLine) (hdf : d.params.defaults = []) (hr : Room k callerA) (hY : ∀ (v : World) (h : Heap), YP v h → (K v.params).In h)
    (F : ∀ (w : World) (mg : Str → Option Value) (fl : Addr) (h : Heap), YP w h → (K w.params).In h → h.Ns mainGlobals mg → mg d.name = some (.ref fl) →
      (∀ (nm : Str) (fb : Addr), ((recsOf q).any fun e => e.name == nm) = true → mg nm = some (.ref fb) → OwnTC (K w.params) fb h) → LawAtG l w (K w.params) k n x mg fl h) :
    PySem.W.WalkO q loose XP YP l.row.toRowW d [] (fun f vs => PySem.call f vs) := by
  refine Att.attach_callB hn hdf fun w s₀ s₁ mg mb fa o pm cd dc a vs ns G Y ho hd hcd hmg hobj hints hlen hbits hg => ?_
  have KX := hY w _ Y
  obtain ⟨fd, cs, sp, hT, nT, C, hb, hsp, hF⟩ := F w mg fa _ Y KX G.T.g hmg fun nm fb hrec hnm c P o1 fd1 e dd vs1 sl k1 k2 k3 k4 k5 => by
    obtain ⟨dL, hm, hn1⟩ := List.any_eq_true.mp hrec
    have hn3 : dL.name = nm := beq_iff_eq.mp hn1
    obtain ⟨a', o', fd', c', P', g1, g2, g3, g4, g5, g6⟩ := G.T.tab dL hm
    rw [hn3, hnm] at g1
    cases g1
    rw [KX _ _ k1] at g2
    cases g2
    rw [k2] at g3
    cases g3
    rw [k3] at g4
    cases g4
    have g7 := g6
    obtain ⟨⟨oc, vc, e1, _, e3, e4⟩, hP⟩ := g7
    rw [KX _ _ k4] at e1
    cases e1
    cases e3
    rw [k5] at e4
    cases e4
    exact ⟨hP, PySem.W.CodeHd.of g5 g6⟩
  exact callG KX G.T.g G.T.b G.T.builtins G.T.nolimit hg hT nT C G.T.bmain hobj hints (Nat.le_trans hlen hz) hr hF hb fun H hH hS => hsp H a ns hlen hbits hH hS
end My

set_option Elab.async false
set_option linter.all false
set_option maxRecDepth 100000
set_option maxHeartbeats 2000000
namespace My
open PySem PySem.Spec PyProof.Rows L2
/-! ### all(elt for target in iter), any(..), the element of any kind -/
section
variable {X : Cx}
theorem repin {A : Around} {s s' : Shared} {H H' : Hp} {cenv : Env} {fp : List Addr} {pn pins : List (Addr × Obj)} {σ : L2.St} (I : Inv (gxC X A s H cenv fp pn) pins σ H' s') : Inv (gxC X A s H cenv fp []) (pn ++ pins) σ H' s' :=
  ⟨⟨I.ok.mod, I.ok.kind, I.ok.glob, I.ok.blt, I.ok.above, I.ok.inj, I.ok.has, I.ok.cab, I.ok.hd, I.ok.frames, I.ok.stk, I.ok.exf, I.ok.bs, I.ok.bsz, I.ok.noex, I.ok.exfs, I.ok.funs, I.ok.frf⟩, I.os, I.bare, I.base, I.loc, I.cell, I.free, I.freeC, I.pin, I.hok, I.len⟩
theorem all_loopC {A : Around} {fp : List Addr} {tn : Nat → Heap → Prop} {σ0 : L2.St} {W : Nat → Hp → Prop} {n : Nat} {tr : Nat → Bool} {a : Addr} {g : Nat} {go : Obj} {R : Result → Shared → Prop}
    (hh : A.handled = none) (hd : A.depth < recursionLimit) (hgo : ∀ h : Heap, h.get? a = some go → h.IsGen a g) (hnc : ∀ v, go.data ≠ .cell v)
    (hR1 : ∀ s' o H, (∀ j, j < n → tr j = true) → Inv X [(a, o)] σ0 H s' → W n H → R (.ok (.ret (.bool true))) s')
    (hR0 : ∀ s' o H j, j < n → tr j = false → (∀ i, i < j → tr i = true) → Inv X [(a, o)] σ0 H s' → W (j + 1) H → R (.ok (.ret (.bool false))) s') :
    ∀ (k i : Nat) (s : Shared), i + k = n → (∀ j, j < i → tr j = true) → GxSt X A.in1.in1 fp tn σ0 W a n (fun i => .bl (tr i)) a g k s → s.heap.get? a = some go →
      codeAny (model X.prog X.w) A (.builtin "all.loop" ⟨[.ref a], []⟩) R s := by
  intro k
  induction k with
  | zero =>
    intro i s hk hall Z hS
    have hin : i = n := by omega
    subst hin
    obtain ⟨hg, hl, hb, gs, hgs, hgoes⟩ := Z
    refine codeAny_builtin F.entry_all_loop ?_
    rw [Around.under_plainId F.plain_all_loop _]
    show wpAny _ A.in1 (pyNext (.ref a) >>= _) _ _ s
    refine wpAny_bind (wpAny_pyNext_genexpQ (A := A.in1) hh hl hd hg hgs (hgoes (s.setGen g .running) _ ⟨rfl, allBare_setGen hb rfl, fun b u _ e => e, hS, hnc⟩) (fun v s₁ gs' hbare hv => ?_) fun s₁ hp h' hk' => ?_)
    · obtain ⟨i', o, H, _, _, _, G, hkap⟩ := hv
      obtain ⟨p1, _, _, _, p5⟩ := G.inv.pin (a, o) (List.mem_append_right _ List.mem_cons_self)
      exact (hkap s₁ o ⟨rfl, G.inv.bare, fun b u _ e => e, p1, p5⟩).elim
    · obtain ⟨_, o, H, I, w⟩ := hp
      refine wpAny_bind (wpAny_rule (wpAny_pure (hR1 _ o H hall ?_ w)))
      exact I.call' (ch := []) rfl (Un.kept hk') (I.hok.kept hk') (allBare_setGen I.bare rfl) (fun b hb => absurd hb (by simp))
  | succ k ih =>
    intro i s hk hall Z hS
    have hlt : i < n := by omega
    obtain ⟨hg, hl, hb, gs, hgs, hgoes⟩ := Z
    have hgl : g < s.gens.size := (Array.getElem?_eq_some_iff.mp hgs).1
    refine codeAny_builtin F.entry_all_loop ?_
    rw [Around.under_plainId F.plain_all_loop _]
    show wpAny _ A.in1 (pyNext (.ref a) >>= _) _ _ s
    refine wpAny_bind (GenW.wpAny_gsz (n := g + 1) hgl (wpAny_pyNext_genexpQ (A := A.in1) hh hl hd hg hgs (hgoes (s.setGen g .running) _ ⟨rfl, allBare_setGen hb rfl, fun b u _ e => e, hS, hnc⟩) (fun v s₁ gs' hbare hv => ?_) fun s₁ hp h' hk' => ?_))
    · intro hsz
      obtain ⟨i', o, H, hi', hrel, hs0, G, hkap⟩ := hv
      have ei : i' = i := by omega
      subst ei
      obtain rfl : v = .bool (tr i') := hrel
      have eo : o = go := by
        have h1 : s.heap.get? a = some o := hs0
        rw [hS] at h1
        exact (Option.some.inj h1).symm
      subst eo
      obtain ⟨p1, _, _, _, p5⟩ := G.inv.pin (a, o) (List.mem_append_right _ List.mem_cons_self)
      refine wpAny_bind (wpAny_holding (wpAny_truthy_bool (wpAny_bind (wpAny_letGo ?_))))
      cases hb : tr i' with
      | true =>
        simp only [if_true]
        have hsz1 : g < s₁.gens.size := by
          have q : (s₁.setGen g gs').gens.size = s₁.gens.size := GenW.setGen_size _ _ _
          have hsz' : g + 1 ≤ (s₁.setGen g gs').gens.size := hsz
          omega
        refine wpAny_pure ⟨plainId_quiet F.plain_all_loop _, ih (i' + 1) _ (by omega) (fun j hj => ?_) ⟨hgo _ p1, G.inv.nolimit, allBare_setGen (s := s₁) G.inv.bare hbare, gs', setGen_at (s := s₁) hsz1, fun s'' o'' z => ?_⟩ p1⟩
        · by_cases e : j = i'
          · rw [e]
            exact hb
          · exact hall j (by omega)
        · exact hkap s'' o'' ⟨z.os, z.bare, z.keep, z.own, z.nc⟩
      | false =>
        simp only [Bool.false_eq_true, if_false]
        refine wpAny_bind (wpAny_rule (wpAny_pure (hR0 _ o H i' hlt hb hall ?_ G.w)))
        exact G.inv.call' (ch := []) rfl (Un.kept fun b u e => e) G.inv.hok (allBare_setGen G.inv.bare hbare) (fun b hb => absurd hb (by simp))
    · exact absurd hp.1 (Nat.succ_ne_zero k)
/-- all(..) -/
def tAllC (P : Addr) (wi : TI) (g : L2.TG) (te : TE) (vs : List Nat) : TE := fun σ H Q => wi σ H fun J H1 => GxR.TabG H1 P ∧ ∀ H2, GxR.Tabbed P H1 H2 →
  ∃ (n : Nat) (tr : Nat → Bool) (W : Nat → Hp → Prop), W 0 H2 ∧ gxStep J g te vs (wipe σ vs) W n (fun i => .bl (tr i)) ∧ (∀ H3, W n H3 → (∀ j, j < n → tr j = true) → Q (.bl true) H3) ∧ ∀ j H3, j < n → tr j = false → (∀ i, i < j → tr i = true) → W (j + 1) H3 → Q (.bl false) H3
theorem pe_allC {c P : Addr} {elt tg iter : Expr} {p pos gpos : Pos} {scope : Scope} {own : List (Str × Nat)} {wi : TI} {g : L2.TG} {te : TE} {k : Nat}
    (hr : Room (k + 3) X.A) (hg : Gl X "all") (hm : X.mg "all" = none) (TB : LamX.TabB X.base X.mg c P) (hcode : X.env.code = .ref c) (S : GxS X scope own) (hN : X.N.Nodup) (hc : X.calm = true) (hi : PI X tg iter wi)
    (pg : ∀ (A : Around) (s : Shared) (H : Hp) (C : Addr) (cl : List (Str × Addr)) (code : Value) (fp : List Addr) (pn : List (Addr × Obj)), PG (gxC X A s H (genEnv scope cl C code builtinsNs X.env) fp pn) tg g)
    (pe : ∀ (A : Around) (s : Shared) (H : Hp) (C : Addr) (cl : List (Str × Addr)) (code : Value) (fp : List Addr) (pn : List (Addr × Obj)), Room k A → PE (gxC X A s H (genEnv scope cl C code builtinsNs X.env) fp pn) elt te)
    (hb : bootBuiltins "all" = some (.builtin "all") := by decide +kernel) (hs : ∀ v, genFold iter X.env v = pure v := by intro _; rfl)
    (he : starEach [.GeneratorExp elt [⟨tg, iter, [], 0⟩] scope gpos] X.env = (false, eval (.GeneratorExp elt [⟨tg, iter, [], 0⟩] scope gpos) X.env) :: starEach [] X.env := by rfl) :
    PE X (.Call (.Name "all" p) [.GeneratorExp elt [⟨tg, iter, [], 0⟩] scope gpos] [] pos) (tAllC P wi g te (own.map (·.2))) := by
  refine ⟨fun pins s σ H Q I h => ?_⟩
  refine wpAny_Call_Name_kw (ld_blt I hg hm hb (PyProof.Rows.callWith_builtin1 ?_ he (by rfl)))
  rw [he]
  refine Calls.spliced_cons (gx_make hr TB hcode S hN hi hs I h fun J H1 H2 a s5 hR hTb hG => ?_)
  refine Calls.spliced_nil ?_
  obtain ⟨n, tr, W, w0, step, hend1, hend0⟩ := hR H2 hTb
  obtain ⟨s4, code, cenv, fp, it, tn, go, ec, I4, f4, T, st5, egs, hgen, hga, hlt, hInv⟩ := hG
  have I5 := repin (hInv X.A.in1.in1 hr.hd I4.ok.frames)
  have hroom : Room k (X.A.in1.in1.deeper cenv) := hr.in1.in1.deeper cenv
  have pg' := pg (X.A.in1.in1.deeper cenv) s4 H2 s4.heap.objs.size (cloFrom X.env.cells scope.names []) code fp []
  have pe' := pe (X.A.in1.in1.deeper cenv) s4 H2 s4.heap.objs.size (cloFrom X.env.cells scope.names []) code fp [] hroom
  rw [← ec] at pg' pe'
  have hgen5 : s5.heap.IsGen a s4.gens.size := hgen _ hga
  obtain ⟨_, ga, gb, gc, hnc⟩ := I5.pin (a, go) (by simp)
  have haf : a ∉ fp := fun hb => Nat.lt_irrefl _ (Nat.lt_trans (f4 a hb).2 hlt)
  have hcl : ∀ x c, cenv.cells.lookup x = some c → c ≠ a := fun x c e z => by
    obtain ⟨v, o, e1, e2⟩ := I5.cell x c e
    rw [z, hga] at e1
    cases e1
    exact hnc _ e2
  refine call_function_tree F.kind_all F.plain_all F.entry_all (F.args_all1 _) ?_
  unfold Builtin.«all»
  refine wpAny_bind (m := oneArg "all" _) (wpAny_pure ?_)
  refine wpAny_bind (wpAny_pyIter_gen hgen5 ?_)
  refine wpAny_pure ⟨plainId_quiet F.plain_all_loop _, all_loopC (X := gxC X (X.A.in1.in1.deeper cenv) s4 H2 cenv fp []) (A := X.A) (fp := fp) (tn := tn) (σ0 := wipe σ (own.map (·.2))) (W := W) (n := n) (tr := tr) (a := a) (g := s4.gens.size) (go := go)
    hr.hd (by have := hr.dp; omega) hgen hnc (fun s' o H3 hdone I' w' => ?_) (fun s' o H3 j hj hsj hal I' w' => ?_) n 0 _ (Nat.zero_add n) (fun j hj => absurd hj (Nat.not_lt_zero j)) ⟨hgen5, I5.nolimit, I5.bare, .fresh (.compStart (.GeneratorExp elt [⟨tg, iter, [], 0⟩] scope gpos) 0 (.ref it) .none cenv), ?_, fun s'' o' z => ⟨rfl, ?_⟩⟩ hga⟩
  · refine ⟨.bl true, H3, ?_, rfl, hend1 H3 w' hdone⟩
    exact I4.call' (ch := fp) I'.os I'.base I'.hok I'.bare fun b hb => ⟨(f4 b hb).1.2.2.2.1, (f4 b hb).1.2.1, (f4 b hb).1.2.2.2.2.1, (f4 b hb).1.2.2.2.2.2⟩
  · refine ⟨.bl false, H3, ?_, rfl, hend0 j H3 hj hsj hal w'⟩
    exact I4.call' (ch := fp) I'.os I'.base I'.hok I'.bare fun b hb => ⟨(f4 b hb).1.2.2.2.1, (f4 b hb).1.2.1, (f4 b hb).1.2.2.2.2.1, (f4 b hb).1.2.2.2.2.2⟩
  · show s5.gens[s4.gens.size]? = _
    rw [egs]
    exact Array.getElem?_push_size ..
  · have Iz : Inv (gxC X (X.A.in1.in1.deeper cenv) s4 H2 cenv fp []) [(a, o')] (wipe σ (own.map (·.2))) H2 s'' := woke I5 (Nat.le_of_lt hlt) hcl (fun p hp => absurd hp (by simp)) z.os z.bare z.keep z.own z.nc
    have stz : tn 0 s''.heap := T.keep _ _ _ st5 fun b hb u e => z.keep b u (fun q => haf (q ▸ hb)) e
    exact gx_begin (X := gxC X (X.A.in1.in1.deeper cenv) s4 H2 cenv fp []) T stz (gx_loop (X := gxC X (X.A.in1.in1.deeper cenv) s4 H2 cenv fp []) rfl T hc rfl haf (fun p hp => absurd hp List.not_mem_nil) (fun _ _ q => q) (by rw [ec]; exact S.co) (Nat.le_of_lt hlt) hcl (fun p hp => absurd hp List.not_mem_nil) pg' pe' step n 0 s'' s'' o' H2 (Nat.zero_add n) z.own ⟨Iz, stz, fun b hb => (f4 b hb).1.1, w0⟩)
end
end My

set_option Elab.async false
set_option linter.all false
set_option maxRecDepth 100000
set_option maxHeartbeats 2000000
namespace My
open PySem PySem.Spec PyProof.Rows L2
theorem gx_step {J : It} {n : Nat} {G : Hp → Prop} {Y : Nat → Hp → V → Hp → Prop} (w : Walk J n G Y) {g : L2.TG} {te : TE} {vs : List Nat} {σ0 : L2.St} {F : Nat → V} {Pv : Nat → Hp → Prop}
    (hG : ∀ i H, i ≤ n → Pv i H → G H) (hs : ∀ i x H H', i < n → Pv i H → Y i H x H' → g x σ0 H' fun σ2 H2 => wipe σ2 vs = σ0 ∧ te σ2 H2 fun y H3 => y = F i ∧ i + 1 ≤ n ∧ Pv (i + 1) H3) :
    gxStep J g te vs σ0 (fun i H => i ≤ n ∧ Pv i H) n F := fun i H hW => ⟨fun hi => ⟨w.goes i H hi (hG i H hW.1 hW.2), fun x H' y => hs i x H H' hi hW.2 (w.yields i H x H' hi (hG i H hW.1 hW.2) y)⟩, fun e => by
    subst e
    exact w.stops H (hG i H hW.1 hW.2)⟩
/-! ### data that lies away from some places -/
def hidS (L : List Addr) (H : Hp) : Hp := fun b => if b ∈ L then none else H b
theorem hid_some {L : List Addr} {H : Hp} {b : Addr} {o : HO} : hidS L H b = some o ↔ b ∉ L ∧ H b = some o := by
  unfold hidS
  split
  · rename_i h
    exact ⟨(fun z => nomatch z), (fun z => absurd h z.1)⟩
  · rename_i h
    exact ⟨fun z => ⟨h, z⟩, fun z => z.2⟩
abbrev Fl (L : List Addr) (H : Hp) (v : V) (d : PyData) : Prop := Ft (hidS L H) v d
abbrev FlA (L : List Addr) (H : Hp) (vs : List V) (ds : List PyData) : Prop := FtA (hidS L H) vs ds
theorem hid_same {L : List Addr} {H : Hp} : Same (hidS L H) H := fun _ _ e => (hid_some.mp e).2
theorem hid_keep {L : List Addr} {H H' : Hp} (k : ∀ b o, b ∉ L → H b = some o → H' b = some o) : Same (hidS L H) (hidS L H') := fun b o e => hid_some.mpr ⟨(hid_some.mp e).1, k b o (hid_some.mp e).1 (hid_some.mp e).2⟩
theorem hid_sub {L L' : List Addr} {H : Hp} (h : ∀ b ∈ L', b ∈ L) : Same (hidS L H) (hidS L' H) := fun b o e => hid_some.mpr ⟨fun z => (hid_some.mp e).1 (h b z), (hid_some.mp e).2⟩
theorem Fl.to {L : List Addr} {H : Hp} {v : V} {d : PyData} (h : Fl L H v d) : Ft H v d := Ft.mono hid_same _ _ h
theorem FlA.to {L : List Addr} {H : Hp} {vs : List V} {ds : List PyData} (h : FlA L H vs ds) : FtA H vs ds := FtA.mono hid_same _ _ h
theorem Fl.keep {L : List Addr} {H H' : Hp} {v : V} {d : PyData} (h : Fl L H v d) (k : ∀ b o, b ∉ L → H b = some o → H' b = some o) : Fl L H' v d := Ft.mono (hid_keep k) _ _ h
theorem FlA.keep {L : List Addr} {H H' : Hp} {vs : List V} {ds : List PyData} (h : FlA L H vs ds) (k : ∀ b o, b ∉ L → H b = some o → H' b = some o) : FlA L H' vs ds := FtA.mono (hid_keep k) _ _ h
theorem Fl.sub {L L' : List Addr} {H : Hp} {v : V} {d : PyData} (h : Fl L H v d) (hs : ∀ b ∈ L', b ∈ L) : Fl L' H v d := Ft.mono (hid_sub hs) _ _ h
theorem FlA.sub {L L' : List Addr} {H : Hp} {vs : List V} {ds : List PyData} (h : FlA L H vs ds) (hs : ∀ b ∈ L', b ∈ L) : FlA L' H vs ds := FtA.mono (hid_sub hs) _ _ h
theorem Fl.same {L : List Addr} {H H' : Hp} {v : V} {d : PyData} (h : Fl L H v d) (k : Same H H') : Fl L H' v d := h.keep fun b o _ e => k b o e
theorem FlA.same {L : List Addr} {H H' : Hp} {vs : List V} {ds : List PyData} (h : FlA L H vs ds) (k : Same H H') : FlA L H' vs ds := h.keep fun b o _ e => k b o e
theorem Fl.sx {Ps L : List Addr} {H H' : Hp} {v : V} {d : PyData} (h : Fl L H v d) (k : Sx Ps H H') (hs : ∀ b ∈ Ps, b ∈ L) : Fl L H' v d := h.keep fun b o nb e => k b o (fun z => nb (hs b z)) e
theorem FlA.sx {Ps L : List Addr} {H H' : Hp} {vs : List V} {ds : List PyData} (h : FlA L H vs ds) (k : Sx Ps H H') (hs : ∀ b ∈ Ps, b ∈ L) : FlA L H' vs ds := h.keep fun b o nb e => k b o (fun z => nb (hs b z)) e
theorem Fl.kp {r : Addr} {L : List Addr} {H H' : Hp} {v : V} {d : PyData} (h : Fl L H v d) (k : Kp r H H') (hs : r ∈ L) : Fl L H' v d := h.keep fun b o nb e => k b o (fun z => nb (z ▸ hs)) e
theorem FlA.kp {r : Addr} {L : List Addr} {H H' : Hp} {vs : List V} {ds : List PyData} (h : FlA L H vs ds) (k : Kp r H H') (hs : r ∈ L) : FlA L H' vs ds := h.keep fun b o nb e => k b o (fun z => nb (z ▸ hs)) e
theorem Fl.tup {L : List Addr} {H : Hp} {p : Addr} {xs : List V} {ds : List PyData} (n : p ∉ L) (h : H p = some (.tup xs)) (a : FlA L H xs ds) : Fl L H (.ref p) (.tuple ds) := Ft.tup (hid_some.mpr ⟨n, h⟩) a
theorem Fl.lst {L : List Addr} {H : Hp} {p : Addr} {xs : List V} {ds : List PyData} (n : p ∉ L) (h : H p = some (.lst xs)) (a : FlA L H xs ds) : Fl L H (.ref p) (.list ds) := Ft.lst (hid_some.mpr ⟨n, h⟩) a
theorem Fl.openT {L : List Addr} {H : Hp} {v : V} {ds : List PyData} (h : Fl L H v (.tuple ds)) : ∃ (a : Addr) (xs : List V), v = .ref a ∧ a ∉ L ∧ H a = some (.tup xs) ∧ FlA L H xs ds := by
  cases h with
  | tup e a => exact ⟨_, _, rfl, (hid_some.mp e).1, (hid_some.mp e).2, a⟩
theorem Fl.isStr {L : List Addr} {H : Hp} {v : V} {z : Str} (h : Fl L H v (.str z)) : v = .str z := by
  cases h
  rfl
theorem Fl.isInt {L : List Addr} {H : Hp} {v : V} {i : Int} (h : Fl L H v (.int i)) : v = .int i := by
  cases h
  rfl
theorem FlA.one {L : List Addr} {H : Hp} {vs : List V} {a : PyData} (h : FlA L H vs [a]) : ∃ x, vs = [x] ∧ Fl L H x a := by
  cases h with
  | cons f g =>
    cases g
    exact ⟨_, rfl, f⟩
theorem FlA.two {L : List Addr} {H : Hp} {vs : List V} {a b : PyData} (h : FlA L H vs [a, b]) : ∃ x y, vs = [x, y] ∧ Fl L H x a ∧ Fl L H y b := by
  cases h with
  | cons f g =>
    obtain ⟨y, rfl, fy⟩ := FlA.one g
    exact ⟨_, y, rfl, f, fy⟩
theorem FlA.at {L : List Addr} {H : Hp} {vs : List V} {ds : List PyData} (h : FlA L H vs ds) {i : Int} (h0 : 0 ≤ i) (h1 : i < ds.length) : ∃ v d, atI vs i = some v ∧ ds[i.toNat]? = some d ∧ Fl L H v d := by
  have hl := FtA.len h
  have hi : i.toNat < vs.length := by omega
  obtain ⟨d, e, f⟩ := FtA.getV h (List.getElem?_eq_getElem hi)
  refine ⟨_, d, ?_, e, f⟩
  have e2 := atI_nat (List.getElem?_eq_getElem hi)
  rw [show ((i.toNat : Nat) : Int) = i by omega] at e2
  exact e2
theorem FlA.app {L : List Addr} {H : Hp} : ∀ {vs us : List V} {ds es : List PyData}, FlA L H vs ds → FlA L H us es → FlA L H (vs ++ us) (ds ++ es)
  | _, _, _, _, .nil, h => h
  | _, _, _, _, .cons a r, h => .cons a (FlA.app r h)
theorem FlA.take {L : List Addr} {H : Hp} : ∀ (n : Nat) {vs : List V} {ds : List PyData}, FlA L H vs ds → FlA L H (vs.take n) (ds.take n)
  | 0, _, _, _ => .nil
  | _ + 1, _, _, .nil => .nil
  | n + 1, _, _, .cons a r => .cons a (FlA.take n r)
theorem FlA.drop {L : List Addr} {H : Hp} : ∀ (n : Nat) {vs : List V} {ds : List PyData}, FlA L H vs ds → FlA L H (vs.drop n) (ds.drop n)
  | 0, _, _, h => h
  | _ + 1, _, _, .nil => .nil
  | n + 1, _, _, .cons _ r => FlA.drop n r
/-! ### what isinstance tells of data, more -/
def isIn : PyData → Bool
  | .int _ => true
  | .bool _ => true
  | _ => false
theorem kit_in {K : PySem.W.Frag} (d : PyData) : PySem.W.kitOne K (.type (tyN d)) (.type "int") = some (isIn d) := by
  cases d <;> exact kit_ty (by kernel_rfl)
/-! ### questions, of any data -/
def isNumD : PyData → Bool
  | .int i => decide (0 ≤ i) && decide (i ≤ 999)
  | _ => false
def risB : List Nat → Bool
  | a :: b :: l => decide (a < b) && risB (b :: l)
  | _ => true
theorem ris_get : ∀ (l : List Nat), risB l = true ↔ ∀ i, i + 1 < l.length → l.getD i 0 < l.getD (i + 1) 0
  | [] => by simp [risB]
  | [a] => by simp [risB]
  | a :: b :: l => by
    have ih := ris_get (b :: l)
    unfold risB
    rw [Bool.and_eq_true, decide_eq_true_eq, ih]
    constructor
    · rintro ⟨h1, h2⟩ i hi
      cases i with
      | zero => exact h1
      | succ i => exact h2 i (by simpa using hi)
    · intro h
      exact ⟨h 0 (by simp), fun i hi => h (i + 1) (by simpa using hi)⟩
end My
namespace My
open PySem PySem.Spec PyProof.Rows L2
theorem shA_mem {n m : Nat} : ∀ {ds : List PyData}, PyData.showableAll ds = true → PyData.hasDictAll ds = false → PyData.leavesShortAll 100 ds = true → PyData.depthAll ds ≤ n → PyData.weightAll ds ≤ m → PyData.canLayAll0 ds = true → ∀ d ∈ ds, Sh n m d
  | [], _, _, _, _, _, _, d, h => nomatch h
  | x :: xs, h1, h2, h3, h4, h5, h6, d, h => by
    simp only [PyData.canLayAll0, Bool.and_eq_true] at h6
    simp only [PyData.showableAll, Bool.and_eq_true] at h1
    simp only [PyData.hasDictAll, Bool.or_eq_false_iff] at h2
    simp only [PyData.leavesShortAll, Bool.and_eq_true] at h3
    simp only [PyData.depthAll] at h4
    simp only [PyData.weightAll] at h5
    rcases List.mem_cons.mp h with e | e
    · rw [e]
      exact ⟨h1.1, h2.1, h3.1, by omega, by omega, h6.1⟩
    · exact shA_mem h1.2 h2.2 h3.2 (by omega) (by omega) h6.2 d e
theorem Sh.memT {n m : Nat} {ds : List PyData} (h : Sh n m (.tuple ds)) : ∀ d ∈ ds, Sh n m d := by
  have h4 : PyData.depthAll ds + 1 ≤ n := h.dp
  exact shA_mem h.ok h.nd h.sh (by omega) h.wt h.ly
theorem Sh.len {n m : Nat} {z : Str} (h : Sh n m (.str z)) (hm : m ≤ 100000) : z.length ≤ sizeLine := by
  have h1 : z.cps.size ≤ m := h.wt
  have h2 : z.length = z.cps.size := rfl
  rw [sizeLine_eq, h2]
  omega
theorem tp_open {d : PyData} (h : isTp d = true) : ∃ ds, d = .tuple ds := by
  cases d with
  | tuple ds => exact ⟨ds, rfl⟩
  | _ => cases h
theorem st_open {d : PyData} (h : isSt d = true) : ∃ z, d = .str z := by
  cases d with
  | str z => exact ⟨z, rfl⟩
  | _ => cases h
theorem int_open {d : PyData} (h : (isIn d && !isBl d) = true) : ∃ i, d = .int i := by
  cases d with
  | int i => exact ⟨i, rfl⟩
  | bool b => cases h
  | _ => cases h
theorem cps_lt (a b : Nat) : decide ((sS a).cps.toList < (sS b).cps.toList) = decide (a < b) := by
  refine decide_eq_decide.mpr ?_
  show [a] < [b] ↔ a < b
  constructor
  · intro h
    cases h with
    | rel h => exact h
    | cons h => cases h
  · exact fun h => List.Lex.rel h
/-- a frozen thing among data away from places that hold no tuple -/
theorem Fz.fl {L : List Addr} {H : Hp} (hL : ∀ b ∈ L, ∀ xs, H b ≠ some (.tup xs)) : ∀ {d : PyData} {v : V}, Fz H v d → Fl L H v d := by
  have key : ∀ n, ∀ (d : PyData) (v : V), d.depth < n → Fz H v d → Fl L H v d := by
    intro n
    induction n with
    | zero => exact fun d v h => absurd h (Nat.not_lt_zero _)
    | succ n ih =>
      intro d v hd f
      have all : ∀ (ds : List PyData) (vs : List V), PyData.depthAll ds < n → FzA H vs ds → FlA L H vs ds := by
        intro ds
        induction ds with
        | nil =>
          intro vs _ g
          cases g
          exact .nil
        | cons d ds ih2 =>
          intro vs hn g
          simp only [PyData.depthAll] at hn
          cases g with
          | cons a r => exact .cons (ih d _ (by omega) a) (ih2 _ (by omega) r)
      cases f with
      | non => exact .non
      | bl b => exact .bl b
      | int i => exact .int i
      | str x => exact .str x
      | tup h a =>
        have h4 : PyData.depthAll _ + 1 < n + 1 := hd
        exact Fl.tup (fun z => hL _ z _ h) h (all _ _ (by omega) a)
  exact fun {d v} f => key (d.depth + 1) d v (Nat.lt_succ_self _) f
end My

set_option Elab.async false
set_option linter.all false
set_option maxRecDepth 100000
set_option maxHeartbeats 2000000
namespace My
open PySem PySem.Spec PyProof.Rows L2 HT
/-! ### t[::-1] of a tuple -/
section
variable {X : Cx}
end
end My
namespace My
open PySem PySem.Spec PyProof.Rows L2
/-! ### tuple + tuple, both of one's own -/
def rCatW (K : PySem.W.Frag) : R2 := fun x y H Q => ∃ (a b : Addr) (xs ys : List V), x = .ref a ∧ y = .ref b ∧ H a = some (.tup xs) ∧ H b = some (.tup ys) ∧ xs.length + ys.length ≤ sizeLine ∧ ∀ (p : Addr) (H' : Hp), Same H H' → (H p = none ∨ p = a ∨ p = b) → H' p = some (.tup (xs ++ ys)) → Q (.ref p) H'
theorem catWK (K : PySem.W.Frag) {X : Cx} (hK : X.K = K := by rfl) : OpR X (binaryOp .Add) (rCatW K) := by
  subst hK
  intro pins s σ H x y v u Q I rx ry h
  obtain ⟨a, b, xs, ys, rfl, rfl, ha, hb, hz, q⟩ := h
  exact op_catA pins s σ H _ _ v u Q I rx ry ⟨a, b, xs, ys, rfl, rfl, .inl (.inl ha), .inl (.inl hb), hz, (fun e => q b H (Same.refl H) (.inr (.inr rfl)) (by rw [e, List.nil_append]; exact hb)), (fun _ e => q a H (Same.refl H) (.inr (.inl rfl)) (by rw [e, List.append_nil]; exact ha)), (fun _ _ p np => q p _ (Same.new (Same.refl H) np) (.inl np) upd_same)⟩
def rSlW (K : PySem.W.Frag) : V → Option Int → Option Int → Hp → VK → Prop := fun x lo hi H Q => ∃ (a : Addr) (xs : List V), x = .ref a ∧ H a = some (.tup xs) ∧ ∀ (p : Addr) (H' : Hp), Same H H' → (H p = none ∨ p = a) → H' p = some (.tup (cutV xs lo hi)) → Q (.ref p) H'
theorem slWK (K : PySem.W.Frag) {X : Cx} (hK : X.K = K := by rfl) : SlR X (rSlW K) := by
  subst hK
  intro pins s σ H x v vl vu lo hi sl Q I rx hs pl pu h
  obtain ⟨a, xs, rfl, ha, q⟩ := h
  refine sl_tupA pins s σ H _ v vl vu lo hi sl Q I rx hs pl pu ⟨a, xs, rfl, .inl (.inl ha), fun hw => q a H (Same.refl H) (.inr rfl) ?_, fun _ p np => q p _ (Same.new (Same.refl H) np) (.inl np) upd_same⟩
  rw [ha]
  unfold cutV
  rw [hw.1, hw.2, List.drop_zero, Nat.sub_zero, List.take_length]
/-! ### some data -/
def Th (L : List Addr) (H : Hp) (n m : Nat) (v : V) : Prop := ∃ d, Fl L H v d ∧ Sh n m d ∧ wd d ≤ m
theorem Th.mono {L : List Addr} {H : Hp} {n n' m m' : Nat} {v : V} (h : Th L H n m v) (h1 : n ≤ n') (h2 : m ≤ m') : Th L H n' m' v := by
  obtain ⟨d, f, s, w⟩ := h
  exact ⟨d, f, s.mono h1 h2, Nat.le_trans w h2⟩
theorem Th.keep {L : List Addr} {H H' : Hp} {n m : Nat} {v : V} (h : Th L H n m v) (k : ∀ b o, b ∉ L → H b = some o → H' b = some o) : Th L H' n m v := by
  obtain ⟨d, f, s, w⟩ := h
  exact ⟨d, f.keep k, s, w⟩
theorem Th.same {L : List Addr} {H H' : Hp} {n m : Nat} {v : V} (h : Th L H n m v) (k : Same H H') : Th L H' n m v := h.keep fun b o _ e => k b o e
theorem Th.kp {r : Addr} {L : List Addr} {H H' : Hp} {n m : Nat} {v : V} (h : Th L H n m v) (k : Kp r H H') (hr : r ∈ L) : Th L H' n m v := h.keep fun b o nb e => k b o (fun z => nb (z ▸ hr)) e
theorem Th.sx {Ps L : List Addr} {H H' : Hp} {n m : Nat} {v : V} (h : Th L H n m v) (k : Sx Ps H H') (hs : ∀ b ∈ Ps, b ∈ L) : Th L H' n m v := h.keep fun b o nb e => k b o (fun z => nb (hs b z)) e
theorem Th.non {L : List Addr} {H : Hp} {n m : Nat} : Th L H n m .non := ⟨.none, .non, Sh.none, Nat.zero_le _⟩
theorem Th.bl {L : List Addr} {H : Hp} {n m : Nat} (b : Bool) : Th L H n m (.bl b) := ⟨.bool b, .bl b, Sh.bool b, Nat.zero_le _⟩
theorem Th.int {L : List Addr} {H : Hp} {n m : Nat} {i : Int} (h : i.natAbs < 10 ^ 60) (hm : 200 ≤ m) : Th L H n m (.int i) := ⟨.int i, .int i, Sh.int h hm, Nat.zero_le _⟩
theorem Th.tx {L : List Addr} {H : Hp} {n m : Nat} {l : List Nat} (h : ∀ c ∈ l, c < 1000) (hl : l.length ≤ m) : Th L H n m (tx l) := ⟨.str (txS l), .str _, Sh.str h hl, Nat.zero_le _⟩
theorem th_all {L : List Addr} {H : Hp} {n m : Nat} : ∀ {vs : List V}, (∀ v ∈ vs, Th L H n m v) → ∃ ds, FlA L H vs ds ∧ (∀ d ∈ ds, Sh n m d) ∧ wdA ds ≤ m
  | [], _ => ⟨[], .nil, (fun d h => nomatch h), Nat.zero_le _⟩
  | v :: vs, h => by
    obtain ⟨d, f, s, w⟩ := h v (List.mem_cons_self ..)
    obtain ⟨ds, fs, ss, ws⟩ := th_all (vs := vs) fun u hu => h u (List.mem_cons_of_mem _ hu)
    refine ⟨d :: ds, .cons f fs, fun e he => ?_, ?_⟩
    · rcases List.mem_cons.mp he with z | z
      · rw [z]
        exact s
      · exact ss e z
    · show max (wd d) (wdA ds) ≤ m
      omega
theorem wd_fit {m k w : Nat} (h : w ≤ m) (h0 : k = 0 → w = 0) : max k w ≤ (m + 1) * k := by
  cases k with
  | zero =>
    rw [h0 rfl]
    exact Nat.le_refl _
  | succ k =>
    have e : (m + 1) * (k + 1) = m * k + m + (k + 1) := by
      rw [Nat.add_mul, Nat.one_mul, Nat.mul_add, Nat.mul_one]
    omega
theorem Th.tup {L : List Addr} {H : Hp} {n m : Nat} {p : Addr} {vs : List V} (np : p ∉ L) (hp : H p = some (.tup vs)) (h : ∀ v ∈ vs, Th L H n m v) : Th L H (n + 1) ((m + 1) * vs.length) (.ref p) := by
  obtain ⟨ds, fs, ss, ws⟩ := th_all h
  have hl := FtA.len fs
  refine ⟨.tuple ds, Fl.tup np hp fs, hl ▸ Sh.tup ss, ?_⟩
  rw [hl]
  exact wd_fit ws fun z => by
    rw [List.length_eq_zero_iff.mp z]
    rfl
theorem Th.lst {L : List Addr} {H : Hp} {n m : Nat} {p : Addr} {vs : List V} (np : p ∉ L) (hp : H p = some (.lst vs)) (h : ∀ v ∈ vs, Th L H n m v) : Th L H (n + 1) ((m + 1) * vs.length) (.ref p) := by
  obtain ⟨ds, fs, ss, ws⟩ := th_all h
  have hl := FtA.len fs
  refine ⟨.list ds, Fl.lst np hp fs, hl ▸ Sh.lst ss, ?_⟩
  rw [hl]
  exact wd_fit ws fun z => by
    rw [List.length_eq_zero_iff.mp z]
    rfl
theorem at_mem {vs : List V} {i : Int} (h0 : 0 ≤ i) (h1 : i < vs.length) : ∃ v ∈ vs, atI vs i = some v := by
  have hi : i.toNat < vs.length := by omega
  refine ⟨vs[i.toNat], List.getElem_mem hi, ?_⟩
  have e2 := atI_nat (List.getElem?_eq_getElem hi)
  rw [show ((i.toNat : Nat) : Int) = i by omega] at e2
  exact e2
theorem all1 {α : Type} {p : α → Prop} {a : α} (ha : p a) : ∀ x ∈ [a], p x := fun x h => by
  rw [List.mem_singleton.mp h]
  exact ha
theorem allC {α : Type} {p : α → Prop} {a : α} {l : List α} (ha : p a) (hl : ∀ x ∈ l, p x) : ∀ x ∈ a :: l, p x := fun x h => by
  rcases List.mem_cons.mp h with z | z
  · rw [z]
    exact ha
  · exact hl x z
theorem all0 {α : Type} {p : α → Prop} : ∀ x ∈ ([] : List α), p x := fun x h => nomatch h
theorem allApp {α : Type} {p : α → Prop} {l k : List α} (hl : ∀ x ∈ l, p x) (hk : ∀ x ∈ k, p x) : ∀ x ∈ l ++ k, p x := fun x h => by
  rcases List.mem_append.mp h with z | z
  · exact hl x z
  · exact hk x z
end My
namespace My
open PySem PySem.Spec PyProof.Rows L2
end My
namespace My
open PySem PySem.Spec PyProof.Rows L2
theorem new_all {L : List Addr} {H : Hp} {p : Addr} {o : HO} (h : ∀ b ∈ L, H b ≠ none) : ∀ b ∈ L, (upd H p o) b ≠ none := fun b hb => by
  by_cases e : b = p
  · rw [e, upd_same]
    simp
  · rw [upd_ne e]
    exact h b hb
theorem same_all {L : List Addr} {H H' : Hp} (h : ∀ b ∈ L, H b ≠ none) (s : Same H H') : ∀ b ∈ L, H' b ≠ none := fun b hb => by
  cases e : H b with
  | none => exact absurd e (h b hb)
  | some o =>
    rw [s b o e]
    simp
theorem ne_in {L : List Addr} {p r : Addr} (h : p ∉ L) (hr : r ∈ L) : p ≠ r := fun z => h (z ▸ hr)
theorem Th.at {L : List Addr} {H : Hp} {n m : Nat} {vs : List V} (h : ∀ v ∈ vs, Th L H n m v) {i : Int} (h0 : 0 ≤ i) (h1 : i < vs.length) : ∃ v, atI vs i = some v ∧ Th L H n m v := by
  obtain ⟨v, hv, e⟩ := at_mem h0 h1
  exact ⟨v, e, h v hv⟩
end My
namespace My
open PySem PySem.Spec PyProof.Rows L2
end My

set_option Elab.async false
set_option linter.all false
set_option maxRecDepth 100000
set_option maxHeartbeats 2000000
namespace My
open PySem PySem.Spec PyProof.Rows L2
/-- away from L all is kept -/
def Kx (L : List Addr) (H H' : Hp) : Prop := ∀ b o, b ∉ L → H b = some o → H' b = some o
theorem Kx.rfl' {L : List Addr} {H : Hp} : Kx L H H := fun _ _ _ h => h
theorem Kx.trans {L : List Addr} {H H1 H2 : Hp} (a : Kx L H H1) (b : Kx L H1 H2) : Kx L H H2 := fun c o n h => b c o n (a c o n h)
theorem Kx.same {L : List Addr} {H H' : Hp} (a : Same H H') : Kx L H H' := fun c o _ h => a c o h
theorem Kx.kp {r : Addr} {L : List Addr} {H H' : Hp} (a : Kp r H H') (h : r ∈ L) : Kx L H H' := fun c o n e => a c o (fun z => n (z ▸ h)) e
theorem Kx.sx {Ps L : List Addr} {H H' : Hp} (a : Sx Ps H H') (h : ∀ b ∈ Ps, b ∈ L) : Kx L H H' := fun c o n e => a c o (fun z => n (h c z)) e
end My
namespace My
open PySem PySem.Spec PyProof.Rows L2
theorem held_all {r : Addr} {Ps : List Addr} {H : Hp} {o : HO} (h : H r = some o) (tg : TG Ps H) : ∀ b ∈ r :: Ps, H b ≠ none := fun b hb => by
  rcases List.mem_cons.mp hb with z | z
  · rw [z, h]
    simp
  · obtain ⟨ps, hp, _⟩ := tg b z
    rw [hp]
    simp
theorem notup_all {r : Addr} {Ps : List Addr} {H : Hp} {xs : List V} (h : H r = some (.lst xs)) (tg : TG Ps H) : ∀ b ∈ r :: Ps, ∀ ys, H b ≠ some (.tup ys) := fun b hb ys z => by
  rcases List.mem_cons.mp hb with e | e
  · rw [e, h] at z
    cases z
  · obtain ⟨ps, hp, _⟩ := tg b e
    rw [hp] at z
    cases z
theorem fresh_same {L : List Addr} {H : Hp} {D : Addr} {o : HO} (n : H D = none) : Same (hidS L H) (hidS (D :: L) (upd H D o)) := fun b x e => by
  obtain ⟨h1, h2⟩ := hid_some.mp e
  have hb : b ≠ D := ne_of_none h2 n
  exact hid_some.mpr ⟨fun z => (List.mem_cons.mp z).elim hb h1, keep_ne h2 hb⟩
theorem Th.fresh {L : List Addr} {H : Hp} {D : Addr} {o : HO} {n m : Nat} {v : V} (h : Th L H n m v) (nD : H D = none) : Th (D :: L) (upd H D o) n m v := by
  obtain ⟨d, f, s, w⟩ := h
  exact ⟨d, Ft.mono (fresh_same nD) _ _ f, s, w⟩
theorem Th.kx {L : List Addr} {H H' : Hp} {n m : Nat} {v : V} (h : Th L H n m v) (k : Kx L H H') : Th L H' n m v := h.keep k
end My

set_option Elab.async false
set_option linter.all false
set_option maxRecDepth 100000
set_option maxHeartbeats 2000000
namespace My
open PySem PySem.Spec PyProof.Rows L2
/-! ### lists of columns, of any data -/
theorem str_tx (z : Str) : V.str z = tx z.cps.toList := by
  show V.str z = V.str ⟨z.cps.toList.toArray⟩
  simp
theorem cat_tx (l k : List Nat) : V.str ((⟨l.toArray⟩ : Str) ++ ⟨k.toArray⟩) = tx (l ++ k) := by
  show V.str ⟨l.toArray ++ k.toArray⟩ = V.str ⟨(l ++ k).toArray⟩
  simp
end My

set_option Elab.async false
set_option linter.all false
set_option maxRecDepth 100000
set_option maxHeartbeats 2000000
namespace My
open PySem PySem.Spec PyProof.Rows L2
/-! ### calls of defs that are promised where no repr is under way -/
theorem pe_callG {X : Cx} {k : Nat} {f : Addr} {fd : FuncData} {ps : List Str} {sp : Sp} {x : Str} {p pos : Pos} {e : Expr} {es : List Expr} {t : TA} (F : FnG X.prog X.w X.K X.mg X.base k f fd ps sp) (hgd : X.A.guards = some []) (hr : Room k X.A) (hg : Gl X x) (hm : X.mg x = some (.ref f)) (hk : PySem.W.keepIn X.K (.ref f) = true) (hb : Binds X.K fd ps [])
    (ha : PA X (e :: es) t) (hdb : (x == ("__debug__" : Str)) = false := by decide) (he : starEach (e :: es) X.env = (false, eval e X.env) :: starEach es X.env := by rfl) (hpl : (backTo pos (starEach es X.env)).any (·.1) = false := by rfl) :
    PE X (.Call (.Name x p) (e :: es) [] pos) (tCall sp [] E0 t) := by
  refine ⟨fun pins s σ H Q I h => ?_⟩
  refine wpAny_Call_Name_kw (ld_glob I hg hm ?_ hdb)
  refine PySem.W.callWith_K (h₀ := X.base) I.ok.mod.kin hk (thn (ha.run pos pins s σ H _ I h) fun us s1 ⟨vs, H1, I1, r, q⟩ => ⟨I1.kIn, ?_⟩) he hpl
  have r2 : Vals (vs ++ []) (us ++ []) := r.append .nil
  have hl : (us ++ []).length = ps.length := by
    rw [← r2.length]
    exact F.ln _ _ _ _ q
  refine wpAny_call (codeAny_mono (F.go X.A hgd hr X.stack s1 H1 ⟨us, []⟩ (us ++ []) (vs ++ []) Q _ I1.env0 (hb s1 us I1.kIn hl) r2 q) fun z s' hz => ?_)
  cases z with
  | error e => exact False.elim hz
  | ok fl =>
    cases fl with
    | ret u => exact I1.after hz
    | _ => exact False.elim hz
/-! ### tables, of any data -/
def isColL (l : List Nat) : Bool := decide (1 ≤ l.length) && decide (l.length ≤ 6) && risB l && l.all fun c => decide (97 ≤ c) && decide (c ≤ 122)
def isColD : PyData → Bool
  | .str z => isColL z.cps.toList
  | _ => false
def isRowD (n : Nat) : PyData → Bool
  | .tuple ds => decide (ds.length = n) && ds.all isNumD
  | _ => false
def isRowsD (n : Nat) : PyData → Bool
  | .tuple rs => decide (rs.length ≤ 60) && rs.all (isRowD n)
  | _ => false
def lenD : PyData → Nat
  | .str z => z.cps.toList.length
  | _ => 0
def isTabD : PyData → Bool
  | .tuple [c, r] => isColD c && isRowsD (lenD c) r
  | _ => false
theorem col_of_str {l : List Nat} : isColD (.str (txS l)) = isColL l := by
  show isColL l.toArray.toList = _
  simp
theorem cps_le (a b : Nat) : (!decide ((sS b).cps.toList < (sS a).cps.toList)) = decide (a ≤ b) := by
  rw [cps_lt]
  by_cases h : b < a
  · rw [decide_eq_true h, decide_eq_false (by omega)]
    rfl
  · rw [decide_eq_false h, decide_eq_true (by omega)]
    rfl
theorem Sh.intS {n m : Nat} {i : Int} (h : i.natAbs < 1024) (hm : 10 ≤ m) : Sh n m (.int i) := by
  have h0 : Sh n 200 (.int i) := Sh.int (Nat.lt_of_lt_of_le h (by decide)) (Nat.le_refl _)
  refine ⟨h0.ok, h0.nd, h0.sh, h0.dp, ?_, h0.ly⟩
  have h1 : i.natAbs.log2 < 10 := by
    by_cases e : i.natAbs = 0
    · rw [e]
      decide
    · rw [Nat.log2_lt e]
      exact h
  simp only [PyData.weight]
  split <;> omega
theorem Sh.intM {n m : Nat} {i : Int} (h : i.natAbs < 2 ^ 133) (hm : 133 ≤ m) : Sh n m (.int i) := by
  have h0 : Sh n 200 (.int i) := Sh.int (Nat.lt_of_lt_of_le h (by decide)) (Nat.le_refl _)
  refine ⟨h0.ok, h0.nd, h0.sh, h0.dp, ?_, h0.ly⟩
  have h1 : i.natAbs.log2 < 133 := by
    by_cases e : i.natAbs = 0
    · rw [e]
      decide
    · rw [Nat.log2_lt e]
      exact h
  simp only [PyData.weight]
  split <;> omega
theorem Th.intS {L : List Addr} {H : Hp} {n m : Nat} {i : Int} (h : i.natAbs < 1024) (hm : 10 ≤ m) : Th L H n m (.int i) := ⟨.int i, .int i, Sh.intS h hm, Nat.zero_le _⟩
theorem Th.intM {L : List Addr} {H : Hp} {n m : Nat} {i : Int} (h : i.natAbs < 2 ^ 133) (hm : 133 ≤ m) : Th L H n m (.int i) := ⟨.int i, .int i, Sh.intM h hm, Nat.zero_le _⟩
theorem shaped_of {l : List Nat} (h : ∀ c ∈ l, c < 0x110000) : SeqAt.shaped (.list (l.map fun c => PyData.str (sS c))) = true := by
  have e1 : PyData.canLayAll0 (l.map fun c => PyData.str (sS c)) = true := by
    induction l with
    | nil => rfl
    | cons c l ih =>
      show (PyData.canLay0 (.str (sS c)) && PyData.canLayAll0 (l.map fun c => PyData.str (sS c))) = true
      rw [ih fun x hx => h x (List.mem_cons_of_mem _ hx), Bool.and_true]
      have := h c (List.mem_cons_self ..)
      show (#[c] : Array Nat).all (· < 0x110000) = true
      simp [this]
  have e2 : PyData.depthAll (l.map fun c => PyData.str (sS c)) ≤ 0 := by
    clear e1 h
    induction l with
    | nil => exact Nat.le_refl _
    | cons c l ih =>
      show max 0 (PyData.depthAll (l.map fun c => PyData.str (sS c))) ≤ 0
      omega
  unfold SeqAt.shaped
  show (PyData.canLayAll0 (l.map fun c => PyData.str (sS c)) && decide (PyData.depthAll (l.map fun c => PyData.str (sS c)) + 1 ≤ 64)) = true
  rw [e1, decide_eq_true (by omega)]
  rfl
theorem Sh.codes {n m : Nat} {l : List Nat} (h : Sh n m (.str (txS l))) : ∀ c ∈ l, c < 0x110000 := fun c hc => by
  have h1 : (txS l).cps.all (· < 0x110000) = true := h.ly
  rw [Array.all_eq_true'] at h1
  exact of_decide_eq_true (h1 c (by simpa using hc))
end My
namespace My
open PySem PySem.Spec PyProof.Rows L2
theorem merge_signs (l : List Nat) : ∃ ks : List Nat, (mergeK [] ((l.map fun c => (c, (0 : Int))).map kvI)).map (·.1) = (ks.map sS).map Sum.inr ∧ ks.Nodup ∧ (∀ c, c ∈ ks ↔ c ∈ l) ∧ ks.length ≤ l.length := by
  obtain ⟨h1, h2, h3⟩ := merge_keys ((l.map fun c => (c, (0 : Int))).map kvI) [] List.nodup_nil
  generalize mergeK [] ((l.map fun c => (c, (0 : Int))).map kvI) = m at h1 h2 h3
  have hk : ∀ k ∈ m.map (·.1), ∃ c ∈ l, k = Sum.inr (sS c) := fun k h => by
    rcases (h2 k).mp h with z | z
    · cases z
    · rw [List.map_map, List.map_map] at z
      obtain ⟨c, hc, e⟩ := List.mem_map.mp z
      exact ⟨c, hc, e.symm⟩
  let f : Key → Nat := fun k => match k with
    | Sum.inr z => z.cps.toList.headD 0
    | Sum.inl _ => 0
  have ef : ∀ c, f (Sum.inr (sS c)) = c := fun c => rfl
  have e1 : m.map (·.1) = (((m.map (·.1)).map f).map sS).map Sum.inr := by
    rw [List.map_map, List.map_map]
    conv => lhs; rw [← List.map_id (m.map (·.1))]
    refine List.map_congr_left fun k h => ?_
    obtain ⟨c, _, rfl⟩ := hk k h
    rfl
  refine ⟨(m.map (·.1)).map f, e1, ?_, fun c => ?_, ?_⟩
  · refine List.pairwise_map.mpr (h1.imp_of_mem fun {a b} ha hb h z => h ?_)
    obtain ⟨c, _, rfl⟩ := hk a ha
    obtain ⟨d, _, rfl⟩ := hk b hb
    rw [ef, ef] at z
    rw [z]
  · constructor
    · intro h
      obtain ⟨k, hkm, rfl⟩ := List.mem_map.mp h
      obtain ⟨c, hc, rfl⟩ := hk k hkm
      exact hc
    · intro h
      refine List.mem_map.mpr ⟨Sum.inr (sS c), (h2 _).mpr (.inr ?_), rfl⟩
      rw [List.map_map, List.map_map]
      exact List.mem_map.mpr ⟨c, h, rfl⟩
  · rw [List.length_map, List.length_map]
    rw [List.length_map, List.length_map, List.length_nil, Nat.zero_add] at h3
    exact h3
theorem ris_pw {l : List Nat} (h : risB l = true) : l.Pairwise (· < ·) := by
  induction l with
  | nil => exact .nil
  | cons a l ih =>
    cases l with
    | nil => exact List.pairwise_singleton _ _
    | cons b l =>
      unfold risB at h
      rw [Bool.and_eq_true, decide_eq_true_eq] at h
      have ih2 := ih h.2
      refine .cons (fun x hx => ?_) ih2
      rcases List.mem_cons.mp hx with z | z
      · rw [z]
        exact h.1
      · exact Nat.lt_trans h.1 ((List.pairwise_cons.mp ih2).1 x z)
theorem pw_ris {l : List Nat} (h : l.Pairwise (· < ·)) : risB l = true := (ris_get l).mpr fun i hi => by
  rw [List.getD_eq_getElem?_getD, List.getD_eq_getElem?_getD, List.getElem?_eq_getElem (by omega), List.getElem?_eq_getElem hi]
  exact List.pairwise_iff_getElem.mp h i (i + 1) (by omega) hi (by omega)
theorem sorted_is {l k : List Nat} (h1 : k.Pairwise (· < ·)) (h2 : ∀ c, c ∈ k ↔ c ∈ l) : k = l ↔ risB l = true := by
  constructor
  · intro e
    rw [← e]
    exact pw_ris h1
  · intro h
    have h3 := ris_pw h
    have hp : k.Perm l := (List.perm_ext_iff_of_nodup (h1.imp fun {a b} z => Nat.ne_of_lt z) (h3.imp fun {a b} z => Nat.ne_of_lt z)).mpr h2
    exact le_perm_eq hp (h1.imp fun {a b} z => Nat.le_of_lt z) (h3.imp fun {a b} z => Nat.le_of_lt z)
theorem inV_no : ∀ bs : List Bool, inV (.bl false) (bs.map V.bl) = !bs.all id
  | [] => rfl
  | b :: bs => by
    have ih := inV_no bs
    cases b with
    | false => rfl
    | true => exact ih
theorem signs_nil (l : List Nat) : PyData.eqv (.list (l.map fun c => PyData.str (sS c))) (.list []) = l.isEmpty := by
  cases l <;> rfl
end My

set_option Elab.async false
set_option linter.all false
set_option maxRecDepth 100000
set_option maxHeartbeats 2000000
namespace My
open PySem PySem.Spec PyProof.Rows L2
theorem at_memZ {α : Type} {vs : List α} {i : Int} (h0 : -(vs.length : Int) ≤ i) (h1 : i < vs.length) : ∃ v ∈ vs, atI vs i = some v := by
  by_cases h : 0 ≤ i
  · have hi : i.toNat < vs.length := by omega
    refine ⟨vs[i.toNat], List.getElem_mem hi, ?_⟩
    have e2 := atI_nat (List.getElem?_eq_getElem hi)
    rw [show ((i.toNat : Nat) : Int) = i by omega] at e2
    exact e2
  · have hj : ((vs.length : Int) + i).toNat < vs.length := by omega
    refine ⟨vs[((vs.length : Int) + i).toNat], List.getElem_mem hj, ?_⟩
    unfold atI
    have e : ixN vs.length i = some ((vs.length : Int) + i).toNat := by
      unfold ixN
      rw [if_neg h]
      first
        | (rw [if_pos (by omega)]; congr 1; omega)
        | (split <;> first | (congr 1; omega) | omega)
    rw [e]
    exact List.getElem?_eq_getElem hj
theorem Th.atZ {L : List Addr} {H : Hp} {n m : Nat} {vs : List V} (h : ∀ v ∈ vs, Th L H n m v) {i : Int} (h0 : -(vs.length : Int) ≤ i) (h1 : i < vs.length) : ∃ v, atI vs i = some v ∧ Th L H n m v := by
  obtain ⟨v, hv, e⟩ := at_memZ h0 h1
  exact ⟨v, e, h v hv⟩
/-- a row of numbers, away from L -/
def RowAt (L : List Addr) (H : Hp) (k : Nat) (v : V) : Prop := ∃ (p : Addr) (ns : List Int), v = .ref p ∧ p ∉ L ∧ H p = some (.tup (ns.map V.int)) ∧ ns.length = k ∧ ∀ n ∈ ns, 0 ≤ n ∧ n < 1000
theorem RowAt.kp {r : Addr} {L : List Addr} {H H' : Hp} {k : Nat} {v : V} (h : RowAt L H k v) (kp : Kp r H H') (hr : r ∈ L) : RowAt L H' k v := by
  obtain ⟨p, ns, e, np, hp, hl, hb⟩ := h
  exact ⟨p, ns, e, np, kp _ _ (ne_in np hr) hp, hl, hb⟩
theorem th_nums {L : List Addr} {H : Hp} {n m : Nat} {ns : List Int} (h : ∀ x ∈ ns, 0 ≤ x ∧ x < 1000) (hm : 10 ≤ m) : ∀ v ∈ ns.map V.int, Th L H n m v := fun v hv => by
  obtain ⟨x, hx, rfl⟩ := List.mem_map.mp hv
  have := h x hx
  exact Th.intS (by omega) hm
theorem RowAt.th {L : List Addr} {H : Hp} {k : Nat} {v : V} (h : RowAt L H k v) (hk : k ≤ 6) : Th L H 2 900 v := by
  obtain ⟨p, ns, rfl, np, hp, hl, hb⟩ := h
  exact (Th.tup np hp (n := 0) (m := 10) (th_nums hb (Nat.le_refl _))).mono (by decide) (by rw [List.length_map]; omega)
theorem shaped_sh {n m : Nat} {d : PyData} (h : Sh n m d) (hn : n ≤ 64) : SeqAt.shaped d = true := by
  have h1 := h.dp
  unfold SeqAt.shaped
  rw [h.ly, decide_eq_true (by omega)]
  rfl
theorem eqv_nil_tup (ds : List PyData) : PyData.eqv (.tuple ds) (.tuple []) = ds.isEmpty := by
  cases ds <;> rfl
theorem pair_th2 {L : List Addr} {H : Hp} {p : Addr} {v u : V} (np : p ∉ L) (hp : H p = some (.tup [v, u])) (hv : Th L H 2 1000 v) (hu : Th L H 3 61000 u) : Th L H 10 90000 (.ref p) := by
  obtain ⟨e, g, t, x⟩ := hv
  obtain ⟨d, f, s, w⟩ := hu
  refine ⟨.tuple [e, d], Fl.tup np hp (.cons g (.cons f .nil)), ⟨?_, ?_, ?_, ?_, ?_, ?_⟩, ?_⟩
  · simp [PyData.showable, PyData.showableAll, s.ok, t.ok]
  · simp [PyData.hasDict, PyData.hasDictAll, s.nd, t.nd]
  · simp [PyData.leavesShort, PyData.leavesShortAll, s.sh, t.sh]
  · have h1 := s.dp
    have h2 := t.dp
    simp only [PyData.depth, PyData.depthAll]
    omega
  · have h1 := s.wt
    have h2 := t.wt
    simp only [PyData.weight, PyData.weightAll]
    omega
  · simp [PyData.canLay0, PyData.canLayAll0, s.ly, t.ly]
  · show max 2 (max (wd e) (max (wd d) 0)) ≤ 90000
    omega
theorem cut_back (xs : List V) : cutV xs none (some (-1)) = xs.dropLast := by
  unfold cutV
  rw [HT.sIx_none, List.drop_zero, Nat.sub_zero, List.dropLast_eq_take]
  congr 1
  unfold HT.sIx
  simp
  omega
end My
namespace My
open PySem PySem.Spec PyProof.Rows L2
theorem th2d {L : List Addr} {H : Hp} {v u : V} (hv : Th L H 2 1000 v) (hu : Th L H 3 61000 u) : ∃ e d, FlA L H [v, u] [e, d] ∧ Sh 4 80000 (.tuple [e, d]) ∧ Sh 4 80000 (.list [e, d]) ∧ max (wd e) (wd d) ≤ 61000 := by
  obtain ⟨e, g, t, x⟩ := hv
  obtain ⟨d, f, s, w⟩ := hu
  have h1 := s.dp
  have h2 := t.dp
  have h3 := s.wt
  have h4 := t.wt
  refine ⟨e, d, .cons g (.cons f .nil), ⟨?_, ?_, ?_, ?_, ?_, ?_⟩, ⟨?_, ?_, ?_, ?_, ?_, ?_⟩, by omega⟩
  all_goals first
    | (simp [PyData.showable, PyData.showableAll, s.ok, t.ok]; done)
    | (simp [PyData.hasDict, PyData.hasDictAll, s.nd, t.nd]; done)
    | (simp [PyData.leavesShort, PyData.leavesShortAll, s.sh, t.sh]; done)
    | (simp [PyData.canLay0, PyData.canLayAll0, s.ly, t.ly]; done)
    | (simp only [PyData.depth, PyData.depthAll]; omega)
    | (simp only [PyData.weight, PyData.weightAll]; omega)
theorem th2t {L : List Addr} {H : Hp} {p : Addr} {v u : V} (np : p ∉ L) (hp : H p = some (.tup [v, u])) (hv : Th L H 2 1000 v) (hu : Th L H 3 61000 u) : Th L H 4 89000 (.ref p) := by
  obtain ⟨e, d, f, s, _, w⟩ := th2d hv hu
  refine ⟨.tuple [e, d], Fl.tup np hp f, s.mono (by decide) (by decide), ?_⟩
  show max 2 (max (wd e) (max (wd d) 0)) ≤ 89000
  omega
theorem th2l {L : List Addr} {H : Hp} {p : Addr} {v u : V} (np : p ∉ L) (hp : H p = some (.lst [v, u])) (hv : Th L H 2 1000 v) (hu : Th L H 3 61000 u) : Th L H 4 89000 (.ref p) := by
  obtain ⟨e, d, f, _, s, w⟩ := th2d hv hu
  refine ⟨.list [e, d], Fl.lst np hp f, s.mono (by decide) (by decide), ?_⟩
  show max 2 (max (wd e) (max (wd d) 0)) ≤ 89000
  omega
theorem th3 {L : List Addr} {H : Hp} {p : Addr} {v u x : V} (np : p ∉ L) (hp : H p = some (.tup ([v, u] ++ [x]))) (hv : Th L H 2 1000 v) (hu : Th L H 3 61000 u) (hx : Th L H 0 10 x) : Th L H 4 89000 (.ref p) := by
  obtain ⟨e, g, t, y⟩ := hv
  obtain ⟨d, f, s, w⟩ := hu
  obtain ⟨c, k, z, j⟩ := hx
  have h1 := s.dp
  have h2 := t.dp
  have h3 := s.wt
  have h4 := t.wt
  have h5 := z.dp
  have h6 := z.wt
  refine ⟨.tuple [e, d, c], Fl.tup np hp (.cons g (.cons f (.cons k .nil))), ⟨?_, ?_, ?_, ?_, ?_, ?_⟩, ?_⟩
  · simp [PyData.showable, PyData.showableAll, s.ok, t.ok, z.ok]
  · simp [PyData.hasDict, PyData.hasDictAll, s.nd, t.nd, z.nd]
  · simp [PyData.leavesShort, PyData.leavesShortAll, s.sh, t.sh, z.sh]
  · simp only [PyData.depth, PyData.depthAll]
    omega
  · simp only [PyData.weight, PyData.weightAll]
    omega
  · simp [PyData.canLay0, PyData.canLayAll0, s.ly, t.ly, z.ly]
  · show max 3 (max (wd e) (max (wd d) (max (wd c) 0))) ≤ 89000
    omega
end My

set_option Elab.async false
set_option linter.all false
set_option maxRecDepth 100000
set_option maxHeartbeats 2000000
namespace My
open PySem PySem.Spec PyProof.Rows L2
theorem row_drawn {k : Nat} {row : List Int} (h : RowOk k row) : isRowD k (rowD row) = true := by
  show (decide ((row.map PyData.int).length = k) && (row.map PyData.int).all isNumD) = true
  rw [List.length_map, decide_eq_true h.1, Bool.true_and, List.all_map, List.all_eq_true]
  intro x hx
  have := h.2 x hx
  show (decide (0 ≤ x) && decide (x ≤ 999)) = true
  rw [decide_eq_true (by omega), decide_eq_true (by omega)]
  rfl
theorem tab_drawn {cols : List Nat} {rows : List (List Int)} (hc : Cols cols) (h1 : 1 ≤ cols.length) (h6 : cols.length ≤ 6) (hr : RowsOk cols.length rows) (h60 : rows.length ≤ 60) : isTabD (tabD cols rows) = true := by
  have e1 : isColL cols = true := by
    unfold isColL
    rw [decide_eq_true h1, decide_eq_true h6, pw_ris hc.up]
    show (cols.all fun c => decide (97 ≤ c) && decide (c ≤ 122)) = true
    rw [List.all_eq_true]
    intro c hcm
    have := hc.az c hcm
    rw [decide_eq_true this.1, decide_eq_true this.2]
    rfl
  have e2 : lenD (.str (txS cols)) = cols.length := by
    show cols.toArray.toList.length = _
    simp
  show (isColD (.str (txS cols)) && isRowsD (lenD (.str (txS cols))) (rowsD rows)) = true
  rw [col_of_str, e1, Bool.true_and, e2]
  show (decide ((rows.map rowD).length ≤ 60) && (rows.map rowD).all (isRowD cols.length)) = true
  rw [List.length_map, decide_eq_true h60, Bool.true_and, List.all_map, List.all_eq_true]
  exact fun row hrow => row_drawn (hr row hrow)
/-- a drawn table, away from L -/
theorem tab_rows {L : List Addr} {H : Hp} {v : V} {cols : List Nat} {rows : List (List Int)} (htu : ∀ b ∈ L, ∀ xs, H b ≠ some (.tup xs)) (hr : RowsOk cols.length rows) (f : Fz H v (tabD cols rows)) :
    ∃ (ta ra : Addr) (rs : List V), v = .ref ta ∧ ta ∉ L ∧ ra ∉ L ∧ H ta = some (.tup [tx cols, .ref ra]) ∧ H ra = some (.tup rs) ∧ rs.length = rows.length ∧ ∀ u ∈ rs, RowAt L H cols.length u := by
  obtain ⟨ta, ra, rs, rfl, ht, hra, fr⟩ := tab_open f
  have hl := fr.len
  rw [List.length_map] at hl
  refine ⟨ta, ra, rs, rfl, fun z => htu ta z _ ht, fun z => htu ra z _ hra, ht, hra, hl, fun u hu => ?_⟩
  obtain ⟨i, hi, rfl⟩ := List.getElem_of_mem hu
  obtain ⟨d, hd, fd⟩ := fr.getV (List.getElem?_eq_getElem hi)
  rw [List.getElem?_map] at hd
  obtain ⟨row, hrow, rfl⟩ := Option.map_eq_some_iff.mp hd
  obtain ⟨p, e, hp⟩ := row_open fd
  have ok := hr row (List.mem_of_getElem? hrow)
  exact ⟨p, row, e, fun z => htu p z _ hp, hp, ok.1, ok.2⟩
theorem rep_all {α : Type} {p : α → Prop} {a : α} (h : p a) (n : Nat) : ∀ x ∈ List.replicate n a, p x := fun x hx => by
  rw [List.eq_of_mem_replicate hx]
  exact h
end My
namespace My
open PySem PySem.Spec PyProof.Rows L2
theorem sh_pair {e d : PyData} (t : Sh 2 1000 e) (s : Sh 3 61000 d) : Sh 4 80000 (.tuple [e, d]) := by
  have h1 := s.dp
  have h2 := t.dp
  have h3 := s.wt
  have h4 := t.wt
  refine ⟨?_, ?_, ?_, ?_, ?_, ?_⟩
  · simp [PyData.showable, PyData.showableAll, s.ok, t.ok]
  · simp [PyData.hasDict, PyData.hasDictAll, s.nd, t.nd]
  · simp [PyData.leavesShort, PyData.leavesShortAll, s.sh, t.sh]
  · simp only [PyData.depth, PyData.depthAll]
    omega
  · simp only [PyData.weight, PyData.weightAll]
    omega
  · simp [PyData.canLay0, PyData.canLayAll0, s.ly, t.ly]
theorem tab_sh {cols : List Nat} {rows : List (List Int)} (hc : ∀ c ∈ cols, c < 1000) (h6 : cols.length ≤ 6) (hr : RowsOk cols.length rows) (h60 : rows.length ≤ 60) : Sh 20 100000 (tabD cols rows) := by
  have key : ∀ d ∈ rows.map rowD, Sh 2 900 d := fun d hd => by
    obtain ⟨row, hrow, rfl⟩ := List.mem_map.mp hd
    have ok := hr row hrow
    refine (Sh.tup (n := 0) (m := 10) fun x hx => ?_).mono (by decide) (by rw [List.length_map, ok.1]; omega)
    obtain ⟨z, hz, rfl⟩ := List.mem_map.mp hx
    have := ok.2 z hz
    exact Sh.intS (by omega) (Nat.le_refl _)
  have s : Sh 3 61000 (rowsD rows) := (Sh.tup key).mono (by decide) (by rw [List.length_map]; omega)
  exact (sh_pair (Sh.str hc (by omega)) s).mono (by decide) (by decide)
end My

set_option Elab.async false
set_option linter.all false
set_option maxRecDepth 100000
set_option maxHeartbeats 1000000
namespace My
open PySem PySem.Spec PyProof.Rows L2
def topS (i : Nat) : Stmt := PySem.Challenge.pw_stretchkeep_k01_what_is_a_table.main.body.getD i (.Pass ⟨0, 0, 0, 0⟩)
abbrev s_is_whole : Stmt := topS 4
theorem sc_is_whole : FnScope ["thing"] ["thing"] (defScope s_is_whole) := ⟨rfl, rfl, rfl, by decide +kernel, rfl, by decide +kernel, by decide +kernel⟩
abbrev s_is_number : Stmt := topS 5
theorem sc_is_number : FnScope ["thing"] ["thing"] (defScope s_is_number) := ⟨rfl, rfl, rfl, by decide +kernel, rfl, by decide +kernel, by decide +kernel⟩
abbrev s_is_rising : Stmt := topS 6
theorem sc_is_rising : FnScope ["things", "at"] ["things"] (defScope s_is_rising) := ⟨rfl, rfl, rfl, by decide +kernel, rfl, by decide +kernel, by decide +kernel⟩
abbrev s_is_columns : Stmt := topS 7
theorem sc_is_columns : FnScope ["thing", "letter"] ["thing"] (defScope s_is_columns) := ⟨rfl, rfl, rfl, by decide +kernel, rfl, by decide +kernel, by decide +kernel⟩
abbrev s_is_row : Stmt := topS 8
theorem sc_is_row : FnScope ["columns", "thing", "part"] ["columns", "thing"] (defScope s_is_row) := ⟨rfl, rfl, rfl, by decide +kernel, rfl, by decide +kernel, by decide +kernel⟩
abbrev s_is_table : Stmt := topS 9
theorem sc_is_table : FnScope ["thing", "rows", "columns", "row"] ["thing"] (defScope s_is_table) := ⟨rfl, rfl, rfl, by decide +kernel, rfl, by decide +kernel, by decide +kernel⟩
abbrev s_l_reel : Stmt := topS 11
theorem sc_l_reel : FnScope ["script", "k", "number", "stir", "found", "turn"] ["script", "k"] (defScope s_l_reel) := ⟨rfl, rfl, rfl, by decide +kernel, rfl, by decide +kernel, by decide +kernel⟩
abbrev s_l_pick : Stmt := topS 12
theorem sc_l_pick : FnScope ["reel", "many", "digit"] ["reel", "many"] (defScope s_l_pick) := ⟨rfl, rfl, rfl, by decide +kernel, rfl, by decide +kernel, by decide +kernel⟩
abbrev s_l_columns : Stmt := topS 13
theorem sc_l_columns : FnScope ["reel", "many", "left", "found", "k"] ["reel", "many"] (defScope s_l_columns) := ⟨rfl, rfl, rfl, by decide +kernel, rfl, by decide +kernel, by decide +kernel⟩
abbrev s_l_table : Stmt := topS 14
theorem sc_l_table : FnScope ["reel", "most", "rows", "columns", "tops", "many", "letter", "k", "top"] ["reel", "most", "rows"] (defScope s_l_table) := ⟨rfl, rfl, rfl, by decide +kernel, rfl, by decide +kernel, by decide +kernel⟩
abbrev s_l_is_number : Stmt := topS 15
theorem sc_l_is_number : FnScope ["thing"] ["thing"] (defScope s_l_is_number) := ⟨rfl, rfl, rfl, by decide +kernel, rfl, by decide +kernel, by decide +kernel⟩
abbrev s_l_is_table : Stmt := topS 16
theorem sc_l_is_table : FnScope ["thing", "columns", "rows", "row", "letter", "number"] ["thing"] (defScope s_l_is_table) := ⟨rfl, rfl, rfl, by decide +kernel, rfl, by decide +kernel, by decide +kernel⟩
abbrev s_l_bent : Stmt := topS 17
theorem sc_l_bent : FnScope ["reel", "table", "columns", "rows", "way", "number", "at", "row", "place", "more", "odd"] ["reel", "table"] (defScope s_l_bent) := ⟨rfl, rfl, rfl, by decide +kernel, rfl, by decide +kernel, by decide +kernel⟩
abbrev s_l_bent_more : Stmt := topS 18
theorem sc_l_bent_more : FnScope ["reel", "table", "columns", "rows", "way", "signs", "sign", "place", "at", "spot", "row"] ["reel", "table"] (defScope s_l_bent_more) := ⟨rfl, rfl, rfl, by decide +kernel, rfl, by decide +kernel, by decide +kernel⟩
abbrev s_l_right : Stmt := topS 19
theorem sc_l_right : FnScope ["thing", "kept", "found"] ["thing"] (defScope s_l_right) := ⟨rfl, rfl, rfl, by decide +kernel, rfl, by decide +kernel, by decide +kernel⟩
abbrev s_law : Stmt := topS 20
theorem sc_law : FnScope ["script", "k", "reel", "table", "turn", "more", "others", "thing"] ["script"] (defScope s_law) := ⟨rfl, rfl, rfl, by decide +kernel, rfl, by decide +kernel, by decide +kernel⟩
structure Ad where
  f_is_whole : Addr
  d_is_whole : FuncData
  f_is_number : Addr
  d_is_number : FuncData
  f_is_rising : Addr
  d_is_rising : FuncData
  c_is_rising : Addr
  P_is_rising : Addr
  f_is_columns : Addr
  d_is_columns : FuncData
  c_is_columns : Addr
  P_is_columns : Addr
  f_is_row : Addr
  d_is_row : FuncData
  c_is_row : Addr
  P_is_row : Addr
  f_is_table : Addr
  d_is_table : FuncData
  c_is_table : Addr
  P_is_table : Addr
  f_l_reel : Addr
  d_l_reel : FuncData
  f_l_pick : Addr
  d_l_pick : FuncData
  f_l_columns : Addr
  d_l_columns : FuncData
  f_l_table : Addr
  d_l_table : FuncData
  f_l_is_number : Addr
  d_l_is_number : FuncData
  f_l_is_table : Addr
  d_l_is_table : FuncData
  f_l_bent : Addr
  d_l_bent : FuncData
  f_l_bent_more : Addr
  d_l_bent_more : FuncData
  f_l_right : Addr
  d_l_right : FuncData
  f_law : Addr
  d_law : FuncData
  k_MOST_COLUMNS : Tok
  k_MOST_ROWS : Tok
  k_GREATEST : Tok
abbrev Ad.Ps (Z : Ad) : List Addr := [Z.P_is_rising, Z.P_is_columns, Z.P_is_row, Z.P_is_table]
structure Tb (base : Heap) (mg : Str → Option Value) (Z : Ad) : Prop where
  t_is_rising : LamX.TabB base mg Z.c_is_rising Z.P_is_rising
  t_is_columns : LamX.TabB base mg Z.c_is_columns Z.P_is_columns
  t_is_row : LamX.TabB base mg Z.c_is_row Z.P_is_row
  t_is_table : LamX.TabB base mg Z.c_is_table Z.P_is_table
structure Tx (K : PySem.W.Frag) (mg : Str → Option Value) (Z : Ad) : Prop where
  F_is_whole : Fun K "is_whole" "is_whole" s_is_whole Z.f_is_whole Z.d_is_whole
  b_is_whole : Binds K Z.d_is_whole ["thing"] []
  g_is_whole : mg "is_whole" = some (.ref Z.f_is_whole)
  F_is_number : Fun K "is_number" "is_number" s_is_number Z.f_is_number Z.d_is_number
  b_is_number : Binds K Z.d_is_number ["thing"] []
  g_is_number : mg "is_number" = some (.ref Z.f_is_number)
  F_is_rising : Fun K "is_rising" "is_rising" s_is_rising Z.f_is_rising Z.d_is_rising
  C_is_rising : FunC K "is_rising" "is_rising" s_is_rising Z.f_is_rising Z.d_is_rising Z.c_is_rising
  b_is_rising : Binds K Z.d_is_rising ["things"] []
  g_is_rising : mg "is_rising" = some (.ref Z.f_is_rising)
  F_is_columns : Fun K "is_columns" "is_columns" s_is_columns Z.f_is_columns Z.d_is_columns
  C_is_columns : FunC K "is_columns" "is_columns" s_is_columns Z.f_is_columns Z.d_is_columns Z.c_is_columns
  b_is_columns : Binds K Z.d_is_columns ["thing"] []
  g_is_columns : mg "is_columns" = some (.ref Z.f_is_columns)
  F_is_row : Fun K "is_row" "is_row" s_is_row Z.f_is_row Z.d_is_row
  C_is_row : FunC K "is_row" "is_row" s_is_row Z.f_is_row Z.d_is_row Z.c_is_row
  b_is_row : Binds K Z.d_is_row ["columns", "thing"] []
  g_is_row : mg "is_row" = some (.ref Z.f_is_row)
  F_is_table : Fun K "is_table" "is_table" s_is_table Z.f_is_table Z.d_is_table
  C_is_table : FunC K "is_table" "is_table" s_is_table Z.f_is_table Z.d_is_table Z.c_is_table
  b_is_table : Binds K Z.d_is_table ["thing"] []
  g_is_table : mg "is_table" = some (.ref Z.f_is_table)
  F_l_reel : Fun K "_law_reel" "_law_reel" s_l_reel Z.f_l_reel Z.d_l_reel
  b_l_reel : Binds K Z.d_l_reel ["script", "k"] []
  g_l_reel : mg "_law_reel" = some (.ref Z.f_l_reel)
  F_l_pick : Fun K "_law_pick" "_law_pick" s_l_pick Z.f_l_pick Z.d_l_pick
  b_l_pick : Binds K Z.d_l_pick ["reel", "many"] []
  g_l_pick : mg "_law_pick" = some (.ref Z.f_l_pick)
  F_l_columns : Fun K "_law_columns" "_law_columns" s_l_columns Z.f_l_columns Z.d_l_columns
  b_l_columns : Binds K Z.d_l_columns ["reel", "many"] []
  g_l_columns : mg "_law_columns" = some (.ref Z.f_l_columns)
  F_l_table : Fun K "_law_table" "_law_table" s_l_table Z.f_l_table Z.d_l_table
  b_l_table : Binds K Z.d_l_table ["reel", "most", "rows"] []
  g_l_table : mg "_law_table" = some (.ref Z.f_l_table)
  F_l_is_number : Fun K "_law_is_number" "_law_is_number" s_l_is_number Z.f_l_is_number Z.d_l_is_number
  b_l_is_number : Binds K Z.d_l_is_number ["thing"] []
  g_l_is_number : mg "_law_is_number" = some (.ref Z.f_l_is_number)
  F_l_is_table : Fun K "_law_is_table" "_law_is_table" s_l_is_table Z.f_l_is_table Z.d_l_is_table
  b_l_is_table : Binds K Z.d_l_is_table ["thing"] []
  g_l_is_table : mg "_law_is_table" = some (.ref Z.f_l_is_table)
  F_l_bent : Fun K "_law_bent" "_law_bent" s_l_bent Z.f_l_bent Z.d_l_bent
  b_l_bent : Binds K Z.d_l_bent ["reel", "table"] []
  g_l_bent : mg "_law_bent" = some (.ref Z.f_l_bent)
  F_l_bent_more : Fun K "_law_bent_more" "_law_bent_more" s_l_bent_more Z.f_l_bent_more Z.d_l_bent_more
  b_l_bent_more : Binds K Z.d_l_bent_more ["reel", "table"] []
  g_l_bent_more : mg "_law_bent_more" = some (.ref Z.f_l_bent_more)
  F_l_right : Fun K "_law_right" "_law_right" s_l_right Z.f_l_right Z.d_l_right
  b_l_right : Binds K Z.d_l_right ["thing"] []
  g_l_right : mg "_law_right" = some (.ref Z.f_l_right)
  F_law : Fun K "law" "law" s_law Z.f_law Z.d_law
  b_law : Binds K Z.d_law ["script"] []
  g_law : mg "law" = some (.ref Z.f_law)
  m_len : mg "len" = none
  m_range : mg "range" = none
  m_list : mg "list" = none
  m_sorted : mg "sorted" = none
  m_tuple : mg "tuple" = none
  m_min : mg "min" = none
  m_max : mg "max" = none
  m_dict : mg "dict" = none
  m_isinstance : mg "isinstance" = none
  m_all : mg "all" = none
  m_bool : mg "bool" = none
  m_str : mg "str" = none
  m_int : mg "int" = none
  m_repr : mg "repr" = none
  c_MOST_COLUMNS : mg "MOST_COLUMNS" = some (.int 6 Z.k_MOST_COLUMNS)
  c_MOST_ROWS : mg "MOST_ROWS" = some (.int 60 Z.k_MOST_ROWS)
  c_GREATEST : mg "GREATEST" = some (.int 999 Z.k_GREATEST)
section
variable {P : Program} {w : World} {K : PySem.W.Frag} {mg : Str → Option Value} {base : Heap} {Z : Ad}
/-! ### _law_reel -/
def spReel (K : PySem.W.Frag) : Sp := fun vs H Q _ => ∃ (a : Addr) (ns : List Int) (k : Nat), vs = [.ref a, .int k] ∧ SqL K H a (ns.map V.int) ∧ k < 1000 ∧ ∀ (n : Int) p, H p = none → Q (.ref p) (upd H p (.lst [.int n]))
theorem ok_reel (T : Tx K mg Z) : FnOk P w K mg base CX0 1 Z.f_l_reel Z.d_l_reel ["script", "k"] (spReel K) := by
  refine T.F_l_reel.ok sc_l_reel (fun vs H Q E h => ?_) (fun cdv A outer s H vs Q E hr h => ?_)
  · obtain ⟨a, ns, k, rfl, _⟩ := h
    rfl
  · obtain ⟨a, ns, k, rfl, hS, hk, q⟩ := h
    refine ⟨_, (pss_cons (ps_set (i := 2) sc_l_reel.nd rfl (.inl rfl) (pe_op op_add (pe_op op_mul pe_int (pv 1)) pe_int))
      (pss_mid (ps_if (pt_cmpR op_lt (pv 1) (pe_callB (cLenSq K) (by rfl) T.m_len (by decide +kernel) (pa_cons (pv 0) pa_nil)) (nomark _)) (pss_one (ps_set (i := 2) sc_l_reel.nd rfl (.inl rfl) (pe_ix (ixL K) (pv 0) (pv 1) (fun _ _ => rfl)))) pss_nil)
      (pss_cons (ps_if (pt_cmpR op_eq (pe_op op_mod (pv 2) pe_int) pe_int (nomark _)) (pss_one (ps_ret (pe_lst (pa_cons (pe_op op_fdiv (pv 2) pe_int) pa_nil)))) pss_nil)
      (pss_cons (ps_set (i := 3) sc_l_reel.nd rfl (.inl rfl) (pe_op op_mod (pe_op op_add (pe_op op_add (pe_op op_mul (pe_op op_mod (pv 2) pe_int) pe_int) (pe_op op_mul pe_int (pv 1))) pe_int) pe_int))
      (pss_cons (ps_set (i := 4) sc_l_reel.nd rfl (.inl rfl) pe_int)
      (pss_cons (ps_for PassesOwn.never rfl (pi_range1 (by rfl) T.m_range (pa_cons pe_int pa_nil)) (pg_name (i := 5) sc_l_reel.nd rfl (.inl rfl)) (pss_cons (ps_set (i := 3) sc_l_reel.nd rfl (.inl rfl) (pe_op op_mod (pe_op op_add (pe_op op_add (pe_op op_add (pe_op op_mul (pv 3) (pv 3)) (pe_op op_mul pe_int (pv 3))) (pe_op op_mul pe_int (pv 5))) pe_int) pe_int))
      (pss_one (ps_set (i := 4) sc_l_reel.nd rfl (.inl rfl) (pe_op op_add (pe_op op_mul (pv 4) pe_int) (pv 3))))))
      (pss_one (ps_ret (pe_lst (pa_cons (pv 4) pa_nil)))))))))), ?_⟩
    have b64 : ∀ x : Int, 0 ≤ x → x < 2147483399 → -(2 ^ 64) < x ∧ x < 2 ^ 64 := fun x h0 h1 => ⟨by omega, by omega⟩
    have em : ∀ x : Int, 0 ≤ x % 2147483399 ∧ x % 2147483399 < 2147483399 := fun x => ⟨Int.emod_nonneg _ (by decide), Int.emod_lt_of_pos _ (by decide)⟩
    refine ⟨.int k, rfl, 7, k, rfl, rfl, .inl ⟨by decide, by decide⟩, _, 4, rfl, rfl, ?_⟩
    refine ⟨fun σ H' => ∃ num : Int, σ = [some (.ref a), some (.int k), some (.int num), none, none, none] ∧ H' = H, ?_, ?_⟩
    · refine ⟨.int k, rfl, .ref a, rfl, a, _, rfl, .inl hS, _, _, rfl, rfl, _, rfl, ite2 (fun e => ?_) (fun e => ?_)⟩
      · have e1 : (k : Int) < ((ns.map V.int).length : Nat) := of_decide_eq_true e
        have e2 : k < ns.length := by
          rw [List.length_map] at e1
          omega
        refine ⟨.ref a, rfl, .int k, rfl, a, _, _, .int ns[k], rfl, rfl, hS, atI_nat (by rw [List.getElem?_map, List.getElem?_eq_getElem e2]; rfl), ?_⟩
        exact ⟨_, rfl, rfl⟩
      · exact ⟨_, rfl, rfl⟩
    · intro σ1 H1 hM
      obtain ⟨num, rfl, rfl⟩ := hM
      refine ⟨.int num, rfl, num, 5, rfl, rfl, (by show (0 : Int) < 5; decide), rfl, _, rfl, ite2 (fun e => ?_) (fun e => ?_)⟩
      · refine ⟨.int num, rfl, num, 5, rfl, rfl, ⟨by decide, by decide⟩, (by show 1 ≤ sizeLine; decide), fun p np => ?_⟩
        exact q _ p np
      · refine ⟨.int num, rfl, num, 2147483399, rfl, rfl, (by show (0 : Int) < 2147483399; decide), _, 50021, rfl, rfl, .inl (b64 _ (em _).1 (em _).2), .int k, rfl, 977, k, rfl, rfl, .inl ⟨by decide, by decide⟩, _, _, rfl, rfl, _, 31, rfl, rfl, _, 2147483399, rfl, rfl, (by show (0 : Int) < 2147483399; decide), ?_⟩
        refine ⟨60, rfl, by decide, by decide, for_range (fun i σ H' => ∃ (st fo : Int) (y : Option V), σ = [some (.ref a), some (.int k), some (.int num), some (.int st), some (.int fo), y] ∧ 0 ≤ st ∧ st < 2147483399 ∧ H' = H1) ⟨_, 0, none, rfl, (em _).1, (em _).2, rfl⟩ (fun i σ H' hi hP => ?_) (fun σ H' hP => ?_)⟩
        · obtain ⟨st, fo, y, rfl, s0, s1, rfl⟩ := hP
          refine ⟨.int st, rfl, .int st, rfl, st, st, rfl, rfl, .inl (b64 _ s0 s1), .int st, rfl, 60013, st, rfl, rfl, .inl ⟨by decide, by decide⟩, _, _, rfl, rfl, _, rfl, 29, _, rfl, rfl, .inl ⟨by decide, by decide⟩, _, _, rfl, rfl, _, 5, rfl, rfl, _, 2147483399, rfl, rfl, (by show (0 : Int) < 2147483399; decide), ?_⟩
          refine ⟨.int fo, rfl, fo, 2147483399, rfl, rfl, .inr ⟨by decide, by decide⟩, _, rfl, _, _, rfl, rfl, ?_⟩
          exact ⟨_, _, _, rfl, (em _).1, (em _).2, rfl⟩
        · obtain ⟨st, fo, y, rfl, s0, s1, rfl⟩ := hP
          refine ⟨.int fo, rfl, (by show 1 ≤ sizeLine; decide), fun p np => ?_⟩
          exact q _ p np
/-! ### _law_pick -/
def spPick (K : PySem.W.Frag) : Sp := fun vs H Q _ => ∃ (r : Addr) (n m : Int), vs = [.ref r, .int m] ∧ H r = some (.lst [.int n]) ∧ 0 < m ∧ m < 1073741824 ∧ ∀ (d n' : Int), 0 ≤ d → d < m → Q (.int d) (upd H r (.lst [.int n']))
theorem ok_pick (T : Tx K mg Z) : FnOk P w K mg base CX0 1 Z.f_l_pick Z.d_l_pick ["reel", "many"] (spPick K) := by
  refine T.F_l_pick.ok sc_l_pick (fun vs H Q E h => ?_) (fun cdv A outer s H vs Q E hr h => ?_)
  · obtain ⟨a, n, m, rfl, _⟩ := h
    rfl
  · obtain ⟨r, n, m, rfl, hS, h0, h1, q⟩ := h
    refine ⟨_, (pss_cons (ps_set (i := 2) sc_l_pick.nd rfl (.inl rfl) (pe_op op_mod (pe_ix (ixL K) (pv 0) pe_int (fun _ _ => rfl)) (pv 1)))
      (pss_cons (ps_asg (pe_op op_fdiv (pe_ix (ixL K) (pv 0) pe_int (fun _ _ => rfl)) (pv 1)) (pg_sub (pv 0) pe_int set_list))
      (pss_one (ps_ret (pv 2))))), ?_⟩
    refine ⟨.ref r, rfl, r, [.int n], 0, .int n, rfl, rfl, .inl (.inl hS), rfl, .int m, rfl, n, m, rfl, rfl, h0, ?_⟩
    refine ⟨.ref r, rfl, r, [.int n], 0, .int n, rfl, rfl, .inl (.inl hS), rfl, .int m, rfl, n, m, rfl, rfl, ⟨h0, h1⟩, ?_⟩
    refine ⟨.ref r, rfl, r, [.int n], 0, 0, rfl, rfl, hS, rfl, _, rfl, ?_⟩
    exact q _ _ (Int.emod_nonneg _ (by omega)) (Int.emod_lt_of_pos _ h0)
/-! ### _law_columns -/
def alpha : List Nat := [97, 98, 99, 100, 101, 102, 103, 104, 105, 106, 107, 108, 109, 110, 111, 112, 113, 114, 115, 116, 117, 118, 119, 120, 121, 122]
def spColumns (K : PySem.W.Frag) : Sp := fun vs H Q _ => ∃ (r : Addr) (n : Int) (m : Nat), vs = [.ref r, .int m] ∧ H r = some (.lst [.int n]) ∧ m ≤ 26 ∧ ∀ (l : List Nat) (n' : Int) (H' : Hp), Kp r H H' → H' r = some (.lst [.int n']) → Cols l → l.length = m → Q (tx l) H'
theorem ok_columns (T : Tx K mg Z) : FnOk P w K mg base CX0 2 Z.f_l_columns Z.d_l_columns ["reel", "many"] (spColumns K) := by
  have G_l_pick : FnOk P w K mg base CX0 1 Z.f_l_pick Z.d_l_pick ["reel", "many"] (spPick K) := ok_pick T
  refine T.F_l_columns.ok sc_l_columns (fun vs H Q E h => ?_) (fun cdv A outer s H vs Q E hr h => ?_)
  · obtain ⟨r, n, m, rfl, _⟩ := h
    rfl
  · obtain ⟨r, n, m, rfl, hR, hm, q⟩ := h
    refine ⟨_, (pss_cons (ps_set (i := 2) sc_l_columns.nd rfl (.inl rfl) (pe_callTy call_list_txt (by rfl) T.m_list (by decide +kernel) (pa_cons pe_str pa_nil)))
      (pss_cons (ps_set (i := 3) sc_l_columns.nd rfl (.inl rfl) (pe_lst pa_nil))
      (pss_cons (ps_for PassesOwn.never rfl (pi_range1 (by rfl) T.m_range (pa_cons (pv 1) pa_nil)) (pg_name (i := 4) sc_l_columns.nd rfl (.inl rfl)) (pss_one (ps_expr (bmK K PySem.F.plainAttrs_list PySem.F.slot_list_append PySem.F.type_list_append mt_append (pv 3) (pa_cons (bmK K PySem.F.plainAttrs_list PySem.F.slot_list_pop PySem.F.type_list_pop mt_popAt (pv 2) (pa_cons (pe_call G_l_pick (hr.mono (by omega)) (by rfl) T.g_l_pick T.F_l_pick.kp T.b_l_pick .nil pass0 (pa_cons (pv 0) (pa_cons (pe_callB (cLenSq K) (by rfl) T.m_len (by decide +kernel) (pa_cons (pv 2) pa_nil)) pa_nil))) pa_nil)) pa_nil)))))
      (pss_one (ps_ret (pe_join pe_str (pe_callB cr_sortedS (by rfl) T.m_sorted (by decide +kernel) (pa_cons (pv 3) pa_nil)))))))), ?_⟩
    have ea : (Str.ofString "abcdefghijklmnopqrstuvwxyz").cps.toList = alpha := by decide +kernel
    refine ⟨_, rfl, (by decide +kernel), fun L nL => ?_⟩
    rw [ea]
    refine ⟨Nat.zero_le _, fun F nF => ?_⟩
    have nFL : F ≠ L := fun e => by
      rw [e, upd_same] at nF
      cases nF
    have nF0 : H F = none := by
      rw [upd_ne nFL] at nF
      exact nF
    have nLr : L ≠ r := (ne_of_none hR nL).symm
    have nFr : F ≠ r := (ne_of_none hR nF0).symm
    refine ⟨.int m, rfl, m, rfl, by omega, by omega, for_range (fun i σ H' => ∃ (ll ff : List Nat) (n' : Int) (y : Option V), σ = [some (.ref r), some (.int m), some (.ref L), some (.ref F), y] ∧ Kp r H H' ∧ H' r = some (.lst [.int n']) ∧ H' L = some (.lst (ll.map sg)) ∧ H' F = some (.lst (ff.map sg)) ∧ (ll ++ ff).Perm alpha ∧ ff.length = i)
      ⟨alpha, [], n, none, rfl, ?_, ?_, ?_, ?_, ?_, rfl⟩ (fun i σ H' hi hP => ?_) (fun σ H' hP => ?_)⟩
    · exact (Kp.new Kp.rfl' nL).new nF
    · rw [upd_ne nFr.symm, upd_ne nLr.symm]
      exact hR
    · rw [upd_ne nFL.symm, upd_same]
    · rw [upd_same]
      rfl
    · rw [List.append_nil]
    · obtain ⟨ll, ff, n1, y, rfl, kp, hR1, hL, hF, hp, hl⟩ := hP
      have hlen : ll.length + ff.length = 26 := by
        have := hp.length_eq
        rw [List.length_append] at this
        exact this
      have hll : 0 < ll.length := by
        have : i < m := by omega
        omega
      refine ⟨.ref F, rfl, .inl ⟨rfl, _, .inl (.inl hF)⟩, .ref L, rfl, .inl ⟨rfl, _, .inl (.inl hL)⟩, .ref r, rfl, .ref L, rfl, L, _, rfl, .inl (.inl (.inl hL)), r, n1, _, rfl, hR1, ?_, ?_, fun d n2 d0 d1 => ?_⟩
      · rw [List.length_map]
        omega
      · rw [List.length_map]
        omega
      · rw [List.length_map] at d1
        have hd : d.toNat < ll.length := by omega
        have hL2 : (upd H' r (.lst [.int n2])) L = some (.lst (ll.map sg)) := by
          rw [upd_ne nLr]
          exact hL
        have hF2 : (upd (upd H' r (.lst [.int n2])) L (.lst ((ll.map sg).eraseIdx d.toNat))) F = some (.lst (ff.map sg)) := by
          rw [upd_ne nFL, upd_ne nFr]
          exact hF
        have hy : ll[d.toNat]? = some ll[d.toNat] := List.getElem?_eq_getElem hd
        refine ⟨L, _, d, d.toNat, sg ll[d.toNat], rfl, rfl, hL2, by omega, by omega, PySem.seqIndex_of d0 (by rw [List.length_map]; exact d1), ?_, F, _, _, rfl, rfl, hF2, ?_, ?_⟩
        · rw [List.getElem?_map, hy]
          rfl
        · rw [List.length_map]
          exact small1000 (by omega)
        · refine ⟨ll.eraseIdx d.toNat, ff ++ [ll[d.toNat]], n2, _, rfl, ?_, ?_, ?_, ?_, (popped hy ff).trans hp, by rw [List.length_append, hl]; rfl⟩
          · exact ((Kp.own kp).mut nL).mut nF0
          · rw [upd_ne nFr.symm, upd_ne nLr.symm, upd_same]
          · rw [upd_ne nFL.symm, upd_same, erase_map]
          · rw [upd_same, List.map_append]
            rfl
    · obtain ⟨ll, ff, n1, y, rfl, kp, hR1, hL, hF, hp, hl⟩ := hP
      have hm2 : ff.length = m := by
        rw [hl]
        omega
      refine ⟨⟨_, rfl⟩, .ref F, rfl, F, ff.map sS, rfl, .inl (.inl (by rw [← map_sg]; exact hF)), by rw [List.length_map]; omega, fun ys p hys hso np => ?_⟩
      obtain ⟨l, rfl, pl⟩ := perm_signs hys
      have ndA : (ll ++ ff).Nodup := hp.nodup_iff.mpr (by decide)
      have ndf : ff.Nodup := (List.nodup_append.mp ndA).2.1
      have ndl : l.Nodup := pl.nodup_iff.mpr ndf
      refine ⟨_, p, _, rfl, rfl, .inl (.inl (.inl upd_same)), ?_, ?_⟩
      · have e1 : (Str.ofString "").length = 0 := by decide +kernel
        rw [e1, Nat.mul_zero, Nat.add_zero, List.map_map]
        have e2 : ∀ k : List Nat, (k.map ((fun x : Str => x.length) ∘ sS)).sum = k.length := fun k => by
          induction k with
          | nil => rfl
          | cons a k ih =>
            rw [List.map_cons, List.sum_cons, ih, List.length_cons]
            show 1 + k.length = k.length + 1
            omega
        rw [e2, pl.length_eq]
        omega
      · rw [join_signs]
        refine q l n1 _ (kp.new np) ?_ ⟨strict_of (sorted_signs l hso) ndl, fun c hc => ?_⟩ (by rw [pl.length_eq]; exact hm2)
        · rw [upd_ne (ne_of_none hR1 np)]
          exact hR1
        · have hc2 : c ∈ alpha := hp.mem_iff.mp (List.mem_append_right _ (pl.mem_iff.mp hc))
          have : ∀ c ∈ alpha, 97 ≤ c ∧ c ≤ 122 := by decide
          exact this c hc2

/-! ### _law_table -/
def spTable (K : PySem.W.Frag) : Sp := fun vs H Q _ => ∃ (r : Addr) (n : Int) (most rn : Nat), vs = [.ref r, .int most, .int rn] ∧ H r = some (.lst [.int n]) ∧ 1 ≤ most ∧ most ≤ 26 ∧ rn ≤ 1000 ∧
  ∀ (cols : List Nat) (rows : List (List Int)) (v : V) (n' : Int) (H' : Hp), Kp r H H' → H' r = some (.lst [.int n']) → Fz H' v (tabD cols rows) → Cols cols → 1 ≤ cols.length → cols.length ≤ most → RowsOk cols.length rows → rows.length ≤ rn → Q v H'
theorem ok_table (T : Tx K mg Z) : FnOk P w K mg base CX0 3 Z.f_l_table Z.d_l_table ["reel", "most", "rows"] (spTable K) := by
  have G_l_pick : FnOk P w K mg base CX0 1 Z.f_l_pick Z.d_l_pick ["reel", "many"] (spPick K) := ok_pick T
  have G_l_columns : FnOk P w K mg base CX0 2 Z.f_l_columns Z.d_l_columns ["reel", "many"] (spColumns K) := ok_columns T
  refine T.F_l_table.ok sc_l_table (fun vs H Q E h => ?_) (fun cdv A outer s H vs Q E hr h => ?_)
  · obtain ⟨r, n, most, rn, rfl, _⟩ := h
    rfl
  · obtain ⟨r, n, most, rn, rfl, hR, hm1, hm2, hrn, q⟩ := h
    refine ⟨_, (pss_cons (ps_set (i := 3) sc_l_table.nd rfl (.inl rfl) (pe_call G_l_columns (hr.mono (by omega)) (by rfl) T.g_l_columns T.F_l_columns.kp T.b_l_columns .nil pass0 (pa_cons (pv 0) (pa_cons (pe_op op_add pe_int (pe_call G_l_pick (hr.mono (by omega)) (by rfl) T.g_l_pick T.F_l_pick.kp T.b_l_pick .nil pass0 (pa_cons (pv 0) (pa_cons (pv 1) pa_nil)))) pa_nil))))
      (pss_cons (ps_set (i := 4) sc_l_table.nd rfl (.inr rfl) (pe_lc (own := [("letter", 6)]) (tt := tYes) (by rfl) sc_l_table.nd (pi_str (pv 3)) (blkOk_by (own := [("letter", 6)]) (by kernel_rfl)) (fun _ _ _ _ _ => (pg_name (i := 6) sc_l_table.nd rfl (.inl rfl))) (fun _ _ _ _ _ => pts_nil) (fun _ _ _ _ _ => (pe_ix (ixL K) (pe_lst (pa_cons pe_int (pa_cons pe_int (pa_cons pe_int (pa_cons pe_int pa_nil))))) (pe_call G_l_pick (hr.mono (by omega)) (by rfl) T.g_l_pick T.F_l_pick.kp T.b_l_pick .nil pass0 (pa_cons (pv 0) (pa_cons pe_int pa_nil))) (fun _ _ => rfl)))))
      (pss_cons (ps_set (i := 5) sc_l_table.nd rfl (.inl rfl) (pe_call G_l_pick (hr.mono (by omega)) (by rfl) T.g_l_pick T.F_l_pick.kp T.b_l_pick .nil pass0 (pa_cons (pv 0) (pa_cons (pe_op op_add (pv 2) pe_int) pa_nil))))
      (pss_one (ps_ret (pe_tup (pa_cons (pv 3) (pa_cons (pe_callTy (cTupSq K) (by rfl) T.m_tuple (by decide +kernel) (pa_cons (pe_lc (own := [("k", 7)]) (tt := tYes) (by rfl) sc_l_table.nd (pi_range1 (by rfl) T.m_range (pa_cons (pv 5) pa_nil)) (blkOk_by (own := [("k", 7)]) (by kernel_rfl)) (fun _ _ _ _ _ => (pg_name (i := 7) sc_l_table.nd rfl (.inl rfl))) (fun _ _ _ _ _ => pts_nil) (fun _ _ _ _ _ => (pe_callTy (cTupSq K) (by rfl) T.m_tuple (by decide +kernel) (pa_cons (pe_lc (own := [("top", 8)]) (tt := tYes) (by rfl) sc_l_table.nd (piL K (pv 4)) (blkOk_by (own := [("top", 8)]) (by kernel_rfl)) (fun _ _ _ _ _ => (pg_name (i := 8) sc_l_table.nd rfl (.inl rfl))) (fun _ _ _ _ _ => pts_nil) (fun _ _ _ _ _ => (pe_call G_l_pick (hr.mono (by omega)) (by rfl) T.g_l_pick T.F_l_pick.kp T.b_l_pick .nil pass0 (pa_cons (pv 0) (pa_cons (pv 8) pa_nil))))) pa_nil)))) pa_nil)) pa_nil)))))))), ?_⟩
    -- columns
    refine ⟨.ref r, rfl, .ref r, rfl, .int most, rfl, r, n, most, rfl, hR, by omega, by omega, fun d n1 d0 d1 => ?_⟩
    have hR1 : (upd H r (.lst [.int n1])) r = some (.lst [.int n1]) := upd_same
    refine ⟨1, d, rfl, rfl, r, n1, (1 + d).toNat, by rw [Int.toNat_of_nonneg (by omega)]; rfl, hR1, by omega, fun cols n2 H2 kp2 hR2 hc hl => ?_⟩
    have hkp2 : Kp r H H2 := (Kp.own Kp.rfl').trans kp2
    -- tops
    refine ⟨tx cols, rfl, _, rfl, fun D nD => lc_it walk_str (fun i H' => ∃ (ts : List Int) (n3 : Int), Kp r H2 H' ∧ H' r = some (.lst [.int n3]) ∧ H' D = some (.lst (ts.map V.int)) ∧ ts.length = i ∧ ∀ t ∈ ts, 0 < t ∧ t ≤ 1000)
      ⟨[], n2, Kp.rfl'.new nD, by rw [upd_ne (ne_of_none hR2 nD)]; exact hR2, upd_same, rfl, fun t ht => nomatch ht⟩ (fun _ _ _ _ => trivial) (fun i x H3 H4 hi hP hY => ?_) (fun H3 hP => ?_)⟩
    · obtain ⟨ts, n3, kp3, hR3, hD3, hl3, ht3⟩ := hP
      obtain ⟨rfl, c, hc4, rfl⟩ := hY
      have nDr : D ≠ r := (ne_of_none hR2 nD).symm
      refine ⟨rfl, (by show 4 ≤ sizeLine; decide), fun L nL => ?_⟩
      have nLr : L ≠ r := (ne_of_none hR3 nL).symm
      have nLD : L ≠ D := (ne_of_none hD3 nL).symm
      have hR4 : (upd H4 L (.lst [.int 2, .int 2, .int 4, .int 1000])) r = some (.lst [.int n3]) := by
        rw [upd_ne nLr.symm]
        exact hR3
      refine ⟨.ref r, rfl, r, n3, 4, rfl, hR4, by decide, by decide, fun e n4 e0 e1 => ?_⟩
      obtain ⟨t, ht, hat⟩ := at_ints (ns := [2, 2, 4, 1000]) e0 e1
      refine ⟨L, [2, 2, 4, 1000].map V.int, e, .int t, rfl, rfl, .inl (.inl ?_), hat, ts.map V.int, ?_, ?_, ts ++ [t], n4, ?_, ?_, ?_, ?_, ?_⟩
      · rw [upd_ne nLr, upd_same]
        rfl
      · rw [upd_ne nDr, upd_ne nLD.symm]
        exact hD3
      · rw [List.length_map, hl3]
        have hi2 : i < cols.length := hi
        exact small1000 (by omega)
      · exact ((kp3.new nL).own).mut nD
      · rw [upd_ne nDr.symm, upd_same]
      · rw [upd_same, List.map_append]
        rfl
      · rw [List.length_append, hl3]
        rfl
      · intro u hu
        rcases List.mem_append.mp hu with hu | hu
        · exact ht3 u hu
        · have : ∀ z ∈ ([2, 2, 4, 1000] : List Int), 0 < z ∧ z ≤ 1000 := by decide
          rw [List.mem_singleton.mp hu]
          exact this t ht
    · obtain ⟨ts, n3, kp3, hR3, hD3, hl3, ht3⟩ := hP
      have hlt : ts.length = cols.length := hl3
      -- many
      refine ⟨.ref r, rfl, .int rn, rfl, rn, 1, rfl, rfl, r, n3, _, rfl, hR3, by omega, by omega, fun m n4 m0 m1 => ?_⟩
      have nDr : D ≠ r := (ne_of_none hR2 nD).symm
      have hD4 : (upd H3 r (.lst [.int n4])) D = some (.lst (ts.map V.int)) := by
        rw [upd_ne nDr]
        exact hD3
      have kp4 : Kp r H (upd H3 r (.lst [.int n4])) := (hkp2.trans kp3).own
      -- the rows
      refine ⟨tx cols, rfl, .int m, rfl, m, rfl, by omega, by omega, fun D2 nD2 => lc_range (fun i H' => ∃ (rows : List (List Int)) (vs : List V) (n5 : Int), Kp r H H' ∧ H' r = some (.lst [.int n5]) ∧ H' D = some (.lst (ts.map V.int)) ∧ H' D2 = some (.lst vs) ∧ FzA H' vs (rows.map rowD) ∧ RowsOk cols.length rows ∧ rows.length = i)
        ⟨[], [], n4, kp4.new nD2, ?_, ?_, upd_same, .nil, (fun _ h => nomatch h), rfl⟩ (fun i H5 hi hP => ?_) (fun H5 hP => ?_)⟩
      · rw [upd_ne (ne_of_none upd_same nD2)]
        exact upd_same
      · rw [upd_ne (ne_of_none hD4 nD2)]
        exact hD4
      · obtain ⟨rows, vs, n5, kp5, hR5, hD5, hD25, hF5, hok, hln⟩ := hP
        have nD2r : D2 ≠ r := (ne_of_none (upd_same (H := H3)) nD2).symm
        have nD2D : D2 ≠ D := (ne_of_none hD4 nD2).symm
        have nD2H : H D2 = none := Kp.none kp4 nD2r nD2
        have nDH : H D = none := Kp.none hkp2 nDr nD
        -- one row
        refine ⟨rfl, .ref D, rfl, D, rfl, ⟨_, .inl (.inl hD5)⟩, fun D3 nD3 => lc_list (xs := ts.map V.int) (fun j H' => ∃ (row : List Int) (n6 : Int), Kp r H5 H' ∧ H' r = some (.lst [.int n6]) ∧ H' D3 = some (.lst (row.map V.int)) ∧ row.length = j ∧ ∀ x ∈ row, 0 ≤ x ∧ x < 1000)
          ⟨[], n5, Kp.rfl'.new nD3, ?_, upd_same, rfl, fun _ h => nomatch h⟩ (fun j H' _ hP => ?_) (fun j x H6 hx hP => ?_) (fun H6 hP => ?_)⟩
        · rw [upd_ne (ne_of_none hR5 nD3)]
          exact hR5
        · obtain ⟨row, n6, kp6, _⟩ := hP
          exact .inl (.inl (kp6 D _ nDr hD5))
        · obtain ⟨row, n6, kp6, hR6, hD6, hl6, hx6⟩ := hP
          have nD3r : D3 ≠ r := (ne_of_none hR5 nD3).symm
          rw [List.getElem?_map] at hx
          obtain ⟨t, ht, rfl⟩ := Option.map_eq_some_iff.mp hx
          have tm : t ∈ ts := List.mem_of_getElem? ht
          have hj : j < ts.length := (List.getElem?_eq_some_iff.mp ht).1
          refine ⟨rfl, .ref r, rfl, .int t, rfl, r, n6, t, rfl, hR6, (ht3 t tm).1, by have := (ht3 t tm).2; omega, fun e n7 e0 e1 => ?_⟩
          refine ⟨row.map V.int, ?_, ?_, row ++ [e], n7, (kp6.own).mut nD3, ?_, ?_, ?_, ?_⟩
          · rw [upd_ne nD3r]
            exact hD6
          · rw [List.length_map]
            exact small1000 (by omega)
          · rw [upd_ne nD3r.symm, upd_same]
          · rw [upd_same, List.map_append]
            rfl
          · rw [List.length_append, hl6]
            rfl
          · intro u hu
            rcases List.mem_append.mp hu with hu | hu
            · exact hx6 u hu
            · rw [List.mem_singleton.mp hu]
              have := (ht3 t tm).2
              exact ⟨e0, by omega⟩
        · obtain ⟨row, n6, kp6, hR6, hD6, hl6, hx6⟩ := hP
          rw [List.length_map] at hl6
          refine ⟨D3, row.map V.int, rfl, .inl ⟨.inl (.inl hD6), fun t nt => ?_⟩⟩
          have hD26 : H6 D2 = some (.lst vs) := kp6 D2 _ nD2r hD25
          have hD62 : H6 D = some (.lst (ts.map V.int)) := kp6 D _ nDr hD5
          have ntD2 : t ≠ D2 := (ne_of_none hD26 nt).symm
          have kt : Kt H5 H6 := kp6.kt hR5
          have kt2 : Kt H6 (upd H6 t (.tup (row.map V.int))) := .new nt
          have hD27 : (upd H6 t (.tup (row.map V.int))) D2 = some (.lst vs) := by
            rw [upd_ne ntD2.symm]
            exact hD26
          refine ⟨vs, hD27, ?_, rows ++ [row], vs ++ [.ref t], n6, ?_, ?_, ?_, upd_same, ?_, ?_, by rw [List.length_append, hln]; rfl⟩
          · rw [hF5.len, List.length_map]
            exact small1000 (by omega)
          · exact ((kp5.trans kp6).new nt).mut nD2H
          · rw [upd_ne nD2r.symm, upd_ne (ne_of_none hR6 nt)]
            exact hR6
          · rw [upd_ne nD2D.symm, upd_ne (ne_of_none hD62 nt)]
            exact hD62
          · rw [List.map_append]
            exact (FzA.snoc ((hF5.kt kt).kt kt2) (row_made nt)).kt (.lst hD27)
          · intro x hx
            rcases List.mem_append.mp hx with hx | hx
            · exact hok x hx
            · rw [List.mem_singleton.mp hx]
              exact ⟨hl6.trans hlt, hx6⟩
      · obtain ⟨rows, vs, n5, kp5, hR5, hD5, hD25, hF5, hok, hln⟩ := hP
        refine ⟨D2, vs, rfl, .inl ⟨.inl (.inl hD25), fun R nR => ⟨(by show 2 ≤ sizeLine; decide), fun t nt => ?_⟩⟩⟩
        have f1 : Fz (upd H5 R (.tup vs)) (.ref R) (rowsD rows) := Fz.made nR hF5
        refine q cols rows (.ref t) n5 _ ((kp5.new nR).new nt) ?_ (Fz.made nt (.cons (.str _) (.cons f1 .nil))) hc (by omega) (by omega) hok (by omega)
        rw [upd_ne (ne_of_none (by rw [upd_ne (ne_of_none hR5 nR)]; exact hR5) nt), upd_ne (ne_of_none hR5 nR)]
        exact hR5

/-! ### is_whole, is_number -/
def spWhole : Sp := fun vs H Q _ => ∃ (v : V) (d : PyData), vs = [v] ∧ Ft H v d ∧ Q (.bl (isIn d && !isBl d)) H
theorem ok_whole (T : Tx K mg Z) : FnOk P w K mg base CX0 1 Z.f_is_whole Z.d_is_whole ["thing"] spWhole := by
  refine T.F_is_whole.ok sc_is_whole (fun vs H Q E h => ?_) (fun cdv A outer s H vs Q E hr h => ?_)
  · obtain ⟨v, d, rfl, _⟩ := h
    rfl
  · obtain ⟨v, d, rfl, f, q⟩ := h
    refine ⟨_, (pss_one (ps_ret (pe_and (pe_callB (isiK K) (by rfl) T.m_isinstance (by decide +kernel) (pa_cons (pv 0) (pa_cons (pe_bltn (v := .ty "int") (by rfl) T.m_int (by decide +kernel) rfl) pa_nil))) (pe_one (pe_not (pe_callB (isiK K) (by rfl) T.m_isinstance (by decide +kernel) (pa_cons (pv 0) (pa_cons (pe_bltn (v := .ty "bool") (by rfl) T.m_bool (by decide +kernel) rfl) pa_nil)))))))), ?_⟩
    refine ⟨v, rfl, v, .ty "int", _, _, isIn d, rfl, .ty _, ty_ft f, kit_in d, _, rfl, ite2 (fun e => ?_) (fun e => ?_)⟩
    · refine ⟨v, rfl, v, .ty "bool", _, _, isBl d, rfl, .ty _, ty_ft f, kit_bl d, _, rfl, ?_⟩
      rw [e, Bool.true_and] at q
      exact q
    · rw [eq_false_of_ne_true e, Bool.false_and] at q
      exact q
def spNumber : Sp := fun vs H Q _ => ∃ (v : V) (d : PyData), vs = [v] ∧ Ft H v d ∧ Q (.bl (isNumD d)) H
theorem ok_number (T : Tx K mg Z) : FnOk P w K mg base CX0 2 Z.f_is_number Z.d_is_number ["thing"] spNumber := by
  have G_is_whole : FnOk P w K mg base CX0 1 Z.f_is_whole Z.d_is_whole ["thing"] spWhole := ok_whole T
  refine T.F_is_number.ok sc_is_number (fun vs H Q E h => ?_) (fun cdv A outer s H vs Q E hr h => ?_)
  · obtain ⟨v, d, rfl, _⟩ := h
    rfl
  · obtain ⟨v, d, rfl, f, q⟩ := h
    refine ⟨_, (pss_one (ps_ret (pe_and (pe_call G_is_whole (hr.mono (by omega)) (by rfl) T.g_is_whole T.F_is_whole.kp T.b_is_whole .nil pass0 (pa_cons (pv 0) pa_nil)) (pe_one (pe_chain op_le op_le pe_int (pv 0) (pe_glob (v := .int 999) (by rfl) T.c_GREATEST ⟨_, rfl⟩)))))), ?_⟩
    refine ⟨v, rfl, v, d, rfl, f, _, rfl, ite2 (fun e => ?_) (fun e => ?_)⟩
    · obtain ⟨i, rfl⟩ := int_open e
      cases f
      refine ⟨.int i, rfl, 0, i, rfl, rfl, _, rfl, ite2 (fun e2 => ?_) (fun e2 => ?_)⟩
      · refine ⟨i, 999, rfl, rfl, ?_⟩
        have hq : isNumD (.int i) = (decide (0 ≤ i) && decide (i ≤ 999)) := rfl
        rw [hq, e2, Bool.true_and] at q
        exact q
      · have hq : isNumD (.int i) = (decide (0 ≤ i) && decide (i ≤ 999)) := rfl
        rw [hq, eq_false_of_ne_true e2, Bool.false_and] at q
        exact q
    · have hn : isNumD d = false := by
        cases d with
        | int i => exact absurd rfl e
        | _ => rfl
      rw [hn] at q
      exact q

/-! ### is_rising of a text, is_columns -/
def spRisT (K : PySem.W.Frag) (Z : Ad) : Sp := fun vs H Q _ => ∃ (l : List Nat), vs = [tx l] ∧ TG Z.Ps H ∧ l.length ≤ 1000 ∧ ∀ (H' : Hp), Sx Z.Ps H H' → TG Z.Ps H' → Q (.bl (risB l)) H'
theorem ok_rist (T : Tx K mg Z) (TB : Tb base mg Z) : FnOk P w K mg base CX0 4 Z.f_is_rising Z.d_is_rising ["things"] (spRisT K Z) := by
  refine T.C_is_rising.ok sc_is_rising (fun vs H Q E h => ?_) (fun A outer s H vs Q E hr h => ?_)
  · obtain ⟨l, rfl, _⟩ := h
    rfl
  · obtain ⟨l, rfl, tg, hl, q⟩ := h
    refine ⟨_, (pss_one (ps_ret (pe_allC (own := [("at", 1)]) (k := 0) (hr.mono (by omega)) (by rfl) T.m_all (TB.t_is_rising) rfl (gxS_by (blkOk_by (own := [("at", 1)]) (by kernel_rfl)) (by kernel_rfl)) sc_is_rising.nd (by rfl) (pi_range1 (by rfl) T.m_range (pa_cons (pe_op op_sub (pe_callB call_len_str (by rfl) T.m_len (by decide +kernel) (pa_cons (pv 0) pa_nil)) pe_int) pa_nil)) (fun _ _ _ _ _ _ _ _ => (pg_name (i := 1) sc_is_rising.nd rfl (.inl rfl))) (fun _ _ _ _ _ _ _ _ hr => (pe_cmpR op_lt_str (pe_ix ix_str (pv 0) (pv 1) (fun _ _ => rfl)) (pe_ix ix_str (pv 0) (pe_op op_add (pv 1) pe_int) (fun _ _ => rfl)) (nomark _)))))), ?_⟩
    have hP : Z.P_is_rising ∈ Z.Ps := by simp
    have hsz : (⟨l.toArray⟩ : Str).length = l.length := by simp [Str.length]
    have hlz : (⟨l.toArray⟩ : Str).length ≤ sizeLine := Nat.le_of_lt (small1000 (show l.length ≤ 1000 from hl))
    have ecs : (⟨l.toArray⟩ : Str).cps.toList = l := by simp
    refine ⟨tx l, rfl, _, rfl, hlz, _, 1, rfl, rfl, _, rfl, by rw [hsz]; omega, by rw [hsz]; omega, tg _ hP, fun H2 hT => ?_⟩
    have tg2 := Tabbed.tg tg hT
    have sx2 := Tabbed.sx hP hT
    have eN : ((((⟨l.toArray⟩ : Str).length : Nat) : Int) - 1).toNat = l.length - 1 := by
      rw [hsz]
      omega
    refine ⟨((((⟨l.toArray⟩ : Str).length : Nat) : Int) - 1).toNat, fun i => decide (l.getD i 0 < l.getD (i + 1) 0), fun i H' => i ≤ ((((⟨l.toArray⟩ : Str).length : Nat) : Int) - 1).toNat ∧ H' = H2, ⟨Nat.zero_le _, rfl⟩, gx_step walk_range (fun _ _ _ _ => trivial) (fun i x H3 H4 hi e hY => ?_), fun H3 e hall => ?_, fun j H3 hj hs hal e => ?_⟩
    · obtain ⟨rfl, rfl⟩ := hY
      have g1 : l[i]? = some (l.getD i 0) := by
        rw [List.getD_eq_getElem?_getD, List.getElem?_eq_getElem (by omega)]
        rfl
      have g2 : l[i + 1]? = some (l.getD (i + 1) 0) := by
        rw [List.getD_eq_getElem?_getD, List.getElem?_eq_getElem (by omega)]
        rfl
      refine ⟨rfl, tx l, rfl, .int (0 + (i : Nat)), rfl, _, _, l.getD i 0, rfl, rfl, hlz, ?_, tx l, rfl, .int (0 + (i : Nat)), rfl, _, 1, rfl, rfl, _, _, l.getD (i + 1) 0, rfl, rfl, hlz, ?_, sS (l.getD i 0), sS (l.getD (i + 1) 0), rfl, rfl, ?_, hi, e⟩
      · rw [Int.zero_add, ecs]
        exact atI_nat g1
      · rw [Int.zero_add, show ((i : Nat) : Int) + 1 = ((i + 1 : Nat) : Int) from rfl, ecs]
        exact atI_nat g2
      · rw [cps_lt]
    · have hq : risB l = true := (ris_get l).mpr fun i hi => of_decide_eq_true (hall i (by omega))
      rw [hq] at q
      rw [e.2]
      exact q H2 sx2 tg2
    · have hq : risB l = false := by
        refine eq_false_of_ne_true fun z => ?_
        exact absurd ((ris_get l).mp z j (by omega)) (of_decide_eq_false hs)
      rw [hq] at q
      rw [e.2]
      exact q H2 sx2 tg2
def spIsCol (K : PySem.W.Frag) (Z : Ad) : Sp := fun vs H Q _ => ∃ (v : V) (d : PyData), vs = [v] ∧ TG Z.Ps H ∧ Ft H v d ∧ Sh 20 100000 d ∧ ∀ (H' : Hp), Sx Z.Ps H H' → TG Z.Ps H' → Q (.bl (isColD d)) H'
theorem ok_iscol (T : Tx K mg Z) (TB : Tb base mg Z) : FnOk P w K mg base CX0 5 Z.f_is_columns Z.d_is_columns ["thing"] (spIsCol K Z) := by
  have G_is_rising : FnOk P w K mg base CX0 4 Z.f_is_rising Z.d_is_rising ["things"] (spRisT K Z) := ok_rist T TB
  refine T.C_is_columns.ok sc_is_columns (fun vs H Q E h => ?_) (fun A outer s H vs Q E hr h => ?_)
  · obtain ⟨v, d, rfl, _⟩ := h
    rfl
  · obtain ⟨v, d, rfl, tg, f, hsh, q⟩ := h
    refine ⟨_, (pss_cons (ps_if (PW.pt (pw_or (pt_not (pt_val (pe_callB (isiK K) (by rfl) T.m_isinstance (by decide +kernel) (pa_cons (pv 0) (pa_cons (pe_bltn (v := .ty "str") (by rfl) T.m_str (by decide +kernel) rfl) pa_nil))))) (pw_or1 (pt_not (pt_chain op_le op_le pe_int (pe_callB call_len_str (by rfl) T.m_len (by decide +kernel) (pa_cons (pv 0) pa_nil)) (pe_glob (v := .int 6) (by rfl) T.c_MOST_COLUMNS ⟨_, rfl⟩)))))) (pss_one (ps_ret pe_bl)) pss_nil)
      (pss_one (ps_ret (pe_and (pe_call G_is_rising (hr.mono (by omega)) (by rfl) T.g_is_rising T.F_is_rising.kp T.b_is_rising .nil pass0 (pa_cons (pv 0) pa_nil)) (pe_one (pe_allC (own := [("letter", 1)]) (k := 0) (hr.mono (by omega)) (by rfl) T.m_all (TB.t_is_columns) rfl (gxS_by (blkOk_by (own := [("letter", 1)]) (by kernel_rfl)) (by kernel_rfl)) sc_is_columns.nd (by rfl) (pi_str (pv 0)) (fun _ _ _ _ _ _ _ _ => (pg_name (i := 1) sc_is_columns.nd rfl (.inl rfl))) (fun _ _ _ _ _ _ _ _ hr => (pe_chain op_le_str op_le_str pe_str (pv 1) pe_str)))))))), ?_⟩
    have hP : Z.P_is_columns ∈ Z.Ps := by simp
    refine ⟨v, rfl, v, .ty "str", _, _, isSt d, rfl, .ty _, ty_ft f, kit_st d, _, rfl, ite2 (fun e => ?_) (fun e => ?_)⟩
    · have hq : isColD d = false := by
        cases d with
        | str z => cases e
        | _ => rfl
      rw [hq] at q
      exact iteT (q H (fun _ _ _ h => h) tg)
    · obtain ⟨z, rfl⟩ := st_open (d := d) (by simpa using e)
      cases f
      obtain ⟨l, rfl⟩ : ∃ l : List Nat, z = txS l := ⟨z.cps.toList, (txS_of z).symm⟩
      rw [col_of_str] at q
      have hsz : (⟨l.toArray⟩ : Str).length = l.length := by simp [Str.length]
      have bad : ¬ (1 ≤ l.length ∧ l.length ≤ 6) → isColL l = false := fun h => by
        refine eq_false_of_ne_true fun z => h ?_
        unfold isColL at z
        simp only [Bool.and_eq_true, decide_eq_true_eq] at z
        exact z.1.1
      have fin0 : ∀ k : Bool, (k = true ↔ 1 ≤ l.length ∧ l.length ≤ 6) → k = false → isColL l = false := fun k h1 h2 => bad fun h3 => by
        rw [h1.mpr h3] at h2
        cases h2
      refine ⟨tx l, rfl, _, rfl, hsh.len (Nat.le_refl _), 1, _, rfl, rfl, _, rfl, ?_⟩
      rw [hsz]
      refine ite2 (fun e2 => ?_) (fun e2 => ?_)
      · have h1 : 1 ≤ l.length := by
          have := of_decide_eq_true e2
          omega
        refine ⟨_, 6, rfl, rfl, _, rfl, ite2 (fun e3 => ?_) (fun e3 => ?_)⟩
        · rw [bad fun h => by
            have : ¬ ((l.length : Nat) : Int) ≤ 6 := by simpa using e3
            omega] at q
          exact q H (fun _ _ _ h => h) tg
        · have h6 : l.length ≤ 6 := by
            have : ((l.length : Nat) : Int) ≤ 6 := by simpa using e3
            omega
          have hq : isColL l = (risB l && l.all fun c => decide (97 ≤ c) && decide (c ≤ 122)) := by
            unfold isColL
            rw [decide_eq_true h1, decide_eq_true h6]
            rfl
          rw [hq] at q
          refine ⟨tx l, rfl, l, rfl, tg, by omega, fun H1 sx1 tg1 => ?_⟩
          refine ⟨_, rfl, ite2 (fun e4 => ?_) (fun e4 => ?_)⟩
          · rw [e4, Bool.true_and] at q
            refine ⟨tx l, rfl, _, rfl, tg1 _ hP, fun H2 hT => ?_⟩
            have tg2 := Tabbed.tg tg1 hT
            have sx2 := sx1.trans (Tabbed.sx hP hT)
            have hcs : (⟨l.toArray⟩ : Str).cps.size = l.length := by simp
            have ea : Str.ofString "a" = sS 97 := by decide +kernel
            have ez : Str.ofString "z" = sS 122 := by decide +kernel
            refine ⟨(⟨l.toArray⟩ : Str).cps.size, fun i => decide (97 ≤ l.getD i 0) && decide (l.getD i 0 ≤ 122), fun i H' => i ≤ (⟨l.toArray⟩ : Str).cps.size ∧ H' = H2, ⟨Nat.zero_le _, rfl⟩, gx_step walk_str (fun _ _ _ _ => trivial) (fun i x H3 H4 hi e hY => ?_), fun H3 e hall => ?_, fun j H3 hj hs hal e => ?_⟩
            · obtain ⟨rfl, c, hc, rfl⟩ := hY
              have hc2 : l.getD i 0 = c := by
                have : l[i]? = some c := by simpa using hc
                rw [List.getD_eq_getElem?_getD, this]
                rfl
              refine ⟨rfl, sg c, rfl, Str.ofString "a", sS c, rfl, rfl, _, rfl, ?_⟩
              rw [ea, cps_le]
              refine ite2 (fun e5 => ?_) (fun e5 => ?_)
              · refine ⟨sS c, Str.ofString "z", rfl, rfl, ?_, hi, e⟩
                rw [ez, cps_le]
                simp only [hc2, e5, Bool.true_and]
              · refine ⟨?_, hi, e⟩
                simp only [hc2, eq_false_of_ne_true e5, Bool.false_and]
            · obtain ⟨_, rfl⟩ := e
              have hq2 : (l.all fun c => decide (97 ≤ c) && decide (c ≤ 122)) = true := by
                rw [List.all_eq_true]
                intro c hc
                obtain ⟨i, hi, rfl⟩ := List.getElem_of_mem hc
                have := hall i (by rw [hcs]; exact hi)
                simp only [List.getD_eq_getElem?_getD, List.getElem?_eq_getElem hi] at this
                exact this
              rw [hq2] at q
              exact q _ sx2 tg2
            · obtain ⟨_, rfl⟩ := e
              have hj2 : j < l.length := by
                rw [hcs] at hj
                exact hj
              have hq2 : (l.all fun c => decide (97 ≤ c) && decide (c ≤ 122)) = false := by
                refine eq_false_of_ne_true fun z => ?_
                have h1 := List.all_eq_true.mp z l[j] (List.getElem_mem hj2)
                simp only [List.getD_eq_getElem?_getD, List.getElem?_eq_getElem hj2] at hs
                rw [show (decide (97 ≤ l[j]) && decide (l[j] ≤ 122)) = false from hs] at h1
                cases h1
              rw [hq2] at q
              exact q _ sx2 tg2
          · rw [eq_false_of_ne_true e4, Bool.false_and] at q
            exact q H1 sx1 tg1
      · rw [bad fun h => by
          have : ¬ (1 : Int) ≤ ((l.length : Nat) : Int) := fun z => e2 (decide_eq_true z)
          omega] at q
        exact ⟨_, rfl, iteT (q H (fun _ _ _ h => h) tg)⟩
/-! ### is_row, is_table -/
def spIsRow (K : PySem.W.Frag) (Z : Ad) : Sp := fun vs H Q _ => ∃ (l : List Nat) (v : V) (d : PyData), vs = [tx l, v] ∧ TG Z.Ps H ∧ Fl Z.Ps H v d ∧ l.length ≤ 1000 ∧ ∀ (H' : Hp), Sx Z.Ps H H' → TG Z.Ps H' → Q (.bl (isRowD l.length d)) H'
theorem ok_isrow (T : Tx K mg Z) (TB : Tb base mg Z) : FnOk P w K mg base CX0 6 Z.f_is_row Z.d_is_row ["columns", "thing"] (spIsRow K Z) := by
  have G_is_number : FnOk P w K mg base CX0 2 Z.f_is_number Z.d_is_number ["thing"] spNumber := ok_number T
  refine T.C_is_row.ok sc_is_row (fun vs H Q E h => ?_) (fun A outer s H vs Q E hr h => ?_)
  · obtain ⟨l, v, d, rfl, _⟩ := h
    rfl
  · obtain ⟨l, v, d, rfl, tg, f, hl, q⟩ := h
    refine ⟨_, (pss_cons (ps_if (PW.pt (pw_or (pt_not (pt_val (pe_callB (isiK K) (by rfl) T.m_isinstance (by decide +kernel) (pa_cons (pv 1) (pa_cons (pe_bltn (v := .ty "tuple") (by rfl) T.m_tuple (by decide +kernel) rfl) pa_nil))))) (pw_or1 (pt_cmpR op_ne (pe_callB (cLenSq K) (by rfl) T.m_len (by decide +kernel) (pa_cons (pv 1) pa_nil)) (pe_callB call_len_str (by rfl) T.m_len (by decide +kernel) (pa_cons (pv 0) pa_nil)) (nomark _))))) (pss_one (ps_ret pe_bl)) pss_nil)
      (pss_one (ps_ret (pe_allC (own := [("part", 2)]) (k := 2) (hr.mono (by omega)) (by rfl) T.m_all (TB.t_is_row) rfl (gxS_by (blkOk_by (own := [("part", 2)]) (by kernel_rfl)) (by kernel_rfl)) sc_is_row.nd (by rfl) (piT K (pv 1)) (fun _ _ _ _ _ _ _ _ => (pg_name (i := 2) sc_is_row.nd rfl (.inl rfl))) (fun _ _ _ _ _ _ _ _ hr => (pe_call G_is_number (hr.mono (by omega)) (by rfl) T.g_is_number T.F_is_number.kp T.b_is_number .nil pass0 (pa_cons (pv 2) pa_nil))))))), ?_⟩
    have hP : Z.P_is_row ∈ Z.Ps := by simp
    have hsz : (⟨l.toArray⟩ : Str).length = l.length := by simp [Str.length]
    refine ⟨v, rfl, v, .ty "tuple", _, _, isTp d, rfl, .ty _, ty_ft f.to, kit_tp d, _, rfl, ite2 (fun e => ?_) (fun e => ?_)⟩
    · have hq : isRowD l.length d = false := by
        cases d with
        | tuple ds => cases e
        | _ => rfl
      rw [hq] at q
      exact iteT (q H (fun _ _ _ h => h) tg)
    · obtain ⟨ds, rfl⟩ := tp_open (by simpa using e)
      obtain ⟨a, xs, rfl, na, ha, fa⟩ := f.openT
      have hlx := FtA.len fa
      have hqd : isRowD l.length (.tuple ds) = (decide (ds.length = l.length) && ds.all isNumD) := rfl
      rw [hqd] at q
      refine ⟨.ref a, rfl, a, xs, rfl, .inr (.inl (.inl ha)), tx l, rfl, _, rfl, Nat.le_of_lt (small1000 (show l.length ≤ 1000 from hl)), rfl, _, rfl, ?_⟩
      rw [hsz]
      refine ite2 (fun e2 => ?_) (fun e2 => ?_)
      · have hne : ds.length ≠ l.length := fun z => by
          rw [hlx, z] at e2
          exact absurd e2 (by simp)
        rw [decide_eq_false hne, Bool.false_and] at q
        exact q H (fun _ _ _ h => h) tg
      · have heq : ds.length = l.length := by
          have e3 : V.int ((xs.length : Nat) : Int) = V.int ((l.length : Nat) : Int) := by simpa using e2
          have e4 : ((xs.length : Nat) : Int) = ((l.length : Nat) : Int) := by injection e3
          omega
        rw [decide_eq_true heq, Bool.true_and] at q
        refine ⟨.ref a, rfl, a, rfl, ⟨_, .inl (.inl ha)⟩, tg _ hP, fun H2 hT => ?_⟩
        have tg2 := Tabbed.tg tg hT
        have sx2 := Tabbed.sx hP hT
        have ha2 : H2 a = some (.tup xs) := sx2 _ _ na ha
        have fa2 : FlA Z.Ps H2 xs ds := fa.sx sx2 fun _ h => h
        refine ⟨xs.length, fun i => isNumD (ds.getD i .none), fun i H' => i ≤ xs.length ∧ H' = H2, ⟨Nat.zero_le _, rfl⟩, gx_step (walk_tup (xs := xs)) (fun i H' _ e => ?_) (fun i x H3 H4 hi e hY => ?_), fun H3 e hall => ?_, fun j H3 hj hs hal e => ?_⟩
        · rw [e]
          exact .inl (.inl ha2)
        · obtain ⟨rfl, hx⟩ := hY
          subst e
          obtain ⟨dd, hdd, fd⟩ := FtA.getV fa2.to hx
          have eg : ds.getD i .none = dd := by
            rw [List.getD_eq_getElem?_getD, hdd]
            rfl
          refine ⟨rfl, x, rfl, x, dd, rfl, fd, ?_, hi, rfl⟩
          simp only [eg]
        · obtain ⟨_, rfl⟩ := e
          have hq2 : ds.all isNumD = true := by
            rw [List.all_eq_true]
            intro x hx
            obtain ⟨i, hi, rfl⟩ := List.getElem_of_mem hx
            have := hall i (by omega)
            simp only [List.getD_eq_getElem?_getD, List.getElem?_eq_getElem hi] at this
            exact this
          rw [hq2] at q
          exact q _ sx2 tg2
        · obtain ⟨_, rfl⟩ := e
          have hq2 : ds.all isNumD = false := by
            refine eq_false_of_ne_true fun z => ?_
            have hj2 : j < ds.length := by omega
            have h1 := List.all_eq_true.mp z ds[j] (List.getElem_mem hj2)
            simp only [List.getD_eq_getElem?_getD, List.getElem?_eq_getElem hj2] at hs
            rw [show isNumD ds[j] = false from hs] at h1
            cases h1
          rw [hq2] at q
          exact q _ sx2 tg2
def spIsTab (K : PySem.W.Frag) (Z : Ad) : Sp := fun vs H Q _ => ∃ (v : V) (d : PyData), vs = [v] ∧ TG Z.Ps H ∧ Fl Z.Ps H v d ∧ Sh 20 100000 d ∧ ∀ (H' : Hp), Sx Z.Ps H H' → TG Z.Ps H' → Q (.bl (isTabD d)) H'
theorem ok_istab (T : Tx K mg Z) (TB : Tb base mg Z) : FnOk P w K mg base CX0 10 Z.f_is_table Z.d_is_table ["thing"] (spIsTab K Z) := by
  have G_is_columns : FnOk P w K mg base CX0 5 Z.f_is_columns Z.d_is_columns ["thing"] (spIsCol K Z) := ok_iscol T TB
  have G_is_row : FnOk P w K mg base CX0 6 Z.f_is_row Z.d_is_row ["columns", "thing"] (spIsRow K Z) := ok_isrow T TB
  refine T.C_is_table.ok sc_is_table (fun vs H Q E h => ?_) (fun A outer s H vs Q E hr h => ?_)
  · obtain ⟨v, d, rfl, _⟩ := h
    rfl
  · obtain ⟨v, d, rfl, tg, f, hsh, q⟩ := h
    refine ⟨_, (pss_cons (ps_if (PW.pt (pw_or (pt_not (pt_val (pe_callB (isiK K) (by rfl) T.m_isinstance (by decide +kernel) (pa_cons (pv 0) (pa_cons (pe_bltn (v := .ty "tuple") (by rfl) T.m_tuple (by decide +kernel) rfl) pa_nil))))) (pw_or1 (pt_cmpR op_ne (pe_callB (cLenSq K) (by rfl) T.m_len (by decide +kernel) (pa_cons (pv 0) pa_nil)) pe_int (nomark _))))) (pss_one (ps_ret pe_bl)) pss_nil)
      (pss_cons (ps_asg (pv 0) (pgT K (n := 2) (pgs_cons (pg_name (i := 2) sc_is_table.nd rfl (.inr rfl)) (pgs_cons (pg_name (i := 1) sc_is_table.nd rfl (.inl rfl)) pgs_nil))))
      (pss_cons (ps_if (PW.pt (pw_or (pt_not (pt_val (pe_call G_is_columns (hr.mono (by omega)) (by rfl) T.g_is_columns T.F_is_columns.kp T.b_is_columns .nil pass0 (pa_cons (pv 2) pa_nil)))) (pw_or1 (pt_not (pt_val (pe_callB (isiK K) (by rfl) T.m_isinstance (by decide +kernel) (pa_cons (pv 1) (pa_cons (pe_bltn (v := .ty "tuple") (by rfl) T.m_tuple (by decide +kernel) rfl) pa_nil)))))))) (pss_one (ps_ret pe_bl)) pss_nil)
      (pss_one (ps_ret (pe_and (pe_cmpR op_le (pe_callB (cLenSq K) (by rfl) T.m_len (by decide +kernel) (pa_cons (pv 1) pa_nil)) (pe_glob (v := .int 60) (by rfl) T.c_MOST_ROWS ⟨_, rfl⟩) (nomark _)) (pe_one (pe_allC (own := [("row", 3)]) (k := 6) (hr.mono (by omega)) (by rfl) T.m_all (TB.t_is_table) rfl (gxS_by (blkOk_by (own := [("row", 3)]) (by kernel_rfl)) (by kernel_rfl)) sc_is_table.nd (by rfl) (piT K (pv 1)) (fun _ _ _ _ _ _ _ _ => (pg_name (i := 3) sc_is_table.nd rfl (.inl rfl))) (fun _ _ _ _ _ _ _ _ hr => (pe_call G_is_row (hr.mono (by omega)) (by rfl) T.g_is_row T.F_is_row.kp T.b_is_row .nil pass0 (pa_cons (pv 2) (pa_cons (pv 3) pa_nil)))))))))))), ?_⟩
    have hP : Z.P_is_table ∈ Z.Ps := by simp
    refine ⟨v, rfl, v, .ty "tuple", _, _, isTp d, rfl, .ty _, ty_ft f.to, kit_tp d, _, rfl, ite2 (fun e => ?_) (fun e => ?_)⟩
    · have hq : isTabD d = false := by
        cases d with
        | tuple ds => cases e
        | _ => rfl
      rw [hq] at q
      exact iteT (q H (fun _ _ _ h => h) tg)
    · obtain ⟨ds, rfl⟩ := tp_open (by simpa using e)
      obtain ⟨a, xs, rfl, na, ha, fa⟩ := f.openT
      have hl := FtA.len fa
      refine ⟨.ref a, rfl, a, xs, rfl, .inr (.inl (.inl ha)), rfl, _, rfl, ite2 (fun e2 => ?_) (fun e2 => ?_)⟩
      · have hq : isTabD (.tuple ds) = false := by
          match ds, hl with
          | [], _ => rfl
          | [_], _ => rfl
          | [a1, a2], hl =>
            rw [hl] at e2
            exact absurd e2 (by simp)
          | _ :: _ :: _ :: _, _ => rfl
        rw [hq] at q
        exact q H (fun _ _ _ h => h) tg
      · have hl2 : ds.length = 2 := by
          have e3 : V.int ((xs.length : Nat) : Int) = V.int 2 := by simpa using e2
          have e4 : ((xs.length : Nat) : Int) = 2 := by injection e3
          omega
        match ds, hl2 with
        | [d1, d2], _ =>
          obtain ⟨x1, x2, rfl, f1, f2⟩ := fa.two
          have s1 := hsh.memT d1 (by simp)
          have hqd : isTabD (.tuple [d1, d2]) = (isColD d1 && isRowsD (lenD d1) d2) := rfl
          rw [hqd] at q
          refine ⟨.ref a, rfl, a, [x1, x2], rfl, .inl (.inl ha), rfl, x1, [x2], rfl, x2, [], rfl, rfl, ?_⟩
          refine ⟨x1, rfl, x1, d1, rfl, tg, f1.to, s1, fun H2 sx2 tg2 => ?_⟩
          refine ⟨_, rfl, ite2 (fun e3 => ?_) (fun e3 => ?_)⟩
          · rw [show isColD d1 = false by simpa using e3, Bool.false_and] at q
            exact iteT (q H2 sx2 tg2)
          · have hcol : isColD d1 = true := by simpa using e3
            rw [hcol, Bool.true_and] at q
            obtain ⟨z, rfl⟩ : ∃ z, d1 = .str z := by
              cases d1 with
              | str z => exact ⟨z, rfl⟩
              | _ => cases hcol
            cases f1
            obtain ⟨l, rfl⟩ : ∃ l : List Nat, z = txS l := ⟨z.cps.toList, (txS_of z).symm⟩
            have hld : lenD (.str (txS l)) = l.length := by
              show l.toArray.toList.length = _
              simp
            rw [hld] at q
            have hl6 : l.length ≤ 1000 := by
              rw [col_of_str] at hcol
              unfold isColL at hcol
              simp only [Bool.and_eq_true, decide_eq_true_eq] at hcol
              omega
            have f2b := f2.sx sx2 fun _ h => h
            refine ⟨x2, rfl, x2, .ty "tuple", _, _, isTp d2, rfl, .ty _, ty_ft f2b.to, kit_tp d2, _, rfl, ite2 (fun e4 => ?_) (fun e4 => ?_)⟩
            · have hq : isRowsD l.length d2 = false := by
                cases d2 with
                | tuple ds => cases e4
                | _ => rfl
              rw [hq] at q
              exact q H2 sx2 tg2
            · obtain ⟨rs, rfl⟩ := tp_open (d := d2) (by simpa using e4)
              obtain ⟨b, ys, rfl, nb, hb, fb⟩ := f2b.openT
              have hly := FtA.len fb
              have hqr : isRowsD l.length (.tuple rs) = (decide (rs.length ≤ 60) && rs.all (isRowD l.length)) := rfl
              rw [hqr] at q
              refine ⟨.ref b, rfl, b, ys, rfl, .inr (.inl (.inl hb)), _, 60, rfl, rfl, _, rfl, ite2 (fun e5 => ?_) (fun e5 => ?_)⟩
              · have h60 : rs.length ≤ 60 := by
                  have := of_decide_eq_true e5
                  omega
                rw [decide_eq_true h60, Bool.true_and] at q
                refine ⟨.ref b, rfl, b, rfl, ⟨_, .inl (.inl hb)⟩, tg2 _ hP, fun H3 hT => ?_⟩
                have tg3 := Tabbed.tg tg2 hT
                have sx3 := Tabbed.sx hP hT
                have hb3 : H3 b = some (.tup ys) := sx3 _ _ nb hb
                have fb3 : FlA Z.Ps H3 ys rs := fb.sx sx3 fun _ h => h
                refine ⟨ys.length, fun i => isRowD l.length (rs.getD i .none), fun i H' => i ≤ ys.length ∧ (Sx Z.Ps H3 H' ∧ TG Z.Ps H'), ⟨Nat.zero_le _, fun _ _ _ h => h, tg3⟩, gx_step (walk_tup (xs := ys)) (fun i H' _ e => .inl (.inl (e.1 _ _ nb hb3))) (fun i x H4 H5 hi e hY => ?_), fun H4 e hall => ?_, fun j H4 hj hs hal e => ?_⟩
                · obtain ⟨rfl, hx⟩ := hY
                  obtain ⟨dd, hdd, fd⟩ := FtA.getV (fb3.sx e.1 fun _ h => h) hx
                  have eg : rs.getD i .none = dd := by
                    rw [List.getD_eq_getElem?_getD, hdd]
                    rfl
                  refine ⟨rfl, tx l, rfl, x, rfl, l, x, dd, rfl, e.2, fd, hl6, fun H6 sx6 tg6 => ⟨?_, hi, e.1.trans sx6, tg6⟩⟩
                  simp only [eg]
                · obtain ⟨_, sx4, tg4⟩ := e
                  have hq2 : rs.all (isRowD l.length) = true := by
                    rw [List.all_eq_true]
                    intro x hx
                    obtain ⟨i, hi, rfl⟩ := List.getElem_of_mem hx
                    have := hall i (by omega)
                    simp only [List.getD_eq_getElem?_getD, List.getElem?_eq_getElem hi] at this
                    exact this
                  rw [hq2] at q
                  exact q _ ((sx2.trans sx3).trans sx4) tg4
                · obtain ⟨_, sx4, tg4⟩ := e
                  have hq2 : rs.all (isRowD l.length) = false := by
                    refine eq_false_of_ne_true fun z => ?_
                    have hj2 : j < rs.length := by omega
                    have h1 := List.all_eq_true.mp z rs[j] (List.getElem_mem hj2)
                    simp only [List.getD_eq_getElem?_getD, List.getElem?_eq_getElem hj2] at hs
                    rw [show isRowD l.length rs[j] = false from hs] at h1
                    cases h1
                  rw [hq2] at q
                  exact q _ ((sx2.trans sx3).trans sx4) tg4
              · have h60 : ¬ rs.length ≤ 60 := fun z => e5 (decide_eq_true (by omega))
                rw [decide_eq_false h60, Bool.false_and] at q
                exact q H2 sx2 tg2

/-! ### _law_is_number, _law_is_table -/
theorem ok_lnumber (T : Tx K mg Z) : FnOk P w K mg base CX0 1 Z.f_l_is_number Z.d_l_is_number ["thing"] spNumber := by
  refine T.F_l_is_number.ok sc_l_is_number (fun vs H Q E h => ?_) (fun cdv A outer s H vs Q E hr h => ?_)
  · obtain ⟨v, d, rfl, _⟩ := h
    rfl
  · obtain ⟨v, d, rfl, f, q⟩ := h
    refine ⟨_, (pss_one (ps_ret (pe_and (pe_callB (isiK K) (by rfl) T.m_isinstance (by decide +kernel) (pa_cons (pv 0) (pa_cons (pe_bltn (v := .ty "int") (by rfl) T.m_int (by decide +kernel) rfl) pa_nil))) (pe_and (pe_not (pe_callB (isiK K) (by rfl) T.m_isinstance (by decide +kernel) (pa_cons (pv 0) (pa_cons (pe_bltn (v := .ty "bool") (by rfl) T.m_bool (by decide +kernel) rfl) pa_nil)))) (pe_one (pe_chain op_lt op_lt (pe_un un_neg pe_int) (pv 0) pe_int)))))), ?_⟩
    have hno : (isIn d && !isBl d) = false → isNumD d = false := fun z => by
      cases d with
      | int i => cases z
      | _ => rfl
    refine ⟨v, rfl, v, .ty "int", _, _, isIn d, rfl, .ty _, ty_ft f, kit_in d, _, rfl, ite2 (fun e => ?_) (fun e => ?_)⟩
    · refine ⟨v, rfl, v, .ty "bool", _, _, isBl d, rfl, .ty _, ty_ft f, kit_bl d, _, rfl, _, rfl, ite2 (fun e2 => ?_) (fun e2 => ?_)⟩
      · obtain ⟨i, rfl⟩ := int_open (d := d) (by rw [e, e2]; rfl)
        cases f
        have hq : isNumD (.int i) = (decide (0 ≤ i) && decide (i ≤ 999)) := rfl
        rw [hq] at q
        refine ⟨1, rfl, .int i, rfl, -1, i, rfl, rfl, _, rfl, ite2 (fun e3 => ?_) (fun e3 => ?_)⟩
        · have e5 : decide (0 ≤ i) = true := decide_eq_true (by have := of_decide_eq_true e3; omega)
          rw [e5, Bool.true_and] at q
          refine ⟨i, 1000, rfl, rfl, ?_⟩
          have e4 : decide (i < 1000) = decide (i ≤ 999) := decide_eq_decide.mpr (by omega)
          show Q (.bl (decide (i < 1000))) H
          rw [e4]
          exact q
        · have e5 : decide (0 ≤ i) = false := decide_eq_false fun z => e3 (decide_eq_true (by omega))
          rw [e5, Bool.false_and] at q
          exact q
      · rw [hno (by rw [e, eq_false_of_ne_true e2]; rfl)] at q
        exact q
    · rw [hno (by rw [eq_false_of_ne_true e]; rfl)] at q
      exact q
def spLisTab : Sp := fun vs H Q _ => ∃ (v : V) (d : PyData), vs = [v] ∧ Ft H v d ∧ Sh 20 100000 d ∧ wd d ≤ 100000 ∧ ∀ (H' : Hp), Same H H' → Q (.bl (isTabD d)) H'
set_option maxHeartbeats 4000000 in
theorem ok_listab (T : Tx K mg Z) : FnOk P w K mg base CX0 2 Z.f_l_is_table Z.d_l_is_table ["thing"] spLisTab := by
  have G_l_is_number : FnOk P w K mg base CX0 1 Z.f_l_is_number Z.d_l_is_number ["thing"] spNumber := ok_lnumber T
  refine T.F_l_is_table.ok sc_l_is_table (fun vs H Q E h => ?_) (fun cdv A outer s H vs Q E hr h => ?_)
  · obtain ⟨v, d, rfl, _⟩ := h
    rfl
  · obtain ⟨v, d, rfl, f, hsh, hwd, q⟩ := h
    refine ⟨_, (pss_mid (ps_if (PW.pt (pw_or (pt_not (pt_val (pe_callB (isiK K) (by rfl) T.m_isinstance (by decide +kernel) (pa_cons (pv 0) (pa_cons (pe_bltn (v := .ty "tuple") (by rfl) T.m_tuple (by decide +kernel) rfl) pa_nil))))) (pw_or (pt_cmpR op_ne (pe_callB (cLenSq K) (by rfl) T.m_len (by decide +kernel) (pa_cons (pv 0) pa_nil)) pe_int (nomark _)) (pw_or1 (pt_not (pt_val (pe_callB (isiK K) (by rfl) T.m_isinstance (by decide +kernel) (pa_cons (pe_ix (ixT K) (pv 0) pe_int (fun _ _ => rfl)) (pa_cons (pe_bltn (v := .ty "str") (by rfl) T.m_str (by decide +kernel) rfl) pa_nil))))))))) (pss_one (ps_ret pe_bl)) pss_nil)
      (pss_cons (ps_asg (pv 0) (pgT K (n := 2) (pgs_cons (pg_name (i := 1) sc_l_is_table.nd rfl (.inl rfl)) (pgs_cons (pg_name (i := 2) sc_l_is_table.nd rfl (.inl rfl)) pgs_nil))))
      (pss_mid (ps_if (PW.pt (pw_or (pt_not (pt_chain op_le op_le pe_int (pe_callB call_len_str (by rfl) T.m_len (by decide +kernel) (pa_cons (pv 1) pa_nil)) pe_int)) (pw_or1 (pt_cmpR op_ne (pe_join pe_str (pe_callB (call_sortedD rfl) (by rfl) T.m_sorted (by decide +kernel) (pa_cons (pe_callTy (cDictSq K) (by rfl) T.m_dict (by decide +kernel) (pa_cons (pe_lc (own := [("letter", 4)]) (tt := tYes) (by rfl) sc_l_is_table.nd (pi_str (pv 1)) (blkOk_by (own := [("letter", 4)]) (by kernel_rfl)) (fun _ _ _ _ _ => (pg_name (i := 4) sc_l_is_table.nd rfl (.inl rfl))) (fun _ _ _ _ _ => pts_nil) (fun _ _ _ _ _ => (pe_tup (pa_cons (pv 4) (pa_cons pe_int pa_nil))))) pa_nil)) pa_nil))) (pv 1) (nomark _))))) (pss_one (ps_ret pe_bl)) pss_nil)
      (pss_cons (ps_if (pt_cmpR (neDK K hr.units) (pe_lc (own := [("letter", 4)]) (tt := _) (by rfl) sc_l_is_table.nd (pi_str (pv 1)) (blkOk_by (own := [("letter", 4)]) (by kernel_rfl)) (fun _ _ _ _ _ => (pg_name (i := 4) sc_l_is_table.nd rfl (.inl rfl))) (fun _ _ _ _ _ => (pts_one (pt_not (pt_chain op_le_str op_le_str pe_str (pv 4) pe_str)))) (fun _ _ _ _ _ => (pv 4))) (pe_lst pa_nil) (nomark _)) (pss_one (ps_ret pe_bl)) pss_nil)
      (pss_mid (ps_if (PW.pt (pw_or (pt_not (pt_val (pe_callB (isiK K) (by rfl) T.m_isinstance (by decide +kernel) (pa_cons (pv 2) (pa_cons (pe_bltn (v := .ty "tuple") (by rfl) T.m_tuple (by decide +kernel) rfl) pa_nil))))) (pw_or1 (pt_cmpR op_gt (pe_callB (cLenSq K) (by rfl) T.m_len (by decide +kernel) (pa_cons (pv 2) pa_nil)) pe_int (nomark _))))) (pss_one (ps_ret pe_bl)) pss_nil)
      (pss_cons (ps_for PassesOwn.never rfl (piT K (pv 2)) (pg_name (i := 3) sc_l_is_table.nd rfl (.inl rfl)) (pss_mid (ps_if (PW.pt (pw_or (pt_not (pt_val (pe_callB (isiK K) (by rfl) T.m_isinstance (by decide +kernel) (pa_cons (pv 3) (pa_cons (pe_bltn (v := .ty "tuple") (by rfl) T.m_tuple (by decide +kernel) rfl) pa_nil))))) (pw_or1 (pt_cmpR op_ne (pe_callB (cLenSq K) (by rfl) T.m_len (by decide +kernel) (pa_cons (pv 3) pa_nil)) (pe_callB call_len_str (by rfl) T.m_len (by decide +kernel) (pa_cons (pv 1) pa_nil)) (nomark _))))) (pss_one (ps_ret pe_bl)) pss_nil)
      (pss_one (ps_if (pt_cmpR (inSq K) pe_bl (pe_lc (own := [("number", 5)]) (tt := tYes) (by rfl) sc_l_is_table.nd (piT K (pv 3)) (blkOk_by (own := [("number", 5)]) (by kernel_rfl)) (fun _ _ _ _ _ => (pg_name (i := 5) sc_l_is_table.nd rfl (.inl rfl))) (fun _ _ _ _ _ => pts_nil) (fun _ _ _ _ _ => (pe_call G_l_is_number (hr.mono (by omega)) (by rfl) T.g_l_is_number T.F_l_is_number.kp T.b_l_is_number .nil pass0 (pa_cons (pv 5) pa_nil)))) (by rfl)) (pss_one (ps_ret pe_bl)) pss_nil))))
      (pss_one (ps_ret pe_bl)))))))), ?_⟩
    refine ⟨fun σ H' => ∃ (a : Addr) (x2 : V) (d2 : PyData) (l : List Nat), v = .ref a ∧ σ = [some (.ref a), none, none, none, none, none] ∧ H' = H ∧ d = .tuple [.str (txS l), d2] ∧ H a = some (.tup [tx l, x2]) ∧ Ft H x2 d2, ?_, fun σ1 H1 hM => ?_⟩
    · refine ⟨v, rfl, v, .ty "tuple", _, _, isTp d, rfl, .ty _, ty_ft f, kit_tp d, _, rfl, ite2 (fun e => ?_) (fun e => ?_)⟩
      · have hq : isTabD d = false := by
          cases d with
          | tuple ds => cases e
          | _ => rfl
        rw [hq] at q
        exact iteT (q H (Same.refl H))
      · obtain ⟨ds, rfl⟩ := tp_open (by simpa using e)
        obtain ⟨a, xs, rfl, ha, fa⟩ : ∃ (a : Addr) (xs : List V), v = .ref a ∧ H a = some (.tup xs) ∧ FtA H xs ds := by
          cases f with
          | tup h g => exact ⟨_, _, rfl, h, g⟩
        have hl := fa.len
        refine ⟨.ref a, rfl, a, xs, rfl, .inr (.inl (.inl ha)), rfl, _, rfl, ite2 (fun e2 => ?_) (fun e2 => ?_)⟩
        · have hq : isTabD (.tuple ds) = false := by
            match ds, hl with
            | [], _ => rfl
            | [_], _ => rfl
            | [a1, a2], hl =>
              rw [hl] at e2
              exact absurd e2 (by simp)
            | _ :: _ :: _ :: _, _ => rfl
          rw [hq] at q
          exact iteT (q H (Same.refl H))
        · have hl2 : ds.length = 2 := by
            have e3 : V.int ((xs.length : Nat) : Int) = V.int 2 := by simpa using e2
            have e4 : ((xs.length : Nat) : Int) = 2 := by injection e3
            omega
          match ds, hl2 with
          | [d1, d2], _ =>
            obtain ⟨x1, x2, rfl, f1, f2⟩ : ∃ x1 x2, xs = [x1, x2] ∧ Ft H x1 d1 ∧ Ft H x2 d2 := by
              cases fa with
              | cons g1 g =>
                cases g with
                | cons g2 g =>
                  cases g
                  exact ⟨_, _, rfl, g1, g2⟩
            refine ⟨.ref a, rfl, a, [x1, x2], 0, x1, rfl, rfl, .inl (.inl ha), rfl, x1, .ty "str", _, _, isSt d1, rfl, .ty _, ty_ft f1, kit_st d1, _, rfl, ite2 (fun e3 => ?_) (fun e3 => ?_)⟩
            · have hq : isTabD (.tuple [d1, d2]) = false := by
                cases d1 with
                | str ds => cases e3
                | _ => rfl
              rw [hq] at q
              exact q H (Same.refl H)
            · obtain ⟨z, rfl⟩ := st_open (d := d1) (by simpa using e3)
              cases f1
              exact ⟨a, x2, d2, z.cps.toList, rfl, rfl, rfl, by rw [show txS z.cps.toList = z from txS_of z], by rw [← str_tx]; exact ha, f2⟩
    obtain ⟨a, x2, d2, l, rfl, rfl, rfl, rfl, ha, f2⟩ := hM
    have s1 := hsh.memT _ (List.mem_cons_self ..)
    have s2 := hsh.memT d2 (by simp)
    have hsz : (⟨l.toArray⟩ : Str).length = l.length := by simp [Str.length]
    have hld : lenD (.str (txS l)) = l.length := by
      show l.toArray.toList.length = _
      simp
    have hqd : isTabD (.tuple [.str (txS l), d2]) = (isColL l && isRowsD l.length d2) := by
      show (isColD (.str (txS l)) && isRowsD (lenD (.str (txS l))) d2) = _
      rw [col_of_str, hld]
    rw [hqd] at q
    have badc : isColL l = false → ∀ H', Same H1 H' → Q (.bl false) H' := fun z H' s' => by
      rw [z, Bool.false_and] at q
      exact q H' s'
    refine ⟨.ref a, rfl, a, [tx l, x2], rfl, .inl (.inl ha), rfl, tx l, [x2], rfl, x2, [], rfl, rfl, ?_⟩
    -- how many letters, and rising
    refine ⟨fun σ H' => ∃ y4 : Option V, σ = [some (.ref a), some (tx l), some x2, none, y4, none] ∧ Same H1 H' ∧ 1 ≤ l.length ∧ l.length ≤ 6 ∧ risB l = true, ?_, fun σ2 H2 hM => ?_⟩
    · refine ⟨tx l, rfl, _, rfl, s1.len (Nat.le_refl _), 1, _, rfl, rfl, _, rfl, ?_⟩
      rw [hsz]
      refine ite2 (fun e2 => ?_) (fun e2 => ?_)
      · have h1 : 1 ≤ l.length := by
          have := of_decide_eq_true e2
          omega
        refine ⟨_, 6, rfl, rfl, _, rfl, ite2 (fun e3 => ?_) (fun e3 => ?_)⟩
        · refine iteT (badc ?_ _ (Same.refl H1))
          refine eq_false_of_ne_true fun z => ?_
          unfold isColL at z
          simp only [Bool.and_eq_true, decide_eq_true_eq] at z
          have : ¬ ((l.length : Nat) : Int) ≤ 6 := by simpa using e3
          omega
        · have h6 : l.length ≤ 6 := by
            have : ((l.length : Nat) : Int) ≤ 6 := by simpa using e3
            omega
          have hcs : (⟨l.toArray⟩ : Str).cps.size = l.length := by simp
          refine ⟨⟨_, rfl⟩, tx l, rfl, _, rfl, fun D nD => ?_⟩
          refine lc_it (walk_str (z := ⟨l.toArray⟩)) (fun i H' => Same H1 H' ∧ ∃ vs', H' D = some (.lst vs') ∧ FzA H' vs' (((l.take i).map fun c => (c, (0 : Int))).map eqD))
            ⟨Same.new (Same.refl H1) nD, [], upd_same, by rw [List.take_zero]; exact .nil⟩ (fun _ _ _ _ => trivial) (fun i x HA HB hi hP hY => ?_) (fun HB hP => ?_)
          · obtain ⟨sm, vs1, hD, fv⟩ := hP
            obtain ⟨rfl, c, hc, rfl⟩ := hY
            have hi2 : i < l.length := by
              rw [hcs] at hi
              exact hi
            have hci : l[i] = c := by
              have : l[i]? = some c := by simpa using hc
              exact (List.getElem?_eq_some_iff.mp this).2
            refine ⟨rfl, sg c, rfl, (by show 2 ≤ sizeLine; decide), fun tp ntp => ?_⟩
            have hDt := keep_new (o := .tup [sg c, .int 0]) hD ntp
            have ntD : tp ≠ D := (ne_of_none hD ntp).symm
            refine ⟨vs1, hDt, ?_, Same.mut (Same.new sm ntp) nD, vs1 ++ [.ref tp], upd_same, ?_⟩
            · have := fv.len
              rw [List.length_map, List.length_map, List.length_take] at this
              exact small1000 (by omega)
            · rw [List.take_succ_eq_append_getElem hi2, hci, List.map_append, List.map_append]
              have ftp : Fz (upd HB tp (.tup [sg c, .int 0])) (.ref tp) (eqD (c, 0)) := Fz.made ntp (.cons (.str _) (.cons (.int _) .nil))
              exact ((fv.kt (Kt.new ntp)).kt (Kt.lst hDt)).snoc (ftp.kt (Kt.lst hDt))
          · obtain ⟨sm, vs1, hD, fv⟩ := hP
            rw [hcs, List.take_of_length_le (Nat.le_refl _)] at fv
            obtain ⟨pas, rfl, hpas⟩ := pairs_of (K := K) fv
            refine ⟨D, pas, _, rfl, .inl (.inl hD), hpas, fun dd ndd => ?_⟩
            obtain ⟨ks, hks, hnd, hmem, hkl⟩ := merge_signs l
            refine ⟨dd, _, ks.map sS, rfl, .inl upd_same, hks, by rw [List.length_map]; omega, fun ys p hyp hys np => ?_⟩
            obtain ⟨k', rfl, hkp⟩ := perm_signs hyp
            have hst : k'.Pairwise (· < ·) := strict_of (sorted_signs k' hys) (hkp.nodup_iff.mpr hnd)
            have hm2 : ∀ c, c ∈ k' ↔ c ∈ l := fun c => hkp.mem_iff.trans (hmem c)
            refine ⟨_, p, k'.map sS, rfl, rfl, .inl (.inl (.inl upd_same)), ?_, tx l, rfl, rfl, _, rfl, ?_⟩
            · have e1 : (Str.ofString "").length = 0 := by decide +kernel
              rw [e1, Nat.mul_zero, Nat.add_zero, List.map_map]
              have e2 : ∀ k : List Nat, (k.map ((fun x : Str => x.length) ∘ sS)).sum = k.length := fun k => by
                induction k with
                | nil => rfl
                | cons a k ih =>
                  rw [List.map_cons, List.sum_cons, ih, List.length_cons]
                  show 1 + k.length = k.length + 1
                  omega
              rw [e2, hkp.length_eq]
              omega
            · have smE : Same H1 (upd (upd HB dd (.dK (mergeK [] ((l.map fun c => (c, (0 : Int))).map kvI)))) p (.lst ((k'.map sS).map V.str))) := Same.new (Same.new sm ndd) np
              rw [join_signs]
              have hiff : decide (V.str ⟨k'.toArray⟩ = tx l) = risB l := by
                rw [Bool.eq_iff_iff, decide_eq_true_eq, ← sorted_is hst hm2]
                exact ⟨fun z => tx_inj z, fun z => by rw [z]⟩
              show (if (!decide (V.str ⟨k'.toArray⟩ = tx l)) = true then _ else _)
              rw [hiff]
              refine ite2 (fun e4 => ?_) (fun e4 => ?_)
              · refine badc ?_ _ smE
                unfold isColL
                rw [show risB l = false by simpa using e4]
                simp
              · exact ⟨_, rfl, smE, h1, h6, by simpa using e4⟩
      · refine ⟨_, rfl, iteT (badc ?_ _ (Same.refl H1))⟩
        refine eq_false_of_ne_true fun z => ?_
        unfold isColL at z
        simp only [Bool.and_eq_true, decide_eq_true_eq] at z
        have : ¬ (1 : Int) ≤ ((l.length : Nat) : Int) := fun z => e2 (decide_eq_true z)
        omega
    obtain ⟨y4, rfl, sm2, hl1, hl6, hris⟩ := hM
    have hcol : isColL l = l.all fun c => decide (97 ≤ c) && decide (c ≤ 122) := by
      unfold isColL
      rw [decide_eq_true hl1, decide_eq_true hl6, hris]
      rfl
    rw [hcol] at q badc
    have hcs : (⟨l.toArray⟩ : Str).cps.size = l.length := by simp
    have ea : Str.ofString "a" = sS 97 := by decide +kernel
    have ez : Str.ofString "z" = sS 122 := by decide +kernel
    -- small letters
    refine ⟨tx l, rfl, _, rfl, fun D nD => ?_⟩
    refine lc_it (walk_str (z := ⟨l.toArray⟩)) (fun i H' => Same H2 H' ∧ H' D = some (.lst (((l.take i).filter fun c => !(decide (97 ≤ c) && decide (c ≤ 122))).map sg)))
      ⟨Same.new (Same.refl H2) nD, by rw [upd_same, List.take_zero]; rfl⟩ (fun _ _ _ _ => trivial) (fun i x HA HB hi hP hY => ?_) (fun HB hP => ?_)
    · obtain ⟨sm, hD⟩ := hP
      obtain ⟨rfl, c, hc, rfl⟩ := hY
      have hi2 : i < l.length := by
        rw [hcs] at hi
        exact hi
      have hci : l[i] = c := by
        have : l[i]? = some c := by simpa using hc
        exact (List.getElem?_eq_some_iff.mp this).2
      have hlen : (((l.take i).filter fun c => !(decide (97 ≤ c) && decide (c ≤ 122))).map sg).length < sizeLine := by
        rw [List.length_map]
        have h1 := List.length_filter_le (fun c => !(decide (97 ≤ c) && decide (c ≤ 122))) (l.take i)
        rw [List.length_take] at h1
        exact small1000 (by omega)
      have yes : (!(decide (97 ≤ c) && decide (c ≤ 122))) = true → Same H2 (upd HB D (.lst (((l.take i).filter fun c => !(decide (97 ≤ c) && decide (c ≤ 122))).map sg ++ [sg c]))) ∧ (upd HB D (.lst (((l.take i).filter fun c => !(decide (97 ≤ c) && decide (c ≤ 122))).map sg ++ [sg c]))) D = some (.lst (((l.take (i + 1)).filter fun c => !(decide (97 ≤ c) && decide (c ≤ 122))).map sg)) := fun hy => by
        refine ⟨Same.mut sm nD, ?_⟩
        rw [upd_same, List.take_succ_eq_append_getElem hi2, hci, List.filter_append, List.filter_cons, if_pos hy, List.filter_nil, List.map_append]
        rfl
      have no : ¬ (!(decide (97 ≤ c) && decide (c ≤ 122))) = true → Same H2 HB ∧ HB D = some (.lst (((l.take (i + 1)).filter fun c => !(decide (97 ≤ c) && decide (c ≤ 122))).map sg)) := fun hy => by
        refine ⟨sm, ?_⟩
        rw [hD, List.take_succ_eq_append_getElem hi2, hci, List.filter_append, List.filter_cons, if_neg hy, List.filter_nil, List.append_nil]
      refine ⟨rfl, sg c, rfl, Str.ofString "a", sS c, rfl, rfl, _, rfl, ?_⟩
      rw [ea, cps_le]
      refine ite2 (fun e5 => ?_) (fun e5 => ?_)
      · refine ⟨sS c, Str.ofString "z", rfl, rfl, ?_⟩
        rw [ez, cps_le]
        refine ⟨_, rfl, ite2 (fun e6 => ?_) (fun e6 => ?_)⟩
        · exact ⟨sg c, rfl, _, hD, hlen, yes (by rw [e5, Bool.true_and]; exact e6)⟩
        · exact no (by rw [e5, Bool.true_and]; exact e6)
      · refine ⟨_, rfl, iteT ⟨sg c, rfl, _, hD, hlen, yes (by rw [eq_false_of_ne_true e5]; rfl)⟩⟩
    · obtain ⟨sm3, hD⟩ := hP
      rw [hcs, List.take_of_length_le (Nat.le_refl _)] at hD
      refine ⟨(by show 0 ≤ sizeLine; decide), fun p np => ?_⟩
      have hp : (upd HB p (.lst [])) p = some (.lst []) := upd_same
      have hD2 := keep_new (o := .lst []) hD np
      have sm4 : Same H1 (upd HB p (.lst [])) := Same.new (Same.trans sm2 sm3) np
      generalize upd HB p (.lst []) = HC at hp hD2 sm4 ⊢
      generalize hfs : (l.filter fun c => !(decide (97 ≤ c) && decide (c ≤ 122))) = fs at hD2
      refine ⟨_, _, .lst (.inl (.inl hD2)) (dp_signs fs), .lst (.inl (.inl hp)) .nil, ?_, rfl, _, rfl, ?_⟩
      · refine shaped_of fun c hc => ?_
        rw [← hfs] at hc
        exact s1.codes c (List.mem_filter.mp hc).1
      rw [signs_nil]
      have hall : fs.isEmpty = l.all fun c => decide (97 ≤ c) && decide (c ≤ 122) := by
        rw [← hfs, Bool.eq_iff_iff, List.isEmpty_iff, List.filter_eq_nil_iff, List.all_eq_true]
        constructor
        · intro h c hc
          simpa using h c hc
        · intro h c hc
          simpa using h c hc
      rw [hall]
      refine ite2 (fun e5 => ?_) (fun e5 => ?_)
      · exact badc (by simpa using e5) _ sm4
      · rw [show (l.all fun c => decide (97 ≤ c) && decide (c ≤ 122)) = true by simpa using e5, Bool.true_and] at q
        have f2b := Ft.mono sm4 _ _ f2
        -- the rows
        refine ⟨fun σ H' => ∃ (b : Addr) (ys : List V) (rs : List PyData) (y4 : Option V), x2 = .ref b ∧ σ = [some (.ref a), some (tx l), some (.ref b), none, y4, none] ∧ H' = HC ∧ d2 = .tuple rs ∧ HC b = some (.tup ys) ∧ FtA HC ys rs ∧ rs.length ≤ 60, ?_, fun σ5 H5 hM => ?_⟩
        · refine ⟨x2, rfl, x2, .ty "tuple", _, _, isTp d2, rfl, .ty _, ty_ft f2b, kit_tp d2, _, rfl, ite2 (fun e6 => ?_) (fun e6 => ?_)⟩
          · have hq : isRowsD l.length d2 = false := by
              cases d2 with
              | tuple ds => cases e6
              | _ => rfl
            rw [hq] at q
            exact iteT (q _ sm4)
          · obtain ⟨rs, rfl⟩ := tp_open (d := d2) (by simpa using e6)
            obtain ⟨b, ys, rfl, hb, fb⟩ : ∃ (b : Addr) (ys : List V), x2 = .ref b ∧ HC b = some (.tup ys) ∧ FtA HC ys rs := by
              cases f2b with
              | tup h g => exact ⟨_, _, rfl, h, g⟩
            have hly := fb.len
            refine ⟨.ref b, rfl, b, ys, rfl, .inr (.inl (.inl hb)), _, 60, rfl, rfl, _, rfl, ite2 (fun e7 => ?_) (fun e7 => ?_)⟩
            · have hq : isRowsD l.length (.tuple rs) = false := by
                show (decide (rs.length ≤ 60) && rs.all (isRowD l.length)) = false
                rw [decide_eq_false (by have := of_decide_eq_true e7; omega), Bool.false_and]
              rw [hq] at q
              exact q _ sm4
            · have h60 : rs.length ≤ 60 := by
                have : ¬ (60 : Int) < ((ys.length : Nat) : Int) := fun z => e7 (decide_eq_true z)
                omega
              exact ⟨b, ys, rs, _, rfl, rfl, rfl, rfl, hb, fb, h60⟩
        obtain ⟨b, ys, rs, y5, rfl, rfl, rfl, rfl, hb, fb, h60⟩ := hM
        have hly := fb.len
        have hqr : isRowsD l.length (.tuple rs) = rs.all (isRowD l.length) := by
          show (decide (rs.length ≤ 60) && rs.all (isRowD l.length)) = _
          rw [decide_eq_true h60, Bool.true_and]
        rw [hqr] at q
        refine ⟨.ref b, rfl, b, rfl, ⟨_, .inl (.inl hb)⟩, for_it (walk_tup (xs := ys)) (fun i σ H' => (∃ y3 y4 y5 : Option V, σ = [some (.ref a), some (tx l), some (.ref b), y3, y4, y5]) ∧ Same H5 H' ∧ ∀ j, j < i → isRowD l.length (rs.getD j .none) = true)
          ⟨⟨_, _, _, rfl⟩, Same.refl H5, fun j hj => absurd hj (Nat.not_lt_zero _)⟩ (fun i σ H' _ hP => .inl (.inl (hP.2.1 _ _ hb))) (fun i x σ H6 H7 hi hP hY => ?_) (fun σ H6 hP => ?_)⟩
        · obtain ⟨⟨y3, y4, y6, rfl⟩, sm6, hok⟩ := hP
          obtain ⟨rfl, hx⟩ := hY
          obtain ⟨dd, hdd, fd0⟩ := fb.getV hx
          have fd := Ft.mono sm6 _ _ fd0
          have eg : rs.getD i .none = dd := by
            rw [List.getD_eq_getElem?_getD, hdd]
            rfl
          have hmem : dd ∈ rs := List.mem_of_getElem? hdd
          have bad : isRowD l.length dd = false → ∀ H', Same H7 H' → Q (.bl false) H' := fun z H' s' => by
            have h1 : rs.all (isRowD l.length) = false := by
              refine eq_false_of_ne_true fun z2 => ?_
              rw [List.all_eq_true.mp z2 dd hmem] at z
              cases z
            rw [h1] at q
            exact q H' (Same.trans sm4 (Same.trans sm6 s'))
          refine ⟨fun σ H' => ∃ (ra : Addr) (us : List V) (ns : List PyData), x = .ref ra ∧ σ = [some (.ref a), some (tx l), some (.ref b), some (.ref ra), y4, y6] ∧ H' = H7 ∧ dd = .tuple ns ∧ H7 ra = some (.tup us) ∧ FtA H7 us ns ∧ ns.length = l.length, ?_, fun σ8 H8 hM => ?_⟩
          · refine ⟨x, rfl, x, .ty "tuple", _, _, isTp dd, rfl, .ty _, ty_ft fd, kit_tp dd, _, rfl, ite2 (fun e6 => ?_) (fun e6 => ?_)⟩
            · refine iteT (bad ?_ _ (Same.refl _))
              cases dd with
              | tuple ds => cases e6
              | _ => rfl
            · obtain ⟨ns, rfl⟩ := tp_open (d := dd) (by simpa using e6)
              obtain ⟨ra, us, rfl, hra, fu⟩ : ∃ (ra : Addr) (us : List V), x = .ref ra ∧ H7 ra = some (.tup us) ∧ FtA H7 us ns := by
                cases fd with
                | tup h g => exact ⟨_, _, rfl, h, g⟩
              have hlu := fu.len
              refine ⟨.ref ra, rfl, ra, us, rfl, .inr (.inl (.inl hra)), tx l, rfl, _, rfl, Nat.le_of_lt (small1000 (show l.length ≤ 1000 by omega)), rfl, _, rfl, ?_⟩
              rw [hsz]
              refine ite2 (fun e7 => ?_) (fun e7 => ?_)
              · refine bad ?_ _ (Same.refl _)
                show (decide (ns.length = l.length) && ns.all isNumD) = false
                rw [decide_eq_false fun z => by
                  rw [hlu, z] at e7
                  exact absurd e7 (by simp), Bool.false_and]
              · have e8 : V.int ((us.length : Nat) : Int) = V.int ((l.length : Nat) : Int) := by simpa using e7
                have e9 : ((us.length : Nat) : Int) = ((l.length : Nat) : Int) := by injection e8
                exact ⟨ra, us, ns, rfl, rfl, rfl, rfl, hra, fu, by omega⟩
          obtain ⟨ra, us, ns, rfl, rfl, rfl, rfl, hra, fu, hnl⟩ := hM
          have hlu := fu.len
          have hrow : isRowD l.length (.tuple ns) = ns.all isNumD := by
            show (decide (ns.length = l.length) && ns.all isNumD) = _
            rw [decide_eq_true hnl, Bool.true_and]
          refine ⟨.ref ra, rfl, ra, rfl, ⟨_, .inl (.inl hra)⟩, fun D2 nD2 => lc_it (walk_tup (xs := us)) (fun i H' => Same H8 H' ∧ H' D2 = some (.lst (((ns.take i).map isNumD).map V.bl)))
            ⟨Same.new (Same.refl H8) nD2, upd_same⟩ (fun i H' _ hP => .inl (.inl (hP.1 _ _ hra))) (fun i x H9 HX hi hP hY => ?_) (fun H9 hP => ?_)⟩
          · obtain ⟨sm9, hD9⟩ := hP
            obtain ⟨rfl, hx9⟩ := hY
            obtain ⟨d9, hd9, f9⟩ := fu.getV hx9
            have hi9 : i < ns.length := (List.getElem?_eq_some_iff.mp hd9).1
            have e9 : ns[i] = d9 := (List.getElem?_eq_some_iff.mp hd9).2
            refine ⟨rfl, x, rfl, x, d9, rfl, Ft.mono sm9 _ _ f9, _, hD9, ?_, Same.mut sm9 nD2, ?_⟩
            · rw [List.length_map, List.length_map, List.length_take]
              exact small1000 (by omega)
            · rw [upd_same, List.take_succ_eq_append_getElem hi9, e9, List.map_append, List.map_append]
              rfl
          · obtain ⟨sm9, hD9⟩ := hP
            rw [hlu, List.take_of_length_le (Nat.le_refl _)] at hD9
            refine ⟨D2, _, rfl, .inl (.inl (.inl hD9)), rfl, ?_, _, rfl, ?_⟩
            · rw [List.all_eq_true]
              intro x hx
              obtain ⟨o, _, rfl⟩ := List.mem_map.mp hx
              rfl
            show (if (if false = true then !inV (.bl false) ((ns.map isNumD).map V.bl) else inV (.bl false) ((ns.map isNumD).map V.bl)) = true then _ else _)
            rw [if_neg Bool.false_ne_true, inV_no]
            have hid : (ns.map isNumD).all id = ns.all isNumD := by
              rw [List.all_map]
              rfl
            rw [hid]
            refine ite2 (fun e7 => ?_) (fun e7 => ?_)
            · exact bad (by rw [hrow]; simpa using e7) _ sm9
            · refine ⟨⟨_, _, _, rfl⟩, Same.trans sm6 sm9, fun j hj => ?_⟩
              by_cases z : j = i
              · rw [z, eg, hrow]
                simpa using e7
              · exact hok j (by omega)
        · obtain ⟨⟨y3, y4, y6, rfl⟩, sm6, hok⟩ := hP
          have hq2 : rs.all (isRowD l.length) = true := by
            rw [List.all_eq_true]
            intro x hx
            obtain ⟨i, hi, rfl⟩ := List.getElem_of_mem hx
            have := hok i (by omega)
            rw [List.getD_eq_getElem?_getD, List.getElem?_eq_getElem hi] at this
            exact this
          rw [hq2] at q
          exact q _ (Same.trans sm4 sm6)

def spBent (K : PySem.W.Frag) : Sp := fun vs H Q _ => ∃ (L : List Addr) (r : Addr) (n : Int) (cols : List Nat) (ta ra : Addr) (rs : List V), vs = [.ref r, .ref ta] ∧ H r = some (.lst [.int n]) ∧ r ∈ L ∧ (∀ b ∈ L, H b ≠ none) ∧ 1 ≤ cols.length ∧ cols.length ≤ 6 ∧ (∀ c ∈ cols, c < 128) ∧ ta ∉ L ∧ ra ∉ L ∧ H ta = some (.tup [tx cols, .ref ra]) ∧ H ra = some (.tup rs) ∧ rs.length ≤ 60 ∧ (∀ v ∈ rs, RowAt L H cols.length v) ∧
  ∀ (v : V) (n' : Int) (H' : Hp), Kp r H H' → H' r = some (.lst [.int n']) → Th L H' 10 90000 v → Q v H'

/-! ### _law_bent -/
set_option maxHeartbeats 16000000 in
theorem ok_bent (T : Tx K mg Z) : FnOk P w K mg base CX0 2 Z.f_l_bent Z.d_l_bent ["reel", "table"] (spBent K) := by
  have G_l_pick : FnOk P w K mg base CX0 1 Z.f_l_pick Z.d_l_pick ["reel", "many"] (spPick K) := ok_pick T
  refine T.F_l_bent.ok sc_l_bent (fun vs H Q E h => ?_) (fun cdv A outer s H vs Q E hr h => ?_)
  · obtain ⟨L, r, n, cols, ta, ra, rs, rfl, _⟩ := h
    rfl
  · obtain ⟨L, r, n, cols, ta, ra, rs, rfl, hR, hrL, hl, hc1, hc2, hcc, nLta, nLra, hota, hora, hrl, hrows, q⟩ := h
    refine ⟨_, (pss_cons (ps_asg (pv 1) (pgT K (n := 2) (pgs_cons (pg_name (i := 2) sc_l_bent.nd rfl (.inl rfl)) (pgs_cons (pg_name (i := 3) sc_l_bent.nd rfl (.inl rfl)) pgs_nil))))
      (pss_cons (ps_set (i := 4) sc_l_bent.nd rfl (.inl rfl) (pe_call G_l_pick (hr.mono (by omega)) (by rfl) T.g_l_pick T.F_l_pick.kp T.b_l_pick .nil pass0 (pa_cons (pv 0) (pa_cons pe_int pa_nil))))
      (pss_cons (ps_set (i := 5) sc_l_bent.nd rfl (.inl rfl) (pe_ix (ixL K) (pe_lst (pa_cons (pe_un un_neg pe_int) (pa_cons pe_int (pa_cons pe_bl (pa_cons pe_str (pa_cons pe_non (pa_cons (pe_op op_pow pe_int pe_int) (pa_cons pe_int (pa_cons pe_int pa_nil))))))))) (pe_call G_l_pick (hr.mono (by omega)) (by rfl) T.g_l_pick T.F_l_pick.kp T.b_l_pick .nil pass0 (pa_cons (pv 0) (pa_cons pe_int pa_nil))) (fun _ _ => rfl)))
      (pss_mid (ps_if (PW.pt (pw_and (pt_cmpR op_lt (pv 4) pe_int (nomark _)) (pw_and1 (pt_cmpR (neDK K hr.units) (pv 3) (pe_tup pa_nil) (nomark _))))) (pss_cons (ps_set (i := 6) sc_l_bent.nd rfl (.inl rfl) (pe_call G_l_pick (hr.mono (by omega)) (by rfl) T.g_l_pick T.F_l_pick.kp T.b_l_pick .nil pass0 (pa_cons (pv 0) (pa_cons (pe_callB (cLenSq K) (by rfl) T.m_len (by decide +kernel) (pa_cons (pv 3) pa_nil)) pa_nil))))
      (pss_cons (ps_set (i := 7) sc_l_bent.nd rfl (.inl rfl) (pe_ix (ixT K) (pv 3) (pv 6) (fun _ _ => rfl)))
      (pss_cons (ps_set (i := 8) sc_l_bent.nd rfl (.inl rfl) (pe_call G_l_pick (hr.mono (by omega)) (by rfl) T.g_l_pick T.F_l_pick.kp T.b_l_pick .nil pass0 (pa_cons (pv 0) (pa_cons (pe_callB (cLenSq K) (by rfl) T.m_len (by decide +kernel) (pa_cons (pv 7) pa_nil)) pa_nil))))
      (pss_cons (ps_set (i := 9) sc_l_bent.nd rfl (.inl rfl) (pe_lst (pa_cons (pe_op (catWK K) (pe_op (catWK K) (pe_slice (slWK K) (pv 7) po_none (po_some (pv 8))) (pe_tup (pa_cons (pv 5) pa_nil))) (pe_slice (slWK K) (pv 7) (po_some (pe_op op_add (pv 8) pe_int)) po_none)) (pa_cons (pe_op (catWK K) (pv 7) (pe_tup (pa_cons (pv 5) pa_nil))) (pa_cons (pe_slice (slWK K) (pv 7) po_none (po_some (pe_un un_neg pe_int))) (pa_cons (pe_callTy (cListSq K) (by rfl) T.m_list (by decide +kernel) (pa_cons (pv 7) pa_nil)) (pa_cons pe_non (pa_cons (pe_op (catWK K) (pv 7) (pv 7)) pa_nil))))))))
      (pss_one (ps_ret (pe_tup (pa_cons (pv 2) (pa_cons (pe_op (catWK K) (pe_op (catWK K) (pe_slice (slWK K) (pv 3) po_none (po_some (pv 6))) (pe_tup (pa_cons (pe_ix (ixL K) (pv 9) (pv 4) (fun _ _ => rfl)) pa_nil))) (pe_slice (slWK K) (pv 3) (po_some (pe_op op_add (pv 6) pe_int)) po_none)) pa_nil))))))))) pss_nil)
      (pss_cons (ps_set (i := 8) sc_l_bent.nd rfl (.inl rfl) (pe_call G_l_pick (hr.mono (by omega)) (by rfl) T.g_l_pick T.F_l_pick.kp T.b_l_pick .nil pass0 (pa_cons (pv 0) (pa_cons (pe_callB call_len_str (by rfl) T.m_len (by decide +kernel) (pa_cons (pv 2) pa_nil)) pa_nil))))
      (pss_cons (ps_set (i := 10) sc_l_bent.nd rfl (.inl rfl) (pe_lst (pa_cons (pe_revS (pv 2)) (pa_cons (pe_op op_add_str (pv 2) (pe_slice sl_str (pv 2) po_none (po_some pe_int))) (pa_cons (pe_op op_add_str (pe_op op_add_str (pe_slice sl_str (pv 2) po_none (po_some (pv 8))) pe_str) (pe_slice sl_str (pv 2) (po_some (pe_op op_add (pv 8) pe_int)) po_none)) (pa_cons pe_str (pa_cons pe_non (pa_cons (pe_callTy call_list_txt (by rfl) T.m_list (by decide +kernel) (pa_cons (pv 2) pa_nil)) pa_nil))))))))
      (pss_cons (ps_set (i := 10) sc_l_bent.nd rfl (.inl rfl) (pe_op op_cat (pv 10) (pe_lst (pa_cons (pe_op op_add_str (pe_op op_add_str (pe_slice sl_str (pv 2) po_none (po_some (pv 8))) pe_str) (pe_slice sl_str (pv 2) (po_some (pe_op op_add (pv 8) pe_int)) po_none)) (pa_cons (pe_op op_add_str (pv 2) pe_str) (pa_cons pe_str (pa_cons pe_int pa_nil)))))))
      (pss_cons (ps_if (pt_cmpR op_lt (pv 4) pe_int (nomark _)) (pss_one (ps_ret (pe_tup (pa_cons (pe_ix (ixL K) (pv 10) (pe_op op_sub (pv 4) pe_int) (fun _ _ => rfl)) (pa_cons (pv 3) pa_nil))))) pss_nil)
      (pss_one (ps_ret (pe_ix (ixL K) (pe_lst (pa_cons (pe_op (catWK K) (pv 1) (pe_tup (pa_cons pe_int pa_nil))) (pa_cons (pe_callTy (cListSq K) (by rfl) T.m_list (by decide +kernel) (pa_cons (pv 1) pa_nil)) (pa_cons (pe_tup (pa_cons (pv 2) pa_nil)) (pa_cons (pe_tup (pa_cons (pv 2) (pa_cons (pe_callTy (cListSq K) (by rfl) T.m_list (by decide +kernel) (pa_cons (pv 3) pa_nil)) pa_nil))) (pa_cons (pe_tup (pa_cons (pv 2) (pa_cons pe_non pa_nil))) pa_nil)))))) (pe_call G_l_pick (hr.mono (by omega)) (by rfl) T.g_l_pick T.F_l_pick.kp T.b_l_pick .nil pass0 (pa_cons (pv 0) (pa_cons pe_int pa_nil))) (fun _ _ => rfl)))))))))))), ?_⟩
    have hc9 : ∀ c ∈ cols, c < 1000 := fun c h => by
      have := hcc c h
      omega
    have ecl : (⟨cols.toArray⟩ : Str).length = cols.length := by simp [Str.length]
    have hcz : (⟨cols.toArray⟩ : Str).length ≤ sizeLine := by
      rw [ecl]
      exact Nat.le_of_lt (small1000 (by omega))
    have lz2 : ∀ l k : List Nat, l.length + k.length ≤ 100 → (⟨l.toArray⟩ : Str).length + (⟨k.toArray⟩ : Str).length ≤ sizeLine := fun l k h => by
      have e : (⟨l.toArray⟩ : Str).length = l.length := by simp [Str.length]
      have e2 : (⟨k.toArray⟩ : Str).length = k.length := by simp [Str.length]
      rw [e, e2]
      exact Nat.le_of_lt (small1000 (by omega))
    have htk : ∀ k, (cols.take k).length ≤ 6 := fun k => Nat.le_trans (List.length_take_le' k cols) hc2
    have hdk : ∀ k, (cols.drop k).length ≤ 6 := fun k => by
      rw [List.length_drop]
      omega
    have hthr : ∀ v ∈ rs, Th L H 2 900 v := fun v hv => (hrows v hv).th hc2
    refine ⟨.ref ta, rfl, ta, [tx cols, .ref ra], rfl, .inl (.inl hota), rfl, tx cols, [.ref ra], rfl, .ref ra, [], rfl, rfl, ?_⟩
    refine ⟨.ref r, rfl, r, n, 18, rfl, hR, by decide, by decide, fun dG1 nG2 dG1_0 dG1_1 => ?_⟩
    have ksG1 : Kp r H (upd H r (.lst [.int nG2])) := Kp.own Kp.rfl'
    have hRG1 : (upd H r (.lst [.int nG2])) r = some (.lst [.int nG2]) := upd_same
    have hlG1 : ∀ b ∈ L, (upd H r (.lst [.int nG2])) b ≠ none := new_all hl
    generalize upd H r (.lst [.int nG2]) = G1 at ksG1 hRG1 hlG1 ⊢
    refine ⟨1, rfl, 10, 40, rfl, rfl, ⟨by decide, by decide, by decide⟩, (by show 8 ≤ sizeLine; decide), fun pG3 npG3 => ?_⟩
    have nLpG3 : pG3 ∉ L := fun z => hlG1 pG3 z npG3
    have ksG2 : Kp r G1 (upd G1 pG3 (.lst [.int (-1), .int 1000, .bl true, .str (Str.ofString "1"), .non, .int ((10 : Int) ^ (40 : Int).toNat), .int 999, .int 0])) := Kp.new Kp.rfl' npG3
    have hRG2 : (upd G1 pG3 (.lst [.int (-1), .int 1000, .bl true, .str (Str.ofString "1"), .non, .int ((10 : Int) ^ (40 : Int).toNat), .int 999, .int 0])) r = some (.lst [.int nG2]) := keep_new hRG1 npG3
    have hlG2 : ∀ b ∈ L, (upd G1 pG3 (.lst [.int (-1), .int 1000, .bl true, .str (Str.ofString "1"), .non, .int ((10 : Int) ^ (40 : Int).toNat), .int 999, .int 0])) b ≠ none := new_all hlG1
    have hopG3 : (upd G1 pG3 (.lst [.int (-1), .int 1000, .bl true, .str (Str.ofString "1"), .non, .int ((10 : Int) ^ (40 : Int).toNat), .int 999, .int 0])) pG3 = some (.lst [.int (-1), .int 1000, .bl true, .str (Str.ofString "1"), .non, .int ((10 : Int) ^ (40 : Int).toNat), .int 999, .int 0]) := upd_same
    generalize upd G1 pG3 (.lst [.int (-1), .int 1000, .bl true, .str (Str.ofString "1"), .non, .int ((10 : Int) ^ (40 : Int).toNat), .int 999, .int 0]) = G2 at ksG2 hRG2 hlG2 hopG3 ⊢
    refine ⟨.ref r, rfl, r, nG2, 8, rfl, hRG2, by decide, by decide, fun dG4 nG5 dG4_0 dG4_1 => ?_⟩
    have ksG3 : Kp r G2 (upd G2 r (.lst [.int nG5])) := Kp.own Kp.rfl'
    have hRG3 : (upd G2 r (.lst [.int nG5])) r = some (.lst [.int nG5]) := upd_same
    have hlG3 : ∀ b ∈ L, (upd G2 r (.lst [.int nG5])) b ≠ none := new_all hlG2
    generalize upd G2 r (.lst [.int nG5]) = G3 at ksG3 hRG3 hlG3 ⊢
    obtain ⟨nv, atnv, thnv⟩ := Th.at (L := L) (H := G3) (n := 1) (m := 133) (vs := [.int (-1), .int 1000, .bl true, .str (Str.ofString "1"), .non, .int ((10 : Int) ^ (40 : Int).toNat), .int 999, .int 0]) (allC (Th.intM (by decide) (by decide)) (allC (Th.intM (by decide) (by decide)) (allC (Th.bl true) (allC (Th.tx (l := [49]) (by decide) (by decide)) (allC (Th.non) (allC (Th.intM (by decide) (by decide)) (allC (Th.intM (by decide) (by decide)) (allC (Th.intM (by decide) (by decide)) all0)))))))) dG4_0 (show dG4 < ((8 : Nat) : Int) from dG4_1)
    refine ⟨pG3, _, dG4, nv, rfl, rfl, .inl (.inl ((ksG3) _ _ (ne_in nLpG3 hrL) hopG3)), atnv, ?_⟩
    refine ⟨fun σ H' => σ = [some (.ref r), some (.ref ta), some (tx cols), some (.ref ra), some (.int dG1), some nv, none, none, none, none, none] ∧ Kp r G3 H' ∧ H' r = some (.lst [.int nG5]) ∧ ∀ b ∈ L, H' b ≠ none, ?_, fun σ5 H5 hM => ?_⟩
    · refine ⟨.int dG1, rfl, _, 6, rfl, rfl, _, rfl, ite2 (fun e1 => ?_) (fun e1 => ?_)⟩
      · have hw6 : dG1 < 6 := of_decide_eq_true e1
        refine ⟨.ref ra, rfl, (by show 0 ≤ sizeLine; decide), fun pG6 npG6 => ?_⟩
        have nLpG6 : pG6 ∉ L := fun z => hlG3 pG6 z npG6
        have ksG4 : Kp r G3 (upd G3 pG6 (.tup [])) := Kp.new Kp.rfl' npG6
        have hRG4 : (upd G3 pG6 (.tup [])) r = some (.lst [.int nG5]) := keep_new hRG3 npG6
        have hlG4 : ∀ b ∈ L, (upd G3 pG6 (.tup [])) b ≠ none := new_all hlG3
        have hopG6 : (upd G3 pG6 (.tup [])) pG6 = some (.tup []) := upd_same
        generalize upd G3 pG6 (.tup []) = G4 at ksG4 hRG4 hlG4 hopG6 ⊢
        obtain ⟨ds, fds, sds, wds⟩ := th_all (L := L) (H := G4) (fun v hv => (hthr v hv).kp ((((ksG1).trans ksG2).trans ksG3).trans ksG4) hrL)
        have hdl := FtA.len fds
        refine ⟨.tuple ds, .tuple [], Ft.dp _ _ (Fl.tup nLra (((((ksG1).trans ksG2).trans ksG3).trans ksG4) _ _ (ne_in nLra hrL) hora) fds).to, .tup (.inl (.inl hopG6)) .nil, shaped_sh (Sh.tup sds) (by decide), rfl, _, rfl, ?_⟩
        rw [eqv_nil_tup]
        refine ite2 (fun e2 => ?_) (fun e2 => ?_)
        · have hpos : 0 < rs.length := by
            cases ds with
            | nil => cases e2
            | cons x y =>
              rw [hdl]
              exact Nat.succ_pos _
          refine ⟨.ref r, rfl, .ref ra, rfl, ra, rs, rfl, .inr (.inl (.inl (((((ksG1).trans ksG2).trans ksG3).trans ksG4) _ _ (ne_in nLra hrL) hora))), r, nG5, _, rfl, hRG4, by omega, by omega, fun dG7 nG8 dG7_0 dG7_1 => ?_⟩
          have ksG5 : Kp r G4 (upd G4 r (.lst [.int nG8])) := Kp.own Kp.rfl'
          have hRG5 : (upd G4 r (.lst [.int nG8])) r = some (.lst [.int nG8]) := upd_same
          have hlG5 : ∀ b ∈ L, (upd G4 r (.lst [.int nG8])) b ≠ none := new_all hlG4
          generalize upd G4 r (.lst [.int nG8]) = G5 at ksG5 hRG5 hlG5 ⊢
          obtain ⟨rowv, hrv, atrv⟩ := at_mem (vs := rs) dG7_0 dG7_1
          obtain ⟨rp, ns, rfl, nLrp, horp, hnl, hnb⟩ := hrows rowv hrv
          refine ⟨.ref ra, rfl, .int dG7, rfl, ra, rs, _, .ref rp, rfl, rfl, .inl (.inl ((((((ksG1).trans ksG2).trans ksG3).trans ksG4).trans ksG5) _ _ (ne_in nLra hrL) hora)), atrv, ?_⟩
          have hnm : (ns.map V.int).length = cols.length := by rw [List.length_map, hnl]
          refine ⟨.ref r, rfl, .ref rp, rfl, rp, ns.map V.int, rfl, .inr (.inl (.inl ((((((ksG1).trans ksG2).trans ksG3).trans ksG4).trans ksG5) _ _ (ne_in nLrp hrL) horp))), r, nG8, _, rfl, hRG5, by rw [hnm]; omega, by rw [hnm]; omega, fun dG9 nG10 dG9_0 dG9_1 => ?_⟩
          have ksG6 : Kp r G5 (upd G5 r (.lst [.int nG10])) := Kp.own Kp.rfl'
          have hRG6 : (upd G5 r (.lst [.int nG10])) r = some (.lst [.int nG10]) := upd_same
          have hlG6 : ∀ b ∈ L, (upd G5 r (.lst [.int nG10])) b ≠ none := new_all hlG5
          generalize upd G5 r (.lst [.int nG10]) = G6 at ksG6 hRG6 hlG6 ⊢
          obtain ⟨pm, epm⟩ : ∃ m : Nat, dG9 = (m : Int) := ⟨dG9.toNat, by omega⟩
          obtain ⟨am, eam⟩ : ∃ m : Nat, dG7 = (m : Int) := ⟨dG7.toNat, by omega⟩
          subst epm
          subst eam
          refine ⟨.ref rp, rfl, .int pm, rfl, _, rfl, rp, _, rfl, ((((((ksG1).trans ksG2).trans ksG3).trans ksG4).trans ksG5).trans ksG6) _ _ (ne_in nLrp hrL) horp, fun s1 HSs1 sms1 nns1 hhs1 => ?_⟩
          rw [cut_to] at hhs1
          have nLs1 : s1 ∉ L := fun z => by
            rcases nns1 with y | y
            · exact hlG6 s1 z y
            · exact nLrp (y ▸ z)
          have ksG7 : Kp r G6 HSs1 := fun b o _ h => sms1 b o h
          have hRG7 : HSs1 r = some (.lst [.int nG10]) := sms1 _ _ hRG6
          have hlG7 : ∀ b ∈ L, HSs1 b ≠ none := same_all hlG6 sms1
          obtain ⟨G7, rfl⟩ : ∃ G, G = HSs1 := ⟨_, rfl⟩
          have hos1 := hhs1
          refine ⟨nv, rfl, (by show 1 ≤ sizeLine; decide), fun pG11 npG11 => ?_⟩
          have nLpG11 : pG11 ∉ L := fun z => hlG7 pG11 z npG11
          have ksG8 : Kp r G7 (upd G7 pG11 (.tup [nv])) := Kp.new Kp.rfl' npG11
          have hRG8 : (upd G7 pG11 (.tup [nv])) r = some (.lst [.int nG10]) := keep_new hRG7 npG11
          have hlG8 : ∀ b ∈ L, (upd G7 pG11 (.tup [nv])) b ≠ none := new_all hlG7
          have hopG11 : (upd G7 pG11 (.tup [nv])) pG11 = some (.tup [nv]) := upd_same
          generalize upd G7 pG11 (.tup [nv]) = G8 at ksG8 hRG8 hlG8 hopG11 ⊢
          refine ⟨s1, pG11, (ns.map V.int).take pm, [nv], rfl, rfl, (ksG8) _ _ (ne_in nLs1 hrL) hos1, hopG11, ?_, fun s2 HSs2 sms2 nns2 hhs2 => ?_⟩
          · have h1 := List.length_take_le' pm (ns.map V.int)
            exact Nat.le_of_lt (small1000 (show ((ns.map V.int).take pm).length + 1 ≤ 1000 by omega))
          have nLs2 : s2 ∉ L := fun z => by
            rcases nns2 with y | y | y
            · exact hlG8 s2 z y
            · exact nLs1 (y ▸ z)
            · exact nLpG11 (y ▸ z)
          have ksG9 : Kp r G8 HSs2 := fun b o _ h => sms2 b o h
          have hRG9 : HSs2 r = some (.lst [.int nG10]) := sms2 _ _ hRG8
          have hlG9 : ∀ b ∈ L, HSs2 b ≠ none := same_all hlG8 sms2
          obtain ⟨G9, rfl⟩ : ∃ G, G = HSs2 := ⟨_, rfl⟩
          have hos2 := hhs2
          have hcv : ∀ v ∈ cutV (ns.map V.int) (some ((pm : Int) + 1)) none, v ∈ ns.map V.int := fun v hv => by
            unfold cutV at hv
            exact List.mem_of_mem_drop (List.mem_of_mem_take hv)
          have hcl2 : (cutV (ns.map V.int) (some ((pm : Int) + 1)) none).length ≤ (ns.map V.int).length - pm - 1 := by
            rw [show ((pm : Int) + 1) = ((pm + 1 : Nat) : Int) from rfl, cut_of _ _ (by omega), List.length_drop]
            omega
          refine ⟨.ref rp, rfl, .int pm, rfl, _, 1, rfl, rfl, _, rfl, rp, _, rfl, (((((((((ksG1).trans ksG2).trans ksG3).trans ksG4).trans ksG5).trans ksG6).trans ksG7).trans ksG8).trans ksG9) _ _ (ne_in nLrp hrL) horp, fun s3 HSs3 sms3 nns3 hhs3 => ?_⟩
          have nLs3 : s3 ∉ L := fun z => by
            rcases nns3 with y | y
            · exact hlG9 s3 z y
            · exact nLrp (y ▸ z)
          have ksG10 : Kp r G9 HSs3 := fun b o _ h => sms3 b o h
          have hRG10 : HSs3 r = some (.lst [.int nG10]) := sms3 _ _ hRG9
          have hlG10 : ∀ b ∈ L, HSs3 b ≠ none := same_all hlG9 sms3
          obtain ⟨G10, rfl⟩ : ∃ G, G = HSs3 := ⟨_, rfl⟩
          have hos3 := hhs3
          generalize cutV (ns.map V.int) (some ((pm : Int) + 1)) none = cs at hcv hcl2 hos3
          refine ⟨s2, s3, (ns.map V.int).take pm ++ [nv], cs, rfl, rfl, (ksG10) _ _ (ne_in nLs2 hrL) hos2, hos3, ?_, fun s4 HSs4 sms4 nns4 hhs4 => ?_⟩
          · have h1 := List.length_take_le' pm (ns.map V.int)
            rw [List.length_append]
            exact Nat.le_of_lt (small1000 (show ((ns.map V.int).take pm).length + 1 + cs.length ≤ 1000 by omega))
          have nLs4 : s4 ∉ L := fun z => by
            rcases nns4 with y | y | y
            · exact hlG10 s4 z y
            · exact nLs2 (y ▸ z)
            · exact nLs3 (y ▸ z)
          have ksG11 : Kp r G10 HSs4 := fun b o _ h => sms4 b o h
          have hRG11 : HSs4 r = some (.lst [.int nG10]) := sms4 _ _ hRG10
          have hlG11 : ∀ b ∈ L, HSs4 b ≠ none := same_all hlG10 sms4
          obtain ⟨G11, rfl⟩ : ∃ G, G = HSs4 := ⟨_, rfl⟩
          have hos4 := hhs4
          have hl4 : ((ns.map V.int).take pm ++ [nv] ++ cs).length ≤ 6 := by
            have h1 := @List.length_take V pm (ns.map V.int)
            rw [List.length_append, List.length_append]
            have h2 : [nv].length = 1 := rfl
            omega
          have ths4 : Th L G11 2 938 (.ref s4) := (Th.tup nLs4 hos4 (n := 1) (m := 133) (allApp (allApp (fun v hv => th_nums hnb (by decide) v (List.mem_of_mem_take hv)) (all1 (thnv.kp ((((((((ksG4).trans ksG5).trans ksG6).trans ksG7).trans ksG8).trans ksG9).trans ksG10).trans ksG11) hrL))) (fun v hv => th_nums hnb (by decide) v (hcv v hv)))).mono (by decide) (by omega)
          refine ⟨.ref rp, rfl, nv, rfl, (by show 1 ≤ sizeLine; decide), fun pG12 npG12 => ?_⟩
          have nLpG12 : pG12 ∉ L := fun z => hlG11 pG12 z npG12
          have ksG12 : Kp r G11 (upd G11 pG12 (.tup [nv])) := Kp.new Kp.rfl' npG12
          have hRG12 : (upd G11 pG12 (.tup [nv])) r = some (.lst [.int nG10]) := keep_new hRG11 npG12
          have hlG12 : ∀ b ∈ L, (upd G11 pG12 (.tup [nv])) b ≠ none := new_all hlG11
          have hopG12 : (upd G11 pG12 (.tup [nv])) pG12 = some (.tup [nv]) := upd_same
          generalize upd G11 pG12 (.tup [nv]) = G12 at ksG12 hRG12 hlG12 hopG12 ⊢
          refine ⟨rp, pG12, ns.map V.int, [nv], rfl, rfl, ((((((((((((ksG1).trans ksG2).trans ksG3).trans ksG4).trans ksG5).trans ksG6).trans ksG7).trans ksG8).trans ksG9).trans ksG10).trans ksG11).trans ksG12) _ _ (ne_in nLrp hrL) horp, hopG12, ?_, fun s5 HSs5 sms5 nns5 hhs5 => ?_⟩
          · exact Nat.le_of_lt (small1000 (show (ns.map V.int).length + 1 ≤ 1000 by omega))
          have nLs5 : s5 ∉ L := fun z => by
            rcases nns5 with y | y | y
            · exact hlG12 s5 z y
            · exact nLrp (y ▸ z)
            · exact nLpG12 (y ▸ z)
          have ksG13 : Kp r G12 HSs5 := fun b o _ h => sms5 b o h
          have hRG13 : HSs5 r = some (.lst [.int nG10]) := sms5 _ _ hRG12
          have hlG13 : ∀ b ∈ L, HSs5 b ≠ none := same_all hlG12 sms5
          obtain ⟨G13, rfl⟩ : ∃ G, G = HSs5 := ⟨_, rfl⟩
          have hos5 := hhs5
          have ths5 : Th L G13 2 938 (.ref s5) := (Th.tup nLs5 hos5 (n := 1) (m := 133) (allApp (th_nums hnb (by decide)) (all1 (thnv.kp ((((((((((ksG4).trans ksG5).trans ksG6).trans ksG7).trans ksG8).trans ksG9).trans ksG10).trans ksG11).trans ksG12).trans ksG13) hrL)))).mono (by decide) (by rw [List.length_append]; show (133 + 1) * ((ns.map V.int).length + 1) ≤ 938; omega)
          refine ⟨.ref rp, rfl, 1, rfl, -1, rfl, rp, _, rfl, (((((((((((((ksG1).trans ksG2).trans ksG3).trans ksG4).trans ksG5).trans ksG6).trans ksG7).trans ksG8).trans ksG9).trans ksG10).trans ksG11).trans ksG12).trans ksG13) _ _ (ne_in nLrp hrL) horp, fun s6 HSs6 sms6 nns6 hhs6 => ?_⟩
          rw [cut_back] at hhs6
          have nLs6 : s6 ∉ L := fun z => by
            rcases nns6 with y | y
            · exact hlG13 s6 z y
            · exact nLrp (y ▸ z)
          have ksG14 : Kp r G13 HSs6 := fun b o _ h => sms6 b o h
          have hRG14 : HSs6 r = some (.lst [.int nG10]) := sms6 _ _ hRG13
          have hlG14 : ∀ b ∈ L, HSs6 b ≠ none := same_all hlG13 sms6
          obtain ⟨G14, rfl⟩ : ∃ G, G = HSs6 := ⟨_, rfl⟩
          have hos6 := hhs6
          have ths6 : Th L G14 2 938 (.ref s6) := (Th.tup nLs6 hos6 (n := 1) (m := 133) (fun v hv => th_nums hnb (by decide) v ((List.dropLast_sublist _).subset hv))).mono (by decide) (by rw [List.length_dropLast]; omega)
          refine ⟨.ref rp, rfl, rp, _, rfl, .inr (.inl (.inl (((((((((((((((ksG1).trans ksG2).trans ksG3).trans ksG4).trans ksG5).trans ksG6).trans ksG7).trans ksG8).trans ksG9).trans ksG10).trans ksG11).trans ksG12).trans ksG13).trans ksG14) _ _ (ne_in nLrp hrL) horp))), fun pG13 npG13 => ?_⟩
          have nLpG13 : pG13 ∉ L := fun z => hlG14 pG13 z npG13
          have ksG15 : Kp r G14 (upd G14 pG13 (.lst (ns.map V.int))) := Kp.new Kp.rfl' npG13
          have hRG15 : (upd G14 pG13 (.lst (ns.map V.int))) r = some (.lst [.int nG10]) := keep_new hRG14 npG13
          have hlG15 : ∀ b ∈ L, (upd G14 pG13 (.lst (ns.map V.int))) b ≠ none := new_all hlG14
          have hopG13 : (upd G14 pG13 (.lst (ns.map V.int))) pG13 = some (.lst (ns.map V.int)) := upd_same
          generalize upd G14 pG13 (.lst (ns.map V.int)) = G15 at ksG15 hRG15 hlG15 hopG13 ⊢
          have ths7 : Th L G15 2 938 (.ref pG13) := (Th.lst nLpG13 hopG13 (n := 1) (m := 133) (th_nums hnb (by decide))).mono (by decide) (by omega)
          refine ⟨.ref rp, rfl, .ref rp, rfl, ?_⟩
          refine ⟨rp, rp, ns.map V.int, ns.map V.int, rfl, rfl, (((((((((((((((ksG1).trans ksG2).trans ksG3).trans ksG4).trans ksG5).trans ksG6).trans ksG7).trans ksG8).trans ksG9).trans ksG10).trans ksG11).trans ksG12).trans ksG13).trans ksG14).trans ksG15) _ _ (ne_in nLrp hrL) horp, (((((((((((((((ksG1).trans ksG2).trans ksG3).trans ksG4).trans ksG5).trans ksG6).trans ksG7).trans ksG8).trans ksG9).trans ksG10).trans ksG11).trans ksG12).trans ksG13).trans ksG14).trans ksG15) _ _ (ne_in nLrp hrL) horp, ?_, fun s8 HSs8 sms8 nns8 hhs8 => ?_⟩
          · exact Nat.le_of_lt (small1000 (show (ns.map V.int).length + (ns.map V.int).length ≤ 1000 by omega))
          have nLs8 : s8 ∉ L := fun z => by
            rcases nns8 with y | y | y
            · exact hlG15 s8 z y
            · exact nLrp (y ▸ z)
            · exact nLrp (y ▸ z)
          have ksG16 : Kp r G15 HSs8 := fun b o _ h => sms8 b o h
          have hRG16 : HSs8 r = some (.lst [.int nG10]) := sms8 _ _ hRG15
          have hlG16 : ∀ b ∈ L, HSs8 b ≠ none := same_all hlG15 sms8
          obtain ⟨G16, rfl⟩ : ∃ G, G = HSs8 := ⟨_, rfl⟩
          have hos8 := hhs8
          have ths8 : Th L G16 2 938 (.ref s8) := (Th.tup nLs8 hos8 (n := 1) (m := 10) (allApp (th_nums hnb (by decide)) (th_nums hnb (by decide)))).mono (by decide) (by rw [List.length_append]; omega)
          refine ⟨(by show 6 ≤ sizeLine; decide), fun pG14 npG14 => ?_⟩
          have nLpG14 : pG14 ∉ L := fun z => hlG16 pG14 z npG14
          have ksG17 : Kp r G16 (upd G16 pG14 (.lst [.ref s4, .ref s5, .ref s6, .ref pG13, .non, .ref s8])) := Kp.new Kp.rfl' npG14
          have hRG17 : (upd G16 pG14 (.lst [.ref s4, .ref s5, .ref s6, .ref pG13, .non, .ref s8])) r = some (.lst [.int nG10]) := keep_new hRG16 npG14
          have hlG17 : ∀ b ∈ L, (upd G16 pG14 (.lst [.ref s4, .ref s5, .ref s6, .ref pG13, .non, .ref s8])) b ≠ none := new_all hlG16
          have hopG14 : (upd G16 pG14 (.lst [.ref s4, .ref s5, .ref s6, .ref pG13, .non, .ref s8])) pG14 = some (.lst [.ref s4, .ref s5, .ref s6, .ref pG13, .non, .ref s8]) := upd_same
          generalize upd G16 pG14 (.lst [.ref s4, .ref s5, .ref s6, .ref pG13, .non, .ref s8]) = G17 at ksG17 hRG17 hlG17 hopG14 ⊢
          refine ⟨tx cols, rfl, .ref ra, rfl, .int am, rfl, _, rfl, ra, rs, rfl, (((((((((((((((((ksG1).trans ksG2).trans ksG3).trans ksG4).trans ksG5).trans ksG6).trans ksG7).trans ksG8).trans ksG9).trans ksG10).trans ksG11).trans ksG12).trans ksG13).trans ksG14).trans ksG15).trans ksG16).trans ksG17) _ _ (ne_in nLra hrL) hora, fun t1 HSt1 smt1 nnt1 hht1 => ?_⟩
          rw [cut_to] at hht1
          have nLt1 : t1 ∉ L := fun z => by
            rcases nnt1 with y | y
            · exact hlG17 t1 z y
            · exact nLra (y ▸ z)
          have ksG18 : Kp r G17 HSt1 := fun b o _ h => smt1 b o h
          have hRG18 : HSt1 r = some (.lst [.int nG10]) := smt1 _ _ hRG17
          have hlG18 : ∀ b ∈ L, HSt1 b ≠ none := same_all hlG17 smt1
          obtain ⟨G18, rfl⟩ : ∃ G, G = HSt1 := ⟨_, rfl⟩
          have hot1 := hht1
          obtain ⟨mv, atmv, thmv⟩ := Th.at (L := L) (H := G18) (n := 2) (m := 938) (vs := [.ref s4, .ref s5, .ref s6, .ref pG13, .non, .ref s8]) (allC ((ths4.kp (((((((ksG12).trans ksG13).trans ksG14).trans ksG15).trans ksG16).trans ksG17).trans ksG18) hrL)) (allC ((ths5.kp (((((ksG14).trans ksG15).trans ksG16).trans ksG17).trans ksG18) hrL)) (allC ((ths6.kp ((((ksG15).trans ksG16).trans ksG17).trans ksG18) hrL)) (allC ((ths7.kp (((ksG16).trans ksG17).trans ksG18) hrL)) (allC (Th.non) (allC ((ths8.kp ((ksG17).trans ksG18) hrL)) all0)))))) dG1_0 (show dG1 < ((6 : Nat) : Int) from hw6)
          refine ⟨.ref pG14, rfl, .int dG1, rfl, pG14, _, dG1, mv, rfl, rfl, .inl (.inl ((ksG18) _ _ (ne_in nLpG14 hrL) hopG14)), atmv, (by show 1 ≤ sizeLine; decide), fun pG15 npG15 => ?_⟩
          have nLpG15 : pG15 ∉ L := fun z => hlG18 pG15 z npG15
          have ksG19 : Kp r G18 (upd G18 pG15 (.tup [mv])) := Kp.new Kp.rfl' npG15
          have hRG19 : (upd G18 pG15 (.tup [mv])) r = some (.lst [.int nG10]) := keep_new hRG18 npG15
          have hlG19 : ∀ b ∈ L, (upd G18 pG15 (.tup [mv])) b ≠ none := new_all hlG18
          have hopG15 : (upd G18 pG15 (.tup [mv])) pG15 = some (.tup [mv]) := upd_same
          generalize upd G18 pG15 (.tup [mv]) = G19 at ksG19 hRG19 hlG19 hopG15 ⊢
          refine ⟨t1, pG15, rs.take am, [mv], rfl, rfl, (ksG19) _ _ (ne_in nLt1 hrL) hot1, hopG15, ?_, fun t2 HSt2 smt2 nnt2 hht2 => ?_⟩
          · have h1 := List.length_take_le' am rs
            exact Nat.le_of_lt (small1000 (show (rs.take am).length + 1 ≤ 1000 by omega))
          have nLt2 : t2 ∉ L := fun z => by
            rcases nnt2 with y | y | y
            · exact hlG19 t2 z y
            · exact nLt1 (y ▸ z)
            · exact nLpG15 (y ▸ z)
          have ksG20 : Kp r G19 HSt2 := fun b o _ h => smt2 b o h
          have hRG20 : HSt2 r = some (.lst [.int nG10]) := smt2 _ _ hRG19
          have hlG20 : ∀ b ∈ L, HSt2 b ≠ none := same_all hlG19 smt2
          obtain ⟨G20, rfl⟩ : ∃ G, G = HSt2 := ⟨_, rfl⟩
          have hot2 := hht2
          have hcv2 : ∀ v ∈ cutV rs (some ((am : Int) + 1)) none, v ∈ rs := fun v hv => by
            unfold cutV at hv
            exact List.mem_of_mem_drop (List.mem_of_mem_take hv)
          have hcl3 : (cutV rs (some ((am : Int) + 1)) none).length ≤ rs.length - am - 1 := by
            rw [show ((am : Int) + 1) = ((am + 1 : Nat) : Int) from rfl, cut_of _ _ (by omega), List.length_drop]
            omega
          refine ⟨.ref ra, rfl, .int am, rfl, _, 1, rfl, rfl, _, rfl, ra, rs, rfl, ((((((((((((((((((((ksG1).trans ksG2).trans ksG3).trans ksG4).trans ksG5).trans ksG6).trans ksG7).trans ksG8).trans ksG9).trans ksG10).trans ksG11).trans ksG12).trans ksG13).trans ksG14).trans ksG15).trans ksG16).trans ksG17).trans ksG18).trans ksG19).trans ksG20) _ _ (ne_in nLra hrL) hora, fun t3 HSt3 smt3 nnt3 hht3 => ?_⟩
          have nLt3 : t3 ∉ L := fun z => by
            rcases nnt3 with y | y
            · exact hlG20 t3 z y
            · exact nLra (y ▸ z)
          have ksG21 : Kp r G20 HSt3 := fun b o _ h => smt3 b o h
          have hRG21 : HSt3 r = some (.lst [.int nG10]) := smt3 _ _ hRG20
          have hlG21 : ∀ b ∈ L, HSt3 b ≠ none := same_all hlG20 smt3
          obtain ⟨G21, rfl⟩ : ∃ G, G = HSt3 := ⟨_, rfl⟩
          have hot3 := hht3
          generalize cutV rs (some ((am : Int) + 1)) none = cs2 at hcv2 hcl3 hot3
          refine ⟨t2, t3, rs.take am ++ [mv], cs2, rfl, rfl, (ksG21) _ _ (ne_in nLt2 hrL) hot2, hot3, ?_, fun t4 HSt4 smt4 nnt4 hht4 => ?_⟩
          · have h1 := List.length_take_le' am rs
            rw [List.length_append]
            exact Nat.le_of_lt (small1000 (show (rs.take am).length + 1 + cs2.length ≤ 1000 by omega))
          have nLt4 : t4 ∉ L := fun z => by
            rcases nnt4 with y | y | y
            · exact hlG21 t4 z y
            · exact nLt2 (y ▸ z)
            · exact nLt3 (y ▸ z)
          have ksG22 : Kp r G21 HSt4 := fun b o _ h => smt4 b o h
          have hRG22 : HSt4 r = some (.lst [.int nG10]) := smt4 _ _ hRG21
          have hlG22 : ∀ b ∈ L, HSt4 b ≠ none := same_all hlG21 smt4
          obtain ⟨G22, rfl⟩ : ∃ G, G = HSt4 := ⟨_, rfl⟩
          have hot4 := hht4
          have hl5 : (rs.take am ++ [mv] ++ cs2).length ≤ 60 := by
            have h1 := @List.length_take V am rs
            rw [List.length_append, List.length_append]
            have h2 : [mv].length = 1 := rfl
            omega
          have tht4 : Th L G22 3 61000 (.ref t4) := (Th.tup nLt4 hot4 (n := 2) (m := 938) (allApp (allApp (fun v hv => (((hthr v (List.mem_of_mem_take hv)).kp ((((((((((((((((((((((ksG1).trans ksG2).trans ksG3).trans ksG4).trans ksG5).trans ksG6).trans ksG7).trans ksG8).trans ksG9).trans ksG10).trans ksG11).trans ksG12).trans ksG13).trans ksG14).trans ksG15).trans ksG16).trans ksG17).trans ksG18).trans ksG19).trans ksG20).trans ksG21).trans ksG22) hrL).mono (by decide) (by decide))) (all1 (thmv.kp ((((ksG19).trans ksG20).trans ksG21).trans ksG22) hrL))) (fun v hv => (((hthr v (hcv2 v hv)).kp ((((((((((((((((((((((ksG1).trans ksG2).trans ksG3).trans ksG4).trans ksG5).trans ksG6).trans ksG7).trans ksG8).trans ksG9).trans ksG10).trans ksG11).trans ksG12).trans ksG13).trans ksG14).trans ksG15).trans ksG16).trans ksG17).trans ksG18).trans ksG19).trans ksG20).trans ksG21).trans ksG22) hrL).mono (by decide) (by decide))))).mono (by decide) (by omega)
          refine ⟨(by show 2 ≤ sizeLine; decide), fun pG16 npG16 => ?_⟩
          have nLpG16 : pG16 ∉ L := fun z => hlG22 pG16 z npG16
          have ksG23 : Kp r G22 (upd G22 pG16 (.tup [tx cols, .ref t4])) := Kp.new Kp.rfl' npG16
          have hRG23 : (upd G22 pG16 (.tup [tx cols, .ref t4])) r = some (.lst [.int nG10]) := keep_new hRG22 npG16
          have hlG23 : ∀ b ∈ L, (upd G22 pG16 (.tup [tx cols, .ref t4])) b ≠ none := new_all hlG22
          have hopG16 : (upd G22 pG16 (.tup [tx cols, .ref t4])) pG16 = some (.tup [tx cols, .ref t4]) := upd_same
          generalize upd G22 pG16 (.tup [tx cols, .ref t4]) = G23 at ksG23 hRG23 hlG23 hopG16 ⊢
          exact q (.ref pG16) nG10 _ (((((((((((((((((((((((ksG1).trans ksG2).trans ksG3).trans ksG4).trans ksG5).trans ksG6).trans ksG7).trans ksG8).trans ksG9).trans ksG10).trans ksG11).trans ksG12).trans ksG13).trans ksG14).trans ksG15).trans ksG16).trans ksG17).trans ksG18).trans ksG19).trans ksG20).trans ksG21).trans ksG22).trans ksG23) hRG23 (pair_th2 nLpG16 hopG16 (Th.tx hc9 (by omega)) (tht4.kp (ksG23) hrL))
        · exact ⟨rfl, (ksG4), hRG4, hlG4⟩
      · exact ⟨rfl, Kp.rfl', hRG3, hlG3⟩
    obtain ⟨rfl, ks5, hR5, hl5⟩ := hM
    have ksG4 : Kp r G3 H5 := ks5
    obtain ⟨G4, rfl⟩ : ∃ G, G = H5 := ⟨_, rfl⟩
    refine ⟨.ref r, rfl, tx cols, rfl, _, rfl, hcz, r, nG5, _, rfl, hR5, by rw [ecl]; omega, by rw [ecl]; omega, fun dG6 nG7 dG6_0 dG6_1 => ?_⟩
    have ksG5 : Kp r G4 (upd G4 r (.lst [.int nG7])) := Kp.own Kp.rfl'
    have hRG5 : (upd G4 r (.lst [.int nG7])) r = some (.lst [.int nG7]) := upd_same
    have hlG5 : ∀ b ∈ L, (upd G4 r (.lst [.int nG7])) b ≠ none := new_all hl5
    generalize upd G4 r (.lst [.int nG7]) = G5 at ksG5 hRG5 hlG5 ⊢
    rw [ecl] at dG6_1
    obtain ⟨m, em⟩ : ∃ m : Nat, dG6 = (m : Int) := ⟨dG6.toNat, by omega⟩
    subst em
    refine ⟨tx cols, rfl, cols, rfl, hcz, ?_⟩
    refine ⟨tx cols, rfl, tx cols, rfl, 1, rfl, _, rfl, hcz, ?_⟩
    rw [show (1 : Int) = ((1 : Nat) : Int) from rfl, cut_take]
    refine ⟨⟨cols.toArray⟩, ⟨(cols.take 1).toArray⟩, rfl, rfl, lz2 _ _ (by have := htk 1; omega), ?_⟩
    rw [cat_tx cols (cols.take 1), show ((1 : Nat) : Int) = (1 : Int) from rfl]
    refine ⟨tx cols, rfl, .int m, rfl, _, rfl, _, rfl, hcz, ?_⟩
    rw [cut_take]
    refine ⟨⟨(cols.take m).toArray⟩, Str.ofString "A", rfl, rfl, ?_, ?_⟩
    · rw [show Str.ofString "A" = ⟨[65].toArray⟩ by decide +kernel]
      exact lz2 _ _ (by have := htk m; show (cols.take m).length + 1 ≤ 100; omega)
    rw [show Str.ofString "A" = ⟨[65].toArray⟩ by decide +kernel, cat_tx (cols.take m) [65]]
    refine ⟨tx cols, rfl, .int m, rfl, _, 1, rfl, rfl, _, rfl, _, rfl, hcz, ?_⟩
    rw [show ((m : Nat) : Int) + 1 = ((m + 1 : Nat) : Int) from rfl, cut_from cols (m + 1)]
    refine ⟨⟨(cols.take m ++ [65]).toArray⟩, ⟨(cols.drop (m + 1)).toArray⟩, rfl, rfl, lz2 _ _ (by rw [List.length_append]; have := htk m; have := hdk (m + 1); show (cols.take m).length + 1 + _ ≤ 100; omega), ?_⟩
    rw [cat_tx (cols.take m ++ [65]) (cols.drop (m + 1))]
    refine ⟨tx cols, rfl, _, rfl, hcz, fun pG8 npG8 => ?_⟩
    rw [show (⟨cols.toArray⟩ : Str).cps.toList = cols by simp]
    have nLpG8 : pG8 ∉ L := fun z => hlG5 pG8 z npG8
    have ksG6 : Kp r G5 (upd G5 pG8 (.lst (cols.map sg))) := Kp.new Kp.rfl' npG8
    have hRG6 : (upd G5 pG8 (.lst (cols.map sg))) r = some (.lst [.int nG7]) := keep_new hRG5 npG8
    have hlG6 : ∀ b ∈ L, (upd G5 pG8 (.lst (cols.map sg))) b ≠ none := new_all hlG5
    have hopG8 : (upd G5 pG8 (.lst (cols.map sg))) pG8 = some (.lst (cols.map sg)) := upd_same
    generalize upd G5 pG8 (.lst (cols.map sg)) = G6 at ksG6 hRG6 hlG6 hopG8 ⊢
    have tpG8 : Th L G6 2 1000 (.ref pG8) := (Th.lst nLpG8 hopG8 (n := 0) (m := 1) (fun v hv => by obtain ⟨c, hc, rfl⟩ := List.mem_map.mp hv; exact Th.tx (l := [c]) (all1 (hc9 c hc)) (Nat.le_refl 1))).mono (by decide) (by rw [List.length_map]; omega)
    refine ⟨(by show 6 ≤ sizeLine; decide), fun pG9 npG9 => ?_⟩
    have nLpG9 : pG9 ∉ L := fun z => hlG6 pG9 z npG9
    have ksG7 : Kp r G6 (upd G6 pG9 (.lst [tx cols.reverse, tx (cols ++ cols.take 1), tx (cols.take m ++ [65] ++ cols.drop (m + 1)), .str (Str.ofString ""), .non, .ref pG8])) := Kp.new Kp.rfl' npG9
    have hRG7 : (upd G6 pG9 (.lst [tx cols.reverse, tx (cols ++ cols.take 1), tx (cols.take m ++ [65] ++ cols.drop (m + 1)), .str (Str.ofString ""), .non, .ref pG8])) r = some (.lst [.int nG7]) := keep_new hRG6 npG9
    have hlG7 : ∀ b ∈ L, (upd G6 pG9 (.lst [tx cols.reverse, tx (cols ++ cols.take 1), tx (cols.take m ++ [65] ++ cols.drop (m + 1)), .str (Str.ofString ""), .non, .ref pG8])) b ≠ none := new_all hlG6
    have hopG9 : (upd G6 pG9 (.lst [tx cols.reverse, tx (cols ++ cols.take 1), tx (cols.take m ++ [65] ++ cols.drop (m + 1)), .str (Str.ofString ""), .non, .ref pG8])) pG9 = some (.lst [tx cols.reverse, tx (cols ++ cols.take 1), tx (cols.take m ++ [65] ++ cols.drop (m + 1)), .str (Str.ofString ""), .non, .ref pG8]) := upd_same
    generalize upd G6 pG9 (.lst [tx cols.reverse, tx (cols ++ cols.take 1), tx (cols.take m ++ [65] ++ cols.drop (m + 1)), .str (Str.ofString ""), .non, .ref pG8]) = G7 at ksG7 hRG7 hlG7 hopG9 ⊢
    refine ⟨.ref pG9, rfl, ?_⟩
    refine ⟨tx cols, rfl, .int m, rfl, _, rfl, _, rfl, hcz, ?_⟩
    rw [cut_take]
    refine ⟨⟨(cols.take m).toArray⟩, Str.ofString ".", rfl, rfl, ?_, ?_⟩
    · rw [show Str.ofString "." = ⟨[46].toArray⟩ by decide +kernel]
      exact lz2 _ _ (by have := htk m; show (cols.take m).length + 1 ≤ 100; omega)
    rw [show Str.ofString "." = ⟨[46].toArray⟩ by decide +kernel, cat_tx (cols.take m) [46]]
    refine ⟨tx cols, rfl, .int m, rfl, _, 1, rfl, rfl, _, rfl, _, rfl, hcz, ?_⟩
    rw [show ((m : Nat) : Int) + 1 = ((m + 1 : Nat) : Int) from rfl, cut_from cols (m + 1)]
    refine ⟨⟨(cols.take m ++ [46]).toArray⟩, ⟨(cols.drop (m + 1)).toArray⟩, rfl, rfl, lz2 _ _ (by rw [List.length_append]; have := htk m; have := hdk (m + 1); show (cols.take m).length + 1 + _ ≤ 100; omega), ?_⟩
    rw [cat_tx (cols.take m ++ [46]) (cols.drop (m + 1))]
    refine ⟨tx cols, rfl, ⟨cols.toArray⟩, Str.ofString "{", rfl, rfl, ?_, ?_⟩
    · rw [show Str.ofString "{" = ⟨[123].toArray⟩ by decide +kernel]
      exact lz2 _ _ (by show cols.length + 1 ≤ 100; omega)
    rw [show Str.ofString "{" = ⟨[123].toArray⟩ by decide +kernel, cat_tx cols [123]]
    refine ⟨(by show 4 ≤ sizeLine; decide), fun pG10 npG10 => ?_⟩
    have nLpG10 : pG10 ∉ L := fun z => hlG7 pG10 z npG10
    have ksG8 : Kp r G7 (upd G7 pG10 (.lst [tx (cols.take m ++ [46] ++ cols.drop (m + 1)), tx (cols ++ [123]), .str (Str.ofString "abcdefg"), .int 7])) := Kp.new Kp.rfl' npG10
    have hRG8 : (upd G7 pG10 (.lst [tx (cols.take m ++ [46] ++ cols.drop (m + 1)), tx (cols ++ [123]), .str (Str.ofString "abcdefg"), .int 7])) r = some (.lst [.int nG7]) := keep_new hRG7 npG10
    have hlG8 : ∀ b ∈ L, (upd G7 pG10 (.lst [tx (cols.take m ++ [46] ++ cols.drop (m + 1)), tx (cols ++ [123]), .str (Str.ofString "abcdefg"), .int 7])) b ≠ none := new_all hlG7
    have hopG10 : (upd G7 pG10 (.lst [tx (cols.take m ++ [46] ++ cols.drop (m + 1)), tx (cols ++ [123]), .str (Str.ofString "abcdefg"), .int 7])) pG10 = some (.lst [tx (cols.take m ++ [46] ++ cols.drop (m + 1)), tx (cols ++ [123]), .str (Str.ofString "abcdefg"), .int 7]) := upd_same
    generalize upd G7 pG10 (.lst [tx (cols.take m ++ [46] ++ cols.drop (m + 1)), tx (cols ++ [123]), .str (Str.ofString "abcdefg"), .int 7]) = G8 at ksG8 hRG8 hlG8 hopG10 ⊢
    refine ⟨pG9, pG10, [tx cols.reverse, tx (cols ++ cols.take 1), tx (cols.take m ++ [65] ++ cols.drop (m + 1)), .str (Str.ofString ""), .non, .ref pG8], [tx (cols.take m ++ [46] ++ cols.drop (m + 1)), tx (cols ++ [123]), .str (Str.ofString "abcdefg"), .int 7], rfl, rfl, (ksG8) _ _ (ne_in nLpG9 hrL) hopG9, hopG10, (by show 10 ≤ sizeLine; decide), fun pG11 npG11 => ?_⟩
    have nLpG11 : pG11 ∉ L := fun z => hlG8 pG11 z npG11
    have ksG9 : Kp r G8 (upd G8 pG11 (.lst ([tx cols.reverse, tx (cols ++ cols.take 1), tx (cols.take m ++ [65] ++ cols.drop (m + 1)), .str (Str.ofString ""), .non, .ref pG8] ++ [tx (cols.take m ++ [46] ++ cols.drop (m + 1)), tx (cols ++ [123]), .str (Str.ofString "abcdefg"), .int 7]))) := Kp.new Kp.rfl' npG11
    have hRG9 : (upd G8 pG11 (.lst ([tx cols.reverse, tx (cols ++ cols.take 1), tx (cols.take m ++ [65] ++ cols.drop (m + 1)), .str (Str.ofString ""), .non, .ref pG8] ++ [tx (cols.take m ++ [46] ++ cols.drop (m + 1)), tx (cols ++ [123]), .str (Str.ofString "abcdefg"), .int 7]))) r = some (.lst [.int nG7]) := keep_new hRG8 npG11
    have hlG9 : ∀ b ∈ L, (upd G8 pG11 (.lst ([tx cols.reverse, tx (cols ++ cols.take 1), tx (cols.take m ++ [65] ++ cols.drop (m + 1)), .str (Str.ofString ""), .non, .ref pG8] ++ [tx (cols.take m ++ [46] ++ cols.drop (m + 1)), tx (cols ++ [123]), .str (Str.ofString "abcdefg"), .int 7]))) b ≠ none := new_all hlG8
    have hopG11 : (upd G8 pG11 (.lst ([tx cols.reverse, tx (cols ++ cols.take 1), tx (cols.take m ++ [65] ++ cols.drop (m + 1)), .str (Str.ofString ""), .non, .ref pG8] ++ [tx (cols.take m ++ [46] ++ cols.drop (m + 1)), tx (cols ++ [123]), .str (Str.ofString "abcdefg"), .int 7]))) pG11 = some (.lst [tx cols.reverse, tx (cols ++ cols.take 1), tx (cols.take m ++ [65] ++ cols.drop (m + 1)), .str (Str.ofString ""), .non, .ref pG8, tx (cols.take m ++ [46] ++ cols.drop (m + 1)), tx (cols ++ [123]), .str (Str.ofString "abcdefg"), .int 7]) := upd_same
    generalize upd G8 pG11 (.lst ([tx cols.reverse, tx (cols ++ cols.take 1), tx (cols.take m ++ [65] ++ cols.drop (m + 1)), .str (Str.ofString ""), .non, .ref pG8] ++ [tx (cols.take m ++ [46] ++ cols.drop (m + 1)), tx (cols ++ [123]), .str (Str.ofString "abcdefg"), .int 7])) = G9 at ksG9 hRG9 hlG9 hopG11 ⊢
    refine ⟨.int dG1, rfl, _, 16, rfl, rfl, _, rfl, ite2 (fun e3 => ?_) (fun e3 => ?_)⟩
    · have hw16 : dG1 < 16 := of_decide_eq_true e3
      obtain ⟨ov, atov, thov⟩ := Th.atZ (L := L) (H := G9) (n := 2) (m := 1000) (vs := [tx cols.reverse, tx (cols ++ cols.take 1), tx (cols.take m ++ [65] ++ cols.drop (m + 1)), .str (Str.ofString ""), .non, .ref pG8, tx (cols.take m ++ [46] ++ cols.drop (m + 1)), tx (cols ++ [123]), .str (Str.ofString "abcdefg"), .int 7]) (allC (Th.tx (fun c h => hc9 c (List.mem_reverse.mp h)) (by rw [List.length_reverse]; omega)) (allC (Th.tx (allApp hc9 fun c h => hc9 c (List.mem_of_mem_take h)) (by rw [List.length_append]; have := htk 1; omega)) (allC (Th.tx (allApp (allApp (fun c h => hc9 c (List.mem_of_mem_take h)) (all1 (by decide))) fun c h => hc9 c (List.mem_of_mem_drop h)) (by rw [List.length_append, List.length_append]; have h1 := htk m; have h2 := hdk (m + 1); show (cols.take m).length + 1 + _ ≤ 1000; omega)) (allC (Th.tx (l := []) (by decide) (by decide)) (allC (Th.non) (allC ((tpG8.kp (((ksG7).trans ksG8).trans ksG9) hrL)) (allC (Th.tx (allApp (allApp (fun c h => hc9 c (List.mem_of_mem_take h)) (all1 (by decide))) fun c h => hc9 c (List.mem_of_mem_drop h)) (by rw [List.length_append, List.length_append]; have h1 := htk m; have h2 := hdk (m + 1); show (cols.take m).length + 1 + _ ≤ 1000; omega)) (allC (Th.tx (allApp hc9 (by decide)) (by rw [List.length_append]; show cols.length + 1 ≤ 1000; omega)) (allC (Th.tx (l := [97, 98, 99, 100, 101, 102, 103]) (by decide) (by decide)) (allC (Th.int (by decide) (by decide)) all0)))))))))) (i := dG1 - 6) (show -(((10 : Nat) : Int)) ≤ dG1 - 6 by omega) (show dG1 - 6 < ((10 : Nat) : Int) by omega)
      refine ⟨.ref pG11, rfl, .int dG1, rfl, _, 6, rfl, rfl, pG11, _, _, ov, rfl, rfl, .inl (.inl (hopG11)), atov, .ref ra, rfl, (by show 2 ≤ sizeLine; decide), fun pG12 npG12 => ?_⟩
      have nLpG12 : pG12 ∉ L := fun z => hlG9 pG12 z npG12
      have ksG10 : Kp r G9 (upd G9 pG12 (.tup [ov, .ref ra])) := Kp.new Kp.rfl' npG12
      have hRG10 : (upd G9 pG12 (.tup [ov, .ref ra])) r = some (.lst [.int nG7]) := keep_new hRG9 npG12
      have hlG10 : ∀ b ∈ L, (upd G9 pG12 (.tup [ov, .ref ra])) b ≠ none := new_all hlG9
      have hopG12 : (upd G9 pG12 (.tup [ov, .ref ra])) pG12 = some (.tup [ov, .ref ra]) := upd_same
      generalize upd G9 pG12 (.tup [ov, .ref ra]) = G10 at ksG10 hRG10 hlG10 hopG12 ⊢
      exact q (.ref pG12) nG7 _ ((((((((((ksG1).trans ksG2).trans ksG3).trans ksG4).trans ksG5).trans ksG6).trans ksG7).trans ksG8).trans ksG9).trans ksG10) hRG10 (pair_th2 nLpG12 hopG12 (thov.kp (ksG10) hrL) ((Th.tup nLra (((((((((((ksG1).trans ksG2).trans ksG3).trans ksG4).trans ksG5).trans ksG6).trans ksG7).trans ksG8).trans ksG9).trans ksG10) _ _ (ne_in nLra hrL) hora) (n := 2) (m := 938) (fun v hv => ((hthr v hv).kp ((((((((((ksG1).trans ksG2).trans ksG3).trans ksG4).trans ksG5).trans ksG6).trans ksG7).trans ksG8).trans ksG9).trans ksG10) hrL).mono (by decide) (by decide))).mono (by decide) (by omega)))
    · refine ⟨.ref ta, rfl, (by show 1 ≤ sizeLine; decide), fun pG12 npG12 => ?_⟩
      have nLpG12 : pG12 ∉ L := fun z => hlG9 pG12 z npG12
      have ksG10 : Kp r G9 (upd G9 pG12 (.tup [.int 0])) := Kp.new Kp.rfl' npG12
      have hRG10 : (upd G9 pG12 (.tup [.int 0])) r = some (.lst [.int nG7]) := keep_new hRG9 npG12
      have hlG10 : ∀ b ∈ L, (upd G9 pG12 (.tup [.int 0])) b ≠ none := new_all hlG9
      have hopG12 : (upd G9 pG12 (.tup [.int 0])) pG12 = some (.tup [.int 0]) := upd_same
      generalize upd G9 pG12 (.tup [.int 0]) = G10 at ksG10 hRG10 hlG10 hopG12 ⊢
      refine ⟨ta, pG12, [tx cols, .ref ra], [.int 0], rfl, rfl, ((((((((((ksG1).trans ksG2).trans ksG3).trans ksG4).trans ksG5).trans ksG6).trans ksG7).trans ksG8).trans ksG9).trans ksG10) _ _ (ne_in nLta hrL) hota, hopG12, ?_, fun u1 HSu1 smu1 nnu1 hhu1 => ?_⟩
      · show 2 + 1 ≤ sizeLine
        decide
      have nLu1 : u1 ∉ L := fun z => by
        rcases nnu1 with y | y | y
        · exact hlG10 u1 z y
        · exact nLta (y ▸ z)
        · exact nLpG12 (y ▸ z)
      have ksG11 : Kp r G10 HSu1 := fun b o _ h => smu1 b o h
      have hRG11 : HSu1 r = some (.lst [.int nG7]) := smu1 _ _ hRG10
      have hlG11 : ∀ b ∈ L, HSu1 b ≠ none := same_all hlG10 smu1
      obtain ⟨G11, rfl⟩ : ∃ G, G = HSu1 := ⟨_, rfl⟩
      have hou1 := hhu1
      have thU : Th L G11 4 89000 (.ref u1) := th3 nLu1 hou1 (Th.tx hc9 (by omega)) ((Th.tup nLra ((((((((((((ksG1).trans ksG2).trans ksG3).trans ksG4).trans ksG5).trans ksG6).trans ksG7).trans ksG8).trans ksG9).trans ksG10).trans ksG11) _ _ (ne_in nLra hrL) hora) (n := 2) (m := 938) (fun v hv => ((hthr v hv).kp (((((((((((ksG1).trans ksG2).trans ksG3).trans ksG4).trans ksG5).trans ksG6).trans ksG7).trans ksG8).trans ksG9).trans ksG10).trans ksG11) hrL).mono (by decide) (by decide))).mono (by decide) (by omega)) (Th.intS (by decide) (by decide))
      refine ⟨.ref ta, rfl, ta, _, rfl, .inr (.inl (.inl ((((((((((((ksG1).trans ksG2).trans ksG3).trans ksG4).trans ksG5).trans ksG6).trans ksG7).trans ksG8).trans ksG9).trans ksG10).trans ksG11) _ _ (ne_in nLta hrL) hota))), fun pG13 npG13 => ?_⟩
      have nLpG13 : pG13 ∉ L := fun z => hlG11 pG13 z npG13
      have ksG12 : Kp r G11 (upd G11 pG13 (.lst [tx cols, .ref ra])) := Kp.new Kp.rfl' npG13
      have hRG12 : (upd G11 pG13 (.lst [tx cols, .ref ra])) r = some (.lst [.int nG7]) := keep_new hRG11 npG13
      have hlG12 : ∀ b ∈ L, (upd G11 pG13 (.lst [tx cols, .ref ra])) b ≠ none := new_all hlG11
      have hopG13 : (upd G11 pG13 (.lst [tx cols, .ref ra])) pG13 = some (.lst [tx cols, .ref ra]) := upd_same
      generalize upd G11 pG13 (.lst [tx cols, .ref ra]) = G12 at ksG12 hRG12 hlG12 hopG13 ⊢
      have thV : Th L G12 4 89000 (.ref pG13) := th2l nLpG13 hopG13 (Th.tx hc9 (by omega)) ((Th.tup nLra (((((((((((((ksG1).trans ksG2).trans ksG3).trans ksG4).trans ksG5).trans ksG6).trans ksG7).trans ksG8).trans ksG9).trans ksG10).trans ksG11).trans ksG12) _ _ (ne_in nLra hrL) hora) (n := 2) (m := 938) (fun v hv => ((hthr v hv).kp ((((((((((((ksG1).trans ksG2).trans ksG3).trans ksG4).trans ksG5).trans ksG6).trans ksG7).trans ksG8).trans ksG9).trans ksG10).trans ksG11).trans ksG12) hrL).mono (by decide) (by decide))).mono (by decide) (by omega))
      refine ⟨tx cols, rfl, (by show 1 ≤ sizeLine; decide), fun pG14 npG14 => ?_⟩
      have nLpG14 : pG14 ∉ L := fun z => hlG12 pG14 z npG14
      have ksG13 : Kp r G12 (upd G12 pG14 (.tup [tx cols])) := Kp.new Kp.rfl' npG14
      have hRG13 : (upd G12 pG14 (.tup [tx cols])) r = some (.lst [.int nG7]) := keep_new hRG12 npG14
      have hlG13 : ∀ b ∈ L, (upd G12 pG14 (.tup [tx cols])) b ≠ none := new_all hlG12
      have hopG14 : (upd G12 pG14 (.tup [tx cols])) pG14 = some (.tup [tx cols]) := upd_same
      generalize upd G12 pG14 (.tup [tx cols]) = G13 at ksG13 hRG13 hlG13 hopG14 ⊢
      have thW : Th L G13 4 89000 (.ref pG14) := (Th.tup nLpG14 hopG14 (n := 1) (m := 100) (all1 (Th.tx hc9 (by omega)))).mono (by decide) (Nat.le_of_ble_eq_true rfl)
      refine ⟨tx cols, rfl, .ref ra, rfl, ra, _, rfl, .inr (.inl (.inl ((((((((((((((ksG1).trans ksG2).trans ksG3).trans ksG4).trans ksG5).trans ksG6).trans ksG7).trans ksG8).trans ksG9).trans ksG10).trans ksG11).trans ksG12).trans ksG13) _ _ (ne_in nLra hrL) hora))), fun pG15 npG15 => ?_⟩
      have nLpG15 : pG15 ∉ L := fun z => hlG13 pG15 z npG15
      have ksG14 : Kp r G13 (upd G13 pG15 (.lst rs)) := Kp.new Kp.rfl' npG15
      have hRG14 : (upd G13 pG15 (.lst rs)) r = some (.lst [.int nG7]) := keep_new hRG13 npG15
      have hlG14 : ∀ b ∈ L, (upd G13 pG15 (.lst rs)) b ≠ none := new_all hlG13
      have hopG15 : (upd G13 pG15 (.lst rs)) pG15 = some (.lst rs) := upd_same
      generalize upd G13 pG15 (.lst rs) = G14 at ksG14 hRG14 hlG14 hopG15 ⊢
      have thX : Th L G14 3 61000 (.ref pG15) := (Th.lst nLpG15 hopG15 (n := 2) (m := 938) (fun v hv => ((hthr v hv).kp ((((((((((((((ksG1).trans ksG2).trans ksG3).trans ksG4).trans ksG5).trans ksG6).trans ksG7).trans ksG8).trans ksG9).trans ksG10).trans ksG11).trans ksG12).trans ksG13).trans ksG14) hrL).mono (by decide) (by decide))).mono (by decide) (by omega)
      refine ⟨(by show 2 ≤ sizeLine; decide), fun pG16 npG16 => ?_⟩
      have nLpG16 : pG16 ∉ L := fun z => hlG14 pG16 z npG16
      have ksG15 : Kp r G14 (upd G14 pG16 (.tup [tx cols, .ref pG15])) := Kp.new Kp.rfl' npG16
      have hRG15 : (upd G14 pG16 (.tup [tx cols, .ref pG15])) r = some (.lst [.int nG7]) := keep_new hRG14 npG16
      have hlG15 : ∀ b ∈ L, (upd G14 pG16 (.tup [tx cols, .ref pG15])) b ≠ none := new_all hlG14
      have hopG16 : (upd G14 pG16 (.tup [tx cols, .ref pG15])) pG16 = some (.tup [tx cols, .ref pG15]) := upd_same
      generalize upd G14 pG16 (.tup [tx cols, .ref pG15]) = G15 at ksG15 hRG15 hlG15 hopG16 ⊢
      have thY : Th L G15 4 89000 (.ref pG16) := th2t nLpG16 hopG16 (Th.tx hc9 (by omega)) (thX.kp (ksG15) hrL)
      refine ⟨tx cols, rfl, (by show 2 ≤ sizeLine; decide), fun pG17 npG17 => ?_⟩
      have nLpG17 : pG17 ∉ L := fun z => hlG15 pG17 z npG17
      have ksG16 : Kp r G15 (upd G15 pG17 (.tup [tx cols, .non])) := Kp.new Kp.rfl' npG17
      have hRG16 : (upd G15 pG17 (.tup [tx cols, .non])) r = some (.lst [.int nG7]) := keep_new hRG15 npG17
      have hlG16 : ∀ b ∈ L, (upd G15 pG17 (.tup [tx cols, .non])) b ≠ none := new_all hlG15
      have hopG17 : (upd G15 pG17 (.tup [tx cols, .non])) pG17 = some (.tup [tx cols, .non]) := upd_same
      generalize upd G15 pG17 (.tup [tx cols, .non]) = G16 at ksG16 hRG16 hlG16 hopG17 ⊢
      have thZ : Th L G16 4 89000 (.ref pG17) := (Th.tup nLpG17 hopG17 (n := 1) (m := 100) (allC (Th.tx hc9 (by omega)) (allC (Th.non) all0))).mono (by decide) (Nat.le_of_ble_eq_true rfl)
      refine ⟨(by show 5 ≤ sizeLine; decide), fun pG18 npG18 => ?_⟩
      have nLpG18 : pG18 ∉ L := fun z => hlG16 pG18 z npG18
      have ksG17 : Kp r G16 (upd G16 pG18 (.lst [.ref u1, .ref pG13, .ref pG14, .ref pG16, .ref pG17])) := Kp.new Kp.rfl' npG18
      have hRG17 : (upd G16 pG18 (.lst [.ref u1, .ref pG13, .ref pG14, .ref pG16, .ref pG17])) r = some (.lst [.int nG7]) := keep_new hRG16 npG18
      have hlG17 : ∀ b ∈ L, (upd G16 pG18 (.lst [.ref u1, .ref pG13, .ref pG14, .ref pG16, .ref pG17])) b ≠ none := new_all hlG16
      have hopG18 : (upd G16 pG18 (.lst [.ref u1, .ref pG13, .ref pG14, .ref pG16, .ref pG17])) pG18 = some (.lst [.ref u1, .ref pG13, .ref pG14, .ref pG16, .ref pG17]) := upd_same
      generalize upd G16 pG18 (.lst [.ref u1, .ref pG13, .ref pG14, .ref pG16, .ref pG17]) = G17 at ksG17 hRG17 hlG17 hopG18 ⊢
      refine ⟨.ref r, rfl, r, nG7, 5, rfl, hRG17, by decide, by decide, fun dG19 nG20 dG19_0 dG19_1 => ?_⟩
      have ksG18 : Kp r G17 (upd G17 r (.lst [.int nG20])) := Kp.own Kp.rfl'
      have hRG18 : (upd G17 r (.lst [.int nG20])) r = some (.lst [.int nG20]) := upd_same
      have hlG18 : ∀ b ∈ L, (upd G17 r (.lst [.int nG20])) b ≠ none := new_all hlG17
      generalize upd G17 r (.lst [.int nG20]) = G18 at ksG18 hRG18 hlG18 ⊢
      obtain ⟨fv, atf, thf⟩ := Th.at (L := L) (H := G18) (n := 4) (m := 89000) (vs := [.ref u1, .ref pG13, .ref pG14, .ref pG16, .ref pG17]) (allC ((thU.kp (((((((ksG12).trans ksG13).trans ksG14).trans ksG15).trans ksG16).trans ksG17).trans ksG18) hrL)) (allC ((thV.kp ((((((ksG13).trans ksG14).trans ksG15).trans ksG16).trans ksG17).trans ksG18) hrL)) (allC ((thW.kp (((((ksG14).trans ksG15).trans ksG16).trans ksG17).trans ksG18) hrL)) (allC ((thY.kp (((ksG16).trans ksG17).trans ksG18) hrL)) (allC ((thZ.kp ((ksG17).trans ksG18) hrL)) all0))))) dG19_0 (show dG19 < ((5 : Nat) : Int) from dG19_1)
      refine ⟨pG18, _, dG19, fv, rfl, rfl, .inl (.inl ((ksG18) _ _ (ne_in nLpG18 hrL) hopG18)), atf, ?_⟩
      exact q fv nG20 _ ((((((((((((((((((ksG1).trans ksG2).trans ksG3).trans ksG4).trans ksG5).trans ksG6).trans ksG7).trans ksG8).trans ksG9).trans ksG10).trans ksG11).trans ksG12).trans ksG13).trans ksG14).trans ksG15).trans ksG16).trans ksG17).trans ksG18) hRG18 (thf.mono (by decide) (by decide))

/-! ### _law_bent_more -/
def signsS : Str := Str.ofString " !\"#$&'()*+,-./0123456789:;<=>?@ABCDEFGHIJKLMNOPQRSTUVWXYZ[\\]^_{|}~\t\n" ++ Str.ofString "`"
theorem signsS_len : signsS.length = 70 := by decide +kernel
theorem sgn_lt {d : Int} (h : d < ((70 : Nat) : Int)) : d < (signsS.cps.toList.length : Int) := by
  have h1 : signsS.cps.toList.length = 70 := by decide +kernel
  rw [h1]
  exact h
theorem cut_last (l : List Nat) : cutS ⟨l.toArray⟩ (some (-1)) none = ⟨(l.drop (l.length - 1)).toArray⟩ := by
  have e1 : (⟨l.toArray⟩ : Str).cps.toList = l := by simp
  have e2 : (⟨l.toArray⟩ : Str).length = l.length := by simp [Str.length]
  have e3 : ∀ n d : Nat, HT.sIx n d (some (-1)) = n - 1 := fun n d => by
    show (if (-1 : Int) < 0 then ((-1 : Int) + (n : Int)).toNat else min (-1 : Int).toNat n) = n - 1
    rw [if_pos (by decide)]
    omega
  unfold cutS
  rw [e3, HT.sIx_none]
  simp only [e1, e2]
  rw [List.take_of_length_le (by rw [List.length_drop]; omega)]
set_option maxHeartbeats 16000000 in
theorem ok_bentmore (T : Tx K mg Z) : FnOk P w K mg base CX0 2 Z.f_l_bent_more Z.d_l_bent_more ["reel", "table"] (spBent K) := by
  have G_l_pick : FnOk P w K mg base CX0 1 Z.f_l_pick Z.d_l_pick ["reel", "many"] (spPick K) := ok_pick T
  refine T.F_l_bent_more.ok sc_l_bent_more (fun vs H Q E h => ?_) (fun cdv A outer s H vs Q E hr h => ?_)
  · obtain ⟨L, r, n, cols, ta, ra, rs, rfl, _⟩ := h
    rfl
  · obtain ⟨L, r, n, cols, ta, ra, rs, rfl, hR, hrL, hl, hc1, hc2, hcc, nLta, nLra, hota, hora, hrl, hrows, q⟩ := h
    refine ⟨_, (pss_cons (ps_asg (pv 1) (pgT K (n := 2) (pgs_cons (pg_name (i := 2) sc_l_bent_more.nd rfl (.inl rfl)) (pgs_cons (pg_name (i := 3) sc_l_bent_more.nd rfl (.inl rfl)) pgs_nil))))
      (pss_cons (ps_set (i := 4) sc_l_bent_more.nd rfl (.inl rfl) (pe_call G_l_pick (hr.mono (by omega)) (by rfl) T.g_l_pick T.F_l_pick.kp T.b_l_pick .nil pass0 (pa_cons (pv 0) (pa_cons pe_int pa_nil))))
      (pss_cons (ps_set (i := 5) sc_l_bent_more.nd rfl (.inl rfl) (pe_op op_add_str pe_str pe_str))
      (pss_cons (ps_set (i := 6) sc_l_bent_more.nd rfl (.inl rfl) (pe_ix ix_str (pv 5) (pe_call G_l_pick (hr.mono (by omega)) (by rfl) T.g_l_pick T.F_l_pick.kp T.b_l_pick .nil pass0 (pa_cons (pv 0) (pa_cons (pe_callB call_len_str (by rfl) T.m_len (by decide +kernel) (pa_cons (pv 5) pa_nil)) pa_nil))) (fun _ _ => rfl)))
      (pss_cons (ps_set (i := 7) sc_l_bent_more.nd rfl (.inl rfl) (pe_call G_l_pick (hr.mono (by omega)) (by rfl) T.g_l_pick T.F_l_pick.kp T.b_l_pick .nil pass0 (pa_cons (pv 0) (pa_cons (pe_op op_add (pe_callB call_len_str (by rfl) T.m_len (by decide +kernel) (pa_cons (pv 2) pa_nil)) pe_int) pa_nil))))
      (pss_cons (ps_if (pt_cmpR op_lt (pv 4) pe_int (nomark _)) (pss_one (ps_ret (pe_tup (pa_cons (pe_op op_add_str (pe_op op_add_str (pe_slice sl_str (pv 2) po_none (po_some (pv 7))) (pv 6)) (pe_slice sl_str (pv 2) (po_some (pe_op op_add (pv 7) (pe_callTy call_int1 (by rfl) T.m_int (by decide +kernel) (pa_cons (pe_cmpR op_eq (pv 4) pe_int (nomark _)) pa_nil)))) po_none)) (pa_cons (pv 3) pa_nil))))) pss_nil)
      (pss_mid (ps_if (PW.pt (pw_or (pt_cmpR op_eq (pv 4) pe_int (nomark _)) (pw_or1 (pt_cmpR (eqDK K hr.units) (pv 3) (pe_tup pa_nil) (nomark _))))) (pss_one (ps_ret (pe_tup (pa_cons (pe_op op_add_str (pv 2) (pe_slice sl_str (pv 2) (po_some (pe_un un_neg pe_int)) po_none)) (pa_cons (pv 3) pa_nil))))) pss_nil)
      (pss_cons (ps_set (i := 8) sc_l_bent_more.nd rfl (.inl rfl) (pe_call G_l_pick (hr.mono (by omega)) (by rfl) T.g_l_pick T.F_l_pick.kp T.b_l_pick .nil pass0 (pa_cons (pv 0) (pa_cons (pe_callB (cLenSq K) (by rfl) T.m_len (by decide +kernel) (pa_cons (pv 3) pa_nil)) pa_nil))))
      (pss_cons (ps_set (i := 9) sc_l_bent_more.nd rfl (.inl rfl) (pe_op op_mod (pv 7) (pe_callB call_len_str (by rfl) T.m_len (by decide +kernel) (pa_cons (pv 2) pa_nil))))
      (pss_cons (ps_set (i := 10) sc_l_bent_more.nd rfl (.inl rfl) (pe_op (catWK K) (pe_op (catWK K) (pe_slice (slWK K) (pe_ix (ixT K) (pv 3) (pv 8) (fun _ _ => rfl)) po_none (po_some (pv 9))) (pe_tup (pa_cons (pe_ix (ixL K) (pe_lst (pa_cons pe_bl (pa_cons pe_bl pa_nil))) (pe_op op_sub (pv 4) pe_int) (fun _ _ => rfl)) pa_nil))) (pe_slice (slWK K) (pe_ix (ixT K) (pv 3) (pv 8) (fun _ _ => rfl)) (po_some (pe_op op_add (pv 9) pe_int)) po_none)))
      (pss_one (ps_ret (pe_tup (pa_cons (pv 2) (pa_cons (pe_op (catWK K) (pe_op (catWK K) (pe_slice (slWK K) (pv 3) po_none (po_some (pv 8))) (pe_tup (pa_cons (pv 10) pa_nil))) (pe_slice (slWK K) (pv 3) (po_some (pe_op op_add (pv 8) pe_int)) po_none)) pa_nil))))))))))))))), ?_⟩
    have hc9 : ∀ c ∈ cols, c < 1000 := fun c h => by
      have := hcc c h
      omega
    have ecl : (⟨cols.toArray⟩ : Str).length = cols.length := by simp [Str.length]
    have hcz : (⟨cols.toArray⟩ : Str).length ≤ sizeLine := by
      rw [ecl]
      exact Nat.le_of_lt (small1000 (by omega))
    have lz2 : ∀ l k : List Nat, l.length + k.length ≤ 100 → (⟨l.toArray⟩ : Str).length + (⟨k.toArray⟩ : Str).length ≤ sizeLine := fun l k h => by
      have e : (⟨l.toArray⟩ : Str).length = l.length := by simp [Str.length]
      have e2 : (⟨k.toArray⟩ : Str).length = k.length := by simp [Str.length]
      rw [e, e2]
      exact Nat.le_of_lt (small1000 (by omega))
    have htk : ∀ k, (cols.take k).length ≤ 6 := fun k => Nat.le_trans (List.length_take_le' k cols) hc2
    have hdk : ∀ k, (cols.drop k).length ≤ 6 := fun k => by
      rw [List.length_drop]
      omega
    have hthr : ∀ v ∈ rs, Th L H 2 900 v := fun v hv => (hrows v hv).th hc2
    refine ⟨.ref ta, rfl, ta, [tx cols, .ref ra], rfl, .inl (.inl hota), rfl, tx cols, [.ref ra], rfl, .ref ra, [], rfl, rfl, ?_⟩
    refine ⟨.ref r, rfl, r, n, 6, rfl, hR, by decide, by decide, fun dG1 nG2 dG1_0 dG1_1 => ?_⟩
    have ksG1 : Kp r H (upd H r (.lst [.int nG2])) := Kp.own Kp.rfl'
    have hRG1 : (upd H r (.lst [.int nG2])) r = some (.lst [.int nG2]) := upd_same
    have hlG1 : ∀ b ∈ L, (upd H r (.lst [.int nG2])) b ≠ none := new_all hl
    generalize upd H r (.lst [.int nG2]) = G1 at ksG1 hRG1 hlG1 ⊢
    refine ⟨_, _, rfl, rfl, (by decide +kernel), ?_⟩
    refine ⟨.str signsS, rfl, .ref r, rfl, .str signsS, rfl, _, rfl, (by decide +kernel), r, nG2, _, rfl, hRG1, by rw [signsS_len]; decide, by rw [signsS_len]; decide, fun dG3 nG4 dG3_0 dG3_1 => ?_⟩
    have ksG2 : Kp r G1 (upd G1 r (.lst [.int nG4])) := Kp.own Kp.rfl'
    have hRG2 : (upd G1 r (.lst [.int nG4])) r = some (.lst [.int nG4]) := upd_same
    have hlG2 : ∀ b ∈ L, (upd G1 r (.lst [.int nG4])) b ≠ none := new_all hlG1
    generalize upd G1 r (.lst [.int nG4]) = G2 at ksG2 hRG2 hlG2 ⊢
    rw [signsS_len] at dG3_1
    obtain ⟨gs, hgm, hgs⟩ := at_memZ (vs := signsS.cps.toList) (i := dG3) (by omega) (sgn_lt dG3_1)
    have hgs9 : gs < 1000 := by
      have h6 : ∀ x ∈ signsS.cps.toList, x < 1000 := by decide +kernel
      exact h6 gs hgm
    refine ⟨_, _, _, rfl, rfl, (by decide +kernel), hgs, ?_⟩
    refine ⟨.ref r, rfl, tx cols, rfl, _, rfl, hcz, _, 1, rfl, rfl, r, nG4, _, rfl, hRG2, by rw [ecl]; omega, by rw [ecl]; omega, fun dG5 nG6 dG5_0 dG5_1 => ?_⟩
    have ksG3 : Kp r G2 (upd G2 r (.lst [.int nG6])) := Kp.own Kp.rfl'
    have hRG3 : (upd G2 r (.lst [.int nG6])) r = some (.lst [.int nG6]) := upd_same
    have hlG3 : ∀ b ∈ L, (upd G2 r (.lst [.int nG6])) b ≠ none := new_all hlG2
    generalize upd G2 r (.lst [.int nG6]) = G3 at ksG3 hRG3 hlG3 ⊢
    rw [ecl] at dG5_1
    obtain ⟨m, em⟩ : ∃ m : Nat, dG5 = (m : Int) := ⟨dG5.toNat, by omega⟩
    subst em
    refine ⟨.int dG1, rfl, _, 3, rfl, rfl, _, rfl, ite2 (fun e1 => ?_) (fun e1 => ?_)⟩
    · refine ⟨tx cols, rfl, .int m, rfl, _, rfl, _, rfl, hcz, ?_⟩
      rw [cut_take]
      refine ⟨sg gs, rfl, ⟨(cols.take m).toArray⟩, ⟨[gs].toArray⟩, rfl, rfl, lz2 _ _ (by have := htk m; show (cols.take m).length + 1 ≤ 100; omega), ?_⟩
      rw [cat_tx (cols.take m) [gs]]
      refine ⟨tx cols, rfl, .int m, rfl, .int dG1, rfl, rfl, .inr ⟨_, rfl, ?_⟩⟩
      obtain ⟨wb, ewb⟩ : ∃ k : Nat, (if decide (V.int dG1 = V.int 0) = true then (1 : Int) else 0) = (k : Int) := by
        split
        · exact ⟨1, rfl⟩
        · exact ⟨0, rfl⟩
      rw [ewb]
      refine ⟨_, _, rfl, rfl, _, rfl, _, rfl, hcz, ?_⟩
      rw [show ((m : Nat) : Int) + ((wb : Nat) : Int) = ((m + wb : Nat) : Int) from rfl, cut_from cols (m + wb)]
      refine ⟨⟨(cols.take m ++ [gs]).toArray⟩, ⟨(cols.drop (m + wb)).toArray⟩, rfl, rfl, lz2 _ _ (by rw [List.length_append]; have := htk m; have := hdk (m + wb); show (cols.take m).length + 1 + _ ≤ 100; omega), ?_⟩
      rw [cat_tx (cols.take m ++ [gs]) (cols.drop (m + wb))]
      refine ⟨.ref ra, rfl, (by show 2 ≤ sizeLine; decide), fun pG7 npG7 => ?_⟩
      have nLpG7 : pG7 ∉ L := fun z => hlG3 pG7 z npG7
      have ksG4 : Kp r G3 (upd G3 pG7 (.tup [tx (cols.take m ++ [gs] ++ cols.drop (m + wb)), .ref ra])) := Kp.new Kp.rfl' npG7
      have hRG4 : (upd G3 pG7 (.tup [tx (cols.take m ++ [gs] ++ cols.drop (m + wb)), .ref ra])) r = some (.lst [.int nG6]) := keep_new hRG3 npG7
      have hlG4 : ∀ b ∈ L, (upd G3 pG7 (.tup [tx (cols.take m ++ [gs] ++ cols.drop (m + wb)), .ref ra])) b ≠ none := new_all hlG3
      have hopG7 : (upd G3 pG7 (.tup [tx (cols.take m ++ [gs] ++ cols.drop (m + wb)), .ref ra])) pG7 = some (.tup [tx (cols.take m ++ [gs] ++ cols.drop (m + wb)), .ref ra]) := upd_same
      generalize upd G3 pG7 (.tup [tx (cols.take m ++ [gs] ++ cols.drop (m + wb)), .ref ra]) = G4 at ksG4 hRG4 hlG4 hopG7 ⊢
      exact q (.ref pG7) nG6 _ ((((ksG1).trans ksG2).trans ksG3).trans ksG4) hRG4 (pair_th2 nLpG7 hopG7 (Th.tx (allApp (allApp (fun c h => hc9 c (List.mem_of_mem_take h)) (all1 hgs9)) fun c h => hc9 c (List.mem_of_mem_drop h)) (by rw [List.length_append, List.length_append]; have h1 := htk m; have h2 := hdk (m + wb); show (cols.take m).length + 1 + _ ≤ 1000; omega)) ((Th.tup nLra (((((ksG1).trans ksG2).trans ksG3).trans ksG4) _ _ (ne_in nLra hrL) hora) (n := 2) (m := 938) (fun v hv => ((hthr v hv).kp ((((ksG1).trans ksG2).trans ksG3).trans ksG4) hrL).mono (by decide) (by decide))).mono (by decide) (by omega)))
    · refine ⟨fun σ H' => σ = [some (.ref r), some (.ref ta), some (tx cols), some (.ref ra), some (.int dG1), some (.str signsS), some (sg gs), some (.int m), none, none, none] ∧ Kp r G3 H' ∧ H' r = some (.lst [.int nG6]) ∧ (∀ b ∈ L, H' b ≠ none) ∧ dG1 ≠ 3 ∧ 0 < rs.length, ?_, fun σ5 H5 hM => ?_⟩
      · refine ⟨.int dG1, rfl, rfl, _, rfl, ite2 (fun e2 => ?_) (fun e2 => ?_)⟩
        · refine iteT ?_
          refine ⟨tx cols, rfl, tx cols, rfl, 1, rfl, -1, rfl, _, rfl, hcz, ?_⟩
          rw [cut_last cols]
          refine ⟨⟨cols.toArray⟩, ⟨(cols.drop (cols.length - 1)).toArray⟩, rfl, rfl, lz2 _ _ (by have := hdk (cols.length - 1); omega), ?_⟩
          rw [cat_tx cols (cols.drop (cols.length - 1))]
          refine ⟨.ref ra, rfl, (by show 2 ≤ sizeLine; decide), fun pG7 npG7 => ?_⟩
          have nLpG7 : pG7 ∉ L := fun z => hlG3 pG7 z npG7
          have ksG4 : Kp r G3 (upd G3 pG7 (.tup [tx (cols ++ cols.drop (cols.length - 1)), .ref ra])) := Kp.new Kp.rfl' npG7
          have hRG4 : (upd G3 pG7 (.tup [tx (cols ++ cols.drop (cols.length - 1)), .ref ra])) r = some (.lst [.int nG6]) := keep_new hRG3 npG7
          have hlG4 : ∀ b ∈ L, (upd G3 pG7 (.tup [tx (cols ++ cols.drop (cols.length - 1)), .ref ra])) b ≠ none := new_all hlG3
          have hopG7 : (upd G3 pG7 (.tup [tx (cols ++ cols.drop (cols.length - 1)), .ref ra])) pG7 = some (.tup [tx (cols ++ cols.drop (cols.length - 1)), .ref ra]) := upd_same
          generalize upd G3 pG7 (.tup [tx (cols ++ cols.drop (cols.length - 1)), .ref ra]) = G4 at ksG4 hRG4 hlG4 hopG7 ⊢
          exact q (.ref pG7) nG6 _ ((((ksG1).trans ksG2).trans ksG3).trans ksG4) hRG4 (pair_th2 nLpG7 hopG7 (Th.tx (allApp hc9 fun c h => hc9 c (List.mem_of_mem_drop h)) (by rw [List.length_append]; have := hdk (cols.length - 1); omega)) ((Th.tup nLra (((((ksG1).trans ksG2).trans ksG3).trans ksG4) _ _ (ne_in nLra hrL) hora) (n := 2) (m := 938) (fun v hv => ((hthr v hv).kp ((((ksG1).trans ksG2).trans ksG3).trans ksG4) hrL).mono (by decide) (by decide))).mono (by decide) (by omega)))
        · refine ⟨.ref ra, rfl, (by show 0 ≤ sizeLine; decide), fun pG7 npG7 => ?_⟩
          have nLpG7 : pG7 ∉ L := fun z => hlG3 pG7 z npG7
          have ksG4 : Kp r G3 (upd G3 pG7 (.tup [])) := Kp.new Kp.rfl' npG7
          have hRG4 : (upd G3 pG7 (.tup [])) r = some (.lst [.int nG6]) := keep_new hRG3 npG7
          have hlG4 : ∀ b ∈ L, (upd G3 pG7 (.tup [])) b ≠ none := new_all hlG3
          have hopG7 : (upd G3 pG7 (.tup [])) pG7 = some (.tup []) := upd_same
          generalize upd G3 pG7 (.tup []) = G4 at ksG4 hRG4 hlG4 hopG7 ⊢
          obtain ⟨ds, fds, sds, wds⟩ := th_all (L := L) (H := G4) (fun v hv => (hthr v hv).kp ((((ksG1).trans ksG2).trans ksG3).trans ksG4) hrL)
          have hdl := FtA.len fds
          refine ⟨.tuple ds, .tuple [], Ft.dp _ _ (Fl.tup nLra (((((ksG1).trans ksG2).trans ksG3).trans ksG4) _ _ (ne_in nLra hrL) hora) fds).to, .tup (.inl (.inl hopG7)) .nil, shaped_sh (Sh.tup sds) (by decide), rfl, _, rfl, ?_⟩
          rw [eqv_nil_tup]
          refine ite2 (fun e3 => ?_) (fun e3 => ?_)
          · refine ⟨tx cols, rfl, tx cols, rfl, 1, rfl, -1, rfl, _, rfl, hcz, ?_⟩
            rw [cut_last cols]
            refine ⟨⟨cols.toArray⟩, ⟨(cols.drop (cols.length - 1)).toArray⟩, rfl, rfl, lz2 _ _ (by have := hdk (cols.length - 1); omega), ?_⟩
            rw [cat_tx cols (cols.drop (cols.length - 1))]
            refine ⟨.ref ra, rfl, (by show 2 ≤ sizeLine; decide), fun pG8 npG8 => ?_⟩
            have nLpG8 : pG8 ∉ L := fun z => hlG4 pG8 z npG8
            have ksG5 : Kp r G4 (upd G4 pG8 (.tup [tx (cols ++ cols.drop (cols.length - 1)), .ref ra])) := Kp.new Kp.rfl' npG8
            have hRG5 : (upd G4 pG8 (.tup [tx (cols ++ cols.drop (cols.length - 1)), .ref ra])) r = some (.lst [.int nG6]) := keep_new hRG4 npG8
            have hlG5 : ∀ b ∈ L, (upd G4 pG8 (.tup [tx (cols ++ cols.drop (cols.length - 1)), .ref ra])) b ≠ none := new_all hlG4
            have hopG8 : (upd G4 pG8 (.tup [tx (cols ++ cols.drop (cols.length - 1)), .ref ra])) pG8 = some (.tup [tx (cols ++ cols.drop (cols.length - 1)), .ref ra]) := upd_same
            generalize upd G4 pG8 (.tup [tx (cols ++ cols.drop (cols.length - 1)), .ref ra]) = G5 at ksG5 hRG5 hlG5 hopG8 ⊢
            exact q (.ref pG8) nG6 _ (((((ksG1).trans ksG2).trans ksG3).trans ksG4).trans ksG5) hRG5 (pair_th2 nLpG8 hopG8 (Th.tx (allApp hc9 fun c h => hc9 c (List.mem_of_mem_drop h)) (by rw [List.length_append]; have := hdk (cols.length - 1); omega)) ((Th.tup nLra ((((((ksG1).trans ksG2).trans ksG3).trans ksG4).trans ksG5) _ _ (ne_in nLra hrL) hora) (n := 2) (m := 938) (fun v hv => ((hthr v hv).kp (((((ksG1).trans ksG2).trans ksG3).trans ksG4).trans ksG5) hrL).mono (by decide) (by decide))).mono (by decide) (by omega)))
          · have hpos : 0 < rs.length := by
              cases ds with
              | nil => exact absurd rfl e3
              | cons x y =>
                rw [hdl]
                exact Nat.succ_pos _
            exact ⟨rfl, (ksG4), hRG4, hlG4, fun z => e2 (decide_eq_true (by rw [z])), hpos⟩
      obtain ⟨rfl, ks5, hR5, hl5, hw3, hpos⟩ := hM
      have ksG4 : Kp r G3 H5 := ks5
      obtain ⟨G4, rfl⟩ : ∃ G, G = H5 := ⟨_, rfl⟩
      refine ⟨.ref r, rfl, .ref ra, rfl, ra, rs, rfl, .inr (.inl (.inl (((((ksG1).trans ksG2).trans ksG3).trans ksG4) _ _ (ne_in nLra hrL) hora))), r, nG6, _, rfl, hR5, by omega, by omega, fun dG7 nG8 dG7_0 dG7_1 => ?_⟩
      have ksG5 : Kp r G4 (upd G4 r (.lst [.int nG8])) := Kp.own Kp.rfl'
      have hRG5 : (upd G4 r (.lst [.int nG8])) r = some (.lst [.int nG8]) := upd_same
      have hlG5 : ∀ b ∈ L, (upd G4 r (.lst [.int nG8])) b ≠ none := new_all hl5
      generalize upd G4 r (.lst [.int nG8]) = G5 at ksG5 hRG5 hlG5 ⊢
      obtain ⟨rowv, hrv, atrv⟩ := at_mem (vs := rs) dG7_0 dG7_1
      obtain ⟨rp, ns, rfl, nLrp, horp, hnl, hnb⟩ := hrows rowv hrv
      have hnm : (ns.map V.int).length = cols.length := by rw [List.length_map, hnl]
      refine ⟨.int m, rfl, tx cols, rfl, _, rfl, hcz, _, _, rfl, rfl, (by show (0 : Int) < _; rw [ecl]; omega), ?_⟩
      rw [ecl]
      dsimp only
      obtain ⟨sp, esp, hsp⟩ : ∃ k : Nat, ((m : Int) % (cols.length : Int)) = (k : Int) ∧ k < cols.length := ⟨m % cols.length, by omega, Nat.mod_lt _ (by omega)⟩
      rw [esp]
      obtain ⟨am, eam⟩ : ∃ m : Nat, dG7 = (m : Int) := ⟨dG7.toNat, by omega⟩
      subst eam
      refine ⟨.ref ra, rfl, .int am, rfl, ra, rs, _, .ref rp, rfl, rfl, .inl (.inl ((((((ksG1).trans ksG2).trans ksG3).trans ksG4).trans ksG5) _ _ (ne_in nLra hrL) hora)), atrv, .int sp, rfl, _, rfl, rp, _, rfl, (((((ksG1).trans ksG2).trans ksG3).trans ksG4).trans ksG5) _ _ (ne_in nLrp hrL) horp, fun s1 HSs1 sms1 nns1 hhs1 => ?_⟩
      rw [cut_to] at hhs1
      have nLs1 : s1 ∉ L := fun z => by
        rcases nns1 with y | y
        · exact hlG5 s1 z y
        · exact nLrp (y ▸ z)
      have ksG6 : Kp r G5 HSs1 := fun b o _ h => sms1 b o h
      have hRG6 : HSs1 r = some (.lst [.int nG8]) := sms1 _ _ hRG5
      have hlG6 : ∀ b ∈ L, HSs1 b ≠ none := same_all hlG5 sms1
      obtain ⟨G6, rfl⟩ : ∃ G, G = HSs1 := ⟨_, rfl⟩
      have hos1 := hhs1
      refine ⟨(by show 2 ≤ sizeLine; decide), fun pG9 npG9 => ?_⟩
      have nLpG9 : pG9 ∉ L := fun z => hlG6 pG9 z npG9
      have ksG7 : Kp r G6 (upd G6 pG9 (.lst [.bl false, .bl true])) := Kp.new Kp.rfl' npG9
      have hRG7 : (upd G6 pG9 (.lst [.bl false, .bl true])) r = some (.lst [.int nG8]) := keep_new hRG6 npG9
      have hlG7 : ∀ b ∈ L, (upd G6 pG9 (.lst [.bl false, .bl true])) b ≠ none := new_all hlG6
      have hopG9 : (upd G6 pG9 (.lst [.bl false, .bl true])) pG9 = some (.lst [.bl false, .bl true]) := upd_same
      generalize upd G6 pG9 (.lst [.bl false, .bl true]) = G7 at ksG7 hRG7 hlG7 hopG9 ⊢
      obtain ⟨bv, atbv, thbv⟩ := Th.at (L := L) (H := G7) (n := 1) (m := 133) (vs := [.bl false, .bl true]) (allC (Th.bl false) (allC (Th.bl true) all0)) (i := dG1 - 4) (show 0 ≤ dG1 - 4 by have h3 : ¬ dG1 < 3 := (fun z => e1 (decide_eq_true z)); omega) (show dG1 - 4 < ((2 : Nat) : Int) by omega)
      refine ⟨.int dG1, rfl, _, 4, rfl, rfl, pG9, _, _, bv, rfl, rfl, .inl (.inl (hopG9)), atbv, (by show 1 ≤ sizeLine; decide), fun pG10 npG10 => ?_⟩
      have nLpG10 : pG10 ∉ L := fun z => hlG7 pG10 z npG10
      have ksG8 : Kp r G7 (upd G7 pG10 (.tup [bv])) := Kp.new Kp.rfl' npG10
      have hRG8 : (upd G7 pG10 (.tup [bv])) r = some (.lst [.int nG8]) := keep_new hRG7 npG10
      have hlG8 : ∀ b ∈ L, (upd G7 pG10 (.tup [bv])) b ≠ none := new_all hlG7
      have hopG10 : (upd G7 pG10 (.tup [bv])) pG10 = some (.tup [bv]) := upd_same
      generalize upd G7 pG10 (.tup [bv]) = G8 at ksG8 hRG8 hlG8 hopG10 ⊢
      refine ⟨s1, pG10, (ns.map V.int).take sp, [bv], rfl, rfl, ((ksG7).trans ksG8) _ _ (ne_in nLs1 hrL) hos1, hopG10, ?_, fun s2 HSs2 sms2 nns2 hhs2 => ?_⟩
      · have h1 := List.length_take_le' sp (ns.map V.int)
        exact Nat.le_of_lt (small1000 (show ((ns.map V.int).take sp).length + 1 ≤ 1000 by omega))
      have nLs2 : s2 ∉ L := fun z => by
        rcases nns2 with y | y | y
        · exact hlG8 s2 z y
        · exact nLs1 (y ▸ z)
        · exact nLpG10 (y ▸ z)
      have ksG9 : Kp r G8 HSs2 := fun b o _ h => sms2 b o h
      have hRG9 : HSs2 r = some (.lst [.int nG8]) := sms2 _ _ hRG8
      have hlG9 : ∀ b ∈ L, HSs2 b ≠ none := same_all hlG8 sms2
      obtain ⟨G9, rfl⟩ : ∃ G, G = HSs2 := ⟨_, rfl⟩
      have hos2 := hhs2
      have hcv : ∀ v ∈ cutV (ns.map V.int) (some ((sp : Int) + 1)) none, v ∈ ns.map V.int := fun v hv => by
        unfold cutV at hv
        exact List.mem_of_mem_drop (List.mem_of_mem_take hv)
      have hcl2 : (cutV (ns.map V.int) (some ((sp : Int) + 1)) none).length ≤ (ns.map V.int).length - sp - 1 := by
        rw [show ((sp : Int) + 1) = ((sp + 1 : Nat) : Int) from rfl, cut_of _ _ (by omega), List.length_drop]
        omega
      refine ⟨.ref ra, rfl, .int am, rfl, ra, rs, _, .ref rp, rfl, rfl, .inl (.inl ((((((((((ksG1).trans ksG2).trans ksG3).trans ksG4).trans ksG5).trans ksG6).trans ksG7).trans ksG8).trans ksG9) _ _ (ne_in nLra hrL) hora)), atrv, .int sp, rfl, _, 1, rfl, rfl, _, rfl, rp, _, rfl, (((((((((ksG1).trans ksG2).trans ksG3).trans ksG4).trans ksG5).trans ksG6).trans ksG7).trans ksG8).trans ksG9) _ _ (ne_in nLrp hrL) horp, fun s3 HSs3 sms3 nns3 hhs3 => ?_⟩
      have nLs3 : s3 ∉ L := fun z => by
        rcases nns3 with y | y
        · exact hlG9 s3 z y
        · exact nLrp (y ▸ z)
      have ksG10 : Kp r G9 HSs3 := fun b o _ h => sms3 b o h
      have hRG10 : HSs3 r = some (.lst [.int nG8]) := sms3 _ _ hRG9
      have hlG10 : ∀ b ∈ L, HSs3 b ≠ none := same_all hlG9 sms3
      obtain ⟨G10, rfl⟩ : ∃ G, G = HSs3 := ⟨_, rfl⟩
      have hos3 := hhs3
      generalize cutV (ns.map V.int) (some ((sp : Int) + 1)) none = cs at hcv hcl2 hos3
      refine ⟨s2, s3, (ns.map V.int).take sp ++ [bv], cs, rfl, rfl, (ksG10) _ _ (ne_in nLs2 hrL) hos2, hos3, ?_, fun s4 HSs4 sms4 nns4 hhs4 => ?_⟩
      · have h1 := List.length_take_le' sp (ns.map V.int)
        rw [List.length_append]
        exact Nat.le_of_lt (small1000 (show ((ns.map V.int).take sp).length + 1 + cs.length ≤ 1000 by omega))
      have nLs4 : s4 ∉ L := fun z => by
        rcases nns4 with y | y | y
        · exact hlG10 s4 z y
        · exact nLs2 (y ▸ z)
        · exact nLs3 (y ▸ z)
      have ksG11 : Kp r G10 HSs4 := fun b o _ h => sms4 b o h
      have hRG11 : HSs4 r = some (.lst [.int nG8]) := sms4 _ _ hRG10
      have hlG11 : ∀ b ∈ L, HSs4 b ≠ none := same_all hlG10 sms4
      obtain ⟨G11, rfl⟩ : ∃ G, G = HSs4 := ⟨_, rfl⟩
      have hos4 := hhs4
      have hl4 : ((ns.map V.int).take sp ++ [bv] ++ cs).length ≤ 6 := by
        have h1 := @List.length_take V sp (ns.map V.int)
        rw [List.length_append, List.length_append]
        have h2 : [bv].length = 1 := rfl
        omega
      have ths4 : Th L G11 2 938 (.ref s4) := (Th.tup nLs4 hos4 (n := 1) (m := 133) (allApp (allApp (fun v hv => th_nums hnb (by decide) v (List.mem_of_mem_take hv)) (all1 (thbv.kp ((((ksG8).trans ksG9).trans ksG10).trans ksG11) hrL))) (fun v hv => th_nums hnb (by decide) v (hcv v hv)))).mono (by decide) (by omega)
      refine ⟨tx cols, rfl, .ref ra, rfl, .int am, rfl, _, rfl, ra, rs, rfl, (((((((((((ksG1).trans ksG2).trans ksG3).trans ksG4).trans ksG5).trans ksG6).trans ksG7).trans ksG8).trans ksG9).trans ksG10).trans ksG11) _ _ (ne_in nLra hrL) hora, fun t1 HSt1 smt1 nnt1 hht1 => ?_⟩
      rw [cut_to] at hht1
      have nLt1 : t1 ∉ L := fun z => by
        rcases nnt1 with y | y
        · exact hlG11 t1 z y
        · exact nLra (y ▸ z)
      have ksG12 : Kp r G11 HSt1 := fun b o _ h => smt1 b o h
      have hRG12 : HSt1 r = some (.lst [.int nG8]) := smt1 _ _ hRG11
      have hlG12 : ∀ b ∈ L, HSt1 b ≠ none := same_all hlG11 smt1
      obtain ⟨G12, rfl⟩ : ∃ G, G = HSt1 := ⟨_, rfl⟩
      have hot1 := hht1
      refine ⟨.ref s4, rfl, (by show 1 ≤ sizeLine; decide), fun pG11 npG11 => ?_⟩
      have nLpG11 : pG11 ∉ L := fun z => hlG12 pG11 z npG11
      have ksG13 : Kp r G12 (upd G12 pG11 (.tup [.ref s4])) := Kp.new Kp.rfl' npG11
      have hRG13 : (upd G12 pG11 (.tup [.ref s4])) r = some (.lst [.int nG8]) := keep_new hRG12 npG11
      have hlG13 : ∀ b ∈ L, (upd G12 pG11 (.tup [.ref s4])) b ≠ none := new_all hlG12
      have hopG11 : (upd G12 pG11 (.tup [.ref s4])) pG11 = some (.tup [.ref s4]) := upd_same
      generalize upd G12 pG11 (.tup [.ref s4]) = G13 at ksG13 hRG13 hlG13 hopG11 ⊢
      refine ⟨t1, pG11, rs.take am, [.ref s4], rfl, rfl, (ksG13) _ _ (ne_in nLt1 hrL) hot1, hopG11, ?_, fun t2 HSt2 smt2 nnt2 hht2 => ?_⟩
      · have h1 := List.length_take_le' am rs
        exact Nat.le_of_lt (small1000 (show (rs.take am).length + 1 ≤ 1000 by omega))
      have nLt2 : t2 ∉ L := fun z => by
        rcases nnt2 with y | y | y
        · exact hlG13 t2 z y
        · exact nLt1 (y ▸ z)
        · exact nLpG11 (y ▸ z)
      have ksG14 : Kp r G13 HSt2 := fun b o _ h => smt2 b o h
      have hRG14 : HSt2 r = some (.lst [.int nG8]) := smt2 _ _ hRG13
      have hlG14 : ∀ b ∈ L, HSt2 b ≠ none := same_all hlG13 smt2
      obtain ⟨G14, rfl⟩ : ∃ G, G = HSt2 := ⟨_, rfl⟩
      have hot2 := hht2
      have hcv2 : ∀ v ∈ cutV rs (some ((am : Int) + 1)) none, v ∈ rs := fun v hv => by
        unfold cutV at hv
        exact List.mem_of_mem_drop (List.mem_of_mem_take hv)
      have hcl3 : (cutV rs (some ((am : Int) + 1)) none).length ≤ rs.length - am - 1 := by
        rw [show ((am : Int) + 1) = ((am + 1 : Nat) : Int) from rfl, cut_of _ _ (by omega), List.length_drop]
        omega
      refine ⟨.ref ra, rfl, .int am, rfl, _, 1, rfl, rfl, _, rfl, ra, rs, rfl, ((((((((((((((ksG1).trans ksG2).trans ksG3).trans ksG4).trans ksG5).trans ksG6).trans ksG7).trans ksG8).trans ksG9).trans ksG10).trans ksG11).trans ksG12).trans ksG13).trans ksG14) _ _ (ne_in nLra hrL) hora, fun t3 HSt3 smt3 nnt3 hht3 => ?_⟩
      have nLt3 : t3 ∉ L := fun z => by
        rcases nnt3 with y | y
        · exact hlG14 t3 z y
        · exact nLra (y ▸ z)
      have ksG15 : Kp r G14 HSt3 := fun b o _ h => smt3 b o h
      have hRG15 : HSt3 r = some (.lst [.int nG8]) := smt3 _ _ hRG14
      have hlG15 : ∀ b ∈ L, HSt3 b ≠ none := same_all hlG14 smt3
      obtain ⟨G15, rfl⟩ : ∃ G, G = HSt3 := ⟨_, rfl⟩
      have hot3 := hht3
      generalize cutV rs (some ((am : Int) + 1)) none = cs2 at hcv2 hcl3 hot3
      refine ⟨t2, t3, rs.take am ++ [.ref s4], cs2, rfl, rfl, (ksG15) _ _ (ne_in nLt2 hrL) hot2, hot3, ?_, fun t4 HSt4 smt4 nnt4 hht4 => ?_⟩
      · have h1 := List.length_take_le' am rs
        rw [List.length_append]
        exact Nat.le_of_lt (small1000 (show (rs.take am).length + 1 + cs2.length ≤ 1000 by omega))
      have nLt4 : t4 ∉ L := fun z => by
        rcases nnt4 with y | y | y
        · exact hlG15 t4 z y
        · exact nLt2 (y ▸ z)
        · exact nLt3 (y ▸ z)
      have ksG16 : Kp r G15 HSt4 := fun b o _ h => smt4 b o h
      have hRG16 : HSt4 r = some (.lst [.int nG8]) := smt4 _ _ hRG15
      have hlG16 : ∀ b ∈ L, HSt4 b ≠ none := same_all hlG15 smt4
      obtain ⟨G16, rfl⟩ : ∃ G, G = HSt4 := ⟨_, rfl⟩
      have hot4 := hht4
      have hl5 : (rs.take am ++ [V.ref s4] ++ cs2).length ≤ 60 := by
        have h1 := @List.length_take V am rs
        rw [List.length_append, List.length_append]
        have h2 : [V.ref s4].length = 1 := rfl
        omega
      have tht4 : Th L G16 3 61000 (.ref t4) := (Th.tup nLt4 hot4 (n := 2) (m := 938) (allApp (allApp (fun v hv => (((hthr v (List.mem_of_mem_take hv)).kp ((((((((((((((((ksG1).trans ksG2).trans ksG3).trans ksG4).trans ksG5).trans ksG6).trans ksG7).trans ksG8).trans ksG9).trans ksG10).trans ksG11).trans ksG12).trans ksG13).trans ksG14).trans ksG15).trans ksG16) hrL).mono (by decide) (by decide))) (all1 (ths4.kp (((((ksG12).trans ksG13).trans ksG14).trans ksG15).trans ksG16) hrL))) (fun v hv => (((hthr v (hcv2 v hv)).kp ((((((((((((((((ksG1).trans ksG2).trans ksG3).trans ksG4).trans ksG5).trans ksG6).trans ksG7).trans ksG8).trans ksG9).trans ksG10).trans ksG11).trans ksG12).trans ksG13).trans ksG14).trans ksG15).trans ksG16) hrL).mono (by decide) (by decide))))).mono (by decide) (by omega)
      refine ⟨(by show 2 ≤ sizeLine; decide), fun pG12 npG12 => ?_⟩
      have nLpG12 : pG12 ∉ L := fun z => hlG16 pG12 z npG12
      have ksG17 : Kp r G16 (upd G16 pG12 (.tup [tx cols, .ref t4])) := Kp.new Kp.rfl' npG12
      have hRG17 : (upd G16 pG12 (.tup [tx cols, .ref t4])) r = some (.lst [.int nG8]) := keep_new hRG16 npG12
      have hlG17 : ∀ b ∈ L, (upd G16 pG12 (.tup [tx cols, .ref t4])) b ≠ none := new_all hlG16
      have hopG12 : (upd G16 pG12 (.tup [tx cols, .ref t4])) pG12 = some (.tup [tx cols, .ref t4]) := upd_same
      generalize upd G16 pG12 (.tup [tx cols, .ref t4]) = G17 at ksG17 hRG17 hlG17 hopG12 ⊢
      exact q (.ref pG12) nG8 _ (((((((((((((((((ksG1).trans ksG2).trans ksG3).trans ksG4).trans ksG5).trans ksG6).trans ksG7).trans ksG8).trans ksG9).trans ksG10).trans ksG11).trans ksG12).trans ksG13).trans ksG14).trans ksG15).trans ksG16).trans ksG17) hRG17 (pair_th2 nLpG12 hopG12 (Th.tx hc9 (by omega)) (tht4.kp (ksG17) hrL))

/-! ### _law_right -/
def spRight (K : PySem.W.Frag) (Z : Ad) : Sp := fun vs H Q _ => ∃ (v : V) (d : PyData), vs = [v] ∧ TG Z.Ps H ∧ Fl Z.Ps H v d ∧ Sh 20 100000 d ∧ wd d ≤ 100000 ∧ ∀ (H' : Hp), Sx Z.Ps H H' → TG Z.Ps H' → Q (.bl true) H'
theorem ok_right (T : Tx K mg Z) (TB : Tb base mg Z) : FnG P w K mg base 11 Z.f_l_right Z.d_l_right ["thing"] (spRight K Z) := by
  have G_is_table : FnOk P w K mg base CX0 10 Z.f_is_table Z.d_is_table ["thing"] (spIsTab K Z) := ok_istab T TB
  have G_l_is_table : FnOk P w K mg base CX0 2 Z.f_l_is_table Z.d_l_is_table ["thing"] spLisTab := ok_listab T
  refine okG T.F_l_right sc_l_right (fun vs H Q E h => ?_) (fun cdv A outer s H vs Q E hgd hr h => ?_)
  · obtain ⟨v, d, rfl, _⟩ := h
    rfl
  · obtain ⟨v, d, rfl, tg, f, sh, hwd, q⟩ := h
    refine ⟨_, (pss_cons (ps_set (i := 1) sc_l_right.nd rfl (.inl rfl) (pe_callB (cReprK K hgd hr) (by rfl) T.m_repr (by decide +kernel) (pa_cons (pv 0) pa_nil)))
      (pss_cons (ps_set (i := 2) sc_l_right.nd rfl (.inl rfl) (pe_call G_is_table (hr.mono (by omega)) (by rfl) T.g_is_table T.F_is_table.kp T.b_is_table .nil pass0 (pa_cons (pv 0) pa_nil)))
      (pss_one (ps_ret (pe_and (pe_callB (isiK K) (by rfl) T.m_isinstance (by decide +kernel) (pa_cons (pv 2) (pa_cons (pe_bltn (v := .ty "bool") (by rfl) T.m_bool (by decide +kernel) rfl) pa_nil))) (pe_and (pe_cmpR op_eq (pe_callB (cReprK K hgd hr) (by rfl) T.m_repr (by decide +kernel) (pa_cons (pv 0) pa_nil)) (pv 1) (nomark _)) (pe_one (pe_cmpR op_eq (pv 2) (pe_call G_l_is_table (hr.mono (by omega)) (by rfl) T.g_l_is_table T.F_l_is_table.kp T.b_l_is_table .nil pass0 (pa_cons (pv 0) pa_nil)) (nomark _))))))))), ?_⟩
    refine ⟨v, rfl, v, d, rfl, Ft.dp _ _ f.to, sh, ?_⟩
    refine ⟨v, rfl, v, d, rfl, tg, f, sh, fun H2 sx2 tg2 => ?_⟩
    have f2 := f.sx sx2 fun _ h => h
    refine ⟨.bl (isTabD d), rfl, .bl (isTabD d), .ty "bool", _, _, true, rfl, .ty _, ty_ft (d := .bool (isTabD d)) (.bl _), kit_bl (.bool (isTabD d)), _, rfl, iteT ?_⟩
    refine ⟨v, rfl, v, d, rfl, Ft.dp _ _ f2.to, sh, .str d.shown, rfl, rfl, _, rfl, ?_⟩
    rw [decide_eq_true rfl]
    refine iteT ⟨.bl (isTabD d), rfl, v, rfl, v, d, rfl, f2.to, sh, hwd, fun H3 sm3 => ⟨rfl, ?_⟩⟩
    rw [decide_eq_true rfl]
    exact q H3 (sx2.trans (Same.sx sm3)) (tg2.same sm3)

/-! ### the law -/
theorem rep_one (v : V) (n : Nat) : (List.replicate n [v]).flatten = List.replicate n v := by
  induction n with
  | zero => rfl
  | succ n ih =>
    rw [List.replicate_succ, List.flatten_cons, ih, List.replicate_succ]
    rfl
theorem RowAt.kx {L : List Addr} {H H' : Hp} {k : Nat} {v : V} (h : RowAt L H k v) (kx : Kx L H H') : RowAt L H' k v := by
  obtain ⟨p, ns, e, np, hp, hl, hb⟩ := h
  exact ⟨p, ns, e, np, kx _ _ np hp, hl, hb⟩
def spLaw (K : PySem.W.Frag) (Z : Ad) : Sp := fun vs H Q _ => ∃ (a : Addr) (ns : List Int), vs = [.ref a] ∧ SqL K H a (ns.map V.int) ∧ ns.length ≤ 63 ∧ (∀ P ∈ Z.Ps, GxR.TabG H P) ∧ ∀ H', Q (.bl true) H'
set_option maxHeartbeats 16000000 in
theorem ok_law0 (T : Tx K mg Z) (TB : Tb base mg Z) (G_l_bent : FnOk P w K mg base CX0 2 Z.f_l_bent Z.d_l_bent ["reel", "table"] (spBent K)) (G_l_bent_more : FnOk P w K mg base CX0 2 Z.f_l_bent_more Z.d_l_bent_more ["reel", "table"] (spBent K)) : FnG P w K mg base 13 Z.f_law Z.d_law ["script"] (spLaw K Z) := by
  have G_l_reel : FnOk P w K mg base CX0 1 Z.f_l_reel Z.d_l_reel ["script", "k"] (spReel K) := ok_reel T
  have G_l_pick : FnOk P w K mg base CX0 1 Z.f_l_pick Z.d_l_pick ["reel", "many"] (spPick K) := ok_pick T
  have G_l_table : FnOk P w K mg base CX0 3 Z.f_l_table Z.d_l_table ["reel", "most", "rows"] (spTable K) := ok_table T
  have G_is_table : FnOk P w K mg base CX0 10 Z.f_is_table Z.d_is_table ["thing"] (spIsTab K Z) := ok_istab T TB
  have G_l_right : FnG P w K mg base 11 Z.f_l_right Z.d_l_right ["thing"] (spRight K Z) := ok_right T TB
  refine okG T.F_law sc_law (fun vs H Q E h => ?_) (fun cdv A outer s H vs Q E hgd hr h => ?_)
  · obtain ⟨a, ns, rfl, _⟩ := h
    rfl
  · obtain ⟨a, ns, rfl, hS, hlen, tgA, q⟩ := h
    have tg : TG Z.Ps H := tgA
    refine ⟨_, (pss_cons (ps_for PassesOwn.never rfl (pi_range1 (by rfl) T.m_range (pa_cons (pe_callB (call_max2 rfl) (by rfl) T.m_max (by decide +kernel) (pa_cons pe_int (pa_cons (pe_callB (call_min2 rfl) (by rfl) T.m_min (by decide +kernel) (pa_cons pe_int (pa_cons (pe_callB (cLenSq K) (by rfl) T.m_len (by decide +kernel) (pa_cons (pv 0) pa_nil)) pa_nil))) pa_nil))) pa_nil)) (pg_name (i := 1) sc_law.nd rfl (.inl rfl)) (pss_cons (ps_set (i := 2) sc_law.nd rfl (.inl rfl) (pe_call G_l_reel (hr.mono (by omega)) (by rfl) T.g_l_reel T.F_l_reel.kp T.b_l_reel .nil pass0 (pa_cons (pv 0) (pa_cons (pv 1) pa_nil))))
      (pss_cons (ps_set (i := 3) sc_law.nd rfl (.inl rfl) (pe_call G_l_table (hr.mono (by omega)) (by rfl) T.g_l_table T.F_l_table.kp T.b_l_table .nil pass0 (pa_cons (pv 2) (pa_cons pe_int (pa_cons (pe_ix (ixL K) (pe_lst (pa_cons pe_int (pa_cons pe_int pa_nil))) (pe_callB (call_min2 rfl) (by rfl) T.m_min (by decide +kernel) (pa_cons (pv 1) (pa_cons pe_int pa_nil))) (fun _ _ => rfl)) pa_nil)))))
      (pss_cons (ps_if (pt_cmpR op_isnot_bl (pe_call G_is_table (hr.mono (by omega)) (by rfl) T.g_is_table T.F_is_table.kp T.b_is_table .nil pass0 (pa_cons (pv 3) pa_nil)) pe_bl (nomark _)) (pss_one (ps_ret pe_bl)) pss_nil)
      (pss_cons (ps_for PassesOwn.never rfl (pi_range1 (by rfl) T.m_range (pa_cons pe_int pa_nil)) (pg_name (i := 4) sc_law.nd rfl (.inl rfl)) (pss_one (ps_if (pt_not (pt_val (pe_callG G_l_right hgd (hr.mono (by omega)) (by rfl) T.g_l_right T.F_l_right.kp T.b_l_right (pa_cons (pe_call G_l_bent (hr.mono (by omega)) (by rfl) T.g_l_bent T.F_l_bent.kp T.b_l_bent .nil pass0 (pa_cons (pv 2) (pa_cons (pv 3) pa_nil))) pa_nil)))) (pss_one (ps_ret pe_bl)) pss_nil)))
      (pss_one (ps_for PassesOwn.never rfl (pi_range1 (by rfl) T.m_range (pa_cons pe_int pa_nil)) (pg_name (i := 4) sc_law.nd rfl (.inl rfl)) (pss_one (ps_if (pt_not (pt_val (pe_callG G_l_right hgd (hr.mono (by omega)) (by rfl) T.g_l_right T.F_l_right.kp T.b_l_right (pa_cons (pe_call G_l_bent_more (hr.mono (by omega)) (by rfl) T.g_l_bent_more T.F_l_bent_more.kp T.b_l_bent_more .nil pass0 (pa_cons (pv 2) (pa_cons (pv 3) pa_nil))) pa_nil)))) (pss_one (ps_ret pe_bl)) pss_nil)))))))))
      (pss_cons (ps_set (i := 5) sc_law.nd rfl (.inl rfl) (pe_tup (pa_cons pe_str (pa_cons (pe_op op_repT (pe_tup (pa_cons (pe_tup (pa_cons pe_int (pa_cons pe_int pa_nil))) pa_nil)) pe_int) pa_nil))))
      (pss_cons (ps_set (i := 6) sc_law.nd rfl (.inl rfl) (pe_lst (pa_cons (pv 5) (pa_cons (pe_tup (pa_cons pe_str (pa_cons (pe_op (catWK K) (pe_ix (ixT K) (pv 5) pe_int (fun _ _ => rfl)) (pe_tup (pa_cons (pe_tup (pa_cons pe_int (pa_cons pe_int pa_nil))) pa_nil))) pa_nil))) (pa_cons (pe_tup (pa_cons pe_str (pa_cons (pe_tup pa_nil) pa_nil))) (pa_cons (pe_tup (pa_cons pe_str (pa_cons (pe_tup (pa_cons (pe_op op_repT (pe_tup (pa_cons pe_int pa_nil)) pe_int) pa_nil)) pa_nil))) (pa_cons pe_non (pa_cons pe_bl (pa_cons (pe_tup pa_nil) (pa_cons pe_str (pa_cons (pe_lst pa_nil) (pa_cons pe_int pa_nil))))))))))))
      (pss_one (ps_ret (pe_cmpR (notInSq K) pe_bl (pe_lc (own := [("thing", 7)]) (tt := tYes) (by rfl) sc_law.nd (piL K (pv 6)) (blkOk_by (own := [("thing", 7)]) (by kernel_rfl)) (fun _ _ _ _ _ => (pg_name (i := 7) sc_law.nd rfl (.inl rfl))) (fun _ _ _ _ _ => pts_nil) (fun _ _ _ _ _ => (pe_callG G_l_right hgd (hr.mono (by omega)) (by rfl) T.g_l_right T.F_l_right.kp T.b_l_right (pa_cons (pv 7) pa_nil)))) (by rfl))))))), ?_⟩
    refine ⟨.ref a, rfl, a, _, rfl, .inl hS, 8, _, rfl, 2, _, rfl, _, rfl, ?_, ?_, ?_⟩
    · split <;> (try split) <;> omega
    · split <;> (try split) <;> omega
    generalize hN : (if (if ((ns.map V.int).length : Int) < 8 then ((ns.map V.int).length : Int) else 8) > 2 then (if ((ns.map V.int).length : Int) < 8 then ((ns.map V.int).length : Int) else 8) else 2).toNat = N
    have hN8 : N ≤ 8 := by
      rw [← hN]
      split <;> (try split) <;> omega
    refine for_range (fun i σ H' => ∃ y1 y2 y3 y4 y5 y6 y7 : Option V, σ = [some (.ref a), y1, y2, y3, y4, y5, y6, y7] ∧ SqL K H' a (ns.map V.int) ∧ TG Z.Ps H') ⟨none, none, none, none, none, none, none, rfl, hS, tg⟩ (fun i σ H0 hi hP => ?_) (fun σ H0 hP => ?_)
    · obtain ⟨y1, y2, y3, y4, y5, y6, y7, rfl, hS0, tg0⟩ := hP
      -- reel
      refine ⟨.ref a, rfl, _, rfl, a, ns, i, by rw [Int.zero_add]; rfl, hS0, by omega, fun n0 r nr => ?_⟩
      have sm1 : Same H0 (upd H0 r (.lst [.int n0])) := Same.new (Same.refl H0) nr
      have hR1 : (upd H0 r (.lst [.int n0])) r = some (.lst [.int n0]) := upd_same
      generalize upd H0 r (.lst [.int n0]) = H1 at sm1 hR1 ⊢
      have kpx : ∀ {G G' : Hp}, Sx Z.Ps H0 G → Kp r G G' → Sx Z.Ps H0 G' := fun s k b o nb h => k b o (ne_of_none h nr) (s b o nb h)
      refine ⟨.ref r, rfl, (by show 2 ≤ sizeLine; decide), fun L nL => ?_⟩
      have sm2 : Same H0 (upd H1 L (.lst [.int 60, .int 20])) := Same.new sm1 nL
      have hR2 : (upd H1 L (.lst [.int 60, .int 20])) r = some (.lst [.int n0]) := keep_new hR1 nL
      have hL2 : (upd H1 L (.lst [.int 60, .int 20])) L = some (.lst [.int 60, .int 20]) := upd_same
      generalize upd H1 L (.lst [.int 60, .int 20]) = H2 at sm2 hR2 hL2 ⊢
      have hix0 : (0 : Int) ≤ (if (1 : Int) < 0 + (i : Int) then 1 else 0 + (i : Int)) := by split <;> omega
      have hix1 : (if (1 : Int) < 0 + (i : Int) then 1 else 0 + (i : Int)) < 2 := by split <;> omega
      obtain ⟨tt, htt, htat⟩ := at_ints (ns := [60, 20]) hix0 hix1
      have htb : ∀ z ∈ ([60, 20] : List Int), 0 ≤ z ∧ z ≤ 60 := by decide
      have htt0 := (htb tt htt).1
      have htt1 := (htb tt htt).2
      refine ⟨_, rfl, _, 1, rfl, L, [60, 20].map V.int, _, .int tt, rfl, rfl, .inl (.inl hL2), htat, r, n0, 6, tt.toNat, by rw [Int.toNat_of_nonneg htt0]; rfl, hR2, by decide, by decide, by omega, fun cols rows tv n3 H3 kp3 hR3 fT hc hc1 hc2 hrs hrn => ?_⟩
      have sm3 : Same H0 H3 := Same.kpN sm2 nr kp3
      have tg3 : TG Z.Ps H3 := tg0.same sm3
      have hcc : ∀ c ∈ cols, c < 128 := fun c h => by
        have := (hc.az c h).2
        omega
      have hc9 : ∀ c ∈ cols, c < 1000 := fun c h => by
        have := hcc c h
        omega
      have htu := notup_all hR3 tg3
      have hld := held_all hR3 tg3
      have hrL : r ∈ r :: Z.Ps := by simp
      have hPs : ∀ b ∈ Z.Ps, b ∈ r :: Z.Ps := fun b h => List.mem_cons_of_mem _ h
      have h60 : rows.length ≤ 60 := by omega
      have fTL : Fl (r :: Z.Ps) H3 tv (tabD cols rows) := Fz.fl htu fT
      have sht := tab_sh hc9 hc2 hrs h60
      obtain ⟨ta, ra, rs, rfl, nta, nra, hta, hra, hrsl, hrw⟩ := tab_rows htu hrs fT
      refine ⟨.ref ta, rfl, .ref ta, tabD cols rows, rfl, tg3, fTL.sub hPs, sht, fun H4 sx4 tg4 => ?_⟩
      refine ⟨_, true, rfl, rfl, _, rfl, ite2 (fun e => ?_) (fun e => ?_)⟩
      · exfalso
        rw [tab_drawn hc hc1 hc2 hrs h60] at e
        exact absurd e (by decide)
      have kx4 : Kx (r :: Z.Ps) H3 H4 := Kx.sx sx4 hPs
      refine ⟨5, rfl, by decide, by decide, for_range (fun j σ H' => ∃ (n' : Int) (y4 y5 y6 y7 : Option V), σ = [some (.ref a), some (.int (0 + (i : Nat))), some (.ref r), some (.ref ta), y4, y5, y6, y7] ∧ Sx Z.Ps H0 H' ∧ TG Z.Ps H' ∧ Kx (r :: Z.Ps) H3 H' ∧ H' r = some (.lst [.int n']))
        ⟨n3, _, _, _, _, rfl, (Same.sx sm3).trans sx4, tg4, kx4, sx4.lst tg3 hR3⟩ (fun j σ HA hj hP => ?_) (fun σ H5 hP => ?_)⟩
      · obtain ⟨n1, y4, y5, y6, y7, rfl, sxA, tgA, kxA, hRA⟩ := hP
        refine ⟨.ref r, rfl, .ref ta, rfl, r :: Z.Ps, r, n1, cols, ta, ra, rs, rfl, hRA, hrL, held_all hRA tgA, hc1, hc2, hcc, nta, nra, kxA _ _ nta hta, kxA _ _ nra hra, by omega, (fun v hv => (hrw v hv).kx kxA), fun v n2 HB kpB hRB thB => ?_⟩
        obtain ⟨d, f, sh, wdx⟩ := thB
        have tgB : TG Z.Ps HB := tgA.kp hRA kpB
        refine ⟨v, d, rfl, tgB, f.sub hPs, sh.mono (by decide) (by decide), by omega, fun HC sxC tgC => ?_⟩
        refine ⟨_, rfl, iteF ?_⟩
        exact ⟨n2, _, _, _, _, rfl, (kpx sxA kpB).trans sxC, tgC, (kxA.trans (Kx.kp kpB hrL)).trans (Kx.sx sxC hPs), sxC.lst tgB hRB⟩
      obtain ⟨nH5, y4, y5, y6, y7, rfl, sxH5, tgH5, kxH5, hRH5⟩ := hP
      refine ⟨3, rfl, by decide, by decide, for_range (fun j σ H' => ∃ (n' : Int) (y4 y5 y6 y7 : Option V), σ = [some (.ref a), some (.int (0 + (i : Nat))), some (.ref r), some (.ref ta), y4, y5, y6, y7] ∧ Sx Z.Ps H0 H' ∧ TG Z.Ps H' ∧ Kx (r :: Z.Ps) H3 H' ∧ H' r = some (.lst [.int n']))
        ⟨nH5, _, _, _, _, rfl, sxH5, tgH5, kxH5, hRH5⟩ (fun j σ HA hj hP => ?_) (fun σ H6 hP => ?_)⟩
      · obtain ⟨n1, y4, y5, y6, y7, rfl, sxA, tgA, kxA, hRA⟩ := hP
        refine ⟨.ref r, rfl, .ref ta, rfl, r :: Z.Ps, r, n1, cols, ta, ra, rs, rfl, hRA, hrL, held_all hRA tgA, hc1, hc2, hcc, nta, nra, kxA _ _ nta hta, kxA _ _ nra hra, by omega, (fun v hv => (hrw v hv).kx kxA), fun v n2 HB kpB hRB thB => ?_⟩
        obtain ⟨d, f, sh, wdx⟩ := thB
        have tgB : TG Z.Ps HB := tgA.kp hRA kpB
        refine ⟨v, d, rfl, tgB, f.sub hPs, sh.mono (by decide) (by decide), by omega, fun HC sxC tgC => ?_⟩
        refine ⟨_, rfl, iteF ?_⟩
        exact ⟨n2, _, _, _, _, rfl, (kpx sxA kpB).trans sxC, tgC, (kxA.trans (Kx.kp kpB hrL)).trans (Kx.sx sxC hPs), sxC.lst tgB hRB⟩
      obtain ⟨nH6, y4, y5, y6, y7, rfl, sxH6, tgH6, kxH6, hRH6⟩ := hP
      exact ⟨_, _, _, _, _, _, _, rfl, sxH6.seqL tg0 hS0, tgH6⟩
    obtain ⟨y1, y2, y3, y4, y5, y6, y7, rfl, hS0, tg0⟩ := hP
    have hl0 : ∀ b ∈ Z.Ps, H0 b ≠ none := fun b h => by
      obtain ⟨ps, hp, _⟩ := tg0 b h
      rw [hp]
      simp
    refine ⟨(by show 2 ≤ sizeLine; decide), fun pG1 npG1 => ?_⟩
    have nLpG1 : pG1 ∉ Z.Ps := fun z => hl0 pG1 z npG1
    have ksG1 : Same H0 (upd H0 pG1 (.tup [.int 0, .int 999])) := Same.new (Same.refl _) npG1
    have hlG1 : ∀ b ∈ Z.Ps, (upd H0 pG1 (.tup [.int 0, .int 999])) b ≠ none := new_all hl0
    have hopG1 : (upd H0 pG1 (.tup [.int 0, .int 999])) pG1 = some (.tup [.int 0, .int 999]) := upd_same
    generalize upd H0 pG1 (.tup [.int 0, .int 999]) = G1 at ksG1 hlG1 hopG1 ⊢
    have tpG1 : Th Z.Ps G1 2 900 (.ref pG1) := (Th.tup nLpG1 hopG1 (n := 0) (m := 10) (allC (Th.intS (by decide) (by decide)) (allC (Th.intS (by decide) (by decide)) all0))).mono (by decide) (Nat.le_of_ble_eq_true rfl)
    refine ⟨(by show 1 ≤ sizeLine; decide), fun pG2 npG2 => ?_⟩
    have nLpG2 : pG2 ∉ Z.Ps := fun z => hlG1 pG2 z npG2
    have ksG2 : Same G1 (upd G1 pG2 (.tup [.ref pG1])) := Same.new (Same.refl _) npG2
    have hlG2 : ∀ b ∈ Z.Ps, (upd G1 pG2 (.tup [.ref pG1])) b ≠ none := new_all hlG1
    have hopG2 : (upd G1 pG2 (.tup [.ref pG1])) pG2 = some (.tup [.ref pG1]) := upd_same
    generalize upd G1 pG2 (.tup [.ref pG1]) = G2 at ksG2 hlG2 hopG2 ⊢
    refine ⟨pG2, 60, [.ref pG1], rfl, rfl, .inl (.inl (hopG2)), by simp, by decide, by decide, (by show 1 ≤ 1000; decide), fun pG3 npG3 => ?_⟩
    rw [rep_one (V.ref pG1) (60 : Int).toNat, show (60 : Int).toNat = 60 from rfl]
    have nLpG3 : pG3 ∉ Z.Ps := fun z => hlG2 pG3 z npG3
    have ksG3 : Same G2 (upd G2 pG3 (.tup (List.replicate 60 (V.ref pG1)))) := Same.new (Same.refl _) npG3
    have hlG3 : ∀ b ∈ Z.Ps, (upd G2 pG3 (.tup (List.replicate 60 (V.ref pG1)))) b ≠ none := new_all hlG2
    have hopG3 : (upd G2 pG3 (.tup (List.replicate 60 (V.ref pG1)))) pG3 = some (.tup (List.replicate 60 (V.ref pG1))) := upd_same
    generalize upd G2 pG3 (.tup (List.replicate 60 (V.ref pG1))) = G3 at ksG3 hlG3 hopG3 ⊢
    have tR : Th Z.Ps G3 3 61000 (.ref pG3) := (Th.tup nLpG3 hopG3 (n := 2) (m := 900) (rep_all (tpG1.same (Same.trans ksG2 ksG3)) 60)).mono (by decide) (by rw [List.length_replicate]; decide)
    refine ⟨(by show 2 ≤ sizeLine; decide), fun pG4 npG4 => ?_⟩
    have nLpG4 : pG4 ∉ Z.Ps := fun z => hlG3 pG4 z npG4
    have ksG4 : Same G3 (upd G3 pG4 (.tup [.str (Str.ofString "az"), .ref pG3])) := Same.new (Same.refl _) npG4
    have hlG4 : ∀ b ∈ Z.Ps, (upd G3 pG4 (.tup [.str (Str.ofString "az"), .ref pG3])) b ≠ none := new_all hlG3
    have hopG4 : (upd G3 pG4 (.tup [.str (Str.ofString "az"), .ref pG3])) pG4 = some (.tup [.str (Str.ofString "az"), .ref pG3]) := upd_same
    generalize upd G3 pG4 (.tup [.str (Str.ofString "az"), .ref pG3]) = G4 at ksG4 hlG4 hopG4 ⊢
    have tM : Th Z.Ps G4 10 90000 (.ref pG4) := pair_th2 nLpG4 hopG4 (Th.tx (l := [97, 122]) (by decide) (by decide)) (tR.same ksG4)
    refine ⟨.ref pG4, rfl, .ref pG4, rfl, pG4, [.str (Str.ofString "az"), .ref pG3], 1, .ref pG3, rfl, rfl, .inl (.inl (hopG4)), rfl, (by show 2 ≤ sizeLine; decide), fun pG5 npG5 => ?_⟩
    have nLpG5 : pG5 ∉ Z.Ps := fun z => hlG4 pG5 z npG5
    have ksG5 : Same G4 (upd G4 pG5 (.tup [.int 0, .int 0])) := Same.new (Same.refl _) npG5
    have hlG5 : ∀ b ∈ Z.Ps, (upd G4 pG5 (.tup [.int 0, .int 0])) b ≠ none := new_all hlG4
    have hopG5 : (upd G4 pG5 (.tup [.int 0, .int 0])) pG5 = some (.tup [.int 0, .int 0]) := upd_same
    generalize upd G4 pG5 (.tup [.int 0, .int 0]) = G5 at ksG5 hlG5 hopG5 ⊢
    have tpG5 : Th Z.Ps G5 2 900 (.ref pG5) := (Th.tup nLpG5 hopG5 (n := 0) (m := 10) (allC (Th.intS (by decide) (by decide)) (allC (Th.intS (by decide) (by decide)) all0))).mono (by decide) (Nat.le_of_ble_eq_true rfl)
    refine ⟨(by show 1 ≤ sizeLine; decide), fun pG6 npG6 => ?_⟩
    have nLpG6 : pG6 ∉ Z.Ps := fun z => hlG5 pG6 z npG6
    have ksG6 : Same G5 (upd G5 pG6 (.tup [.ref pG5])) := Same.new (Same.refl _) npG6
    have hlG6 : ∀ b ∈ Z.Ps, (upd G5 pG6 (.tup [.ref pG5])) b ≠ none := new_all hlG5
    have hopG6 : (upd G5 pG6 (.tup [.ref pG5])) pG6 = some (.tup [.ref pG5]) := upd_same
    generalize upd G5 pG6 (.tup [.ref pG5]) = G6 at ksG6 hlG6 hopG6 ⊢
    refine ⟨pG3, pG6, List.replicate 60 (V.ref pG1), [.ref pG5], rfl, rfl, (Same.trans (Same.trans ksG4 ksG5) ksG6) _ _ hopG3, hopG6, (by rw [List.length_replicate]; show 60 + 1 ≤ sizeLine; decide), fun u1 HU smU nnU hhU => ?_⟩
    have nLu1 : u1 ∉ Z.Ps := fun z => by
      rcases nnU with y | y | y
      · exact hlG6 u1 z y
      · exact nLpG3 (y ▸ z)
      · exact nLpG6 (y ▸ z)
    have ksG7 : Same G6 HU := smU
    have hlG7 : ∀ b ∈ Z.Ps, HU b ≠ none := same_all hlG6 smU
    obtain ⟨G7, rfl⟩ : ∃ G, G = HU := ⟨_, rfl⟩
    have tU : Th Z.Ps G7 3 61000 (.ref u1) := (Th.tup nLu1 hhU (n := 2) (m := 900) (allApp (rep_all (tpG1.same (Same.trans (Same.trans (Same.trans (Same.trans (Same.trans ksG2 ksG3) ksG4) ksG5) ksG6) ksG7)) 60) (all1 (tpG5.same (Same.trans ksG6 ksG7))))).mono (by decide) (by rw [List.length_append, List.length_replicate]; show (900 + 1) * (60 + 1) ≤ 61000; decide)
    refine ⟨(by show 2 ≤ sizeLine; decide), fun pG7 npG7 => ?_⟩
    have nLpG7 : pG7 ∉ Z.Ps := fun z => hlG7 pG7 z npG7
    have ksG8 : Same G7 (upd G7 pG7 (.tup [.str (Str.ofString "az"), .ref u1])) := Same.new (Same.refl _) npG7
    have hlG8 : ∀ b ∈ Z.Ps, (upd G7 pG7 (.tup [.str (Str.ofString "az"), .ref u1])) b ≠ none := new_all hlG7
    have hopG7 : (upd G7 pG7 (.tup [.str (Str.ofString "az"), .ref u1])) pG7 = some (.tup [.str (Str.ofString "az"), .ref u1]) := upd_same
    generalize upd G7 pG7 (.tup [.str (Str.ofString "az"), .ref u1]) = G8 at ksG8 hlG8 hopG7 ⊢
    have tO2 : Th Z.Ps G8 10 90000 (.ref pG7) := pair_th2 nLpG7 hopG7 (Th.tx (l := [97, 122]) (by decide) (by decide)) (tU.same ksG8)
    refine ⟨(by show 0 ≤ sizeLine; decide), fun pG8 npG8 => ?_⟩
    have nLpG8 : pG8 ∉ Z.Ps := fun z => hlG8 pG8 z npG8
    have ksG9 : Same G8 (upd G8 pG8 (.tup [])) := Same.new (Same.refl _) npG8
    have hlG9 : ∀ b ∈ Z.Ps, (upd G8 pG8 (.tup [])) b ≠ none := new_all hlG8
    have hopG8 : (upd G8 pG8 (.tup [])) pG8 = some (.tup []) := upd_same
    generalize upd G8 pG8 (.tup []) = G9 at ksG9 hlG9 hopG8 ⊢
    have tpG8 : Th Z.Ps G9 3 900 (.ref pG8) := (Th.tup nLpG8 hopG8 (n := 0) (m := 0) all0).mono (by decide) (Nat.le_of_ble_eq_true rfl)
    refine ⟨(by show 2 ≤ sizeLine; decide), fun pG9 npG9 => ?_⟩
    have nLpG9 : pG9 ∉ Z.Ps := fun z => hlG9 pG9 z npG9
    have ksG10 : Same G9 (upd G9 pG9 (.tup [.str (Str.ofString "a"), .ref pG8])) := Same.new (Same.refl _) npG9
    have hlG10 : ∀ b ∈ Z.Ps, (upd G9 pG9 (.tup [.str (Str.ofString "a"), .ref pG8])) b ≠ none := new_all hlG9
    have hopG9 : (upd G9 pG9 (.tup [.str (Str.ofString "a"), .ref pG8])) pG9 = some (.tup [.str (Str.ofString "a"), .ref pG8]) := upd_same
    generalize upd G9 pG9 (.tup [.str (Str.ofString "a"), .ref pG8]) = G10 at ksG10 hlG10 hopG9 ⊢
    have tpG9 : Th Z.Ps G10 4 2000 (.ref pG9) := (Th.tup nLpG9 hopG9 (n := 3) (m := 900) (allC (Th.tx (l := [97]) (by decide) (by decide)) (allC ((tpG8.same ksG10)) all0))).mono (by decide) (Nat.le_of_ble_eq_true rfl)
    refine ⟨(by show 1 ≤ sizeLine; decide), fun pG10 npG10 => ?_⟩
    have nLpG10 : pG10 ∉ Z.Ps := fun z => hlG10 pG10 z npG10
    have ksG11 : Same G10 (upd G10 pG10 (.tup [.int 1])) := Same.new (Same.refl _) npG10
    have hlG11 : ∀ b ∈ Z.Ps, (upd G10 pG10 (.tup [.int 1])) b ≠ none := new_all hlG10
    have hopG10 : (upd G10 pG10 (.tup [.int 1])) pG10 = some (.tup [.int 1]) := upd_same
    generalize upd G10 pG10 (.tup [.int 1]) = G11 at ksG11 hlG11 hopG10 ⊢
    refine ⟨pG10, 6, [.int 1], rfl, rfl, .inl (.inl (hopG10)), by simp, by decide, by decide, (by show 1 ≤ 1000; decide), fun pG11 npG11 => ?_⟩
    rw [rep_one (V.int 1) (6 : Int).toNat, show (6 : Int).toNat = 6 from rfl]
    have nLpG11 : pG11 ∉ Z.Ps := fun z => hlG11 pG11 z npG11
    have ksG12 : Same G11 (upd G11 pG11 (.tup (List.replicate 6 (V.int 1)))) := Same.new (Same.refl _) npG11
    have hlG12 : ∀ b ∈ Z.Ps, (upd G11 pG11 (.tup (List.replicate 6 (V.int 1)))) b ≠ none := new_all hlG11
    have hopG11 : (upd G11 pG11 (.tup (List.replicate 6 (V.int 1)))) pG11 = some (.tup (List.replicate 6 (V.int 1))) := upd_same
    generalize upd G11 pG11 (.tup (List.replicate 6 (V.int 1))) = G12 at ksG12 hlG12 hopG11 ⊢
    have tpG11 : Th Z.Ps G12 2 900 (.ref pG11) := (Th.tup nLpG11 hopG11 (n := 0) (m := 10) (rep_all (Th.intS (by decide) (by decide)) 6)).mono (by decide) (by rw [List.length_replicate]; decide)
    refine ⟨(by show 1 ≤ sizeLine; decide), fun pG12 npG12 => ?_⟩
    have nLpG12 : pG12 ∉ Z.Ps := fun z => hlG12 pG12 z npG12
    have ksG13 : Same G12 (upd G12 pG12 (.tup [.ref pG11])) := Same.new (Same.refl _) npG12
    have hlG13 : ∀ b ∈ Z.Ps, (upd G12 pG12 (.tup [.ref pG11])) b ≠ none := new_all hlG12
    have hopG12 : (upd G12 pG12 (.tup [.ref pG11])) pG12 = some (.tup [.ref pG11]) := upd_same
    generalize upd G12 pG12 (.tup [.ref pG11]) = G13 at ksG13 hlG13 hopG12 ⊢
    have tpG12 : Th Z.Ps G13 3 1000 (.ref pG12) := (Th.tup nLpG12 hopG12 (n := 2) (m := 900) (allC ((tpG11.same ksG13)) all0)).mono (by decide) (Nat.le_of_ble_eq_true rfl)
    refine ⟨(by show 2 ≤ sizeLine; decide), fun pG13 npG13 => ?_⟩
    have nLpG13 : pG13 ∉ Z.Ps := fun z => hlG13 pG13 z npG13
    have ksG14 : Same G13 (upd G13 pG13 (.tup [.str (Str.ofString "abcdef"), .ref pG12])) := Same.new (Same.refl _) npG13
    have hlG14 : ∀ b ∈ Z.Ps, (upd G13 pG13 (.tup [.str (Str.ofString "abcdef"), .ref pG12])) b ≠ none := new_all hlG13
    have hopG13 : (upd G13 pG13 (.tup [.str (Str.ofString "abcdef"), .ref pG12])) pG13 = some (.tup [.str (Str.ofString "abcdef"), .ref pG12]) := upd_same
    generalize upd G13 pG13 (.tup [.str (Str.ofString "abcdef"), .ref pG12]) = G14 at ksG14 hlG14 hopG13 ⊢
    have tpG13 : Th Z.Ps G14 4 4000 (.ref pG13) := (Th.tup nLpG13 hopG13 (n := 3) (m := 1000) (allC (Th.tx (l := [97, 98, 99, 100, 101, 102]) (by decide) (by decide)) (allC ((tpG12.same ksG14)) all0))).mono (by decide) (Nat.le_of_ble_eq_true rfl)
    refine ⟨(by show 0 ≤ sizeLine; decide), fun pG14 npG14 => ?_⟩
    have nLpG14 : pG14 ∉ Z.Ps := fun z => hlG14 pG14 z npG14
    have ksG15 : Same G14 (upd G14 pG14 (.tup [])) := Same.new (Same.refl _) npG14
    have hlG15 : ∀ b ∈ Z.Ps, (upd G14 pG14 (.tup [])) b ≠ none := new_all hlG14
    have hopG14 : (upd G14 pG14 (.tup [])) pG14 = some (.tup []) := upd_same
    generalize upd G14 pG14 (.tup []) = G15 at ksG15 hlG15 hopG14 ⊢
    have tpG14 : Th Z.Ps G15 3 900 (.ref pG14) := (Th.tup nLpG14 hopG14 (n := 0) (m := 0) all0).mono (by decide) (Nat.le_of_ble_eq_true rfl)
    refine ⟨(by show 0 ≤ sizeLine; decide), fun pG15 npG15 => ?_⟩
    have nLpG15 : pG15 ∉ Z.Ps := fun z => hlG15 pG15 z npG15
    have ksG16 : Same G15 (upd G15 pG15 (.lst [])) := Same.new (Same.refl _) npG15
    have hlG16 : ∀ b ∈ Z.Ps, (upd G15 pG15 (.lst [])) b ≠ none := new_all hlG15
    have hopG15 : (upd G15 pG15 (.lst [])) pG15 = some (.lst []) := upd_same
    generalize upd G15 pG15 (.lst []) = G16 at ksG16 hlG16 hopG15 ⊢
    have tpG15 : Th Z.Ps G16 3 900 (.ref pG15) := (Th.lst nLpG15 hopG15 (n := 0) (m := 0) all0).mono (by decide) (Nat.le_of_ble_eq_true rfl)
    refine ⟨(by show 10 ≤ sizeLine; decide), fun pG16 npG16 => ?_⟩
    have nLpG16 : pG16 ∉ Z.Ps := fun z => hlG16 pG16 z npG16
    have ksG17 : Same G16 (upd G16 pG16 (.lst [.ref pG4, .ref pG7, .ref pG9, .ref pG13, .non, .bl true, .ref pG14, .str (Str.ofString "a"), .ref pG15, .int 7])) := Same.new (Same.refl _) npG16
    have hlG17 : ∀ b ∈ Z.Ps, (upd G16 pG16 (.lst [.ref pG4, .ref pG7, .ref pG9, .ref pG13, .non, .bl true, .ref pG14, .str (Str.ofString "a"), .ref pG15, .int 7])) b ≠ none := new_all hlG16
    have hopG16 : (upd G16 pG16 (.lst [.ref pG4, .ref pG7, .ref pG9, .ref pG13, .non, .bl true, .ref pG14, .str (Str.ofString "a"), .ref pG15, .int 7])) pG16 = some (.lst [.ref pG4, .ref pG7, .ref pG9, .ref pG13, .non, .bl true, .ref pG14, .str (Str.ofString "a"), .ref pG15, .int 7]) := upd_same
    generalize upd G16 pG16 (.lst [.ref pG4, .ref pG7, .ref pG9, .ref pG13, .non, .bl true, .ref pG14, .str (Str.ofString "a"), .ref pG15, .int 7]) = G17 at ksG17 hlG17 hopG16 ⊢
    have thT : ∀ v ∈ [.ref pG4, .ref pG7, .ref pG9, .ref pG13, .non, .bl true, .ref pG14, .str (Str.ofString "a"), .ref pG15, .int 7], Th Z.Ps G17 10 90000 v := (allC ((tM.same (Same.trans (Same.trans (Same.trans (Same.trans (Same.trans (Same.trans (Same.trans (Same.trans (Same.trans (Same.trans (Same.trans (Same.trans ksG5 ksG6) ksG7) ksG8) ksG9) ksG10) ksG11) ksG12) ksG13) ksG14) ksG15) ksG16) ksG17))) (allC ((tO2.same (Same.trans (Same.trans (Same.trans (Same.trans (Same.trans (Same.trans (Same.trans (Same.trans ksG9 ksG10) ksG11) ksG12) ksG13) ksG14) ksG15) ksG16) ksG17))) (allC (((tpG9.same (Same.trans (Same.trans (Same.trans (Same.trans (Same.trans (Same.trans ksG11 ksG12) ksG13) ksG14) ksG15) ksG16) ksG17))).mono (by decide) (by decide)) (allC (((tpG13.same (Same.trans (Same.trans ksG15 ksG16) ksG17))).mono (by decide) (by decide)) (allC (Th.non) (allC (Th.bl true) (allC (((tpG14.same (Same.trans ksG16 ksG17))).mono (by decide) (by decide)) (allC (Th.tx (l := [97]) (by decide) (by decide)) (allC (((tpG15.same ksG17)).mono (by decide) (by decide)) (allC (Th.intS (by decide) (by decide)) all0))))))))))
    have hpp := hopG16
    have tg9 : TG Z.Ps G17 := tg0.same (Same.trans (Same.trans (Same.trans (Same.trans (Same.trans (Same.trans (Same.trans (Same.trans (Same.trans (Same.trans (Same.trans (Same.trans (Same.trans (Same.trans (Same.trans (Same.trans ksG1 ksG2) ksG3) ksG4) ksG5) ksG6) ksG7) ksG8) ksG9) ksG10) ksG11) ksG12) ksG13) ksG14) ksG15) ksG16) ksG17)
    generalize hts : ([.ref pG4, .ref pG7, .ref pG9, .ref pG13, .non, .bl true, .ref pG14, .str (Str.ofString "a"), .ref pG15, .int 7] : List V) = ts at thT hpp
    have htl : ts.length = 10 := by rw [← hts]; rfl
    refine ⟨.ref pG16, rfl, pG16, rfl, ⟨_, .inl (.inl hpp)⟩, fun D nD => ?_⟩
    have nDP : D ∉ Z.Ps := fun z => hlG17 D z nD
    refine lc_it (walk_list (xs := ts)) (fun j H' => Sx Z.Ps G17 H' ∧ TG Z.Ps H' ∧ H' D = some (.lst (List.replicate j (V.bl true))))
      ⟨Same.sx (Same.new (Same.refl _) nD), tg9.new nD, upd_same⟩ (fun j H' _ hP => .inl (.inl (hP.1.lst tg9 hpp))) (fun j x HA HB hj hP hY => ?_) (fun HB hP => ?_)
    · obtain ⟨sxA, tgA, hDA⟩ := hP
      obtain ⟨rfl, hx⟩ := hY
      obtain ⟨d, f, sh, wdx⟩ := thT x (List.mem_of_getElem? hx)
      refine ⟨rfl, x, rfl, x, d, rfl, tgA, f.sx sxA (fun _ h => h), sh.mono (by decide) (by decide), by omega, fun HC sxC tgC => ?_⟩
      have hDC : HC D = some (.lst (List.replicate j (V.bl true))) := sxC.lst tgA hDA
      refine ⟨_, hDC, ?_, (sxA.trans sxC).mut nD, tgC.mut hDC, ?_⟩
      · rw [List.length_replicate]
        exact small1000 (by omega)
      · rw [upd_same, List.replicate_succ']
    obtain ⟨sxB, tgB, hDB⟩ := hP
    have ebs : List.replicate ts.length (V.bl true) = (List.replicate ts.length true).map V.bl := by
      rw [List.map_replicate]
    rw [ebs] at hDB
    refine ⟨D, _, rfl, .inl (.inl (.inl hDB)), rfl, ?_, ?_⟩
    · rw [List.all_eq_true]
      intro x hx
      obtain ⟨o, _, rfl⟩ := List.mem_map.mp hx
      rfl
    show Q (.bl (if true = true then !inV (.bl false) ((List.replicate ts.length true).map V.bl) else inV (.bl false) ((List.replicate ts.length true).map V.bl))) HB
    rw [if_pos rfl, inV_no, Bool.not_not]
    have hal : (List.replicate ts.length true).all id = true := by
      rw [List.all_eq_true]
      exact fun x hx => List.eq_of_mem_replicate hx
    rw [hal]
    exact q HB

theorem ok_law (T : Tx K mg Z) (TB : Tb base mg Z) : FnG P w K mg base 13 Z.f_law Z.d_law ["script"] (spLaw K Z) := ok_law0 T TB (ok_bent T) (ok_bentmore T)

end
theorem all_mk {l : PySem.W.OpenLaw} {q : Program} {w : World} {K : PySem.W.Frag} {h : Heap} {mg : Str → Option Value} {fa : Addr} (X : K.In h) (G : h.Ns mainGlobals mg) (hfa : mg "law" = some (.ref fa))
    (own : ∀ (nm : Str) (fb : Addr), ((recsOf q).any fun e => e.name == nm) = true → mg nm = some (.ref fb) → OwnTC K fb h)
    {oc0 kv0 dc0 pm0 cd0 ct0 : Value} {od0 an0 : Option Addr} {sl0 : Array (Option Value)} {f0 : Addr}
    {oc1 kv1 dc1 pm1 cd1 ct1 : Value} {od1 an1 : Option Addr} {sl1 : Array (Option Value)} {f1 : Addr}
    {oc2 kv2 dc2 pm2 ct2 : Value} {od2 an2 : Option Addr} {sl2 : Array (Option Value)} {f2 : Addr}
    {c2 P2 : Addr} {ec2 : Value} {ed2 : Option Addr} {ev2 : Array Value} {es2 : Array (Option Value)}
    {oc3 kv3 dc3 pm3 ct3 : Value} {od3 an3 : Option Addr} {sl3 : Array (Option Value)} {f3 : Addr}
    {c3 P3 : Addr} {ec3 : Value} {ed3 : Option Addr} {ev3 : Array Value} {es3 : Array (Option Value)}
    {oc4 kv4 dc4 pm4 ct4 : Value} {od4 an4 : Option Addr} {sl4 : Array (Option Value)} {f4 : Addr}
    {c4 P4 : Addr} {ec4 : Value} {ed4 : Option Addr} {ev4 : Array Value} {es4 : Array (Option Value)}
    {oc5 kv5 dc5 pm5 ct5 : Value} {od5 an5 : Option Addr} {sl5 : Array (Option Value)} {f5 : Addr}
    {c5 P5 : Addr} {ec5 : Value} {ed5 : Option Addr} {ev5 : Array Value} {es5 : Array (Option Value)}
    {oc6 kv6 dc6 pm6 cd6 ct6 : Value} {od6 an6 : Option Addr} {sl6 : Array (Option Value)} {f6 : Addr}
    {oc7 kv7 dc7 pm7 cd7 ct7 : Value} {od7 an7 : Option Addr} {sl7 : Array (Option Value)} {f7 : Addr}
    {oc8 kv8 dc8 pm8 cd8 ct8 : Value} {od8 an8 : Option Addr} {sl8 : Array (Option Value)} {f8 : Addr}
    {oc9 kv9 dc9 pm9 cd9 ct9 : Value} {od9 an9 : Option Addr} {sl9 : Array (Option Value)} {f9 : Addr}
    {oc10 kv10 dc10 pm10 cd10 ct10 : Value} {od10 an10 : Option Addr} {sl10 : Array (Option Value)} {f10 : Addr}
    {oc11 kv11 dc11 pm11 cd11 ct11 : Value} {od11 an11 : Option Addr} {sl11 : Array (Option Value)} {f11 : Addr}
    {oc12 kv12 dc12 pm12 cd12 ct12 : Value} {od12 an12 : Option Addr} {sl12 : Array (Option Value)} {f12 : Addr}
    {oc13 kv13 dc13 pm13 cd13 ct13 : Value} {od13 an13 : Option Addr} {sl13 : Array (Option Value)} {f13 : Addr}
    {oc14 kv14 dc14 pm14 cd14 ct14 : Value} {od14 an14 : Option Addr} {sl14 : Array (Option Value)} {f14 : Addr}
    {oc15 kv15 dc15 pm15 cd15 ct15 : Value} {od15 an15 : Option Addr} {sl15 : Array (Option Value)} {f15 : Addr}
    (a0 : PySem.W.nsIn K mainGlobals "is_whole" = some (some (.ref f0)))
    (l0 : K.lookup f0 = some ⟨oc0, od0, .func (PySem.W.fnOf "is_whole" "is_whole" (defArgs s_is_whole) (defBody s_is_whole) (defScope s_is_whole) .none kv0 dc0 pm0 an0 cd0 ct0), sl0⟩)
    (c0_ : PySem.W.codeIn K cd0 "is_whole" = true) (k0 : PySem.W.keepIn K (.ref f0) = true)
    (a1 : PySem.W.nsIn K mainGlobals "is_number" = some (some (.ref f1)))
    (l1 : K.lookup f1 = some ⟨oc1, od1, .func (PySem.W.fnOf "is_number" "is_number" (defArgs s_is_number) (defBody s_is_number) (defScope s_is_number) .none kv1 dc1 pm1 an1 cd1 ct1), sl1⟩)
    (c1_ : PySem.W.codeIn K cd1 "is_number" = true) (k1 : PySem.W.keepIn K (.ref f1) = true)
    (a2 : PySem.W.nsIn K mainGlobals "is_rising" = some (some (.ref f2)))
    (l2 : K.lookup f2 = some ⟨oc2, od2, .func (PySem.W.fnOf "is_rising" "is_rising" (defArgs s_is_rising) (defBody s_is_rising) (defScope s_is_rising) .none kv2 dc2 pm2 an2 (.ref c2) ct2), sl2⟩)
    (c2_ : PySem.W.codeIn K (.ref c2) "is_rising" = true) (k2 : PySem.W.keepIn K (.ref f2) = true)
    (lc2 : K.lookup c2 = some ⟨ec2, ed2, .fields ev2, es2⟩) (vc2 : ev2[11]? = some (.ref P2)) (np2 : K.lookup P2 = none) (rc2 : ((recsOf q).any fun e => e.name == "is_rising") = true)
    (a3 : PySem.W.nsIn K mainGlobals "is_columns" = some (some (.ref f3)))
    (l3 : K.lookup f3 = some ⟨oc3, od3, .func (PySem.W.fnOf "is_columns" "is_columns" (defArgs s_is_columns) (defBody s_is_columns) (defScope s_is_columns) .none kv3 dc3 pm3 an3 (.ref c3) ct3), sl3⟩)
    (c3_ : PySem.W.codeIn K (.ref c3) "is_columns" = true) (k3 : PySem.W.keepIn K (.ref f3) = true)
    (lc3 : K.lookup c3 = some ⟨ec3, ed3, .fields ev3, es3⟩) (vc3 : ev3[11]? = some (.ref P3)) (np3 : K.lookup P3 = none) (rc3 : ((recsOf q).any fun e => e.name == "is_columns") = true)
    (a4 : PySem.W.nsIn K mainGlobals "is_row" = some (some (.ref f4)))
    (l4 : K.lookup f4 = some ⟨oc4, od4, .func (PySem.W.fnOf "is_row" "is_row" (defArgs s_is_row) (defBody s_is_row) (defScope s_is_row) .none kv4 dc4 pm4 an4 (.ref c4) ct4), sl4⟩)
    (c4_ : PySem.W.codeIn K (.ref c4) "is_row" = true) (k4 : PySem.W.keepIn K (.ref f4) = true)
    (lc4 : K.lookup c4 = some ⟨ec4, ed4, .fields ev4, es4⟩) (vc4 : ev4[11]? = some (.ref P4)) (np4 : K.lookup P4 = none) (rc4 : ((recsOf q).any fun e => e.name == "is_row") = true)
    (a5 : PySem.W.nsIn K mainGlobals "is_table" = some (some (.ref f5)))
    (l5 : K.lookup f5 = some ⟨oc5, od5, .func (PySem.W.fnOf "is_table" "is_table" (defArgs s_is_table) (defBody s_is_table) (defScope s_is_table) .none kv5 dc5 pm5 an5 (.ref c5) ct5), sl5⟩)
    (c5_ : PySem.W.codeIn K (.ref c5) "is_table" = true) (k5 : PySem.W.keepIn K (.ref f5) = true)
    (lc5 : K.lookup c5 = some ⟨ec5, ed5, .fields ev5, es5⟩) (vc5 : ev5[11]? = some (.ref P5)) (np5 : K.lookup P5 = none) (rc5 : ((recsOf q).any fun e => e.name == "is_table") = true)
    (a6 : PySem.W.nsIn K mainGlobals "_law_reel" = some (some (.ref f6)))
    (l6 : K.lookup f6 = some ⟨oc6, od6, .func (PySem.W.fnOf "_law_reel" "_law_reel" (defArgs s_l_reel) (defBody s_l_reel) (defScope s_l_reel) .none kv6 dc6 pm6 an6 cd6 ct6), sl6⟩)
    (c6_ : PySem.W.codeIn K cd6 "_law_reel" = true) (k6 : PySem.W.keepIn K (.ref f6) = true)
    (a7 : PySem.W.nsIn K mainGlobals "_law_pick" = some (some (.ref f7)))
    (l7 : K.lookup f7 = some ⟨oc7, od7, .func (PySem.W.fnOf "_law_pick" "_law_pick" (defArgs s_l_pick) (defBody s_l_pick) (defScope s_l_pick) .none kv7 dc7 pm7 an7 cd7 ct7), sl7⟩)
    (c7_ : PySem.W.codeIn K cd7 "_law_pick" = true) (k7 : PySem.W.keepIn K (.ref f7) = true)
    (a8 : PySem.W.nsIn K mainGlobals "_law_columns" = some (some (.ref f8)))
    (l8 : K.lookup f8 = some ⟨oc8, od8, .func (PySem.W.fnOf "_law_columns" "_law_columns" (defArgs s_l_columns) (defBody s_l_columns) (defScope s_l_columns) .none kv8 dc8 pm8 an8 cd8 ct8), sl8⟩)
    (c8_ : PySem.W.codeIn K cd8 "_law_columns" = true) (k8 : PySem.W.keepIn K (.ref f8) = true)
    (a9 : PySem.W.nsIn K mainGlobals "_law_table" = some (some (.ref f9)))
    (l9 : K.lookup f9 = some ⟨oc9, od9, .func (PySem.W.fnOf "_law_table" "_law_table" (defArgs s_l_table) (defBody s_l_table) (defScope s_l_table) .none kv9 dc9 pm9 an9 cd9 ct9), sl9⟩)
    (c9_ : PySem.W.codeIn K cd9 "_law_table" = true) (k9 : PySem.W.keepIn K (.ref f9) = true)
    (a10 : PySem.W.nsIn K mainGlobals "_law_is_number" = some (some (.ref f10)))
    (l10 : K.lookup f10 = some ⟨oc10, od10, .func (PySem.W.fnOf "_law_is_number" "_law_is_number" (defArgs s_l_is_number) (defBody s_l_is_number) (defScope s_l_is_number) .none kv10 dc10 pm10 an10 cd10 ct10), sl10⟩)
    (c10_ : PySem.W.codeIn K cd10 "_law_is_number" = true) (k10 : PySem.W.keepIn K (.ref f10) = true)
    (a11 : PySem.W.nsIn K mainGlobals "_law_is_table" = some (some (.ref f11)))
    (l11 : K.lookup f11 = some ⟨oc11, od11, .func (PySem.W.fnOf "_law_is_table" "_law_is_table" (defArgs s_l_is_table) (defBody s_l_is_table) (defScope s_l_is_table) .none kv11 dc11 pm11 an11 cd11 ct11), sl11⟩)
    (c11_ : PySem.W.codeIn K cd11 "_law_is_table" = true) (k11 : PySem.W.keepIn K (.ref f11) = true)
    (a12 : PySem.W.nsIn K mainGlobals "_law_bent" = some (some (.ref f12)))
    (l12 : K.lookup f12 = some ⟨oc12, od12, .func (PySem.W.fnOf "_law_bent" "_law_bent" (defArgs s_l_bent) (defBody s_l_bent) (defScope s_l_bent) .none kv12 dc12 pm12 an12 cd12 ct12), sl12⟩)
    (c12_ : PySem.W.codeIn K cd12 "_law_bent" = true) (k12 : PySem.W.keepIn K (.ref f12) = true)
    (a13 : PySem.W.nsIn K mainGlobals "_law_bent_more" = some (some (.ref f13)))
    (l13 : K.lookup f13 = some ⟨oc13, od13, .func (PySem.W.fnOf "_law_bent_more" "_law_bent_more" (defArgs s_l_bent_more) (defBody s_l_bent_more) (defScope s_l_bent_more) .none kv13 dc13 pm13 an13 cd13 ct13), sl13⟩)
    (c13_ : PySem.W.codeIn K cd13 "_law_bent_more" = true) (k13 : PySem.W.keepIn K (.ref f13) = true)
    (a14 : PySem.W.nsIn K mainGlobals "_law_right" = some (some (.ref f14)))
    (l14 : K.lookup f14 = some ⟨oc14, od14, .func (PySem.W.fnOf "_law_right" "_law_right" (defArgs s_l_right) (defBody s_l_right) (defScope s_l_right) .none kv14 dc14 pm14 an14 cd14 ct14), sl14⟩)
    (c14_ : PySem.W.codeIn K cd14 "_law_right" = true) (k14 : PySem.W.keepIn K (.ref f14) = true)
    (a15 : PySem.W.nsIn K mainGlobals "law" = some (some (.ref f15)))
    (l15 : K.lookup f15 = some ⟨oc15, od15, .func (PySem.W.fnOf "law" "law" (defArgs s_law) (defBody s_law) (defScope s_law) .none kv15 dc15 pm15 an15 cd15 ct15), sl15⟩)
    (c15_ : PySem.W.codeIn K cd15 "law" = true) (k15 : PySem.W.keepIn K (.ref f15) = true)
    (z0 : PySem.W.nsIn K mainGlobals "len" = some none)
    (z1 : PySem.W.nsIn K mainGlobals "range" = some none)
    (z2 : PySem.W.nsIn K mainGlobals "list" = some none)
    (z3 : PySem.W.nsIn K mainGlobals "sorted" = some none)
    (z4 : PySem.W.nsIn K mainGlobals "tuple" = some none)
    (z5 : PySem.W.nsIn K mainGlobals "min" = some none)
    (z6 : PySem.W.nsIn K mainGlobals "max" = some none)
    (z7 : PySem.W.nsIn K mainGlobals "dict" = some none)
    (z8 : PySem.W.nsIn K mainGlobals "isinstance" = some none)
    (z9 : PySem.W.nsIn K mainGlobals "all" = some none)
    (z10 : PySem.W.nsIn K mainGlobals "bool" = some none)
    (z11 : PySem.W.nsIn K mainGlobals "str" = some none)
    (z12 : PySem.W.nsIn K mainGlobals "int" = some none)
    (z13 : PySem.W.nsIn K mainGlobals "repr" = some none)
    {tk0 : Tok} (y0 : PySem.W.nsIn K mainGlobals "MOST_COLUMNS" = some (some (.int 6 tk0)))
    {tk1 : Tok} (y1 : PySem.W.nsIn K mainGlobals "MOST_ROWS" = some (some (.int 60 tk1)))
    {tk2 : Tok} (y2 : PySem.W.nsIn K mainGlobals "GREATEST" = some (some (.int 999 tk2)))
    : LawAtG l w K 13 63 "script" mg fa h := by
  have e := hfa.symm.trans (PySem.W.mg_of X G a15)
  cases e
  have F0 := fun_mk (st := s_is_whole) l0 c0_ k0
  have b0 := F0.binds (ps := ["thing"]) fun _ _ _ _ _ _ us hl => match us, hl with | [_], _ => rfl
  have F1 := fun_mk (st := s_is_number) l1 c1_ k1
  have b1 := F1.binds (ps := ["thing"]) fun _ _ _ _ _ _ us hl => match us, hl with | [_], _ => rfl
  have F2 := fun_mk (st := s_is_rising) l2 c2_ k2
  have b2 := F2.binds (ps := ["things"]) fun _ _ _ _ _ _ us hl => match us, hl with | [_], _ => rfl
  have o2 := own "is_rising" _ rc2 (PySem.W.mg_of X G a2) c2 P2 _ _ _ _ _ _ l2 rfl rfl lc2 vc2
  have F3 := fun_mk (st := s_is_columns) l3 c3_ k3
  have b3 := F3.binds (ps := ["thing"]) fun _ _ _ _ _ _ us hl => match us, hl with | [_], _ => rfl
  have o3 := own "is_columns" _ rc3 (PySem.W.mg_of X G a3) c3 P3 _ _ _ _ _ _ l3 rfl rfl lc3 vc3
  have F4 := fun_mk (st := s_is_row) l4 c4_ k4
  have b4 := F4.binds (ps := ["columns", "thing"]) fun _ _ _ _ _ _ us hl => match us, hl with | [_, _], _ => rfl
  have o4 := own "is_row" _ rc4 (PySem.W.mg_of X G a4) c4 P4 _ _ _ _ _ _ l4 rfl rfl lc4 vc4
  have F5 := fun_mk (st := s_is_table) l5 c5_ k5
  have b5 := F5.binds (ps := ["thing"]) fun _ _ _ _ _ _ us hl => match us, hl with | [_], _ => rfl
  have o5 := own "is_table" _ rc5 (PySem.W.mg_of X G a5) c5 P5 _ _ _ _ _ _ l5 rfl rfl lc5 vc5
  have F6 := fun_mk (st := s_l_reel) l6 c6_ k6
  have b6 := F6.binds (ps := ["script", "k"]) fun _ _ _ _ _ _ us hl => match us, hl with | [_, _], _ => rfl
  have F7 := fun_mk (st := s_l_pick) l7 c7_ k7
  have b7 := F7.binds (ps := ["reel", "many"]) fun _ _ _ _ _ _ us hl => match us, hl with | [_, _], _ => rfl
  have F8 := fun_mk (st := s_l_columns) l8 c8_ k8
  have b8 := F8.binds (ps := ["reel", "many"]) fun _ _ _ _ _ _ us hl => match us, hl with | [_, _], _ => rfl
  have F9 := fun_mk (st := s_l_table) l9 c9_ k9
  have b9 := F9.binds (ps := ["reel", "most", "rows"]) fun _ _ _ _ _ _ us hl => match us, hl with | [_, _, _], _ => rfl
  have F10 := fun_mk (st := s_l_is_number) l10 c10_ k10
  have b10 := F10.binds (ps := ["thing"]) fun _ _ _ _ _ _ us hl => match us, hl with | [_], _ => rfl
  have F11 := fun_mk (st := s_l_is_table) l11 c11_ k11
  have b11 := F11.binds (ps := ["thing"]) fun _ _ _ _ _ _ us hl => match us, hl with | [_], _ => rfl
  have F12 := fun_mk (st := s_l_bent) l12 c12_ k12
  have b12 := F12.binds (ps := ["reel", "table"]) fun _ _ _ _ _ _ us hl => match us, hl with | [_, _], _ => rfl
  have F13 := fun_mk (st := s_l_bent_more) l13 c13_ k13
  have b13 := F13.binds (ps := ["reel", "table"]) fun _ _ _ _ _ _ us hl => match us, hl with | [_, _], _ => rfl
  have F14 := fun_mk (st := s_l_right) l14 c14_ k14
  have b14 := F14.binds (ps := ["thing"]) fun _ _ _ _ _ _ us hl => match us, hl with | [_], _ => rfl
  have F15 := fun_mk (st := s_law) l15 c15_ k15
  have b15 := F15.binds (ps := ["script"]) fun _ _ _ _ _ _ us hl => match us, hl with | [_], _ => rfl
  let Z : Ad := ⟨f0, PySem.W.fnOf "is_whole" "is_whole" (defArgs s_is_whole) (defBody s_is_whole) (defScope s_is_whole) .none kv0 dc0 pm0 an0 cd0 ct0, f1, PySem.W.fnOf "is_number" "is_number" (defArgs s_is_number) (defBody s_is_number) (defScope s_is_number) .none kv1 dc1 pm1 an1 cd1 ct1, f2, PySem.W.fnOf "is_rising" "is_rising" (defArgs s_is_rising) (defBody s_is_rising) (defScope s_is_rising) .none kv2 dc2 pm2 an2 (.ref c2) ct2, c2, P2, f3, PySem.W.fnOf "is_columns" "is_columns" (defArgs s_is_columns) (defBody s_is_columns) (defScope s_is_columns) .none kv3 dc3 pm3 an3 (.ref c3) ct3, c3, P3, f4, PySem.W.fnOf "is_row" "is_row" (defArgs s_is_row) (defBody s_is_row) (defScope s_is_row) .none kv4 dc4 pm4 an4 (.ref c4) ct4, c4, P4, f5, PySem.W.fnOf "is_table" "is_table" (defArgs s_is_table) (defBody s_is_table) (defScope s_is_table) .none kv5 dc5 pm5 an5 (.ref c5) ct5, c5, P5, f6, PySem.W.fnOf "_law_reel" "_law_reel" (defArgs s_l_reel) (defBody s_l_reel) (defScope s_l_reel) .none kv6 dc6 pm6 an6 cd6 ct6, f7, PySem.W.fnOf "_law_pick" "_law_pick" (defArgs s_l_pick) (defBody s_l_pick) (defScope s_l_pick) .none kv7 dc7 pm7 an7 cd7 ct7, f8, PySem.W.fnOf "_law_columns" "_law_columns" (defArgs s_l_columns) (defBody s_l_columns) (defScope s_l_columns) .none kv8 dc8 pm8 an8 cd8 ct8, f9, PySem.W.fnOf "_law_table" "_law_table" (defArgs s_l_table) (defBody s_l_table) (defScope s_l_table) .none kv9 dc9 pm9 an9 cd9 ct9, f10, PySem.W.fnOf "_law_is_number" "_law_is_number" (defArgs s_l_is_number) (defBody s_l_is_number) (defScope s_l_is_number) .none kv10 dc10 pm10 an10 cd10 ct10, f11, PySem.W.fnOf "_law_is_table" "_law_is_table" (defArgs s_l_is_table) (defBody s_l_is_table) (defScope s_l_is_table) .none kv11 dc11 pm11 an11 cd11 ct11, f12, PySem.W.fnOf "_law_bent" "_law_bent" (defArgs s_l_bent) (defBody s_l_bent) (defScope s_l_bent) .none kv12 dc12 pm12 an12 cd12 ct12, f13, PySem.W.fnOf "_law_bent_more" "_law_bent_more" (defArgs s_l_bent_more) (defBody s_l_bent_more) (defScope s_l_bent_more) .none kv13 dc13 pm13 an13 cd13 ct13, f14, PySem.W.fnOf "_law_right" "_law_right" (defArgs s_l_right) (defBody s_l_right) (defScope s_l_right) .none kv14 dc14 pm14 an14 cd14 ct14, fa, PySem.W.fnOf "law" "law" (defArgs s_law) (defBody s_law) (defScope s_law) .none kv15 dc15 pm15 an15 cd15 ct15, tk0, tk1, tk2⟩
  have T : Tx K mg Z := ⟨F0, b0, PySem.W.mg_of X G a0, F1, b1, PySem.W.mg_of X G a1, F2, ⟨_, _, _, _, _, _, _, _, rfl, l2, c2_⟩, b2, PySem.W.mg_of X G a2, F3, ⟨_, _, _, _, _, _, _, _, rfl, l3, c3_⟩, b3, PySem.W.mg_of X G a3, F4, ⟨_, _, _, _, _, _, _, _, rfl, l4, c4_⟩, b4, PySem.W.mg_of X G a4, F5, ⟨_, _, _, _, _, _, _, _, rfl, l5, c5_⟩, b5, PySem.W.mg_of X G a5, F6, b6, PySem.W.mg_of X G a6, F7, b7, PySem.W.mg_of X G a7, F8, b8, PySem.W.mg_of X G a8, F9, b9, PySem.W.mg_of X G a9, F10, b10, PySem.W.mg_of X G a10, F11, b11, PySem.W.mg_of X G a11, F12, b12, PySem.W.mg_of X G a12, F13, b13, PySem.W.mg_of X G a13, F14, b14, PySem.W.mg_of X G a14, F15, b15, PySem.W.mg_of X G a15, PySem.W.mg_none_of X G z0, PySem.W.mg_none_of X G z1, PySem.W.mg_none_of X G z2, PySem.W.mg_none_of X G z3, PySem.W.mg_none_of X G z4, PySem.W.mg_none_of X G z5, PySem.W.mg_none_of X G z6, PySem.W.mg_none_of X G z7, PySem.W.mg_none_of X G z8, PySem.W.mg_none_of X G z9, PySem.W.mg_none_of X G z10, PySem.W.mg_none_of X G z11, PySem.W.mg_none_of X G z12, PySem.W.mg_none_of X G z13, PySem.W.mg_of X G y0, PySem.W.mg_of X G y1, PySem.W.mg_of X G y2⟩
  have each : ∀ {R : Addr × Addr → Prop}, R (c2, P2) → R (c3, P3) → R (c4, P4) → R (c5, P5) → ∀ p ∈ [(c2, P2), (c3, P3), (c4, P4), (c5, P5)], R p := fun h2 h3 h4 h5 p hp => by
    simp only [List.mem_cons, List.not_mem_nil, or_false] at hp
    rcases hp with e | e | e | e
    · rw [e]
      exact h2
    · rw [e]
      exact h3
    · rw [e]
      exact h4
    · rw [e]
      exact h5
  refine ⟨Z.d_law, [(c2, P2), (c3, P3), (c4, P4), (c5, P5)], spLaw K Z, each o2.1 o3.1 o4.1 o5.1, each np2 np3 np4 np5, each o2.2 o3.2 o4.2 o5.2, fun s v => .of_eq rfl, fun H a ns hl _ hT hS => ?_, fun base _ _ hTB => ?_⟩
  · refine ⟨a, ns, rfl, hS, hl, fun P hP => ?_, fun _ => rfl⟩
    obtain ⟨p, hp, rfl⟩ : ∃ p ∈ [((c2, P2) : Addr × Addr), ((c3, P3) : Addr × Addr), ((c4, P4) : Addr × Addr), ((c5, P5) : Addr × Addr)], p.2 = P := by
      have hP2 : P ∈ [((c2, P2) : Addr × Addr).2, ((c3, P3) : Addr × Addr).2, ((c4, P4) : Addr × Addr).2, ((c5, P5) : Addr × Addr).2] := hP
      exact List.mem_map.mp (show P ∈ List.map (fun p : Addr × Addr => p.2) [(c2, P2), (c3, P3), (c4, P4), (c5, P5)] from hP2)
    exact ⟨#[], hT p hp, trivial⟩
  · exact ok_law T ⟨hTB (c2, P2) (by simp), hTB (c3, P3) (by simp), hTB (c4, P4) (by simp), hTB (c5, P5) (by simp)⟩
end My
open PySem PySem.W PyProof.Rows
set_option maxHeartbeats 0 in
theorem PySem.Challenge.cw_stretchkeep_k01_what_is_a_table_holds : PySem.Challenge.rw_stretchkeep_k01_what_is_a_table.Holds := by
  w_on; o_law; k_head; (case hw => w_witness2)
  k_fill
  refine My.walk_ofG (l := PySem.Challenge.rw_stretchkeep_k01_what_is_a_table) (n := 63) (k := 13) (x := "script") rfl (by decide) rfl ⟨rfl, by decide, by decide⟩ (fun w h Y => PySem.W.kIn_of Y) ?F
  case F =>
    intro w mg fa h Y KX G hmg own
    refine' My.all_mk KX G hmg own ?a0 ?l0 ?c0_ ?k0 ?a1 ?l1 ?c1_ ?k1 ?a2 ?l2 ?c2_ ?k2 ?lc2 ?vc2 ?np2 ?rc2 ?a3 ?l3 ?c3_ ?k3 ?lc3 ?vc3 ?np3 ?rc3 ?a4 ?l4 ?c4_ ?k4 ?lc4 ?vc4 ?np4 ?rc4 ?a5 ?l5 ?c5_ ?k5 ?lc5 ?vc5 ?np5 ?rc5 ?a6 ?l6 ?c6_ ?k6 ?a7 ?l7 ?c7_ ?k7 ?a8 ?l8 ?c8_ ?k8 ?a9 ?l9 ?c9_ ?k9 ?a10 ?l10 ?c10_ ?k10 ?a11 ?l11 ?c11_ ?k11 ?a12 ?l12 ?c12_ ?k12 ?a13 ?l13 ?c13_ ?k13 ?a14 ?l14 ?c14_ ?k14 ?a15 ?l15 ?c15_ ?k15 ?z0 ?z1 ?z2 ?z3 ?z4 ?z5 ?z6 ?z7 ?z8 ?z9 ?z10 ?z11 ?z12 ?z13 ?y0 ?y1 ?y2
    (case a0 => k_is)
    (case l0 => k_is)
    (case c0_ => k_is)
    (case k0 => k_is)
    (case a1 => k_is)
    (case l1 => k_is)
    (case c1_ => k_is)
    (case k1 => k_is)
    (case a2 => k_is)
    (case l2 => k_is)
    (case c2_ => k_is)
    (case k2 => k_is)
    (case lc2 => k_is)
    (case vc2 => rfl)
    (case np2 => first | rfl | kernel_rfl)
    (case rc2 => decide +kernel)
    (case a3 => k_is)
    (case l3 => k_is)
    (case c3_ => k_is)
    (case k3 => k_is)
    (case lc3 => k_is)
    (case vc3 => rfl)
    (case np3 => first | rfl | kernel_rfl)
    (case rc3 => decide +kernel)
    (case a4 => k_is)
    (case l4 => k_is)
    (case c4_ => k_is)
    (case k4 => k_is)
    (case lc4 => k_is)
    (case vc4 => rfl)
    (case np4 => first | rfl | kernel_rfl)
    (case rc4 => decide +kernel)
    (case a5 => k_is)
    (case l5 => k_is)
    (case c5_ => k_is)
    (case k5 => k_is)
    (case lc5 => k_is)
    (case vc5 => rfl)
    (case np5 => first | rfl | kernel_rfl)
    (case rc5 => decide +kernel)
    (case a6 => k_is)
    (case l6 => k_is)
    (case c6_ => k_is)
    (case k6 => k_is)
    (case a7 => k_is)
    (case l7 => k_is)
    (case c7_ => k_is)
    (case k7 => k_is)
    (case a8 => k_is)
    (case l8 => k_is)
    (case c8_ => k_is)
    (case k8 => k_is)
    (case a9 => k_is)
    (case l9 => k_is)
    (case c9_ => k_is)
    (case k9 => k_is)
    (case a10 => k_is)
    (case l10 => k_is)
    (case c10_ => k_is)
    (case k10 => k_is)
    (case a11 => k_is)
    (case l11 => k_is)
    (case c11_ => k_is)
    (case k11 => k_is)
    (case a12 => k_is)
    (case l12 => k_is)
    (case c12_ => k_is)
    (case k12 => k_is)
    (case a13 => k_is)
    (case l13 => k_is)
    (case c13_ => k_is)
    (case k13 => k_is)
    (case a14 => k_is)
    (case l14 => k_is)
    (case c14_ => k_is)
    (case k14 => k_is)
    (case a15 => k_is)
    (case l15 => k_is)
    (case c15_ => k_is)
    (case k15 => k_is)
    (case z0 => k_is)
    (case z1 => k_is)
    (case z2 => k_is)
    (case z3 => k_is)
    (case z4 => k_is)
    (case z5 => k_is)
    (case z6 => k_is)
    (case z7 => k_is)
    (case z8 => k_is)
    (case z9 => k_is)
    (case z10 => k_is)
    (case z11 => k_is)
    (case z12 => k_is)
    (case z13 => k_is)
    (case y0 => k_is)
    (case y1 => k_is)
    (case y2 => k_is)

