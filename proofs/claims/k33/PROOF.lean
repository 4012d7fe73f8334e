import PyProof.Rows.All
import Wide.All
import OpenK.AllK
import Wide.FinOn
import HandS.ForMost
import HandS.Walk
import HandS.IsInst
import HandS.DictComp
import HandS.SortInts
import HandS.NoneIn
import HandS.Replace
import HandS.TupAny
import HandS.TupLe
import PyProof.ListStr
import PyProof.TupleOfStr
import KE.GoesNew
import HandS.Zip
import HandS.More
import PyProof.StrLawsFirst
import HandS.Conv
import KE.KSortedM
import HandS.AnyAll
import HandS.EndTab
import PyProof.TupleOfGen
import HandS.EndOwn
import KE.KDictPairs
import KE.SortData
import KE.DataCmp
import PyProof.DictWalks
import KE.KDictWalk
import HandS.Style
import PyProof.CollectStr
import PyProof.SliceStr2
import PyProof.TupleOfSeq
import HandS.Star
import HandS.Wide
import KE.DataMinMax
import HandS.GenOver
import HandS.GenList
import KE.DatumIndex
import PyProof.ConsumeWalk
import HandS.SetFor
import PyProof.StrWalks
import PyProof.SetRoads
import PyProof.Rows.StrCase
import HandS.TupMul
import PyProof.ListNew
import PySem.Challenge.RW_stretchkeep_k33_what_is_a_need
set_option Elab.async false
set_option linter.all false
set_option maxRecDepth 100000
namespace My
open PySem PySem.Spec PyProof.Rows L2
/-! ### heaps -/
/-- all but r is as it was -/
def Kp (r : Addr) (H H' : Hp) : Prop := ∀ b o, b ≠ r → H b = some o → H' b = some o
theorem Kp.rfl' {r : Addr} {H : Hp} : Kp r H H := fun _ _ _ h => h
theorem Kp.trans {r : Addr} {H H1 H2 : Hp} (a : Kp r H H1) (b : Kp r H1 H2) : Kp r H H2 := fun c o n h => b c o n (a c o n h)
theorem Kp.new {r p : Addr} {H H1 : Hp} {o : HO} (a : Kp r H H1) (n : H1 p = none) : Kp r H (upd H1 p o) := fun b x nb h => by
  have h1 := a b x nb h
  rw [upd_ne (ne_of_none h1 n)]
  exact h1
theorem Kp.own {r : Addr} {H H1 : Hp} {o : HO} (a : Kp r H H1) : Kp r H (upd H1 r o) := fun b x nb h => by
  rw [upd_ne nb]
  exact a b x nb h
/-- an object that H does not know is written -/
theorem Kp.mut {r p : Addr} {H H1 : Hp} {o : HO} (a : Kp r H H1) (n : H p = none) : Kp r H (upd H1 p o) := fun b x nb h => by
  rw [upd_ne (ne_of_none h n)]
  exact a b x nb h
theorem Same.kp {r : Addr} {H H' : Hp} (s : Same H H') : Kp r H H' := fun b o _ h => s b o h
theorem Same.new {p : Addr} {H H1 : Hp} {o : HO} (a : Same H H1) (n : H1 p = none) : Same H (upd H1 p o) := fun b x h => by
  have h1 := a b x h
  rw [upd_ne (ne_of_none h1 n)]
  exact h1
theorem Same.mut {p : Addr} {H H1 : Hp} {o : HO} (a : Same H H1) (n : H p = none) : Same H (upd H1 p o) := fun b x h => by
  rw [upd_ne (ne_of_none h n)]
  exact a b x h
theorem Same.tup {K : PySem.W.Frag} {H H' : Hp} {a : Addr} {xs : List V} (e : Same H H') (h : SqT K H a xs) : SqT K H' a xs := by
  rcases h with (h | ⟨o, h⟩) | h
  · exact .inl (.inl (e _ _ h))
  · exact .inl (.inr ⟨o, e _ _ h⟩)
  · exact .inr h
theorem Kp.none {r p : Addr} {H H' : Hp} (e : Kp r H H') (n : p ≠ r) (h : H' p = Option.none) : H p = Option.none := by
  cases q : H p with
  | none => rfl
  | some o =>
    rw [e p o n q] at h
    cases h
theorem keep_new {H : Hp} {p b : Addr} {o x : HO} (h : H b = some x) (n : H p = Option.none) : (upd H p o) b = some x := by
  rw [upd_ne (ne_of_none h n)]
  exact h
theorem keep_ne {H : Hp} {p b : Addr} {o x : HO} (h : H b = some x) (n : b ≠ p) : (upd H p o) b = some x := by
  rw [upd_ne n]
  exact h
/-! ### a word between a statement and the rest -/
def tMid (t u : TS) : TS := fun D σ H => ∃ M : L2.St → Hp → Prop, t { D with nx := M } σ H ∧ ∀ σ1 H1, M σ1 H1 → u D σ1 H1
theorem pss_mid {X : Cx} {st : Stmt} {r : List Stmt} {t u : TS} (a : PS X st t) (b : PSs X r u) : PSs X (st :: r) (tMid t u) := ⟨fun pins s σ H D I h => by
  obtain ⟨M, hm, hu⟩ := h
  refine wpAny_execs_cons (thn (a.run pins s σ H { D with nx := M } I hm) fun f s1 q => ?_)
  cases f
  case next =>
    obtain ⟨σ1, H1, I1, q1⟩ := q
    exact b.run pins s1 σ1 H1 D I1 (hu σ1 H1 q1)
  all_goals exact q⟩
/-! ### texts -/
/-- a text of these codes; one sign -/
abbrev tx (l : List Nat) : V := .str ⟨l.toArray⟩
abbrev sg (c : Nat) : V := .str ⟨#[c]⟩
theorem signs_vals {x : Str} {acc : Array Value} (h : ItemsOf (SignAt x) acc x.cps.size) : Vals (x.cps.toList.map sg) acc.toList := by
  obtain ⟨hz, hi⟩ := h
  have key : ∀ (l : List Nat) (us : List Value), l.length = us.length → (∀ (j : Nat) (c : Nat) (v : Value), l[j]? = some c → us[j]? = some v → ∃ t, v = Value.str ⟨#[c]⟩ t) → Vals (l.map sg) us := by
    intro l
    induction l with
    | nil =>
      intro us hl _
      cases us with
      | nil => exact .nil
      | cons a b => cases hl
    | cons c l ih =>
      intro us hl hh
      cases us with
      | nil => cases hl
      | cons u us =>
        refine .cons ?_ (ih us (Nat.succ.inj hl) fun j c v h1 h2 => hh (j + 1) c v h1 h2)
        obtain ⟨t, e⟩ := hh 0 c u rfl rfl
        exact ⟨t, e⟩
  refine key _ _ (by rw [Array.length_toList, Array.length_toList, hz]) fun j c v h1 h2 => ?_
  obtain ⟨cc, t, e1, e2⟩ := hi j v (by rw [← Array.getElem?_toList]; exact h2)
  rw [Array.getElem?_toList] at h1
  rw [h1] at e1
  cases e1
  exact ⟨t, e2⟩
/-- the text of one sign -/
abbrev sS (c : Nat) : Str := ⟨#[c]⟩
theorem str_empty : (Str.ofString "").cps = #[] := by decide +kernel
theorem join_signs : ∀ l : List Nat, Txt.join (Str.ofString "") (l.map sS) = ⟨l.toArray⟩ := by
  intro l
  show PySem.Builtin.Str.glued (Str.ofString "") (l.map sS) = _
  rw [PySem.StrLaws.glued_eq_join]
  induction l with
  | nil => rfl
  | cons c l ih =>
    cases l with
    | nil => rfl
    | cons d l =>
      show sS c ++ Str.ofString "" ++ Str.join (Str.ofString "") ((d :: l).map sS) = _
      rw [ih]
      show (⟨(#[c] ++ (Str.ofString "").cps) ++ (d :: l).toArray⟩ : Str) = _
      rw [str_empty]
      simp
theorem ltCps_one {a b : Nat} (h : ltCps [a] [b] = false) : b ≤ a := by
  simp [ltCps] at h
  exact h
theorem rising_signs : ∀ (l : List Nat) (c : Nat), risingS (sS c) (l.map sS) = true → (c :: l).Pairwise (· ≤ ·)
  | [], c, _ => List.pairwise_singleton _ _
  | d :: l, c, h => by
    have h' : (!ltCps [d] [c] && risingS (sS d) (l.map sS)) = true := h
    rw [Bool.and_eq_true, Bool.not_eq_true'] at h'
    have hd := ltCps_one h'.1
    have ih := rising_signs l d h'.2
    refine List.Pairwise.cons (fun x hx => ?_) ih
    rcases List.mem_cons.mp hx with e | hx
    · rw [e]
      exact hd
    · exact Nat.le_trans hd ((List.pairwise_cons.mp ih).1 x hx)
theorem sorted_signs : ∀ (l : List Nat), sortedS (l.map sS) = true → l.Pairwise (· ≤ ·)
  | [], _ => List.Pairwise.nil
  | c :: l, h => rising_signs l c h
theorem perm_signs {ys : List Str} {l : List Nat} (h : ys.Perm (l.map sS)) : ∃ l' : List Nat, ys = l'.map sS ∧ l'.Perm l := by
  let hd : Str → Nat := fun z => z.cps.toList.headD 0
  refine ⟨ys.map hd, ?_, ?_⟩
  · rw [List.map_map]
    have e : ∀ y ∈ ys, (sS ∘ hd) y = y := fun y hy => by
      obtain ⟨c, _, rfl⟩ := List.mem_map.mp (h.mem_iff.mp hy)
      rfl
    conv => lhs; rw [← List.map_id ys]
    exact (List.map_congr_left e).symm
  · have e := h.map hd
    rw [List.map_map] at e
    have e2 : l.map (hd ∘ sS) = l := by
      conv => rhs; rw [← List.map_id l]
      exact List.map_congr_left fun c _ => rfl
    rw [e2] at e
    exact e
theorem strict_of {l : List Nat} (h : l.Pairwise (· ≤ ·)) (n : l.Nodup) : l.Pairwise (· < ·) := by
  refine (h.and n).imp fun {a b} q => ?_
  have h1 := q.1
  have h2 : a ≠ b := q.2
  omega
theorem map_sg (l : List Nat) : l.map sg = (l.map sS).map V.str := by
  rw [List.map_map]
  rfl
theorem erase_map {α β : Type} (f : α → β) : ∀ (l : List α) (k : Nat), (l.map f).eraseIdx k = (l.eraseIdx k).map f
  | [], _ => rfl
  | _ :: _, 0 => rfl
  | a :: l, k + 1 => by
    show f a :: (l.map f).eraseIdx k = f a :: (l.eraseIdx k).map f
    rw [erase_map f l k]
theorem pop_perm : ∀ {l : List Nat} {k : Nat} {y : Nat}, l[k]? = some y → (y :: l.eraseIdx k).Perm l
  | [], k, y, h => by simp at h
  | a :: l, 0, y, h => by
    have e : a = y := Option.some.inj h
    rw [e]
    exact List.Perm.refl _
  | a :: l, k + 1, y, h => by
    have ih := pop_perm (l := l) (k := k) (y := y) h
    exact (List.Perm.swap a y (l.eraseIdx k)).trans (ih.cons a)
theorem popped {l : List Nat} {k : Nat} {y : Nat} (h : l[k]? = some y) (f : List Nat) : (l.eraseIdx k ++ (f ++ [y])).Perm (l ++ f) := by
  have p := pop_perm h
  have p1 : (l.eraseIdx k ++ (f ++ [y])).Perm ([y] ++ (l.eraseIdx k ++ f)) := by
    rw [← List.append_assoc]
    exact List.perm_append_comm
  refine p1.trans ?_
  rw [← List.append_assoc]
  exact p.append_right f
section
variable {X : Cx}
theorem call_list_txt (hc : X.calm = true := by rfl) : CallR X (.type "list") (fun xs H Q => ∃ z : Str, xs = [.str z] ∧ z.length ≤ sizeLine ∧ ∀ l, H l = none → Q (.ref l) (upd H l (.lst (z.cps.toList.map sg)))) := by
  intro pins s σ H xs us Q I r h
  obtain ⟨z, rfl, hz, q⟩ := h
  obtain ⟨u, rfl, rx⟩ := vals1 r
  obtain ⟨t, rfl⟩ := rx
  refine PySem.call_list_str (I.ok.hd hc) z t (fun h' tk acc c kp e hi => ?_) hz
  have hv := signs_vals hi
  exact ⟨.ref s.heap.objs.size, _, I.laid (t' := tk) kp (Nat.le_refl _) (show ObjOk X.prog X.w _ h' _ (.lst (z.cps.toList.map sg)) from ⟨by rw [List.length_map, Array.length_toList]; exact hz, acc.toList, c, hv, by rw [Array.toArray_toList]; exact e⟩), rfl, q _ (I.hok.fresh (Nat.le_refl _))⟩
end
end My

set_option Elab.async false
set_option linter.all false
set_option maxRecDepth 100000
set_option maxHeartbeats 1000000
namespace My
open PySem PySem.Spec PyProof.Rows L2
/-! ### calls by named readings -/
def rLenSq (K : PySem.W.Frag) : List V → Hp → VK → Prop := fun xs H Q => ∃ p ys, xs = [.ref p] ∧ (SqL K H p ys ∨ SqT K H p ys) ∧ Q (.int (ys.length : Nat)) H
def rListSq (K : PySem.W.Frag) : List V → Hp → VK → Prop := fun xs H Q => ∃ p ys, xs = [.ref p] ∧ (SqL K H p ys ∨ SqT K H p ys) ∧ ∀ l, H l = none → Q (.ref l) (upd H l (.lst ys))
section
variable (K : PySem.W.Frag) {X : Cx}
theorem cLenSq (hK : X.K = K := by rfl) : CallR X (.builtin "len") (rLenSq K) := by
  subst hK
  exact call_len_seq
theorem cListSq (hK : X.K = K := by rfl) : CallR X (.type "list") (rListSq K) := by
  subst hK
  exact call_list_of
theorem ixL (hK : X.K = K := by rfl) : IxR X (rIxL K) := by
  subst hK
  exact ix_list
theorem ixT (hK : X.K = K := by rfl) : IxR X (rIxT K) := by
  subst hK
  exact ix_tup
theorem piL {tg l : Expr} {tl : TE} (hl : PE X l tl) (hK : X.K = K := by rfl) : PI X tg l (iList K tl) := by
  subst hK
  exact pi_list hl
theorem pgT {es : List Expr} {k : Nat} {t : TGs} {n : Nat} {pos : Pos} (h : PGs X es t) (hK : X.K = K := by rfl) (hc : X.calm = true := by rfl) (hn : (assignEach es X.env).length = n := by rfl) (hst : (assignEach es X.env).findIdx? (·.1) = none := by rfl) : PG X (.Tuple es k pos) (gTup K n t) := by
  subst hK
  exact pg_tup hc h hn hst
theorem notInSq (hK : X.K = K := by rfl) : OpR X (compareOp .NotIn) (rIn K true) := by
  subst hK
  exact op_notIn_seq
theorem eqDK (hu : X.A.units + 64 < cLine) (hK : X.K = K := by rfl) : OpR X (compareOp .Eq) (rEqD K) := by
  subst hK
  exact op_eqD hu
theorem neDK (hu : X.A.units + 64 < cLine) (hK : X.K = K := by rfl) : OpR X (compareOp .NotEq) (rNeD K) := by
  subst hK
  exact op_neD hu
theorem bmK {T id : String} {name : Str} {r : V → List V → Hp → VK → Prop} {o e : Expr} {es : List Expr} {to : TE} {t : TA} {apos cpos : Pos} (pa : PlainAttrs T) (slot : Slot T name id) (hty : typeOf (.builtin id) = pure (.type "method_descriptor")) (hm : MtR X id r) (ho : PE X o to) (ha : PA X (e :: es) t) (hK : X.K = K := by rfl)
    (hbase : attributeBase o name X.env (eval o X.env) = eval o X.env := by rfl)
    (hfew : ((backTo cpos (starEach (e :: es) X.env)).all (fun x => !x.1) && (backToKw cpos (keywordEach [] X.env)).all (fun x => x.1.isSome) && decide ((e :: es).length + ([] : List Keyword).length + (if ([] : List Keyword).isEmpty then 0 else 1) < 30)) = true := by rfl)
    (hline : (apos.endLine == cpos.line) = true := by rfl) (hs : starEach (e :: es) X.env = (false, eval e X.env) :: starEach es X.env := by rfl) (hplain : (backTo cpos (starEach es X.env)).any (·.1) = false := by rfl) :
    PE X (.Call (.Attribute o name apos) (e :: es) [] cpos) (tBM K T r to t) := by
  subst hK
  exact pe_bm pa slot hty hm ho ha hbase hfew hline hs hplain
theorem isiK (hK : X.K = K := by rfl) : CallR X (.builtin "isinstance") (rIsi K) := by
  subst hK
  exact call_isi
end
/-! ### frozen data: numbers, texts, None, truths, tuples of these -/
/-- tuples stay -/
def Kt (H H' : Hp) : Prop := ∀ b xs, H b = some (.tup xs) → H' b = some (.tup xs)
theorem Kt.rfl' {H : Hp} : Kt H H := fun _ _ h => h
theorem Kt.trans {H H1 H2 : Hp} (a : Kt H H1) (b : Kt H1 H2) : Kt H H2 := fun c o h => b c o (a c o h)
theorem Kt.new {H : Hp} {p : Addr} {o : HO} (n : H p = none) : Kt H (upd H p o) := fun b xs h => by
  rw [upd_ne (ne_of_none h n)]
  exact h
theorem Kt.lst {H : Hp} {p : Addr} {xs : List V} {o : HO} (n : H p = some (.lst xs)) : Kt H (upd H p o) := fun b ys h => by
  have e : b ≠ p := fun z => by
    rw [z, n] at h
    cases h
  rw [upd_ne e]
  exact h
theorem Kp.kt {r : Addr} {H H' : Hp} {xs : List V} (k : Kp r H H') (h : H r = some (.lst xs)) : Kt H H' := fun b ys e => k b _ (fun z => by
  rw [z, h] at e
  cases e) e
theorem Same.kt {H H' : Hp} (k : Same H H') : Kt H H' := fun b ys e => k b _ e
/-! ### tables -/
/-- rising unlike letters -/
structure Cols (l : List Nat) : Prop where
  up : l.Pairwise (· < ·)
  az : ∀ c ∈ l, 97 ≤ c ∧ c ≤ 122
theorem Cols.nd {l : List Nat} (c : Cols l) : l.Nodup := c.up.imp fun {a b} h => by
  have : a < b := h
  omega
/-! ### questions -/
theorem dp_signs {K : PySem.W.Frag} {H : Hp} : ∀ l : List Nat, DpAll K H (l.map sg) (l.map fun c => PyData.str (sS c))
  | [] => .nil
  | c :: l => .cons (.str _) (dp_signs l)
theorem shaped_signs {l : List Nat} (h : ∀ c ∈ l, c ≤ 122) : SeqAt.shaped (.list (l.map fun c => PyData.str (sS c))) = true := by
  have e1 : PyData.canLayAll0 (l.map fun c => PyData.str (sS c)) = true := by
    induction l with
    | nil => rfl
    | cons c l ih =>
      show (PyData.canLay0 (.str (sS c)) && PyData.canLayAll0 (l.map fun c => PyData.str (sS c))) = true
      rw [ih fun d hd => h d (List.mem_cons_of_mem _ hd), Bool.and_true]
      have hc := h c (List.mem_cons_self ..)
      show (#[c] : Array Nat).all (· < 0x110000) = true
      simp
      omega
  have e2 : PyData.depthAll (l.map fun c => PyData.str (sS c)) = 0 := by
    clear h e1
    induction l with
    | nil => rfl
    | cons c l ih =>
      show max (PyData.depth (.str (sS c))) (PyData.depthAll (l.map fun c => PyData.str (sS c))) = 0
      rw [ih]
      rfl
  unfold SeqAt.shaped
  show (PyData.canLayAll0 _ && decide (PyData.depthAll _ + 1 ≤ 64)) = true
  rw [e1, e2]
  rfl
end My

set_option Elab.async false
set_option linter.all false
set_option maxRecDepth 100000
set_option maxHeartbeats 1000000
namespace My
open PySem PySem.Spec PyProof.Rows L2
/-! ### name = {.. for ..} on one line -/
section
variable {X : Cx} {pins : List (Addr × Obj)} {σ : L2.St} {H : Hp} {s : Shared}
end
/-! ### spans: letters with their bounds -/
theorem sS_inj {a b : Nat} (h : sS a = sS b) : a = b := by
  have z3 : (#[a] : Array Nat) = #[b] := congrArg Str.cps h
  simpa using z3
/-! ### what fits -/
/-! ### data with lists -/
mutual
inductive Ft (H : Hp) : V → PyData → Prop
  | non : Ft H .non .none
  | bl (b : Bool) : Ft H (.bl b) (.bool b)
  | int (i : Int) : Ft H (.int i) (.int i)
  | str (x : Str) : Ft H (.str x) (.str x)
  | lst {a : Addr} {xs : List V} {ds : List PyData} : H a = some (.lst xs) → FtA H xs ds → Ft H (.ref a) (.list ds)
  | tup {a : Addr} {xs : List V} {ds : List PyData} : H a = some (.tup xs) → FtA H xs ds → Ft H (.ref a) (.tuple ds)
inductive FtA (H : Hp) : List V → List PyData → Prop
  | nil : FtA H [] []
  | cons {v : V} {vs : List V} {d : PyData} {ds : List PyData} : Ft H v d → FtA H vs ds → FtA H (v :: vs) (d :: ds)
end
mutual
theorem Ft.mono {H H' : Hp} (k : Same H H') : ∀ (d : PyData) (v : V), Ft H v d → Ft H' v d
  | .none, _, .non => .non
  | .bool _, _, .bl b => .bl b
  | .int _, _, .int i => .int i
  | .str _, _, .str x => .str x
  | .list ds, _, .lst h a => .lst (k _ _ h) (FtA.mono k ds _ a)
  | .tuple ds, _, .tup h a => .tup (k _ _ h) (FtA.mono k ds _ a)
theorem FtA.mono {H H' : Hp} (k : Same H H') : ∀ (ds : List PyData) (vs : List V), FtA H vs ds → FtA H' vs ds
  | [], _, .nil => .nil
  | d :: ds, _, .cons h a => .cons (Ft.mono k d _ h) (FtA.mono k ds _ a)
end
theorem FtA.len : ∀ {H : Hp} {vs : List V} {ds : List PyData}, FtA H vs ds → vs.length = ds.length
  | _, _, _, .nil => rfl
  | _, _, _, .cons _ a => by
    rw [List.length_cons, List.length_cons, FtA.len a]
theorem FtA.getV : ∀ {H : Hp} {vs : List V} {ds : List PyData} {i : Nat} {v : V}, FtA H vs ds → vs[i]? = some v → ∃ d, ds[i]? = some d ∧ Ft H v d
  | _, _, _, _, _, .nil, h => by simp at h
  | _, _, _, 0, _, .cons a _, h => ⟨_, rfl, Option.some.inj h ▸ a⟩
  | _, _, _, i + 1, _, .cons _ a, h => FtA.getV (i := i) a h
mutual
def wd : PyData → Nat
  | .list xs => max xs.length (wdA xs)
  | .tuple xs => max xs.length (wdA xs)
  | _ => 0
def wdA : List PyData → Nat
  | [] => 0
  | x :: xs => max (wd x) (wdA xs)
end
/-! ### what isinstance tells of data -/
def tyN : PyData → String
  | .none => "NoneType"
  | .bool _ => "bool"
  | .int _ => "int"
  | .str _ => "str"
  | .list _ => "list"
  | .tuple _ => "tuple"
  | .dict _ => "dict"
def isTp : PyData → Bool
  | .tuple _ => true
  | _ => false
def isBl : PyData → Bool
  | .bool _ => true
  | _ => false
def isSt : PyData → Bool
  | .str _ => true
  | _ => false
theorem ty_ft {K : PySem.W.Frag} {H : Hp} {v : V} {d : PyData} (h : Ft H v d) : TyX K H v (.type (tyN d)) := by
  cases h with
  | non => exact .base .non
  | bl b => exact .base (.bl b)
  | int i => exact .base (.int i)
  | str x => exact .base (.str x)
  | lst h _ => exact .base (.lst h)
  | tup h _ => exact .base (.tup h)
theorem kit_tp {K : PySem.W.Frag} (d : PyData) : PySem.W.kitOne K (.type (tyN d)) (.type "tuple") = some (isTp d) := by
  cases d <;> exact kit_ty (by kernel_rfl)
theorem kit_bl {K : PySem.W.Frag} (d : PyData) : PySem.W.kitOne K (.type (tyN d)) (.type "bool") = some (isBl d) := by
  cases d <;> exact kit_ty (by kernel_rfl)
theorem kit_st {K : PySem.W.Frag} (d : PyData) : PySem.W.kitOne K (.type (tyN d)) (.type "str") = some (isSt d) := by
  cases d <;> exact kit_ty (by kernel_rfl)
end My

set_option Elab.async false
set_option linter.all false
set_option maxRecDepth 100000
set_option maxHeartbeats 1000000
namespace My
open PySem PySem.Spec PyProof.Rows L2
/-! ### lists of numbers compared -/
/-! ### questions and what fits -/
/-- the letter taken out of equals -/
def fewer (es : List (Nat × Int)) (c : Nat) : List (Nat × Int) := es.filter fun p => !decide (p.1 = c)
end My

set_option Elab.async false
set_option linter.all false
set_option maxRecDepth 100000
set_option maxHeartbeats 2000000
namespace My
open PySem PySem.Spec PyProof.Rows L2
/-! ### generator expressions whose element changes nothing -/
section
variable {X : Cx} {pins : List (Addr × Obj)} {σ : L2.St} {H : Hp} {s : Shared}
/-- the code object of a generator expression comes out of its maker's table, or is made and written into it; then the built-ins are looked up -/
theorem gen_code {c P : Addr} {gpos : Pos} {qn : Str} {scope : Scope} {R : Value → Addr → Shared → Prop} (I : Inv X pins σ H s) (TB : LamX.TabB X.base X.mg c P) (hcode : X.env.code = .ref c) (hT : GxR.TabG H P)
    (h : ∀ (code : Value) (H2 : Hp) (s2 : Shared), GxR.Tabbed P H H2 → Inv X pins σ H2 s2 → (∀ b u, b ≠ P → s.heap.get? b = some u → s2.heap.get? b = some u) → s.heap.objs.size ≤ s2.heap.objs.size → R code builtinsNs s2) :
    wpAny (model X.prog X.w) X.A (genexprCode X.env gpos qn scope) (fun code s3 => wpAny (model X.prog X.w) X.A (builtinsFor X.env.globals X.env.builtins) (R code) X.xe s3) X.xe s := by
  obtain ⟨ps, hP, tri⟩ := hT
  have rawP := I.hok P _ hP
  have hd : PySem.W.CodeHd s.heap c P := TB.code.keeps I.bk
  have go : ∀ (code : Value) (g : Heap) (tk : Nat) (more : Array Value), Heap.ExtBut P s.heap g → s.heap.objs.size ≤ g.objs.size → g.get? P = some { cls := .none, data := .fields (ps ++ more) } → TriplesOk (ps ++ more).toList →
      wpAny (model X.prog X.w) X.A (builtinsFor X.env.globals X.env.builtins) (R code) X.xe { s with heap := g, toks := tk } := fun code g tk more ext le tab tri' => by
    have J : Inv X pins σ (upd H P (.tbl (ps ++ more))) { s with heap := g, toks := tk } := GxR.inv_tab (g' := s.gens) (d' := s.drawn) I hP ext tab I.bare
    obtain ⟨bm, ob, b1, b2, _, _, b5, b6, b7, b8⟩ := TB.bm
    refine wpAny_builtinsFor (m := X.mg) ?_ b1 b2 (J.bk _ _ b5) b6 b7 b8 (h code _ _ ⟨⟨_, upd_same, tri'⟩, fun b ne => upd_ne ne⟩ J ext le)
    rw [J.ok.glob]
    exact J.mod.glob.keeps J.bk
  match hf : codeAmong gpos ps.toList with
  | some cv => exact wpAny_genexprCode_hit hcode (hd.code rawP tri) hf (go cv s.heap s.toks #[] (Heap.ExtBut.refl _ _) (Nat.le_refl _) (by rw [Array.append_empty]; exact rawP) (by rw [Array.append_empty]; exact tri))
  | none =>
    refine wpAny_genexprCodeX hcode (hd.code rawP tri) (hd.tab rawP) hf fun c' g tk ext ge lt isC _ isT _ => go _ g tk _ ext (Nat.le_trans ge (Nat.le_of_lt lt)) isT.2 ?_
    obtain ⟨_, _, _, _, _, _, _, _, _, _, _, _, _, _, _, _, _, _, _, z, _⟩ := isC
    exact z
/-! tuple(elt for x in text): numbers -/
/-! all(elt for x in ..) -/
/-! ### what a captured name holds -/
/-! x in y, y a captured text -/
/-! r[y.index(x)], r a captured tuple of numbers, y a captured text -/
end
end My

set_option Elab.async false
set_option linter.all false
set_option maxRecDepth 100000
set_option maxHeartbeats 2000000
namespace My
open PySem PySem.Spec PyProof.Rows L2
/-! ### tables of code objects: they may grow, all else stays -/
def TG (Ps : List Addr) (H : Hp) : Prop := ∀ P ∈ Ps, GxR.TabG H P
def Sx (Ps : List Addr) (H H' : Hp) : Prop := ∀ b o, b ∉ Ps → H b = some o → H' b = some o
theorem Sx.rfl' {Ps : List Addr} {H : Hp} : Sx Ps H H := fun _ _ _ h => h
theorem Sx.trans {Ps : List Addr} {H H1 H2 : Hp} (a : Sx Ps H H1) (b : Sx Ps H1 H2) : Sx Ps H H2 := fun c o n h => b c o n (a c o n h)
theorem Same.sx {Ps : List Addr} {H H' : Hp} (s : Same H H') : Sx Ps H H' := fun b o _ h => s b o h
theorem TG.same {Ps : List Addr} {H H' : Hp} (t : TG Ps H) (s : Same H H') : TG Ps H' := fun P hP => by
  obtain ⟨ps, h, r⟩ := t P hP
  exact ⟨ps, s _ _ h, r⟩
theorem TG.not {Ps : List Addr} {H : Hp} {b : Addr} {o : HO} (t : TG Ps H) (h : H b = some o) (ho : ∀ q, o ≠ .tbl q) : b ∉ Ps := fun hb => by
  obtain ⟨ps, h2, _⟩ := t b hb
  rw [h2] at h
  exact ho ps (Option.some.inj h).symm
theorem TG.kp {Ps : List Addr} {H H' : Hp} {r : Addr} {xs : List V} (t : TG Ps H) (hr : H r = some (.lst xs)) (k : Kp r H H') : TG Ps H' := fun P hP => by
  obtain ⟨ps, h, q⟩ := t P hP
  refine ⟨ps, k _ _ (fun z => ?_) h, q⟩
  rw [z, hr] at h
  cases h
theorem TG.new {Ps : List Addr} {H : Hp} {p : Addr} {o : HO} (t : TG Ps H) (n : H p = none) : TG Ps (upd H p o) := t.same (Same.new (Same.refl H) n)
theorem Sx.kt {Ps : List Addr} {H H' : Hp} (t : TG Ps H) (s : Sx Ps H H') : Kt H H' := fun b xs h => s b _ (t.not h fun q z => nomatch z) h
theorem Sx.lst {Ps : List Addr} {H H' : Hp} {b : Addr} {xs : List V} (t : TG Ps H) (s : Sx Ps H H') (h : H b = some (.lst xs)) : H' b = some (.lst xs) := s b _ (t.not h fun q z => nomatch z) h
theorem Sx.new {Ps : List Addr} {H H1 : Hp} {p : Addr} {o : HO} (s : Sx Ps H H1) (n : H1 p = none) : Sx Ps H (upd H1 p o) := fun b x nb h => keep_new (s b x nb h) n
theorem Sx.mut {Ps : List Addr} {H H1 : Hp} {p : Addr} {o : HO} (s : Sx Ps H H1) (n : H p = none) : Sx Ps H (upd H1 p o) := fun b x nb h => keep_ne (s b x nb h) (ne_of_none h n)
theorem Sx.free {Ps : List Addr} {H H' : Hp} {p : Addr} (t : TG Ps H') (s : Sx Ps H H') (h : H' p = none) : H p = none := by
  cases q : H p with
  | none => rfl
  | some o =>
    by_cases hp : p ∈ Ps
    · obtain ⟨ps, h2, _⟩ := t p hp
      rw [h] at h2
      cases h2
    · rw [s p o hp q] at h
      cases h
/-- one table of them has grown -/
theorem Tabbed.sx {Ps : List Addr} {P : Addr} {H H' : Hp} (hP : P ∈ Ps) (t : GxR.Tabbed P H H') : Sx Ps H H' := fun b o nb h => by
  rw [t.2 b fun z => nb (z ▸ hP)]
  exact h
theorem Tabbed.tg {Ps : List Addr} {P : Addr} {H H' : Hp} (g : TG Ps H) (t : GxR.Tabbed P H H') : TG Ps H' := fun P' hP' => by
  by_cases e : P' = P
  · rw [e]
    exact t.1
  · obtain ⟨ps, h, q⟩ := g P' hP'
    exact ⟨ps, (t.2 P' e).trans h, q⟩
/-! ### a def whose code object is told -/
def FunC (K : PySem.W.Frag) (x qual : Str) (st : Stmt) (f : Addr) (fd : FuncData) (c : Addr) : Prop :=
  ∃ (oc : Value) (od : Option Addr) (kV doc pm : Value) (an : Option Addr) (ct : Value) (osl : Array (Option Value)), fd = PySem.W.fnOf x qual (defArgs st) (defBody st) (defScope st) .none kV doc pm an (.ref c) ct ∧ K.lookup f = some ⟨oc, od, .func fd, osl⟩ ∧ PySem.W.codeIn K (.ref c) qual = true
theorem FunC.ok {P : Program} {w : World} {K : PySem.W.Frag} {mg : Str → Option Value} {base : Heap} {x qual : Str} {st : Stmt} {f c : Addr} {fd : FuncData} {N ps : List Str} {k : Nat} {sp : Sp} (F : FunC K x qual st f fd c) (S : FnScope N ps (defScope st)) (len : ∀ vs H Q E, sp vs H Q E → vs.length = ps.length)
    (hbody : ∀ (A : Around) (outer : List Env) (s : Shared) (H : Hp) (vs : List V) (Q : VK) (E : XK), Room k (A.deeper (envOfC qual (defScope st) s.heap.objs.size f (.ref c))) → sp vs H Q E →
      ∃ t, PSs (cxOf CX0 P w K mg base N qual (defScope st) f (.ref c) A outer s H E).nox (defBody st) t ∧ t { nx := fun _ H' => Q .non H', rt := Q } (start N vs) H) : FnOk P w K mg base CX0 (k + 1) f fd ps sp := by
  obtain ⟨oc, od, kV, doc, pm, an, ct, osl, rfl, lk, hcd⟩ := F
  refine fn_of lk hcd S len fun A outer s H vs Q E hr hsp => ?_
  obtain ⟨t, h, q⟩ := hbody A outer s H vs Q E hr hsp
  exact ⟨t, h.nox, q⟩
theorem FunC.fn {K : PySem.W.Frag} {x qual : Str} {st : Stmt} {f c : Addr} {fd : FuncData} (F : FunC K x qual st f fd c) (k : PySem.W.keepIn K (.ref f) = true) : Fun K x qual st f fd := by
  obtain ⟨oc, od, kV, doc, pm, an, ct, osl, e, lk, hcd⟩ := F
  exact ⟨⟨oc, od, kV, doc, pm, an, .ref c, ct, osl, e, lk, hcd⟩, k⟩
/-! ### the generator expressions that we met -/
/-! ### the end: the tables of all defs are empty -/
def OwnTC (K : PySem.W.Frag) (fa : Addr) (h : Heap) : Prop := ∀ (c P : Addr) (o : Obj) (fd : FuncData) (e : Value) (dd : Option Addr) (vs : Array Value) (sl : Array (Option Value)), K.lookup fa = some o → o.data = .func fd → fd.code = .ref c → K.lookup c = some ⟨e, dd, .fields vs, sl⟩ → vs[11]? = some (.ref P) →
  h.get? P = some { cls := .none, data := .fields #[] } ∧ PySem.W.CodeHd h c P
end My

set_option Elab.async false
set_option linter.all false
set_option maxRecDepth 100000
set_option maxHeartbeats 2000000
namespace My
open PySem PySem.Spec PyProof.Rows L2
/-! ### texts by their codes -/
theorem inV_signs (c : Nat) : ∀ l : List Nat, inV (sg c) (l.map sg) = decide (c ∈ l)
  | [] => rfl
  | d :: l => by
    have ih := inV_signs c l
    show (((sS d) == (sS c)) || inV (sg c) (l.map sg)) = decide (c ∈ d :: l)
    rw [ih]
    by_cases e : d = c
    · rw [e]
      simp
    · have e2 : ((sS d) == (sS c)) = false := by
        rw [Bool.eq_false_iff]
        intro z
        exact e (sS_inj (by simpa using z))
      have e3 : ¬ c = d := fun z => e z.symm
      rw [e2]
      simp [e3]
theorem flat_signs (l : List Nat) : (l.map sg).all flatV = true := by
  rw [List.all_map, List.all_eq_true]
  intro c _
  rfl
theorem cut_take (l : List Nat) (k : Nat) : cutS ⟨l.toArray⟩ none (some (k : Int)) = ⟨(l.take k).toArray⟩ := by
  unfold cutS
  rw [HT.sIx_none, HT.sIx_nat]
  show (⟨((l.toArray.toList.drop 0).take (min k l.toArray.size - 0)).toArray⟩ : Str) = _
  have e1 : l.toArray.toList = l := by simp
  have e2 : l.toArray.size = l.length := by simp
  rw [e1, e2, List.drop_zero, Nat.sub_zero]
  congr 2
  rw [List.take_eq_take_iff]
  omega
theorem tx_inj {a b : List Nat} (h : tx a = tx b) : a = b := by
  have h2 : (⟨a.toArray⟩ : Str) = ⟨b.toArray⟩ := V.str.inj h
  have h3 : a.toArray = b.toArray := congrArg Str.cps h2
  simpa using h3
/-! ### the letters that a question uses -/
section
variable (K : PySem.W.Frag) {X : Cx}
end
/-! ### the bounds that a question asks of a letter -/
theorem TG.mut {Ps : List Addr} {H : Hp} {p : Addr} {xs : List V} {o : HO} (t : TG Ps H) (h : H p = some (.lst xs)) : TG Ps (upd H p o) := fun P hP => by
  obtain ⟨ps, h2, q⟩ := t P hP
  refine ⟨ps, ?_, q⟩
  rw [upd_ne (fun z => ?_)]
  · exact h2
  · rw [z, h] at h2
    cases h2
/-! ### stretches -/
end My

set_option Elab.async false
set_option linter.all false
set_option maxRecDepth 100000
set_option maxHeartbeats 2000000
namespace My
open PySem PySem.Spec PyProof.Rows L2
/-! ### tuples whose own object is told: without a dict of its own -/
section
variable (K : PySem.W.Frag) {X : Cx}
end
/-! ### questions: their equals are such a tuple -/
def KT (H H' : Hp) : Prop := Kt H H' ∧ ∀ b o xs, H b = some (.frz o (.tup xs)) → H' b = some (.frz o (.tup xs))
theorem KT.rfl' {H : Hp} : KT H H := ⟨Kt.rfl', fun _ _ _ h => h⟩
theorem KT.trans {H H1 H2 : Hp} (a : KT H H1) (b : KT H1 H2) : KT H H2 := ⟨a.1.trans b.1, fun c o xs h => b.2 c o xs (a.2 c o xs h)⟩
theorem Same.kT {H H' : Hp} (s : Same H H') : KT H H' := ⟨Same.kt s, fun b o xs h => s b _ h⟩
theorem Kp.kT {r : Addr} {H H' : Hp} {xs : List V} (k : Kp r H H') (hr : H r = some (.lst xs)) : KT H H' := ⟨k.kt hr, fun b o ys h => k b _ (fun z => by
  rw [z, hr] at h
  cases h) h⟩
theorem Sx.kT {Ps : List Addr} {H H' : Hp} (t : TG Ps H) (s : Sx Ps H H') : KT H H' := ⟨s.kt t, fun b o xs h => s b _ (t.not h fun q z => nomatch z) h⟩
theorem KT.new {H : Hp} {p : Addr} {o : HO} (n : H p = none) : KT H (upd H p o) := ⟨Kt.new n, fun b u xs h => keep_new h n⟩
theorem KT.lst {H : Hp} {p : Addr} {xs : List V} {o : HO} (n : H p = some (.lst xs)) : KT H (upd H p o) := ⟨Kt.lst n, fun b u ys h => keep_ne h fun z => by
  rw [z, n] at h
  cases h⟩
end My

set_option Elab.async false
set_option linter.all false
set_option maxRecDepth 100000
set_option maxHeartbeats 2000000
namespace My
open PySem PySem.Spec PyProof.Rows L2
section
variable (K : PySem.W.Frag) {X : Cx}
theorem slLK (hK : X.K = K := by rfl) : SlR X (rSlL K) := by
  subst hK
  exact sl_list
end
/-! ### what a stretch of the sorted rows holds -/
end My

set_option Elab.async false
set_option linter.all false
set_option maxRecDepth 100000
set_option maxHeartbeats 2000000
namespace My
open PySem PySem.Spec PyProof.Rows L2
theorem nodup_sub_len : ∀ {l m : List Nat}, l.Nodup → (∀ c ∈ l, c ∈ m) → l.length ≤ m.length
  | [], _, _, _ => Nat.zero_le _
  | a :: l, m, h, hs => by
    have h2 := List.nodup_cons.mp h
    have ha := hs a (by simp)
    have ih := nodup_sub_len (m := m.erase a) h2.2 (fun c hc => (List.mem_erase_of_ne (fun e => h2.1 (by rw [← e]; exact hc))).mpr (hs c (by simp [hc])))
    rw [List.length_erase_of_mem ha] at ih
    have hp : 0 < m.length := List.length_pos_of_mem ha
    rw [List.length_cons]
    omega
end My

set_option Elab.async false
set_option linter.all false
set_option maxRecDepth 100000
set_option maxHeartbeats 2000000
namespace My
open PySem PySem.Spec PyProof.Rows L2
section
variable {X : Cx}
/-! ### text[::-1] -/
theorem fm_all (l : List Nat) : (List.range l.length).filterMap (l[·]?) = l := by
  induction l with
  | nil => rfl
  | cons a l ih =>
    rw [List.length_cons, List.range_succ_eq_map, List.filterMap_cons]
    show a :: List.filterMap _ _ = _
    rw [List.filterMap_map]
    congr 1
theorem rev_pick (l : List Nat) : (Builtin.Str.strSliceIndices none none (-1) l.length).filterMap (l[·]?) = l.reverse := by
  have e : Builtin.Str.strSliceIndices none none (-1) l.length = sliceRange ((l.length : Int) - 1) (-1) (-1) := rfl
  rw [e, PySem.W.krv_sliceRange, PySem.W.krv_range, List.filterMap_reverse, fm_all]
/-- the slice ::-1 as it stands behind its making -/
theorem ev_back {pins : List (Addr × Obj)} {σ : L2.St} {H : Hp} {s : Shared} {k : Nat} {p1 p2 p3 : Pos} {Q' : Value → Shared → Prop} (I : Inv X pins σ H s)
    (goal : ∀ (tk : Tok) (s2 : Shared), Inv X pins σ H s2 → Q' (.ref s2.heap.objs.size) { s2 with heap := s2.heap.push { cls := .type "slice", data := .fields #[.none, .none, .int (-1) tk] } }) :
    wpAny (model X.prog X.w) X.A (eval (.Slice none none (some (.UnaryOp .USub (.Constant (.int 1) k p1) p2)) p3) X.env) Q' X.xe s := by
  refine wpAny_Slice ?_
  rw [evalPart_none, evalPart_some]
  refine wpAny_pure (wpAny_pure (thn ((pe_un un_neg pe_int).run pins s σ H (fun x G => x = .int (-1) ∧ G = H) I ⟨1, rfl, rfl, rfl⟩) ?_))
  rintro u s2 ⟨x, G, I2, r, rfl, rfl⟩
  obtain ⟨tk, rfl⟩ := r
  exact goal tk s2 I2
def tRevS (te : TE) : TE := fun σ H Q => te σ H fun x H1 => ∃ l : List Nat, x = tx l ∧ l.length ≤ sizeLine ∧ Q (tx l.reverse) H1
theorem pe_revS {e : Expr} {te : TE} {k : Nat} {p1 p2 p3 pos : Pos} (he : PE X e te) : PE X (.Subscript e (.Slice none none (some (.UnaryOp .USub (.Constant (.int 1) k p1) p2)) p3) pos) (tRevS te) := by
  refine ⟨fun pins s σ H Q I h => Subscript_ (thn (he.run pins s σ H _ I h) ?_)⟩
  rintro _ s1 ⟨_, H1, I1, r1, l, rfl, hl, q⟩
  obtain ⟨t, rfl⟩ := r1
  refine ev_back I1 fun tk s4 I4 => ?_
  have I5 : Inv X pins σ H1 { s4 with heap := s4.heap.push { cls := .type "slice", data := .fields #[.none, .none, .int (-1) tk] } } := I4.kept fun _ _ => Heap.get?_push_of_some _
  refine tail_any (ops := [.str ⟨l.toArray⟩ t, .ref s4.heap.objs.size]) (typeIs_str _ _ _) F.slot_str_getitem.lookup ?_ (by with_unfolding_all rfl)
  refine wpAny_getItem_str_slice (l := none) (u := none) (st := some (-1, tk)) ⟨_, Heap.get?_push_size _ rfl, rfl, rfl⟩ rfl ?_
  have ep : ((Builtin.Str.strSliceIndices none none (-1) (⟨l.toArray⟩ : Str).length).filterMap ((⟨l.toArray⟩ : Str).cps[·]?)).toArray = l.reverse.toArray := by
    have e3 : (⟨l.toArray⟩ : Str).length = l.length := by simp [Str.length]
    rw [e3]
    congr 1
    rw [← rev_pick l]
    congr 1
    funext i
    simp
  show Made.post (if ((-1 : Int) == 1 && (Builtin.Str.strSliceIndices none none (-1) (⟨l.toArray⟩ : Str).length).length == (⟨l.toArray⟩ : Str).length) = true then Made.val (.str ⟨l.toArray⟩ t)
    else Made.str ⟨((Builtin.Str.strSliceIndices none none (-1) (⟨l.toArray⟩ : Str).length).filterMap ((⟨l.toArray⟩ : Str).cps[·]?)).toArray⟩) (EP X pins σ Q) _
  have c0 : ((-1 : Int) == 1) = false := by decide
  rw [c0, Bool.false_and, if_neg Bool.false_ne_true, ep]
  exact ⟨by show l.reverse.toArray.size ≤ sizeLine; simpa using hl, .str _, H1, I5.tok _, ⟨_, rfl⟩, q⟩
end
section
variable {prog : Program} {w : World} {A : Around} {E : Value → Shared → Prop} {s : Shared}
/-- sorted of what is collected as fewer than 64 texts -/
theorem sorted_texts {x : Value} {Q : Value → Shared → Prop} (got : wpAny (model prog w) A.in1 (collect x) (fun out s1 => ∃ zs, StrsAre out zs ∧ out.length < 64 ∧ ∀ (ys : List Str) (us : List Value) (c : Nat) (h' : Heap),
      StrsAre us ys → ys.Perm zs → sortedS ys = true → h'.get? s1.heap.objs.size = some (seqObj "list" us.toArray c) → (∀ b u, s1.heap.get? b = some u → h'.get? b = some u) → Q (.ref s1.heap.objs.size) { s1 with heap := h' }) E s) :
    wpAny (model prog w) A (call (.builtin "sorted") [x]) Q E s := by
  refine Calls.call_function_entry kind_sorted plain_sorted entry_sorted (args_sorted1 _) (wpAny_bind (wpAny_pure (wpAny_bind (wpAny_mono got ?_ fun _ _ z => z))))
  rintro out s1 ⟨zs, ht, l64, goal⟩
  have le : out.length ≤ sizeLine := by rw [sizeLine_eq]; omega
  refine wpAny_bind (wpAny_newList ?_ le)
  have hp : (s1.heap.push (seqObj "list" out.toArray 0)).get? s1.heap.objs.size = some (seqObj "list" out.toArray 0) := Heap.get?_push_size _ rfl
  refine wpAny_bind (wpAny_holding (wpAny_call_entry slot_list_sort ⟨_, hp, rfl⟩ entry_list_sort (list_sort_treeK strKind_oneLt (s := { s1 with heap := _ }) hp ht.keysOf (fun _ _ _ e => keyKind_strs (e ▸ ht)) l64 fun st pm so => ⟨_, rfl, ?_⟩) (args_list_sort _)))
  have ⟨ys, y1, y2, y3⟩ := sorted_out_str ht pm so
  have ⟨c, hc⟩ := sortedHeap_at (vs := out) (out := (arrOf st).map (·.2)) hp
  refine wpAny_pure ⟨_, rfl, goal ys _ c _ y1 y2 y3 (by rw [Array.toArray_toList]; exact hc) fun b u e => ?_⟩
  have lt := Heap.lt_size e
  exact (sortedHeap_old (Nat.ne_of_lt lt) (by rw [size_push']; exact Nat.lt_succ_of_lt lt)).trans (Heap.get?_push_of_some _ e)
end
section
variable {X : Cx}
/-! ### sorted(text) -/
def rSortTx : List V → Hp → VK → Prop := fun xs H Q => ∃ l : List Nat, xs = [tx l] ∧ l.length < 64 ∧ ∀ (l' : List Nat) (p : Addr), l'.Perm l → l'.Pairwise (· ≤ ·) → H p = none → Q (.ref p) (upd H p (.lst (l'.map sg)))
theorem cSortTx (hcalm : X.calm = true := by rfl) : CallR X (.builtin "sorted") rSortTx := by
  rintro pins s σ H xs us Q I r ⟨l, rfl, l64, q⟩
  obtain ⟨_, rfl, t, rfl⟩ := vals1 r
  have n : (⟨l.toArray⟩ : Str).cps.size = l.length := by simp
  have few : l.length ≤ sizeLine := by rw [sizeLine_eq]; omega
  refine sorted_texts (wpAny_collect_str (A := X.A.in1) (I.ok.hd hcalm) ⟨l.toArray⟩ t (fun s1 acc old hg hd ho hacc => ?_) (n ▸ few))
  obtain ⟨h1, g, d, tk, os⟩ := s1
  obtain ⟨rfl, rfl, rfl⟩ : g = s.gens ∧ d = s.drawn ∧ os = s.os := ⟨hg, hd, ho⟩
  have I1 : Inv X pins σ H { s with heap := h1, toks := tk } := I.kept old
  have hv := signs_vals hacc
  rw [show (⟨l.toArray⟩ : Str).cps.toList.map sg = (l.map sS).map V.str from map_sg ..] at hv
  refine ⟨l.map sS, hv.strs, by rw [Array.length_toList, hacc.1, n]; exact l64, fun ys us c h' y1 y2 y3 hp old2 => ?_⟩
  obtain ⟨l', rfl, pm⟩ := perm_signs y2
  have vs := vals_of_strs y1
  rw [← map_sg] at vs
  exact ⟨.ref h1.objs.size, _, I1.laid (t' := tk) (o := .lst (l'.map sg)) old2 (Nat.le_refl _) ⟨by rw [List.length_map, pm.length_eq]; exact few, us, c, vs, hp⟩, rfl, q l' _ pm (sorted_signs l' y3) (I1.hok.fresh (Nat.le_refl _))⟩
end
theorem eqvA_signs : ∀ ns ms : List Nat, PyData.eqvAll (ns.map fun c => PyData.str (sS c)) (ms.map fun c => PyData.str (sS c)) = decide (ns = ms)
  | [], [] => rfl
  | [], m :: ms => by
    show false = _
    simp
  | n :: ns, [] => by
    show false = _
    simp
  | n :: ns, m :: ms => by
    show (PyData.eqv (.str (sS n)) (.str (sS m)) && PyData.eqvAll (ns.map fun c => PyData.str (sS c)) (ms.map fun c => PyData.str (sS c))) = _
    rw [eqvA_signs ns ms]
    show ((sS n == sS m) && _) = _
    by_cases e : n = m
    · subst e
      simp
    · have e2 : (sS n == sS m) = false := by
        rw [Bool.eq_false_iff]
        intro z
        exact e (sS_inj (by simpa using z))
      rw [e2]
      simp [e]
theorem eqv_signs (ns ms : List Nat) : PyData.eqv (.list (ns.map fun c => PyData.str (sS c))) (.list (ms.map fun c => PyData.str (sS c))) = decide (ns = ms) := eqvA_signs ns ms
theorem le_perm_eq : ∀ {l m : List Nat}, l.Perm m → l.Pairwise (· ≤ ·) → m.Pairwise (· ≤ ·) → l = m := fun h h1 h2 => List.Perm.eq_of_pairwise (le := fun a b => a ≤ b) (fun a b _ _ h3 h4 => Nat.le_antisymm h3 h4) h1 h2 h
end My

set_option Elab.async false
set_option linter.all false
set_option maxRecDepth 100000
set_option maxHeartbeats 2000000
namespace My
open PySem PySem.Spec PyProof.Rows L2
section
variable (K : PySem.W.Frag) {X : Cx}
/-! ### the least of a list -/
end
/-! ### keys of a merged dict -/
/-! ### choices: texts in a row -/
abbrev txS (l : List Nat) : Str := ⟨l.toArray⟩
theorem txS_of (z : Str) : txS z.cps.toList = z := by
  cases z
  simp
/-! ### prices -/
end My

set_option Elab.async false
set_option linter.all false
set_option maxRecDepth 100000
set_option maxHeartbeats 2000000
namespace My
open PySem PySem.Spec PyProof.Rows L2
theorem signs_len (l : List Nat) : ((l.map sS).map fun x : Str => x.length).sum = l.length := by
  induction l with
  | nil => rfl
  | cons a k ih =>
    rw [List.map_cons, List.map_cons, List.sum_cons, ih, List.length_cons]
    show 1 + k.length = k.length + 1
    omega
/-! ### texts cut -/
theorem cut_mid (l : List Nat) (a b : Nat) : cutS ⟨l.toArray⟩ (some (a : Int)) (some (b : Int)) = ⟨((l.drop a).take (b - a)).toArray⟩ := by
  unfold cutS
  rw [HT.sIx_nat, HT.sIx_nat]
  have e1 : (⟨l.toArray⟩ : Str).cps.toList = l := by simp
  have e2 : (⟨l.toArray⟩ : Str).length = l.length := by simp [Str.length]
  rw [e1, e2]
  congr 2
  by_cases h : a ≤ l.length
  · rw [Nat.min_eq_left h, List.take_eq_take_iff, List.length_drop]
    omega
  · rw [List.drop_of_length_le (by omega), List.drop_of_length_le (by omega), List.take_nil, List.take_nil]
theorem cut_from (l : List Nat) (a : Nat) : cutS ⟨l.toArray⟩ (some (a : Int)) none = ⟨(l.drop a).toArray⟩ := by
  unfold cutS
  rw [HT.sIx_nat, HT.sIx_none]
  have e1 : (⟨l.toArray⟩ : Str).cps.toList = l := by simp
  have e2 : (⟨l.toArray⟩ : Str).length = l.length := by simp [Str.length]
  rw [e1, e2]
  congr 2
  by_cases h : a ≤ l.length
  · rw [Nat.min_eq_left h, List.take_of_length_le (by rw [List.length_drop]; omega)]
  · rw [List.drop_of_length_le (by omega), List.drop_of_length_le (by omega), List.take_nil]
/-! ### list(x), x a text or a row -/
/-! ### a need and a list: two ways to look -/
end My

set_option Elab.async false
set_option linter.all false
set_option maxRecDepth 100000
set_option maxHeartbeats 2000000
namespace My
open PySem PySem.Spec PyProof.Rows L2
/-! ### sorted again -/
/-! ### rows of lists of numbers -/
mutual
theorem Ft.dp {K : PySem.W.Frag} {H : Hp} : ∀ (d : PyData) (v : V), Ft H v d → Dp K H v d
  | .none, _, .non => .non
  | .bool _, _, .bl b => .bl b
  | .int _, _, .int i => .int i
  | .str _, _, .str z => .str z
  | .list ds, _, .lst h a => .lst (.inl (.inl h)) (FtA.dp ds _ a)
  | .tuple ds, _, .tup h a => .tup (.inl (.inl h)) (FtA.dp ds _ a)
theorem FtA.dp {K : PySem.W.Frag} {H : Hp} : ∀ (ds : List PyData) (vs : List V), FtA H vs ds → DpAll K H vs ds
  | [], _, .nil => .nil
  | d :: ds, _, .cons h a => .cons (Ft.dp d _ h) (FtA.dp ds _ a)
end
end My
namespace My
open PySem PySem.Spec PyProof.Rows L2
end My

set_option Elab.async false
set_option linter.all false
set_option maxRecDepth 100000
set_option maxHeartbeats 2000000
namespace My
open PySem PySem.Spec PyProof.Rows L2
/-! ### generator expressions whose element calls defs -/
/-- the context of a generator expression's own frame -/
abbrev gxC (X : Cx) (A : Around) (s : Shared) (H : Hp) (cenv : Env) (fp : List Addr) (pn : List (Addr × Obj)) : Cx :=
  { X with A := A, s_0 := s, H_0 := H, env := cenv, outer := X.stack, stack := cenv :: X.stack, ex := fp, fn := fun _ => false, pn := pn, xe := fun _ _ => False }
theorem over_gen {A : Around} {elt : Expr} {gs : List Comprehension} {scope : Scope} {pos : Pos} {it acc : Value} {env : Env} : A.over (.compLoop (.GeneratorExp elt gs scope pos) 0 it acc env) [] = A.deeper env := rfl
section
variable {X : Cx} {pins : List (Addr × Obj)} {σ : L2.St} {H : Hp} {s : Shared}
/-- what its consumer wrote at S while it slept -/
theorem woke {S : Addr} {o o' : Obj} {pins0 : List (Addr × Obj)} {s' : Shared} (I : Inv X ((S, o) :: pins0) σ H s) (h0 : X.s_0.heap.objs.size ≤ S) (hc : ∀ x c, X.env.cells.lookup x = some c → c ≠ S) (hpn : ∀ p ∈ X.pn ++ pins0, p.1 ≠ S)
    (os : s'.os = s.os) (bare : AllBare s'.gens) (keep : ∀ b u, b ≠ S → s.heap.get? b = some u → s'.heap.get? b = some u) (own : s'.heap.get? S = some o') (hd : ∀ v, o'.data ≠ .cell v) : Inv X ((S, o') :: pins0) σ H s' := by
  obtain ⟨p1, p2, p3, p4, p5⟩ := I.pin (S, o) (List.mem_append_right _ List.mem_cons_self)
  have I0 : Inv X pins0 σ H s := I.pins_of fun p hp => I.pin p (List.mem_append_right _ (List.mem_cons_of_mem _ hp))
  have J : Inv X pins0 σ H { s with heap := s'.heap, toks := s.toks } := I0.turned (t' := s.toks) keep p2 p3 (.inr h0) hc hpn
  have J2 : Inv X pins0 σ H s' := J.call' (ch := []) os (Un.kept fun b o e => e) J.hok bare (fun b hb => absurd hb (by simp))
  refine J2.pins_of fun p hp => ?_
  rcases List.mem_cons.mp hp with z | z
  · rw [z]
    exact ⟨own, p2, p3, p4, hd⟩
  · exact J2.pin p (List.mem_append_right _ z)
/-- a scope without cells makes none -/
theorem none_made : ∀ {names : List (Str × NameKind)}, (∀ y ∈ names, y.2 ≠ .cell) → (∀ n acc, cellsFrom n names acc = acc) ∧ ∀ h, pushCells h names = h
  | [], _ => ⟨fun _ _ => rfl, fun _ => rfl⟩
  | y :: r, no => by
    have hy : (y.2 == NameKind.cell) = false := beq_eq_false_iff_ne.mpr (no y List.mem_cons_self)
    have ⟨p, q⟩ := none_made (names := r) fun z hz => no z (List.mem_cons_of_mem y hz)
    exact ⟨fun n acc => by rw [cellsFrom, hy]; exact p n acc, fun h => by rw [pushCells, hy]; exact q h⟩
/-- names keep their places when only their kinds change -/
theorem lookup_kinds {f : Str × NameKind → Str × NameKind} (same : ∀ p, (f p).1 = p.1) {x : Str} {k : NameKind} : ∀ {names : List (Str × NameKind)}, names.lookup x = some k → (names.map f).lookup x = some (f (x, k)).2
  | [], e => nomatch e
  | (n, j) :: r, e => by
    rw [List.map_cons, show f (n, j) = (n, (f (n, j)).2) from Prod.ext (same _) rfl]
    cases hx : x == n with
    | true =>
      rw [List.lookup_cons, hx] at e ⊢
      obtain rfl : j = k := Option.some.inj e
      rw [eq_of_beq hx]
    | false =>
      rw [List.lookup_cons, hx] at e ⊢
      exact lookup_kinds same e
/-- a free name stays free or is a cell in the block's scope -/
theorem relab_free {env : Env} {scope : Scope} {x : Str} (e : scope.names.lookup x = some .free) : (relabel scope env).names.lookup x = some .cell ∨ (relabel scope env).names.lookup x = some .free := by
  unfold relabel
  rw [lookup_kinds (fun p => ?_) e]
  · dsimp only
    split
    · exact .inl rfl
    · exact .inr rfl
  · dsimp only
    split <;> rfl
/-- the generator's frame as it begins: what a block's frame would know, with the iterator under its own name -/
theorem gx_start {scope : Scope} {own : List (Str × Nat)} {fp : List Addr} {A : Around} {code : Value} {it : Value} {h' : Heap} {go : Obj} {G : Array GenState} {tk : Nat} (I : Inv X pins σ H s) (ok : BlkOk X.N X.env.scope scope own) (hcell : ∀ y ∈ scope.names, y.2 ≠ .cell) (hN : X.N.Nodup)
    (hfp : ∀ b ∈ fp, FpOk X pins H b ∧ b < s.heap.objs.size) (hA : A.handled = none) (hfr : A.frames = some X.stack) (hn : h'.Ns s.heap.objs.size (fun y => if y = ".0" then some it else none))
    (hs : Heap.SameBut s.heap.objs.size (s.heap.push { cls := .type "frame", data := .dict #[] }) h') (hG : AllBare G) (hgp : (h'.push go).get? h'.objs.size = some go) (hgd : ∀ v, go.data ≠ .cell v) :
    Inv (gxC X (A.deeper (genEnv scope (cloFrom X.env.cells scope.names []) s.heap.objs.size code builtinsNs X.env)) s H (genEnv scope (cloFrom X.env.cells scope.names []) s.heap.objs.size code builtinsNs X.env) fp [(h'.objs.size, go)]) [] (wipe σ (own.map (·.2))) H
      { s with gens := G, toks := tk, heap := h'.push go } := by
  have J := block_start I ok hN hfp
  rw [(none_made hcell).1, (none_made hcell).2] at J
  have lt : s.heap.objs.size < h'.objs.size := hn.lt
  have kp : ∀ b o, s.heap.get? b = some o → (h'.push go).get? b = some o := fun b o e => Heap.get?_push_of_some _ (hs.extBut b o (Nat.ne_of_lt (Heap.lt_size e)) (Heap.get?_push_of_some _ e))
  have cells : ∀ {c : Addr} {v : Option Value}, (s.heap.push { cls := .type "dict", data := .dict #[] }).IsCell c v → (h'.push go).IsCell c v := by
    rintro c v ⟨o, e, d⟩
    have ne : c ≠ s.heap.objs.size := fun z => by
      rw [z, Heap.get?_push_size _ rfl] at e
      rw [← Option.some.inj e] at d
      cases d
    exact ⟨o, kp c o (Heap.get?_push_ne _ _ _ ne ▸ e), d⟩
  have outside : ∀ {y : Str}, scope.names.lookup y = some .cell ∨ scope.names.lookup y = some .free → (relabel scope X.env).names.lookup y = some .cell ∨ (relabel scope X.env).names.lookup y = some .free := fun z => z.elim (fun e => absurd rfl (hcell _ (PySem.mem_of_lookup e))) relab_free
  refine { ok := { mod := J.ok.mod, kind := ok.kind, glob := J.ok.glob, blt := rfl, above := Nat.le_refl _, inj := J.ok.inj, has := fun y z => J.ok.has y (outside z), cab := (fun _ _ z => nomatch z), hd := fun _ => hA, frames := Around.frames_deeper hfr, stk := .inr ⟨rfl, rfl⟩,
                   exf := J.ok.exf, bs := J.ok.bs, bsz := J.ok.bsz, noex := J.ok.noex, exfs := J.ok.exfs, funs := J.ok.funs, frf := J.ok.frf }
           os := rfl, bare := hG, base := Un.kept kp, loc := ⟨_, hn.push go, fun i y v hy hv vis => ?_⟩, cell := fun y c e => (J.cell y c e).imp fun _ => cells, free := J.free, freeC := J.freeC, pin := ?_, hok := I.hok.kept kp, len := J.len }
  · obtain ⟨m, hm, all⟩ := J.loc
    have blank : m y = none := hm.agree (Heap.Ns.new s.heap (.type "dict")) y
    have get := all i y v hy hv
    rcases vis with l | l
    · have l2 : (relabel scope X.env).names.lookup y = some .local := lookup_relabel_local l
      obtain ⟨u, _, z | z⟩ := get (.inl l2)
      · rw [blank] at z
        exact nomatch z.2
      · rcases z.1 with z | z <;> exact nomatch l2.symm.trans z
    · obtain ⟨u, r, z | ⟨_, c, e, k⟩⟩ := get (.inr (outside l))
      · rw [blank] at z
        exact nomatch z.2
      · exact ⟨u, r, .inr ⟨l, c, e, cells k⟩⟩
  · intro p hp
    obtain rfl : p = (h'.objs.size, go) := by simpa using hp
    refine ⟨hgp, I.hok.fresh (Nat.le_of_lt lt), Nat.ne_of_gt lt, fun z => ?_, hgd⟩
    rcases List.mem_cons.mp (I.stkSub _ z) with e | e
    · exact Nat.lt_irrefl _ (Nat.lt_trans lt (show h'.objs.size < _ from (show h'.objs.size = X.env.locals from e) ▸ I.lt))
    · exact I.nofs (Nat.le_of_lt lt) e
end
end My

set_option Elab.async false
set_option linter.all false
set_option maxRecDepth 100000
set_option maxHeartbeats 2000000
namespace My
open PySem PySem.Spec PyProof.Rows L2
/-- where such a generator stands: i items are out; S: what its consumer keeps -/
structure GxAt (X : Cx) (fp : List Addr) (tn : Nat → Heap → Prop) (σ0 : L2.St) (W : Nat → Hp → Prop) (S : Addr) (i : Nat) (o : Obj) (H : Hp) (s : Shared) : Prop where
  inv : Inv X [(S, o)] σ0 H s
  st : tn i s.heap
  nfp : ∀ b ∈ fp, H b = none
  w : W i H
/-- the consumer wrote at S alone -/
structure Wrote (S : Addr) (s s' : Shared) (o' : Obj) : Prop where
  os : s'.os = s.os
  bare : AllBare s'.gens
  keep : ∀ b u, b ≠ S → s.heap.get? b = some u → s'.heap.get? b = some u
  own : s'.heap.get? S = some o'
  nc : ∀ v, o'.data ≠ .cell v
def gxY (X : Cx) (fp : List Addr) (tn : Nat → Heap → Prop) (σ0 : L2.St) (W : Nat → Hp → Prop) (S : Addr) (n : Nat) (F : Nat → V) : Protocol := fun m s₀ v s kap =>
  ∃ i o H, m + i + 1 = n ∧ RelV (F i) v ∧ s₀.heap.get? S = some o ∧ GxAt X fp tn σ0 W S (i + 1) o H s ∧ ∀ s'' o', Wrote S s s'' o' → kap (.send .none) s''
def gxP (X : Cx) (σ0 : L2.St) (W : Nat → Hp → Prop) (S : Addr) (n : Nat) : Nat → Shared → Shared → Prop := fun m s₀ s₁ => m = 0 ∧ ∃ o H, Inv X [(S, o)] σ0 H s₁ ∧ W n H
section
variable {X : Cx}
/-- one item's reading -/
def gxStep (J : It) (g : L2.TG) (te : TE) (vs : List Nat) (σ0 : L2.St) (W : Nat → Hp → Prop) (n : Nat) (F : Nat → V) : Prop :=
  ∀ i H, W i H → (i < n → J.go i H ∧ ∀ x H', J.yld i H x H' → g x σ0 H' fun σ2 H2 => wipe σ2 vs = σ0 ∧ te σ2 H2 fun y H3 => y = F i ∧ W (i + 1) H3) ∧ (i = n → J.stop i H)
theorem gx_loop {A : Around} {elt tg iter : Expr} {scope : Scope} {pos : Pos} {J : It} {fp : List Addr} {it : Addr} {tn : Nat → Heap → Prop} {g : L2.TG} {te : TE} {vs : List Nat} {σ0 : L2.St} {W : Nat → Hp → Prop} {n : Nat} {F : Nat → V} {S : Addr}
    (hA : A.deeper X.env = X.A) (T : Turn X.prog X.w X.K tg J fp it tn) (hc : X.calm = true) (hex : X.ex = fp) (hSf : S ∉ fp) (hpf : ∀ p ∈ X.pn, p.1 ∉ fp) (hxe : ∀ e s, X.xe e s → False) (hco : X.env.scope.isCoroutine = false)
    (h0 : X.s_0.heap.objs.size ≤ S) (hcs : ∀ x c, X.env.cells.lookup x = some c → c ≠ S) (hpS : ∀ p ∈ X.pn, p.1 ≠ S)
    (pg : PG X tg g) (pe : PE X elt te) (step : gxStep J g te vs σ0 W n F) :
    ∀ (k i : Nat) (s₀ s : Shared) (o : Obj) (H : Hp), i + k = n → s₀.heap.get? S = some o → GxAt X fp tn σ0 W S i o H s →
      Seg (model X.prog X.w) A (fun m s₀ r s₁ => r = .ok .next ∧ gxP X σ0 W S n m s₀ s₁) (gxY X fp tn σ0 W S n F) k s₀
        (.compLoop (.GeneratorExp elt [⟨tg, iter, [], 0⟩] scope pos) 0 (.ref it) .none X.env)
        ((model X.prog X.w).den (.compLoop (.GeneratorExp elt [⟨tg, iter, [], 0⟩] scope pos) 0 (.ref it) .none X.env)) [] s := by
  have stat : ∀ {o : Obj} {σ' : L2.St} {H' : Hp} {s' : Shared}, Inv X [(S, o)] σ' H' s' → (∀ b ∈ fp, H' b = none) → ∀ b ∈ fp, FpOk X [(S, o)] H' b := fun {o σ' H' s'} I' hn b hb =>
    ⟨hn b hb, (I'.ok.exf b (hex ▸ hb)).1, I'.ok.exfs b (hex ▸ hb), .inl (hex ▸ hb), fun x c e => (I'.ok.exf b (hex ▸ hb)).2 x c e, fun p hp z => by
      rcases List.mem_append.mp hp with q | q
      · exact hpf p q (z ▸ hb)
      · have e : p = (S, o) := by simpa using q
        rw [e] at z
        exact hSf (by rw [show S = b from z]; exact hb)⟩
  intro k
  induction k with
  | zero =>
    intro i s₀ s o H hk hs0 G
    have hin : i = n := by omega
    subst hin
    show Seg _ A _ _ _ s₀ _ ((compTurn (.GeneratorExp elt [⟨tg, iter, [], 0⟩] scope pos) 0 (.ref it) .none X.env).onRaise (leaving X.env)) [] s
    rw [compTurn_gen, Sem.onRaise_eq_wrap]
    refine seg_bind_wrap (wpAny_standAt ?_)
    refine seg_bind_wrap ?_
    rw [over_gen, hA]
    refine thnF (T.done X rfl rfl rfl hc i [(S, o)] s σ0 H (fun _ _ => False) G.inv (stat G.inv G.nfp) G.st ((step i H G.w).2 rfl)) fun r s6 ⟨hr, I6⟩ => ?_
    subst hr
    exact seg_end (.ok .next) ⟨rfl, rfl, o, H, I6, G.w⟩
  | succ k ih =>
    intro i s₀ s o H hk hs0 G
    have hlt : i < n := by omega
    obtain ⟨go, st⟩ := (step i H G.w).1 hlt
    show Seg _ A _ _ _ s₀ _ ((compTurn (.GeneratorExp elt [⟨tg, iter, [], 0⟩] scope pos) 0 (.ref it) .none X.env).onRaise (leaving X.env)) [] s
    rw [compTurn_gen, Sem.onRaise_eq_wrap]
    refine seg_bind_wrap (wpAny_standAt ?_)
    refine seg_bind_wrap ?_
    rw [over_gen, hA]
    refine thnF (T.item X rfl rfl rfl hc i [(S, o)] s σ0 H (fun _ _ => False) G.inv (stat G.inv G.nfp) G.st go) fun r s6 ⟨u, hr, h6⟩ => ?_
    subst hr
    refine seg_bind_wrap ?_
    rw [over_gen, hA]
    refine thnF h6 fun _ s7 ⟨x, H7, I7, r7, y7, st7, n7⟩ => ?_
    have I7' := I7.pinned (stat I7 n7) (T.obj _ _ st7)
    refine seg_bind_wrap ?_
    rw [over_gen, hA]
    refine wpAny_mono (pg.run _ s7 _ H7 x u _ I7' r7 (st x H7 y7)) (fun _ s8 h8 => ?_) (fun e s' z => (hxe e s' z).elim)
    obtain ⟨σ8, H8, I8, hw8, q8⟩ := h8
    refine seg_bind_wrap (wpAny_tests_nil ?_)
    simp only [if_true]
    have hy : ∀ v, yieldOut X.env v = yieldValue v := fun v => by simp only [yieldOut, hco, Bool.false_eq_true, if_false]
    simp only [hy]
    rw [Sem.bind_eq_wrap', Sem.bind_eq_wrap', Sem.wrap_wrap, Sem.wrap_wrap]
    refine seg_wrap ?_
    rw [over_gen, hA]
    refine wpAny_mono (pe.run _ s8 σ8 H8 _ I8 q8) (fun yv s10 h10 => ?_) (fun e s' z => (hxe e s' z).elim)
    obtain ⟨y, H10, I10, r10, ey, w10⟩ := h10
    have pin' : ∀ b ∈ fp, ∀ ob, s7.heap.get? b = some ob → s10.heap.get? b = some ob ∧ H10 b = none := fun b hb ob e =>
      let z := I10.pin (b, ob) (List.mem_append_right _ (List.mem_append_right _ (mem_pinsAt hb e)))
      ⟨z.1, z.2.1⟩
    have hl : σ0.length = σ8.length := by rw [← hw8, wipe_length]
    have I11 : Inv X [(S, o)] σ0 H10 s10 := (I10.unpinned (pins := [(S, o)])).weak hl fun j v e => by
      rw [← hw8] at e
      exact (wipe_some e).1
    have G11 : GxAt X fp tn σ0 W S (i + 1) o H10 s10 := ⟨I11, T.keep _ _ _ st7 fun b hb ob e => (pin' b hb ob e).1, fun b hb => by
      obtain ⟨ob, e, _⟩ := T.obj _ _ st7 b hb
      exact (pin' b hb ob e).2, w10⟩
    refine seg_at (seg_yield rfl rfl rfl ⟨i, o, H10, by omega, by rw [← ey]; exact r10, hs0, G11, fun s'' o' z => ?_⟩)
    refine seg_again rfl (ih (i + 1) s'' s'' o' H10 (by omega) z.own ⟨woke G11.inv h0 hcs (fun p hp => hpS p (by simpa using hp)) z.os z.bare z.keep z.own z.nc, T.keep _ _ _ G11.st fun b hb ob e => z.keep b ob (fun q => hSf (q ▸ hb)) e, G11.nfp, G11.w⟩)
/-- from its beginning -/
theorem gx_begin {A : Around} {elt tg iter : Expr} {scope : Scope} {pos : Pos} {J : It} {fp : List Addr} {it : Addr} {tn : Nat → Heap → Prop} {R : GenEnd} {Y : Protocol} {k : Nat} {s₀ s : Shared} (T : Turn X.prog X.w X.K tg J fp it tn) (st : tn 0 s.heap)
    (loop : Seg (model X.prog X.w) A R Y k s₀ (.compLoop (.GeneratorExp elt [⟨tg, iter, [], 0⟩] scope pos) 0 (.ref it) .none X.env)
        ((model X.prog X.w).den (.compLoop (.GeneratorExp elt [⟨tg, iter, [], 0⟩] scope pos) 0 (.ref it) .none X.env)) [] s) :
    Seg (model X.prog X.w) A R Y k s₀ (.compStart (.GeneratorExp elt [⟨tg, iter, [], 0⟩] scope pos) 0 (.ref it) .none X.env)
        ((model X.prog X.w).den (.compStart (.GeneratorExp elt [⟨tg, iter, [], 0⟩] scope pos) 0 (.ref it) .none X.env)) [] s := by
  show Seg _ A _ _ _ s₀ _ ((compStart (.GeneratorExp elt [⟨tg, iter, [], 0⟩] scope pos) 0 (.ref it) .none X.env).onRaise (leaving X.env)) [] s
  unfold compStart
  rw [Sem.onRaise_eq_wrap]
  show Seg _ A _ _ _ s₀ _ ((ask >>= _).wrap _ _ _ _) [] s
  refine seg_bind_wrap (wpAny_askSetting ?_)
  split
  · exact seg_again rfl loop
  · refine seg_bind_wrap (wpAny_rule ?_)
    show Seg _ A _ _ _ s₀ _ ((standAt iter.pos >>= _).wrap _ _ _ _) [] s
    exact seg_bind_wrap (wpAny_standAt (seg_bind_wrap (T.self _ 0 s _ _ st (seg_again rfl loop))))
end
end My

set_option Elab.async false
set_option linter.all false
set_option maxRecDepth 100000
set_option maxHeartbeats 2000000
namespace My
open PySem PySem.Spec PyProof.Rows L2
section
variable {X : Cx}
/-- what sum() walks: the generator at a sleeps, k items are still to come -/
structure GxSt (X : Cx) (A : Around) (fp : List Addr) (tn : Nat → Heap → Prop) (σ0 : L2.St) (W : Nat → Hp → Prop) (S : Addr) (n : Nat) (F : Nat → V) (a : Addr) (g k : Nat) (s : Shared) : Prop where
  gen : s.heap.IsGen a g
  lim : s.heap.NoLimit
  bare : AllBare s.gens
  go : ∃ gs, s.gens[g]? = some gs ∧ ∀ s'' o', Wrote S s s'' o' → gs.Goes (model X.prog X.w) A (fun m s₀ r s₁ => r = .ok .next ∧ gxP X σ0 W S n m s₀ s₁) (gxY X fp tn σ0 W S n F) k (.send .none) s''
end
end My

set_option Elab.async false
set_option linter.all false
set_option maxRecDepth 100000
set_option maxHeartbeats 2000000
namespace My
open PySem PySem.Spec PyProof.Rows L2
section
variable {X : Cx} {pins : List (Addr × Obj)} {σ : L2.St} {H : Hp} {s : Shared}
/-- the generator expression's scope -/
structure GxS (X : Cx) (scope : Scope) (own : List (Str × Nat)) : Prop where
  blk : BlkOk X.N X.env.scope scope own
  co : scope.isCoroutine = false
  cell : ∀ y ∈ scope.names, y.2 ≠ .cell
  dot : scope.names.lookup (".0" : Str) = some NameKind.local
/-- the generator at a, as it was made -/
def GxNew (X : Cx) (pins : List (Addr × Obj)) (σ : L2.St) (elt tg iter : Expr) (scope : Scope) (pos : Pos) (own : List (Str × Nat)) (J : It) (H2 : Hp) (a : Addr) (s5 : Shared) : Prop :=
  ∃ (s4 : Shared) (code : Value) (cenv : Env) (fp : List Addr) (it : Addr) (tn : Nat → Heap → Prop) (go : Obj),
    cenv = genEnv scope (cloFrom X.env.cells scope.names []) s4.heap.objs.size code builtinsNs X.env ∧ Inv X pins σ H2 s4 ∧ (∀ b ∈ fp, FpOk X pins H2 b ∧ b < s4.heap.objs.size) ∧ Turn X.prog X.w X.K tg J fp it tn ∧ tn 0 s5.heap ∧
    s5.gens = s4.gens.push (.fresh (.compStart (.GeneratorExp elt [⟨tg, iter, [], 0⟩] scope pos) 0 (.ref it) .none cenv)) ∧ (∀ h : Heap, h.get? a = some go → h.IsGen a s4.gens.size) ∧ s5.heap.get? a = some go ∧ s4.heap.objs.size < a ∧
    (∀ A : Around, A.handled = none → A.frames = some X.stack → Inv (gxC X (A.deeper cenv) s4 H2 cenv fp [(a, go)]) [] (wipe σ (own.map (·.2))) H2 s5)
theorem gx_make {c P : Addr} {elt tg iter : Expr} {gpos : Pos} {scope : Scope} {own : List (Str × Nat)} {wi : TI} {k : Nat} {Q' : Value → Shared → Prop} {R : It → Hp → Prop}
    (hr : Room k X.A) (TB : LamX.TabB X.base X.mg c P) (hcode : X.env.code = .ref c) (S : GxS X scope own) (hN : X.N.Nodup) (hi : PI X tg iter wi)
    (hs : ∀ v, genFold iter X.env v = pure v) (I : Inv X pins σ H s) (h : wi σ H fun J H1 => GxR.TabG H1 P ∧ R J H1)
    (hQ : ∀ J H1 H2 a s5, R J H1 → GxR.Tabbed P H1 H2 → GxNew X pins σ elt tg iter scope gpos own J H2 a s5 → Q' (.ref a) s5) :
    wpAny (model X.prog X.w) X.A (eval (.GeneratorExp elt [⟨tg, iter, [], 0⟩] scope gpos) X.env) Q' X.xe s := by
  have caught : ∀ y ∈ scope.names, y.2 = .free → ∃ c, X.env.cells.lookup y.1 = some c := fun y hy e => I.ok.has _ (S.blk.free y hy e)
  have deep : X.A.depth < recursionLimit := by
    have := hr.dp
    omega
  refine wpAny_GeneratorExp_make S.co (closure_ok caught) S.cell S.dot S.blk.kind deep (thn (hi.run pins s σ H _ I h) fun xv s1 hx => thn hx fun itv s2 h2 => ?_) hs
  obtain ⟨it, fp, tn, J, H1, rfl, I2, T, st2, f2, hT, hR⟩ := h2
  refine ⟨I2.nolimit, gen_code I2 TB hcode hT fun code H2 s4 tab I4 kp _ h' hn' hs' => ?_⟩
  have apart : ∀ b ∈ fp, b ≠ P := fun b hb z => by
    obtain ⟨_, e, _⟩ := hT
    rw [← z, (f2 b hb).1] at e
    cases e
  have kp5 : ∀ (go : Obj) b u, s4.heap.get? b = some u → (h'.push go).get? b = some u := fun go b u e => Heap.get?_push_of_some _ (hs'.extBut b u (Nat.ne_of_lt (Heap.lt_size e)) (Heap.get?_push_of_some _ e))
  have f4 : ∀ b ∈ fp, FpOk X pins H2 b ∧ b < s4.heap.objs.size := fun b hb => by
    obtain ⟨o, e, _⟩ := T.obj _ _ st2 b hb
    exact ⟨⟨(tab.2 b (apart b hb)).trans (f2 b hb).1, (f2 b hb).2⟩, Heap.lt_size (kp b o (apart b hb) e)⟩
  generalize hgo : ({ cls := .type "generator", data := .fields #[.int s4.gens.size 0, .str "<genexpr>" (s4.toks + 1), .str (X.env.qual ++ "<genexpr>") (s4.toks + 1 + 1)] } : Obj) = go
  have hgp : (h'.push go).get? h'.objs.size = some go := Heap.get?_push_size _ (by rw [← hgo]; rfl)
  have hgd : ∀ v, go.data ≠ .cell v := fun v z => by
    rw [← hgo] at z
    cases z
  exact hQ J H1 H2 h'.objs.size _ hR tab ⟨s4, code, _, fp, it, tn, go, rfl, I4, f4, T, T.keep _ _ _ st2 fun b hb u e => kp5 go b u (kp b u (apart b hb) e), rfl, fun hh e => ⟨go, _, _, e, by rw [← hgo], by rw [← hgo], by rw [← hgo]⟩, hgp, hn'.lt,
    fun A hA hfr => gx_start I4 S.blk S.cell hN f4 hA hfr hn' hs' (I4.bare.push rfl) hgp hgd⟩
end
end My

set_option Elab.async false
set_option linter.all false
set_option maxRecDepth 100000
set_option maxHeartbeats 2000000
namespace My
open PySem PySem.Spec PyProof.Rows L2
def gxCk (scope : Scope) : Bool := !scope.isCoroutine && (scope.names.all fun y => match y.2 with | .cell => false | _ => true) && (match scope.names.lookup (".0" : Str) with | some .local => true | _ => false)
theorem gxS_by {X : Cx} {scope : Scope} {own : List (Str × Nat)} (b : BlkOk X.N X.env.scope scope own) (h : gxCk scope = true) : GxS X scope own := by
  unfold gxCk at h
  simp only [Bool.and_eq_true] at h
  obtain ⟨⟨h1, h2⟩, h3⟩ := h
  rw [List.all_eq_true] at h2
  refine ⟨b, by simpa using h1, fun y hy z => ?_, ?_⟩
  · have q := h2 y hy
    rw [z] at q
    cases q
  · revert h3
    cases scope.names.lookup (".0" : Str) with
    | none => simp
    | some k => cases k <;> simp
/-! sums -/
/-! works -/
end My

set_option Elab.async false
set_option linter.all false
set_option maxRecDepth 100000
set_option maxHeartbeats 2000000
namespace My
open PySem PySem.Spec PyProof.Rows L2
/-! ### a promise where no repr is under way -/
structure FnG (P : Program) (w : World) (K : PySem.W.Frag) (mg : Str → Option Value) (base : Heap) (k : Nat) (f : Addr) (fd : FuncData) (ps : List Str) (sp : Sp) : Prop where
  ln : ∀ vs H Q E, sp vs H Q E → vs.length = ps.length
  go : ∀ (A : Around), A.guards = some [] → Room k A → ∀ (outer : List Env) (s : Shared) (H : Hp) (args : Args) (us : List Value) (vs : List V) (Q : VK) (E : XK), Env0 P w K mg base A outer s H → BindsTo s fd args (ps.zip us) → Vals vs us → sp vs H Q E → codeAny (model P w) A (.call (.ref f) args) (CR CX0 outer P w H s Q E) s
theorem okG {P : Program} {w : World} {K : PySem.W.Frag} {mg : Str → Option Value} {base : Heap} {x qual : Str} {st : Stmt} {f : Addr} {fd : FuncData} {N ps : List Str} {k : Nat} {sp : Sp} (F : Fun K x qual st f fd) (S : FnScope N ps (defScope st)) (ln : ∀ vs H Q E, sp vs H Q E → vs.length = ps.length)
    (body : ∀ (cdv : Value) (A : Around) (outer : List Env) (s : Shared) (H : Hp) (vs : List V) (Q : VK) (E : XK), A.guards = some [] → Room k (A.deeper (envOfC qual (defScope st) s.heap.objs.size f cdv)) → sp vs H Q E →
      ∃ t, PSs (cxOf CX0 P w K mg base N qual (defScope st) f cdv A outer s H E).nox (defBody st) t ∧ t { nx := fun _ G => Q .non G, rt := Q } (start N vs) H) : FnG P w K mg base (k + 1) f fd ps sp := by
  obtain ⟨oc, od, kV, dcv, pm, an, cdv, ct, osl, rfl, look, hcode⟩ := F.ex
  refine ⟨ln, fun A hgd hr outer s H args us vs Q E e0 hbd rel hsp => ?_⟩
  obtain ⟨t, ht, hq⟩ := body cdv A outer s H vs Q E hgd (hr.deeper _) hsp
  have inK : K.In s.heap := e0.mod.kin.keeps fun c o z => (e0.bs c o z).1
  have nlm : s.heap.NoLimit := e0.mod.nolimit.keeps fun c o z => (e0.bs c o z).1
  refine codeAny_call_function hr.depth (inK _ _ look) rfl S.co S.gen rfl (PySem.W.codeRec_of inK hcode) (hbd _ _ _ _ (wpAny_newFunctionEnv_cells S.kind (fun y hy => ?_) fun env he s1 begun => ?_))
  · rcases S.par y.1 (List.of_mem_zip (show (y.1, y.2) ∈ ps.zip us from hy)).1 with z | z
    · exact .inl z
    · exact .inr ⟨z, PySem.W.cellsFrom_some _ _ _ (.inl z)⟩
  subst he
  refine ⟨nlm.keeps begun.toInCall.keep, codeAny_func (wpAny_mono (ht.nox.run [] s1 _ H _ (inv_start S hr.hd e0 (ln _ _ _ _ hsp) rel begun) hq) (fun fl s' hs => ?_) fun e s' hs => hs)⟩
  cases fl with
  | ret u =>
    obtain ⟨v, σ', G, J, rv, qv⟩ := hs
    exact ⟨v, G, J.os, J.bare, J.base, J.hok, rv, qv⟩
  | next =>
    obtain ⟨σ', G, J, qv⟩ := hs
    exact ⟨V.non, G, J.os, J.bare, J.base, J.hok, rfl, qv⟩
  | brk =>
    obtain ⟨_, _, _, z⟩ := hs
    exact False.elim z
  | cont =>
    obtain ⟨_, _, _, z⟩ := hs
    exact False.elim z
/-! ### repr of data -/
structure Sh (n m : Nat) (d : PyData) : Prop where
  ok : d.showable = true
  nd : d.hasDict = false
  sh : d.leavesShort 100 = true
  dp : d.depth ≤ n
  wt : d.weight ≤ m
  ly : d.canLay0 = true
theorem Sh.mono {n n' m m' : Nat} {d : PyData} (h : Sh n m d) (h1 : n ≤ n') (h2 : m ≤ m') : Sh n' m' d := ⟨h.ok, h.nd, h.sh, Nat.le_trans h.dp h1, Nat.le_trans h.wt h2, h.ly⟩
theorem Sh.none {n m : Nat} : Sh n m .none := ⟨rfl, rfl, rfl, Nat.zero_le _, Nat.zero_le _, rfl⟩
theorem Sh.bool {n m : Nat} (b : Bool) : Sh n m (.bool b) := ⟨rfl, rfl, rfl, Nat.zero_le _, Nat.zero_le _, rfl⟩
theorem Sh.str {n m : Nat} {l : List Nat} (h : ∀ c ∈ l, c < 1000) (hl : l.length ≤ m) : Sh n m (.str (txS l)) := by
  refine ⟨rfl, rfl, ?_, Nat.zero_le _, ?_, ?_⟩
  · have e : l.toArray.toList = l := by simp
    simp only [PyData.leavesShort, List.all_eq_true, decide_eq_true_eq]
    intro c hc
    have := h c hc
    omega
  · show l.toArray.size ≤ m
    simpa using hl
  · show (txS l).cps.all (· < 0x110000) = true
    rw [Array.all_eq_true']
    intro c hc
    have hc2 : c ∈ l := by simpa using hc
    have := h c hc2
    exact decide_eq_true (by omega)
theorem log2_small {i : Int} (h : i.natAbs < 10 ^ 60) : i.natAbs.log2 < 200 := by
  by_cases e : i.natAbs = 0
  · rw [e]
    decide
  · rw [Nat.log2_lt e]
    exact Nat.lt_of_lt_of_le h (by decide)
theorem Sh.int {n m : Nat} {i : Int} (h : i.natAbs < 10 ^ 60) (hm : 200 ≤ m) : Sh n m (.int i) := by
  have h1 := log2_small h
  refine ⟨?_, rfl, ?_, Nat.zero_le _, ?_, rfl⟩
  · simp only [PyData.showable, decide_eq_true_eq]
    omega
  · simp only [PyData.leavesShort, decide_eq_true_eq]
    show (Str.ofString (toString i)).length ≤ 100
    have h2 := int_text_length_le10 (a := i) (k := 60) (by decide) h
    rw [PySem.ofString_length]
    omega
  · simp only [PyData.weight]
    split <;> omega
theorem sh_all {n m : Nat} : ∀ {xs : List PyData}, (∀ x ∈ xs, Sh n m x) → PyData.showableAll xs = true ∧ PyData.hasDictAll xs = false ∧ PyData.leavesShortAll 100 xs = true ∧ PyData.depthAll xs ≤ n ∧ PyData.weightAll xs ≤ (m + 1) * xs.length ∧ PyData.canLayAll0 xs = true
  | [], _ => ⟨rfl, rfl, rfl, Nat.zero_le _, Nat.zero_le _, rfl⟩
  | x :: xs, h => by
    obtain ⟨a1, a2, a3, a4, a5, a6⟩ := sh_all (xs := xs) fun y hy => h y (List.mem_cons_of_mem _ hy)
    have b := h x (List.mem_cons_self ..)
    refine ⟨by simp only [PyData.showableAll, b.ok, a1, Bool.and_self], by simp only [PyData.hasDictAll, b.nd, a2, Bool.or_self], by simp only [PyData.leavesShortAll, b.sh, a3, Bool.and_self], ?_, ?_, by simp only [PyData.canLayAll0, b.ly, a6, Bool.and_self]⟩
    · have := b.dp
      simp only [PyData.depthAll]
      omega
    · have := b.wt
      simp only [PyData.weightAll, List.length_cons, Nat.mul_add, Nat.mul_one]
      omega
theorem Sh.lst {n m : Nat} {xs : List PyData} (h : ∀ x ∈ xs, Sh n m x) : Sh (n + 1) ((m + 1) * xs.length) (.list xs) := by
  obtain ⟨a1, a2, a3, a4, a5, a6⟩ := sh_all h
  exact ⟨a1, a2, a3, Nat.succ_le_succ a4, a5, a6⟩
theorem Sh.tup {n m : Nat} {xs : List PyData} (h : ∀ x ∈ xs, Sh n m x) : Sh (n + 1) ((m + 1) * xs.length) (.tuple xs) := by
  obtain ⟨a1, a2, a3, a4, a5, a6⟩ := sh_all h
  exact ⟨a1, a2, a3, Nat.succ_le_succ a4, a5, a6⟩
theorem Sh.fits {d : PyData} (h : Sh 20 100000 d) : d.shown.length ≤ sizeLine := by
  have h1 := PyData.shown_le 100 (by decide) d h.sh
  have h2 := h.wt
  rw [sizeLine_eq]
  omega
def rRepr (K : PySem.W.Frag) : List V → Hp → VK → Prop := fun xs H Q => ∃ (v : V) (d : PyData), xs = [v] ∧ Dp K H v d ∧ Sh 20 100000 d ∧ Q (.str d.shown) H
theorem cReprK (K : PySem.W.Frag) {X : Cx} {k : Nat} (hgd : X.A.guards = some []) (hr : Room k X.A) (hK : X.K = K := by rfl) : CallR X (.builtin "repr") (rRepr K) := by
  subst hK
  intro pins s σ H xs us Q I r h
  obtain ⟨v, d, rfl, hd, hs, q⟩ := h
  obtain ⟨u, rfl, rx⟩ := vals1 r
  obtain ⟨as, rd⟩ := Dp.reads I _ _ _ hd rx
  have hz := hs.fits
  cases u with
  | ref a =>
    refine repr_of_reads' rd hs.ok (PyData.noDict_hsm hs.nd) hgd ?_ (fun _ _ e => e) (fun h' u tk hk => ⟨.str d.shown, H, I.kept hk, ⟨_, rfl⟩, q⟩) hz
    have h1 := hs.dp
    have h2 := hr.un
    omega
  | none =>
    cases rd
    exact PySem.P.repr_of_none ⟨.str _, H, I.tok _, ⟨_, rfl⟩, q⟩
  | bool b =>
    cases rd
    exact PySem.P.repr_of_bool ⟨.str _, H, I.tok _, ⟨_, rfl⟩, q⟩
  | int i t =>
    cases rd
    refine PySem.P.repr_of_int ?_ ⟨.str _, H, I.tok _, ⟨_, rfl⟩, q⟩
    have := hs.ok
    simpa only [PyData.showable, decide_eq_true_eq] using this
  | str x t =>
    cases rd
    exact PySem.P.repr_of_str ⟨.str _, H, I.tok _, ⟨_, rfl⟩, q⟩ hz
  | _ => cases rd
/-! ### the law's own call -/
section
variable {P : Program} {w : World} {K : PySem.W.Frag} {mg mb : Str → Option Value} {cs : List (Addr × Addr)} {a : Addr} {vs : List Value} {ns : List Int} {s : Shared} {H : Hp}
/-- told of at the beginning: the script, where it is no part of what is written, and the tables of code -/
structure Begun (P : Program) (w : World) (K : PySem.W.Frag) (cs : List (Addr × Addr)) (a : Addr) (vs : List Value) (ns : List Int) (s : Shared) (H : Hp) : Prop where
  tb : ∀ p ∈ cs, H p.2 = some (.tbl #[])
  only : ∀ b u, H b = some u → (b ∈ cs.map (·.2) ∧ u = .tbl #[]) ∨ (b = a ∧ K.lookup a = Option.none ∧ u = .frz { cls := .type "list", data := .seq vs.toArray } (.lst (ns.map V.int)))
  sc : SqL K H a (ns.map V.int)
  hok : HOk P w H s.heap
open Classical in
theorem begun (inK : K.In s.heap) (hT : ∀ p ∈ cs, s.heap.get? p.2 = some { cls := .none, data := .fields #[] }) (ha : s.heap.get? a = some { cls := .type "list", data := .seq vs.toArray }) (hi : IntsAre vs ns) (hl : ns.length ≤ sizeLine) : ∃ H, Begun P w K cs a vs ns s H := by
  have tabs : ∀ b, b ∈ cs.map (·.2) → s.heap.get? b = some { cls := .none, data := .fields #[] } := fun b z => by
    obtain ⟨p, hp, rfl⟩ := List.mem_map.mp z
    exact hT p hp
  have far : a ∉ cs.map (·.2) := fun z => by
    have z1 := (tabs a z).symm.trans ha
    cases congrArg Obj.data (Option.some.inj z1)
  refine ⟨fun b => if b ∈ cs.map (·.2) then some (.tbl #[]) else if b = a ∧ K.lookup a = Option.none then some (.frz { cls := .type "list", data := .seq vs.toArray } (.lst (ns.map V.int))) else Option.none, fun p hp => if_pos (List.mem_map.mpr ⟨p, hp, rfl⟩), fun b u hu => ?_, ?_, fun b u hu => ?_⟩
  · split at hu
    · rename_i z
      exact .inl ⟨z, (Option.some.inj hu).symm⟩
    · split at hu
      · rename_i z
        exact .inr ⟨z.1, z.2, (Option.some.inj hu).symm⟩
      · cases hu
  · cases hk : K.lookup a with
    | some o =>
      have z := (inK a o hk).symm.trans ha
      cases z
      exact .inr ⟨_, vs.toArray, _, hk, rfl, rfl, rfl, by rw [List.size_toArray, hi.length]; exact hl, by simpa using vals_ints hi⟩
    | none => exact .inl (.inr ⟨{ cls := .type "list", data := .seq vs.toArray }, (if_neg far).trans (if_pos ⟨rfl, rfl⟩)⟩)
  · split at hu
    · rename_i z
      cases hu
      exact tabs b z
    · split at hu
      · rename_i z
        cases hu
        rw [z.1]
        exact ⟨ha, by rw [List.length_map]; exact hl, vs, _, vals_ints hi, ha⟩
      · cases hu
/-- what is no list and no empty table is not told of -/
theorem Begun.bare (B : Begun P w K cs a vs ns s H) {b : Addr} {o : Obj} (hT : ∀ p ∈ cs, s.heap.get? p.2 = some { cls := .none, data := .fields #[] }) (ha : s.heap.get? a = some { cls := .type "list", data := .seq vs.toArray }) (e : s.heap.get? b = some o) (h1 : ∀ us n, o.data ≠ .seq us n) (h2 : o.data ≠ .fields #[]) : (hidT s.heap H).get? b = some o := by
  refine hidT_get e ?_
  cases hb : H b with
  | none => rfl
  | some u =>
    rcases B.only b u hb with ⟨z, _⟩ | ⟨z, _⟩
    · obtain ⟨p, hp, rfl⟩ := List.mem_map.mp z
      have z1 := Option.some.inj ((hT p hp).symm.trans e)
      exact absurd (congrArg Obj.data z1).symm h2
    · subst z
      have z1 := Option.some.inj (ha.symm.trans e)
      exact absurd (congrArg Obj.data z1).symm (h1 _ _)
/-- the law's call -/
theorem callG {k : Nat} {fa : Addr} {fd : FuncData} {x : Str} {sp : Sp} (inK : K.In s.heap) (hns : s.heap.Ns mainGlobals mg) (hb : s.heap.Ns builtinsNs mb) (hbb : ∀ y : Str, y ≠ "__name__" → mb y = bootBuiltins y) (hlim : s.heap.NoLimit) (hg : s.gens = #[])
    (hT : ∀ p ∈ cs, s.heap.get? p.2 = some { cls := .none, data := .fields #[] }) (nT : ∀ p ∈ cs, K.lookup p.2 = Option.none) (C : ∀ p ∈ cs, PySem.W.CodeHd s.heap p.1 p.2)
    (hbm : ∃ (m : Addr) (o : Obj), mg "__builtins__" = some (.ref m) ∧ m ≠ builtinsNs ∧ s.heap.get? m = some o ∧ o.cls = .type "module" ∧ o.dict = some builtinsNs ∧ o.data = .plain)
    (ha : s.heap.get? a = some { cls := .type "list", data := .seq vs.toArray }) (hi : IntsAre vs ns) (hl : ns.length ≤ sizeLine) (hr : Room k callerA)
    (F : ∀ base : Heap, K.In base → base.Ns mainGlobals mg → (∀ p ∈ cs, LamX.TabB base mg p.1 p.2) → FnG P w K mg base k fa fd [x] sp) (hbind : ∀ (t : Shared) (u : Value), BindsTo t fd ⟨[u], []⟩ [(x, u)])
    (hsp : ∀ G : Hp, (∀ p ∈ cs, G p.2 = some (.tbl #[])) → SqL K G a (ns.map V.int) → sp [.ref a] G (fun v _ => v = .bl true) fun _ _ _ => False) :
    codeAny (model P w) callerA (.call (.ref fa) ⟨[.ref a], []⟩) (fun r t => r = .ok (.ret (.bool true)) ∧ OldK s.heap t.heap ∧ t.os = s.os ∧ AllBare t.gens) s := by
  obtain ⟨H, B⟩ := begun (P := P) (w := w) inK hT ha hi hl
  have stays : ∀ {b : Addr} {o : Obj}, s.heap.get? b = some o → (∀ us n, o.data ≠ .seq us n) → o.data ≠ .fields #[] → (hidT s.heap H).get? b = some o := fun e h1 h2 => B.bare hT ha e h1 h2
  have names : ∀ {b : Addr} {m : Str → Option Value}, s.heap.Ns b m → (hidT s.heap H).Ns b m := fun ⟨o, es, ep, e, d, r⟩ => ⟨o, es, ep, stays e (fun us n z => by rw [d] at z; cases z) (fun z => by rw [d] at z; cases z), d, r⟩
  have inB : K.In (hidT s.heap H) := fun b o e => hidT_get (inK b o e) (by
    cases hbb : H b with
    | none => rfl
    | some u =>
      exfalso
      rcases B.only b u hbb with ⟨z, _⟩ | ⟨z, z2, _⟩
      · obtain ⟨p, hp, rfl⟩ := List.mem_map.mp z
        cases (nT p hp).symm.trans e
      · subst z
        cases z2.symm.trans e)
  have TB : ∀ p ∈ cs, LamX.TabB (hidT s.heap H) mg p.1 p.2 := fun p hp => by
    have hTp := hT p hp
    refine ⟨?_, ?_, fun z => ?_⟩
    · obtain ⟨o, us, fl, tf, fg, tg, inF, tx, tt, e1, r1, r2, r3, r4⟩ := C p hp
      exact ⟨o, us, fl, tf, fg, tg, inF, tx, tt, stays e1 (fun us n z => by rw [r2] at z; cases z) (fun z => by
        rw [r2] at z
        cases z
        simp at r3), r1, r2, r3, r4⟩
    · obtain ⟨m, o, b1, b2, b3, b4, b5, b6⟩ := hbm
      refine ⟨m, o, b1, b2, fun z => ?_, fun z => ?_, stays b3 (fun us n z => by rw [b6] at z; cases z) (fun z => by rw [b6] at z; cases z), b4, b5, b6⟩
      · obtain ⟨o2, es, ep, e, d, _⟩ := hns
        rw [z] at b3
        cases e.symm.trans b3
        rw [d] at b6
        cases b6
      · rw [z] at b3
        cases hTp.symm.trans b3
        cases b6
    · obtain ⟨o2, es, ep, e, d, _⟩ := hns
      rw [z] at e
      cases hTp.symm.trans e
      cases d
  have hM : L2.Mod K mg (hidT s.heap H) := ⟨inB, names hns, ⟨mb, names hb, hbb⟩, let ⟨mc, h1, h2⟩ := hlim; ⟨mc, names h1, h2⟩⟩
  have e0 : Env0 P w K mg (hidT s.heap H) callerA [] s H := ⟨rfl, hM, fun b o e => of_hidT e, Nat.le_of_eq (hidT_size _ _), trivial, fun b z => absurd z List.not_mem_nil, B.hok, .of_eq hg⟩
  refine codeAny_mono ((F _ inB (names hns) TB).go callerA rfl hr [] s H ⟨[.ref a], []⟩ [.ref a] [.ref a] _ _ e0 (hbind s (.ref a)) (.cons rfl .nil) (hsp H B.tb B.sc)) fun r t h => ?_
  cases r with
  | error e => exact False.elim h
  | ok fl =>
    cases fl with
    | ret u =>
      obtain ⟨v, G, hos, hbare, un, hokG, rel, hv⟩ := h
      have hv2 : v = .bl true := hv
      subst hv2
      obtain rfl : u = Value.bool true := rel
      have more : ∀ p ∈ cs, ∃ m : Array Value, t.heap.get? p.2 = some { cls := .none, data := .fields m } := fun p hp => by
        obtain ⟨m, z⟩ := un.tbls p.2 #[] (B.tb p hp)
        exact ⟨_, hokG p.2 _ z⟩
      have rest : ∀ b o, b ∉ cs.map (·.2) → s.heap.get? b = some o → t.heap.get? b = some o := fun b o nb e => by
        cases hbH : H b with
        | none => exact un.keep b o e hbH (fun z => absurd z List.not_mem_nil) List.not_mem_nil
        | some y =>
          rcases B.only b y hbH with ⟨z, _⟩ | ⟨_, _, rfl⟩
          · exact absurd z nb
          · obtain ⟨g1, _⟩ := B.hok b _ hbH
            obtain ⟨g2, _⟩ := hokG b _ (un.frzs b _ _ hbH)
            cases g1.symm.trans e
            exact g2
      refine ⟨rfl, ⟨fun b o e => ?_, fun b o e => ?_⟩, hos, hbare⟩
      · by_cases z : b ∈ cs.map (·.2)
        · obtain ⟨p, hp, rfl⟩ := List.mem_map.mp z
          obtain ⟨m, hm⟩ := more p hp
          cases (hT p hp).symm.trans e
          exact .inr (.inl ⟨((C p hp).tab (hT p hp)).isCodeTable, rfl, #[], m, rfl, by rw [Array.empty_append]; exact hm⟩)
        · exact .inl (rest b o z e)
      · by_cases z : b ∈ cs.map (·.2)
        · obtain ⟨p, hp, rfl⟩ := List.mem_map.mp z
          obtain ⟨m, hm⟩ := more p hp
          exact ⟨_, hm⟩
        · exact ⟨o, rest b o z e⟩
    | _ => exact False.elim h
end
/-- what is known of the law at the head's heap -/
def LawAtG (l : PySem.W.OpenLaw) (w : World) (K : PySem.W.Frag) (k n : Nat) (x : Str) (mg : Str → Option Value) (fa : Addr) (h : Heap) : Prop :=
  ∃ (fd : FuncData) (cs : List (Addr × Addr)) (sp : Sp), (∀ p ∈ cs, h.get? p.2 = some { cls := .none, data := .fields #[] }) ∧ (∀ p ∈ cs, K.lookup p.2 = none) ∧ (∀ p ∈ cs, PySem.W.CodeHd h p.1 p.2) ∧ (∀ (t : Shared) (u : Value), BindsTo t fd ⟨[u], []⟩ [(x, u)]) ∧
    (∀ (G : Hp) (sc : Addr) (ns : List Int), ns.length ≤ n → (∀ z ∈ ns, Builtin.Int.intBits z ≤ 1048576) → (∀ p ∈ cs, G p.2 = some (.tbl #[])) → SqL K G sc (ns.map V.int) → sp [.ref sc] G (fun v _ => v = .bl true) fun _ _ _ => False) ∧
    ∀ base : Heap, K.In base → base.Ns mainGlobals mg → (∀ p ∈ cs, LamX.TabB base mg p.1 p.2) → FnG l.prog w K mg base k fa fd [x] sp
theorem walk_ofG {l : PySem.W.OpenLaw} {n k : Nat} {q : Program} {loose : List Str} {XP : (Str → Option Value) → Heap → Prop} {YP : World → Heap → Prop} {d : DefRec} {K : Params → PySem.W.Frag} {x : Str}
    (hn : l.most = some n) (hz : n ≤ sizeLine) (hdf : d.params.defaults = []) (hr : Room k callerA) (hY : ∀ (v : World) (h : Heap), YP v h → (K v.params).In h)
    (F : ∀ (w : World) (mg : Str → Option Value) (fl : Addr) (h : Heap), YP w h → (K w.params).In h → h.Ns mainGlobals mg → mg d.name = some (.ref fl) →
      (∀ (nm : Str) (fb : Addr), ((recsOf q).any fun e => e.name == nm) = true → mg nm = some (.ref fb) → OwnTC (K w.params) fb h) → LawAtG l w (K w.params) k n x mg fl h) :
    PySem.W.WalkO q loose XP YP l.row.toRowW d [] (fun f vs => PySem.call f vs) := by
  refine Att.attach_callB hn hdf fun w s₀ s₁ mg mb fa o pm cd dc a vs ns G Y ho hd hcd hmg hobj hints hlen hbits hg => ?_
  have KX := hY w _ Y
  obtain ⟨fd, cs, sp, hT, nT, C, hb, hsp, hF⟩ := F w mg fa _ Y KX G.T.g hmg fun nm fb hrec hnm c P o1 fd1 e dd vs1 sl k1 k2 k3 k4 k5 => by
    obtain ⟨dL, hm, hn1⟩ := List.any_eq_true.mp hrec
    have hn3 : dL.name = nm := beq_iff_eq.mp hn1
    obtain ⟨a', o', fd', c', P', g1, g2, g3, g4, g5, g6⟩ := G.T.tab dL hm
    rw [hn3, hnm] at g1
    cases g1
    rw [KX _ _ k1] at g2
    cases g2
    rw [k2] at g3
    cases g3
    rw [k3] at g4
    cases g4
    have g7 := g6
    obtain ⟨⟨oc, vc, e1, _, e3, e4⟩, hP⟩ := g7
    rw [KX _ _ k4] at e1
    cases e1
    cases e3
    rw [k5] at e4
    cases e4
    exact ⟨hP, PySem.W.CodeHd.of g5 g6⟩
  exact callG KX G.T.g G.T.b G.T.builtins G.T.nolimit hg hT nT C G.T.bmain hobj hints (Nat.le_trans hlen hz) hr hF hb fun H hH hS => hsp H a ns hlen hbits hH hS
end My

set_option Elab.async false
set_option linter.all false
set_option maxRecDepth 100000
set_option maxHeartbeats 2000000
namespace My
open PySem PySem.Spec PyProof.Rows L2
/-! ### all(elt for target in iter), any(..), the element of any kind -/
section
variable {X : Cx}
theorem repin {A : Around} {s s' : Shared} {H H' : Hp} {cenv : Env} {fp : List Addr} {pn pins : List (Addr × Obj)} {σ : L2.St} (I : Inv (gxC X A s H cenv fp pn) pins σ H' s') : Inv (gxC X A s H cenv fp []) (pn ++ pins) σ H' s' :=
  ⟨⟨I.ok.mod, I.ok.kind, I.ok.glob, I.ok.blt, I.ok.above, I.ok.inj, I.ok.has, I.ok.cab, I.ok.hd, I.ok.frames, I.ok.stk, I.ok.exf, I.ok.bs, I.ok.bsz, I.ok.noex, I.ok.exfs, I.ok.funs, I.ok.frf⟩, I.os, I.bare, I.base, I.loc, I.cell, I.free, I.freeC, I.pin, I.hok, I.len⟩
theorem all_loopC {A : Around} {fp : List Addr} {tn : Nat → Heap → Prop} {σ0 : L2.St} {W : Nat → Hp → Prop} {n : Nat} {tr : Nat → Bool} {a : Addr} {g : Nat} {go : Obj} {R : Result → Shared → Prop}
    (hh : A.handled = none) (hd : A.depth < recursionLimit) (hgo : ∀ h : Heap, h.get? a = some go → h.IsGen a g) (hnc : ∀ v, go.data ≠ .cell v)
    (hR1 : ∀ s' o H, (∀ j, j < n → tr j = true) → Inv X [(a, o)] σ0 H s' → W n H → R (.ok (.ret (.bool true))) s')
    (hR0 : ∀ s' o H j, j < n → tr j = false → (∀ i, i < j → tr i = true) → Inv X [(a, o)] σ0 H s' → W (j + 1) H → R (.ok (.ret (.bool false))) s') :
    ∀ (k i : Nat) (s : Shared), i + k = n → (∀ j, j < i → tr j = true) → GxSt X A.in1.in1 fp tn σ0 W a n (fun i => .bl (tr i)) a g k s → s.heap.get? a = some go →
      codeAny (model X.prog X.w) A (.builtin "all.loop" ⟨[.ref a], []⟩) R s := by
  intro k
  induction k with
  | zero =>
    intro i s hk hall Z hS
    have hin : i = n := by omega
    subst hin
    obtain ⟨hg, hl, hb, gs, hgs, hgoes⟩ := Z
    refine codeAny_builtin F.entry_all_loop ?_
    rw [Around.under_plainId F.plain_all_loop _]
    show wpAny _ A.in1 (pyNext (.ref a) >>= _) _ _ s
    refine wpAny_bind (wpAny_pyNext_genexpQ (A := A.in1) hh hl hd hg hgs (hgoes (s.setGen g .running) _ ⟨rfl, allBare_setGen hb rfl, fun b u _ e => e, hS, hnc⟩) (fun v s₁ gs' hbare hv => ?_) fun s₁ hp h' hk' => ?_)
    · obtain ⟨i', o, H, _, _, _, G, hkap⟩ := hv
      obtain ⟨p1, _, _, _, p5⟩ := G.inv.pin (a, o) (List.mem_append_right _ List.mem_cons_self)
      exact (hkap s₁ o ⟨rfl, G.inv.bare, fun b u _ e => e, p1, p5⟩).elim
    · obtain ⟨_, o, H, I, w⟩ := hp
      refine wpAny_bind (wpAny_rule (wpAny_pure (hR1 _ o H hall ?_ w)))
      exact I.call' (ch := []) rfl (Un.kept hk') (I.hok.kept hk') (allBare_setGen I.bare rfl) (fun b hb => absurd hb (by simp))
  | succ k ih =>
    intro i s hk hall Z hS
    have hlt : i < n := by omega
    obtain ⟨hg, hl, hb, gs, hgs, hgoes⟩ := Z
    have hgl : g < s.gens.size := (Array.getElem?_eq_some_iff.mp hgs).1
    refine codeAny_builtin F.entry_all_loop ?_
    rw [Around.under_plainId F.plain_all_loop _]
    show wpAny _ A.in1 (pyNext (.ref a) >>= _) _ _ s
    refine wpAny_bind (GenW.wpAny_gsz (n := g + 1) hgl (wpAny_pyNext_genexpQ (A := A.in1) hh hl hd hg hgs (hgoes (s.setGen g .running) _ ⟨rfl, allBare_setGen hb rfl, fun b u _ e => e, hS, hnc⟩) (fun v s₁ gs' hbare hv => ?_) fun s₁ hp h' hk' => ?_))
    · intro hsz
      obtain ⟨i', o, H, hi', hrel, hs0, G, hkap⟩ := hv
      have ei : i' = i := by omega
      subst ei
      obtain rfl : v = .bool (tr i') := hrel
      have eo : o = go := by
        have h1 : s.heap.get? a = some o := hs0
        rw [hS] at h1
        exact (Option.some.inj h1).symm
      subst eo
      obtain ⟨p1, _, _, _, p5⟩ := G.inv.pin (a, o) (List.mem_append_right _ List.mem_cons_self)
      refine wpAny_bind (wpAny_holding (wpAny_truthy_bool (wpAny_bind (wpAny_letGo ?_))))
      cases hb : tr i' with
      | true =>
        simp only [if_true]
        have hsz1 : g < s₁.gens.size := by
          have q : (s₁.setGen g gs').gens.size = s₁.gens.size := GenW.setGen_size _ _ _
          have hsz' : g + 1 ≤ (s₁.setGen g gs').gens.size := hsz
          omega
        refine wpAny_pure ⟨plainId_quiet F.plain_all_loop _, ih (i' + 1) _ (by omega) (fun j hj => ?_) ⟨hgo _ p1, G.inv.nolimit, allBare_setGen (s := s₁) G.inv.bare hbare, gs', setGen_at (s := s₁) hsz1, fun s'' o'' z => ?_⟩ p1⟩
        · by_cases e : j = i'
          · rw [e]
            exact hb
          · exact hall j (by omega)
        · exact hkap s'' o'' ⟨z.os, z.bare, z.keep, z.own, z.nc⟩
      | false =>
        simp only [Bool.false_eq_true, if_false]
        refine wpAny_bind (wpAny_rule (wpAny_pure (hR0 _ o H i' hlt hb hall ?_ G.w)))
        exact G.inv.call' (ch := []) rfl (Un.kept fun b u e => e) G.inv.hok (allBare_setGen G.inv.bare hbare) (fun b hb => absurd hb (by simp))
    · exact absurd hp.1 (Nat.succ_ne_zero k)
/-- all(..) -/
def tAllC (P : Addr) (wi : TI) (g : L2.TG) (te : TE) (vs : List Nat) : TE := fun σ H Q => wi σ H fun J H1 => GxR.TabG H1 P ∧ ∀ H2, GxR.Tabbed P H1 H2 →
  ∃ (n : Nat) (tr : Nat → Bool) (W : Nat → Hp → Prop), W 0 H2 ∧ gxStep J g te vs (wipe σ vs) W n (fun i => .bl (tr i)) ∧ (∀ H3, W n H3 → (∀ j, j < n → tr j = true) → Q (.bl true) H3) ∧ ∀ j H3, j < n → tr j = false → (∀ i, i < j → tr i = true) → W (j + 1) H3 → Q (.bl false) H3
theorem pe_allC {c P : Addr} {elt tg iter : Expr} {p pos gpos : Pos} {scope : Scope} {own : List (Str × Nat)} {wi : TI} {g : L2.TG} {te : TE} {k : Nat}
    (hr : Room (k + 3) X.A) (hg : Gl X "all") (hm : X.mg "all" = none) (TB : LamX.TabB X.base X.mg c P) (hcode : X.env.code = .ref c) (S : GxS X scope own) (hN : X.N.Nodup) (hc : X.calm = true) (hi : PI X tg iter wi)
    (pg : ∀ (A : Around) (s : Shared) (H : Hp) (C : Addr) (cl : List (Str × Addr)) (code : Value) (fp : List Addr) (pn : List (Addr × Obj)), PG (gxC X A s H (genEnv scope cl C code builtinsNs X.env) fp pn) tg g)
    (pe : ∀ (A : Around) (s : Shared) (H : Hp) (C : Addr) (cl : List (Str × Addr)) (code : Value) (fp : List Addr) (pn : List (Addr × Obj)), Room k A → PE (gxC X A s H (genEnv scope cl C code builtinsNs X.env) fp pn) elt te)
    (hb : bootBuiltins "all" = some (.builtin "all") := by decide +kernel) (hs : ∀ v, genFold iter X.env v = pure v := by intro _; rfl)
    (he : starEach [.GeneratorExp elt [⟨tg, iter, [], 0⟩] scope gpos] X.env = (false, eval (.GeneratorExp elt [⟨tg, iter, [], 0⟩] scope gpos) X.env) :: starEach [] X.env := by rfl) :
    PE X (.Call (.Name "all" p) [.GeneratorExp elt [⟨tg, iter, [], 0⟩] scope gpos] [] pos) (tAllC P wi g te (own.map (·.2))) := by
  refine ⟨fun pins s σ H Q I h => ?_⟩
  refine wpAny_Call_Name_kw (ld_blt I hg hm hb (PyProof.Rows.callWith_builtin1 ?_ he (by rfl)))
  rw [he]
  refine Calls.spliced_cons (gx_make hr TB hcode S hN hi hs I h fun J H1 H2 a s5 hR hTb hG => ?_)
  refine Calls.spliced_nil ?_
  obtain ⟨n, tr, W, w0, step, hend1, hend0⟩ := hR H2 hTb
  obtain ⟨s4, code, cenv, fp, it, tn, go, ec, I4, f4, T, st5, egs, hgen, hga, hlt, hInv⟩ := hG
  have I5 := repin (hInv X.A.in1.in1 hr.hd I4.ok.frames)
  have hroom : Room k (X.A.in1.in1.deeper cenv) := hr.in1.in1.deeper cenv
  have pg' := pg (X.A.in1.in1.deeper cenv) s4 H2 s4.heap.objs.size (cloFrom X.env.cells scope.names []) code fp []
  have pe' := pe (X.A.in1.in1.deeper cenv) s4 H2 s4.heap.objs.size (cloFrom X.env.cells scope.names []) code fp [] hroom
  rw [← ec] at pg' pe'
  have hgen5 : s5.heap.IsGen a s4.gens.size := hgen _ hga
  obtain ⟨_, ga, gb, gc, hnc⟩ := I5.pin (a, go) (by simp)
  have haf : a ∉ fp := fun hb => Nat.lt_irrefl _ (Nat.lt_trans (f4 a hb).2 hlt)
  have hcl : ∀ x c, cenv.cells.lookup x = some c → c ≠ a := fun x c e z => by
    obtain ⟨v, o, e1, e2⟩ := I5.cell x c e
    rw [z, hga] at e1
    cases e1
    exact hnc _ e2
  refine call_function_tree F.kind_all F.plain_all F.entry_all (F.args_all1 _) ?_
  unfold Builtin.«all»
  refine wpAny_bind (m := oneArg "all" _) (wpAny_pure ?_)
  refine wpAny_bind (wpAny_pyIter_gen hgen5 ?_)
  refine wpAny_pure ⟨plainId_quiet F.plain_all_loop _, all_loopC (X := gxC X (X.A.in1.in1.deeper cenv) s4 H2 cenv fp []) (A := X.A) (fp := fp) (tn := tn) (σ0 := wipe σ (own.map (·.2))) (W := W) (n := n) (tr := tr) (a := a) (g := s4.gens.size) (go := go)
    hr.hd (by have := hr.dp; omega) hgen hnc (fun s' o H3 hdone I' w' => ?_) (fun s' o H3 j hj hsj hal I' w' => ?_) n 0 _ (Nat.zero_add n) (fun j hj => absurd hj (Nat.not_lt_zero j)) ⟨hgen5, I5.nolimit, I5.bare, .fresh (.compStart (.GeneratorExp elt [⟨tg, iter, [], 0⟩] scope gpos) 0 (.ref it) .none cenv), ?_, fun s'' o' z => ⟨rfl, ?_⟩⟩ hga⟩
  · refine ⟨.bl true, H3, ?_, rfl, hend1 H3 w' hdone⟩
    exact I4.call' (ch := fp) I'.os I'.base I'.hok I'.bare fun b hb => ⟨(f4 b hb).1.2.2.2.1, (f4 b hb).1.2.1, (f4 b hb).1.2.2.2.2.1, (f4 b hb).1.2.2.2.2.2⟩
  · refine ⟨.bl false, H3, ?_, rfl, hend0 j H3 hj hsj hal w'⟩
    exact I4.call' (ch := fp) I'.os I'.base I'.hok I'.bare fun b hb => ⟨(f4 b hb).1.2.2.2.1, (f4 b hb).1.2.1, (f4 b hb).1.2.2.2.2.1, (f4 b hb).1.2.2.2.2.2⟩
  · show s5.gens[s4.gens.size]? = _
    rw [egs]
    exact Array.getElem?_push_size ..
  · have Iz : Inv (gxC X (X.A.in1.in1.deeper cenv) s4 H2 cenv fp []) [(a, o')] (wipe σ (own.map (·.2))) H2 s'' := woke I5 (Nat.le_of_lt hlt) hcl (fun p hp => absurd hp (by simp)) z.os z.bare z.keep z.own z.nc
    have stz : tn 0 s''.heap := T.keep _ _ _ st5 fun b hb u e => z.keep b u (fun q => haf (q ▸ hb)) e
    exact gx_begin (X := gxC X (X.A.in1.in1.deeper cenv) s4 H2 cenv fp []) T stz (gx_loop (X := gxC X (X.A.in1.in1.deeper cenv) s4 H2 cenv fp []) rfl T hc rfl haf (fun p hp => absurd hp List.not_mem_nil) (fun _ _ q => q) (by rw [ec]; exact S.co) (Nat.le_of_lt hlt) hcl (fun p hp => absurd hp List.not_mem_nil) pg' pe' step n 0 s'' s'' o' H2 (Nat.zero_add n) z.own ⟨Iz, stz, fun b hb => (f4 b hb).1.1, w0⟩)
end
end My

set_option Elab.async false
set_option linter.all false
set_option maxRecDepth 100000
set_option maxHeartbeats 2000000
namespace My
open PySem PySem.Spec PyProof.Rows L2
theorem gx_step {J : It} {n : Nat} {G : Hp → Prop} {Y : Nat → Hp → V → Hp → Prop} (w : Walk J n G Y) {g : L2.TG} {te : TE} {vs : List Nat} {σ0 : L2.St} {F : Nat → V} {Pv : Nat → Hp → Prop}
    (hG : ∀ i H, i ≤ n → Pv i H → G H) (hs : ∀ i x H H', i < n → Pv i H → Y i H x H' → g x σ0 H' fun σ2 H2 => wipe σ2 vs = σ0 ∧ te σ2 H2 fun y H3 => y = F i ∧ i + 1 ≤ n ∧ Pv (i + 1) H3) :
    gxStep J g te vs σ0 (fun i H => i ≤ n ∧ Pv i H) n F := fun i H hW => ⟨fun hi => ⟨w.goes i H hi (hG i H hW.1 hW.2), fun x H' y => hs i x H H' hi hW.2 (w.yields i H x H' hi (hG i H hW.1 hW.2) y)⟩, fun e => by
    subst e
    exact w.stops H (hG i H hW.1 hW.2)⟩
/-! ### data that lies away from some places -/
def hidS (L : List Addr) (H : Hp) : Hp := fun b => if b ∈ L then none else H b
theorem hid_some {L : List Addr} {H : Hp} {b : Addr} {o : HO} : hidS L H b = some o ↔ b ∉ L ∧ H b = some o := by
  unfold hidS
  split
  · rename_i h
    exact ⟨(fun z => nomatch z), (fun z => absurd h z.1)⟩
  · rename_i h
    exact ⟨fun z => ⟨h, z⟩, fun z => z.2⟩
abbrev Fl (L : List Addr) (H : Hp) (v : V) (d : PyData) : Prop := Ft (hidS L H) v d
abbrev FlA (L : List Addr) (H : Hp) (vs : List V) (ds : List PyData) : Prop := FtA (hidS L H) vs ds
theorem hid_same {L : List Addr} {H : Hp} : Same (hidS L H) H := fun _ _ e => (hid_some.mp e).2
theorem hid_keep {L : List Addr} {H H' : Hp} (k : ∀ b o, b ∉ L → H b = some o → H' b = some o) : Same (hidS L H) (hidS L H') := fun b o e => hid_some.mpr ⟨(hid_some.mp e).1, k b o (hid_some.mp e).1 (hid_some.mp e).2⟩
theorem hid_sub {L L' : List Addr} {H : Hp} (h : ∀ b ∈ L', b ∈ L) : Same (hidS L H) (hidS L' H) := fun b o e => hid_some.mpr ⟨fun z => (hid_some.mp e).1 (h b z), (hid_some.mp e).2⟩
theorem Fl.to {L : List Addr} {H : Hp} {v : V} {d : PyData} (h : Fl L H v d) : Ft H v d := Ft.mono hid_same _ _ h
theorem FlA.to {L : List Addr} {H : Hp} {vs : List V} {ds : List PyData} (h : FlA L H vs ds) : FtA H vs ds := FtA.mono hid_same _ _ h
theorem Fl.keep {L : List Addr} {H H' : Hp} {v : V} {d : PyData} (h : Fl L H v d) (k : ∀ b o, b ∉ L → H b = some o → H' b = some o) : Fl L H' v d := Ft.mono (hid_keep k) _ _ h
theorem FlA.keep {L : List Addr} {H H' : Hp} {vs : List V} {ds : List PyData} (h : FlA L H vs ds) (k : ∀ b o, b ∉ L → H b = some o → H' b = some o) : FlA L H' vs ds := FtA.mono (hid_keep k) _ _ h
theorem Fl.sub {L L' : List Addr} {H : Hp} {v : V} {d : PyData} (h : Fl L H v d) (hs : ∀ b ∈ L', b ∈ L) : Fl L' H v d := Ft.mono (hid_sub hs) _ _ h
theorem FlA.sub {L L' : List Addr} {H : Hp} {vs : List V} {ds : List PyData} (h : FlA L H vs ds) (hs : ∀ b ∈ L', b ∈ L) : FlA L' H vs ds := FtA.mono (hid_sub hs) _ _ h
theorem Fl.same {L : List Addr} {H H' : Hp} {v : V} {d : PyData} (h : Fl L H v d) (k : Same H H') : Fl L H' v d := h.keep fun b o _ e => k b o e
theorem FlA.same {L : List Addr} {H H' : Hp} {vs : List V} {ds : List PyData} (h : FlA L H vs ds) (k : Same H H') : FlA L H' vs ds := h.keep fun b o _ e => k b o e
theorem Fl.sx {Ps L : List Addr} {H H' : Hp} {v : V} {d : PyData} (h : Fl L H v d) (k : Sx Ps H H') (hs : ∀ b ∈ Ps, b ∈ L) : Fl L H' v d := h.keep fun b o nb e => k b o (fun z => nb (hs b z)) e
theorem FlA.sx {Ps L : List Addr} {H H' : Hp} {vs : List V} {ds : List PyData} (h : FlA L H vs ds) (k : Sx Ps H H') (hs : ∀ b ∈ Ps, b ∈ L) : FlA L H' vs ds := h.keep fun b o nb e => k b o (fun z => nb (hs b z)) e
theorem Fl.kp {r : Addr} {L : List Addr} {H H' : Hp} {v : V} {d : PyData} (h : Fl L H v d) (k : Kp r H H') (hs : r ∈ L) : Fl L H' v d := h.keep fun b o nb e => k b o (fun z => nb (z ▸ hs)) e
theorem FlA.kp {r : Addr} {L : List Addr} {H H' : Hp} {vs : List V} {ds : List PyData} (h : FlA L H vs ds) (k : Kp r H H') (hs : r ∈ L) : FlA L H' vs ds := h.keep fun b o nb e => k b o (fun z => nb (z ▸ hs)) e
theorem Fl.tup {L : List Addr} {H : Hp} {p : Addr} {xs : List V} {ds : List PyData} (n : p ∉ L) (h : H p = some (.tup xs)) (a : FlA L H xs ds) : Fl L H (.ref p) (.tuple ds) := Ft.tup (hid_some.mpr ⟨n, h⟩) a
theorem Fl.lst {L : List Addr} {H : Hp} {p : Addr} {xs : List V} {ds : List PyData} (n : p ∉ L) (h : H p = some (.lst xs)) (a : FlA L H xs ds) : Fl L H (.ref p) (.list ds) := Ft.lst (hid_some.mpr ⟨n, h⟩) a
theorem FlA.one {L : List Addr} {H : Hp} {vs : List V} {a : PyData} (h : FlA L H vs [a]) : ∃ x, vs = [x] ∧ Fl L H x a := by
  cases h with
  | cons f g =>
    cases g
    exact ⟨_, rfl, f⟩
theorem FlA.two {L : List Addr} {H : Hp} {vs : List V} {a b : PyData} (h : FlA L H vs [a, b]) : ∃ x y, vs = [x, y] ∧ Fl L H x a ∧ Fl L H y b := by
  cases h with
  | cons f g =>
    obtain ⟨y, rfl, fy⟩ := FlA.one g
    exact ⟨_, y, rfl, f, fy⟩
theorem FlA.three {L : List Addr} {H : Hp} {vs : List V} {a b c : PyData} (h : FlA L H vs [a, b, c]) : ∃ x y z, vs = [x, y, z] ∧ Fl L H x a ∧ Fl L H y b ∧ Fl L H z c := by
  cases h with
  | cons f g =>
    obtain ⟨y, z, rfl, fy, fz⟩ := FlA.two g
    exact ⟨_, y, z, rfl, f, fy, fz⟩
theorem FlA.at {L : List Addr} {H : Hp} {vs : List V} {ds : List PyData} (h : FlA L H vs ds) {i : Int} (h0 : 0 ≤ i) (h1 : i < ds.length) : ∃ v d, atI vs i = some v ∧ ds[i.toNat]? = some d ∧ Fl L H v d := by
  have hl := FtA.len h
  have hi : i.toNat < vs.length := by omega
  obtain ⟨d, e, f⟩ := FtA.getV h (List.getElem?_eq_getElem hi)
  refine ⟨_, d, ?_, e, f⟩
  have e2 := atI_nat (List.getElem?_eq_getElem hi)
  rw [show ((i.toNat : Nat) : Int) = i by omega] at e2
  exact e2
theorem FlA.take {L : List Addr} {H : Hp} : ∀ (n : Nat) {vs : List V} {ds : List PyData}, FlA L H vs ds → FlA L H (vs.take n) (ds.take n)
  | 0, _, _, _ => .nil
  | _ + 1, _, _, .nil => .nil
  | n + 1, _, _, .cons a r => .cons a (FlA.take n r)
theorem FlA.drop {L : List Addr} {H : Hp} : ∀ (n : Nat) {vs : List V} {ds : List PyData}, FlA L H vs ds → FlA L H (vs.drop n) (ds.drop n)
  | 0, _, _, h => h
  | _ + 1, _, _, .nil => .nil
  | n + 1, _, _, .cons _ r => FlA.drop n r
/-! ### what isinstance tells of data, more -/
/-! ### questions, of any data -/
def risB : List Nat → Bool
  | a :: b :: l => decide (a < b) && risB (b :: l)
  | _ => true
theorem ris_get : ∀ (l : List Nat), risB l = true ↔ ∀ i, i + 1 < l.length → l.getD i 0 < l.getD (i + 1) 0
  | [] => by simp [risB]
  | [a] => by simp [risB]
  | a :: b :: l => by
    have ih := ris_get (b :: l)
    unfold risB
    rw [Bool.and_eq_true, decide_eq_true_eq, ih]
    constructor
    · rintro ⟨h1, h2⟩ i hi
      cases i with
      | zero => exact h1
      | succ i => exact h2 i (by simpa using hi)
    · intro h
      exact ⟨h 0 (by simp), fun i hi => h (i + 1) (by simpa using hi)⟩
end My
namespace My
open PySem PySem.Spec PyProof.Rows L2
theorem shA_mem {n m : Nat} : ∀ {ds : List PyData}, PyData.showableAll ds = true → PyData.hasDictAll ds = false → PyData.leavesShortAll 100 ds = true → PyData.depthAll ds ≤ n → PyData.weightAll ds ≤ m → PyData.canLayAll0 ds = true → ∀ d ∈ ds, Sh n m d
  | [], _, _, _, _, _, _, d, h => nomatch h
  | x :: xs, h1, h2, h3, h4, h5, h6, d, h => by
    simp only [PyData.canLayAll0, Bool.and_eq_true] at h6
    simp only [PyData.showableAll, Bool.and_eq_true] at h1
    simp only [PyData.hasDictAll, Bool.or_eq_false_iff] at h2
    simp only [PyData.leavesShortAll, Bool.and_eq_true] at h3
    simp only [PyData.depthAll] at h4
    simp only [PyData.weightAll] at h5
    rcases List.mem_cons.mp h with e | e
    · rw [e]
      exact ⟨h1.1, h2.1, h3.1, by omega, by omega, h6.1⟩
    · exact shA_mem h1.2 h2.2 h3.2 (by omega) (by omega) h6.2 d e
theorem Sh.memT {n m : Nat} {ds : List PyData} (h : Sh n m (.tuple ds)) : ∀ d ∈ ds, Sh n m d := by
  have h4 : PyData.depthAll ds + 1 ≤ n := h.dp
  exact shA_mem h.ok h.nd h.sh (by omega) h.wt h.ly
theorem Sh.len {n m : Nat} {z : Str} (h : Sh n m (.str z)) (hm : m ≤ 100000) : z.length ≤ sizeLine := by
  have h1 : z.cps.size ≤ m := h.wt
  have h2 : z.length = z.cps.size := rfl
  rw [sizeLine_eq, h2]
  omega
theorem tp_open {d : PyData} (h : isTp d = true) : ∃ ds, d = .tuple ds := by
  cases d with
  | tuple ds => exact ⟨ds, rfl⟩
  | _ => cases h
theorem st_open {d : PyData} (h : isSt d = true) : ∃ z, d = .str z := by
  cases d with
  | str z => exact ⟨z, rfl⟩
  | _ => cases h
theorem cps_lt (a b : Nat) : decide ((sS a).cps.toList < (sS b).cps.toList) = decide (a < b) := by
  refine decide_eq_decide.mpr ?_
  show [a] < [b] ↔ a < b
  constructor
  · intro h
    cases h with
    | rel h => exact h
    | cons h => cases h
  · exact fun h => List.Lex.rel h
end My

set_option Elab.async false
set_option linter.all false
set_option maxRecDepth 100000
set_option maxHeartbeats 2000000
namespace My
open PySem PySem.Spec PyProof.Rows L2 HT
/-! ### t[::-1] of a tuple -/
section
variable {X : Cx}
end
end My
namespace My
open PySem PySem.Spec PyProof.Rows L2
/-! ### tuple + tuple, both of one's own -/
/-! ### some data -/
def Th (L : List Addr) (H : Hp) (n m : Nat) (v : V) : Prop := ∃ d, Fl L H v d ∧ Sh n m d ∧ wd d ≤ m
theorem Th.mono {L : List Addr} {H : Hp} {n n' m m' : Nat} {v : V} (h : Th L H n m v) (h1 : n ≤ n') (h2 : m ≤ m') : Th L H n' m' v := by
  obtain ⟨d, f, s, w⟩ := h
  exact ⟨d, f, s.mono h1 h2, Nat.le_trans w h2⟩
theorem Th.keep {L : List Addr} {H H' : Hp} {n m : Nat} {v : V} (h : Th L H n m v) (k : ∀ b o, b ∉ L → H b = some o → H' b = some o) : Th L H' n m v := by
  obtain ⟨d, f, s, w⟩ := h
  exact ⟨d, f.keep k, s, w⟩
theorem Th.same {L : List Addr} {H H' : Hp} {n m : Nat} {v : V} (h : Th L H n m v) (k : Same H H') : Th L H' n m v := h.keep fun b o _ e => k b o e
theorem Th.kp {r : Addr} {L : List Addr} {H H' : Hp} {n m : Nat} {v : V} (h : Th L H n m v) (k : Kp r H H') (hr : r ∈ L) : Th L H' n m v := h.keep fun b o nb e => k b o (fun z => nb (z ▸ hr)) e
theorem Th.sx {Ps L : List Addr} {H H' : Hp} {n m : Nat} {v : V} (h : Th L H n m v) (k : Sx Ps H H') (hs : ∀ b ∈ Ps, b ∈ L) : Th L H' n m v := h.keep fun b o nb e => k b o (fun z => nb (hs b z)) e
theorem Th.non {L : List Addr} {H : Hp} {n m : Nat} : Th L H n m .non := ⟨.none, .non, Sh.none, Nat.zero_le _⟩
theorem Th.bl {L : List Addr} {H : Hp} {n m : Nat} (b : Bool) : Th L H n m (.bl b) := ⟨.bool b, .bl b, Sh.bool b, Nat.zero_le _⟩
theorem Th.int {L : List Addr} {H : Hp} {n m : Nat} {i : Int} (h : i.natAbs < 10 ^ 60) (hm : 200 ≤ m) : Th L H n m (.int i) := ⟨.int i, .int i, Sh.int h hm, Nat.zero_le _⟩
theorem Th.tx {L : List Addr} {H : Hp} {n m : Nat} {l : List Nat} (h : ∀ c ∈ l, c < 1000) (hl : l.length ≤ m) : Th L H n m (tx l) := ⟨.str (txS l), .str _, Sh.str h hl, Nat.zero_le _⟩
theorem th_all {L : List Addr} {H : Hp} {n m : Nat} : ∀ {vs : List V}, (∀ v ∈ vs, Th L H n m v) → ∃ ds, FlA L H vs ds ∧ (∀ d ∈ ds, Sh n m d) ∧ wdA ds ≤ m
  | [], _ => ⟨[], .nil, (fun d h => nomatch h), Nat.zero_le _⟩
  | v :: vs, h => by
    obtain ⟨d, f, s, w⟩ := h v (List.mem_cons_self ..)
    obtain ⟨ds, fs, ss, ws⟩ := th_all (vs := vs) fun u hu => h u (List.mem_cons_of_mem _ hu)
    refine ⟨d :: ds, .cons f fs, fun e he => ?_, ?_⟩
    · rcases List.mem_cons.mp he with z | z
      · rw [z]
        exact s
      · exact ss e z
    · show max (wd d) (wdA ds) ≤ m
      omega
theorem wd_fit {m k w : Nat} (h : w ≤ m) (h0 : k = 0 → w = 0) : max k w ≤ (m + 1) * k := by
  cases k with
  | zero =>
    rw [h0 rfl]
    exact Nat.le_refl _
  | succ k =>
    have e : (m + 1) * (k + 1) = m * k + m + (k + 1) := by
      rw [Nat.add_mul, Nat.one_mul, Nat.mul_add, Nat.mul_one]
    omega
theorem Th.tup {L : List Addr} {H : Hp} {n m : Nat} {p : Addr} {vs : List V} (np : p ∉ L) (hp : H p = some (.tup vs)) (h : ∀ v ∈ vs, Th L H n m v) : Th L H (n + 1) ((m + 1) * vs.length) (.ref p) := by
  obtain ⟨ds, fs, ss, ws⟩ := th_all h
  have hl := FtA.len fs
  refine ⟨.tuple ds, Fl.tup np hp fs, hl ▸ Sh.tup ss, ?_⟩
  rw [hl]
  exact wd_fit ws fun z => by
    rw [List.length_eq_zero_iff.mp z]
    rfl
theorem Th.lst {L : List Addr} {H : Hp} {n m : Nat} {p : Addr} {vs : List V} (np : p ∉ L) (hp : H p = some (.lst vs)) (h : ∀ v ∈ vs, Th L H n m v) : Th L H (n + 1) ((m + 1) * vs.length) (.ref p) := by
  obtain ⟨ds, fs, ss, ws⟩ := th_all h
  have hl := FtA.len fs
  refine ⟨.list ds, Fl.lst np hp fs, hl ▸ Sh.lst ss, ?_⟩
  rw [hl]
  exact wd_fit ws fun z => by
    rw [List.length_eq_zero_iff.mp z]
    rfl
theorem at_mem {vs : List V} {i : Int} (h0 : 0 ≤ i) (h1 : i < vs.length) : ∃ v ∈ vs, atI vs i = some v := by
  have hi : i.toNat < vs.length := by omega
  refine ⟨vs[i.toNat], List.getElem_mem hi, ?_⟩
  have e2 := atI_nat (List.getElem?_eq_getElem hi)
  rw [show ((i.toNat : Nat) : Int) = i by omega] at e2
  exact e2
theorem all1 {α : Type} {p : α → Prop} {a : α} (ha : p a) : ∀ x ∈ [a], p x := fun x h => by
  rw [List.mem_singleton.mp h]
  exact ha
theorem allC {α : Type} {p : α → Prop} {a : α} {l : List α} (ha : p a) (hl : ∀ x ∈ l, p x) : ∀ x ∈ a :: l, p x := fun x h => by
  rcases List.mem_cons.mp h with z | z
  · rw [z]
    exact ha
  · exact hl x z
theorem all0 {α : Type} {p : α → Prop} : ∀ x ∈ ([] : List α), p x := fun x h => nomatch h
theorem allApp {α : Type} {p : α → Prop} {l k : List α} (hl : ∀ x ∈ l, p x) (hk : ∀ x ∈ k, p x) : ∀ x ∈ l ++ k, p x := fun x h => by
  rcases List.mem_append.mp h with z | z
  · exact hl x z
  · exact hk x z
end My
namespace My
open PySem PySem.Spec PyProof.Rows L2
end My
namespace My
open PySem PySem.Spec PyProof.Rows L2
theorem new_all {L : List Addr} {H : Hp} {p : Addr} {o : HO} (h : ∀ b ∈ L, H b ≠ none) : ∀ b ∈ L, (upd H p o) b ≠ none := fun b hb => by
  by_cases e : b = p
  · rw [e, upd_same]
    simp
  · rw [upd_ne e]
    exact h b hb
theorem ne_in {L : List Addr} {p r : Addr} (h : p ∉ L) (hr : r ∈ L) : p ≠ r := fun z => h (z ▸ hr)
theorem Th.at {L : List Addr} {H : Hp} {n m : Nat} {vs : List V} (h : ∀ v ∈ vs, Th L H n m v) {i : Int} (h0 : 0 ≤ i) (h1 : i < vs.length) : ∃ v, atI vs i = some v ∧ Th L H n m v := by
  obtain ⟨v, hv, e⟩ := at_mem h0 h1
  exact ⟨v, e, h v hv⟩
end My
namespace My
open PySem PySem.Spec PyProof.Rows L2
end My

set_option Elab.async false
set_option linter.all false
set_option maxRecDepth 100000
set_option maxHeartbeats 2000000
namespace My
open PySem PySem.Spec PyProof.Rows L2
end My
namespace My
open PySem PySem.Spec PyProof.Rows L2
theorem held_all {r : Addr} {Ps : List Addr} {H : Hp} {o : HO} (h : H r = some o) (tg : TG Ps H) : ∀ b ∈ r :: Ps, H b ≠ none := fun b hb => by
  rcases List.mem_cons.mp hb with z | z
  · rw [z, h]
    simp
  · obtain ⟨ps, hp, _⟩ := tg b z
    rw [hp]
    simp
theorem fresh_same {L : List Addr} {H : Hp} {D : Addr} {o : HO} (n : H D = none) : Same (hidS L H) (hidS (D :: L) (upd H D o)) := fun b x e => by
  obtain ⟨h1, h2⟩ := hid_some.mp e
  have hb : b ≠ D := ne_of_none h2 n
  exact hid_some.mpr ⟨fun z => (List.mem_cons.mp z).elim hb h1, keep_ne h2 hb⟩
theorem Th.fresh {L : List Addr} {H : Hp} {D : Addr} {o : HO} {n m : Nat} {v : V} (h : Th L H n m v) (nD : H D = none) : Th (D :: L) (upd H D o) n m v := by
  obtain ⟨d, f, s, w⟩ := h
  exact ⟨d, Ft.mono (fresh_same nD) _ _ f, s, w⟩
end My

set_option Elab.async false
set_option linter.all false
set_option maxRecDepth 100000
set_option maxHeartbeats 4000000
namespace My
open PySem PySem.Spec PyProof.Rows L2
/-! ### sets of texts that can be walked

A table is told by the list of the texts in it, each with its token; a set is a table whose texts are all different. -/
/-- a text in a table -/
def entS (w : World) (p : Str × Tok) : Int × Value := (hashStr w p.1, .str p.1 p.2)
/-- the table holds these texts, and the model tells its order -/
structure TxTab (w : World) (es : Array (Int × Value)) (t : SetTable) (ps : List (Str × Tok)) : Prop where
  all : es.toList.Perm (ps.map (entS w))
  few : ps.length < scanBound
  told : t.fits es.size = true ∧ Ris t.place.toList ∧ (w.params.followText "set-order" = true ∨ t.led = true)
/-- an object that is a set without members -/
abbrev blankS (w : World) : Obj := { cls := .type "set", dict := none, data := .set #[] 0 (.fresh 0 0 (!w.params.followText "set-order")) }
/-- the set of texts at a: ks its members -/
def SetS (w : World) (h : Heap) (a : Addr) (ks : List Str) : Prop :=
  ks.Nodup ∧ ∃ (o : Obj) (es : Array (Int × Value)) (ep : Nat) (t : SetTable) (ps : List (Str × Tok)), h.get? a = some o ∧ o.ExactSet ∧ o.data = .set es ep t ∧ TxTab w es t ps ∧ ks = ps.map Prod.fst
section
variable {w : World} {es : Array (Int × Value)} {t : SetTable} {ps : List (Str × Tok)} {h h' : Heap} {a : Addr} {ks : List Str} {k : Str} {tk : Tok}
theorem TxTab.none (w : World) : TxTab w #[] (.fresh 0 0 (!w.params.followText "set-order")) [] where
  all := .nil
  few := by decide
  told := ⟨rfl, .nil, by cases e : w.params.followText "set-order" <;> simp [SetTable.fresh]⟩
theorem TxTab.size (T : TxTab w es t ps) : es.size = ps.length := by
  have := T.all.length_eq
  simpa using this
theorem TxTab.small (T : TxTab w es t ps) : es.size < scanBound := T.size ▸ T.few
theorem TxTab.kind (T : TxTab w es t ps) (P : Program) : ElemsOf (PySem.strKind P w) es.toList := by
  intro e he
  obtain ⟨p, _, rfl⟩ := List.mem_map.mp (T.all.mem_iff.mp he)
  exact ⟨⟨p.1, strKind_is P w p.1 p.2, rfl⟩, rfl⟩
theorem is_entS {P : Program} {p : Str × Tok} : (PySem.strKind P w).is k (entS w p).2 = true ↔ p.1 = k := by
  refine ⟨fun q => ?_, fun q => q ▸ strKind_is P w p.1 p.2⟩
  have ⟨_, z⟩ := Value.isStrOf_shape (x := k) (v := .str p.1 p.2) q
  exact (Value.str.inj z).1
/-- the search in the table -/
theorem TxTab.search (T : TxTab w es t ps) (P : Program) (k : Str) : (es.toList.findIdx? fun e => (PySem.strKind P w).is k e.2).isSome = decide (k ∈ ps.map Prod.fst) := by
  rw [List.findIdx?_isSome, Bool.eq_iff_iff, List.any_eq_true, decide_eq_true_iff, List.mem_map]
  constructor
  · rintro ⟨e, he, q⟩
    obtain ⟨p, hp, rfl⟩ := List.mem_map.mp (T.all.mem_iff.mp he)
    exact ⟨p, hp, is_entS.mp q⟩
  · rintro ⟨p, hp, q⟩
    exact ⟨entS w p, T.all.mem_iff.mpr (List.mem_map_of_mem hp), is_entS.mpr q⟩
/-- one text more -/
theorem TxTab.lay (T : TxTab w es t ps) (k : Str) (tk : Tok) (room : ps.length + 1 < scanBound) : TxTab w (layNew t es (hashStr w k) (.str k tk)).1 (layNew t es (hashStr w k) (.str k tk)).2.1 ((k, tk) :: ps) where
  all := by
    refine (layNew_perm t es _ _).trans ?_
    rw [Array.toList_push]
    exact List.perm_append_comm.trans (T.all.cons _)
  few := room
  told := ⟨layNew_fits .., layNew_ris _ _ _ _ T.told.2.1, by rw [layNew_led]; exact T.told.2.2⟩
theorem TxTab.relay (T : TxTab w es t ps) (n : Nat) : TxTab w (relayAll t es n).1 (relayAll t es n).2.1 ps where
  all := (relayAll_perm t es n).trans T.all
  few := T.few
  told := ⟨relayAll_fits .., relayAll_ris .., by rw [relayAll_led]; exact T.told.2.2⟩
theorem TxTab.off (T : TxTab w es t ps) : TxTab w es { t with plain := false } ps := ⟨T.all, T.few, SetTable.fits_plain_off T.told.1, T.told.2⟩
theorem SetS.at (R : SetS w h a ks) (k : ∀ o, h.get? a = some o → h'.get? a = some o) : SetS w h' a ks :=
  let ⟨nd, o, es, ep, t, ps, ho, r⟩ := R
  ⟨nd, o, es, ep, t, ps, k o ho, r⟩
theorem SetS.obj (R : SetS w h a ks) : ∃ o, h.get? a = some o ∧ o.ExactSet :=
  let ⟨_, o, _, _, _, _, ho, hex, _⟩ := R
  ⟨o, ho, hex⟩
theorem SetS.blank (ho : h.get? a = some (blankS w)) : SetS w h a [] :=
  ⟨.nil, _, _, _, _, [], ho, ⟨rfl, rfl, rfl⟩, rfl, TxTab.none w, rfl⟩
/-- a table stored -/
theorem TxTab.stored {o : Obj} {e0 : Array (Int × Value)} {ep : Nat} {t0 : SetTable} (T : TxTab w es t ps) (ho : h.get? a = some o) (hex : o.ExactSet) (hd : o.data = .set e0 ep t0) (nd : (ps.map Prod.fst).Nodup) : SetS w (h.update a (Obj.putSet es t)) a (ps.map Prod.fst) :=
  ⟨nd, _, es, ep + 1, t, ps, store_at ho hd, hex, rfl, T, rfl⟩
end
section
variable {P : Program} {w : World} {A : Around} {E : Value → Shared → Prop} {s : Shared} {a : Addr} {ks : List Str}
/-- what only tells the log of rules -/
theorem wp_told {b : Bool} {m : Bool → Sem Unit} {Q : Unit → Shared → Prop} (h1 : ∃ r, m true = rule r) (h2 : m false = pure ()) (q : Q () s) : wpAny (model P w) A (m b) Q E s := by
  obtain ⟨r, h1⟩ := h1
  cases b
  · rw [h2]; exact wpAny_pure q
  · rw [h1]; exact wpAny_rule q
theorem setS_add {k : Str} {tk : Tok} {Q : Bool → Shared → Prop} (R : SetS w s.heap a ks) (room : ks.length + 1 < scanBound)
    (hQ : ∀ h' b, Heap.SameBut a s.heap h' → SetS w h' a (if k ∈ ks then ks else k :: ks) → Q b { s with heap := h' }) :
    wpAny (model P w) A (setAddHashed a (.str k tk) ((PySem.strKind P w).hash k)) Q E s := by
  have R0 := R
  obtain ⟨nd, o, es, ep, t, ps, ho, hex, hd, T, rfl⟩ := R
  have look := T.search P k
  unfold setAddHashed setAddHashedIn setAddByScan
  refine wpAny_holding (wpAny_bind (wpAny_setState_of ho hd T.told.1 ?_))
  simp only [byScan_of (x := Value.str k tk) rfl T.small (T.kind P), if_true, bind_assoc]
  refine wpAny_bind (wpAny_rule (wpAny_bind (wpAny_setScan_of (strKind_is P w k tk) ho hd T.told.1 (T.kind P) ?_)))
  by_cases hin : k ∈ ps.map Prod.fst
  · rw [decide_eq_true hin, Option.isSome_iff_exists] at look
    obtain ⟨j, e⟩ := look
    rw [if_pos hin] at hQ
    rw [e]
    exact wpAny_bind (wpAny_pure (wpAny_pure (hQ _ false (Heap.SameBut.refl a s.heap) R0)))
  · rw [decide_eq_false hin, Option.isSome_eq_false_iff, Option.isNone_iff_eq_none] at look
    rw [if_neg hin] at hQ
    rw [look]
    have T1 := T.lay k tk (by simpa using room)
    have nd1 : (((k, tk) :: ps).map Prod.fst).Nodup := List.nodup_cons.mpr ⟨hin, nd⟩
    rw [show hashStr w k = (PySem.strKind P w).hash k from rfl] at T1
    generalize layNew t es ((PySem.strKind P w).hash k) (.str k tk) = Y at T1 ⊢
    obtain ⟨es1, t1, wd, gave⟩ := Y
    refine wpAny_bind (wpAny_bind (wp_told (b := gave) ⟨_, rfl⟩ rfl ?_))
    simp only [show hashByValue 8 (.str k tk) = pure false from hashByValue_scannable 8 rfl, pure_bind, Bool.false_eq_true, if_false, if_true]
    split
    have T2 := T1.off
    generalize ({ t1 with plain := false } : SetTable) = t2 at T2 ⊢
    rotate_left
    have T2 := T1
    generalize t1 = t2 at T2 ⊢
    all_goals
      refine wpAny_bind (wpAny_storeSet_of ho hd ?_ (fits_of_scanBound T2.small))
      have sb := Heap.SameBut.update s.heap a (Obj.putSet es1 t2)
      split
      · have T3 := T2.relay (SetTable.grown es1.size)
        generalize relayAll t2 es1 (SetTable.grown es1.size) = Y3 at T3 ⊢
        have h1 := store_at (es' := es1) (t' := t2) ho hd
        refine wpAny_bind (wp_told (b := Y3.2.2) ⟨_, rfl⟩ rfl ?_)
        refine wpAny_bind (wpAny_storeSet_of h1 rfl ?_ (fits_of_scanBound T3.small))
        exact wpAny_pure (wpAny_pure (hQ _ true (sb.trans (.update _ a _)) (T3.stored h1 hex rfl nd1)))
      · exact wpAny_pure (wpAny_pure (hQ _ true sb (T2.stored ho hex hd nd1)))
end
section
variable {prog : Program} {w : World} {A : Around} {I S : Addr} {fp wr : List Addr} {G : Array GenState → Array GenState → Prop} {n : Nat} {Pv : Nat → Value → Prop} {St : Nat → Shared → Prop} {zs : List Str}
/-- the set at S has met the first i of the texts zs -/
def MetAt (w : World) (zs : List Str) (S : Addr) (i : Nat) (h : Heap) : Prop := ∃ ks : List Str, ks.length ≤ i ∧ (∀ x, x ∈ ks ↔ x ∈ zs.take i) ∧ SetS w h S ks
theorem MetAt.start {h : Heap} (R : SetS w h S []) : MetAt w zs S 0 h := ⟨[], Nat.le_refl 0, fun x => by rw [List.take_zero], R⟩
theorem MetAt.at {h h' : Heap} {i : Nat} (M : MetAt w zs S i h) (k : ∀ o, h.get? S = some o → h'.get? S = some o) : MetAt w zs S i h' :=
  let ⟨ks, a, b, R⟩ := M
  ⟨ks, a, b, R.at k⟩
theorem met_more {ks : List Str} {i : Nat} {x : Str} (hx : zs[i]? = some x) (l : ks.length ≤ i) (m : ∀ y, y ∈ ks ↔ y ∈ zs.take i) {h : Heap} (R : SetS w h S (if x ∈ ks then ks else x :: ks)) : MetAt w zs S (i + 1) h := by
  refine ⟨_, ?_, fun y => ?_, R⟩
  · split
    · omega
    · exact Nat.succ_le_succ l
  · rw [List.take_add_one, hx, Option.toList_some, List.mem_append, List.mem_singleton, ← m]
    split
    · rename_i hin
      exact ⟨.inl, fun z => z.elim id fun e => e ▸ hin⟩
    · rw [List.mem_cons, or_comm]
/-- a set takes what an iterator of texts gives -/
theorem met_loop (W : WalksS prog w A.in1 I fp wr G n Pv St) (away : S ∉ fp) (texts : ∀ i v, i < n → Pv i v → ∃ x t, zs[i]? = some x ∧ v = .str x t) (few : n + 1 < scanBound) {R : Result → Shared → Prop} (i : Nat) (s : Shared) (le : i ≤ n) (st : St i s)
    (M : MetAt w zs S i s.heap) (goal : ∀ s', Moved (S :: wr) G s s' → MetAt w zs S n s'.heap → R (.ok (.ret .none)) s') : codeAny (model prog w) A (.builtin "set.update.loop" ⟨[.ref S, .ref I], []⟩) R s := by
  have apart : ∀ {s s' : Shared}, Moved wr G s s' → ∀ o, s.heap.get? S = some o → s'.heap.get? S = some o := fun mv o e => mv.heap S o (away ∘ W.sub S) e
  refine codeAny_builtin F.entry_set_update_loop (Eq.mpr (by rw [Around.under_plainId F.plain_set_update_loop _]) ?_)
  unfold Builtin.«set.update.loop»
  refine wpAny_bind ?_
  by_cases lt : i < n
  · refine W.item i s _ _ lt st fun v s1 hP st1 mv => ?_
    obtain ⟨x, t, hx, rfl⟩ := texts i v lt hP
    obtain ⟨ks, l, m, R1⟩ := M.at (apart mv)
    refine wpAny_bind (wpAny_holding (wpAny_holding (wpAny_bind ((PySem.strKind prog w).pyHash (strKind_is prog w x t) ?_))))
    refine setS_add (s := { s1 with toks := s1.toks + 1 }) R1 (by omega) fun h2 _ same R2 => wpAny_pure ⟨plainId_quiet F.plain_set_update_loop _, ?_⟩
    have other : ∀ b o, b ≠ S → s1.heap.get? b = some o → h2.get? b = some o := fun b o ne e => (same.2 b ne).trans e
    refine met_loop W away texts few (i + 1) _ lt (W.frame _ s1 h2 _ st1 (Nat.le_succ _) fun b hb o e => other b o (fun z => away (z ▸ hb)) e) (met_more hx l m R2) fun s3 mv3 M3 => goal s3 (.trans W.gtrans (.then_heap (mv.mono fun b => List.mem_cons_of_mem S) (Nat.le_succ _) ?_) mv3) M3
    exact fun b o hb e => other b o (fun z => hb (z ▸ List.mem_cons_self)) e
  · obtain rfl : i = n := by omega
    exact W.done s _ _ st fun s1 mv => wpAny_pure (goal s1 (mv.mono fun b => List.mem_cons_of_mem S) (M.at (apart mv)))
termination_by n - i
end
section
variable {prog : Program} {w : World} {A : Around} {E : Value → Shared → Prop} {s : Shared}
/-- an iterable of texts: its type is none that a set would take otherwise, and its iterator gives the texts zs -/
structure Giv (prog : Program) (w : World) (x : Value) (zs : List Str) (s : Shared) : Prop where
  ty : ∃ T, s.TypeIs x T ∧ isSubtype (.type T) (.type "set") = pure false ∧ isSubtype (.type T) (.type "frozenset") = pure false ∧ (Value.type T == Value.type "dict") = false
  it : ∀ {A : Around} {E : Value → Shared → Prop} {Q : Value → Shared → Prop}, (∀ (o : Obj) (fp : List Addr) (Pv : Nat → Value → Prop) (St : Nat → Heap → Prop), (∀ A : Around, A.handled = none → Walks prog w A s.heap.objs.size fp [s.heap.objs.size] zs.length Pv St) →
    (∀ b ∈ fp, b = s.heap.objs.size ∨ x = .ref b) → (∀ i v, i < zs.length → Pv i v → ∃ y t, zs[i]? = some y ∧ v = .str y t) → St 0 (s.heap.push o) → Q (.ref s.heap.objs.size) { s with heap := s.heap.push o }) → wpAny (model prog w) A (pyIter x) Q E s
/-- a blank set takes the texts of an iterable -/
theorem init_texts {S : Addr} {x : Value} {zs : List Str} {Q : Fin → Shared → Prop} (calm : A.handled = none) (hS : s.heap.get? S = some (blankS w)) (g : Giv prog w x zs s) (ne : x ≠ .ref S) (few : zs.length + 1 < scanBound)
    (goal : ∀ (h' : Heap) (tk : Nat), MetAt w zs S zs.length h' → (∀ b o, b ≠ S → s.heap.get? b = some o → h'.get? b = some o) → Q (.done (.ret .none)) { s with heap := h', toks := tk }) :
    wpAny (model prog w) A (Builtin.«set.__init__» ⟨[.ref S, x], []⟩) Q E s := by
  obtain ⟨T, hT, n1, n2, n3⟩ := g.ty
  have sS : S < s.heap.objs.size := Heap.lt_size hS
  have : s.TypeIs (.ref S) "set" := ⟨_, hS, rfl⟩
  unfold Builtin.«set.__init__» noKeywords Builtin.Frozenset.updateFrom
  generalize hPI : pyIter = PI
  wp_walk
  subst hPI
  refine g.it fun o fp Pv St W own texts st => wpAny_bind (wpAny_runValue ?_)
  refine met_loop (zs := zs) (W _ (by simp [calm])).toS (fun z => ?_) texts few 0 _ (Nat.zero_le _) st (.start (.blank (Heap.get?_push_of_some _ hS))) ?_
  · exact (own S z).elim (Nat.ne_of_lt sS) ne
  rintro ⟨h', g', d', tk, os'⟩ mv M
  obtain ⟨rfl, rfl, rfl⟩ : g' = s.gens ∧ d' = s.drawn ∧ os' = s.os := ⟨mv.gens, mv.drawn, mv.os⟩
  refine wpAny_pure (wpAny_pure (goal h' tk M fun b o nb e => mv.heap b o ?_ (Heap.get?_push_of_some _ e)))
  simp [nb, Nat.ne_of_lt (Heap.lt_size e)]
set_option maxHeartbeats 8000000 in
/-- set(an iterable of texts) -/
theorem set_made {x : Value} {zs : List Str} {Q : Value → Shared → Prop} (calm : A.handled = none) (g : Giv prog w x zs { s with heap := s.heap.push (blankS w) }) (ne : x ≠ .ref s.heap.objs.size) (few : zs.length + 1 < scanBound) (tc : checkTypeCall "set" ⟨[x], []⟩ = pure ())
    (goal : ∀ (h' : Heap) (tk : Nat), MetAt w zs s.heap.objs.size zs.length h' → (∀ b o, s.heap.get? b = some o → h'.get? b = some o) → Q (.ref s.heap.objs.size) { s with heap := h', toks := tk }) :
    wpAny (model prog w) A (call (.type "set") [x]) Q E s := by
  have ft := F.called_set
  have ⟨_, _, m⟩ := ft.mro
  have := ft.made
  have := ft.sub
  have := ft.notType
  have := ft.canCreate
  refine wpAny_call (codeAny_of_tree (wpAny_pure ⟨Code.quiet_builtin _ (by decide +kernel), codeAny_builtin F.entry_type_call (Eq.mpr (by rw [Around.under_plain (weight_type_call_type "set" [x] []) rfl]) ?_)⟩))
  repeat (any_goals (first | assumption | wp_step))
  refine codeAny_mono (code_set_led1 x (E := E) (Q₁ := fun v s1 => v = .ref s.heap.objs.size ∧ s1 = { s with heap := s.heap.push (blankS w) }) ⟨rfl, rfl⟩) ?_
  rintro (e | (v | _)) s1 hr
  all_goals first | exact hr | exact hr.elim | skip
  obtain ⟨rfl, rfl⟩ := hr
  have new : (s.heap.push (blankS w)).get? s.heap.objs.size = some (blankS w) := Heap.get?_push_size _ rfl
  have ty : Shared.TypeIs { s with heap := s.heap.push (blankS w) } (.ref s.heap.objs.size) "set" := ⟨_, new, rfl⟩
  have := ft.init.lookup
  have := ft.init.bind (.ref s.heap.objs.size)
  repeat (any_goals (first | assumption | wp_step))
  have made : codeAny (model prog w) A.in1 (.call (.builtin "set.__init__") ⟨[.ref s.heap.objs.size, x], []⟩) (wants (fun v s2 => v = .none ∧ Q (.ref s.heap.objs.size) s2) E) { s with heap := s.heap.push (blankS w) } := by
    refine codeAny_call_builtin ft.init.plain F.entry_set_init (check_set_init_1 ty ?_)
    refine init_texts (by simp [calm]) new g ne few fun h' tk M old => ⟨rfl, goal h' tk M fun b o e => old b o (Nat.ne_of_lt (Heap.lt_size e)) (Heap.get?_push_of_some _ e)⟩
  refine codeAny_mono made ?_
  rintro (e | (v | _)) s2 hr
  all_goals first | exact hr | exact hr.elim | skip
  obtain ⟨rfl, q⟩ := hr
  repeat (any_goals (first | assumption | wp_step))
/-- set(text) -/
theorem set_text {x : Str} {t : Tok} {Q : Value → Shared → Prop} (calm : A.handled = none) (few : x.cps.size + 1 < scanBound)
    (goal : ∀ (h' : Heap) (tk : Nat), MetAt w (x.cps.toList.map sS) s.heap.objs.size x.cps.size h' → (∀ b o, s.heap.get? b = some o → h'.get? b = some o) → Q (.ref s.heap.objs.size) { s with heap := h', toks := tk }) :
    wpAny (model prog w) A (call (.type "set") [.str x t]) Q E s := by
  have n : (x.cps.toList.map sS).length = x.cps.size := by simp
  refine set_made (zs := x.cps.toList.map sS) calm ⟨⟨"str", rfl, by rw [isSubtype_type]; kernel_rfl, by rw [isSubtype_type]; kernel_rfl, by decide⟩, fun q => ?_⟩ (fun z => nomatch z) (n ▸ few) (F.typeCall_set_1 _) (n ▸ goal)
  refine wpAny_pyIter_str fun o St W st => q o _ _ St (n ▸ W) (fun b z => .inl (List.mem_singleton.mp z)) (fun i v _ hv => ?_) st
  obtain ⟨c, tt, hc, rfl⟩ := hv
  exact ⟨_, tt, by rw [List.getElem?_map, Array.getElem?_toList, hc]; rfl, rfl⟩
end
end My

set_option Elab.async false
set_option linter.all false
set_option maxRecDepth 100000
set_option maxHeartbeats 2000000
namespace My
open PySem PySem.Spec PyProof.Rows L2
/-! ### len(set(text)) -/
theorem len_nodup {l : List Nat} {ks : List Str} (k1 : ks.Nodup) (mem : ∀ x, x ∈ ks ↔ x ∈ l.map sS) : ks.length ≤ l.length ∧ (ks.length = l.length ↔ l.Nodup) := by
  have inj : ∀ a b : Nat, sS a = sS b → a = b := fun a b h => by
    have h2 := congrArg (fun z : Str => z.cps.toList) h
    simpa [sS] using h2
  have hle : ks.length ≤ (l.map sS).length := List.Nodup.length_le_of_subset k1 fun x hx => (mem x).mp hx
  rw [List.length_map] at hle
  refine ⟨hle, fun e => ?_, fun nd => ?_⟩
  · have nm : (l.map sS).Nodup := by
      have hp : ks ⊆ l.map sS := fun x hx => (mem x).mp hx
      refine Classical.byContradiction fun hn => ?_
      obtain ⟨ds, d1, d2, d3⟩ : ∃ ds : List Str, ds.Nodup ∧ (∀ x, x ∈ ds ↔ x ∈ l.map sS) ∧ (ds.length < (l.map sS).length) := by
        have key : ∀ m : List Str, ¬ m.Nodup → ∃ ds : List Str, ds.Nodup ∧ (∀ x, x ∈ ds ↔ x ∈ m) ∧ ds.length < m.length := by
          have all : ∀ m : List Str, ∃ ds : List Str, ds.Nodup ∧ (∀ x, x ∈ ds ↔ x ∈ m) ∧ ds.length ≤ m.length := by
            intro m
            induction m with
            | nil => exact ⟨[], List.nodup_nil, fun x => Iff.rfl, Nat.le_refl _⟩
            | cons a m ih =>
              obtain ⟨ds, d1, d2, d3⟩ := ih
              by_cases ha : a ∈ m
              · refine ⟨ds, d1, fun x => ?_, by rw [List.length_cons]; omega⟩
                rw [d2, List.mem_cons]
                exact ⟨.inr, fun z => z.elim (fun y => by rw [y]; exact ha) id⟩
              · refine ⟨a :: ds, List.nodup_cons.mpr ⟨fun z => ha ((d2 a).mp z), d1⟩, fun x => by rw [List.mem_cons, List.mem_cons, d2], by rw [List.length_cons, List.length_cons]; omega⟩
          intro m
          induction m with
          | nil => exact fun h => absurd List.nodup_nil h
          | cons a m ih =>
            intro h
            by_cases ha : a ∈ m
            · obtain ⟨ds, d1, d2, d3⟩ := all m
              refine ⟨ds, d1, fun x => ?_, by rw [List.length_cons]; omega⟩
              rw [d2, List.mem_cons]
              exact ⟨.inr, fun z => z.elim (fun y => by rw [y]; exact ha) id⟩
            · obtain ⟨ds, d1, d2, d3⟩ := ih fun z => h (List.nodup_cons.mpr ⟨ha, z⟩)
              exact ⟨a :: ds, List.nodup_cons.mpr ⟨fun z => ha ((d2 a).mp z), d1⟩, fun x => by rw [List.mem_cons, List.mem_cons, d2], by rw [List.length_cons, List.length_cons]; omega⟩
        exact key _ hn
      have h3 : ks.length ≤ ds.length := List.Nodup.length_le_of_subset k1 fun x hx => (d2 x).mpr ((mem x).mp hx)
      rw [List.length_map] at d3
      omega
    exact (List.pairwise_map.mp nm).imp fun {a b} h z => h (by rw [z])
  · have nm : (l.map sS).Nodup := List.pairwise_map.mpr (nd.imp fun {a b} h z => h (inj a b z))
    have h3 : (l.map sS).length ≤ ks.length := List.Nodup.length_le_of_subset nm fun x hx => (mem x).mpr hx
    rw [List.length_map] at h3
    omega
section
variable {X : Cx}
def tLenSet (te : TE) : TE := fun σ H Q => te σ H fun x H1 => ∃ l : List Nat, x = tx l ∧ l.length ≤ 1000 ∧ ∀ n : Nat, n ≤ l.length → (n = l.length ↔ l.Nodup) → Q (.int n) H1
theorem pe_lenSet {e : Expr} {te : TE} {p1 p2 q1 q2 : Pos} (hc : X.calm = true) (hg : Gl X "len") (hm : X.mg "len" = none) (hg2 : Gl X "set") (hm2 : X.mg "set" = none) (he : PE X e te)
    (hb : bootBuiltins "len" = some (.builtin "len") := by decide +kernel) (hb2 : bootBuiltins "set" = some (.type "set") := by decide +kernel)
    (hs : starEach [.Call (.Name "set" q1) [e] [] q2] X.env = (false, eval (.Call (.Name "set" q1) [e] [] q2) X.env) :: starEach [] X.env := by rfl) (hs2 : starEach [e] X.env = (false, eval e X.env) :: starEach [] X.env := by rfl) :
    PE X (.Call (.Name "len" p1) [.Call (.Name "set" q1) [e] [] q2] [] p2) (tLenSet te) := by
  refine ⟨fun pins s σ H Q I h => ?_⟩
  refine wpAny_Call_Name_kw (ld_blt I hg hm hb (PyProof.Rows.callWith_builtin1 ?_ hs (by rfl)))
  rw [hs]
  refine Calls.spliced_cons (wpAny_Call_Name_kw (ld_blt I hg2 hm2 hb2 ?_))
  refine PyProof.Rows.callWith_type1 ?_ hs2 (by rfl)
  rw [hs2]
  refine Calls.spliced_cons (thn (he.run pins s σ H _ I h) fun u s1 ⟨x, H1, I1, r1, l, ex, hl, q⟩ => ?_)
  refine Calls.spliced_nil ?_
  subst ex
  obtain ⟨t, rfl⟩ := r1
  have hsz : (⟨l.toArray⟩ : Str).cps.size = l.length := by simp
  refine set_text (I1.ok.hd hc) (by rw [hsz]; unfold scanBound; omega) fun h' tk hT hk => ?_
  rw [hsz] at hT
  obtain ⟨ks, _, k2, R⟩ := hT
  have k3 : ∀ x, x ∈ ks ↔ x ∈ l.map sS := fun x => by rw [k2, List.take_of_length_le (by simp)]
  obtain ⟨a1, a2⟩ := len_nodup R.1 k3
  obtain ⟨_, o, es, ep, tb, ps, ho, hex, hd, T, rfl⟩ := R
  have hn : es.size = (ps.map Prod.fst).length := by rw [T.size, List.length_map]
  have I2 : Inv X pins σ H1 { s1 with heap := h', toks := tk } := I1.kept hk
  refine Calls.spliced_nil ?_
  refine call_len_set ho hex hd T.told.1 (by rw [hn]; omega) ?_
  rw [hn]
  exact ⟨.int _, H1, I2.tok _ |>.tok _, ⟨_, rfl⟩, q _ a1 a2⟩
end
end My

set_option Elab.async false
set_option linter.all false
set_option maxRecDepth 100000
set_option maxHeartbeats 2000000
namespace My
open PySem PySem.Spec PyProof.Rows L2
/-! ### lists of columns, of any data -/
def isListL (cols l : List Nat) : Bool := !l.isEmpty && decide l.Nodup && l.all fun c => decide (c ∈ cols)
def isListD (cols : List Nat) : PyData → Bool
  | .str z => isListL cols z.cps.toList
  | _ => false
theorem list_of_str {cols : List Nat} {l : List Nat} : isListD cols (.str (txS l)) = isListL cols l := by
  show isListL cols l.toArray.toList = _
  simp
theorem up1_small (c : Nat) (h : c < 128) : up1 c < 1000 := by
  have : ∀ c, c < 128 → up1 c < 1000 := by decide +kernel
  exact this c h
theorem upper_tx {l : List Nat} (h : ∀ c ∈ l, c < 128) : V.str (Txt.upper ⟨l.toArray⟩) = tx (l.map up1) := by
  rw [upper_ascii (x := ⟨l.toArray⟩) (by simpa using h)]
  show V.str ⟨l.toArray.map up1⟩ = V.str ⟨(l.map up1).toArray⟩
  simp
theorem cat_tx (l k : List Nat) : V.str ((⟨l.toArray⟩ : Str) ++ ⟨k.toArray⟩) = tx (l ++ k) := by
  show V.str ⟨l.toArray ++ k.toArray⟩ = V.str ⟨(l ++ k).toArray⟩
  simp
end My

set_option Elab.async false
set_option linter.all false
set_option maxRecDepth 100000
set_option maxHeartbeats 2000000
namespace My
open PySem PySem.Spec PyProof.Rows L2
/-! ### calls of defs that are promised where no repr is under way -/
/-! ### tables, of any data -/
theorem Sh.intS {n m : Nat} {i : Int} (h : i.natAbs < 1024) (hm : 10 ≤ m) : Sh n m (.int i) := by
  have h0 : Sh n 200 (.int i) := Sh.int (Nat.lt_of_lt_of_le h (by decide)) (Nat.le_refl _)
  refine ⟨h0.ok, h0.nd, h0.sh, h0.dp, ?_, h0.ly⟩
  have h1 : i.natAbs.log2 < 10 := by
    by_cases e : i.natAbs = 0
    · rw [e]
      decide
    · rw [Nat.log2_lt e]
      exact h
  simp only [PyData.weight]
  split <;> omega
theorem Th.intS {L : List Addr} {H : Hp} {n m : Nat} {i : Int} (h : i.natAbs < 1024) (hm : 10 ≤ m) : Th L H n m (.int i) := ⟨.int i, .int i, Sh.intS h hm, Nat.zero_le _⟩
theorem shaped_of {l : List Nat} (h : ∀ c ∈ l, c < 0x110000) : SeqAt.shaped (.list (l.map fun c => PyData.str (sS c))) = true := by
  have e1 : PyData.canLayAll0 (l.map fun c => PyData.str (sS c)) = true := by
    induction l with
    | nil => rfl
    | cons c l ih =>
      show (PyData.canLay0 (.str (sS c)) && PyData.canLayAll0 (l.map fun c => PyData.str (sS c))) = true
      rw [ih fun x hx => h x (List.mem_cons_of_mem _ hx), Bool.and_true]
      have := h c (List.mem_cons_self ..)
      show (#[c] : Array Nat).all (· < 0x110000) = true
      simp [this]
  have e2 : PyData.depthAll (l.map fun c => PyData.str (sS c)) ≤ 0 := by
    clear e1 h
    induction l with
    | nil => exact Nat.le_refl _
    | cons c l ih =>
      show max 0 (PyData.depthAll (l.map fun c => PyData.str (sS c))) ≤ 0
      omega
  unfold SeqAt.shaped
  show (PyData.canLayAll0 (l.map fun c => PyData.str (sS c)) && decide (PyData.depthAll (l.map fun c => PyData.str (sS c)) + 1 ≤ 64)) = true
  rw [e1, decide_eq_true (by omega)]
  rfl
theorem Sh.codes {n m : Nat} {l : List Nat} (h : Sh n m (.str (txS l))) : ∀ c ∈ l, c < 0x110000 := fun c hc => by
  have h1 : (txS l).cps.all (· < 0x110000) = true := h.ly
  rw [Array.all_eq_true'] at h1
  exact of_decide_eq_true (h1 c (by simpa using hc))
end My
namespace My
open PySem PySem.Spec PyProof.Rows L2
end My

set_option Elab.async false
set_option linter.all false
set_option maxRecDepth 100000
set_option maxHeartbeats 2000000
namespace My
open PySem PySem.Spec PyProof.Rows L2
theorem shaped_sh {n m : Nat} {d : PyData} (h : Sh n m d) (hn : n ≤ 64) : SeqAt.shaped d = true := by
  have h1 := h.dp
  unfold SeqAt.shaped
  rw [h.ly, decide_eq_true (by omega)]
  rfl
end My
namespace My
open PySem PySem.Spec PyProof.Rows L2
end My

set_option Elab.async false
set_option linter.all false
set_option maxRecDepth 100000
set_option maxHeartbeats 4000000
namespace My
open PySem PySem.Spec PyProof.Rows L2
/-! ### set(list of texts), sorted(set of texts) -/
section
variable {prog : Program} {w : World} {A : Around} {E : Value → Shared → Prop} {s : Shared}
theorem strs_at {us : List Value} {zs : List Str} (h : StrsAre us zs) : ∀ {i : Nat} {v : Value}, us[i]? = some v → ∃ x t, zs[i]? = some x ∧ v = .str x t := by
  induction h with
  | nil => exact fun e => nomatch e
  | cons x t r ih =>
    rintro (_ | i) v e
    · exact ⟨x, t, rfl, (Option.some.inj e).symm⟩
    · exact ih e
/-- set(list of texts) -/
theorem set_listT {l : Addr} {items : Array Value} {zs : List Str} {Q : Value → Shared → Prop} (calm : A.handled = none) (hl : s.heap.IsList l items) (hi : StrsAre items.toList zs) (few : zs.length + 1 < scanBound) (n : items.size = zs.length)
    (goal : ∀ (h' : Heap) (tk : Nat), MetAt w zs s.heap.objs.size zs.length h' → (∀ b o, s.heap.get? b = some o → h'.get? b = some o) → Q (.ref s.heap.objs.size) { s with heap := h', toks := tk }) :
    wpAny (model prog w) A (call (.type "set") [.ref l]) Q E s := by
  have ⟨o, ho, hc, _⟩ := hl
  have sl : l < s.heap.objs.size := Heap.lt_size ho
  have sp : (s.heap.push (blankS w)).objs.size = s.heap.objs.size + 1 := Heap.size_push ..
  refine set_made (zs := zs) calm ⟨⟨"list", ⟨o, Heap.get?_push_of_some _ ho, hc⟩, F.sub_list_set, F.sub_list_frozenset, by decide⟩, fun q => ?_⟩ (fun z => Nat.ne_of_lt sl (Value.ref.inj z)) few (F.typeCall_set_1 _) goal
  refine wpAny_pyIter_list (hl.push _) (q _ [_, l] (fun i v => items[i]? = some v) _ (fun A ha => n ▸ Walks.list ha _ l (by rw [sp]; exact Nat.ne_of_lt (Nat.lt_succ_of_lt sl)) items) (fun b z => ?_) (fun i v _ hv => strs_at hi (Array.getElem?_toList ▸ hv)) ⟨⟨_, Heap.get?_push_size _ rfl, rfl, rfl⟩, (hl.push _).push _⟩)
  rcases List.mem_cons.mp z with e | e
  · exact .inl e
  · exact .inr (by rw [List.mem_singleton.mp e])
/-- the text of a value -/
def txtOf : Value → Str
  | .str k _ => k
  | _ => ⟨#[]⟩
theorem strs_perm {out : List Value} {ps : List (Str × Tok)} (pm : out.Perm (ps.map fun p => Value.str p.1 p.2)) : ∃ zs, StrsAre out zs ∧ zs.Perm (ps.map Prod.fst) := by
  refine ⟨out.map txtOf, ?_, by simpa [Function.comp_def, txtOf] using pm.map txtOf⟩
  have all : ∀ v ∈ out, v = .str (txtOf v) (match v with | .str _ t => t | _ => 0) := fun v hv => by
    obtain ⟨p, _, rfl⟩ := List.mem_map.mp (pm.mem_iff.mp hv)
    rfl
  clear pm
  induction out with
  | nil => exact .nil
  | cons v l ih =>
    have e := all v List.mem_cons_self
    have r := ih fun u hu => all u (List.mem_cons_of_mem _ hu)
    rw [e]
    exact .cons _ _ r
end
/-- the set of texts at a -/
def SetSO (w : World) (a : Addr) (ks : List Str) : HO := .ext fun h => SetS w h a ks
section
variable {X : Cx}
theorem setSO_new {w : World} {P : Program} {H : Hp} {h : Heap} {a : Addr} {ks : List Str} (R : SetS w h a ks) : ObjOk P w H h a (SetSO w a ks) :=
  ⟨R, R.obj.imp fun _ => And.left, fun _ _ p k => SetS.at p k⟩
/-- set(list of texts) -/
def rSetL (K : PySem.W.Frag) (w : World) : List V → Hp → VK → Prop := fun xs H Q => ∃ (a : Addr) (zs : List Str), xs = [.ref a] ∧ SqL K H a (zs.map V.str) ∧ zs.length ≤ 1000 ∧ ∀ (ks : List Str) (p : Addr), ks.Nodup → (∀ x, x ∈ ks ↔ x ∈ zs) → ks.length ≤ zs.length → H p = none → Q (.ref p) (upd H p (SetSO w p ks))
theorem cSetL (K : PySem.W.Frag) (w : World) (hcalm : X.calm = true := by rfl) (hK : X.K = K := by rfl) (hw : X.w = w := by rfl) : CallR X (.type "set") (rSetL K w) := by
  subst hK hw
  rintro pins s σ H vs us Q I r ⟨a, zs, rfl, hs, hz, q⟩
  obtain ⟨its, rv, hl, _⟩ := I.list hs
  have n : its.length = zs.length := by rw [← rv.length, List.length_map]
  rw [Vals.ref1 r]
  refine set_listT (zs := zs) (I.ok.hd hcalm) hl.isList (by simpa using rv.strs) (by unfold scanBound; omega) n fun h' tk M old => ?_
  obtain ⟨ks, l, m, R⟩ := M
  rw [List.take_length] at m
  exact ⟨.ref s.heap.objs.size, _, I.laid (t' := tk) old (Nat.le_refl _) (setSO_new R), rfl, q ks _ R.1 m l (I.hok.fresh (Nat.le_refl _))⟩
/-- sorted(set of texts), fewer than 64 members -/
def rSortSet (w : World) : List V → Hp → VK → Prop := fun xs H Q => ∃ (a : Addr) (ks : List Str), xs = [.ref a] ∧ H a = some (SetSO w a ks) ∧ ks.length < 64 ∧ ∀ (ys : List Str) (p : Addr), ys.Perm ks → sortedS ys = true → H p = none → Q (.ref p) (upd H p (.lst (ys.map V.str)))
theorem cSortSet (w : World) (hcalm : X.calm = true := by rfl) (hw : X.w = w := by rfl) : CallR X (.builtin "sorted") (rSortSet w) := by
  subst hw
  rintro pins s σ H vs us Q I r ⟨a, ks, rfl, ha, l64, q⟩
  obtain ⟨nd, o, es, ep, t, ps, ho, hex, hd, T, rfl⟩ : SetS X.w s.heap a ks := (I.hok a _ ha).1
  rw [Vals.ref1 r]
  rw [List.length_map] at l64
  refine sorted_texts (collect_set (I.ok.hd hcalm) ⟨o, ho, hex.1, hd⟩ T.told.1 T.small T.told.2.1 T.told.2.2 fun s1 out k1 hz g1 o1 pm => ?_)
  have pm2 : out.Perm (ps.map fun p => Value.str p.1 p.2) := pm.trans (by simpa [Function.comp_def, entS] using T.all.map Prod.snd)
  obtain ⟨zs, z1, z2⟩ := strs_perm pm2
  refine ⟨zs, z1, by rw [pm2.length_eq, List.length_map]; exact l64, fun ys us c h' y1 y2 y3 hp old => ?_⟩
  obtain ⟨h1, g, d, tk, os⟩ := s1
  obtain rfl : os = s.os := o1
  have n : (ys.map V.str).length ≤ sizeLine := by rw [List.length_map, y2.length_eq, z2.length_eq, List.length_map, sizeLine_eq]; omega
  have free : H h1.objs.size = none := I.hok.fresh hz
  have keep : ∀ b u, s.heap.get? b = some u → h'.get? b = some u := fun b u e => old b u (k1 b u e)
  have J : Inv X pins σ (upd H h1.objs.size (.lst (ys.map V.str))) { s with heap := h', gens := g, drawn := d, toks := tk } := I.call (ch := []) (Un.laid keep hz free) (I.hok.laid keep hz ⟨n, us, c, vals_of_strs y1, hp⟩) ((show g = s.gens from g1) ▸ I.bare) (fun _ z => nomatch z)
  exact ⟨.ref h1.objs.size, _, J, rfl, q ys _ (y2.trans z2) y3 free⟩
end
end My

set_option Elab.async false
set_option linter.all false
set_option maxRecDepth 100000
set_option maxHeartbeats 2000000
namespace My
open PySem PySem.Spec PyProof.Rows L2
/-! ### what is a need -/
def needL (cols e r : List Nat) : Bool := risB e && (decide (r.length ≤ 1) && isListL cols (e ++ r))
def isNeedD (cols : List Nat) : PyData → Bool
  | .tuple [.str e, .str r] => needL cols e.cps.toList r.cps.toList
  | _ => false
theorem need_of_str {cols e r : List Nat} : isNeedD cols (.tuple [.str (txS e), .str (txS r)]) = needL cols e r := by
  show needL cols e.toArray.toList r.toArray.toList = _
  simp
theorem need_l {cols : List Nat} {d1 d2 : PyData} (h : isSt d1 = false) : isNeedD cols (.tuple [d1, d2]) = false := by
  cases d1 with
  | str z => cases h
  | _ => rfl
theorem need_r {cols : List Nat} {d1 d2 : PyData} (h : isSt d2 = false) : isNeedD cols (.tuple [d1, d2]) = false := by
  cases d1 with
  | str z =>
    cases d2 with
    | str y => cases h
    | _ => rfl
  | _ => rfl
theorem risB_pw : ∀ (l : List Nat), risB l = true ↔ l.Pairwise (· < ·)
  | [] => by simp [risB]
  | [a] => by simp [risB]
  | a :: b :: l => by
    have ih := risB_pw (b :: l)
    unfold risB
    rw [Bool.and_eq_true, decide_eq_true_eq, ih, List.pairwise_cons (a := a)]
    constructor
    · rintro ⟨h1, h2⟩
      refine ⟨fun x hx => ?_, h2⟩
      rcases List.mem_cons.mp hx with e | e
      · omega
      · have := (List.pairwise_cons.mp h2).1 x e
        omega
    · rintro ⟨h1, h2⟩
      exact ⟨h1 b (by simp), h2⟩
/-- letters == sorted(set(letters)) -/
theorem set_sorted {l ys : List Nat} (hm : ∀ x, x ∈ ys ↔ x ∈ l) (hn : ys.Nodup) (hs : ys.Pairwise (· ≤ ·)) : l = ys ↔ risB l = true := by
  have hlt : ys.Pairwise (· < ·) := (List.pairwise_and_iff.mpr ⟨hs, hn⟩).imp fun {a b} h => by omega
  rw [risB_pw]
  constructor
  · intro e
    rw [e]
    exact hlt
  · intro h
    have ndl : l.Nodup := h.imp fun {a b} z => by omega
    have pm : l.Perm ys := (List.perm_ext_iff_of_nodup ndl hn).mpr fun x => (hm x).symm
    exact le_perm_eq pm (h.imp fun {a b} z => by omega) hs
theorem need_looked (cols e r : List Nat) (h0 : ¬ (e = [] ∧ r = [])) (h1 : ∀ c ∈ e ++ r, c ∈ cols) (h2 : risB e = true) : needL cols e r = (decide (r.length < 2) && (decide (r = []) || !decide (∃ c ∈ e, r = [c]))) := by
  unfold needL isListL
  have hne : (!(e ++ r).isEmpty) = true := by
    cases e with
    | nil =>
      cases r with
      | nil => exact absurd ⟨rfl, rfl⟩ h0
      | cons a r => rfl
    | cons a e => rfl
  have hall : ((e ++ r).all fun c => decide (c ∈ cols)) = true := List.all_eq_true.mpr fun c hc => decide_eq_true (h1 c hc)
  have nde : e.Nodup := ((risB_pw e).mp h2).imp fun {a b} z => by omega
  rw [h2, hne, hall, Bool.true_and, Bool.true_and, Bool.and_true]
  match r with
  | [] => simp [nde]
  | [c] =>
    have : (e ++ [c]).Nodup ↔ c ∉ e := by
      rw [List.nodup_append]
      constructor
      · rintro ⟨_, _, h⟩ hc
        exact h c hc c (by simp) rfl
      · intro hc
        refine ⟨nde, by simp, fun a ha b hb z => ?_⟩
        rw [List.mem_singleton] at hb
        exact hc (by rw [← hb, ← z]; exact ha)
    by_cases hc : c ∈ e
    · have h3 : ¬ (e ++ [c]).Nodup := fun z => this.mp z hc
      simp [h3, hc]
    · simp [this.mpr hc, hc]
  | a :: b :: r => simp
theorem need_out {cols e r : List Nat} (h : ∃ c ∈ e ++ r, c ∉ cols) : needL cols e r = false := by
  obtain ⟨c, hc, h⟩ := h
  have : ((e ++ r).all fun c => decide (c ∈ cols)) = false := by
    refine eq_false_of_ne_true fun z => h ?_
    exact of_decide_eq_true (List.all_eq_true.mp z c hc)
  unfold needL isListL
  rw [this]
  simp
theorem Sh.lim {n m : Nat} {l : List Nat} (h : Sh n m (.str (txS l))) : ∀ c ∈ l, c < 0x110000 := fun c hc => by
  have e1 : (txS l).cps.all (· < 0x110000) = true := h.ly
  rw [Array.all_eq_true'] at e1
  exact of_decide_eq_true (e1 c (by simpa using hc))
theorem eqv_two (e r : List Nat) : PyData.eqv (.tuple [.str (txS e), .str (txS r)]) (.tuple [.str (txS []), .str (txS [])]) = decide (e = [] ∧ r = []) := by
  show ((txS e == txS []) && ((txS r == txS []) && true)) = _
  have key : ∀ l : List Nat, (txS l == txS []) = decide (l = []) := fun l => by
    cases l with
    | nil => rfl
    | cons a l =>
      have h1 : ¬ (txS (a :: l) = txS []) := fun z => by
        have z2 := congrArg (fun q : Str => q.cps.toList) z
        simp at z2
      rw [beq_eq_false_iff_ne.mpr h1]
      rfl
  rw [key, key, Bool.and_true]
  by_cases h1 : e = []
  · by_cases h2 : r = [] <;> simp [h1, h2]
  · simp [h1]
theorem inV_text (lr l : List Nat) : inV (tx lr) (l.map sg) = decide (∃ c ∈ l, lr = [c]) := by
  induction l with
  | nil => simp [inV]
  | cons d l ih =>
    show ((sS d == txS lr) || inV (tx lr) (l.map sg)) = _
    rw [ih, Bool.eq_iff_iff, Bool.or_eq_true, decide_eq_true_eq, decide_eq_true_eq, beq_iff_eq]
    have e1 : sS d = txS lr ↔ lr = [d] := by
      constructor
      · intro z
        have z2 := congrArg (fun q : Str => q.cps.toList) z
        have z3 : [d] = lr := by simpa [sS] using z2
        exact z3.symm
      · intro z
        rw [z]
    rw [e1]
    constructor
    · rintro (h | ⟨c, hc, h⟩)
      · exact ⟨d, by simp, h⟩
      · exact ⟨c, by simp [hc], h⟩
    · rintro ⟨c, hc, h⟩
      rcases List.mem_cons.mp hc with z | z
      · exact .inl (by rw [h, z])
      · exact .inr ⟨c, z, h⟩
theorem strs_signs {ks : List Str} {l : List Nat} (h : ∀ x, x ∈ ks ↔ x ∈ l.map sS) : ∃ m : List Nat, ks = m.map sS := by
  refine ⟨ks.map fun z => z.cps.toList.headD 0, ?_⟩
  rw [List.map_map]
  conv => lhs; rw [← List.map_id ks]
  refine List.map_congr_left fun y hy => ?_
  obtain ⟨c, _, rfl⟩ := List.mem_map.mp ((h y).mp hy)
  rfl
theorem nodup_signs {m : List Nat} (h : (m.map sS).Nodup) : m.Nodup := (List.pairwise_map.mp h).imp fun {a b} h z => h (by rw [z])
theorem Sh.cat {n m m' : Nat} {a b : List Nat} (h1 : Sh n m (.str (txS a))) (h2 : Sh n m' (.str (txS b))) : Sh n (m + m') (.str (txS (a ++ b))) := by
  refine ⟨rfl, rfl, ?_, h1.dp, ?_, ?_⟩
  · have e1 := h1.sh
    have e2 := h2.sh
    simp only [PyData.leavesShort, List.all_eq_true, decide_eq_true_eq] at e1 e2 ⊢
    simp at e1 e2 ⊢
    intro c hc
    rcases hc with z | z
    · exact e1 c z
    · exact e2 c z
  · have e1 : a.toArray.size ≤ m := h1.wt
    have e2 : b.toArray.size ≤ m' := h2.wt
    show (a ++ b).toArray.size ≤ m + m'
    simp at e1 e2 ⊢
    omega
  · have e1 : (txS a).cps.all (· < 0x110000) = true := h1.ly
    have e2 : (txS b).cps.all (· < 0x110000) = true := h2.ly
    show (txS (a ++ b)).cps.all (· < 0x110000) = true
    rw [Array.all_eq_true'] at e1 e2 ⊢
    intro c hc
    have hc2 : c ∈ a ∨ c ∈ b := by simpa using hc
    rcases hc2 with z | z
    · exact e1 c (by simpa using z)
    · exact e2 c (by simpa using z)
end My

set_option Elab.async false
set_option linter.all false
set_option maxRecDepth 100000
set_option maxHeartbeats 1000000
namespace My
open PySem PySem.Spec PyProof.Rows L2
def topS (i : Nat) : Stmt := PySem.Challenge.pw_stretchkeep_k33_what_is_a_need.main.body.getD i (.Pass ⟨0, 0, 0, 0⟩)
abbrev s_is_rising : Stmt := topS 1
theorem sc_is_rising : FnScope ["things", "at"] ["things"] (defScope s_is_rising) := ⟨rfl, rfl, rfl, by decide +kernel, rfl, by decide +kernel, by decide +kernel⟩
abbrev s_is_list : Stmt := topS 2
theorem sc_is_list : FnScope ["columns", "thing", "letter"] ["columns", "thing"] (defScope s_is_list) := ⟨rfl, rfl, rfl, by decide +kernel, rfl, by decide +kernel, by decide +kernel⟩
abbrev s_is_need : Stmt := topS 4
theorem sc_is_need : FnScope ["columns", "thing", "equals", "reach"] ["columns", "thing"] (defScope s_is_need) := ⟨rfl, rfl, rfl, by decide +kernel, rfl, by decide +kernel, by decide +kernel⟩
abbrev s_l_bag : Stmt := topS 6
theorem sc_l_bag : FnScope ["script"] ["script"] (defScope s_l_bag) := ⟨rfl, rfl, rfl, by decide +kernel, rfl, by decide +kernel, by decide +kernel⟩
abbrev s_l_lot : Stmt := topS 7
theorem sc_l_lot : FnScope ["bag", "many", "at", "cell", "one", "two", "three", "found"] ["bag", "many"] (defScope s_l_lot) := ⟨rfl, rfl, rfl, by decide +kernel, rfl, by decide +kernel, by decide +kernel⟩
abbrev s_l_columns : Stmt := topS 8
theorem sc_l_columns : FnScope ["bag", "most", "left", "found", "k"] ["bag", "most"] (defScope s_l_columns) := ⟨rfl, rfl, rfl, by decide +kernel, rfl, by decide +kernel, by decide +kernel⟩
abbrev s_l_need : Stmt := topS 9
theorem sc_l_need : FnScope ["bag", "columns", "some", "others", "reach", "letter"] ["bag", "columns"] (defScope s_l_need) := ⟨rfl, rfl, rfl, by decide +kernel, rfl, by decide +kernel, by decide +kernel⟩
abbrev s_l_due : Stmt := topS 10
theorem sc_l_due : FnScope ["columns", "thing", "letters", "letter"] ["columns", "thing"] (defScope s_l_due) := ⟨rfl, rfl, rfl, by decide +kernel, rfl, by decide +kernel, by decide +kernel⟩
abbrev s_l_swapped : Stmt := topS 11
theorem sc_l_swapped : FnScope ["text", "at", "two"] ["text", "at"] (defScope s_l_swapped) := ⟨rfl, rfl, rfl, by decide +kernel, rfl, by decide +kernel, by decide +kernel⟩
abbrev s_l_bent : Stmt := topS 12
theorem sc_l_bent : FnScope ["bag", "columns", "need", "equals", "reach", "letter", "other", "some", "at", "more", "way", "odd"] ["bag", "columns", "need"] (defScope s_l_bent) := ⟨rfl, rfl, rfl, by decide +kernel, rfl, by decide +kernel, by decide +kernel⟩
abbrev s_law : Stmt := topS 13
theorem sc_law : FnScope ["script", "bag", "turn", "columns", "need", "k", "thing", "kept", "found"] ["script"] (defScope s_law) := ⟨rfl, rfl, rfl, by decide +kernel, rfl, by decide +kernel, by decide +kernel⟩
structure Ad where
  f_is_rising : Addr
  d_is_rising : FuncData
  c_is_rising : Addr
  P_is_rising : Addr
  f_is_list : Addr
  d_is_list : FuncData
  c_is_list : Addr
  P_is_list : Addr
  f_is_need : Addr
  d_is_need : FuncData
  f_l_bag : Addr
  d_l_bag : FuncData
  f_l_lot : Addr
  d_l_lot : FuncData
  f_l_columns : Addr
  d_l_columns : FuncData
  f_l_need : Addr
  d_l_need : FuncData
  f_l_due : Addr
  d_l_due : FuncData
  f_l_swapped : Addr
  d_l_swapped : FuncData
  f_l_bent : Addr
  d_l_bent : FuncData
  f_law : Addr
  d_law : FuncData
abbrev Ad.Ps (Z : Ad) : List Addr := [Z.P_is_rising, Z.P_is_list]
structure Tb (base : Heap) (mg : Str → Option Value) (Z : Ad) : Prop where
  t_is_rising : LamX.TabB base mg Z.c_is_rising Z.P_is_rising
  t_is_list : LamX.TabB base mg Z.c_is_list Z.P_is_list
structure Tx (K : PySem.W.Frag) (mg : Str → Option Value) (Z : Ad) : Prop where
  F_is_rising : Fun K "is_rising" "is_rising" s_is_rising Z.f_is_rising Z.d_is_rising
  C_is_rising : FunC K "is_rising" "is_rising" s_is_rising Z.f_is_rising Z.d_is_rising Z.c_is_rising
  b_is_rising : Binds K Z.d_is_rising ["things"] []
  g_is_rising : mg "is_rising" = some (.ref Z.f_is_rising)
  F_is_list : Fun K "is_list" "is_list" s_is_list Z.f_is_list Z.d_is_list
  C_is_list : FunC K "is_list" "is_list" s_is_list Z.f_is_list Z.d_is_list Z.c_is_list
  b_is_list : Binds K Z.d_is_list ["columns", "thing"] []
  g_is_list : mg "is_list" = some (.ref Z.f_is_list)
  F_is_need : Fun K "is_need" "is_need" s_is_need Z.f_is_need Z.d_is_need
  b_is_need : Binds K Z.d_is_need ["columns", "thing"] []
  g_is_need : mg "is_need" = some (.ref Z.f_is_need)
  F_l_bag : Fun K "_law_bag" "_law_bag" s_l_bag Z.f_l_bag Z.d_l_bag
  b_l_bag : Binds K Z.d_l_bag ["script"] []
  g_l_bag : mg "_law_bag" = some (.ref Z.f_l_bag)
  F_l_lot : Fun K "_law_lot" "_law_lot" s_l_lot Z.f_l_lot Z.d_l_lot
  b_l_lot : Binds K Z.d_l_lot ["bag", "many"] []
  g_l_lot : mg "_law_lot" = some (.ref Z.f_l_lot)
  F_l_columns : Fun K "_law_columns" "_law_columns" s_l_columns Z.f_l_columns Z.d_l_columns
  b_l_columns : Binds K Z.d_l_columns ["bag", "most"] []
  g_l_columns : mg "_law_columns" = some (.ref Z.f_l_columns)
  F_l_need : Fun K "_law_need" "_law_need" s_l_need Z.f_l_need Z.d_l_need
  b_l_need : Binds K Z.d_l_need ["bag", "columns"] []
  g_l_need : mg "_law_need" = some (.ref Z.f_l_need)
  F_l_due : Fun K "_law_due" "_law_due" s_l_due Z.f_l_due Z.d_l_due
  b_l_due : Binds K Z.d_l_due ["columns", "thing"] []
  g_l_due : mg "_law_due" = some (.ref Z.f_l_due)
  F_l_swapped : Fun K "_law_swapped" "_law_swapped" s_l_swapped Z.f_l_swapped Z.d_l_swapped
  b_l_swapped : Binds K Z.d_l_swapped ["text", "at"] []
  g_l_swapped : mg "_law_swapped" = some (.ref Z.f_l_swapped)
  F_l_bent : Fun K "_law_bent" "_law_bent" s_l_bent Z.f_l_bent Z.d_l_bent
  b_l_bent : Binds K Z.d_l_bent ["bag", "columns", "need"] []
  g_l_bent : mg "_law_bent" = some (.ref Z.f_l_bent)
  F_law : Fun K "law" "law" s_law Z.f_law Z.d_law
  b_law : Binds K Z.d_law ["script"] []
  g_law : mg "law" = some (.ref Z.f_law)
  m_len : mg "len" = none
  m_range : mg "range" = none
  m_list : mg "list" = none
  m_sorted : mg "sorted" = none
  m_tuple : mg "tuple" = none
  m_isinstance : mg "isinstance" = none
  m_all : mg "all" = none
  m_bool : mg "bool" = none
  m_str : mg "str" = none
  m_int : mg "int" = none
  m_repr : mg "repr" = none
  m_set : mg "set" = none
  m_max : mg "max" = none
section
variable {P : Program} {w : World} {K : PySem.W.Frag} {mg : Str → Option Value} {base : Heap} {Z : Ad}
/-! ### a bag of numbers -/
def Bag (b bl : Addr) (H : Hp) : Prop := ∃ (ns : List Int) (k : Nat) (n : Int), b ≠ bl ∧ H b = some (.lst [.ref bl, .int k, .int n]) ∧ H bl = some (.lst (ns.map V.int))
theorem Bag.same {b bl : Addr} {H H' : Hp} (h : Bag b bl H) (s : Same H H') : Bag b bl H' := by
  obtain ⟨ns, k, n, e, h1, h2⟩ := h
  exact ⟨ns, k, n, e, s _ _ h1, s _ _ h2⟩
theorem Bag.upd {b bl p : Addr} {H : Hp} {o : HO} (h : Bag b bl H) (h1 : p ≠ b) (h2 : p ≠ bl) : Bag b bl (L2.upd H p o) := by
  obtain ⟨ns, k, n, e, g1, g2⟩ := h
  exact ⟨ns, k, n, e, keep_ne g1 (fun z => h1 z.symm), keep_ne g2 (fun z => h2 z.symm)⟩
theorem Bag.new {b bl p : Addr} {H : Hp} {o : HO} (h : Bag b bl H) (n : H p = none) : Bag b bl (L2.upd H p o) := h.same (Same.new (Same.refl H) n)
theorem Bag.ne {b bl p : Addr} {H : Hp} (h : Bag b bl H) (n : H p = none) : p ≠ b ∧ p ≠ bl := by
  obtain ⟨ns, k, m, e, g1, g2⟩ := h
  exact ⟨(ne_of_none g1 n).symm, (ne_of_none g2 n).symm⟩
theorem Kp.kTb {b bl : Addr} {H H' : Hp} (k : Kp b H H') (h : Bag b bl H) : KT H H' := by
  obtain ⟨ns, m, n, e, g1, g2⟩ := h
  exact k.kT g1
def spBag (K : PySem.W.Frag) : Sp := fun vs H Q _ => ∃ (a : Addr) (ns : List Int), vs = [.ref a] ∧ SqL K H a (ns.map V.int) ∧ ns.length ≤ 63 ∧ ∀ (b bl : Addr) (H' : Hp), Same H H' → H b = none → H bl = none → Bag b bl H' → Q (.ref b) H'
theorem ok_bag (T : Tx K mg Z) : FnOk P w K mg base CX0 1 Z.f_l_bag Z.d_l_bag ["script"] (spBag K) := by
  refine T.F_l_bag.ok sc_l_bag (fun vs H Q E h => ?_) (fun cdv A outer s H vs Q E hr h => ?_)
  · obtain ⟨a, ns, rfl, _⟩ := h
    rfl
  · obtain ⟨a, ns, rfl, hS, hl, q⟩ := h
    refine ⟨_, (pss_one (ps_ret (pe_lst (pa_cons (pe_callTy (cListSq K) (by rfl) T.m_list (by decide +kernel) (pa_cons (pe_slice (slLK K) (pv 0) po_none (po_some pe_int)) pa_nil)) (pa_cons pe_int (pa_cons pe_int pa_nil)))))), ?_⟩
    refine ⟨.ref a, rfl, _, rfl, a, _, rfl, hS, fun p np => ?_⟩
    have ecut : cutV (ns.map V.int) none (some (63 : Int)) = ns.map V.int := by
      unfold cutV
      rw [HT.sIx_none, show (63 : Int) = ((63 : Nat) : Int) from rfl, HT.sIx_nat, List.drop_zero, List.take_of_length_le (by rw [List.length_map]; omega)]
    rw [ecut]
    refine ⟨p, _, rfl, .inl (.inl (.inl upd_same)), fun l nl => ?_⟩
    refine ⟨(by show 3 ≤ sizeLine; decide), fun b nb => ?_⟩
    have s1 : Same H (upd H p (.lst (ns.map V.int))) := Same.new (Same.refl H) np
    have s2 : Same H (upd (upd H p (.lst (ns.map V.int))) l (.lst (ns.map V.int))) := Same.new s1 nl
    exact q b l _ (Same.new s2 nb) (Same.free s2 nb) (Same.free s1 nl) ⟨ns, (0 : Nat), (0 : Int), (fun e => by rw [e, upd_same] at nb; cases nb), upd_same, keep_new upd_same nb⟩
/-! ### _law_lot -/
def spLot (K : PySem.W.Frag) : Sp := fun vs H Q _ => ∃ (b bl : Addr) (m : Int), vs = [.ref b, .int m] ∧ Bag b bl H ∧ 0 < m ∧ m < 1073741824 ∧ ∀ (d : Int) (H' : Hp), Kp b H H' → Bag b bl H' → 0 ≤ d → d < m → Q (.int d) H'
set_option maxHeartbeats 4000000 in
theorem ok_lot (T : Tx K mg Z) : FnOk P w K mg base CX0 1 Z.f_l_lot Z.d_l_lot ["bag", "many"] (spLot K) := by
  refine T.F_l_lot.ok sc_l_lot (fun vs H Q E h => ?_) (fun cdv A outer s H vs Q E hr h => ?_)
  · obtain ⟨b, bl, m, rfl, _⟩ := h
    rfl
  · obtain ⟨b, bl, m, rfl, hB, h0, h1, q⟩ := h
    obtain ⟨ns, k, n, hne, hb, hbl⟩ := hB
    refine ⟨_, (pss_mid (ps_if (pt_cmpR op_eq (pe_ix (ixL K) (pv 0) pe_int (fun _ _ => rfl)) pe_int (nomark _)) (pss_cons (ps_set (i := 2) sc_l_lot.nd rfl (.inl rfl) (pe_ix (ixL K) (pv 0) pe_int (fun _ _ => rfl)))
      (pss_cons (ps_asg (pe_op op_add (pv 2) pe_int) (pg_sub (pv 0) pe_int set_list))
      (pss_cons (ps_set (i := 3) sc_l_lot.nd rfl (.inl rfl) pe_int)
      (pss_mid (ps_if (pt_cmpR op_lt (pv 2) (pe_callB (cLenSq K) (by rfl) T.m_len (by decide +kernel) (pa_cons (pe_ix (ixL K) (pv 0) pe_int (fun _ _ => rfl)) pa_nil)) (nomark _)) (pss_one (ps_set (i := 3) sc_l_lot.nd rfl (.inl rfl) (pe_ix (ixL K) (pe_ix (ixL K) (pv 0) pe_int (fun _ _ => rfl)) (pv 2) (fun _ _ => rfl)))) (pss_one (ps_if (pt_cmpR op_gt (pe_callB (cLenSq K) (by rfl) T.m_len (by decide +kernel) (pa_cons (pe_ix (ixL K) (pv 0) pe_int (fun _ _ => rfl)) pa_nil)) pe_int (nomark _)) (pss_one (ps_set (i := 3) sc_l_lot.nd rfl (.inl rfl) (pe_op op_add (pe_op op_mod (pe_ix (ixL K) (pe_ix (ixL K) (pv 0) pe_int (fun _ _ => rfl)) (pe_op op_mod (pe_op op_mul (pv 2) pe_int) (pe_callB (cLenSq K) (by rfl) T.m_len (by decide +kernel) (pa_cons (pe_ix (ixL K) (pv 0) pe_int (fun _ _ => rfl)) pa_nil))) (fun _ _ => rfl)) pe_int) (pe_op op_mul pe_int (pv 2))))) pss_nil)))
      (pss_cons (ps_set (i := 4) sc_l_lot.nd rfl (.inl rfl) (pe_op op_mod (pe_op op_mul (pe_op op_add (pe_op op_add (pe_op op_mod (pv 3) pe_int) (pe_op op_mul pe_int (pv 2))) pe_int) pe_int) pe_int))
      (pss_cons (ps_set (i := 5) sc_l_lot.nd rfl (.inl rfl) (pe_op op_mod (pe_op op_add (pe_op op_add (pe_op op_mul (pv 4) (pv 4)) (pe_op op_mul pe_int (pv 2))) pe_int) pe_int))
      (pss_cons (ps_set (i := 6) sc_l_lot.nd rfl (.inl rfl) (pe_op op_mod (pe_op op_add (pe_op op_add (pe_op op_mul (pv 5) (pv 5)) (pe_op op_mul pe_int (pv 4))) pe_int) pe_int))
      (pss_cons (ps_asg (pe_op op_add (pe_op op_fdivW (pe_op op_add (pe_op op_mul (pv 5) pe_int) (pv 6)) pe_int) pe_int) (pg_sub (pv 0) pe_int set_list))
      (pss_one (ps_if (pt_cmpR op_ge (pv 3) (pe_op op_pow pe_int pe_int) (nomark _)) (pss_one (ps_asg (pe_op op_fdivW (pv 3) (pe_op op_pow pe_int pe_int)) (pg_sub (pv 0) pe_int set_list))) pss_nil)))))))))) pss_nil)
      (pss_cons (ps_set (i := 7) sc_l_lot.nd rfl (.inl rfl) (pe_op op_mod (pe_ix (ixL K) (pv 0) pe_int (fun _ _ => rfl)) (pv 1)))
      (pss_cons (ps_asg (pe_op op_fdivW (pe_ix (ixL K) (pv 0) pe_int (fun _ _ => rfl)) (pv 1)) (pg_sub (pv 0) pe_int set_list))
      (pss_one (ps_ret (pv 7)))))), ?_⟩
    refine ⟨fun σ H' => ∃ (y2 y3 y4 y5 y6 : Option V) (k2 : Nat) (n2 : Int), σ = [some (.ref b), some (.int m), y2, y3, y4, y5, y6, none] ∧ Kp b H H' ∧ H' b = some (.lst [.ref bl, .int k2, .int n2]) ∧ H' bl = some (.lst (ns.map V.int)), ?_, fun σ H1 hM => ?_⟩
    · refine ⟨.ref b, rfl, b, _, 2, .int n, rfl, rfl, .inl (.inl hb), rfl, rfl, _, rfl, ite2 (fun e => ?_) (fun e => ?_)⟩
      · refine ⟨.ref b, rfl, b, _, 1, .int k, rfl, rfl, .inl (.inl hb), rfl, ?_⟩
        refine ⟨.int k, rfl, _, 1, rfl, rfl, .ref b, rfl, b, _, 1, 1, rfl, rfl, hb, rfl, ?_⟩
        have hb2 : (upd H b (.lst ([V.ref bl, .int k, .int n].set 1 (.int ((k : Int) + 1))))) b = some (.lst [.ref bl, .int ((k + 1 : Nat) : Int), .int n]) := by
          rw [upd_same]
          rfl
        have hbl2 : (upd H b (.lst ([V.ref bl, .int k, .int n].set 1 (.int ((k : Int) + 1))))) bl = some (.lst (ns.map V.int)) := keep_ne hbl (fun z => hne z.symm)
        have kp2 : Kp b H (upd H b (.lst ([V.ref bl, .int k, .int n].set 1 (.int ((k : Int) + 1))))) := fun c o hc hh => keep_ne hh hc
        refine ⟨fun σ H' => ∃ c : Int, σ = [some (.ref b), some (.int m), some (.int k), some (.int c), none, none, none, none] ∧ Kp b H H' ∧ H' b = some (.lst [.ref bl, .int ((k + 1 : Nat) : Int), .int n]) ∧ H' bl = some (.lst (ns.map V.int)), ?_, fun σ H2 hM => ?_⟩
        · refine ⟨.int k, rfl, .ref b, rfl, b, _, 0, .ref bl, rfl, rfl, .inl (.inl hb2), rfl, bl, _, rfl, .inl (.inl (.inl hbl2)), _, _, rfl, rfl, _, rfl, ite2 (fun e2 => ?_) (fun e2 => ?_)⟩
          · have e3 : (k : Int) < ((ns.map V.int).length : Nat) := of_decide_eq_true e2
            have e4 : k < ns.length := by
              rw [List.length_map] at e3
              omega
            refine ⟨.ref b, rfl, b, _, 0, .ref bl, rfl, rfl, .inl (.inl hb2), rfl, .int k, rfl, bl, _, _, .int ns[k], rfl, rfl, .inl (.inl hbl2), atI_nat (by rw [List.getElem?_map, List.getElem?_eq_getElem e4]; rfl), ?_⟩
            exact ⟨_, rfl, kp2, hb2, hbl2⟩
          · refine ⟨.ref b, rfl, b, _, 0, .ref bl, rfl, rfl, .inl (.inl hb2), rfl, bl, _, rfl, .inl (.inl (.inl hbl2)), _, _, rfl, rfl, _, rfl, ite2 (fun e3 => ?_) (fun e3 => ?_)⟩
            · have e4 : (0 : Int) < ((ns.map V.int).length : Nat) := of_decide_eq_true e3
              have hl0 : 0 < ns.length := by
                rw [List.length_map] at e4
                omega
              refine ⟨.ref b, rfl, b, _, 0, .ref bl, rfl, rfl, .inl (.inl hb2), rfl, .int k, rfl, _, 5, rfl, rfl, .inr ⟨by decide, by decide⟩, .ref b, rfl, b, _, 0, .ref bl, rfl, rfl, .inl (.inl hb2), rfl, bl, _, rfl, .inl (.inl (.inl hbl2)), _, _, rfl, rfl, e4, ?_⟩
              rw [List.length_map]
              have g0 : 0 ≤ ((k : Int) * 5) % (ns.length : Int) := Int.emod_nonneg _ (by omega)
              have g1 : ((k : Int) * 5) % (ns.length : Int) < (ns.length : Int) := Int.emod_lt_of_pos _ (by omega)
              have hj : (((k : Int) * 5) % (ns.length : Int)).toNat < ns.length := by omega
              refine ⟨bl, _, _, .int ns[(((k : Int) * 5) % (ns.length : Int)).toNat], rfl, rfl, .inl (.inl hbl2), L2.at_of (j := (((k : Int) * 5) % (ns.length : Int)).toNat) (by omega) (by rw [List.getElem?_map, List.getElem?_eq_getElem hj]; rfl), _, 1000003, rfl, rfl, (by show (0 : Int) < 1000003; decide), .int k, rfl, 97, _, rfl, rfl, .inl ⟨by decide, by decide⟩, _, _, rfl, rfl, ?_⟩
              exact ⟨_, rfl, kp2, hb2, hbl2⟩
            · exact ⟨_, rfl, kp2, hb2, hbl2⟩
        · obtain ⟨c, rfl, kp3, hb3, hbl3⟩ := hM
          have em : ∀ (x : Int) (d : Int), 0 < d → 0 ≤ x % d ∧ x % d < d := fun x d hd => ⟨Int.emod_nonneg _ (by omega), Int.emod_lt_of_pos _ hd⟩
          have b64 : ∀ x : Int, 0 ≤ x → x < 2147483647 → -(2 ^ 64) < x ∧ x < 2 ^ 64 := fun x h0 h1 => ⟨by omega, by omega⟩
          refine ⟨.int c, rfl, c, 2147483629, rfl, rfl, (by show (0 : Int) < 2147483629; decide), .int k, rfl, 83, _, rfl, rfl, .inl ⟨by decide, by decide⟩, _, _, rfl, rfl, _, 5, rfl, rfl, _, 48271, rfl, rfl, .inr ⟨by decide, by decide⟩, _, 998244353, rfl, rfl, (by show (0 : Int) < 998244353; decide), ?_⟩
          refine ⟨_, rfl, _, rfl, _, _, rfl, rfl, .inl (b64 _ (em _ 998244353 (by decide)).1 (Int.lt_trans (em _ 998244353 (by decide)).2 (by decide))), .int k, rfl, 69621, _, rfl, rfl, .inl ⟨by decide, by decide⟩, _, _, rfl, rfl, _, 17, rfl, rfl, _, 2147483647, rfl, rfl, (by show (0 : Int) < 2147483647; decide), ?_⟩
          refine ⟨_, rfl, _, rfl, _, _, rfl, rfl, .inl (b64 _ (em _ 2147483647 (by decide)).1 (em _ 2147483647 (by decide)).2), _, rfl, 3, _, rfl, rfl, .inl ⟨by decide, by decide⟩, _, _, rfl, rfl, _, 1, rfl, rfl, _, 1000000007, rfl, rfl, (by show (0 : Int) < 1000000007; decide), ?_⟩
          refine ⟨_, rfl, _, 1000000007, rfl, rfl, .inr ⟨by decide, by decide⟩, _, rfl, _, _, rfl, rfl, _, 4, rfl, rfl, wide_div (b := 4) (by decide) (by decide) (by decide) (by decide), _, 1, rfl, rfl, .ref b, rfl, b, _, 2, 2, rfl, rfl, hb3, rfl, ?_⟩
          refine ⟨.int c, rfl, 10, 18, rfl, rfl, ⟨by decide, by decide, by decide⟩, _, _, rfl, rfl, _, rfl, ite2 (fun e6 => ?_) (fun e6 => ?_)⟩
          · refine ⟨.int c, rfl, 10, 18, rfl, rfl, ⟨by decide, by decide, by decide⟩, _, _, rfl, rfl, wide_div (b := 60) (by decide) (by decide) (by decide) (by decide), .ref b, rfl, b, _, 2, 2, rfl, rfl, upd_same, rfl, ?_⟩
            exact ⟨_, _, _, _, _, k + 1, _, rfl, fun c o hc hh => keep_ne (keep_ne (kp3 c o hc hh) hc) hc, upd_same, keep_ne (keep_ne hbl3 (fun z => hne z.symm)) (fun z => hne z.symm)⟩
          · exact ⟨_, _, _, _, _, k + 1, _, rfl, fun c o hc hh => keep_ne (kp3 c o hc hh) hc, upd_same, keep_ne hbl3 (fun z => hne z.symm)⟩
      · exact ⟨_, _, _, _, _, k, n, rfl, Kp.rfl', hb, hbl⟩
    · obtain ⟨y2, y3, y4, y5, y6, k2, n2, rfl, kp1, hb1, hbl1⟩ := hM
      refine ⟨.ref b, rfl, b, _, 2, .int n2, rfl, rfl, .inl (.inl hb1), rfl, .int m, rfl, n2, m, rfl, rfl, h0, ?_⟩
      refine ⟨.ref b, rfl, b, _, 2, .int n2, rfl, rfl, .inl (.inl hb1), rfl, .int m, rfl, n2, m, rfl, rfl, wide_div (b := 30) h0 (by omega) (by decide) (by decide), ?_⟩
      refine ⟨.ref b, rfl, b, _, 2, 2, rfl, rfl, hb1, rfl, _, rfl, ?_⟩
      refine q _ _ ?_ ⟨ns, k2, n2 / m, hne, upd_same, keep_ne hbl1 (fun z => hne z.symm)⟩ (Int.emod_nonneg _ (by omega)) (Int.emod_lt_of_pos _ h0)
      exact fun c o hc hh => keep_ne (kp1 c o hc hh) hc

/-! ### _law_columns -/
def alpha : List Nat := [97, 98, 99, 100, 101, 102, 103, 104, 105, 106, 107, 108, 109, 110, 111, 112, 113, 114, 115, 116, 117, 118, 119, 120, 121, 122]
def spColumns (K : PySem.W.Frag) : Sp := fun vs H Q _ => ∃ (b bl : Addr) (m : Nat), vs = [.ref b, .int m] ∧ Bag b bl H ∧ 1 ≤ m ∧ m ≤ 26 ∧ ∀ (l : List Nat) (H' : Hp), Kp b H H' → Bag b bl H' → Cols l → 1 ≤ l.length → l.length ≤ m → Q (tx l) H'
theorem ok_columns (T : Tx K mg Z) : FnOk P w K mg base CX0 2 Z.f_l_columns Z.d_l_columns ["bag", "most"] (spColumns K) := by
  have G_l_lot : FnOk P w K mg base CX0 1 Z.f_l_lot Z.d_l_lot ["bag", "many"] (spLot K) := ok_lot T
  refine T.F_l_columns.ok sc_l_columns (fun vs H Q E h => ?_) (fun cdv A outer s H vs Q E hr h => ?_)
  · obtain ⟨b, bl, m, rfl, _⟩ := h
    rfl
  · obtain ⟨b, bl, m, rfl, hB, hm1, hm, q⟩ := h
    refine ⟨_, (pss_cons (ps_set (i := 2) sc_l_columns.nd rfl (.inl rfl) (pe_callTy call_list_txt (by rfl) T.m_list (by decide +kernel) (pa_cons pe_str pa_nil)))
      (pss_cons (ps_set (i := 3) sc_l_columns.nd rfl (.inl rfl) (pe_lst pa_nil))
      (pss_cons (ps_for PassesOwn.never rfl (pi_range1 (by rfl) T.m_range (pa_cons (pe_op op_add pe_int (pe_call G_l_lot (hr.mono (by omega)) (by rfl) T.g_l_lot T.F_l_lot.kp T.b_l_lot .nil pass0 (pa_cons (pv 0) (pa_cons (pv 1) pa_nil)))) pa_nil)) (pg_name (i := 4) sc_l_columns.nd rfl (.inl rfl)) (pss_one (ps_expr (bmK K PySem.F.plainAttrs_list PySem.F.slot_list_append PySem.F.type_list_append mt_append (pv 3) (pa_cons (bmK K PySem.F.plainAttrs_list PySem.F.slot_list_pop PySem.F.type_list_pop mt_popAt (pv 2) (pa_cons (pe_call G_l_lot (hr.mono (by omega)) (by rfl) T.g_l_lot T.F_l_lot.kp T.b_l_lot .nil pass0 (pa_cons (pv 0) (pa_cons (pe_callB (cLenSq K) (by rfl) T.m_len (by decide +kernel) (pa_cons (pv 2) pa_nil)) pa_nil))) pa_nil)) pa_nil)))))
      (pss_one (ps_ret (pe_join pe_str (pe_callB cr_sortedS (by rfl) T.m_sorted (by decide +kernel) (pa_cons (pv 3) pa_nil)))))))), ?_⟩
    have ea : (Str.ofString "abcdefghijklmnopqrstuvwxyz").cps.toList = alpha := by decide +kernel
    refine ⟨_, rfl, (by decide +kernel), fun L nL => ?_⟩
    rw [ea]
    refine ⟨Nat.zero_le _, fun F nF => ?_⟩
    have nFL : F ≠ L := fun e => by
      rw [e, upd_same] at nF
      cases nF
    have nF0 : H F = none := by
      rw [upd_ne nFL] at nF
      exact nF
    have nLb := hB.ne nL
    have nFb := hB.ne nF0
    have hB2 := (hB.new nL (o := .lst (alpha.map sg))).new nF (o := .lst [])
    have hL2 : (upd (upd H L (.lst (alpha.map sg))) F (.lst [])) L = some (.lst (alpha.map sg)) := keep_new upd_same nF
    have hF2 : (upd (upd H L (.lst (alpha.map sg))) F (.lst [])) F = some (.lst []) := upd_same
    have kp2 : Kp b H (upd (upd H L (.lst (alpha.map sg))) F (.lst [])) := (Kp.new Kp.rfl' nL).new nF
    generalize upd (upd H L (.lst (alpha.map sg))) F (.lst []) = H2 at hB2 hL2 hF2 kp2 ⊢
    refine ⟨.ref b, rfl, .int m, rfl, b, bl, m, rfl, hB2, by omega, by omega, fun g H3 kp3 hB3 g0 g1 => ?_⟩
    have hL3 := kp3 _ _ nLb.1 hL2
    have hF3 := kp3 _ _ nFb.1 hF2
    refine ⟨1, _, rfl, rfl, _, rfl, by omega, by omega, for_range (fun i σ H' => ∃ (ll ff : List Nat) (y : Option V), σ = [some (.ref b), some (.int m), some (.ref L), some (.ref F), y] ∧ Kp b H H' ∧ Bag b bl H' ∧ H' L = some (.lst (ll.map sg)) ∧ H' F = some (.lst (ff.map sg)) ∧ (ll ++ ff).Perm alpha ∧ ff.length = i)
      ⟨alpha, [], none, rfl, kp2.trans kp3, hB3, hL3, hF3, by rw [List.append_nil], rfl⟩ (fun i σ H' hi hP => ?_) (fun σ H' hP => ?_)⟩
    · obtain ⟨ll, ff, y, rfl, kp, hB1, hL, hF, hp, hl⟩ := hP
      have hlen : ll.length + ff.length = 26 := by
        have := hp.length_eq
        rw [List.length_append] at this
        exact this
      have hll : 0 < ll.length := by omega
      refine ⟨.ref F, rfl, .inl ⟨rfl, _, .inl (.inl hF)⟩, .ref L, rfl, .inl ⟨rfl, _, .inl (.inl hL)⟩, .ref b, rfl, .ref L, rfl, L, _, rfl, .inl (.inl (.inl hL)), b, bl, _, rfl, hB1, ?_, ?_, fun d H4 kp4 hB4 d0 d1 => ?_⟩
      · rw [List.length_map]
        omega
      · rw [List.length_map]
        omega
      · rw [List.length_map] at d1
        have hd : d.toNat < ll.length := by omega
        have hL4 : H4 L = some (.lst (ll.map sg)) := kp4 _ _ nLb.1 hL
        have hF4 : (upd H4 L (.lst ((ll.map sg).eraseIdx d.toNat))) F = some (.lst (ff.map sg)) := keep_ne (kp4 _ _ nFb.1 hF) nFL
        have hy : ll[d.toNat]? = some ll[d.toNat] := List.getElem?_eq_getElem hd
        refine ⟨L, _, d, d.toNat, sg ll[d.toNat], rfl, rfl, hL4, by omega, by omega, PySem.seqIndex_of d0 (by rw [List.length_map]; exact d1), ?_, F, _, _, rfl, rfl, hF4, ?_, ?_⟩
        · rw [List.getElem?_map, hy]
          rfl
        · rw [List.length_map]
          exact small1000 (by omega)
        · refine ⟨ll.eraseIdx d.toNat, ff ++ [ll[d.toNat]], _, rfl, ?_, ?_, ?_, ?_, (popped hy ff).trans hp, by rw [List.length_append, hl]; rfl⟩
          · exact ((kp.trans kp4).mut nL).mut nF0
          · exact (hB4.upd nLb.1 nLb.2).upd nFb.1 nFb.2
          · rw [upd_ne nFL.symm, upd_same, erase_map]
          · rw [upd_same, List.map_append]
            rfl
    · obtain ⟨ll, ff, y, rfl, kp, hB1, hL, hF, hp, hl⟩ := hP
      have hm2 : 1 ≤ ff.length ∧ ff.length ≤ m := by
        rw [hl]
        omega
      refine ⟨⟨_, rfl⟩, .ref F, rfl, F, ff.map sS, rfl, .inl (.inl (by rw [← map_sg]; exact hF)), by rw [List.length_map]; omega, fun ys p hys hso np => ?_⟩
      obtain ⟨l, rfl, pl⟩ := perm_signs hys
      have ndA : (ll ++ ff).Nodup := hp.nodup_iff.mpr (by decide)
      have ndf : ff.Nodup := (List.nodup_append.mp ndA).2.1
      have ndl : l.Nodup := pl.nodup_iff.mpr ndf
      refine ⟨_, p, _, rfl, rfl, .inl (.inl (.inl upd_same)), ?_, ?_⟩
      · rw [show (Str.ofString "").length = 0 by decide +kernel, Nat.mul_zero, Nat.add_zero, signs_len, pl.length_eq]
        exact Nat.le_of_lt (small1000 (by omega))
      · rw [join_signs]
        refine q l _ (kp.new np) (hB1.new np) ⟨strict_of (sorted_signs l hso) ndl, fun c hc => ?_⟩ (by rw [pl.length_eq]; exact hm2.1) (by rw [pl.length_eq]; exact hm2.2)
        have hc2 : c ∈ alpha := hp.mem_iff.mp (List.mem_append_right _ (pl.mem_iff.mp hc))
        have : ∀ c ∈ alpha, 97 ≤ c ∧ c ≤ 122 := by decide
        exact this c hc2
/-! ### _law_need -/
structure NOk (cols es rc : List Nat) : Prop where
  up : es.Pairwise (· < ·)
  sub : ∀ c ∈ es, c ∈ cols
  one : rc.length ≤ 1
  rsub : ∀ c ∈ rc, c ∈ cols ∧ c ∉ es
  some : es ≠ [] ∨ rc ≠ []
def needD (es rc : List Nat) : PyData := .tuple [.str (txS es), .str (txS rc)]
def spNeed (K : PySem.W.Frag) : Sp := fun vs H Q _ => ∃ (b bl : Addr) (cols : List Nat), vs = [.ref b, tx cols] ∧ Bag b bl H ∧ Cols cols ∧ 1 ≤ cols.length ∧ cols.length ≤ 26 ∧ ∀ (es rc : List Nat) (v : Addr) (H' : Hp), Kp b H H' → Bag b bl H' → H v = none → H' v = some (.tup [tx es, tx rc]) → NOk cols es rc → Q (.ref v) H'
theorem ok_need (T : Tx K mg Z) : FnOk P w K mg base CX0 2 Z.f_l_need Z.d_l_need ["bag", "columns"] (spNeed K) := by
  have G_l_lot : FnOk P w K mg base CX0 1 Z.f_l_lot Z.d_l_lot ["bag", "many"] (spLot K) := ok_lot T
  refine T.F_l_need.ok sc_l_need (fun vs H Q E h => ?_) (fun cdv A outer s H vs Q E hr h => ?_)
  · obtain ⟨b, bl, cols, rfl, _⟩ := h
    rfl
  · obtain ⟨b, bl, cols, rfl, hB, hc, hc1, hc2, q⟩ := h
    refine ⟨_, (pss_cons (ps_set (i := 2) sc_l_need.nd rfl (.inr rfl) (pe_lc (own := [("letter", 5)]) (tt := _) (by rfl) sc_l_need.nd (pi_str (pv 1)) (blkOk_by (own := [("letter", 5)]) (by kernel_rfl)) (fun _ _ _ _ _ => (pg_name (i := 5) sc_l_need.nd rfl (.inl rfl))) (fun _ _ _ _ _ => (pts_one (pt_cmpR op_eq (pe_call G_l_lot (hr.mono (by omega)) (by rfl) T.g_l_lot T.F_l_lot.kp T.b_l_lot .nil pass0 (pa_cons (pv 0) (pa_cons pe_int pa_nil))) pe_int (nomark _)))) (fun _ _ _ _ _ => (pv 5))))
      (pss_cons (ps_setLc (i := 3) (own := [("letter", 5)]) (tt := _) (by rfl) sc_l_need.nd rfl rfl (sw_true rfl rfl rfl (by decide +kernel)) (pi_str (pv 1)) (blkOk_by (own := [("letter", 5)]) (by kernel_rfl)) (fun _ _ _ _ _ => (pg_name (i := 5) sc_l_need.nd rfl (.inl rfl))) (fun _ _ _ _ _ => (pts_one (pt_cmpR (notInSq K) (pv 5) (pv 2) (by rfl)))) (fun _ _ _ _ _ => (pv 5)))
      (pss_cons (ps_set (i := 4) sc_l_need.nd rfl (.inl rfl) pe_str)
      (pss_mid (ps_if (PW.pt (pw_and (pt_cmpR (neDK K hr.units) (pv 3) (pe_lst pa_nil) (nomark _)) (pw_and1 (PW.pt (pw_or (pt_cmpR (eqDK K hr.units) (pv 2) (pe_lst pa_nil) (nomark _)) (pw_or1 (pt_cmpR op_gt (pe_call G_l_lot (hr.mono (by omega)) (by rfl) T.g_l_lot T.F_l_lot.kp T.b_l_lot .nil pass0 (pa_cons (pv 0) (pa_cons pe_int pa_nil))) pe_int (nomark _)))))))) (pss_one (ps_set (i := 4) sc_l_need.nd rfl (.inl rfl) (pe_ix (ixL K) (pv 3) (pe_call G_l_lot (hr.mono (by omega)) (by rfl) T.g_l_lot T.F_l_lot.kp T.b_l_lot .nil pass0 (pa_cons (pv 0) (pa_cons (pe_callB (cLenSq K) (by rfl) T.m_len (by decide +kernel) (pa_cons (pv 3) pa_nil)) pa_nil))) (fun _ _ => rfl)))) pss_nil)
      (pss_one (ps_ret (pe_tup (pa_cons (pe_join pe_str (pv 2)) (pa_cons (pv 4) pa_nil))))))))), ?_⟩
    refine ⟨tx cols, rfl, _, rfl, fun D nD => lc_it walk_str (fun i H' => ∃ ss : List Nat, Kp b H H' ∧ Bag b bl H' ∧ H' D = some (.lst (ss.map sg)) ∧ ss.Sublist (cols.take i))
      ⟨[], Kp.new Kp.rfl' nD, hB.new nD, upd_same, List.nil_sublist _⟩ (fun _ _ _ _ => trivial) (fun i x H4 H5 hi hP hY => ?_) (fun H4 hP => ?_)⟩
    · obtain ⟨ss, kp4, hB4, hD4, hss⟩ := hP
      obtain ⟨rfl, c, hcc, rfl⟩ := hY
      have nDb := hB.ne nD
      have hi2 : i < cols.length := by simpa using hi
      have hci : cols[i] = c := by
        have : cols[i]? = some c := by simpa using hcc
        exact (List.getElem?_eq_some_iff.mp this).2
      have htk : cols.take (i + 1) = cols.take i ++ [c] := by rw [List.take_succ_eq_append_getElem hi2, hci]
      refine ⟨rfl, .ref b, rfl, b, bl, 2, rfl, hB4, by decide, by decide, fun d H6 kp6 hB6 d0 d1 => ⟨rfl, _, rfl, ite2 (fun e => ?_) (fun e => ?_)⟩⟩
      · have hD6 := kp6 _ _ nDb.1 hD4
        refine ⟨sg c, rfl, _, hD6, ?_, ss ++ [c], (kp4.trans kp6).mut nD, hB6.upd nDb.1 nDb.2, ?_, ?_⟩
        · have := hss.length_le
          rw [List.length_take] at this
          rw [List.length_map]
          exact small1000 (by omega)
        · rw [upd_same, List.map_append]
          rfl
        · rw [htk]
          exact hss.append (List.Sublist.refl _)
      · refine ⟨ss, kp4.trans kp6, hB6, kp6 _ _ nDb.1 hD4, ?_⟩
        rw [htk]
        exact hss.trans (List.sublist_append_left _ _)
    · obtain ⟨ss, kp4, hB4, hD4, hss⟩ := hP
      have nDb := hB.ne nD
      have hn : (⟨cols.toArray⟩ : Str).cps.size = cols.length := by simp
      rw [hn, List.take_of_length_le (Nat.le_refl _)] at hss
      have hssl : ss.length ≤ 26 := Nat.le_trans hss.length_le hc2
      -- others
      refine ⟨tx cols, rfl, _, rfl, fun D2 nD2 => lc_it walk_str (fun i H' => Same H4 H' ∧ H' D2 = some (.lst (((cols.take i).filter fun c => !decide (c ∈ ss)).map sg)))
        ⟨Same.new (Same.refl H4) nD2, upd_same⟩ (fun _ _ _ _ => trivial) (fun i x H5 H6 hi hP hY => ?_) (fun H5 hP => ?_)⟩
      · obtain ⟨sm5, hD5⟩ := hP
        obtain ⟨rfl, c, hcc, rfl⟩ := hY
        have hi2 : i < cols.length := by simpa using hi
        have hci : cols[i] = c := by
          have : cols[i]? = some c := by simpa using hcc
          exact (List.getElem?_eq_some_iff.mp this).2
        refine ⟨rfl, sg c, rfl, .ref D, rfl, D, _, rfl, .inl (.inl (.inl (sm5 _ _ hD4))), rfl, flat_signs _, _, rfl, ?_⟩
        show (if (!inV (sg c) (ss.map sg)) = true then _ else _)
        rw [inV_signs]
        refine ite2 (fun e5 => ?_) (fun e5 => ?_)
        · refine ⟨sg c, rfl, _, hD5, ?_, Same.mut sm5 nD2, ?_⟩
          · rw [List.length_map]
            have := List.length_filter_le (fun c => !decide (c ∈ ss)) (cols.take i)
            rw [List.length_take] at this
            exact small1000 (by omega)
          · rw [upd_same, List.take_succ_eq_append_getElem hi2, hci, List.filter_append, List.filter_cons, if_pos e5, List.map_append]
            rfl
        · refine ⟨sm5, ?_⟩
          rw [hD5, List.take_succ_eq_append_getElem hi2, hci, List.filter_append, List.filter_cons, if_neg e5, List.filter_nil, List.append_nil]
      · obtain ⟨sm5, hD5⟩ := hP
        rw [hn, List.take_of_length_le (Nat.le_refl _)] at hD5
        generalize hll : (cols.filter fun c => !decide (c ∈ ss)) = ll at hD5
        have hlm : ∀ c ∈ ll, c ∈ cols ∧ c ∉ ss := fun c h => by
          rw [← hll] at h
          obtain ⟨h1, h2⟩ := List.mem_filter.mp h
          exact ⟨h1, by simpa using h2⟩
        have hllen : ll.length ≤ 26 := by
          rw [← hll]
          exact Nat.le_trans (List.length_filter_le _ _) hc2
        have kp5 : Kp b H H5 := kp4.trans (Same.kp sm5)
        have hB5 := hB4.same sm5
        have nD2b := hB4.ne nD2
        have hD5s := sm5 _ _ hD4
        have hup : ss.Pairwise (· < ·) := hc.up.sublist hss
        have hsub : ∀ c ∈ ss, c ∈ cols := fun c h => hss.subset h
        -- reach
        refine ⟨fun σ H' => ∃ (rc : List Nat), σ = [some (.ref b), some (tx cols), some (.ref D), some (.ref D2), some (tx rc), none] ∧ Kp b H H' ∧ Bag b bl H' ∧ H' D = some (.lst (ss.map sg)) ∧ NOk cols ss rc, ?_, fun σ H6 hM => ?_⟩
        · refine ⟨.ref D2, rfl, (by show 0 ≤ sizeLine; decide), fun p np => ?_⟩
          have smA : Same H5 (upd H5 p (.lst [])) := Same.new (Same.refl H5) np
          have hpA : (upd H5 p (.lst [])) p = some (.lst []) := upd_same
          generalize upd H5 p (.lst []) = HA at smA hpA ⊢
          have hD2A := smA _ _ hD5
          have hDA := smA _ _ hD5s
          have hBA := hB5.same smA
          have kpA : Kp b H HA := kp5.trans (Same.kp smA)
          refine ⟨_, _, .lst (.inl (.inl hD2A)) (dp_signs ll), .lst (.inl (.inl hpA)) .nil, shaped_signs (fun c h => (hc.az c (hlm c h).1).2), rfl, _, rfl, ite2 (fun e => ?_) (fun e => ?_)⟩
          · have lne : ll ≠ [] := fun z => by
              rw [z] at e
              exact absurd e (by decide)
            have lpos : 0 < ll.length := List.length_pos_iff.mpr lne
            have draw : ∀ (HX : Hp), Kp b H HX → Bag b bl HX → HX D2 = some (.lst (ll.map sg)) → HX D = some (.lst (ss.map sg)) → tAsg (tOp (rIxL K) (tVar 3) (tCall (spLot K) [] E0 (tCons (tVar 0) (tCons (tCB (rLenSq K) (tCons (tVar 3) tNil)) tNil)))) (gName 4) { nx := fun σ H' => ∃ (rc : List Nat), σ = [some (.ref b), some (tx cols), some (.ref D), some (.ref D2), some (tx rc), none] ∧ Kp b H H' ∧ Bag b bl H' ∧ H' D = some (.lst (ss.map sg)) ∧ NOk cols ss rc, rt := Q } [some (.ref b), some (tx cols), some (.ref D), some (.ref D2), some (tx []), none] HX := by
              intro HX kpX hBX hD2X hDX
              refine ⟨.ref D2, rfl, .ref b, rfl, .ref D2, rfl, D2, _, rfl, .inl (.inl (.inl hD2X)), b, bl, _, rfl, hBX, by rw [List.length_map]; omega, by rw [List.length_map]; omega, fun f HY kpY hBY f0 f1 => ?_⟩
              rw [List.length_map] at f1
              have hf : f.toNat < ll.length := by omega
              have hcm := hlm ll[f.toNat] (List.getElem_mem hf)
              generalize hcc : ll[f.toNat] = cc at hcm
              refine ⟨D2, ll.map sg, f, sg cc, rfl, rfl, .inl (.inl (kpY _ _ nD2b.1 hD2X)), L2.at_of (j := f.toNat) (by omega) (by rw [List.getElem?_map, List.getElem?_eq_getElem hf, hcc]; rfl), ?_⟩
              exact ⟨[cc], rfl, kpX.trans kpY, hBY, kpY _ _ nDb.1 hDX, hup, hsub, Nat.le_refl _, fun c h => by rw [List.mem_singleton.mp h]; exact hcm, .inr (by simp)⟩
            refine ⟨.ref D, rfl, (by show 0 ≤ sizeLine; decide), fun p2 np2 => ?_⟩
            have smB : Same HA (upd HA p2 (.lst [])) := Same.new (Same.refl HA) np2
            have hpB : (upd HA p2 (.lst [])) p2 = some (.lst []) := upd_same
            generalize upd HA p2 (.lst []) = HB at smB hpB ⊢
            have hDB := smB _ _ hDA
            refine ⟨_, _, .lst (.inl (.inl hDB)) (dp_signs ss), .lst (.inl (.inl hpB)) .nil, shaped_signs (fun c h => (hc.az c (hsub c h)).2), rfl, _, rfl, ite2 (fun e2 => ?_) (fun e2 => ?_)⟩
            · exact draw HB (kpA.trans (Same.kp smB)) (hBA.same smB) (smB _ _ hD2A) hDB
            · have sne : ss ≠ [] := fun z => by
                rw [z] at e2
                exact e2 rfl
              refine ⟨.ref b, rfl, b, bl, 3, rfl, hBA.same smB, by decide, by decide, fun d HC kpC hBC d0 d1 => ⟨_, _, rfl, rfl, _, rfl, ite2 (fun e3 => ?_) (fun e3 => ?_)⟩⟩
              · exact draw HC ((kpA.trans (Same.kp smB)).trans kpC) hBC (kpC _ _ nD2b.1 (smB _ _ hD2A)) (kpC _ _ nDb.1 hDB)
              · exact ⟨[], rfl, (kpA.trans (Same.kp smB)).trans kpC, hBC, kpC _ _ nDb.1 hDB, hup, hsub, Nat.zero_le _, (fun c h => nomatch h), .inl sne⟩
          · refine ⟨[], rfl, kpA, hBA, hDA, hup, hsub, Nat.zero_le _, (fun c h => nomatch h), .inl fun z => ?_⟩
            have e0 : ll = [] := by
              cases ll with
              | nil => rfl
              | cons x l => exact absurd rfl e
            rw [e0, z] at hll
            have : cols = [] := List.eq_nil_iff_forall_not_mem.mpr (by simpa using hll)
            rw [this] at hc1
            exact absurd hc1 (by decide)
        · obtain ⟨rc, rfl, kp6, hB6, hD6, hok⟩ := hM
          refine ⟨⟨_, rfl⟩, .ref D, rfl, _, D, ss.map sS, rfl, rfl, .inl (.inl (.inl (by rw [← map_sg]; exact hD6))), ?_, ?_⟩
          · rw [show (Str.ofString "").length = 0 by decide +kernel, Nat.mul_zero, Nat.add_zero, signs_len]
            exact Nat.le_of_lt (small1000 (by omega))
          · rw [join_signs]
            refine ⟨tx rc, rfl, (by show 2 ≤ sizeLine; decide), fun v nv => ?_⟩
            exact q ss rc v _ (kp6.new nv) (hB6.new nv) (Kp.none kp6 (hB6.ne nv).1 nv) upd_same hok

/-! ### is_rising of a text -/
def spRisT (K : PySem.W.Frag) (Z : Ad) : Sp := fun vs H Q _ => ∃ (l : List Nat), vs = [tx l] ∧ TG Z.Ps H ∧ l.length ≤ 1000 ∧ ∀ (H' : Hp), Sx Z.Ps H H' → TG Z.Ps H' → Q (.bl (risB l)) H'
theorem ok_rist (T : Tx K mg Z) (TB : Tb base mg Z) : FnOk P w K mg base CX0 4 Z.f_is_rising Z.d_is_rising ["things"] (spRisT K Z) := by
  refine T.C_is_rising.ok sc_is_rising (fun vs H Q E h => ?_) (fun A outer s H vs Q E hr h => ?_)
  · obtain ⟨l, rfl, _⟩ := h
    rfl
  · obtain ⟨l, rfl, tg, hl, q⟩ := h
    refine ⟨_, (pss_one (ps_ret (pe_allC (own := [("at", 1)]) (k := 0) (hr.mono (by omega)) (by rfl) T.m_all (TB.t_is_rising) rfl (gxS_by (blkOk_by (own := [("at", 1)]) (by kernel_rfl)) (by kernel_rfl)) sc_is_rising.nd (by rfl) (pi_range1 (by rfl) T.m_range (pa_cons (pe_op op_sub (pe_callB call_len_str (by rfl) T.m_len (by decide +kernel) (pa_cons (pv 0) pa_nil)) pe_int) pa_nil)) (fun _ _ _ _ _ _ _ _ => (pg_name (i := 1) sc_is_rising.nd rfl (.inl rfl))) (fun _ _ _ _ _ _ _ _ hr => (pe_cmpR op_lt_str (pe_ix ix_str (pv 0) (pv 1) (fun _ _ => rfl)) (pe_ix ix_str (pv 0) (pe_op op_add (pv 1) pe_int) (fun _ _ => rfl)) (nomark _)))))), ?_⟩
    have hP : Z.P_is_rising ∈ Z.Ps := by simp
    have hsz : (⟨l.toArray⟩ : Str).length = l.length := by simp [Str.length]
    have hlz : (⟨l.toArray⟩ : Str).length ≤ sizeLine := Nat.le_of_lt (small1000 (show l.length ≤ 1000 from hl))
    have ecs : (⟨l.toArray⟩ : Str).cps.toList = l := by simp
    refine ⟨tx l, rfl, _, rfl, hlz, _, 1, rfl, rfl, _, rfl, by rw [hsz]; omega, by rw [hsz]; omega, tg _ hP, fun H2 hT => ?_⟩
    have tg2 := Tabbed.tg tg hT
    have sx2 := Tabbed.sx hP hT
    have eN : ((((⟨l.toArray⟩ : Str).length : Nat) : Int) - 1).toNat = l.length - 1 := by
      rw [hsz]
      omega
    refine ⟨((((⟨l.toArray⟩ : Str).length : Nat) : Int) - 1).toNat, fun i => decide (l.getD i 0 < l.getD (i + 1) 0), fun i H' => i ≤ ((((⟨l.toArray⟩ : Str).length : Nat) : Int) - 1).toNat ∧ H' = H2, ⟨Nat.zero_le _, rfl⟩, gx_step walk_range (fun _ _ _ _ => trivial) (fun i x H3 H4 hi e hY => ?_), fun H3 e hall => ?_, fun j H3 hj hs hal e => ?_⟩
    · obtain ⟨rfl, rfl⟩ := hY
      have g1 : l[i]? = some (l.getD i 0) := by
        rw [List.getD_eq_getElem?_getD, List.getElem?_eq_getElem (by omega)]
        rfl
      have g2 : l[i + 1]? = some (l.getD (i + 1) 0) := by
        rw [List.getD_eq_getElem?_getD, List.getElem?_eq_getElem (by omega)]
        rfl
      refine ⟨rfl, tx l, rfl, .int (0 + (i : Nat)), rfl, _, _, l.getD i 0, rfl, rfl, hlz, ?_, tx l, rfl, .int (0 + (i : Nat)), rfl, _, 1, rfl, rfl, _, _, l.getD (i + 1) 0, rfl, rfl, hlz, ?_, sS (l.getD i 0), sS (l.getD (i + 1) 0), rfl, rfl, ?_, hi, e⟩
      · rw [Int.zero_add, ecs]
        exact atI_nat g1
      · rw [Int.zero_add, show ((i : Nat) : Int) + 1 = ((i + 1 : Nat) : Int) from rfl, ecs]
        exact atI_nat g2
      · rw [cps_lt]
    · have hq : risB l = true := (ris_get l).mpr fun i hi => of_decide_eq_true (hall i (by omega))
      rw [hq] at q
      rw [e.2]
      exact q H2 sx2 tg2
    · have hq : risB l = false := by
        refine eq_false_of_ne_true fun z => ?_
        exact absurd ((ris_get l).mp z j (by omega)) (of_decide_eq_false hs)
      rw [hq] at q
      rw [e.2]
      exact q H2 sx2 tg2

/-! ### is_list -/
def spIsList (K : PySem.W.Frag) (Z : Ad) : Sp := fun vs H Q _ => ∃ (cols : List Nat) (v : V) (d : PyData), vs = [tx cols, v] ∧ TG Z.Ps H ∧ Ft H v d ∧ Sh 20 1000 d ∧ ∀ (H' : Hp), Sx Z.Ps H H' → TG Z.Ps H' → Q (.bl (isListD cols d)) H'
theorem ok_islist (T : Tx K mg Z) (TB : Tb base mg Z) : FnOk P w K mg base CX0 4 Z.f_is_list Z.d_is_list ["columns", "thing"] (spIsList K Z) := by
  refine T.C_is_list.ok sc_is_list (fun vs H Q E h => ?_) (fun A outer s H vs Q E hr h => ?_)
  · obtain ⟨cols, v, d, rfl, _⟩ := h
    rfl
  · obtain ⟨cols, v, d, rfl, tg, f, hsh, q⟩ := h
    refine ⟨_, (pss_cons (ps_if (PW.pt (pw_or (pt_not (pt_val (pe_callB (isiK K) (by rfl) T.m_isinstance (by decide +kernel) (pa_cons (pv 1) (pa_cons (pe_bltn (v := .ty "str") (by rfl) T.m_str (by decide +kernel) rfl) pa_nil))))) (pw_or1 (pt_cmpR op_eq (pv 1) pe_str (nomark _))))) (pss_one (ps_ret pe_bl)) pss_nil)
      (pss_one (ps_ret (pe_and (pe_cmpR op_eq (pe_lenSet (by rfl) (by rfl) T.m_len (by rfl) T.m_set (pv 1)) (pe_callB call_len_str (by rfl) T.m_len (by decide +kernel) (pa_cons (pv 1) pa_nil)) (nomark _)) (pe_one (pe_allC (own := [("letter", 2)]) (k := 0) (hr.mono (by omega)) (by rfl) T.m_all (TB.t_is_list) rfl (gxS_by (blkOk_by (own := [("letter", 2)]) (by kernel_rfl)) (by kernel_rfl)) sc_is_list.nd (by rfl) (pi_str (pv 1)) (fun _ _ _ _ _ _ _ _ => (pg_name (i := 2) sc_is_list.nd rfl (.inl rfl))) (fun _ _ _ _ _ _ _ _ hr => (pe_cmpR op_in_sign (pv 2) (pv 0) (by rfl))))))))), ?_⟩
    have hP : Z.P_is_list ∈ Z.Ps := by simp
    refine ⟨v, rfl, v, .ty "str", _, _, isSt d, rfl, .ty _, ty_ft f, kit_st d, _, rfl, ite2 (fun e => ?_) (fun e => ?_)⟩
    · have hq : isListD cols d = false := by
        cases d with
        | str z => cases e
        | _ => rfl
      rw [hq] at q
      exact iteT (q H (fun _ _ _ h => h) tg)
    · obtain ⟨z, rfl⟩ := st_open (d := d) (by simpa using e)
      cases f
      obtain ⟨l, rfl⟩ : ∃ l : List Nat, z = txS l := ⟨z.cps.toList, (txS_of z).symm⟩
      rw [list_of_str] at q
      have hl : l.length ≤ 1000 := by
        have h1 : l.toArray.size ≤ 1000 := hsh.wt
        simpa using h1
      refine ⟨tx l, rfl, rfl, _, rfl, ite2 (fun e2 => ?_) (fun e2 => ?_)⟩
      · have e3 : tx l = .str (Str.ofString "") := of_decide_eq_true e2
        have e4 : (Str.ofString "") = txS [] := by decide +kernel
        rw [e4] at e3
        have e5 : l = [] := tx_inj e3
        rw [e5] at q
        exact q H (fun _ _ _ h => h) tg
      · have hne : l ≠ [] := fun z2 => e2 (by
          rw [z2]
          exact decide_eq_true (congrArg V.str (by decide +kernel)))
        have he : (!l.isEmpty) = true := by
          cases l with
          | nil => exact absurd rfl hne
          | cons a l => rfl
        have hq : isListL cols l = (decide l.Nodup && l.all fun c => decide (c ∈ cols)) := by
          unfold isListL
          rw [he, Bool.true_and]
        rw [hq] at q
        have hsz : (⟨l.toArray⟩ : Str).length = l.length := by simp [Str.length]
        refine ⟨tx l, rfl, l, rfl, hl, fun n hn1 hn2 => ?_⟩
        refine ⟨tx l, rfl, _, rfl, Nat.le_of_lt (small1000 (show l.length ≤ 1000 from hl)), rfl, _, rfl, ite2 (fun e3 => ?_) (fun e3 => ?_)⟩
        · have e4 : V.int ((n : Nat) : Int) = V.int (((⟨l.toArray⟩ : Str).length : Nat) : Int) := of_decide_eq_true e3
          rw [hsz] at e4
          have e5 : ((n : Nat) : Int) = (l.length : Int) := by injection e4
          have hnd : l.Nodup := hn2.mp (by omega)
          rw [decide_eq_true hnd, Bool.true_and] at q
          refine ⟨tx l, rfl, _, rfl, tg _ hP, fun H2 hT => ?_⟩
          have tg2 := Tabbed.tg tg hT
          have sx2 := Tabbed.sx hP hT
          have hcs : (⟨l.toArray⟩ : Str).cps.size = l.length := by simp
          refine ⟨(⟨l.toArray⟩ : Str).cps.size, fun i => decide (l.getD i 0 ∈ cols), fun i H' => i ≤ (⟨l.toArray⟩ : Str).cps.size ∧ H' = H2, ⟨Nat.zero_le _, rfl⟩, gx_step walk_str (fun _ _ _ _ => trivial) (fun i x H3 H4 hi e hY => ?_), fun H3 e hall => ?_, fun j H3 hj hs hal e => ?_⟩
          · obtain ⟨rfl, c, hc, rfl⟩ := hY
            have hc2 : l[i]? = some c := by simpa using hc
            refine ⟨rfl, sg c, rfl, tx cols, rfl, c, ⟨cols.toArray⟩, rfl, rfl, ?_, hi, e⟩
            simp only [show (⟨cols.toArray⟩ : Str).cps.toList = cols by simp, List.getD_eq_getElem?_getD, hc2]
            rfl
          · obtain ⟨_, rfl⟩ := e
            have hq2 : (l.all fun c => decide (c ∈ cols)) = true := by
              rw [List.all_eq_true]
              intro c hc
              obtain ⟨i, hi, rfl⟩ := List.getElem_of_mem hc
              have := hall i (by rw [hcs]; exact hi)
              simp only [List.getD_eq_getElem?_getD, List.getElem?_eq_getElem hi] at this
              exact this
            rw [hq2] at q
            exact q _ sx2 tg2
          · obtain ⟨_, rfl⟩ := e
            have hj2 : j < l.length := by
              rw [hcs] at hj
              exact hj
            have hq2 : (l.all fun c => decide (c ∈ cols)) = false := by
              refine eq_false_of_ne_true fun z => ?_
              have h1 := List.all_eq_true.mp z l[j] (List.getElem_mem hj2)
              simp only [List.getD_eq_getElem?_getD, List.getElem?_eq_getElem hj2] at hs
              rw [show decide (l[j] ∈ cols) = false from hs] at h1
              cases h1
            rw [hq2] at q
            exact q _ sx2 tg2
        · have hnd : ¬ l.Nodup := fun z => e3 (decide_eq_true (by
            rw [hsz, hn2.mpr z]))
          rw [decide_eq_false hnd, Bool.false_and] at q
          exact q H (fun _ _ _ h => h) tg

/-! ### is_need -/
def spIsNeed (K : PySem.W.Frag) (Z : Ad) : Sp := fun vs H Q _ => ∃ (cols : List Nat) (v : V) (d : PyData), vs = [tx cols, v] ∧ TG Z.Ps H ∧ Ft H v d ∧ Sh 20 400 d ∧ ∀ (H' : Hp), Sx Z.Ps H H' → TG Z.Ps H' → Q (.bl (isNeedD cols d)) H'
theorem ok_isneed (T : Tx K mg Z) (TB : Tb base mg Z) : FnOk P w K mg base CX0 5 Z.f_is_need Z.d_is_need ["columns", "thing"] (spIsNeed K Z) := by
  have G_is_rising : FnOk P w K mg base CX0 4 Z.f_is_rising Z.d_is_rising ["things"] (spRisT K Z) := ok_rist T TB
  have G_is_list : FnOk P w K mg base CX0 4 Z.f_is_list Z.d_is_list ["columns", "thing"] (spIsList K Z) := ok_islist T TB
  refine T.F_is_need.ok sc_is_need (fun vs H Q E h => ?_) (fun cdv A outer s H vs Q E hr h => ?_)
  · obtain ⟨cols, v, d, rfl, _⟩ := h
    rfl
  · obtain ⟨cols, v, d, rfl, tg, f, hsh, q⟩ := h
    refine ⟨_, (pss_cons (ps_if (PW.pt (pw_or (pt_not (pt_val (pe_callB (isiK K) (by rfl) T.m_isinstance (by decide +kernel) (pa_cons (pv 1) (pa_cons (pe_bltn (v := .ty "tuple") (by rfl) T.m_tuple (by decide +kernel) rfl) pa_nil))))) (pw_or1 (pt_cmpR op_ne (pe_callB (cLenSq K) (by rfl) T.m_len (by decide +kernel) (pa_cons (pv 1) pa_nil)) pe_int (nomark _))))) (pss_one (ps_ret pe_bl)) pss_nil)
      (pss_cons (ps_asg (pv 1) (pgT K (n := 2) (pgs_cons (pg_name (i := 2) sc_is_need.nd rfl (.inl rfl)) (pgs_cons (pg_name (i := 3) sc_is_need.nd rfl (.inl rfl)) pgs_nil))))
      (pss_cons (ps_if (PW.pt (pw_or (pt_not (pt_val (pe_callB (isiK K) (by rfl) T.m_isinstance (by decide +kernel) (pa_cons (pv 2) (pa_cons (pe_bltn (v := .ty "str") (by rfl) T.m_str (by decide +kernel) rfl) pa_nil))))) (pw_or1 (pt_not (pt_val (pe_callB (isiK K) (by rfl) T.m_isinstance (by decide +kernel) (pa_cons (pv 3) (pa_cons (pe_bltn (v := .ty "str") (by rfl) T.m_str (by decide +kernel) rfl) pa_nil)))))))) (pss_one (ps_ret pe_bl)) pss_nil)
      (pss_one (ps_ret (pe_and (pe_call G_is_rising (hr.mono (by omega)) (by rfl) T.g_is_rising T.F_is_rising.kp T.b_is_rising .nil pass0 (pa_cons (pv 2) pa_nil)) (pe_and (pe_cmpR op_le (pe_callB call_len_str (by rfl) T.m_len (by decide +kernel) (pa_cons (pv 3) pa_nil)) pe_int (nomark _)) (pe_one (pe_call G_is_list (hr.mono (by omega)) (by rfl) T.g_is_list T.F_is_list.kp T.b_is_list .nil pass0 (pa_cons (pv 0) (pa_cons (pe_op op_add_str (pv 2) (pv 3)) pa_nil))))))))))), ?_⟩
    refine ⟨v, rfl, v, .ty "tuple", _, _, isTp d, rfl, .ty _, ty_ft f, kit_tp d, _, rfl, ite2 (fun e => ?_) (fun e => ?_)⟩
    · have hq : isNeedD cols d = false := by
        cases d with
        | tuple ds => cases e
        | _ => rfl
      rw [hq] at q
      exact iteT (q H (fun _ _ _ h => h) tg)
    · obtain ⟨ds, rfl⟩ := tp_open (by simpa using e)
      obtain ⟨a, xs, rfl, ha, fa⟩ : ∃ (a : Addr) (xs : List V), v = .ref a ∧ H a = some (.tup xs) ∧ FtA H xs ds := by
        cases f with
        | tup h g => exact ⟨_, _, rfl, h, g⟩
      have hl := fa.len
      refine ⟨.ref a, rfl, a, xs, rfl, .inr (.inl (.inl ha)), rfl, _, rfl, ite2 (fun e2 => ?_) (fun e2 => ?_)⟩
      · have hq : isNeedD cols (.tuple ds) = false := by
          match ds, hl with
          | [], _ => rfl
          | [x], _ =>
            cases x <;> rfl
          | [a1, a2], hl =>
            rw [hl] at e2
            exact absurd e2 (by simp)
          | x :: y :: _ :: _, _ =>
            cases x <;> first | rfl | (cases y <;> rfl)
        rw [hq] at q
        exact q H (fun _ _ _ h => h) tg
      · have hl2 : ds.length = 2 := by
          have e3 : V.int ((xs.length : Nat) : Int) = V.int 2 := by simpa using e2
          have e4 : ((xs.length : Nat) : Int) = 2 := by injection e3
          omega
        match ds, hl2 with
        | [d1, d2], _ =>
          obtain ⟨x1, x2, rfl, f1, f2⟩ : ∃ x1 x2, xs = [x1, x2] ∧ Ft H x1 d1 ∧ Ft H x2 d2 := by
            cases fa with
            | cons g1 g =>
              cases g with
              | cons g2 g =>
                cases g
                exact ⟨_, _, rfl, g1, g2⟩
          have s1 := hsh.memT d1 (by simp)
          have s2 := hsh.memT d2 (by simp)
          refine ⟨.ref a, rfl, a, [x1, x2], rfl, .inl (.inl ha), rfl, x1, [x2], rfl, x2, [], rfl, rfl, ?_⟩
          refine ⟨x1, rfl, x1, .ty "str", _, _, isSt d1, rfl, .ty _, ty_ft f1, kit_st d1, _, rfl, ite2 (fun e3 => ?_) (fun e3 => ?_)⟩
          · rw [need_l (by simpa using e3)] at q
            exact iteT (q H (fun _ _ _ h => h) tg)
          · refine ⟨x2, rfl, x2, .ty "str", _, _, isSt d2, rfl, .ty _, ty_ft f2, kit_st d2, _, rfl, ite2 (fun e4 => ?_) (fun e4 => ?_)⟩
            · rw [need_r (by simpa using e4)] at q
              exact q H (fun _ _ _ h => h) tg
            · obtain ⟨z1, rfl⟩ := st_open (d := d1) (by simpa using e3)
              obtain ⟨z2, rfl⟩ := st_open (d := d2) (by simpa using e4)
              cases f1
              cases f2
              obtain ⟨le, rfl⟩ : ∃ l : List Nat, z1 = txS l := ⟨z1.cps.toList, (txS_of z1).symm⟩
              obtain ⟨lr, rfl⟩ : ∃ l : List Nat, z2 = txS l := ⟨z2.cps.toList, (txS_of z2).symm⟩
              rw [need_of_str] at q
              have hle : le.length ≤ 400 := by
                have h1 : le.toArray.size ≤ 400 := s1.wt
                simpa using h1
              have hlr : lr.length ≤ 400 := by
                have h1 : lr.toArray.size ≤ 400 := s2.wt
                simpa using h1
              have esz : (⟨le.toArray⟩ : Str).length = le.length := by simp [Str.length]
              have rsz : (⟨lr.toArray⟩ : Str).length = lr.length := by simp [Str.length]
              refine ⟨tx le, rfl, le, rfl, tg, by omega, fun H2 sx2 tg2 => ?_⟩
              refine ⟨_, rfl, ite2 (fun e5 => ?_) (fun e5 => ?_)⟩
              · refine ⟨tx lr, rfl, _, rfl, Nat.le_of_lt (small1000 (show lr.length ≤ 1000 by omega)), _, 1, rfl, rfl, _, rfl, ite2 (fun e6 => ?_) (fun e6 => ?_)⟩
                · have e7 : lr.length ≤ 1 := by
                    have := of_decide_eq_true e6
                    rw [rsz] at this
                    omega
                  refine ⟨tx cols, rfl, tx le, rfl, tx lr, rfl, ⟨le.toArray⟩, ⟨lr.toArray⟩, rfl, rfl, by rw [esz, rsz]; exact Nat.le_of_lt (small1000 (by omega)), ?_⟩
                  rw [cat_tx le lr]
                  refine ⟨cols, tx (le ++ lr), .str (txS (le ++ lr)), rfl, tg2, .str _, ?_, fun H3 sx3 tg3 => ?_⟩
                  · exact (Sh.cat s1 s2).mono (by omega) (by omega)
                  · rw [list_of_str]
                    have hq : needL cols le lr = isListL cols (le ++ lr) := by
                      unfold needL
                      rw [e5, decide_eq_true e7, Bool.true_and, Bool.true_and]
                    rw [hq] at q
                    exact q H3 (fun b o nb h => sx3 b o nb (sx2 b o nb h)) tg3
                · have hq : needL cols le lr = false := by
                    have e7 : ¬ lr.length ≤ 1 := fun z => e6 (decide_eq_true (by rw [rsz]; omega))
                    unfold needL
                    rw [decide_eq_false e7, Bool.false_and, Bool.and_false]
                  rw [hq] at q
                  exact q H2 sx2 tg2
              · have hq : needL cols le lr = false := by
                  unfold needL
                  rw [eq_false_of_ne_true e5, Bool.false_and]
                rw [hq] at q
                exact q H2 sx2 tg2

/-! ### _law_due -/
def spLdue (K : PySem.W.Frag) : Sp := fun vs H Q _ => ∃ (cols : List Nat) (v : V) (d : PyData), vs = [tx cols, v] ∧ cols.length ≤ 60 ∧ Ft H v d ∧ Sh 20 400 d ∧ ∀ (H' : Hp), Same H H' → Q (.bl (isNeedD cols d)) H'
theorem ok_ldue (T : Tx K mg Z) : FnOk P w K mg base CX0 1 Z.f_l_due Z.d_l_due ["columns", "thing"] (spLdue K) := by
  refine T.F_l_due.ok sc_l_due (fun vs H Q E h => ?_) (fun cdv A outer s H vs Q E hr h => ?_)
  · obtain ⟨cols, v, d, rfl, _⟩ := h
    rfl
  · obtain ⟨cols, v, d, rfl, hcl, f, hsh, q⟩ := h
    refine ⟨_, (pss_cons (ps_if (PW.pt (pw_or (pt_not (pt_val (pe_callB (isiK K) (by rfl) T.m_isinstance (by decide +kernel) (pa_cons (pv 1) (pa_cons (pe_bltn (v := .ty "tuple") (by rfl) T.m_tuple (by decide +kernel) rfl) pa_nil))))) (pw_or1 (pt_cmpR op_ne (pe_callB (cLenSq K) (by rfl) T.m_len (by decide +kernel) (pa_cons (pv 1) pa_nil)) pe_int (nomark _))))) (pss_one (ps_ret pe_bl)) pss_nil)
      (pss_cons (ps_if (PW.pt (pw_or (pt_not (pt_val (pe_callB (isiK K) (by rfl) T.m_isinstance (by decide +kernel) (pa_cons (pe_ix (ixT K) (pv 1) pe_int (fun _ _ => rfl)) (pa_cons (pe_bltn (v := .ty "str") (by rfl) T.m_str (by decide +kernel) rfl) pa_nil))))) (pw_or (pt_not (pt_val (pe_callB (isiK K) (by rfl) T.m_isinstance (by decide +kernel) (pa_cons (pe_ix (ixT K) (pv 1) pe_int (fun _ _ => rfl)) (pa_cons (pe_bltn (v := .ty "str") (by rfl) T.m_str (by decide +kernel) rfl) pa_nil))))) (pw_or1 (pt_cmpR (eqDK K hr.units) (pv 1) (pe_tup (pa_cons pe_str (pa_cons pe_str pa_nil))) (nomark _)))))) (pss_one (ps_ret pe_bl)) pss_nil)
      (pss_cons (ps_set (i := 2) sc_l_due.nd rfl (.inl rfl) (pe_callTy call_list_txt (by rfl) T.m_list (by decide +kernel) (pa_cons (pe_ix (ixT K) (pv 1) pe_int (fun _ _ => rfl)) pa_nil)))
      (pss_cons (ps_if (pt_cmpR (neDK K hr.units) (pe_lc (own := [("letter", 3)]) (tt := _) (by rfl) sc_l_due.nd (piL K (pe_op op_cat (pv 2) (pe_callTy call_list_txt (by rfl) T.m_list (by decide +kernel) (pa_cons (pe_ix (ixT K) (pv 1) pe_int (fun _ _ => rfl)) pa_nil)))) (blkOk_by (own := [("letter", 3)]) (by kernel_rfl)) (fun _ _ _ _ _ => (pg_name (i := 3) sc_l_due.nd rfl (.inl rfl))) (fun _ _ _ _ _ => (pts_one (pt_cmpR (notInSq K) (pv 3) (pe_callTy call_list_txt (by rfl) T.m_list (by decide +kernel) (pa_cons (pv 0) pa_nil)) (by rfl)))) (fun _ _ _ _ _ => (pv 3))) (pe_lst pa_nil) (nomark _)) (pss_one (ps_ret pe_bl)) pss_nil)
      (pss_cons (ps_if (pt_cmpR (neDK K hr.units) (pv 2) (pe_callB (cSortSet w) (by rfl) T.m_sorted (by decide +kernel) (pa_cons (pe_callTy (cSetL K w) (by rfl) T.m_set (by decide +kernel) (pa_cons (pv 2) pa_nil)) pa_nil)) (nomark _)) (pss_one (ps_ret pe_bl)) pss_nil)
      (pss_one (ps_ret (pe_and (pe_cmpR op_lt (pe_callB call_len_str (by rfl) T.m_len (by decide +kernel) (pa_cons (pe_ix (ixT K) (pv 1) pe_int (fun _ _ => rfl)) pa_nil)) pe_int (nomark _)) (pe_one (pe_or (pe_cmpR op_eq (pe_ix (ixT K) (pv 1) pe_int (fun _ _ => rfl)) pe_str (nomark _)) (pe_one (pe_cmpR (notInSq K) (pe_ix (ixT K) (pv 1) pe_int (fun _ _ => rfl)) (pv 2) (by rfl))))))))))))), ?_⟩
    refine ⟨v, rfl, v, .ty "tuple", _, _, isTp d, rfl, .ty _, ty_ft f, kit_tp d, _, rfl, ite2 (fun e => ?_) (fun e => ?_)⟩
    · have hq : isNeedD cols d = false := by
        cases d with
        | tuple ds => cases e
        | _ => rfl
      rw [hq] at q
      exact iteT (q H (Same.refl H))
    · obtain ⟨ds, rfl⟩ := tp_open (by simpa using e)
      have f0 := f
      obtain ⟨a, xs, rfl, ha, fa⟩ : ∃ (a : Addr) (xs : List V), v = .ref a ∧ H a = some (.tup xs) ∧ FtA H xs ds := by
        cases f with
        | tup h g => exact ⟨_, _, rfl, h, g⟩
      have hl := fa.len
      refine ⟨.ref a, rfl, a, xs, rfl, .inr (.inl (.inl ha)), rfl, _, rfl, ite2 (fun e2 => ?_) (fun e2 => ?_)⟩
      · have hq : isNeedD cols (.tuple ds) = false := by
          match ds, hl with
          | [], _ => rfl
          | [x], _ =>
            cases x <;> rfl
          | [a1, a2], hl =>
            rw [hl] at e2
            exact absurd e2 (by simp)
          | x :: y :: _ :: _, _ =>
            cases x <;> first | rfl | (cases y <;> rfl)
        rw [hq] at q
        exact q H (Same.refl H)
      · have hl2 : ds.length = 2 := by
          have e3 : V.int ((xs.length : Nat) : Int) = V.int 2 := by simpa using e2
          have e4 : ((xs.length : Nat) : Int) = 2 := by injection e3
          omega
        match ds, hl2 with
        | [d1, d2], _ =>
          obtain ⟨x1, x2, rfl, f1, f2⟩ : ∃ x1 x2, xs = [x1, x2] ∧ Ft H x1 d1 ∧ Ft H x2 d2 := by
            cases fa with
            | cons g1 g =>
              cases g with
              | cons g2 g =>
                cases g
                exact ⟨_, _, rfl, g1, g2⟩
          have s1 := hsh.memT d1 (by simp)
          have s2 := hsh.memT d2 (by simp)
          refine ⟨.ref a, rfl, a, [x1, x2], 0, x1, rfl, rfl, .inl (.inl ha), rfl, x1, .ty "str", _, _, isSt d1, rfl, .ty _, ty_ft f1, kit_st d1, _, rfl, ite2 (fun e3 => ?_) (fun e3 => ?_)⟩
          · rw [need_l (by simpa using e3)] at q
            exact iteT (q H (Same.refl H))
          · refine ⟨.ref a, rfl, a, [x1, x2], 1, x2, rfl, rfl, .inl (.inl ha), rfl, x2, .ty "str", _, _, isSt d2, rfl, .ty _, ty_ft f2, kit_st d2, _, rfl, ite2 (fun e4 => ?_) (fun e4 => ?_)⟩
            · rw [need_r (by simpa using e4)] at q
              exact iteT (q H (Same.refl H))
            · obtain ⟨z1, rfl⟩ := st_open (d := d1) (by simpa using e3)
              obtain ⟨z2, rfl⟩ := st_open (d := d2) (by simpa using e4)
              cases f1
              cases f2
              obtain ⟨le, rfl⟩ : ∃ l : List Nat, z1 = txS l := ⟨z1.cps.toList, (txS_of z1).symm⟩
              obtain ⟨lr, rfl⟩ : ∃ l : List Nat, z2 = txS l := ⟨z2.cps.toList, (txS_of z2).symm⟩
              rw [need_of_str] at q
              have hle : le.length ≤ 400 := by
                have h1 : le.toArray.size ≤ 400 := s1.wt
                simpa using h1
              have hlr : lr.length ≤ 400 := by
                have h1 : lr.toArray.size ≤ 400 := s2.wt
                simpa using h1
              have esz : (⟨le.toArray⟩ : Str).length = le.length := by simp [Str.length]
              have rsz : (⟨lr.toArray⟩ : Str).length = lr.length := by simp [Str.length]
              have ez : (⟨le.toArray⟩ : Str).length ≤ sizeLine := Nat.le_of_lt (small1000 (show le.length ≤ 1000 by omega))
              have rz : (⟨lr.toArray⟩ : Str).length ≤ sizeLine := Nat.le_of_lt (small1000 (show lr.length ≤ 1000 by omega))
              have cz : (⟨cols.toArray⟩ : Str).length ≤ sizeLine := Nat.le_of_lt (small1000 (show cols.length ≤ 1000 by omega))
              have e0 : Str.ofString "" = txS [] := by decide +kernel
              refine ⟨.ref a, rfl, (by show 2 ≤ sizeLine; decide), fun p np => ?_⟩
              have sm1 : Same H (upd H p (.tup [.str (Str.ofString ""), .str (Str.ofString "")])) := Same.new (Same.refl H) np
              have hp1 : (upd H p (.tup [.str (Str.ofString ""), .str (Str.ofString "")])) p = some (.tup [.str (Str.ofString ""), .str (Str.ofString "")]) := upd_same
              have ha1 := sm1 _ _ ha
              generalize upd H p (.tup [.str (Str.ofString ""), .str (Str.ofString "")]) = H1 at sm1 hp1 ha1 ⊢
              refine ⟨_, _, .tup (.inl (.inl ha1)) (.cons (.str _) (.cons (.str _) .nil)), .tup (.inl (.inl hp1)) (.cons (.str _) (.cons (.str _) .nil)), shaped_sh hsh (by decide), by decide +kernel, _, rfl, ?_⟩
              rw [e0, eqv_two]
              refine ite2 (fun e5 => ?_) (fun e5 => ?_)
              · obtain ⟨rfl, rfl⟩ := of_decide_eq_true e5
                exact q H1 sm1
              have h0 : ¬ (le = [] ∧ lr = []) := fun z => e5 (decide_eq_true z)
              -- letters
              refine ⟨.ref a, rfl, a, [tx le, tx lr], 0, tx le, rfl, rfl, .inl (.inl ha1), rfl, _, rfl, ez, fun L nL => ?_⟩
              rw [show (⟨le.toArray⟩ : Str).cps.toList = le by simp]
              have sm2 : Same H (upd H1 L (.lst (le.map sg))) := Same.new sm1 nL
              have ha2 := sm2 _ _ ha
              have hL2 : (upd H1 L (.lst (le.map sg))) L = some (.lst (le.map sg)) := upd_same
              generalize upd H1 L (.lst (le.map sg)) = H2 at sm2 ha2 hL2 ⊢
              refine ⟨.ref L, rfl, .ref a, rfl, a, [tx le, tx lr], 1, tx lr, rfl, rfl, .inl (.inl ha2), rfl, _, rfl, rz, fun L2 nL2 => ?_⟩
              rw [show (⟨lr.toArray⟩ : Str).cps.toList = lr by simp]
              have sm3 : Same H2 (upd H2 L2 (.lst (lr.map sg))) := Same.new (Same.refl H2) nL2
              have hL3 := sm3 _ _ hL2
              have hl3 : (upd H2 L2 (.lst (lr.map sg))) L2 = some (.lst (lr.map sg)) := upd_same
              generalize upd H2 L2 (.lst (lr.map sg)) = H3 at sm3 hL3 hl3 ⊢
              refine ⟨L, L2, _, _, rfl, rfl, hL3, hl3, by rw [List.length_map, List.length_map]; exact Nat.le_of_lt (small1000 (by omega)), fun C nC => ?_⟩
              rw [← List.map_append]
              have sm4 : Same H2 (upd H3 C (.lst ((le ++ lr).map sg))) := Same.new sm3 nC
              have hC4 : (upd H3 C (.lst ((le ++ lr).map sg))) C = some (.lst ((le ++ lr).map sg)) := upd_same
              generalize upd H3 C (.lst ((le ++ lr).map sg)) = H4 at sm4 hC4 ⊢
              have hL4 := sm4 _ _ hL2
              have ha4 := sm4 _ _ ha2
              have smH4 : Same H H4 := Same.trans sm2 sm4
              refine ⟨C, rfl, ⟨_, .inl (.inl hC4)⟩, fun D nD => lc_list (xs := (le ++ lr).map sg) (fun i H' => Same H4 H' ∧ H' D = some (.lst ((((le ++ lr).take i).filter fun c => !decide (c ∈ cols)).map sg)))
                ⟨Same.new (Same.refl H4) nD, upd_same⟩ (fun i H' _ hP => .inl (.inl (hP.1 _ _ hC4))) (fun i x H5 hx hP => ?_) (fun H5 hP => ?_)⟩
              · obtain ⟨sm5, hD5⟩ := hP
                rw [List.getElem?_map] at hx
                obtain ⟨c, hc, rfl⟩ := Option.map_eq_some_iff.mp hx
                have hi2 : i < (le ++ lr).length := (List.getElem?_eq_some_iff.mp hc).1
                have hci : (le ++ lr)[i] = c := (List.getElem?_eq_some_iff.mp hc).2
                refine ⟨rfl, sg c, rfl, tx cols, rfl, _, rfl, cz, fun M nM => ?_⟩
                rw [show (⟨cols.toArray⟩ : Str).cps.toList = cols by simp]
                have sm6 : Same H4 (upd H5 M (.lst (cols.map sg))) := Same.new sm5 nM
                have hM6 : (upd H5 M (.lst (cols.map sg))) M = some (.lst (cols.map sg)) := upd_same
                have hD6 : (upd H5 M (.lst (cols.map sg))) D = some (.lst ((((le ++ lr).take i).filter fun c => !decide (c ∈ cols)).map sg)) := keep_new hD5 nM
                generalize upd H5 M (.lst (cols.map sg)) = H6 at sm6 hM6 hD6 ⊢
                refine ⟨M, _, rfl, .inl (.inl (.inl hM6)), rfl, flat_signs _, _, rfl, ?_⟩
                show (if (!inV (sg c) (cols.map sg)) = true then _ else _)
                rw [inV_signs]
                refine ite2 (fun e6 => ?_) (fun e6 => ?_)
                · refine ⟨sg c, rfl, _, hD6, ?_, Same.mut sm6 nD, ?_⟩
                  · rw [List.length_map]
                    have := List.length_filter_le (fun c => !decide (c ∈ cols)) ((le ++ lr).take i)
                    rw [List.length_take, List.length_append] at this
                    exact small1000 (by omega)
                  · rw [upd_same, List.take_succ_eq_append_getElem hi2, hci, List.filter_append, List.filter_cons, if_pos e6, List.map_append]
                    rfl
                · refine ⟨sm6, ?_⟩
                  rw [hD6, List.take_succ_eq_append_getElem hi2, hci, List.filter_append, List.filter_cons, if_neg e6, List.filter_nil, List.append_nil]
              · obtain ⟨sm5, hD5⟩ := hP
                rw [List.length_map, List.take_of_length_le (Nat.le_refl _)] at hD5
                refine ⟨(by show 0 ≤ sizeLine; exact Nat.zero_le _), fun N nN => ?_⟩
                have sm6 : Same H4 (upd H5 N (.lst [])) := Same.new sm5 nN
                have hD6 := keep_new (o := .lst []) hD5 nN
                have hN6 : (upd H5 N (.lst [])) N = some (.lst []) := upd_same
                generalize upd H5 N (.lst []) = H6 at sm6 hD6 hN6 ⊢
                have limE := s1.lim
                have limR := s2.lim
                refine ⟨_, _, .lst (.inl (.inl hD6)) (dp_signs _), .lst (.inl (.inl hN6)) (dp_signs []), shaped_of (fun c h => ?_), rfl, _, rfl, ?_⟩
                · rcases List.mem_append.mp (List.mem_filter.mp h).1 with z | z
                  · exact limE c z
                  · exact limR c z
                rw [eqv_signs]
                refine ite2 (fun e7 => ?_) (fun e7 => ?_)
                · have h7 : (le ++ lr).filter (fun c => !decide (c ∈ cols)) ≠ [] := fun z => by
                    rw [z] at e7
                    exact absurd e7 (by decide)
                  have hq : needL cols le lr = false := need_out (by
                    obtain ⟨c, hc⟩ := List.exists_mem_of_ne_nil _ h7
                    obtain ⟨h8, h9⟩ := List.mem_filter.mp hc
                    exact ⟨c, h8, by simpa using h9⟩)
                  rw [hq] at q
                  exact q H6 (Same.trans smH4 sm6)
                · have h7 : (le ++ lr).filter (fun c => !decide (c ∈ cols)) = [] := by simpa using e7
                  have hin : ∀ c ∈ le ++ lr, c ∈ cols := fun c hc => by
                    refine Classical.byContradiction fun z => ?_
                    have : c ∈ (le ++ lr).filter fun c => !decide (c ∈ cols) := List.mem_filter.mpr ⟨hc, by simpa using z⟩
                    rw [h7] at this
                    cases this
                  have hL6 := sm6 _ _ hL4
                  have ha6 := sm6 _ _ ha4
                  have smH6 := Same.trans smH4 sm6
                  refine ⟨.ref L, rfl, .ref L, rfl, L, le.map sS, rfl, .inl (.inl (by rw [← map_sg]; exact hL6)), by rw [List.length_map]; omega, fun ks S ndk hmk hkl nS => ?_⟩
                  obtain ⟨m, rfl⟩ := strs_signs hmk
                  have ndm := nodup_signs ndk
                  have hmm : ∀ c, c ∈ m ↔ c ∈ le := fun c => by
                    have := hmk (sS c)
                    rw [List.mem_map, List.mem_map] at this
                    constructor
                    · intro h
                      obtain ⟨b, hb, eb⟩ := this.mp ⟨c, h, rfl⟩
                      rw [← sS_inj eb]
                      exact hb
                    · intro h
                      obtain ⟨b, hb, eb⟩ := this.mpr ⟨c, h, rfl⟩
                      rw [← sS_inj eb]
                      exact hb
                  have hml : m.length ≤ cols.length := List.Nodup.length_le_of_subset ndm fun c hc => hin c (List.mem_append_left _ ((hmm c).mp hc))
                  have sm7 : Same H6 (upd H6 S (SetSO w S (m.map sS))) := Same.new (Same.refl H6) nS
                  have hS7 : (upd H6 S (SetSO w S (m.map sS))) S = some (SetSO w S (m.map sS)) := upd_same
                  generalize upd H6 S (SetSO w S (m.map sS)) = H7 at sm7 hS7 ⊢
                  refine ⟨S, m.map sS, rfl, hS7, by rw [List.length_map]; omega, fun ys R hys hso nR => ?_⟩
                  obtain ⟨y, rfl, hym⟩ := perm_signs hys
                  rw [← map_sg]
                  have sm8 : Same H6 (upd H7 R (.lst (y.map sg))) := Same.new sm7 nR
                  have hR8 : (upd H7 R (.lst (y.map sg))) R = some (.lst (y.map sg)) := upd_same
                  generalize upd H7 R (.lst (y.map sg)) = H8 at sm8 hR8 ⊢
                  have hL8 := sm8 _ _ hL6
                  have ha8 := sm8 _ _ ha6
                  have smH8 := Same.trans smH6 sm8
                  refine ⟨_, _, .lst (.inl (.inl hL8)) (dp_signs le), .lst (.inl (.inl hR8)) (dp_signs y), shaped_of limE, shaped_of (fun c h => limE c ((hmm c).mp (hym.mem_iff.mp h))), _, rfl, ?_⟩
                  rw [eqv_signs]
                  have key := set_sorted (l := le) (ys := y) (fun x => (hym.mem_iff).trans (hmm x)) (hym.nodup_iff.mpr ndm) (sorted_signs y hso)
                  refine ite2 (fun e8 => ?_) (fun e8 => ?_)
                  · have hq : needL cols le lr = false := by
                      have h8 : ¬ le = y := by simpa using e8
                      have h9 : risB le = false := eq_false_of_ne_true fun z => h8 (key.mpr z)
                      unfold needL
                      rw [h9, Bool.false_and]
                    rw [hq] at q
                    exact q H8 smH8
                  · have h8 : le = y := by simpa using e8
                    have h9 : risB le = true := key.mp h8
                    rw [need_looked cols le lr h0 hin h9] at q
                    refine ⟨.ref a, rfl, a, [tx le, tx lr], 1, tx lr, rfl, rfl, .inl (.inl ha8), rfl, _, rfl, rz, _, 2, rfl, rfl, _, rfl, ite2 (fun e9 => ?_) (fun e9 => ?_)⟩
                    · have g9 : lr.length < 2 := by
                        have := of_decide_eq_true e9
                        rw [rsz] at this
                        omega
                      rw [decide_eq_true g9, Bool.true_and] at q
                      refine ⟨.ref a, rfl, a, [tx le, tx lr], 1, tx lr, rfl, rfl, .inl (.inl ha8), rfl, rfl, _, rfl, ite2 (fun e10 => ?_) (fun e10 => ?_)⟩
                      · have g10 : lr = [] := by
                          have z : tx lr = .str (Str.ofString "") := of_decide_eq_true e10
                          rw [e0] at z
                          exact tx_inj z
                        rw [decide_eq_true g10, Bool.true_or] at q
                        exact q H8 smH8
                      · have g10 : ¬ lr = [] := fun z => e10 (by
                          rw [z]
                          exact decide_eq_true (congrArg V.str e0.symm))
                        rw [decide_eq_false g10, Bool.false_or] at q
                        refine ⟨.ref a, rfl, a, [tx le, tx lr], 1, tx lr, rfl, rfl, .inl (.inl ha8), rfl, .ref L, rfl, L, _, rfl, .inl (.inl (.inl hL8)), rfl, flat_signs _, ?_⟩
                        show _
                        rw [if_pos rfl, inV_text]
                        exact q H8 smH8
                    · have g9 : ¬ lr.length < 2 := fun z => e9 (decide_eq_true (by rw [rsz]; omega))
                      rw [decide_eq_false g9, Bool.false_and] at q
                      exact q H8 smH8

/-! ### _law_swapped, _law_bent -/
theorem lz {l : List Nat} (h : l.length ≤ 200) : (⟨l.toArray⟩ : Str).length ≤ sizeLine := by
  have e : (⟨l.toArray⟩ : Str).length = l.length := by simp [Str.length]
  rw [e]
  exact Nat.le_of_lt (small1000 (by omega))
theorem lz2 {l k : List Nat} (h : l.length + k.length ≤ 200) : (⟨l.toArray⟩ : Str).length + (⟨k.toArray⟩ : Str).length ≤ sizeLine := by
  have e : (⟨l.toArray⟩ : Str).length = l.length := by simp [Str.length]
  have e2 : (⟨k.toArray⟩ : Str).length = k.length := by simp [Str.length]
  rw [e, e2]
  exact Nat.le_of_lt (small1000 (by omega))
theorem sp_len : Str.ofString " " = ⟨[32].toArray⟩ := by decide +kernel
theorem bag_all {b bl : Addr} {L : List Addr} {H H' : Hp} (hl : ∀ c ∈ L, H c ≠ none) (k : Kp b H H') (hB : Bag b bl H') : ∀ c ∈ L, H' c ≠ none := fun c hc => by
  by_cases e : c = b
  · obtain ⟨ns, m, n, _, h1, _⟩ := hB
    rw [e, h1]
    simp
  · cases eh : H c with
    | none => exact absurd eh (hl c hc)
    | some o =>
      rw [k c o e eh]
      simp
def spSwap : Sp := fun vs H Q _ => ∃ (l : List Nat) (m : Nat), vs = [tx l, .int m] ∧ l.length ≤ 26 ∧ ∀ l' : List Nat, (∀ c ∈ l', c ∈ l) → l'.length ≤ 26 + 26 → Q (tx l') H
theorem ok_swap (T : Tx K mg Z) : FnOk P w K mg base CX0 1 Z.f_l_swapped Z.d_l_swapped ["text", "at"] spSwap := by
  refine T.F_l_swapped.ok sc_l_swapped (fun vs H Q E h => ?_) (fun cdv A outer s H vs Q E hr h => ?_)
  · obtain ⟨l, m, rfl, _⟩ := h
    rfl
  · obtain ⟨l, m, rfl, hl, q⟩ := h
    refine ⟨_, (pss_cons (ps_set (i := 2) sc_l_swapped.nd rfl (.inl rfl) (pe_slice sl_str (pv 0) (po_some (pv 1)) (po_some (pe_op op_add (pv 1) pe_int))))
      (pss_one (ps_ret (pe_op op_add_str (pe_op op_add_str (pe_slice sl_str (pv 0) po_none (po_some (pv 1))) (pe_revS (pv 2))) (pe_slice sl_str (pv 0) (po_some (pe_op op_add (pv 1) pe_int)) po_none))))), ?_⟩
    refine ⟨tx l, rfl, .int m, rfl, _, rfl, .int m, rfl, _, 2, rfl, rfl, _, rfl, _, rfl, lz (by omega), ?_⟩
    rw [show ((m : Nat) : Int) + 2 = ((m + 2 : Nat) : Int) from rfl, cut_mid]
    have h1 : ((l.drop m).take (m + 2 - m)).length ≤ 26 := by
      rw [List.length_take, List.length_drop]
      omega
    have s1 : ∀ c ∈ (l.drop m).take (m + 2 - m), c ∈ l := fun c h => List.mem_of_mem_drop (List.mem_of_mem_take h)
    have h12 : ((l.drop m).take (m + 2 - m)).length ≤ 2 := by
      rw [List.length_take]
      omega
    generalize (l.drop m).take (m + 2 - m) = two at h1 s1 h12 ⊢
    have h2 : (l.take m).length ≤ 26 := Nat.le_trans (List.length_take_le' m l) hl
    have h3 : (l.drop (m + 2)).length ≤ 24 := by
      rw [List.length_drop]
      omega
    refine ⟨tx l, rfl, .int m, rfl, _, rfl, _, rfl, lz (by omega), ?_⟩
    rw [cut_take]
    refine ⟨tx two, rfl, two, rfl, lz (by omega), ⟨(l.take m).toArray⟩, ⟨two.reverse.toArray⟩, rfl, rfl, lz2 (by rw [List.length_reverse]; omega), ?_⟩
    rw [cat_tx (l.take m) two.reverse]
    refine ⟨tx l, rfl, .int m, rfl, _, 2, rfl, rfl, _, rfl, _, rfl, lz (by omega), ?_⟩
    rw [show ((m : Nat) : Int) + 2 = ((m + 2 : Nat) : Int) from rfl, cut_from l (m + 2)]
    refine ⟨⟨(l.take m ++ two.reverse).toArray⟩, ⟨(l.drop (m + 2)).toArray⟩, rfl, rfl, lz2 (by rw [List.length_append, List.length_reverse]; omega), ?_⟩
    rw [cat_tx (l.take m ++ two.reverse) (l.drop (m + 2))]
    refine q _ (fun c hc => ?_) (by rw [List.length_append, List.length_append, List.length_reverse]; omega)
    rcases List.mem_append.mp hc with z | z
    · rcases List.mem_append.mp z with y | y
      · exact List.mem_of_mem_take y
      · exact s1 c (List.mem_reverse.mp y)
    · exact List.mem_of_mem_drop z
def spBent (K : PySem.W.Frag) : Sp := fun vs H Q _ => ∃ (L : List Addr) (b bl : Addr) (cols es rc : List Nat) (na : Addr), vs = [.ref b, tx cols, .ref na] ∧ Bag b bl H ∧ b ∈ L ∧ (∀ c ∈ L, H c ≠ none) ∧ 1 ≤ cols.length ∧ cols.length ≤ 26 ∧ (∀ c ∈ cols, c < 128) ∧ es.length ≤ 26 ∧ (∀ c ∈ es, c < 128) ∧ rc.length ≤ 1 ∧ (∀ c ∈ rc, c < 128) ∧ na ∉ L ∧ H na = some (.tup [tx es, tx rc]) ∧
  ∀ (v : V) (H' : Hp), Kp b H H' → Bag b bl H' → Th L H' 10 400 v → Q v H'
set_option maxHeartbeats 16000000 in
theorem ok_bent (T : Tx K mg Z) : FnOk P w K mg base CX0 2 Z.f_l_bent Z.d_l_bent ["bag", "columns", "need"] (spBent K) := by
  have G_l_lot : FnOk P w K mg base CX0 1 Z.f_l_lot Z.d_l_lot ["bag", "many"] (spLot K) := ok_lot T
  have G_l_swapped : FnOk P w K mg base CX0 1 Z.f_l_swapped Z.d_l_swapped ["text", "at"] spSwap := ok_swap T
  refine T.F_l_bent.ok sc_l_bent (fun vs H Q E h => ?_) (fun cdv A outer s H vs Q E hr h => ?_)
  · obtain ⟨L, b, bl, cols, es, rc, na, rfl, _⟩ := h
    rfl
  · obtain ⟨L, b, bl, cols, es, rc, na, rfl, hB, hbL, hl, hc1, hc2, hcc, hel, hec, hrl, hrc, nLna, hona, q⟩ := h
    refine ⟨_, (pss_cons (ps_asg (pv 2) (pgT K (n := 2) (pgs_cons (pg_name (i := 3) sc_l_bent.nd rfl (.inl rfl)) (pgs_cons (pg_name (i := 4) sc_l_bent.nd rfl (.inl rfl)) pgs_nil))))
      (pss_cons (ps_set (i := 5) sc_l_bent.nd rfl (.inl rfl) (pe_ix ix_str (pv 1) (pe_call G_l_lot (hr.mono (by omega)) (by rfl) T.g_l_lot T.F_l_lot.kp T.b_l_lot .nil pass0 (pa_cons (pv 0) (pa_cons (pe_callB call_len_str (by rfl) T.m_len (by decide +kernel) (pa_cons (pv 1) pa_nil)) pa_nil))) (fun _ _ => rfl)))
      (pss_cons (ps_set (i := 6) sc_l_bent.nd rfl (.inl rfl) (pe_ix ix_str pe_str (pe_call G_l_lot (hr.mono (by omega)) (by rfl) T.g_l_lot T.F_l_lot.kp T.b_l_lot .nil pass0 (pa_cons (pv 0) (pa_cons pe_int pa_nil))) (fun _ _ => rfl)))
      (pss_cons (ps_set (i := 7) sc_l_bent.nd rfl (.inl rfl) (pe_lst (pa_cons (pe_op op_add_str (pv 3) (pv 5)) (pa_cons (pe_op op_add_str (pv 3) (pv 6)) (pa_cons (pe_op op_add_str (pv 5) (pv 3)) (pa_cons (pe_revS (pv 3)) (pa_cons (pe_op op_add_str (pv 3) (pv 3)) pa_nil)))))))
      (pss_cons (ps_set (i := 7) sc_l_bent.nd rfl (.inl rfl) (pe_op op_cat (pv 7) (pe_lst (pa_cons (pe_join pe_str (pe_callB cSortTx (by rfl) T.m_sorted (by decide +kernel) (pa_cons (pe_op op_add_str (pv 3) (pv 6)) pa_nil))) pa_nil))))
      (pss_cons (ps_set (i := 7) sc_l_bent.nd rfl (.inl rfl) (pe_op op_cat (pv 7) (pe_lst (pa_cons (pe_upper (pv 3)) (pa_cons (pe_callTy call_list_txt (by rfl) T.m_list (by decide +kernel) (pa_cons (pv 3) pa_nil)) (pa_cons pe_non (pa_cons pe_int (pa_cons (pe_tup (pa_cons (pv 3) pa_nil)) (pa_cons pe_str (pa_cons (pe_op op_add_str (pv 3) pe_str) (pa_cons (pv 1) pa_nil)))))))))))
      (pss_cons (ps_set (i := 8) sc_l_bent.nd rfl (.inl rfl) (pe_call G_l_lot (hr.mono (by omega)) (by rfl) T.g_l_lot T.F_l_lot.kp T.b_l_lot .nil pass0 (pa_cons (pv 0) (pa_cons (pe_callB call_len_str (by rfl) T.m_len (by decide +kernel) (pa_cons (pv 1) pa_nil)) pa_nil))))
      (pss_cons (ps_set (i := 7) sc_l_bent.nd rfl (.inl rfl) (pe_op op_cat (pv 7) (pe_lst (pa_cons (pe_call G_l_swapped (hr.mono (by omega)) (by rfl) T.g_l_swapped T.F_l_swapped.kp T.b_l_swapped .nil pass0 (pa_cons (pv 3) (pa_cons (pe_op op_mod (pv 8) (pe_callB (call_max2 rfl) (by rfl) T.m_max (by decide +kernel) (pa_cons pe_int (pa_cons (pe_callB call_len_str (by rfl) T.m_len (by decide +kernel) (pa_cons (pv 3) pa_nil)) pa_nil)))) pa_nil))) (pa_cons (pe_call G_l_swapped (hr.mono (by omega)) (by rfl) T.g_l_swapped T.F_l_swapped.kp T.b_l_swapped .nil pass0 (pa_cons (pv 1) (pa_cons (pv 8) pa_nil))) pa_nil)))))
      (pss_cons (ps_set (i := 7) sc_l_bent.nd rfl (.inl rfl) (pe_op op_cat (pv 7) (pe_lst (pa_cons (pe_op op_add_str (pe_op op_add_str (pe_slice sl_str (pv 3) po_none (po_some (pv 8))) (pv 6)) (pe_slice sl_str (pv 3) (po_some (pe_op op_add (pv 8) pe_int)) po_none)) (pa_cons (pe_op op_add_str (pe_op op_add_str (pe_slice sl_str (pv 3) po_none (po_some (pv 8))) (pv 5)) (pe_slice sl_str (pv 3) (po_some (pv 8)) po_none)) pa_nil)))))
      (pss_cons (ps_set (i := 9) sc_l_bent.nd rfl (.inl rfl) (pe_lst (pa_cons (pv 5) (pa_cons (pv 6) (pa_cons (pe_op op_add_str (pv 4) (pv 5)) (pa_cons (pe_upper (pv 5)) (pa_cons (pe_callTy call_list_txt (by rfl) T.m_list (by decide +kernel) (pa_cons (pv 4) pa_nil)) (pa_cons pe_non (pa_cons pe_str (pa_cons pe_bl (pa_cons (pe_op op_add_str (pv 5) (pv 6)) (pa_cons pe_str pa_nil))))))))))))
      (pss_cons (ps_set (i := 10) sc_l_bent.nd rfl (.inl rfl) (pe_call G_l_lot (hr.mono (by omega)) (by rfl) T.g_l_lot T.F_l_lot.kp T.b_l_lot .nil pass0 (pa_cons (pv 0) (pa_cons pe_int pa_nil))))
      (pss_cons (ps_if (pt_cmpR op_eq (pv 10) pe_int (nomark _)) (pss_one (ps_ret (pe_tup (pa_cons (pe_ix (ixL K) (pv 7) (pe_call G_l_lot (hr.mono (by omega)) (by rfl) T.g_l_lot T.F_l_lot.kp T.b_l_lot .nil pass0 (pa_cons (pv 0) (pa_cons pe_int pa_nil))) (fun _ _ => rfl)) (pa_cons (pv 4) pa_nil))))) pss_nil)
      (pss_cons (ps_if (pt_cmpR op_eq (pv 10) pe_int (nomark _)) (pss_one (ps_ret (pe_tup (pa_cons (pv 3) (pa_cons (pe_ix (ixL K) (pv 9) (pe_call G_l_lot (hr.mono (by omega)) (by rfl) T.g_l_lot T.F_l_lot.kp T.b_l_lot .nil pass0 (pa_cons (pv 0) (pa_cons pe_int pa_nil))) (fun _ _ => rfl)) pa_nil))))) pss_nil)
      (pss_cons (ps_if (pt_cmpR op_eq (pv 10) pe_int (nomark _)) (pss_one (ps_ret (pe_tup (pa_cons (pe_ix (ixL K) (pv 7) (pe_call G_l_lot (hr.mono (by omega)) (by rfl) T.g_l_lot T.F_l_lot.kp T.b_l_lot .nil pass0 (pa_cons (pv 0) (pa_cons pe_int pa_nil))) (fun _ _ => rfl)) (pa_cons (pe_ix (ixL K) (pv 9) (pe_call G_l_lot (hr.mono (by omega)) (by rfl) T.g_l_lot T.F_l_lot.kp T.b_l_lot .nil pass0 (pa_cons (pv 0) (pa_cons pe_int pa_nil))) (fun _ _ => rfl)) pa_nil))))) pss_nil)
      (pss_cons (ps_set (i := 11) sc_l_bent.nd rfl (.inl rfl) (pe_lst (pa_cons (pe_lst (pa_cons (pv 3) (pa_cons (pv 4) pa_nil))) (pa_cons (pe_tup (pa_cons (pv 3) pa_nil)) (pa_cons (pe_tup (pa_cons (pv 3) (pa_cons (pv 4) (pa_cons pe_str pa_nil)))) (pa_cons pe_non (pa_cons (pe_op op_add_str (pv 3) (pv 4)) (pa_cons (pe_tup pa_nil) pa_nil))))))))
      (pss_cons (ps_set (i := 11) sc_l_bent.nd rfl (.inl rfl) (pe_op op_cat (pv 11) (pe_lst (pa_cons (pe_tup (pa_cons (pe_tup (pa_cons (pv 3) (pa_cons (pv 4) pa_nil))) pa_nil)) (pa_cons (pe_op op_pow pe_int pe_int) (pa_cons (pe_tup (pa_cons (pv 4) (pa_cons (pv 3) pa_nil))) pa_nil))))))
      (pss_one (ps_ret (pe_ix (ixL K) (pv 11) (pe_call G_l_lot (hr.mono (by omega)) (by rfl) T.g_l_lot T.F_l_lot.kp T.b_l_lot .nil pass0 (pa_cons (pv 0) (pa_cons pe_int pa_nil))) (fun _ _ => rfl)))))))))))))))))))), ?_⟩
    have up9 : ∀ l : List Nat, (∀ c ∈ l, c < 128) → ∀ c ∈ l, c < 1000 := fun l h c hc => by
      have := h c hc
      omega
    have hcc9 := up9 cols hcc
    have hec9 := up9 es hec
    have hrc9 := up9 rc hrc
    refine ⟨.ref na, rfl, na, [tx es, tx rc], rfl, .inl (.inl hona), rfl, tx es, [tx rc], rfl, tx rc, [], rfl, rfl, ?_⟩
    have ecl : (⟨cols.toArray⟩ : Str).length = cols.length := by simp [Str.length]
    have eel : (⟨es.toArray⟩ : Str).length = es.length := by simp [Str.length]
    refine ⟨tx cols, rfl, .ref b, rfl, tx cols, rfl, _, rfl, lz (by omega), b, bl, _, rfl, hB, by rw [ecl]; omega, by rw [ecl]; omega, fun d1 G1 ks1 hB1 d1_0 d1_1 => ?_⟩
    have hl1 : ∀ bb ∈ L, G1 bb ≠ none := bag_all hl ks1 hB1
    rw [ecl] at d1_1
    have hdl : d1.toNat < cols.length := by omega
    have hat0 : atI (⟨cols.toArray⟩ : Str).cps.toList d1 = some cols[d1.toNat] := by
      have e0 : atI (⟨cols.toArray⟩ : Str).cps.toList ((d1.toNat : Nat) : Int) = some cols[d1.toNat] := atI_nat (by simp [hdl])
      rw [show ((d1.toNat : Nat) : Int) = d1 by omega] at e0
      exact e0
    have hcm : cols[d1.toNat] ∈ cols := List.getElem_mem hdl
    refine ⟨_, _, _, rfl, rfl, lz (by omega), hat0, ?_⟩
    generalize cols[d1.toNat] = c at hcm ⊢
    have hc8 : ∀ x ∈ [c], x < 128 := all1 (hcc c hcm)
    have hc9 := up9 [c] hc8
    refine ⟨.ref b, rfl, b, bl, 26, rfl, hB1, by decide, by decide, fun d2 G2 ks2 hB2 d2_0 d2_1 => ?_⟩
    have hl2 : ∀ bb ∈ L, G2 bb ≠ none := bag_all hl1 ks2 hB2
    obtain ⟨o, hat1, ho8⟩ : ∃ o : Nat, atI (Str.ofString "abcdefghijklmnopqrstuvwxyz").cps.toList d2 = some o ∧ o < 128 := by
      have ea : (Str.ofString "abcdefghijklmnopqrstuvwxyz").cps.toList = alpha := by decide +kernel
      rw [ea]
      have hd6 : d2.toNat < alpha.length := by
        show d2.toNat < 26
        omega
      refine ⟨alpha[d2.toNat], ?_, ?_⟩
      · have e0 := atI_nat (List.getElem?_eq_getElem hd6)
        rw [show ((d2.toNat : Nat) : Int) = d2 by omega] at e0
        exact e0
      · have h6 : ∀ x ∈ alpha, x < 128 := by decide
        exact h6 _ (List.getElem_mem hd6)
    have ho9 : ∀ x ∈ [o], x < 1000 := up9 [o] (all1 ho8)
    refine ⟨_, _, _, rfl, rfl, (by decide +kernel), hat1, ?_⟩
    refine ⟨tx es, rfl, sg c, rfl, ⟨es.toArray⟩, ⟨[c].toArray⟩, rfl, rfl, lz2 (by first | omega | (simp only [List.length_append, List.length_cons, List.length_nil, List.length_reverse, List.length_take, List.length_drop, List.length_map]; omega)), ?_⟩
    rw [cat_tx es [c]]
    refine ⟨tx es, rfl, sg o, rfl, ⟨es.toArray⟩, ⟨[o].toArray⟩, rfl, rfl, lz2 (by first | omega | (simp only [List.length_append, List.length_cons, List.length_nil, List.length_reverse, List.length_take, List.length_drop, List.length_map]; omega)), ?_⟩
    rw [cat_tx es [o]]
    refine ⟨sg c, rfl, tx es, rfl, ⟨[c].toArray⟩, ⟨es.toArray⟩, rfl, rfl, lz2 (by first | omega | (simp only [List.length_append, List.length_cons, List.length_nil, List.length_reverse, List.length_take, List.length_drop, List.length_map]; omega)), ?_⟩
    rw [cat_tx [c] es]
    refine ⟨tx es, rfl, es, rfl, lz (by omega), ?_⟩
    refine ⟨tx es, rfl, tx es, rfl, ⟨es.toArray⟩, ⟨es.toArray⟩, rfl, rfl, lz2 (by first | omega | (simp only [List.length_append, List.length_cons, List.length_nil, List.length_reverse, List.length_take, List.length_drop, List.length_map]; omega)), ?_⟩
    rw [cat_tx es es]
    refine ⟨(by show 5 ≤ sizeLine; decide), fun p3 np3 => ?_⟩
    have nLp3 : p3 ∉ L := fun z => hl2 p3 z np3
    have ks3 : Kp b G2 (upd G2 p3 (.lst [tx (es ++ [c]), tx (es ++ [o]), tx ([c] ++ es), tx es.reverse, tx (es ++ es)])) := Kp.new Kp.rfl' np3
    have hB3 : Bag b bl (upd G2 p3 (.lst [tx (es ++ [c]), tx (es ++ [o]), tx ([c] ++ es), tx es.reverse, tx (es ++ es)])) := hB2.new np3
    have hl3 : ∀ bb ∈ L, (upd G2 p3 (.lst [tx (es ++ [c]), tx (es ++ [o]), tx ([c] ++ es), tx es.reverse, tx (es ++ es)])) bb ≠ none := new_all hl2
    have hop3 : (upd G2 p3 (.lst [tx (es ++ [c]), tx (es ++ [o]), tx ([c] ++ es), tx es.reverse, tx (es ++ es)])) p3 = some (.lst [tx (es ++ [c]), tx (es ++ [o]), tx ([c] ++ es), tx es.reverse, tx (es ++ es)]) := upd_same
    generalize upd G2 p3 (.lst [tx (es ++ [c]), tx (es ++ [o]), tx ([c] ++ es), tx es.reverse, tx (es ++ es)]) = G3 at ks3 hB3 hl3 hop3 ⊢
    have ths1 : ∀ v ∈ [tx (es ++ [c]), tx (es ++ [o]), tx ([c] ++ es), tx es.reverse, tx (es ++ es)], Th L G3 1 60 v := (allC (Th.tx (l := es ++ [c]) (allApp hec9 hc9) (by first | omega | (simp only [List.length_append, List.length_cons, List.length_nil, List.length_reverse, List.length_take, List.length_drop, List.length_map]; omega))) (allC (Th.tx (l := es ++ [o]) (allApp hec9 ho9) (by first | omega | (simp only [List.length_append, List.length_cons, List.length_nil, List.length_reverse, List.length_take, List.length_drop, List.length_map]; omega))) (allC (Th.tx (l := [c] ++ es) (allApp hc9 hec9) (by first | omega | (simp only [List.length_append, List.length_cons, List.length_nil, List.length_reverse, List.length_take, List.length_drop, List.length_map]; omega))) (allC (Th.tx (l := es.reverse) (fun x h => hec9 x (List.mem_reverse.mp h)) (by first | omega | (simp only [List.length_append, List.length_cons, List.length_nil, List.length_reverse, List.length_take, List.length_drop, List.length_map]; omega))) (allC (Th.tx (l := es ++ es) (allApp hec9 hec9) (by first | omega | (simp only [List.length_append, List.length_cons, List.length_nil, List.length_reverse, List.length_take, List.length_drop, List.length_map]; omega))) all0)))))
    have hn1 : ([tx (es ++ [c]), tx (es ++ [o]), tx ([c] ++ es), tx es.reverse, tx (es ++ es)] : List V).length = 5 := rfl
    generalize [tx (es ++ [c]), tx (es ++ [o]), tx ([c] ++ es), tx es.reverse, tx (es ++ es)] = xs1 at hop3 ths1 hn1 ⊢
    refine ⟨.ref p3, rfl, ⟨_, rfl⟩, tx es, rfl, sg o, rfl, ⟨es.toArray⟩, ⟨[o].toArray⟩, rfl, rfl, lz2 (by first | omega | (simp only [List.length_append, List.length_cons, List.length_nil, List.length_reverse, List.length_take, List.length_drop, List.length_map]; omega)), ?_⟩
    rw [cat_tx es [o]]
    refine ⟨es ++ [o], rfl, by first | omega | (simp only [List.length_append, List.length_cons, List.length_nil, List.length_reverse, List.length_take, List.length_drop, List.length_map]; omega), fun sl p4 hsl _ np4 => ?_⟩
    have nLp4 : p4 ∉ L := fun z => hl3 p4 z np4
    have ks4 : Kp b G3 (upd G3 p4 (.lst (sl.map sg))) := Kp.new Kp.rfl' np4
    have hB4 : Bag b bl (upd G3 p4 (.lst (sl.map sg))) := hB3.new np4
    have hl4 : ∀ bb ∈ L, (upd G3 p4 (.lst (sl.map sg))) bb ≠ none := new_all hl3
    have hop4 : (upd G3 p4 (.lst (sl.map sg))) p4 = some (.lst (sl.map sg)) := upd_same
    generalize upd G3 p4 (.lst (sl.map sg)) = G4 at ks4 hB4 hl4 hop4 ⊢
    have hsll : sl.length ≤ 27 := by
      have := hsl.length_eq
      rw [List.length_append] at this
      have e1 : [o].length = 1 := rfl
      omega
    have hsl9 : ∀ x ∈ sl, x < 1000 := fun x h => allApp hec9 ho9 x (hsl.mem_iff.mp h)
    refine ⟨_, p4, sl.map sS, rfl, rfl, .inl (.inl (.inl (by rw [← map_sg]; exact hop4))), ?_, ?_⟩
    · rw [show (Str.ofString "").length = 0 by decide +kernel, Nat.mul_zero, Nat.add_zero, signs_len]
      exact Nat.le_of_lt (small1000 (by omega))
    rw [join_signs]
    refine ⟨(by show 1 ≤ sizeLine; decide), fun p5 np5 => ?_⟩
    have nLp5 : p5 ∉ L := fun z => hl4 p5 z np5
    have ks5 : Kp b G4 (upd G4 p5 (.lst [tx sl])) := Kp.new Kp.rfl' np5
    have hB5 : Bag b bl (upd G4 p5 (.lst [tx sl])) := hB4.new np5
    have hl5 : ∀ bb ∈ L, (upd G4 p5 (.lst [tx sl])) bb ≠ none := new_all hl4
    have hop5 : (upd G4 p5 (.lst [tx sl])) p5 = some (.lst [tx sl]) := upd_same
    generalize upd G4 p5 (.lst [tx sl]) = G5 at ks5 hB5 hl5 hop5 ⊢
    have thq1 : ∀ v ∈ ([tx sl] : List V), Th L G5 1 60 v := (allC (Th.tx (l := sl) (hsl9) (by first | omega | (simp only [List.length_append, List.length_cons, List.length_nil, List.length_reverse, List.length_take, List.length_drop, List.length_map]; omega))) all0)
    refine ⟨p3, p5, xs1, [tx sl], rfl, rfl, ((ks4).trans ks5) _ _ (ne_in nLp3 hbL) hop3, hop5, by rw [hn1]; exact Nat.le_of_lt (small1000 (Nat.le_of_ble_eq_true rfl)), fun p6 np6 => ?_⟩
    have nLp6 : p6 ∉ L := fun z => hl5 p6 z np6
    have ks6 : Kp b G5 (upd G5 p6 (.lst (xs1 ++ [tx sl]))) := Kp.new Kp.rfl' np6
    have hB6 : Bag b bl (upd G5 p6 (.lst (xs1 ++ [tx sl]))) := hB5.new np6
    have hl6 : ∀ bb ∈ L, (upd G5 p6 (.lst (xs1 ++ [tx sl]))) bb ≠ none := new_all hl5
    have hop6 : (upd G5 p6 (.lst (xs1 ++ [tx sl]))) p6 = some (.lst (xs1 ++ [tx sl])) := upd_same
    generalize upd G5 p6 (.lst (xs1 ++ [tx sl])) = G6 at ks6 hB6 hl6 hop6 ⊢
    have ths2 : ∀ v ∈ xs1 ++ [tx sl], Th L G6 1 60 v := allApp (fun v hv => (ths1 v hv).kp (((ks4).trans ks5).trans ks6) hbL) (fun v hv => (thq1 v hv).kp (ks6) hbL)
    have hn2 : (xs1 ++ [tx sl] : List V).length = 6 := by
      rw [List.length_append, hn1]
      rfl
    generalize xs1 ++ [tx sl] = xs2 at hop6 ths2 hn2 ⊢
    refine ⟨.ref p6, rfl, tx es, rfl, ⟨_, rfl⟩, ⟨es.toArray⟩, rfl, rfl, (by rw [eel]; omega), ?_⟩
    rw [upper_tx hec]
    refine ⟨tx es, rfl, _, rfl, lz (by omega), fun p7 np7 => ?_⟩
    rw [show (⟨es.toArray⟩ : Str).cps.toList = es by simp]
    have nLp7 : p7 ∉ L := fun z => hl6 p7 z np7
    have ks7 : Kp b G6 (upd G6 p7 (.lst (es.map sg))) := Kp.new Kp.rfl' np7
    have hB7 : Bag b bl (upd G6 p7 (.lst (es.map sg))) := hB6.new np7
    have hl7 : ∀ bb ∈ L, (upd G6 p7 (.lst (es.map sg))) bb ≠ none := new_all hl6
    have hop7 : (upd G6 p7 (.lst (es.map sg))) p7 = some (.lst (es.map sg)) := upd_same
    generalize upd G6 p7 (.lst (es.map sg)) = G7 at ks7 hB7 hl7 hop7 ⊢
    have tp7 : Th L G7 1 60 (.ref p7) := (Th.lst nLp7 hop7 (n := 0) (m := 1) (fun v hv => by obtain ⟨x, hx, rfl⟩ := List.mem_map.mp hv; exact Th.tx (l := [x]) (all1 (hec9 x hx)) (Nat.le_refl 1))).mono (by decide) (by rw [List.length_map]; omega)
    refine ⟨tx es, rfl, (by show 1 ≤ sizeLine; decide), fun p8 np8 => ?_⟩
    have nLp8 : p8 ∉ L := fun z => hl7 p8 z np8
    have ks8 : Kp b G7 (upd G7 p8 (.tup [tx es])) := Kp.new Kp.rfl' np8
    have hB8 : Bag b bl (upd G7 p8 (.tup [tx es])) := hB7.new np8
    have hl8 : ∀ bb ∈ L, (upd G7 p8 (.tup [tx es])) bb ≠ none := new_all hl7
    have hop8 : (upd G7 p8 (.tup [tx es])) p8 = some (.tup [tx es]) := upd_same
    generalize upd G7 p8 (.tup [tx es]) = G8 at ks8 hB8 hl8 hop8 ⊢
    have tp8 : Th L G8 1 60 (.ref p8) := (Th.tup nLp8 hop8 (n := 0) (m := 26) (allC (Th.tx hec9 (by omega)) all0)).mono (by decide) (Nat.le_of_ble_eq_true rfl)
    refine ⟨tx es, rfl, ⟨es.toArray⟩, Str.ofString " ", rfl, rfl, by rw [sp_len]; exact lz2 (by first | omega | (simp only [List.length_append, List.length_cons, List.length_nil, List.length_reverse, List.length_take, List.length_drop, List.length_map]; omega)), ?_⟩
    rw [sp_len, cat_tx es [32]]
    refine ⟨tx cols, rfl, ?_⟩
    refine ⟨(by show 8 ≤ sizeLine; decide), fun p9 np9 => ?_⟩
    have nLp9 : p9 ∉ L := fun z => hl8 p9 z np9
    have ks9 : Kp b G8 (upd G8 p9 (.lst [tx (es.map up1), .ref p7, .non, .int 0, .ref p8, .str (Str.ofString ""), tx (es ++ [32]), tx cols])) := Kp.new Kp.rfl' np9
    have hB9 : Bag b bl (upd G8 p9 (.lst [tx (es.map up1), .ref p7, .non, .int 0, .ref p8, .str (Str.ofString ""), tx (es ++ [32]), tx cols])) := hB8.new np9
    have hl9 : ∀ bb ∈ L, (upd G8 p9 (.lst [tx (es.map up1), .ref p7, .non, .int 0, .ref p8, .str (Str.ofString ""), tx (es ++ [32]), tx cols])) bb ≠ none := new_all hl8
    have hop9 : (upd G8 p9 (.lst [tx (es.map up1), .ref p7, .non, .int 0, .ref p8, .str (Str.ofString ""), tx (es ++ [32]), tx cols])) p9 = some (.lst [tx (es.map up1), .ref p7, .non, .int 0, .ref p8, .str (Str.ofString ""), tx (es ++ [32]), tx cols]) := upd_same
    generalize upd G8 p9 (.lst [tx (es.map up1), .ref p7, .non, .int 0, .ref p8, .str (Str.ofString ""), tx (es ++ [32]), tx cols]) = G9 at ks9 hB9 hl9 hop9 ⊢
    have thq2 : ∀ v ∈ ([tx (es.map up1), .ref p7, .non, .int 0, .ref p8, .str (Str.ofString ""), tx (es ++ [32]), tx cols] : List V), Th L G9 1 60 v := (allC (Th.tx (l := es.map up1) (fun x h => by obtain ⟨y, hy, rfl⟩ := List.mem_map.mp h; exact up1_small y (hec y hy)) (by first | omega | (simp only [List.length_append, List.length_cons, List.length_nil, List.length_reverse, List.length_take, List.length_drop, List.length_map]; omega))) (allC ((tp7.kp ((ks8).trans ks9) hbL)) (allC (Th.non) (allC (Th.intS (by decide) (by decide)) (allC ((tp8.kp (ks9) hbL)) (allC (Th.tx (l := []) (by decide) (by decide)) (allC (Th.tx (l := es ++ [32]) (allApp hec9 (by decide)) (by first | omega | (simp only [List.length_append, List.length_cons, List.length_nil, List.length_reverse, List.length_take, List.length_drop, List.length_map]; omega))) (allC (Th.tx (l := cols) (hcc9) (by first | omega | (simp only [List.length_append, List.length_cons, List.length_nil, List.length_reverse, List.length_take, List.length_drop, List.length_map]; omega))) all0))))))))
    refine ⟨p6, p9, xs2, [tx (es.map up1), .ref p7, .non, .int 0, .ref p8, .str (Str.ofString ""), tx (es ++ [32]), tx cols], rfl, rfl, (((ks7).trans ks8).trans ks9) _ _ (ne_in nLp6 hbL) hop6, hop9, by rw [hn2]; exact Nat.le_of_lt (small1000 (Nat.le_of_ble_eq_true rfl)), fun p10 np10 => ?_⟩
    have nLp10 : p10 ∉ L := fun z => hl9 p10 z np10
    have ks10 : Kp b G9 (upd G9 p10 (.lst (xs2 ++ [tx (es.map up1), .ref p7, .non, .int 0, .ref p8, .str (Str.ofString ""), tx (es ++ [32]), tx cols]))) := Kp.new Kp.rfl' np10
    have hB10 : Bag b bl (upd G9 p10 (.lst (xs2 ++ [tx (es.map up1), .ref p7, .non, .int 0, .ref p8, .str (Str.ofString ""), tx (es ++ [32]), tx cols]))) := hB9.new np10
    have hl10 : ∀ bb ∈ L, (upd G9 p10 (.lst (xs2 ++ [tx (es.map up1), .ref p7, .non, .int 0, .ref p8, .str (Str.ofString ""), tx (es ++ [32]), tx cols]))) bb ≠ none := new_all hl9
    have hop10 : (upd G9 p10 (.lst (xs2 ++ [tx (es.map up1), .ref p7, .non, .int 0, .ref p8, .str (Str.ofString ""), tx (es ++ [32]), tx cols]))) p10 = some (.lst (xs2 ++ [tx (es.map up1), .ref p7, .non, .int 0, .ref p8, .str (Str.ofString ""), tx (es ++ [32]), tx cols])) := upd_same
    generalize upd G9 p10 (.lst (xs2 ++ [tx (es.map up1), .ref p7, .non, .int 0, .ref p8, .str (Str.ofString ""), tx (es ++ [32]), tx cols])) = G10 at ks10 hB10 hl10 hop10 ⊢
    have ths3 : ∀ v ∈ xs2 ++ [tx (es.map up1), .ref p7, .non, .int 0, .ref p8, .str (Str.ofString ""), tx (es ++ [32]), tx cols], Th L G10 1 60 v := allApp (fun v hv => (ths2 v hv).kp ((((ks7).trans ks8).trans ks9).trans ks10) hbL) (fun v hv => (thq2 v hv).kp (ks10) hbL)
    have hn3 : (xs2 ++ [tx (es.map up1), .ref p7, .non, .int 0, .ref p8, .str (Str.ofString ""), tx (es ++ [32]), tx cols] : List V).length = 14 := by
      rw [List.length_append, hn2]
      rfl
    generalize xs2 ++ [tx (es.map up1), .ref p7, .non, .int 0, .ref p8, .str (Str.ofString ""), tx (es ++ [32]), tx cols] = xs3 at hop10 ths3 hn3 ⊢
    refine ⟨.ref b, rfl, tx cols, rfl, _, rfl, lz (by omega), b, bl, _, rfl, hB10, by rw [ecl]; omega, by rw [ecl]; omega, fun d11 G11 ks11 hB11 d11_0 d11_1 => ?_⟩
    have hl11 : ∀ bb ∈ L, G11 bb ≠ none := bag_all hl10 ks11 hB11
    rw [ecl] at d11_1
    obtain ⟨m, em⟩ : ∃ m : Nat, d11 = (m : Int) := ⟨d11.toNat, by omega⟩
    subst em
    refine ⟨.ref p10, rfl, tx es, rfl, .int m, rfl, tx es, rfl, _, rfl, lz (by omega), 1, _, rfl, ?_⟩
    have hX : (0 : Int) < (if ((⟨es.toArray⟩ : Str).length : Int) > 1 then ((⟨es.toArray⟩ : Str).length : Int) else 1) := by
      split <;> omega
    refine ⟨m, _, rfl, rfl, hX, ?_⟩
    obtain ⟨mm, emm⟩ : ∃ mm : Nat, (m : Int) % (if ((⟨es.toArray⟩ : Str).length : Int) > 1 then ((⟨es.toArray⟩ : Str).length : Int) else 1) = mm := ⟨_, (Int.toNat_of_nonneg (Int.emod_nonneg _ (by omega))).symm⟩
    refine ⟨es, mm, by rw [← emm]; rfl, hel, fun s1 hs1 hs1l => ?_⟩
    refine ⟨tx cols, rfl, .int m, rfl, cols, m, rfl, hc2, fun s2 hs2 hs2l => ?_⟩
    refine ⟨(by show 2 ≤ sizeLine; decide), fun p12 np12 => ?_⟩
    have nLp12 : p12 ∉ L := fun z => hl11 p12 z np12
    have ks12 : Kp b G11 (upd G11 p12 (.lst [tx s1, tx s2])) := Kp.new Kp.rfl' np12
    have hB12 : Bag b bl (upd G11 p12 (.lst [tx s1, tx s2])) := hB11.new np12
    have hl12 : ∀ bb ∈ L, (upd G11 p12 (.lst [tx s1, tx s2])) bb ≠ none := new_all hl11
    have hop12 : (upd G11 p12 (.lst [tx s1, tx s2])) p12 = some (.lst [tx s1, tx s2]) := upd_same
    generalize upd G11 p12 (.lst [tx s1, tx s2]) = G12 at ks12 hB12 hl12 hop12 ⊢
    have thq3 : ∀ v ∈ ([tx s1, tx s2] : List V), Th L G12 1 60 v := (allC (Th.tx (l := s1) (fun x h => hec9 x (hs1 x h)) (by first | omega | (simp only [List.length_append, List.length_cons, List.length_nil, List.length_reverse, List.length_take, List.length_drop, List.length_map]; omega))) (allC (Th.tx (l := s2) (fun x h => hcc9 x (hs2 x h)) (by first | omega | (simp only [List.length_append, List.length_cons, List.length_nil, List.length_reverse, List.length_take, List.length_drop, List.length_map]; omega))) all0))
    refine ⟨p10, p12, xs3, [tx s1, tx s2], rfl, rfl, ((ks11).trans ks12) _ _ (ne_in nLp10 hbL) hop10, hop12, by rw [hn3]; exact Nat.le_of_lt (small1000 (Nat.le_of_ble_eq_true rfl)), fun p13 np13 => ?_⟩
    have nLp13 : p13 ∉ L := fun z => hl12 p13 z np13
    have ks13 : Kp b G12 (upd G12 p13 (.lst (xs3 ++ [tx s1, tx s2]))) := Kp.new Kp.rfl' np13
    have hB13 : Bag b bl (upd G12 p13 (.lst (xs3 ++ [tx s1, tx s2]))) := hB12.new np13
    have hl13 : ∀ bb ∈ L, (upd G12 p13 (.lst (xs3 ++ [tx s1, tx s2]))) bb ≠ none := new_all hl12
    have hop13 : (upd G12 p13 (.lst (xs3 ++ [tx s1, tx s2]))) p13 = some (.lst (xs3 ++ [tx s1, tx s2])) := upd_same
    generalize upd G12 p13 (.lst (xs3 ++ [tx s1, tx s2])) = G13 at ks13 hB13 hl13 hop13 ⊢
    have ths4 : ∀ v ∈ xs3 ++ [tx s1, tx s2], Th L G13 1 60 v := allApp (fun v hv => (ths3 v hv).kp (((ks11).trans ks12).trans ks13) hbL) (fun v hv => (thq3 v hv).kp (ks13) hbL)
    have hn4 : (xs3 ++ [tx s1, tx s2] : List V).length = 16 := by
      rw [List.length_append, hn3]
      rfl
    generalize xs3 ++ [tx s1, tx s2] = xs4 at hop13 ths4 hn4 ⊢
    have htk : (es.take m).length ≤ 26 := Nat.le_trans (List.length_take_le' m es) hel
    have hdk : ∀ k, (es.drop k).length ≤ 26 := fun k => by
      rw [List.length_drop]
      omega
    have hdm := hdk m
    have hdm1 := hdk (m + 1)
    refine ⟨.ref p13, rfl, tx es, rfl, .int m, rfl, _, rfl, _, rfl, lz (by omega), ?_⟩
    rw [cut_take]
    refine ⟨sg o, rfl, ⟨(es.take m).toArray⟩, ⟨[o].toArray⟩, rfl, rfl, lz2 (by have e1 : [o].length = 1 := rfl; omega), ?_⟩
    rw [cat_tx (es.take m) [o]]
    refine ⟨tx es, rfl, .int m, rfl, _, 1, rfl, rfl, _, rfl, _, rfl, lz (by omega), ?_⟩
    rw [show ((m : Nat) : Int) + 1 = ((m + 1 : Nat) : Int) from rfl, cut_from es (m + 1)]
    refine ⟨⟨(es.take m ++ [o]).toArray⟩, ⟨(es.drop (m + 1)).toArray⟩, rfl, rfl, lz2 (by rw [List.length_append]; have e1 : [o].length = 1 := rfl; omega), ?_⟩
    rw [cat_tx (es.take m ++ [o]) (es.drop (m + 1))]
    refine ⟨tx es, rfl, .int m, rfl, _, rfl, _, rfl, lz (by omega), ?_⟩
    rw [cut_take]
    refine ⟨sg c, rfl, ⟨(es.take m).toArray⟩, ⟨[c].toArray⟩, rfl, rfl, lz2 (by have e1 : [c].length = 1 := rfl; omega), ?_⟩
    rw [cat_tx (es.take m) [c]]
    refine ⟨tx es, rfl, .int m, rfl, _, rfl, _, rfl, lz (by omega), ?_⟩
    rw [cut_from es m]
    refine ⟨⟨(es.take m ++ [c]).toArray⟩, ⟨(es.drop m).toArray⟩, rfl, rfl, lz2 (by rw [List.length_append]; have e1 : [c].length = 1 := rfl; omega), ?_⟩
    rw [cat_tx (es.take m ++ [c]) (es.drop m)]
    refine ⟨(by show 2 ≤ sizeLine; decide), fun p14 np14 => ?_⟩
    have nLp14 : p14 ∉ L := fun z => hl13 p14 z np14
    have ks14 : Kp b G13 (upd G13 p14 (.lst [tx (es.take m ++ [o] ++ es.drop (m + 1)), tx (es.take m ++ [c] ++ es.drop m)])) := Kp.new Kp.rfl' np14
    have hB14 : Bag b bl (upd G13 p14 (.lst [tx (es.take m ++ [o] ++ es.drop (m + 1)), tx (es.take m ++ [c] ++ es.drop m)])) := hB13.new np14
    have hl14 : ∀ bb ∈ L, (upd G13 p14 (.lst [tx (es.take m ++ [o] ++ es.drop (m + 1)), tx (es.take m ++ [c] ++ es.drop m)])) bb ≠ none := new_all hl13
    have hop14 : (upd G13 p14 (.lst [tx (es.take m ++ [o] ++ es.drop (m + 1)), tx (es.take m ++ [c] ++ es.drop m)])) p14 = some (.lst [tx (es.take m ++ [o] ++ es.drop (m + 1)), tx (es.take m ++ [c] ++ es.drop m)]) := upd_same
    generalize upd G13 p14 (.lst [tx (es.take m ++ [o] ++ es.drop (m + 1)), tx (es.take m ++ [c] ++ es.drop m)]) = G14 at ks14 hB14 hl14 hop14 ⊢
    have thq4 : ∀ v ∈ ([tx (es.take m ++ [o] ++ es.drop (m + 1)), tx (es.take m ++ [c] ++ es.drop m)] : List V), Th L G14 1 60 v := (allC (Th.tx (l := es.take m ++ [o] ++ es.drop (m + 1)) (allApp (allApp (fun x h => hec9 x (List.mem_of_mem_take h)) ho9) (fun x h => hec9 x (List.mem_of_mem_drop h))) (by rw [List.length_append, List.length_append]; have e1 : [o].length = 1 := rfl; omega)) (allC (Th.tx (l := es.take m ++ [c] ++ es.drop m) (allApp (allApp (fun x h => hec9 x (List.mem_of_mem_take h)) hc9) (fun x h => hec9 x (List.mem_of_mem_drop h))) (by rw [List.length_append, List.length_append]; have e1 : [c].length = 1 := rfl; omega)) all0))
    refine ⟨p13, p14, xs4, [tx (es.take m ++ [o] ++ es.drop (m + 1)), tx (es.take m ++ [c] ++ es.drop m)], rfl, rfl, (ks14) _ _ (ne_in nLp13 hbL) hop13, hop14, by rw [hn4]; exact Nat.le_of_lt (small1000 (Nat.le_of_ble_eq_true rfl)), fun p15 np15 => ?_⟩
    have nLp15 : p15 ∉ L := fun z => hl14 p15 z np15
    have ks15 : Kp b G14 (upd G14 p15 (.lst (xs4 ++ [tx (es.take m ++ [o] ++ es.drop (m + 1)), tx (es.take m ++ [c] ++ es.drop m)]))) := Kp.new Kp.rfl' np15
    have hB15 : Bag b bl (upd G14 p15 (.lst (xs4 ++ [tx (es.take m ++ [o] ++ es.drop (m + 1)), tx (es.take m ++ [c] ++ es.drop m)]))) := hB14.new np15
    have hl15 : ∀ bb ∈ L, (upd G14 p15 (.lst (xs4 ++ [tx (es.take m ++ [o] ++ es.drop (m + 1)), tx (es.take m ++ [c] ++ es.drop m)]))) bb ≠ none := new_all hl14
    have hop15 : (upd G14 p15 (.lst (xs4 ++ [tx (es.take m ++ [o] ++ es.drop (m + 1)), tx (es.take m ++ [c] ++ es.drop m)]))) p15 = some (.lst (xs4 ++ [tx (es.take m ++ [o] ++ es.drop (m + 1)), tx (es.take m ++ [c] ++ es.drop m)])) := upd_same
    generalize upd G14 p15 (.lst (xs4 ++ [tx (es.take m ++ [o] ++ es.drop (m + 1)), tx (es.take m ++ [c] ++ es.drop m)])) = G15 at ks15 hB15 hl15 hop15 ⊢
    have ths5 : ∀ v ∈ xs4 ++ [tx (es.take m ++ [o] ++ es.drop (m + 1)), tx (es.take m ++ [c] ++ es.drop m)], Th L G15 1 60 v := allApp (fun v hv => (ths4 v hv).kp ((ks14).trans ks15) hbL) (fun v hv => (thq4 v hv).kp (ks15) hbL)
    have hn5 : (xs4 ++ [tx (es.take m ++ [o] ++ es.drop (m + 1)), tx (es.take m ++ [c] ++ es.drop m)] : List V).length = 18 := by
      rw [List.length_append, hn4]
      rfl
    generalize xs4 ++ [tx (es.take m ++ [o] ++ es.drop (m + 1)), tx (es.take m ++ [c] ++ es.drop m)] = xs5 at hop15 ths5 hn5 ⊢
    refine ⟨sg c, rfl, sg o, rfl, ?_⟩
    refine ⟨tx rc, rfl, sg c, rfl, ⟨rc.toArray⟩, ⟨[c].toArray⟩, rfl, rfl, lz2 (by first | omega | (simp only [List.length_append, List.length_cons, List.length_nil, List.length_reverse, List.length_take, List.length_drop, List.length_map]; omega)), ?_⟩
    rw [cat_tx rc [c]]
    refine ⟨sg c, rfl, ⟨_, rfl⟩, ⟨[c].toArray⟩, rfl, rfl, (by show 1 ≤ _; decide), ?_⟩
    rw [upper_tx hc8]
    refine ⟨tx rc, rfl, _, rfl, lz (by omega), fun p16 np16 => ?_⟩
    rw [show (⟨rc.toArray⟩ : Str).cps.toList = rc by simp]
    have nLp16 : p16 ∉ L := fun z => hl15 p16 z np16
    have ks16 : Kp b G15 (upd G15 p16 (.lst (rc.map sg))) := Kp.new Kp.rfl' np16
    have hB16 : Bag b bl (upd G15 p16 (.lst (rc.map sg))) := hB15.new np16
    have hl16 : ∀ bb ∈ L, (upd G15 p16 (.lst (rc.map sg))) bb ≠ none := new_all hl15
    have hop16 : (upd G15 p16 (.lst (rc.map sg))) p16 = some (.lst (rc.map sg)) := upd_same
    generalize upd G15 p16 (.lst (rc.map sg)) = G16 at ks16 hB16 hl16 hop16 ⊢
    have tp16 : Th L G16 1 60 (.ref p16) := (Th.lst nLp16 hop16 (n := 0) (m := 1) (fun v hv => by obtain ⟨x, hx, rfl⟩ := List.mem_map.mp hv; exact Th.tx (l := [x]) (all1 (hrc9 x hx)) (Nat.le_refl 1))).mono (by decide) (by rw [List.length_map]; omega)
    refine ⟨sg c, rfl, sg o, rfl, ⟨[c].toArray⟩, ⟨[o].toArray⟩, rfl, rfl, lz2 (by first | omega | (simp only [List.length_append, List.length_cons, List.length_nil, List.length_reverse, List.length_take, List.length_drop, List.length_map]; omega)), ?_⟩
    rw [cat_tx [c] [o]]
    refine ⟨(by show 10 ≤ sizeLine; decide), fun p17 np17 => ?_⟩
    have nLp17 : p17 ∉ L := fun z => hl16 p17 z np17
    have ks17 : Kp b G16 (upd G16 p17 (.lst [sg c, sg o, tx (rc ++ [c]), tx ([c].map up1), .ref p16, .non, .str (Str.ofString ""), .bl true, tx ([c] ++ [o]), .str ⟨#[32]⟩])) := Kp.new Kp.rfl' np17
    have hB17 : Bag b bl (upd G16 p17 (.lst [sg c, sg o, tx (rc ++ [c]), tx ([c].map up1), .ref p16, .non, .str (Str.ofString ""), .bl true, tx ([c] ++ [o]), .str ⟨#[32]⟩])) := hB16.new np17
    have hl17 : ∀ bb ∈ L, (upd G16 p17 (.lst [sg c, sg o, tx (rc ++ [c]), tx ([c].map up1), .ref p16, .non, .str (Str.ofString ""), .bl true, tx ([c] ++ [o]), .str ⟨#[32]⟩])) bb ≠ none := new_all hl16
    have hop17 : (upd G16 p17 (.lst [sg c, sg o, tx (rc ++ [c]), tx ([c].map up1), .ref p16, .non, .str (Str.ofString ""), .bl true, tx ([c] ++ [o]), .str ⟨#[32]⟩])) p17 = some (.lst [sg c, sg o, tx (rc ++ [c]), tx ([c].map up1), .ref p16, .non, .str (Str.ofString ""), .bl true, tx ([c] ++ [o]), .str ⟨#[32]⟩]) := upd_same
    generalize upd G16 p17 (.lst [sg c, sg o, tx (rc ++ [c]), tx ([c].map up1), .ref p16, .non, .str (Str.ofString ""), .bl true, tx ([c] ++ [o]), .str ⟨#[32]⟩]) = G17 at ks17 hB17 hl17 hop17 ⊢
    have thm : ∀ v ∈ ([sg c, sg o, tx (rc ++ [c]), tx ([c].map up1), .ref p16, .non, .str (Str.ofString ""), .bl true, tx ([c] ++ [o]), .str ⟨#[32]⟩] : List V), Th L G17 1 60 v := (allC (Th.tx (l := [c]) (hc9) (by first | omega | (simp only [List.length_append, List.length_cons, List.length_nil, List.length_reverse, List.length_take, List.length_drop, List.length_map]; omega))) (allC (Th.tx (l := [o]) (ho9) (by first | omega | (simp only [List.length_append, List.length_cons, List.length_nil, List.length_reverse, List.length_take, List.length_drop, List.length_map]; omega))) (allC (Th.tx (l := rc ++ [c]) (allApp hrc9 hc9) (by first | omega | (simp only [List.length_append, List.length_cons, List.length_nil, List.length_reverse, List.length_take, List.length_drop, List.length_map]; omega))) (allC (Th.tx (l := [c].map up1) (fun x h => by obtain ⟨y, hy, rfl⟩ := List.mem_map.mp h; exact up1_small y (hc8 y hy)) (by show 1 ≤ 60; decide)) (allC ((tp16.kp (ks17) hbL)) (allC (Th.non) (allC (Th.tx (l := []) (by decide) (by decide)) (allC (Th.bl true) (allC (Th.tx (l := [c] ++ [o]) (allApp hc9 ho9) (by show 2 ≤ 60; decide)) (allC (Th.tx (l := [32]) (by decide) (by decide)) all0))))))))))
    have hnm : ([sg c, sg o, tx (rc ++ [c]), tx ([c].map up1), .ref p16, .non, .str (Str.ofString ""), .bl true, tx ([c] ++ [o]), .str ⟨#[32]⟩] : List V).length = 10 := rfl
    generalize [sg c, sg o, tx (rc ++ [c]), tx ([c].map up1), .ref p16, .non, .str (Str.ofString ""), .bl true, tx ([c] ++ [o]), .str ⟨#[32]⟩] = ms at hop17 thm hnm ⊢
    refine ⟨.ref b, rfl, b, bl, 4, rfl, hB17, by decide, by decide, fun d18 G18 ks18 hB18 d18_0 d18_1 => ?_⟩
    have hl18 : ∀ bb ∈ L, G18 bb ≠ none := bag_all hl17 ks18 hB18
    refine ⟨.int d18, rfl, rfl, _, rfl, ite2 (fun w0 => ?_) (fun w0 => ?_)⟩
    · skip
      refine ⟨.ref p15, rfl, .ref b, rfl, b, bl, 18, rfl, hB18, by decide, by decide, fun d19 G19 ks19 hB19 d19_0 d19_1 => ?_⟩
      have hl19 : ∀ bb ∈ L, G19 bb ≠ none := bag_all hl18 ks19 hB19
      obtain ⟨sv, atsv, tsv⟩ := Th.at (L := L) (H := G19) (n := 1) (m := 60) (vs := xs5) (fun v hv => (ths5 v hv).kp ((((ks16).trans ks17).trans ks18).trans ks19) hbL) d19_0 (by rw [hn5]; exact d19_1)
      refine ⟨p15, xs5, d19, sv, rfl, rfl, .inl (.inl (((((ks16).trans ks17).trans ks18).trans ks19) _ _ (ne_in nLp15 hbL) hop15)), atsv, tx rc, rfl, (by show 2 ≤ sizeLine; decide), fun p20 np20 => ?_⟩
      have nLp20 : p20 ∉ L := fun z => hl19 p20 z np20
      have ks20 : Kp b G19 (upd G19 p20 (.tup [sv, tx rc])) := Kp.new Kp.rfl' np20
      have hB20 : Bag b bl (upd G19 p20 (.tup [sv, tx rc])) := hB19.new np20
      have hl20 : ∀ bb ∈ L, (upd G19 p20 (.tup [sv, tx rc])) bb ≠ none := new_all hl19
      have hop20 : (upd G19 p20 (.tup [sv, tx rc])) p20 = some (.tup [sv, tx rc]) := upd_same
      generalize upd G19 p20 (.tup [sv, tx rc]) = G20 at ks20 hB20 hl20 hop20 ⊢
      exact q _ _ ((((((((((((((((((((ks1).trans ks2).trans ks3).trans ks4).trans ks5).trans ks6).trans ks7).trans ks8).trans ks9).trans ks10).trans ks11).trans ks12).trans ks13).trans ks14).trans ks15).trans ks16).trans ks17).trans ks18).trans ks19).trans ks20) hB20 ((Th.tup nLp20 hop20 (n := 1) (m := 60) (allC ((tsv.kp (ks20) hbL)) (allC (Th.tx hrc9 (by omega)) all0))).mono (by decide) (Nat.le_of_ble_eq_true rfl))
    refine ⟨.int d18, rfl, rfl, _, rfl, ite2 (fun w1 => ?_) (fun w1 => ?_)⟩
    · skip
      refine ⟨tx es, rfl, ?_⟩
      refine ⟨.ref p17, rfl, .ref b, rfl, b, bl, 10, rfl, hB18, by decide, by decide, fun d19 G19 ks19 hB19 d19_0 d19_1 => ?_⟩
      have hl19 : ∀ bb ∈ L, G19 bb ≠ none := bag_all hl18 ks19 hB19
      obtain ⟨mv, atmv, tmv⟩ := Th.at (L := L) (H := G19) (n := 1) (m := 60) (vs := ms) (fun v hv => (thm v hv).kp ((ks18).trans ks19) hbL) d19_0 (by rw [hnm]; exact d19_1)
      refine ⟨p17, ms, d19, mv, rfl, rfl, .inl (.inl (((ks18).trans ks19) _ _ (ne_in nLp17 hbL) hop17)), atmv, (by show 2 ≤ sizeLine; decide), fun p20 np20 => ?_⟩
      have nLp20 : p20 ∉ L := fun z => hl19 p20 z np20
      have ks20 : Kp b G19 (upd G19 p20 (.tup [tx es, mv])) := Kp.new Kp.rfl' np20
      have hB20 : Bag b bl (upd G19 p20 (.tup [tx es, mv])) := hB19.new np20
      have hl20 : ∀ bb ∈ L, (upd G19 p20 (.tup [tx es, mv])) bb ≠ none := new_all hl19
      have hop20 : (upd G19 p20 (.tup [tx es, mv])) p20 = some (.tup [tx es, mv]) := upd_same
      generalize upd G19 p20 (.tup [tx es, mv]) = G20 at ks20 hB20 hl20 hop20 ⊢
      exact q _ _ ((((((((((((((((((((ks1).trans ks2).trans ks3).trans ks4).trans ks5).trans ks6).trans ks7).trans ks8).trans ks9).trans ks10).trans ks11).trans ks12).trans ks13).trans ks14).trans ks15).trans ks16).trans ks17).trans ks18).trans ks19).trans ks20) hB20 ((Th.tup nLp20 hop20 (n := 1) (m := 60) (allC (Th.tx hec9 (by omega)) (allC ((tmv.kp (ks20) hbL)) all0))).mono (by decide) (Nat.le_of_ble_eq_true rfl))
    refine ⟨.int d18, rfl, rfl, _, rfl, ite2 (fun w2 => ?_) (fun w2 => ?_)⟩
    · skip
      refine ⟨.ref p15, rfl, .ref b, rfl, b, bl, 18, rfl, hB18, by decide, by decide, fun d19 G19 ks19 hB19 d19_0 d19_1 => ?_⟩
      have hl19 : ∀ bb ∈ L, G19 bb ≠ none := bag_all hl18 ks19 hB19
      obtain ⟨sv, atsv, tsv⟩ := Th.at (L := L) (H := G19) (n := 1) (m := 60) (vs := xs5) (fun v hv => (ths5 v hv).kp ((((ks16).trans ks17).trans ks18).trans ks19) hbL) d19_0 (by rw [hn5]; exact d19_1)
      refine ⟨p15, xs5, d19, sv, rfl, rfl, .inl (.inl (((((ks16).trans ks17).trans ks18).trans ks19) _ _ (ne_in nLp15 hbL) hop15)), atsv, ?_⟩
      refine ⟨.ref p17, rfl, .ref b, rfl, b, bl, 10, rfl, hB19, by decide, by decide, fun d20 G20 ks20 hB20 d20_0 d20_1 => ?_⟩
      have hl20 : ∀ bb ∈ L, G20 bb ≠ none := bag_all hl19 ks20 hB20
      obtain ⟨mv, atmv, tmv⟩ := Th.at (L := L) (H := G20) (n := 1) (m := 60) (vs := ms) (fun v hv => (thm v hv).kp (((ks18).trans ks19).trans ks20) hbL) d20_0 (by rw [hnm]; exact d20_1)
      refine ⟨p17, ms, d20, mv, rfl, rfl, .inl (.inl ((((ks18).trans ks19).trans ks20) _ _ (ne_in nLp17 hbL) hop17)), atmv, (by show 2 ≤ sizeLine; decide), fun p21 np21 => ?_⟩
      have nLp21 : p21 ∉ L := fun z => hl20 p21 z np21
      have ks21 : Kp b G20 (upd G20 p21 (.tup [sv, mv])) := Kp.new Kp.rfl' np21
      have hB21 : Bag b bl (upd G20 p21 (.tup [sv, mv])) := hB20.new np21
      have hl21 : ∀ bb ∈ L, (upd G20 p21 (.tup [sv, mv])) bb ≠ none := new_all hl20
      have hop21 : (upd G20 p21 (.tup [sv, mv])) p21 = some (.tup [sv, mv]) := upd_same
      generalize upd G20 p21 (.tup [sv, mv]) = G21 at ks21 hB21 hl21 hop21 ⊢
      exact q _ _ (((((((((((((((((((((ks1).trans ks2).trans ks3).trans ks4).trans ks5).trans ks6).trans ks7).trans ks8).trans ks9).trans ks10).trans ks11).trans ks12).trans ks13).trans ks14).trans ks15).trans ks16).trans ks17).trans ks18).trans ks19).trans ks20).trans ks21) hB21 ((Th.tup nLp21 hop21 (n := 1) (m := 60) (allC ((tsv.kp ((ks20).trans ks21) hbL)) (allC ((tmv.kp (ks21) hbL)) all0))).mono (by decide) (Nat.le_of_ble_eq_true rfl))
    refine ⟨tx es, rfl, tx rc, rfl, (by show 2 ≤ sizeLine; decide), fun p19 np19 => ?_⟩
    have nLp19 : p19 ∉ L := fun z => hl18 p19 z np19
    have ks19 : Kp b G18 (upd G18 p19 (.lst [tx es, tx rc])) := Kp.new Kp.rfl' np19
    have hB19 : Bag b bl (upd G18 p19 (.lst [tx es, tx rc])) := hB18.new np19
    have hl19 : ∀ bb ∈ L, (upd G18 p19 (.lst [tx es, tx rc])) bb ≠ none := new_all hl18
    have hop19 : (upd G18 p19 (.lst [tx es, tx rc])) p19 = some (.lst [tx es, tx rc]) := upd_same
    generalize upd G18 p19 (.lst [tx es, tx rc]) = G19 at ks19 hB19 hl19 hop19 ⊢
    have tp19 : Th L G19 2 200 (.ref p19) := (Th.lst nLp19 hop19 (n := 0) (m := 26) (allC (Th.tx hec9 (by omega)) (allC (Th.tx hrc9 (by omega)) all0))).mono (by decide) (Nat.le_of_ble_eq_true rfl)
    refine ⟨tx es, rfl, (by show 1 ≤ sizeLine; decide), fun p20 np20 => ?_⟩
    have nLp20 : p20 ∉ L := fun z => hl19 p20 z np20
    have ks20 : Kp b G19 (upd G19 p20 (.tup [tx es])) := Kp.new Kp.rfl' np20
    have hB20 : Bag b bl (upd G19 p20 (.tup [tx es])) := hB19.new np20
    have hl20 : ∀ bb ∈ L, (upd G19 p20 (.tup [tx es])) bb ≠ none := new_all hl19
    have hop20 : (upd G19 p20 (.tup [tx es])) p20 = some (.tup [tx es]) := upd_same
    generalize upd G19 p20 (.tup [tx es]) = G20 at ks20 hB20 hl20 hop20 ⊢
    have tp20 : Th L G20 2 200 (.ref p20) := (Th.tup nLp20 hop20 (n := 0) (m := 26) (allC (Th.tx hec9 (by omega)) all0)).mono (by decide) (Nat.le_of_ble_eq_true rfl)
    refine ⟨tx es, rfl, tx rc, rfl, (by show 3 ≤ sizeLine; decide), fun p21 np21 => ?_⟩
    have nLp21 : p21 ∉ L := fun z => hl20 p21 z np21
    have ks21 : Kp b G20 (upd G20 p21 (.tup [tx es, tx rc, .str (Str.ofString "")])) := Kp.new Kp.rfl' np21
    have hB21 : Bag b bl (upd G20 p21 (.tup [tx es, tx rc, .str (Str.ofString "")])) := hB20.new np21
    have hl21 : ∀ bb ∈ L, (upd G20 p21 (.tup [tx es, tx rc, .str (Str.ofString "")])) bb ≠ none := new_all hl20
    have hop21 : (upd G20 p21 (.tup [tx es, tx rc, .str (Str.ofString "")])) p21 = some (.tup [tx es, tx rc, .str (Str.ofString "")]) := upd_same
    generalize upd G20 p21 (.tup [tx es, tx rc, .str (Str.ofString "")]) = G21 at ks21 hB21 hl21 hop21 ⊢
    have tp21 : Th L G21 2 200 (.ref p21) := (Th.tup nLp21 hop21 (n := 0) (m := 26) (allC (Th.tx hec9 (by omega)) (allC (Th.tx hrc9 (by omega)) (allC (Th.tx (l := []) (by decide) (by decide)) all0)))).mono (by decide) (Nat.le_of_ble_eq_true rfl)
    refine ⟨tx es, rfl, tx rc, rfl, ⟨es.toArray⟩, ⟨rc.toArray⟩, rfl, rfl, lz2 (by first | omega | (simp only [List.length_append, List.length_cons, List.length_nil, List.length_reverse, List.length_take, List.length_drop, List.length_map]; omega)), ?_⟩
    rw [cat_tx es rc]
    refine ⟨(by show 0 ≤ sizeLine; decide), fun p22 np22 => ?_⟩
    have nLp22 : p22 ∉ L := fun z => hl21 p22 z np22
    have ks22 : Kp b G21 (upd G21 p22 (.tup [])) := Kp.new Kp.rfl' np22
    have hB22 : Bag b bl (upd G21 p22 (.tup [])) := hB21.new np22
    have hl22 : ∀ bb ∈ L, (upd G21 p22 (.tup [])) bb ≠ none := new_all hl21
    have hop22 : (upd G21 p22 (.tup [])) p22 = some (.tup []) := upd_same
    generalize upd G21 p22 (.tup []) = G22 at ks22 hB22 hl22 hop22 ⊢
    have tp22 : Th L G22 2 200 (.ref p22) := (Th.tup nLp22 hop22 (n := 0) (m := 0) all0).mono (by decide) (Nat.le_of_ble_eq_true rfl)
    refine ⟨(by show 6 ≤ sizeLine; decide), fun p23 np23 => ?_⟩
    have nLp23 : p23 ∉ L := fun z => hl22 p23 z np23
    have ks23 : Kp b G22 (upd G22 p23 (.lst [.ref p19, .ref p20, .ref p21, .non, tx (es ++ rc), .ref p22])) := Kp.new Kp.rfl' np23
    have hB23 : Bag b bl (upd G22 p23 (.lst [.ref p19, .ref p20, .ref p21, .non, tx (es ++ rc), .ref p22])) := hB22.new np23
    have hl23 : ∀ bb ∈ L, (upd G22 p23 (.lst [.ref p19, .ref p20, .ref p21, .non, tx (es ++ rc), .ref p22])) bb ≠ none := new_all hl22
    have hop23 : (upd G22 p23 (.lst [.ref p19, .ref p20, .ref p21, .non, tx (es ++ rc), .ref p22])) p23 = some (.lst [.ref p19, .ref p20, .ref p21, .non, tx (es ++ rc), .ref p22]) := upd_same
    generalize upd G22 p23 (.lst [.ref p19, .ref p20, .ref p21, .non, tx (es ++ rc), .ref p22]) = G23 at ks23 hB23 hl23 hop23 ⊢
    refine ⟨.ref p23, rfl, tx es, rfl, tx rc, rfl, (by show 2 ≤ sizeLine; decide), fun p24 np24 => ?_⟩
    have nLp24 : p24 ∉ L := fun z => hl23 p24 z np24
    have ks24 : Kp b G23 (upd G23 p24 (.tup [tx es, tx rc])) := Kp.new Kp.rfl' np24
    have hB24 : Bag b bl (upd G23 p24 (.tup [tx es, tx rc])) := hB23.new np24
    have hl24 : ∀ bb ∈ L, (upd G23 p24 (.tup [tx es, tx rc])) bb ≠ none := new_all hl23
    have hop24 : (upd G23 p24 (.tup [tx es, tx rc])) p24 = some (.tup [tx es, tx rc]) := upd_same
    generalize upd G23 p24 (.tup [tx es, tx rc]) = G24 at ks24 hB24 hl24 hop24 ⊢
    have tp24 : Th L G24 1 54 (.ref p24) := (Th.tup nLp24 hop24 (n := 0) (m := 26) (allC (Th.tx hec9 (by omega)) (allC (Th.tx hrc9 (by omega)) all0))).mono (by decide) (Nat.le_of_ble_eq_true rfl)
    refine ⟨(by show 1 ≤ sizeLine; decide), fun p25 np25 => ?_⟩
    have nLp25 : p25 ∉ L := fun z => hl24 p25 z np25
    have ks25 : Kp b G24 (upd G24 p25 (.tup [.ref p24])) := Kp.new Kp.rfl' np25
    have hB25 : Bag b bl (upd G24 p25 (.tup [.ref p24])) := hB24.new np25
    have hl25 : ∀ bb ∈ L, (upd G24 p25 (.tup [.ref p24])) bb ≠ none := new_all hl24
    have hop25 : (upd G24 p25 (.tup [.ref p24])) p25 = some (.tup [.ref p24]) := upd_same
    generalize upd G24 p25 (.tup [.ref p24]) = G25 at ks25 hB25 hl25 hop25 ⊢
    have tp25 : Th L G25 2 200 (.ref p25) := (Th.tup nLp25 hop25 (n := 1) (m := 54) (allC ((tp24.kp (ks25) hbL)) all0)).mono (by decide) (Nat.le_of_ble_eq_true rfl)
    refine ⟨10, 59, rfl, rfl, ⟨by decide, by decide, by decide⟩, tx rc, rfl, tx es, rfl, (by show 2 ≤ sizeLine; decide), fun p26 np26 => ?_⟩
    have nLp26 : p26 ∉ L := fun z => hl25 p26 z np26
    have ks26 : Kp b G25 (upd G25 p26 (.tup [tx rc, tx es])) := Kp.new Kp.rfl' np26
    have hB26 : Bag b bl (upd G25 p26 (.tup [tx rc, tx es])) := hB25.new np26
    have hl26 : ∀ bb ∈ L, (upd G25 p26 (.tup [tx rc, tx es])) bb ≠ none := new_all hl25
    have hop26 : (upd G25 p26 (.tup [tx rc, tx es])) p26 = some (.tup [tx rc, tx es]) := upd_same
    generalize upd G25 p26 (.tup [tx rc, tx es]) = G26 at ks26 hB26 hl26 hop26 ⊢
    have tp26 : Th L G26 2 200 (.ref p26) := (Th.tup nLp26 hop26 (n := 0) (m := 26) (allC (Th.tx hrc9 (by omega)) (allC (Th.tx hec9 (by omega)) all0))).mono (by decide) (Nat.le_of_ble_eq_true rfl)
    refine ⟨(by show 3 ≤ sizeLine; decide), fun p27 np27 => ?_⟩
    have nLp27 : p27 ∉ L := fun z => hl26 p27 z np27
    have ks27 : Kp b G26 (upd G26 p27 (.lst [.ref p25, .int ((10 : Int) ^ (59 : Int).toNat), .ref p26])) := Kp.new Kp.rfl' np27
    have hB27 : Bag b bl (upd G26 p27 (.lst [.ref p25, .int ((10 : Int) ^ (59 : Int).toNat), .ref p26])) := hB26.new np27
    have hl27 : ∀ bb ∈ L, (upd G26 p27 (.lst [.ref p25, .int ((10 : Int) ^ (59 : Int).toNat), .ref p26])) bb ≠ none := new_all hl26
    have hop27 : (upd G26 p27 (.lst [.ref p25, .int ((10 : Int) ^ (59 : Int).toNat), .ref p26])) p27 = some (.lst [.ref p25, .int ((10 : Int) ^ (59 : Int).toNat), .ref p26]) := upd_same
    generalize upd G26 p27 (.lst [.ref p25, .int ((10 : Int) ^ (59 : Int).toNat), .ref p26]) = G27 at ks27 hB27 hl27 hop27 ⊢
    refine ⟨p23, p27, [.ref p19, .ref p20, .ref p21, .non, tx (es ++ rc), .ref p22], [.ref p25, .int ((10 : Int) ^ (59 : Int).toNat), .ref p26], rfl, rfl, ((((ks24).trans ks25).trans ks26).trans ks27) _ _ (ne_in nLp23 hbL) hop23, hop27, (by show 9 ≤ sizeLine; decide), fun p28 np28 => ?_⟩
    have nLp28 : p28 ∉ L := fun z => hl27 p28 z np28
    have ks28 : Kp b G27 (upd G27 p28 (.lst ([.ref p19, .ref p20, .ref p21, .non, tx (es ++ rc), .ref p22] ++ [.ref p25, .int ((10 : Int) ^ (59 : Int).toNat), .ref p26]))) := Kp.new Kp.rfl' np28
    have hB28 : Bag b bl (upd G27 p28 (.lst ([.ref p19, .ref p20, .ref p21, .non, tx (es ++ rc), .ref p22] ++ [.ref p25, .int ((10 : Int) ^ (59 : Int).toNat), .ref p26]))) := hB27.new np28
    have hl28 : ∀ bb ∈ L, (upd G27 p28 (.lst ([.ref p19, .ref p20, .ref p21, .non, tx (es ++ rc), .ref p22] ++ [.ref p25, .int ((10 : Int) ^ (59 : Int).toNat), .ref p26]))) bb ≠ none := new_all hl27
    have hop28 : (upd G27 p28 (.lst ([.ref p19, .ref p20, .ref p21, .non, tx (es ++ rc), .ref p22] ++ [.ref p25, .int ((10 : Int) ^ (59 : Int).toNat), .ref p26]))) p28 = some (.lst ([.ref p19, .ref p20, .ref p21, .non, tx (es ++ rc), .ref p22] ++ [.ref p25, .int ((10 : Int) ^ (59 : Int).toNat), .ref p26])) := upd_same
    generalize upd G27 p28 (.lst ([.ref p19, .ref p20, .ref p21, .non, tx (es ++ rc), .ref p22] ++ [.ref p25, .int ((10 : Int) ^ (59 : Int).toNat), .ref p26])) = G28 at ks28 hB28 hl28 hop28 ⊢
    have tho : ∀ v ∈ ([.ref p19, .ref p20, .ref p21, .non, tx (es ++ rc), .ref p22] ++ [.ref p25, .int ((10 : Int) ^ (59 : Int).toNat), .ref p26] : List V), Th L G28 2 200 v := allApp (allC ((tp19.kp (((((((((ks20).trans ks21).trans ks22).trans ks23).trans ks24).trans ks25).trans ks26).trans ks27).trans ks28) hbL)) (allC ((tp20.kp ((((((((ks21).trans ks22).trans ks23).trans ks24).trans ks25).trans ks26).trans ks27).trans ks28) hbL)) (allC ((tp21.kp (((((((ks22).trans ks23).trans ks24).trans ks25).trans ks26).trans ks27).trans ks28) hbL)) (allC (Th.non) (allC (Th.tx (l := es ++ rc) (allApp hec9 hrc9) (by first | omega | (simp only [List.length_append, List.length_cons, List.length_nil, List.length_reverse, List.length_take, List.length_drop, List.length_map]; omega))) (allC ((tp22.kp ((((((ks23).trans ks24).trans ks25).trans ks26).trans ks27).trans ks28) hbL)) all0)))))) (allC ((tp25.kp (((ks26).trans ks27).trans ks28) hbL)) (allC (Th.int (by decide) (by decide)) (allC ((tp26.kp ((ks27).trans ks28) hbL)) all0)))
    have hno : ([.ref p19, .ref p20, .ref p21, .non, tx (es ++ rc), .ref p22] ++ [.ref p25, .int ((10 : Int) ^ (59 : Int).toNat), .ref p26] : List V).length = 9 := rfl
    generalize ([.ref p19, .ref p20, .ref p21, .non, tx (es ++ rc), .ref p22] ++ [.ref p25, .int ((10 : Int) ^ (59 : Int).toNat), .ref p26] : List V) = os at hop28 tho hno ⊢
    refine ⟨.ref p28, rfl, .ref b, rfl, b, bl, 9, rfl, hB28, by decide, by decide, fun d29 G29 ks29 hB29 d29_0 d29_1 => ?_⟩
    have hl29 : ∀ bb ∈ L, G29 bb ≠ none := bag_all hl28 ks29 hB29
    obtain ⟨ov, atov, tov⟩ := Th.at (L := L) (H := G29) (n := 2) (m := 200) (vs := os) (fun v hv => (tho v hv).kp (ks29) hbL) d29_0 (by rw [hno]; exact d29_1)
    refine ⟨p28, os, d29, ov, rfl, rfl, .inl (.inl ((ks29) _ _ (ne_in nLp28 hbL) hop28)), atov, ?_⟩
    exact q _ _ (((((((((((((((((((((((((((((ks1).trans ks2).trans ks3).trans ks4).trans ks5).trans ks6).trans ks7).trans ks8).trans ks9).trans ks10).trans ks11).trans ks12).trans ks13).trans ks14).trans ks15).trans ks16).trans ks17).trans ks18).trans ks19).trans ks20).trans ks21).trans ks22).trans ks23).trans ks24).trans ks25).trans ks26).trans ks27).trans ks28).trans ks29) hB29 (tov.mono (by decide) (by decide))

/-! ### the law -/
theorem Bag.lst {b bl : Addr} {H : Hp} (h : Bag b bl H) : ∃ xs, H b = some (.lst xs) := by
  obtain ⟨ns, k, n, _, h1, _⟩ := h
  exact ⟨_, h1⟩
theorem Bag.sx {b bl : Addr} {Ps : List Addr} {H H' : Hp} (h : Bag b bl H) (tg : TG Ps H) (sx : Sx Ps H H') : Bag b bl H' := by
  obtain ⟨ns, k, n, e, h1, h2⟩ := h
  exact ⟨ns, k, n, e, sx.lst tg h1, sx.lst tg h2⟩
theorem Bag.tg {b bl : Addr} {Ps : List Addr} {H H' : Hp} (h : Bag b bl H) (tg : TG Ps H) (kp : Kp b H H') : TG Ps H' := by
  obtain ⟨xs, h1⟩ := h.lst
  exact tg.kp h1 kp
theorem need_ok {cols es rc : List Nat} (h : NOk cols es rc) : needL cols es rc = true := by
  have h1 : risB es = true := (risB_pw es).mpr h.up
  have h0 : ¬ (es = [] ∧ rc = []) := fun z => h.some.elim (fun y => y z.1) (fun y => y z.2)
  rw [need_looked cols es rc h0 (allApp h.sub fun c hc => (h.rsub c hc).1) h1]
  have h2 : rc.length < 2 := by
    have := h.one
    omega
  have h3 : ¬ ∃ c ∈ es, rc = [c] := fun ⟨c, hc, e⟩ => (h.rsub c (by rw [e]; simp)).2 hc
  rw [decide_eq_true h2, decide_eq_false h3]
  simp
def spLaw (K : PySem.W.Frag) (Z : Ad) : Sp := fun vs H Q _ => ∃ (a : Addr) (ns : List Int), vs = [.ref a] ∧ SqL K H a (ns.map V.int) ∧ ns.length ≤ 63 ∧ (∀ P ∈ Z.Ps, GxR.TabG H P) ∧ ∀ H', Q (.bl true) H'
set_option maxHeartbeats 16000000 in
theorem ok_law (T : Tx K mg Z) (TB : Tb base mg Z) : FnG P w K mg base 10 Z.f_law Z.d_law ["script"] (spLaw K Z) := by
  have G_l_bag : FnOk P w K mg base CX0 1 Z.f_l_bag Z.d_l_bag ["script"] (spBag K) := ok_bag T
  have G_l_columns : FnOk P w K mg base CX0 2 Z.f_l_columns Z.d_l_columns ["bag", "most"] (spColumns K) := ok_columns T
  have G_l_need : FnOk P w K mg base CX0 2 Z.f_l_need Z.d_l_need ["bag", "columns"] (spNeed K) := ok_need T
  have G_is_need : FnOk P w K mg base CX0 5 Z.f_is_need Z.d_is_need ["columns", "thing"] (spIsNeed K Z) := ok_isneed T TB
  have G_l_due : FnOk P w K mg base CX0 1 Z.f_l_due Z.d_l_due ["columns", "thing"] (spLdue K) := ok_ldue T
  have G_l_bent : FnOk P w K mg base CX0 2 Z.f_l_bent Z.d_l_bent ["bag", "columns", "need"] (spBent K) := ok_bent T
  refine okG T.F_law sc_law (fun vs H Q E h => ?_) (fun cdv A outer s H vs Q E hgd hr h => ?_)
  · obtain ⟨a, ns, rfl, _⟩ := h
    rfl
  · obtain ⟨a, ns, rfl, hS, hlen, tgA, q⟩ := h
    have tg : TG Z.Ps H := tgA
    refine ⟨_, (pss_cons (ps_set (i := 1) sc_law.nd rfl (.inl rfl) (pe_call G_l_bag (hr.mono (by omega)) (by rfl) T.g_l_bag T.F_l_bag.kp T.b_l_bag .nil pass0 (pa_cons (pv 0) pa_nil)))
      (pss_cons (ps_for PassesOwn.never rfl (pi_range1 (by rfl) T.m_range (pa_cons pe_int pa_nil)) (pg_name (i := 2) sc_law.nd rfl (.inl rfl)) (pss_cons (ps_set (i := 3) sc_law.nd rfl (.inl rfl) (pe_call G_l_columns (hr.mono (by omega)) (by rfl) T.g_l_columns T.F_l_columns.kp T.b_l_columns .nil pass0 (pa_cons (pv 1) (pa_cons pe_int pa_nil))))
      (pss_cons (ps_set (i := 4) sc_law.nd rfl (.inl rfl) (pe_call G_l_need (hr.mono (by omega)) (by rfl) T.g_l_need T.F_l_need.kp T.b_l_need .nil pass0 (pa_cons (pv 1) (pa_cons (pv 3) pa_nil))))
      (pss_cons (ps_if (pt_cmpR op_isnot_bl (pe_call G_is_need (hr.mono (by omega)) (by rfl) T.g_is_need T.F_is_need.kp T.b_is_need .nil pass0 (pa_cons (pv 3) (pa_cons (pv 4) pa_nil))) pe_bl (nomark _)) (pss_one (ps_ret pe_bl)) pss_nil)
      (pss_one (ps_for PassesOwn.never rfl (pi_range1 (by rfl) T.m_range (pa_cons pe_int pa_nil)) (pg_name (i := 5) sc_law.nd rfl (.inl rfl)) (pss_cons (ps_set (i := 6) sc_law.nd rfl (.inl rfl) (pe_call G_l_bent (hr.mono (by omega)) (by rfl) T.g_l_bent T.F_l_bent.kp T.b_l_bent .nil pass0 (pa_cons (pv 1) (pa_cons (pv 3) (pa_cons (pv 4) pa_nil)))))
      (pss_cons (ps_set (i := 7) sc_law.nd rfl (.inl rfl) (pe_callB (cReprK K hgd hr) (by rfl) T.m_repr (by decide +kernel) (pa_cons (pv 6) pa_nil)))
      (pss_cons (ps_set (i := 8) sc_law.nd rfl (.inl rfl) (pe_call G_is_need (hr.mono (by omega)) (by rfl) T.g_is_need T.F_is_need.kp T.b_is_need .nil pass0 (pa_cons (pv 3) (pa_cons (pv 6) pa_nil))))
      (pss_one (ps_if (PW.pt (pw_or (pt_not (pt_val (pe_callB (isiK K) (by rfl) T.m_isinstance (by decide +kernel) (pa_cons (pv 8) (pa_cons (pe_bltn (v := .ty "bool") (by rfl) T.m_bool (by decide +kernel) rfl) pa_nil))))) (pw_or (pt_cmpR op_ne (pv 8) (pe_call G_l_due (hr.mono (by omega)) (by rfl) T.g_l_due T.F_l_due.kp T.b_l_due .nil pass0 (pa_cons (pv 3) (pa_cons (pv 6) pa_nil))) (nomark _)) (pw_or1 (pt_cmpR op_ne (pe_callB (cReprK K hgd hr) (by rfl) T.m_repr (by decide +kernel) (pa_cons (pv 6) pa_nil)) (pv 7) (nomark _)))))) (pss_one (ps_ret pe_bl)) pss_nil)))))))))))
      (pss_one (ps_ret pe_bl)))), ?_⟩
    refine ⟨.ref a, rfl, a, ns, rfl, hS, hlen, fun b bl H1 sm1 nb nbl hB1 => ?_⟩
    have tg1 := tg.same sm1
    refine ⟨4, rfl, by decide, by decide, for_range (fun i σ H' => ∃ y2 y3 y4 y5 y6 y7 y8 : Option V, σ = [some (.ref a), some (.ref b), y2, y3, y4, y5, y6, y7, y8] ∧ Bag b bl H' ∧ TG Z.Ps H') ⟨_, _, _, _, _, _, _, rfl, hB1, tg1⟩ (fun i σ H2 hi hP => ?_) (fun σ H2 hP => q H2)⟩
    obtain ⟨y2, y3, y4, y5, y6, y7, y8, rfl, hB2, tg2⟩ := hP
    refine ⟨.ref b, rfl, b, bl, 8, rfl, hB2, by decide, by decide, fun cols H3 kp3 hB3 hc hc1 hc2 => ?_⟩
    have tg3 := hB2.tg tg2 kp3
    refine ⟨.ref b, rfl, tx cols, rfl, b, bl, cols, rfl, hB3, hc, hc1, by omega, fun es rc na H4 kp4 hB4 nna hna hok => ?_⟩
    have tg4 := hB3.tg tg3 kp4
    have hcc : ∀ c ∈ cols, c < 128 := fun c h => by
      have := (hc.az c h).2
      omega
    have hec : ∀ c ∈ es, c < 128 := fun c h => hcc c (hok.sub c h)
    have hrc : ∀ c ∈ rc, c < 128 := fun c h => hcc c (hok.rsub c h).1
    have hel : es.length ≤ 8 := by
      have := nodup_sub_len (hok.up.imp fun h => Nat.ne_of_lt h) hok.sub
      omega
    have hrl := hok.one
    have up9 : ∀ l : List Nat, (∀ c ∈ l, c < 128) → ∀ c ∈ l, c < 1000 := fun l h c hc => by
      have := h c hc
      omega
    have nnb : na ≠ b := (hB3.ne nna).1
    have nnP : na ∉ Z.Ps := tg4.not hna fun q z => nomatch z
    have nnL : na ∉ b :: Z.Ps := fun z => (List.mem_cons.mp z).elim nnb nnP
    have hPs : ∀ c ∈ Z.Ps, c ∈ b :: Z.Ps := fun c h => List.mem_cons_of_mem _ h
    have shn : Sh 20 400 (.tuple [.str (txS es), .str (txS rc)]) := (Sh.tup (n := 0) (m := 8) (allC (Sh.str (up9 es hec) hel) (allC (Sh.str (up9 rc hrc) (by omega)) all0))).mono (by decide) (Nat.le_of_ble_eq_true rfl)
    refine ⟨tx cols, rfl, .ref na, rfl, cols, .ref na, .tuple [.str (txS es), .str (txS rc)], rfl, tg4, .tup hna (.cons (.str _) (.cons (.str _) .nil)), shn, fun H5 sx5 tg5 => ?_⟩
    refine ⟨_, true, rfl, rfl, _, rfl, ite2 (fun e => ?_) (fun e => ?_)⟩
    · exfalso
      rw [need_of_str, need_ok hok] at e
      exact absurd e (by decide)
    have hB5 := hB4.sx tg4 sx5
    have hna5 := sx5 _ _ nnP hna
    refine ⟨8, rfl, by decide, by decide, for_range (fun j σ H' => ∃ y5 y6 y7 y8 : Option V, σ = [some (.ref a), some (.ref b), some (.int (0 + (i : Nat))), some (tx cols), some (.ref na), y5, y6, y7, y8] ∧ Bag b bl H' ∧ TG Z.Ps H' ∧ H' na = some (.tup [tx es, tx rc])) ⟨_, _, _, _, rfl, hB5, tg5, hna5⟩ (fun j σ H6 hj hP => ?_) (fun σ H6 hP => ?_)⟩
    · obtain ⟨y5, y6, y7, y8, rfl, hB6, tg6, hna6⟩ := hP
      obtain ⟨bxs, hbx⟩ := hB6.lst
      refine ⟨.ref b, rfl, tx cols, rfl, .ref na, rfl, b :: Z.Ps, b, bl, cols, es, rc, na, rfl, hB6, by simp, held_all hbx tg6, hc1, by omega, hcc, by omega, hec, hrl, hrc, nnL, hna6, fun v H7 kp7 hB7 th7 => ?_⟩
      have tg7 := hB6.tg tg6 kp7
      have hna7 := kp7 _ _ nnb hna6
      obtain ⟨d, f, sh, wdx⟩ := th7
      have sh1 : Sh 20 400 d := sh.mono (by decide) (by decide)
      have sh2 : Sh 20 100000 d := sh.mono (by decide) (by decide)
      refine ⟨v, rfl, v, d, rfl, Ft.dp _ _ f.to, sh2, ?_⟩
      refine ⟨tx cols, rfl, v, rfl, cols, v, d, rfl, tg7, f.to, sh1, fun H8 sx8 tg8 => ?_⟩
      have f8 := f.sx sx8 hPs
      refine ⟨.bl (isNeedD cols d), rfl, .bl (isNeedD cols d), .ty "bool", _, _, true, rfl, .ty _, ty_ft (d := .bool (isNeedD cols d)) (.bl _), kit_bl (.bool (isNeedD cols d)), _, rfl, iteF ?_⟩
      refine ⟨.bl (isNeedD cols d), rfl, tx cols, rfl, v, rfl, cols, v, d, rfl, by omega, f8.to, sh1, fun H9 sm9 => ?_⟩
      have f9 := f8.sx (Same.sx sm9) hPs
      refine ⟨rfl, _, rfl, iteNS rfl ?_⟩
      refine ⟨v, rfl, v, d, rfl, Ft.dp _ _ f9.to, sh2, .str d.shown, rfl, rfl, _, rfl, iteNS rfl ?_⟩
      exact ⟨_, _, _, _, rfl, (hB7.sx tg7 sx8).same sm9, tg8.same sm9, sm9 _ _ (sx8 _ _ nnP hna7)⟩
    · obtain ⟨y5, y6, y7, y8, rfl, hB6, tg6, hna6⟩ := hP
      exact ⟨_, _, _, _, _, _, _, rfl, hB6, tg6⟩

end
theorem all_mk {l : PySem.W.OpenLaw} {q : Program} {w : World} {K : PySem.W.Frag} {h : Heap} {mg : Str → Option Value} {fa : Addr} (X : K.In h) (G : h.Ns mainGlobals mg) (hfa : mg "law" = some (.ref fa))
    (own : ∀ (nm : Str) (fb : Addr), ((recsOf q).any fun e => e.name == nm) = true → mg nm = some (.ref fb) → OwnTC K fb h)
    {oc0 kv0 dc0 pm0 ct0 : Value} {od0 an0 : Option Addr} {sl0 : Array (Option Value)} {f0 : Addr}
    {c0 P0 : Addr} {ec0 : Value} {ed0 : Option Addr} {ev0 : Array Value} {es0 : Array (Option Value)}
    {oc1 kv1 dc1 pm1 ct1 : Value} {od1 an1 : Option Addr} {sl1 : Array (Option Value)} {f1 : Addr}
    {c1 P1 : Addr} {ec1 : Value} {ed1 : Option Addr} {ev1 : Array Value} {es1 : Array (Option Value)}
    {oc2 kv2 dc2 pm2 cd2 ct2 : Value} {od2 an2 : Option Addr} {sl2 : Array (Option Value)} {f2 : Addr}
    {oc3 kv3 dc3 pm3 cd3 ct3 : Value} {od3 an3 : Option Addr} {sl3 : Array (Option Value)} {f3 : Addr}
    {oc4 kv4 dc4 pm4 cd4 ct4 : Value} {od4 an4 : Option Addr} {sl4 : Array (Option Value)} {f4 : Addr}
    {oc5 kv5 dc5 pm5 cd5 ct5 : Value} {od5 an5 : Option Addr} {sl5 : Array (Option Value)} {f5 : Addr}
    {oc6 kv6 dc6 pm6 cd6 ct6 : Value} {od6 an6 : Option Addr} {sl6 : Array (Option Value)} {f6 : Addr}
    {oc7 kv7 dc7 pm7 cd7 ct7 : Value} {od7 an7 : Option Addr} {sl7 : Array (Option Value)} {f7 : Addr}
    {oc8 kv8 dc8 pm8 cd8 ct8 : Value} {od8 an8 : Option Addr} {sl8 : Array (Option Value)} {f8 : Addr}
    {oc9 kv9 dc9 pm9 cd9 ct9 : Value} {od9 an9 : Option Addr} {sl9 : Array (Option Value)} {f9 : Addr}
    {oc10 kv10 dc10 pm10 cd10 ct10 : Value} {od10 an10 : Option Addr} {sl10 : Array (Option Value)} {f10 : Addr}
    (a0 : PySem.W.nsIn K mainGlobals "is_rising" = some (some (.ref f0)))
    (l0 : K.lookup f0 = some ⟨oc0, od0, .func (PySem.W.fnOf "is_rising" "is_rising" (defArgs s_is_rising) (defBody s_is_rising) (defScope s_is_rising) .none kv0 dc0 pm0 an0 (.ref c0) ct0), sl0⟩)
    (c0_ : PySem.W.codeIn K (.ref c0) "is_rising" = true) (k0 : PySem.W.keepIn K (.ref f0) = true)
    (lc0 : K.lookup c0 = some ⟨ec0, ed0, .fields ev0, es0⟩) (vc0 : ev0[11]? = some (.ref P0)) (np0 : K.lookup P0 = none) (rc0 : ((recsOf q).any fun e => e.name == "is_rising") = true)
    (a1 : PySem.W.nsIn K mainGlobals "is_list" = some (some (.ref f1)))
    (l1 : K.lookup f1 = some ⟨oc1, od1, .func (PySem.W.fnOf "is_list" "is_list" (defArgs s_is_list) (defBody s_is_list) (defScope s_is_list) .none kv1 dc1 pm1 an1 (.ref c1) ct1), sl1⟩)
    (c1_ : PySem.W.codeIn K (.ref c1) "is_list" = true) (k1 : PySem.W.keepIn K (.ref f1) = true)
    (lc1 : K.lookup c1 = some ⟨ec1, ed1, .fields ev1, es1⟩) (vc1 : ev1[11]? = some (.ref P1)) (np1 : K.lookup P1 = none) (rc1 : ((recsOf q).any fun e => e.name == "is_list") = true)
    (a2 : PySem.W.nsIn K mainGlobals "is_need" = some (some (.ref f2)))
    (l2 : K.lookup f2 = some ⟨oc2, od2, .func (PySem.W.fnOf "is_need" "is_need" (defArgs s_is_need) (defBody s_is_need) (defScope s_is_need) .none kv2 dc2 pm2 an2 cd2 ct2), sl2⟩)
    (c2_ : PySem.W.codeIn K cd2 "is_need" = true) (k2 : PySem.W.keepIn K (.ref f2) = true)
    (a3 : PySem.W.nsIn K mainGlobals "_law_bag" = some (some (.ref f3)))
    (l3 : K.lookup f3 = some ⟨oc3, od3, .func (PySem.W.fnOf "_law_bag" "_law_bag" (defArgs s_l_bag) (defBody s_l_bag) (defScope s_l_bag) .none kv3 dc3 pm3 an3 cd3 ct3), sl3⟩)
    (c3_ : PySem.W.codeIn K cd3 "_law_bag" = true) (k3 : PySem.W.keepIn K (.ref f3) = true)
    (a4 : PySem.W.nsIn K mainGlobals "_law_lot" = some (some (.ref f4)))
    (l4 : K.lookup f4 = some ⟨oc4, od4, .func (PySem.W.fnOf "_law_lot" "_law_lot" (defArgs s_l_lot) (defBody s_l_lot) (defScope s_l_lot) .none kv4 dc4 pm4 an4 cd4 ct4), sl4⟩)
    (c4_ : PySem.W.codeIn K cd4 "_law_lot" = true) (k4 : PySem.W.keepIn K (.ref f4) = true)
    (a5 : PySem.W.nsIn K mainGlobals "_law_columns" = some (some (.ref f5)))
    (l5 : K.lookup f5 = some ⟨oc5, od5, .func (PySem.W.fnOf "_law_columns" "_law_columns" (defArgs s_l_columns) (defBody s_l_columns) (defScope s_l_columns) .none kv5 dc5 pm5 an5 cd5 ct5), sl5⟩)
    (c5_ : PySem.W.codeIn K cd5 "_law_columns" = true) (k5 : PySem.W.keepIn K (.ref f5) = true)
    (a6 : PySem.W.nsIn K mainGlobals "_law_need" = some (some (.ref f6)))
    (l6 : K.lookup f6 = some ⟨oc6, od6, .func (PySem.W.fnOf "_law_need" "_law_need" (defArgs s_l_need) (defBody s_l_need) (defScope s_l_need) .none kv6 dc6 pm6 an6 cd6 ct6), sl6⟩)
    (c6_ : PySem.W.codeIn K cd6 "_law_need" = true) (k6 : PySem.W.keepIn K (.ref f6) = true)
    (a7 : PySem.W.nsIn K mainGlobals "_law_due" = some (some (.ref f7)))
    (l7 : K.lookup f7 = some ⟨oc7, od7, .func (PySem.W.fnOf "_law_due" "_law_due" (defArgs s_l_due) (defBody s_l_due) (defScope s_l_due) .none kv7 dc7 pm7 an7 cd7 ct7), sl7⟩)
    (c7_ : PySem.W.codeIn K cd7 "_law_due" = true) (k7 : PySem.W.keepIn K (.ref f7) = true)
    (a8 : PySem.W.nsIn K mainGlobals "_law_swapped" = some (some (.ref f8)))
    (l8 : K.lookup f8 = some ⟨oc8, od8, .func (PySem.W.fnOf "_law_swapped" "_law_swapped" (defArgs s_l_swapped) (defBody s_l_swapped) (defScope s_l_swapped) .none kv8 dc8 pm8 an8 cd8 ct8), sl8⟩)
    (c8_ : PySem.W.codeIn K cd8 "_law_swapped" = true) (k8 : PySem.W.keepIn K (.ref f8) = true)
    (a9 : PySem.W.nsIn K mainGlobals "_law_bent" = some (some (.ref f9)))
    (l9 : K.lookup f9 = some ⟨oc9, od9, .func (PySem.W.fnOf "_law_bent" "_law_bent" (defArgs s_l_bent) (defBody s_l_bent) (defScope s_l_bent) .none kv9 dc9 pm9 an9 cd9 ct9), sl9⟩)
    (c9_ : PySem.W.codeIn K cd9 "_law_bent" = true) (k9 : PySem.W.keepIn K (.ref f9) = true)
    (a10 : PySem.W.nsIn K mainGlobals "law" = some (some (.ref f10)))
    (l10 : K.lookup f10 = some ⟨oc10, od10, .func (PySem.W.fnOf "law" "law" (defArgs s_law) (defBody s_law) (defScope s_law) .none kv10 dc10 pm10 an10 cd10 ct10), sl10⟩)
    (c10_ : PySem.W.codeIn K cd10 "law" = true) (k10 : PySem.W.keepIn K (.ref f10) = true)
    (z0 : PySem.W.nsIn K mainGlobals "len" = some none)
    (z1 : PySem.W.nsIn K mainGlobals "range" = some none)
    (z2 : PySem.W.nsIn K mainGlobals "list" = some none)
    (z3 : PySem.W.nsIn K mainGlobals "sorted" = some none)
    (z4 : PySem.W.nsIn K mainGlobals "tuple" = some none)
    (z5 : PySem.W.nsIn K mainGlobals "isinstance" = some none)
    (z6 : PySem.W.nsIn K mainGlobals "all" = some none)
    (z7 : PySem.W.nsIn K mainGlobals "bool" = some none)
    (z8 : PySem.W.nsIn K mainGlobals "str" = some none)
    (z9 : PySem.W.nsIn K mainGlobals "int" = some none)
    (z10 : PySem.W.nsIn K mainGlobals "repr" = some none)
    (z11 : PySem.W.nsIn K mainGlobals "set" = some none)
    (z12 : PySem.W.nsIn K mainGlobals "max" = some none)
    : LawAtG l w K 10 63 "script" mg fa h := by
  have e := hfa.symm.trans (PySem.W.mg_of X G a10)
  cases e
  have F0 := fun_mk (st := s_is_rising) l0 c0_ k0
  have b0 := F0.binds (ps := ["things"]) fun _ _ _ _ _ _ us hl => match us, hl with | [_], _ => rfl
  have o0 := own "is_rising" _ rc0 (PySem.W.mg_of X G a0) c0 P0 _ _ _ _ _ _ l0 rfl rfl lc0 vc0
  have F1 := fun_mk (st := s_is_list) l1 c1_ k1
  have b1 := F1.binds (ps := ["columns", "thing"]) fun _ _ _ _ _ _ us hl => match us, hl with | [_, _], _ => rfl
  have o1 := own "is_list" _ rc1 (PySem.W.mg_of X G a1) c1 P1 _ _ _ _ _ _ l1 rfl rfl lc1 vc1
  have F2 := fun_mk (st := s_is_need) l2 c2_ k2
  have b2 := F2.binds (ps := ["columns", "thing"]) fun _ _ _ _ _ _ us hl => match us, hl with | [_, _], _ => rfl
  have F3 := fun_mk (st := s_l_bag) l3 c3_ k3
  have b3 := F3.binds (ps := ["script"]) fun _ _ _ _ _ _ us hl => match us, hl with | [_], _ => rfl
  have F4 := fun_mk (st := s_l_lot) l4 c4_ k4
  have b4 := F4.binds (ps := ["bag", "many"]) fun _ _ _ _ _ _ us hl => match us, hl with | [_, _], _ => rfl
  have F5 := fun_mk (st := s_l_columns) l5 c5_ k5
  have b5 := F5.binds (ps := ["bag", "most"]) fun _ _ _ _ _ _ us hl => match us, hl with | [_, _], _ => rfl
  have F6 := fun_mk (st := s_l_need) l6 c6_ k6
  have b6 := F6.binds (ps := ["bag", "columns"]) fun _ _ _ _ _ _ us hl => match us, hl with | [_, _], _ => rfl
  have F7 := fun_mk (st := s_l_due) l7 c7_ k7
  have b7 := F7.binds (ps := ["columns", "thing"]) fun _ _ _ _ _ _ us hl => match us, hl with | [_, _], _ => rfl
  have F8 := fun_mk (st := s_l_swapped) l8 c8_ k8
  have b8 := F8.binds (ps := ["text", "at"]) fun _ _ _ _ _ _ us hl => match us, hl with | [_, _], _ => rfl
  have F9 := fun_mk (st := s_l_bent) l9 c9_ k9
  have b9 := F9.binds (ps := ["bag", "columns", "need"]) fun _ _ _ _ _ _ us hl => match us, hl with | [_, _, _], _ => rfl
  have F10 := fun_mk (st := s_law) l10 c10_ k10
  have b10 := F10.binds (ps := ["script"]) fun _ _ _ _ _ _ us hl => match us, hl with | [_], _ => rfl
  let Z : Ad := ⟨f0, PySem.W.fnOf "is_rising" "is_rising" (defArgs s_is_rising) (defBody s_is_rising) (defScope s_is_rising) .none kv0 dc0 pm0 an0 (.ref c0) ct0, c0, P0, f1, PySem.W.fnOf "is_list" "is_list" (defArgs s_is_list) (defBody s_is_list) (defScope s_is_list) .none kv1 dc1 pm1 an1 (.ref c1) ct1, c1, P1, f2, PySem.W.fnOf "is_need" "is_need" (defArgs s_is_need) (defBody s_is_need) (defScope s_is_need) .none kv2 dc2 pm2 an2 cd2 ct2, f3, PySem.W.fnOf "_law_bag" "_law_bag" (defArgs s_l_bag) (defBody s_l_bag) (defScope s_l_bag) .none kv3 dc3 pm3 an3 cd3 ct3, f4, PySem.W.fnOf "_law_lot" "_law_lot" (defArgs s_l_lot) (defBody s_l_lot) (defScope s_l_lot) .none kv4 dc4 pm4 an4 cd4 ct4, f5, PySem.W.fnOf "_law_columns" "_law_columns" (defArgs s_l_columns) (defBody s_l_columns) (defScope s_l_columns) .none kv5 dc5 pm5 an5 cd5 ct5, f6, PySem.W.fnOf "_law_need" "_law_need" (defArgs s_l_need) (defBody s_l_need) (defScope s_l_need) .none kv6 dc6 pm6 an6 cd6 ct6, f7, PySem.W.fnOf "_law_due" "_law_due" (defArgs s_l_due) (defBody s_l_due) (defScope s_l_due) .none kv7 dc7 pm7 an7 cd7 ct7, f8, PySem.W.fnOf "_law_swapped" "_law_swapped" (defArgs s_l_swapped) (defBody s_l_swapped) (defScope s_l_swapped) .none kv8 dc8 pm8 an8 cd8 ct8, f9, PySem.W.fnOf "_law_bent" "_law_bent" (defArgs s_l_bent) (defBody s_l_bent) (defScope s_l_bent) .none kv9 dc9 pm9 an9 cd9 ct9, fa, PySem.W.fnOf "law" "law" (defArgs s_law) (defBody s_law) (defScope s_law) .none kv10 dc10 pm10 an10 cd10 ct10⟩
  have T : Tx K mg Z := ⟨F0, ⟨_, _, _, _, _, _, _, _, rfl, l0, c0_⟩, b0, PySem.W.mg_of X G a0, F1, ⟨_, _, _, _, _, _, _, _, rfl, l1, c1_⟩, b1, PySem.W.mg_of X G a1, F2, b2, PySem.W.mg_of X G a2, F3, b3, PySem.W.mg_of X G a3, F4, b4, PySem.W.mg_of X G a4, F5, b5, PySem.W.mg_of X G a5, F6, b6, PySem.W.mg_of X G a6, F7, b7, PySem.W.mg_of X G a7, F8, b8, PySem.W.mg_of X G a8, F9, b9, PySem.W.mg_of X G a9, F10, b10, PySem.W.mg_of X G a10, PySem.W.mg_none_of X G z0, PySem.W.mg_none_of X G z1, PySem.W.mg_none_of X G z2, PySem.W.mg_none_of X G z3, PySem.W.mg_none_of X G z4, PySem.W.mg_none_of X G z5, PySem.W.mg_none_of X G z6, PySem.W.mg_none_of X G z7, PySem.W.mg_none_of X G z8, PySem.W.mg_none_of X G z9, PySem.W.mg_none_of X G z10, PySem.W.mg_none_of X G z11, PySem.W.mg_none_of X G z12⟩
  have each : ∀ {R : Addr × Addr → Prop}, R (c0, P0) → R (c1, P1) → ∀ p ∈ [(c0, P0), (c1, P1)], R p := fun h0 h1 p hp => by
    simp only [List.mem_cons, List.not_mem_nil, or_false] at hp
    rcases hp with e | e
    · rw [e]
      exact h0
    · rw [e]
      exact h1
  refine ⟨Z.d_law, [(c0, P0), (c1, P1)], spLaw K Z, each o0.1 o1.1, each np0 np1, each o0.2 o1.2, fun s v => .of_eq rfl, fun H a ns hl _ hT hS => ?_, fun base _ _ hTB => ?_⟩
  · refine ⟨a, ns, rfl, hS, hl, fun P hP => ?_, fun _ => rfl⟩
    obtain ⟨p, hp, rfl⟩ : ∃ p ∈ [((c0, P0) : Addr × Addr), ((c1, P1) : Addr × Addr)], p.2 = P := by
      have hP2 : P ∈ [((c0, P0) : Addr × Addr).2, ((c1, P1) : Addr × Addr).2] := hP
      exact List.mem_map.mp (show P ∈ List.map (fun p : Addr × Addr => p.2) [(c0, P0), (c1, P1)] from hP2)
    exact ⟨#[], hT p hp, trivial⟩
  · exact ok_law T ⟨hTB (c0, P0) (by simp), hTB (c1, P1) (by simp)⟩
end My
open PySem PySem.W PyProof.Rows
set_option maxHeartbeats 0 in
theorem PySem.Challenge.cw_stretchkeep_k33_what_is_a_need_holds : PySem.Challenge.rw_stretchkeep_k33_what_is_a_need.Holds := by
  w_on; o_law; k_head; (case hw => w_witness2)
  k_fill
  refine My.walk_ofG (l := PySem.Challenge.rw_stretchkeep_k33_what_is_a_need) (n := 63) (k := 10) (x := "script") rfl (by decide) rfl ⟨rfl, by decide, by decide⟩ (fun w h Y => PySem.W.kIn_of Y) ?F
  case F =>
    intro w mg fa h Y KX G hmg own
    refine' My.all_mk KX G hmg own ?a0 ?l0 ?c0_ ?k0 ?lc0 ?vc0 ?np0 ?rc0 ?a1 ?l1 ?c1_ ?k1 ?lc1 ?vc1 ?np1 ?rc1 ?a2 ?l2 ?c2_ ?k2 ?a3 ?l3 ?c3_ ?k3 ?a4 ?l4 ?c4_ ?k4 ?a5 ?l5 ?c5_ ?k5 ?a6 ?l6 ?c6_ ?k6 ?a7 ?l7 ?c7_ ?k7 ?a8 ?l8 ?c8_ ?k8 ?a9 ?l9 ?c9_ ?k9 ?a10 ?l10 ?c10_ ?k10 ?z0 ?z1 ?z2 ?z3 ?z4 ?z5 ?z6 ?z7 ?z8 ?z9 ?z10 ?z11 ?z12
    (case a0 => k_is)
    (case l0 => k_is)
    (case c0_ => k_is)
    (case k0 => k_is)
    (case lc0 => k_is)
    (case vc0 => rfl)
    (case np0 => first | rfl | kernel_rfl)
    (case rc0 => decide +kernel)
    (case a1 => k_is)
    (case l1 => k_is)
    (case c1_ => k_is)
    (case k1 => k_is)
    (case lc1 => k_is)
    (case vc1 => rfl)
    (case np1 => first | rfl | kernel_rfl)
    (case rc1 => decide +kernel)
    (case a2 => k_is)
    (case l2 => k_is)
    (case c2_ => k_is)
    (case k2 => k_is)
    (case a3 => k_is)
    (case l3 => k_is)
    (case c3_ => k_is)
    (case k3 => k_is)
    (case a4 => k_is)
    (case l4 => k_is)
    (case c4_ => k_is)
    (case k4 => k_is)
    (case a5 => k_is)
    (case l5 => k_is)
    (case c5_ => k_is)
    (case k5 => k_is)
    (case a6 => k_is)
    (case l6 => k_is)
    (case c6_ => k_is)
    (case k6 => k_is)
    (case a7 => k_is)
    (case l7 => k_is)
    (case c7_ => k_is)
    (case k7 => k_is)
    (case a8 => k_is)
    (case l8 => k_is)
    (case c8_ => k_is)
    (case k8 => k_is)
    (case a9 => k_is)
    (case l9 => k_is)
    (case c9_ => k_is)
    (case k9 => k_is)
    (case a10 => k_is)
    (case l10 => k_is)
    (case c10_ => k_is)
    (case k10 => k_is)
    (case z0 => k_is)
    (case z1 => k_is)
    (case z2 => k_is)
    (case z3 => k_is)
    (case z4 => k_is)
    (case z5 => k_is)
    (case z6 => k_is)
    (case z7 => k_is)
    (case z8 => k_is)
    (case z9 => k_is)
    (case z10 => k_is)
    (case z11 => k_is)
    (case z12 => k_is)

