import PyProof.Rows.All
import Wide.All
import OpenK.AllK
import Wide.FinOn
import HandS.ForMost
import HandS.Walk
import HandS.IsInst
import HandS.DictComp
import HandS.SortInts
import HandS.NoneIn
import HandS.Replace
import HandS.TupAny
import HandS.TupLe
import PyProof.ListStr
import PyProof.TupleOfStr
import KE.GoesNew
import HandS.Zip
import HandS.More
import PyProof.StrLawsFirst
import HandS.Conv
import KE.KSortedM
import HandS.AnyAll
import HandS.EndTab
import PyProof.TupleOfGen
import HandS.EndOwn
import KE.KDictPairs
import KE.SortData
import KE.DataCmp
import PyProof.DictWalks
import KE.KDictWalk
import HandS.Style
import PyProof.CollectStr
import PyProof.SliceStr2
import PyProof.TupleOfSeq
import HandS.Star
import HandS.Wide
import KE.DataMinMax
import HandS.GenOver
import HandS.GenList
import KE.DatumIndex
import PyProof.ConsumeWalk
import HandS.SetFor
import PyProof.StrWalks
import PyProof.SetRoads
import PyProof.Rows.StrCase
import PySem.Challenge.RW_stretchkeep_k02_what_is_a_list
set_option Elab.async false
set_option linter.all false
set_option maxRecDepth 100000
namespace My
open PySem PySem.Spec PyProof.Rows L2
/-! ### heaps -/
/-- all but r is as it was -/
def Kp (r : Addr) (H H' : Hp) : Prop := ∀ b o, b ≠ r → H b = some o → H' b = some o
theorem Kp.rfl' {r : Addr} {H : Hp} : Kp r H H := fun _ _ _ h => h
theorem Kp.trans {r : Addr} {H H1 H2 : Hp} (a : Kp r H H1) (b : Kp r H1 H2) : Kp r H H2 := fun c o n h => b c o n (a c o n h)
theorem Kp.new {r p : Addr} {H H1 : Hp} {o : HO} (a : Kp r H H1) (n : H1 p = none) : Kp r H (upd H1 p o) := fun b x nb h => by
  have h1 := a b x nb h
  rw [upd_ne (ne_of_none h1 n)]
  exact h1
theorem Kp.own {r : Addr} {H H1 : Hp} {o : HO} (a : Kp r H H1) : Kp r H (upd H1 r o) := fun b x nb h => by
  rw [upd_ne nb]
  exact a b x nb h
/-- an object that H does not know is written -/
theorem Kp.mut {r p : Addr} {H H1 : Hp} {o : HO} (a : Kp r H H1) (n : H p = none) : Kp r H (upd H1 p o) := fun b x nb h => by
  rw [upd_ne (ne_of_none h n)]
  exact a b x nb h
theorem Same.kp {r : Addr} {H H' : Hp} (s : Same H H') : Kp r H H' := fun b o _ h => s b o h
theorem Same.new {p : Addr} {H H1 : Hp} {o : HO} (a : Same H H1) (n : H1 p = none) : Same H (upd H1 p o) := fun b x h => by
  have h1 := a b x h
  rw [upd_ne (ne_of_none h1 n)]
  exact h1
theorem Same.mut {p : Addr} {H H1 : Hp} {o : HO} (a : Same H H1) (n : H p = none) : Same H (upd H1 p o) := fun b x h => by
  rw [upd_ne (ne_of_none h n)]
  exact a b x h
theorem Same.tup {K : PySem.W.Frag} {H H' : Hp} {a : Addr} {xs : List V} (e : Same H H') (h : SqT K H a xs) : SqT K H' a xs := by
  rcases h with (h | ⟨o, h⟩) | h
  · exact .inl (.inl (e _ _ h))
  · exact .inl (.inr ⟨o, e _ _ h⟩)
  · exact .inr h
/-- a list, a tuple that stands there stays, if it is not at r -/
theorem Kp.seqL {K : PySem.W.Frag} {r a : Addr} {H H' : Hp} {xs : List V} (e : Kp r H H') (n : a ≠ r) (h : SqL K H a xs) : SqL K H' a xs := by
  rcases h with (h | ⟨o, h⟩) | h
  · exact .inl (.inl (e _ _ n h))
  · exact .inl (.inr ⟨o, e _ _ n h⟩)
  · exact .inr h
theorem Same.kpN {r : Addr} {H H1 H2 : Hp} (s : Same H H1) (n : H r = Option.none) (k : Kp r H1 H2) : Same H H2 := fun b o h => k b o (ne_of_none h n) (s b o h)
theorem Kp.none {r p : Addr} {H H' : Hp} (e : Kp r H H') (n : p ≠ r) (h : H' p = Option.none) : H p = Option.none := by
  cases q : H p with
  | none => rfl
  | some o =>
    rw [e p o n q] at h
    cases h
theorem keep_new {H : Hp} {p b : Addr} {o x : HO} (h : H b = some x) (n : H p = Option.none) : (upd H p o) b = some x := by
  rw [upd_ne (ne_of_none h n)]
  exact h
theorem keep_ne {H : Hp} {p b : Addr} {o x : HO} (h : H b = some x) (n : b ≠ p) : (upd H p o) b = some x := by
  rw [upd_ne n]
  exact h
/-! ### a word between a statement and the rest -/
def tMid (t u : TS) : TS := fun D σ H => ∃ M : L2.St → Hp → Prop, t { D with nx := M } σ H ∧ ∀ σ1 H1, M σ1 H1 → u D σ1 H1
theorem pss_mid {X : Cx} {st : Stmt} {r : List Stmt} {t u : TS} (a : PS X st t) (b : PSs X r u) : PSs X (st :: r) (tMid t u) := ⟨fun pins s σ H D I h => by
  obtain ⟨M, hm, hu⟩ := h
  refine wpAny_execs_cons (thn (a.run pins s σ H { D with nx := M } I hm) fun f s1 q => ?_)
  cases f
  case next =>
    obtain ⟨σ1, H1, I1, q1⟩ := q
    exact b.run pins s1 σ1 H1 D I1 (hu σ1 H1 q1)
  all_goals exact q⟩
/-! ### texts -/
/-- a text of these codes; one sign -/
abbrev tx (l : List Nat) : V := .str ⟨l.toArray⟩
abbrev sg (c : Nat) : V := .str ⟨#[c]⟩
theorem signs_vals {x : Str} {acc : Array Value} (h : ItemsOf (SignAt x) acc x.cps.size) : Vals (x.cps.toList.map sg) acc.toList := by
  obtain ⟨hz, hi⟩ := h
  have key : ∀ (l : List Nat) (us : List Value), l.length = us.length → (∀ (j : Nat) (c : Nat) (v : Value), l[j]? = some c → us[j]? = some v → ∃ t, v = Value.str ⟨#[c]⟩ t) → Vals (l.map sg) us := by
    intro l
    induction l with
    | nil =>
      intro us hl _
      cases us with
      | nil => exact .nil
      | cons a b => cases hl
    | cons c l ih =>
      intro us hl hh
      cases us with
      | nil => cases hl
      | cons u us =>
        refine .cons ?_ (ih us (Nat.succ.inj hl) fun j c v h1 h2 => hh (j + 1) c v h1 h2)
        obtain ⟨t, e⟩ := hh 0 c u rfl rfl
        exact ⟨t, e⟩
  refine key _ _ (by rw [Array.length_toList, Array.length_toList, hz]) fun j c v h1 h2 => ?_
  obtain ⟨cc, t, e1, e2⟩ := hi j v (by rw [← Array.getElem?_toList]; exact h2)
  rw [Array.getElem?_toList] at h1
  rw [h1] at e1
  cases e1
  exact ⟨t, e2⟩
/-- the text of one sign -/
abbrev sS (c : Nat) : Str := ⟨#[c]⟩
theorem str_empty : (Str.ofString "").cps = #[] := by decide +kernel
theorem join_signs : ∀ l : List Nat, Txt.join (Str.ofString "") (l.map sS) = ⟨l.toArray⟩ := by
  intro l
  show PySem.Builtin.Str.glued (Str.ofString "") (l.map sS) = _
  rw [PySem.StrLaws.glued_eq_join]
  induction l with
  | nil => rfl
  | cons c l ih =>
    cases l with
    | nil => rfl
    | cons d l =>
      show sS c ++ Str.ofString "" ++ Str.join (Str.ofString "") ((d :: l).map sS) = _
      rw [ih]
      show (⟨(#[c] ++ (Str.ofString "").cps) ++ (d :: l).toArray⟩ : Str) = _
      rw [str_empty]
      simp
theorem ltCps_one {a b : Nat} (h : ltCps [a] [b] = false) : b ≤ a := by
  simp [ltCps] at h
  exact h
theorem rising_signs : ∀ (l : List Nat) (c : Nat), risingS (sS c) (l.map sS) = true → (c :: l).Pairwise (· ≤ ·)
  | [], c, _ => List.pairwise_singleton _ _
  | d :: l, c, h => by
    have h' : (!ltCps [d] [c] && risingS (sS d) (l.map sS)) = true := h
    rw [Bool.and_eq_true, Bool.not_eq_true'] at h'
    have hd := ltCps_one h'.1
    have ih := rising_signs l d h'.2
    refine List.Pairwise.cons (fun x hx => ?_) ih
    rcases List.mem_cons.mp hx with e | hx
    · rw [e]
      exact hd
    · exact Nat.le_trans hd ((List.pairwise_cons.mp ih).1 x hx)
theorem sorted_signs : ∀ (l : List Nat), sortedS (l.map sS) = true → l.Pairwise (· ≤ ·)
  | [], _ => List.Pairwise.nil
  | c :: l, h => rising_signs l c h
theorem perm_signs {ys : List Str} {l : List Nat} (h : ys.Perm (l.map sS)) : ∃ l' : List Nat, ys = l'.map sS ∧ l'.Perm l := by
  let hd : Str → Nat := fun z => z.cps.toList.headD 0
  refine ⟨ys.map hd, ?_, ?_⟩
  · rw [List.map_map]
    have e : ∀ y ∈ ys, (sS ∘ hd) y = y := fun y hy => by
      obtain ⟨c, _, rfl⟩ := List.mem_map.mp (h.mem_iff.mp hy)
      rfl
    conv => lhs; rw [← List.map_id ys]
    exact (List.map_congr_left e).symm
  · have e := h.map hd
    rw [List.map_map] at e
    have e2 : l.map (hd ∘ sS) = l := by
      conv => rhs; rw [← List.map_id l]
      exact List.map_congr_left fun c _ => rfl
    rw [e2] at e
    exact e
theorem strict_of {l : List Nat} (h : l.Pairwise (· ≤ ·)) (n : l.Nodup) : l.Pairwise (· < ·) := by
  refine (h.and n).imp fun {a b} q => ?_
  have h1 := q.1
  have h2 : a ≠ b := q.2
  omega
theorem map_sg (l : List Nat) : l.map sg = (l.map sS).map V.str := by
  rw [List.map_map]
  rfl
theorem erase_map {α β : Type} (f : α → β) : ∀ (l : List α) (k : Nat), (l.map f).eraseIdx k = (l.eraseIdx k).map f
  | [], _ => rfl
  | _ :: _, 0 => rfl
  | a :: l, k + 1 => by
    show f a :: (l.map f).eraseIdx k = f a :: (l.eraseIdx k).map f
    rw [erase_map f l k]
theorem pop_perm : ∀ {l : List Nat} {k : Nat} {y : Nat}, l[k]? = some y → (y :: l.eraseIdx k).Perm l
  | [], k, y, h => by simp at h
  | a :: l, 0, y, h => by
    have e : a = y := Option.some.inj h
    rw [e]
    exact List.Perm.refl _
  | a :: l, k + 1, y, h => by
    have ih := pop_perm (l := l) (k := k) (y := y) h
    exact (List.Perm.swap a y (l.eraseIdx k)).trans (ih.cons a)
theorem popped {l : List Nat} {k : Nat} {y : Nat} (h : l[k]? = some y) (f : List Nat) : (l.eraseIdx k ++ (f ++ [y])).Perm (l ++ f) := by
  have p := pop_perm h
  have p1 : (l.eraseIdx k ++ (f ++ [y])).Perm ([y] ++ (l.eraseIdx k ++ f)) := by
    rw [← List.append_assoc]
    exact List.perm_append_comm
  refine p1.trans ?_
  rw [← List.append_assoc]
  exact p.append_right f
section
variable {X : Cx}
theorem call_list_txt (hc : X.calm = true := by rfl) : CallR X (.type "list") (fun xs H Q => ∃ z : Str, xs = [.str z] ∧ z.length ≤ sizeLine ∧ ∀ l, H l = none → Q (.ref l) (upd H l (.lst (z.cps.toList.map sg)))) := by
  intro pins s σ H xs us Q I r h
  obtain ⟨z, rfl, hz, q⟩ := h
  obtain ⟨u, rfl, rx⟩ := vals1 r
  obtain ⟨t, rfl⟩ := rx
  refine PySem.call_list_str (I.ok.hd hc) z t (fun h' tk acc c kp e hi => ?_) hz
  have hv := signs_vals hi
  exact ⟨.ref s.heap.objs.size, _, I.laid (t' := tk) kp (Nat.le_refl _) (show ObjOk X.prog X.w _ h' _ (.lst (z.cps.toList.map sg)) from ⟨by rw [List.length_map, Array.length_toList]; exact hz, acc.toList, c, hv, by rw [Array.toArray_toList]; exact e⟩), rfl, q _ (I.hok.fresh (Nat.le_refl _))⟩
theorem call_tuple_txt (hc : X.calm = true := by rfl) : CallR X (.type "tuple") (fun xs H Q => ∃ z : Str, xs = [.str z] ∧ z.length ≤ sizeLine ∧ ∀ l, H l = none → Q (.ref l) (upd H l (.tup (z.cps.toList.map sg)))) := by
  intro pins s σ H xs us Q I r h
  obtain ⟨z, rfl, hz, q⟩ := h
  obtain ⟨u, rfl, rx⟩ := vals1 r
  obtain ⟨t, rfl⟩ := rx
  refine PySem.call_tuple_str (I.ok.hd hc) z t (fun h' tk acc kp hi => ?_) hz
  have hv := signs_vals hi
  have I1 : Inv X pins σ H { s with heap := h', toks := tk } := I.kept (t' := tk) kp
  have I2 : Inv X pins σ (upd H h'.objs.size (.tup (z.cps.toList.map sg))) { s with heap := h'.push { cls := .type "tuple", data := .seq acc }, toks := tk } :=
    I1.laid (t' := tk) (fun b o e => Heap.get?_push_of_some _ e) (Nat.le_refl _) (show ObjOk X.prog X.w _ _ _ (.tup (z.cps.toList.map sg)) from ⟨by rw [List.length_map, Array.length_toList]; exact hz, acc.toList, hv, by rw [Array.toArray_toList]; exact IsTup.new _ _⟩)
  exact ⟨.ref h'.objs.size, _, I2, rfl, q _ (I1.hok.fresh (Nat.le_refl _))⟩
end
end My

set_option Elab.async false
set_option linter.all false
set_option maxRecDepth 100000
set_option maxHeartbeats 1000000
namespace My
open PySem PySem.Spec PyProof.Rows L2
/-! ### calls by named readings -/
def rLenSq (K : PySem.W.Frag) : List V → Hp → VK → Prop := fun xs H Q => ∃ p ys, xs = [.ref p] ∧ (SqL K H p ys ∨ SqT K H p ys) ∧ Q (.int (ys.length : Nat)) H
section
variable (K : PySem.W.Frag) {X : Cx}
theorem cLenSq (hK : X.K = K := by rfl) : CallR X (.builtin "len") (rLenSq K) := by
  subst hK
  exact call_len_seq
theorem ixL (hK : X.K = K := by rfl) : IxR X (rIxL K) := by
  subst hK
  exact ix_list
theorem piL {tg l : Expr} {tl : TE} (hl : PE X l tl) (hK : X.K = K := by rfl) : PI X tg l (iList K tl) := by
  subst hK
  exact pi_list hl
theorem eqDK (hu : X.A.units + 64 < cLine) (hK : X.K = K := by rfl) : OpR X (compareOp .Eq) (rEqD K) := by
  subst hK
  exact op_eqD hu
theorem bmK {T id : String} {name : Str} {r : V → List V → Hp → VK → Prop} {o e : Expr} {es : List Expr} {to : TE} {t : TA} {apos cpos : Pos} (pa : PlainAttrs T) (slot : Slot T name id) (hty : typeOf (.builtin id) = pure (.type "method_descriptor")) (hm : MtR X id r) (ho : PE X o to) (ha : PA X (e :: es) t) (hK : X.K = K := by rfl)
    (hbase : attributeBase o name X.env (eval o X.env) = eval o X.env := by rfl)
    (hfew : ((backTo cpos (starEach (e :: es) X.env)).all (fun x => !x.1) && (backToKw cpos (keywordEach [] X.env)).all (fun x => x.1.isSome) && decide ((e :: es).length + ([] : List Keyword).length + (if ([] : List Keyword).isEmpty then 0 else 1) < 30)) = true := by rfl)
    (hline : (apos.endLine == cpos.line) = true := by rfl) (hs : starEach (e :: es) X.env = (false, eval e X.env) :: starEach es X.env := by rfl) (hplain : (backTo cpos (starEach es X.env)).any (·.1) = false := by rfl) :
    PE X (.Call (.Attribute o name apos) (e :: es) [] cpos) (tBM K T r to t) := by
  subst hK
  exact pe_bm pa slot hty hm ho ha hbase hfew hline hs hplain
theorem isiK (hK : X.K = K := by rfl) : CallR X (.builtin "isinstance") (rIsi K) := by
  subst hK
  exact call_isi
end
/-! ### frozen data: numbers, texts, None, truths, tuples of these -/
/-! ### tables -/
/-- rising unlike letters -/
structure Cols (l : List Nat) : Prop where
  up : l.Pairwise (· < ·)
  az : ∀ c ∈ l, 97 ≤ c ∧ c ≤ 122
theorem Cols.nd {l : List Nat} (c : Cols l) : l.Nodup := c.up.imp fun {a b} h => by
  have : a < b := h
  omega
/-! ### questions -/
end My

set_option Elab.async false
set_option linter.all false
set_option maxRecDepth 100000
set_option maxHeartbeats 1000000
namespace My
open PySem PySem.Spec PyProof.Rows L2
/-! ### name = {.. for ..} on one line -/
section
variable {X : Cx} {pins : List (Addr × Obj)} {σ : L2.St} {H : Hp} {s : Shared}
end
/-! ### spans: letters with their bounds -/
/-! ### what fits -/
/-! ### data with lists -/
mutual
inductive Ft (H : Hp) : V → PyData → Prop
  | non : Ft H .non .none
  | bl (b : Bool) : Ft H (.bl b) (.bool b)
  | int (i : Int) : Ft H (.int i) (.int i)
  | str (x : Str) : Ft H (.str x) (.str x)
  | lst {a : Addr} {xs : List V} {ds : List PyData} : H a = some (.lst xs) → FtA H xs ds → Ft H (.ref a) (.list ds)
  | tup {a : Addr} {xs : List V} {ds : List PyData} : H a = some (.tup xs) → FtA H xs ds → Ft H (.ref a) (.tuple ds)
inductive FtA (H : Hp) : List V → List PyData → Prop
  | nil : FtA H [] []
  | cons {v : V} {vs : List V} {d : PyData} {ds : List PyData} : Ft H v d → FtA H vs ds → FtA H (v :: vs) (d :: ds)
end
mutual
theorem Ft.mono {H H' : Hp} (k : Same H H') : ∀ (d : PyData) (v : V), Ft H v d → Ft H' v d
  | .none, _, .non => .non
  | .bool _, _, .bl b => .bl b
  | .int _, _, .int i => .int i
  | .str _, _, .str x => .str x
  | .list ds, _, .lst h a => .lst (k _ _ h) (FtA.mono k ds _ a)
  | .tuple ds, _, .tup h a => .tup (k _ _ h) (FtA.mono k ds _ a)
theorem FtA.mono {H H' : Hp} (k : Same H H') : ∀ (ds : List PyData) (vs : List V), FtA H vs ds → FtA H' vs ds
  | [], _, .nil => .nil
  | d :: ds, _, .cons h a => .cons (Ft.mono k d _ h) (FtA.mono k ds _ a)
end
theorem FtA.len : ∀ {H : Hp} {vs : List V} {ds : List PyData}, FtA H vs ds → vs.length = ds.length
  | _, _, _, .nil => rfl
  | _, _, _, .cons _ a => by
    rw [List.length_cons, List.length_cons, FtA.len a]
theorem FtA.getV : ∀ {H : Hp} {vs : List V} {ds : List PyData} {i : Nat} {v : V}, FtA H vs ds → vs[i]? = some v → ∃ d, ds[i]? = some d ∧ Ft H v d
  | _, _, _, _, _, .nil, h => by simp at h
  | _, _, _, 0, _, .cons a _, h => ⟨_, rfl, Option.some.inj h ▸ a⟩
  | _, _, _, i + 1, _, .cons _ a, h => FtA.getV (i := i) a h
mutual
def wd : PyData → Nat
  | .list xs => max xs.length (wdA xs)
  | .tuple xs => max xs.length (wdA xs)
  | _ => 0
def wdA : List PyData → Nat
  | [] => 0
  | x :: xs => max (wd x) (wdA xs)
end
/-! ### what isinstance tells of data -/
def tyN : PyData → String
  | .none => "NoneType"
  | .bool _ => "bool"
  | .int _ => "int"
  | .str _ => "str"
  | .list _ => "list"
  | .tuple _ => "tuple"
  | .dict _ => "dict"
def isBl : PyData → Bool
  | .bool _ => true
  | _ => false
def isSt : PyData → Bool
  | .str _ => true
  | _ => false
theorem ty_ft {K : PySem.W.Frag} {H : Hp} {v : V} {d : PyData} (h : Ft H v d) : TyX K H v (.type (tyN d)) := by
  cases h with
  | non => exact .base .non
  | bl b => exact .base (.bl b)
  | int i => exact .base (.int i)
  | str x => exact .base (.str x)
  | lst h _ => exact .base (.lst h)
  | tup h _ => exact .base (.tup h)
theorem kit_bl {K : PySem.W.Frag} (d : PyData) : PySem.W.kitOne K (.type (tyN d)) (.type "bool") = some (isBl d) := by
  cases d <;> exact kit_ty (by kernel_rfl)
theorem kit_st {K : PySem.W.Frag} (d : PyData) : PySem.W.kitOne K (.type (tyN d)) (.type "str") = some (isSt d) := by
  cases d <;> exact kit_ty (by kernel_rfl)
theorem depA_ints : ∀ ns : List Int, PyData.depthAll (ns.map PyData.int) = 0
  | [] => rfl
  | n :: ns => by
    show max (PyData.depth (.int n)) (PyData.depthAll (ns.map PyData.int)) = 0
    rw [depA_ints ns]
    rfl
theorem dep_ints (ns : List Int) : PyData.depth (.list (ns.map PyData.int)) = 1 := by
  show PyData.depthAll (ns.map PyData.int) + 1 = 1
  rw [depA_ints]
end My

set_option Elab.async false
set_option linter.all false
set_option maxRecDepth 100000
set_option maxHeartbeats 1000000
namespace My
open PySem PySem.Spec PyProof.Rows L2
/-! ### lists of numbers compared -/
theorem dp_ints {K : PySem.W.Frag} {H : Hp} : ∀ ns : List Int, DpAll K H (ns.map V.int) (ns.map PyData.int)
  | [] => .nil
  | n :: ns => .cons (.int n) (dp_ints ns)
theorem can_ints : ∀ ns : List Int, PyData.canLayAll0 (ns.map PyData.int) = true
  | [] => rfl
  | n :: ns => by
    show (PyData.canLay0 (.int n) && PyData.canLayAll0 (ns.map PyData.int)) = true
    rw [can_ints ns]
    rfl
theorem shaped_ints (ns : List Int) : SeqAt.shaped (.list (ns.map PyData.int)) = true := by
  unfold SeqAt.shaped
  show (PyData.canLayAll0 (ns.map PyData.int) && decide (PyData.depth (.list (ns.map PyData.int)) ≤ 64)) = true
  rw [can_ints, dep_ints]
  rfl
/-! ### questions and what fits -/
end My

set_option Elab.async false
set_option linter.all false
set_option maxRecDepth 100000
set_option maxHeartbeats 2000000
namespace My
open PySem PySem.Spec PyProof.Rows L2
/-! ### generator expressions whose element changes nothing -/
section
variable {X : Cx} {pins : List (Addr × Obj)} {σ : L2.St} {H : Hp} {s : Shared}
/-- the code object of a generator expression comes out of its maker's table, or is made and written into it; then the built-ins are looked up -/
theorem gen_code {c P : Addr} {gpos : Pos} {qn : Str} {scope : Scope} {R : Value → Addr → Shared → Prop} (I : Inv X pins σ H s) (TB : LamX.TabB X.base X.mg c P) (hcode : X.env.code = .ref c) (hT : GxR.TabG H P)
    (h : ∀ (code : Value) (H2 : Hp) (s2 : Shared), GxR.Tabbed P H H2 → Inv X pins σ H2 s2 → (∀ b u, b ≠ P → s.heap.get? b = some u → s2.heap.get? b = some u) → s.heap.objs.size ≤ s2.heap.objs.size → R code builtinsNs s2) :
    wpAny (model X.prog X.w) X.A (genexprCode X.env gpos qn scope) (fun code s3 => wpAny (model X.prog X.w) X.A (builtinsFor X.env.globals X.env.builtins) (R code) X.xe s3) X.xe s := by
  obtain ⟨ps, hP, tri⟩ := hT
  have rawP := I.hok P _ hP
  have hd : PySem.W.CodeHd s.heap c P := TB.code.keeps I.bk
  have go : ∀ (code : Value) (g : Heap) (tk : Nat) (more : Array Value), Heap.ExtBut P s.heap g → s.heap.objs.size ≤ g.objs.size → g.get? P = some { cls := .none, data := .fields (ps ++ more) } → TriplesOk (ps ++ more).toList →
      wpAny (model X.prog X.w) X.A (builtinsFor X.env.globals X.env.builtins) (R code) X.xe { s with heap := g, toks := tk } := fun code g tk more ext le tab tri' => by
    have J : Inv X pins σ (upd H P (.tbl (ps ++ more))) { s with heap := g, toks := tk } := GxR.inv_tab (g' := s.gens) (d' := s.drawn) I hP ext tab I.bare
    obtain ⟨bm, ob, b1, b2, _, _, b5, b6, b7, b8⟩ := TB.bm
    refine wpAny_builtinsFor (m := X.mg) ?_ b1 b2 (J.bk _ _ b5) b6 b7 b8 (h code _ _ ⟨⟨_, upd_same, tri'⟩, fun b ne => upd_ne ne⟩ J ext le)
    rw [J.ok.glob]
    exact J.mod.glob.keeps J.bk
  match hf : codeAmong gpos ps.toList with
  | some cv => exact wpAny_genexprCode_hit hcode (hd.code rawP tri) hf (go cv s.heap s.toks #[] (Heap.ExtBut.refl _ _) (Nat.le_refl _) (by rw [Array.append_empty]; exact rawP) (by rw [Array.append_empty]; exact tri))
  | none =>
    refine wpAny_genexprCodeX hcode (hd.code rawP tri) (hd.tab rawP) hf fun c' g tk ext ge lt isC _ isT _ => go _ g tk _ ext (Nat.le_trans ge (Nat.le_of_lt lt)) isT.2 ?_
    obtain ⟨_, _, _, _, _, _, _, _, _, _, _, _, _, _, _, _, _, _, _, z, _⟩ := isC
    exact z
/-! tuple(elt for x in text): numbers -/
/-! all(elt for x in ..) -/
/-! ### what a captured name holds -/
/-! x in y, y a captured text -/
/-! r[y.index(x)], r a captured tuple of numbers, y a captured text -/
end
end My

set_option Elab.async false
set_option linter.all false
set_option maxRecDepth 100000
set_option maxHeartbeats 2000000
namespace My
open PySem PySem.Spec PyProof.Rows L2
/-! ### tables of code objects: they may grow, all else stays -/
def TG (Ps : List Addr) (H : Hp) : Prop := ∀ P ∈ Ps, GxR.TabG H P
def Sx (Ps : List Addr) (H H' : Hp) : Prop := ∀ b o, b ∉ Ps → H b = some o → H' b = some o
theorem Sx.rfl' {Ps : List Addr} {H : Hp} : Sx Ps H H := fun _ _ _ h => h
theorem Sx.trans {Ps : List Addr} {H H1 H2 : Hp} (a : Sx Ps H H1) (b : Sx Ps H1 H2) : Sx Ps H H2 := fun c o n h => b c o n (a c o n h)
theorem Same.sx {Ps : List Addr} {H H' : Hp} (s : Same H H') : Sx Ps H H' := fun b o _ h => s b o h
theorem TG.same {Ps : List Addr} {H H' : Hp} (t : TG Ps H) (s : Same H H') : TG Ps H' := fun P hP => by
  obtain ⟨ps, h, r⟩ := t P hP
  exact ⟨ps, s _ _ h, r⟩
theorem TG.not {Ps : List Addr} {H : Hp} {b : Addr} {o : HO} (t : TG Ps H) (h : H b = some o) (ho : ∀ q, o ≠ .tbl q) : b ∉ Ps := fun hb => by
  obtain ⟨ps, h2, _⟩ := t b hb
  rw [h2] at h
  exact ho ps (Option.some.inj h).symm
theorem TG.kp {Ps : List Addr} {H H' : Hp} {r : Addr} {xs : List V} (t : TG Ps H) (hr : H r = some (.lst xs)) (k : Kp r H H') : TG Ps H' := fun P hP => by
  obtain ⟨ps, h, q⟩ := t P hP
  refine ⟨ps, k _ _ (fun z => ?_) h, q⟩
  rw [z, hr] at h
  cases h
theorem TG.new {Ps : List Addr} {H : Hp} {p : Addr} {o : HO} (t : TG Ps H) (n : H p = none) : TG Ps (upd H p o) := t.same (Same.new (Same.refl H) n)
theorem Sx.lst {Ps : List Addr} {H H' : Hp} {b : Addr} {xs : List V} (t : TG Ps H) (s : Sx Ps H H') (h : H b = some (.lst xs)) : H' b = some (.lst xs) := s b _ (t.not h fun q z => nomatch z) h
theorem Sx.new {Ps : List Addr} {H H1 : Hp} {p : Addr} {o : HO} (s : Sx Ps H H1) (n : H1 p = none) : Sx Ps H (upd H1 p o) := fun b x nb h => keep_new (s b x nb h) n
theorem Sx.mut {Ps : List Addr} {H H1 : Hp} {p : Addr} {o : HO} (s : Sx Ps H H1) (n : H p = none) : Sx Ps H (upd H1 p o) := fun b x nb h => keep_ne (s b x nb h) (ne_of_none h n)
theorem Sx.free {Ps : List Addr} {H H' : Hp} {p : Addr} (t : TG Ps H') (s : Sx Ps H H') (h : H' p = none) : H p = none := by
  cases q : H p with
  | none => rfl
  | some o =>
    by_cases hp : p ∈ Ps
    · obtain ⟨ps, h2, _⟩ := t p hp
      rw [h] at h2
      cases h2
    · rw [s p o hp q] at h
      cases h
theorem Sx.seqL {K : PySem.W.Frag} {Ps : List Addr} {H H' : Hp} {a : Addr} {xs : List V} (t : TG Ps H) (s : Sx Ps H H') (h : SqL K H a xs) : SqL K H' a xs := by
  rcases h with (h | ⟨o, h⟩) | h
  · exact .inl (.inl (s.lst t h))
  · exact .inl (.inr ⟨o, s _ _ (t.not h fun q z => nomatch z) h⟩)
  · exact .inr h
/-- one table of them has grown -/
theorem Tabbed.sx {Ps : List Addr} {P : Addr} {H H' : Hp} (hP : P ∈ Ps) (t : GxR.Tabbed P H H') : Sx Ps H H' := fun b o nb h => by
  rw [t.2 b fun z => nb (z ▸ hP)]
  exact h
theorem Tabbed.tg {Ps : List Addr} {P : Addr} {H H' : Hp} (g : TG Ps H) (t : GxR.Tabbed P H H') : TG Ps H' := fun P' hP' => by
  by_cases e : P' = P
  · rw [e]
    exact t.1
  · obtain ⟨ps, h, q⟩ := g P' hP'
    exact ⟨ps, (t.2 P' e).trans h, q⟩
/-! ### a def whose code object is told -/
def FunC (K : PySem.W.Frag) (x qual : Str) (st : Stmt) (f : Addr) (fd : FuncData) (c : Addr) : Prop :=
  ∃ (oc : Value) (od : Option Addr) (kV doc pm : Value) (an : Option Addr) (ct : Value) (osl : Array (Option Value)), fd = PySem.W.fnOf x qual (defArgs st) (defBody st) (defScope st) .none kV doc pm an (.ref c) ct ∧ K.lookup f = some ⟨oc, od, .func fd, osl⟩ ∧ PySem.W.codeIn K (.ref c) qual = true
theorem FunC.ok {P : Program} {w : World} {K : PySem.W.Frag} {mg : Str → Option Value} {base : Heap} {x qual : Str} {st : Stmt} {f c : Addr} {fd : FuncData} {N ps : List Str} {k : Nat} {sp : Sp} (F : FunC K x qual st f fd c) (S : FnScope N ps (defScope st)) (len : ∀ vs H Q E, sp vs H Q E → vs.length = ps.length)
    (hbody : ∀ (A : Around) (outer : List Env) (s : Shared) (H : Hp) (vs : List V) (Q : VK) (E : XK), Room k (A.deeper (envOfC qual (defScope st) s.heap.objs.size f (.ref c))) → sp vs H Q E →
      ∃ t, PSs (cxOf CX0 P w K mg base N qual (defScope st) f (.ref c) A outer s H E).nox (defBody st) t ∧ t { nx := fun _ H' => Q .non H', rt := Q } (start N vs) H) : FnOk P w K mg base CX0 (k + 1) f fd ps sp := by
  obtain ⟨oc, od, kV, doc, pm, an, ct, osl, rfl, lk, hcd⟩ := F
  refine fn_of lk hcd S len fun A outer s H vs Q E hr hsp => ?_
  obtain ⟨t, h, q⟩ := hbody A outer s H vs Q E hr hsp
  exact ⟨t, h.nox, q⟩
theorem FunC.fn {K : PySem.W.Frag} {x qual : Str} {st : Stmt} {f c : Addr} {fd : FuncData} (F : FunC K x qual st f fd c) (k : PySem.W.keepIn K (.ref f) = true) : Fun K x qual st f fd := by
  obtain ⟨oc, od, kV, doc, pm, an, ct, osl, e, lk, hcd⟩ := F
  exact ⟨⟨oc, od, kV, doc, pm, an, .ref c, ct, osl, e, lk, hcd⟩, k⟩
/-! ### the generator expressions that we met -/
/-! ### the end: the tables of all defs are empty -/
def OwnTC (K : PySem.W.Frag) (fa : Addr) (h : Heap) : Prop := ∀ (c P : Addr) (o : Obj) (fd : FuncData) (e : Value) (dd : Option Addr) (vs : Array Value) (sl : Array (Option Value)), K.lookup fa = some o → o.data = .func fd → fd.code = .ref c → K.lookup c = some ⟨e, dd, .fields vs, sl⟩ → vs[11]? = some (.ref P) →
  h.get? P = some { cls := .none, data := .fields #[] } ∧ PySem.W.CodeHd h c P
end My

set_option Elab.async false
set_option linter.all false
set_option maxRecDepth 100000
set_option maxHeartbeats 2000000
namespace My
open PySem PySem.Spec PyProof.Rows L2
/-! ### texts by their codes -/
theorem cut_take (l : List Nat) (k : Nat) : cutS ⟨l.toArray⟩ none (some (k : Int)) = ⟨(l.take k).toArray⟩ := by
  unfold cutS
  rw [HT.sIx_none, HT.sIx_nat]
  show (⟨((l.toArray.toList.drop 0).take (min k l.toArray.size - 0)).toArray⟩ : Str) = _
  have e1 : l.toArray.toList = l := by simp
  have e2 : l.toArray.size = l.length := by simp
  rw [e1, e2, List.drop_zero, Nat.sub_zero]
  congr 2
  rw [List.take_eq_take_iff]
  omega
theorem tx_inj {a b : List Nat} (h : tx a = tx b) : a = b := by
  have h2 : (⟨a.toArray⟩ : Str) = ⟨b.toArray⟩ := V.str.inj h
  have h3 : a.toArray = b.toArray := congrArg Str.cps h2
  simpa using h3
/-! ### the letters that a question uses -/
section
variable (K : PySem.W.Frag) {X : Cx}
end
/-! ### the bounds that a question asks of a letter -/
theorem TG.mut {Ps : List Addr} {H : Hp} {p : Addr} {xs : List V} {o : HO} (t : TG Ps H) (h : H p = some (.lst xs)) : TG Ps (upd H p o) := fun P hP => by
  obtain ⟨ps, h2, q⟩ := t P hP
  refine ⟨ps, ?_, q⟩
  rw [upd_ne (fun z => ?_)]
  · exact h2
  · rw [z, h] at h2
    cases h2
/-! ### stretches -/
end My

set_option Elab.async false
set_option linter.all false
set_option maxRecDepth 100000
set_option maxHeartbeats 2000000
namespace My
open PySem PySem.Spec PyProof.Rows L2
/-! ### tuples whose own object is told: without a dict of its own -/
section
variable (K : PySem.W.Frag) {X : Cx}
end
theorem app_txt (a b : List Nat) : ((⟨a.toArray⟩ : Str) ++ (⟨b.toArray⟩ : Str)) = ⟨(a ++ b).toArray⟩ := by
  show (⟨a.toArray ++ b.toArray⟩ : Str) = _
  rw [List.append_toArray]
/-! ### questions: their equals are such a tuple -/
end My

set_option Elab.async false
set_option linter.all false
set_option maxRecDepth 100000
set_option maxHeartbeats 2000000
namespace My
open PySem PySem.Spec PyProof.Rows L2
theorem nodup_sub_len : ∀ {l m : List Nat}, l.Nodup → (∀ c ∈ l, c ∈ m) → l.length ≤ m.length
  | [], _, _, _ => Nat.zero_le _
  | a :: l, m, h, hs => by
    have h2 := List.nodup_cons.mp h
    have ha := hs a (by simp)
    have ih := nodup_sub_len (m := m.erase a) h2.2 (fun c hc => (List.mem_erase_of_ne (fun e => h2.1 (by rw [← e]; exact hc))).mpr (hs c (by simp [hc])))
    rw [List.length_erase_of_mem ha] at ih
    have hp : 0 < m.length := List.length_pos_of_mem ha
    rw [List.length_cons]
    omega
end My

set_option Elab.async false
set_option linter.all false
set_option maxRecDepth 100000
set_option maxHeartbeats 2000000
namespace My
open PySem PySem.Spec PyProof.Rows L2
section
variable {X : Cx}
/-! ### text[::-1] -/
theorem fm_all (l : List Nat) : (List.range l.length).filterMap (l[·]?) = l := by
  induction l with
  | nil => rfl
  | cons a l ih =>
    rw [List.length_cons, List.range_succ_eq_map, List.filterMap_cons]
    show a :: List.filterMap _ _ = _
    rw [List.filterMap_map]
    congr 1
theorem rev_pick (l : List Nat) : (Builtin.Str.strSliceIndices none none (-1) l.length).filterMap (l[·]?) = l.reverse := by
  have e : Builtin.Str.strSliceIndices none none (-1) l.length = sliceRange ((l.length : Int) - 1) (-1) (-1) := rfl
  rw [e, PySem.W.krv_sliceRange, PySem.W.krv_range, List.filterMap_reverse, fm_all]
/-- the slice ::-1 as it stands behind its making -/
theorem ev_back {pins : List (Addr × Obj)} {σ : L2.St} {H : Hp} {s : Shared} {k : Nat} {p1 p2 p3 : Pos} {Q' : Value → Shared → Prop} (I : Inv X pins σ H s)
    (goal : ∀ (tk : Tok) (s2 : Shared), Inv X pins σ H s2 → Q' (.ref s2.heap.objs.size) { s2 with heap := s2.heap.push { cls := .type "slice", data := .fields #[.none, .none, .int (-1) tk] } }) :
    wpAny (model X.prog X.w) X.A (eval (.Slice none none (some (.UnaryOp .USub (.Constant (.int 1) k p1) p2)) p3) X.env) Q' X.xe s := by
  refine wpAny_Slice ?_
  rw [evalPart_none, evalPart_some]
  refine wpAny_pure (wpAny_pure (thn ((pe_un un_neg pe_int).run pins s σ H (fun x G => x = .int (-1) ∧ G = H) I ⟨1, rfl, rfl, rfl⟩) ?_))
  rintro u s2 ⟨x, G, I2, r, rfl, rfl⟩
  obtain ⟨tk, rfl⟩ := r
  exact goal tk s2 I2
def tRevS (te : TE) : TE := fun σ H Q => te σ H fun x H1 => ∃ l : List Nat, x = tx l ∧ l.length ≤ sizeLine ∧ Q (tx l.reverse) H1
theorem pe_revS {e : Expr} {te : TE} {k : Nat} {p1 p2 p3 pos : Pos} (he : PE X e te) : PE X (.Subscript e (.Slice none none (some (.UnaryOp .USub (.Constant (.int 1) k p1) p2)) p3) pos) (tRevS te) := by
  refine ⟨fun pins s σ H Q I h => Subscript_ (thn (he.run pins s σ H _ I h) ?_)⟩
  rintro _ s1 ⟨_, H1, I1, r1, l, rfl, hl, q⟩
  obtain ⟨t, rfl⟩ := r1
  refine ev_back I1 fun tk s4 I4 => ?_
  have I5 : Inv X pins σ H1 { s4 with heap := s4.heap.push { cls := .type "slice", data := .fields #[.none, .none, .int (-1) tk] } } := I4.kept fun _ _ => Heap.get?_push_of_some _
  refine tail_any (ops := [.str ⟨l.toArray⟩ t, .ref s4.heap.objs.size]) (typeIs_str _ _ _) F.slot_str_getitem.lookup ?_ (by with_unfolding_all rfl)
  refine wpAny_getItem_str_slice (l := none) (u := none) (st := some (-1, tk)) ⟨_, Heap.get?_push_size _ rfl, rfl, rfl⟩ rfl ?_
  have ep : ((Builtin.Str.strSliceIndices none none (-1) (⟨l.toArray⟩ : Str).length).filterMap ((⟨l.toArray⟩ : Str).cps[·]?)).toArray = l.reverse.toArray := by
    have e3 : (⟨l.toArray⟩ : Str).length = l.length := by simp [Str.length]
    rw [e3]
    congr 1
    rw [← rev_pick l]
    congr 1
    funext i
    simp
  show Made.post (if ((-1 : Int) == 1 && (Builtin.Str.strSliceIndices none none (-1) (⟨l.toArray⟩ : Str).length).length == (⟨l.toArray⟩ : Str).length) = true then Made.val (.str ⟨l.toArray⟩ t)
    else Made.str ⟨((Builtin.Str.strSliceIndices none none (-1) (⟨l.toArray⟩ : Str).length).filterMap ((⟨l.toArray⟩ : Str).cps[·]?)).toArray⟩) (EP X pins σ Q) _
  have c0 : ((-1 : Int) == 1) = false := by decide
  rw [c0, Bool.false_and, if_neg Bool.false_ne_true, ep]
  exact ⟨by show l.reverse.toArray.size ≤ sizeLine; simpa using hl, .str _, H1, I5.tok _, ⟨_, rfl⟩, q⟩
end
section
variable {prog : Program} {w : World} {A : Around} {E : Value → Shared → Prop} {s : Shared}
end
section
variable {X : Cx}
/-! ### sorted(text) -/
end
end My

set_option Elab.async false
set_option linter.all false
set_option maxRecDepth 100000
set_option maxHeartbeats 2000000
namespace My
open PySem PySem.Spec PyProof.Rows L2
section
variable (K : PySem.W.Frag) {X : Cx}
/-! ### the least of a list -/
end
/-! ### keys of a merged dict -/
/-! ### choices: texts in a row -/
abbrev txS (l : List Nat) : Str := ⟨l.toArray⟩
theorem txS_of (z : Str) : txS z.cps.toList = z := by
  cases z
  simp
structure OneOk (cols o : List Nat) : Prop where
  ne : o ≠ []
  sub : ∀ c ∈ o, c ∈ cols
  nd : o.Nodup
theorem OneOk.len {cols o : List Nat} (h : OneOk cols o) : o.length ≤ cols.length := nodup_sub_len h.nd h.sub
/-! ### prices -/
end My

set_option Elab.async false
set_option linter.all false
set_option maxRecDepth 100000
set_option maxHeartbeats 2000000
namespace My
open PySem PySem.Spec PyProof.Rows L2
/-! ### drawn lists, each with True -/
theorem one_ok {cols one rest : List Nat} (hc : cols.Nodup) (hp : (rest ++ one).Perm cols) (h0 : 0 < one.length) : OneOk cols one :=
  ⟨fun e => by rw [e] at h0; exact Nat.lt_irrefl _ h0, fun c h => hp.mem_iff.mp (List.mem_append_right _ h), (List.nodup_append.mp (hp.nodup_iff.mpr hc)).2.1⟩
end My

set_option Elab.async false
set_option linter.all false
set_option maxRecDepth 100000
set_option maxHeartbeats 2000000
namespace My
open PySem PySem.Spec PyProof.Rows L2
/-! ### texts cut -/
theorem cut_from (l : List Nat) (a : Nat) : cutS ⟨l.toArray⟩ (some (a : Int)) none = ⟨(l.drop a).toArray⟩ := by
  unfold cutS
  rw [HT.sIx_nat, HT.sIx_none]
  have e1 : (⟨l.toArray⟩ : Str).cps.toList = l := by simp
  have e2 : (⟨l.toArray⟩ : Str).length = l.length := by simp [Str.length]
  rw [e1, e2]
  congr 2
  by_cases h : a ≤ l.length
  · rw [Nat.min_eq_left h, List.take_of_length_le (by rw [List.length_drop]; omega)]
  · rw [List.drop_of_length_le (by omega), List.drop_of_length_le (by omega), List.take_nil]
/-! ### list(x), x a text or a row -/
/-! ### a need and a list: two ways to look -/
end My

set_option Elab.async false
set_option linter.all false
set_option maxRecDepth 100000
set_option maxHeartbeats 2000000
namespace My
open PySem PySem.Spec PyProof.Rows L2
/-! ### sorted again -/
/-! ### rows of lists of numbers -/
mutual
theorem Ft.dp {K : PySem.W.Frag} {H : Hp} : ∀ (d : PyData) (v : V), Ft H v d → Dp K H v d
  | .none, _, .non => .non
  | .bool _, _, .bl b => .bl b
  | .int _, _, .int i => .int i
  | .str _, _, .str z => .str z
  | .list ds, _, .lst h a => .lst (.inl (.inl h)) (FtA.dp ds _ a)
  | .tuple ds, _, .tup h a => .tup (.inl (.inl h)) (FtA.dp ds _ a)
theorem FtA.dp {K : PySem.W.Frag} {H : Hp} : ∀ (ds : List PyData) (vs : List V), FtA H vs ds → DpAll K H vs ds
  | [], _, .nil => .nil
  | d :: ds, _, .cons h a => .cons (Ft.dp d _ h) (FtA.dp ds _ a)
end
end My
namespace My
open PySem PySem.Spec PyProof.Rows L2
end My

set_option Elab.async false
set_option linter.all false
set_option maxRecDepth 100000
set_option maxHeartbeats 2000000
namespace My
open PySem PySem.Spec PyProof.Rows L2
/-! ### generator expressions whose element calls defs -/
/-- the context of a generator expression's own frame -/
abbrev gxC (X : Cx) (A : Around) (s : Shared) (H : Hp) (cenv : Env) (fp : List Addr) (pn : List (Addr × Obj)) : Cx :=
  { X with A := A, s_0 := s, H_0 := H, env := cenv, outer := X.stack, stack := cenv :: X.stack, ex := fp, fn := fun _ => false, pn := pn, xe := fun _ _ => False }
theorem over_gen {A : Around} {elt : Expr} {gs : List Comprehension} {scope : Scope} {pos : Pos} {it acc : Value} {env : Env} : A.over (.compLoop (.GeneratorExp elt gs scope pos) 0 it acc env) [] = A.deeper env := rfl
section
variable {X : Cx} {pins : List (Addr × Obj)} {σ : L2.St} {H : Hp} {s : Shared}
/-- what its consumer wrote at S while it slept -/
theorem woke {S : Addr} {o o' : Obj} {pins0 : List (Addr × Obj)} {s' : Shared} (I : Inv X ((S, o) :: pins0) σ H s) (h0 : X.s_0.heap.objs.size ≤ S) (hc : ∀ x c, X.env.cells.lookup x = some c → c ≠ S) (hpn : ∀ p ∈ X.pn ++ pins0, p.1 ≠ S)
    (os : s'.os = s.os) (bare : AllBare s'.gens) (keep : ∀ b u, b ≠ S → s.heap.get? b = some u → s'.heap.get? b = some u) (own : s'.heap.get? S = some o') (hd : ∀ v, o'.data ≠ .cell v) : Inv X ((S, o') :: pins0) σ H s' := by
  obtain ⟨p1, p2, p3, p4, p5⟩ := I.pin (S, o) (List.mem_append_right _ List.mem_cons_self)
  have I0 : Inv X pins0 σ H s := I.pins_of fun p hp => I.pin p (List.mem_append_right _ (List.mem_cons_of_mem _ hp))
  have J : Inv X pins0 σ H { s with heap := s'.heap, toks := s.toks } := I0.turned (t' := s.toks) keep p2 p3 (.inr h0) hc hpn
  have J2 : Inv X pins0 σ H s' := J.call' (ch := []) os (Un.kept fun b o e => e) J.hok bare (fun b hb => absurd hb (by simp))
  refine J2.pins_of fun p hp => ?_
  rcases List.mem_cons.mp hp with z | z
  · rw [z]
    exact ⟨own, p2, p3, p4, hd⟩
  · exact J2.pin p (List.mem_append_right _ z)
/-- a scope without cells makes none -/
theorem none_made : ∀ {names : List (Str × NameKind)}, (∀ y ∈ names, y.2 ≠ .cell) → (∀ n acc, cellsFrom n names acc = acc) ∧ ∀ h, pushCells h names = h
  | [], _ => ⟨fun _ _ => rfl, fun _ => rfl⟩
  | y :: r, no => by
    have hy : (y.2 == NameKind.cell) = false := beq_eq_false_iff_ne.mpr (no y List.mem_cons_self)
    have ⟨p, q⟩ := none_made (names := r) fun z hz => no z (List.mem_cons_of_mem y hz)
    exact ⟨fun n acc => by rw [cellsFrom, hy]; exact p n acc, fun h => by rw [pushCells, hy]; exact q h⟩
/-- names keep their places when only their kinds change -/
theorem lookup_kinds {f : Str × NameKind → Str × NameKind} (same : ∀ p, (f p).1 = p.1) {x : Str} {k : NameKind} : ∀ {names : List (Str × NameKind)}, names.lookup x = some k → (names.map f).lookup x = some (f (x, k)).2
  | [], e => nomatch e
  | (n, j) :: r, e => by
    rw [List.map_cons, show f (n, j) = (n, (f (n, j)).2) from Prod.ext (same _) rfl]
    cases hx : x == n with
    | true =>
      rw [List.lookup_cons, hx] at e ⊢
      obtain rfl : j = k := Option.some.inj e
      rw [eq_of_beq hx]
    | false =>
      rw [List.lookup_cons, hx] at e ⊢
      exact lookup_kinds same e
/-- a free name stays free or is a cell in the block's scope -/
theorem relab_free {env : Env} {scope : Scope} {x : Str} (e : scope.names.lookup x = some .free) : (relabel scope env).names.lookup x = some .cell ∨ (relabel scope env).names.lookup x = some .free := by
  unfold relabel
  rw [lookup_kinds (fun p => ?_) e]
  · dsimp only
    split
    · exact .inl rfl
    · exact .inr rfl
  · dsimp only
    split <;> rfl
/-- the generator's frame as it begins: what a block's frame would know, with the iterator under its own name -/
theorem gx_start {scope : Scope} {own : List (Str × Nat)} {fp : List Addr} {A : Around} {code : Value} {it : Value} {h' : Heap} {go : Obj} {G : Array GenState} {tk : Nat} (I : Inv X pins σ H s) (ok : BlkOk X.N X.env.scope scope own) (hcell : ∀ y ∈ scope.names, y.2 ≠ .cell) (hN : X.N.Nodup)
    (hfp : ∀ b ∈ fp, FpOk X pins H b ∧ b < s.heap.objs.size) (hA : A.handled = none) (hfr : A.frames = some X.stack) (hn : h'.Ns s.heap.objs.size (fun y => if y = ".0" then some it else none))
    (hs : Heap.SameBut s.heap.objs.size (s.heap.push { cls := .type "frame", data := .dict #[] }) h') (hG : AllBare G) (hgp : (h'.push go).get? h'.objs.size = some go) (hgd : ∀ v, go.data ≠ .cell v) :
    Inv (gxC X (A.deeper (genEnv scope (cloFrom X.env.cells scope.names []) s.heap.objs.size code builtinsNs X.env)) s H (genEnv scope (cloFrom X.env.cells scope.names []) s.heap.objs.size code builtinsNs X.env) fp [(h'.objs.size, go)]) [] (wipe σ (own.map (·.2))) H
      { s with gens := G, toks := tk, heap := h'.push go } := by
  have J := block_start I ok hN hfp
  rw [(none_made hcell).1, (none_made hcell).2] at J
  have lt : s.heap.objs.size < h'.objs.size := hn.lt
  have kp : ∀ b o, s.heap.get? b = some o → (h'.push go).get? b = some o := fun b o e => Heap.get?_push_of_some _ (hs.extBut b o (Nat.ne_of_lt (Heap.lt_size e)) (Heap.get?_push_of_some _ e))
  have cells : ∀ {c : Addr} {v : Option Value}, (s.heap.push { cls := .type "dict", data := .dict #[] }).IsCell c v → (h'.push go).IsCell c v := by
    rintro c v ⟨o, e, d⟩
    have ne : c ≠ s.heap.objs.size := fun z => by
      rw [z, Heap.get?_push_size _ rfl] at e
      rw [← Option.some.inj e] at d
      cases d
    exact ⟨o, kp c o (Heap.get?_push_ne _ _ _ ne ▸ e), d⟩
  have outside : ∀ {y : Str}, scope.names.lookup y = some .cell ∨ scope.names.lookup y = some .free → (relabel scope X.env).names.lookup y = some .cell ∨ (relabel scope X.env).names.lookup y = some .free := fun z => z.elim (fun e => absurd rfl (hcell _ (PySem.mem_of_lookup e))) relab_free
  refine { ok := { mod := J.ok.mod, kind := ok.kind, glob := J.ok.glob, blt := rfl, above := Nat.le_refl _, inj := J.ok.inj, has := fun y z => J.ok.has y (outside z), cab := (fun _ _ z => nomatch z), hd := fun _ => hA, frames := Around.frames_deeper hfr, stk := .inr ⟨rfl, rfl⟩,
                   exf := J.ok.exf, bs := J.ok.bs, bsz := J.ok.bsz, noex := J.ok.noex, exfs := J.ok.exfs, funs := J.ok.funs, frf := J.ok.frf }
           os := rfl, bare := hG, base := Un.kept kp, loc := ⟨_, hn.push go, fun i y v hy hv vis => ?_⟩, cell := fun y c e => (J.cell y c e).imp fun _ => cells, free := J.free, freeC := J.freeC, pin := ?_, hok := I.hok.kept kp, len := J.len }
  · obtain ⟨m, hm, all⟩ := J.loc
    have blank : m y = none := hm.agree (Heap.Ns.new s.heap (.type "dict")) y
    have get := all i y v hy hv
    rcases vis with l | l
    · have l2 : (relabel scope X.env).names.lookup y = some .local := lookup_relabel_local l
      obtain ⟨u, _, z | z⟩ := get (.inl l2)
      · rw [blank] at z
        exact nomatch z.2
      · rcases z.1 with z | z <;> exact nomatch l2.symm.trans z
    · obtain ⟨u, r, z | ⟨_, c, e, k⟩⟩ := get (.inr (outside l))
      · rw [blank] at z
        exact nomatch z.2
      · exact ⟨u, r, .inr ⟨l, c, e, cells k⟩⟩
  · intro p hp
    obtain rfl : p = (h'.objs.size, go) := by simpa using hp
    refine ⟨hgp, I.hok.fresh (Nat.le_of_lt lt), Nat.ne_of_gt lt, fun z => ?_, hgd⟩
    rcases List.mem_cons.mp (I.stkSub _ z) with e | e
    · exact Nat.lt_irrefl _ (Nat.lt_trans lt (show h'.objs.size < _ from (show h'.objs.size = X.env.locals from e) ▸ I.lt))
    · exact I.nofs (Nat.le_of_lt lt) e
end
end My

set_option Elab.async false
set_option linter.all false
set_option maxRecDepth 100000
set_option maxHeartbeats 2000000
namespace My
open PySem PySem.Spec PyProof.Rows L2
/-- where such a generator stands: i items are out; S: what its consumer keeps -/
structure GxAt (X : Cx) (fp : List Addr) (tn : Nat → Heap → Prop) (σ0 : L2.St) (W : Nat → Hp → Prop) (S : Addr) (i : Nat) (o : Obj) (H : Hp) (s : Shared) : Prop where
  inv : Inv X [(S, o)] σ0 H s
  st : tn i s.heap
  nfp : ∀ b ∈ fp, H b = none
  w : W i H
/-- the consumer wrote at S alone -/
structure Wrote (S : Addr) (s s' : Shared) (o' : Obj) : Prop where
  os : s'.os = s.os
  bare : AllBare s'.gens
  keep : ∀ b u, b ≠ S → s.heap.get? b = some u → s'.heap.get? b = some u
  own : s'.heap.get? S = some o'
  nc : ∀ v, o'.data ≠ .cell v
def gxY (X : Cx) (fp : List Addr) (tn : Nat → Heap → Prop) (σ0 : L2.St) (W : Nat → Hp → Prop) (S : Addr) (n : Nat) (F : Nat → V) : Protocol := fun m s₀ v s kap =>
  ∃ i o H, m + i + 1 = n ∧ RelV (F i) v ∧ s₀.heap.get? S = some o ∧ GxAt X fp tn σ0 W S (i + 1) o H s ∧ ∀ s'' o', Wrote S s s'' o' → kap (.send .none) s''
def gxP (X : Cx) (σ0 : L2.St) (W : Nat → Hp → Prop) (S : Addr) (n : Nat) : Nat → Shared → Shared → Prop := fun m s₀ s₁ => m = 0 ∧ ∃ o H, Inv X [(S, o)] σ0 H s₁ ∧ W n H
section
variable {X : Cx}
/-- one item's reading -/
def gxStep (J : It) (g : L2.TG) (te : TE) (vs : List Nat) (σ0 : L2.St) (W : Nat → Hp → Prop) (n : Nat) (F : Nat → V) : Prop :=
  ∀ i H, W i H → (i < n → J.go i H ∧ ∀ x H', J.yld i H x H' → g x σ0 H' fun σ2 H2 => wipe σ2 vs = σ0 ∧ te σ2 H2 fun y H3 => y = F i ∧ W (i + 1) H3) ∧ (i = n → J.stop i H)
theorem gx_loop {A : Around} {elt tg iter : Expr} {scope : Scope} {pos : Pos} {J : It} {fp : List Addr} {it : Addr} {tn : Nat → Heap → Prop} {g : L2.TG} {te : TE} {vs : List Nat} {σ0 : L2.St} {W : Nat → Hp → Prop} {n : Nat} {F : Nat → V} {S : Addr}
    (hA : A.deeper X.env = X.A) (T : Turn X.prog X.w X.K tg J fp it tn) (hc : X.calm = true) (hex : X.ex = fp) (hSf : S ∉ fp) (hpf : ∀ p ∈ X.pn, p.1 ∉ fp) (hxe : ∀ e s, X.xe e s → False) (hco : X.env.scope.isCoroutine = false)
    (h0 : X.s_0.heap.objs.size ≤ S) (hcs : ∀ x c, X.env.cells.lookup x = some c → c ≠ S) (hpS : ∀ p ∈ X.pn, p.1 ≠ S)
    (pg : PG X tg g) (pe : PE X elt te) (step : gxStep J g te vs σ0 W n F) :
    ∀ (k i : Nat) (s₀ s : Shared) (o : Obj) (H : Hp), i + k = n → s₀.heap.get? S = some o → GxAt X fp tn σ0 W S i o H s →
      Seg (model X.prog X.w) A (fun m s₀ r s₁ => r = .ok .next ∧ gxP X σ0 W S n m s₀ s₁) (gxY X fp tn σ0 W S n F) k s₀
        (.compLoop (.GeneratorExp elt [⟨tg, iter, [], 0⟩] scope pos) 0 (.ref it) .none X.env)
        ((model X.prog X.w).den (.compLoop (.GeneratorExp elt [⟨tg, iter, [], 0⟩] scope pos) 0 (.ref it) .none X.env)) [] s := by
  have stat : ∀ {o : Obj} {σ' : L2.St} {H' : Hp} {s' : Shared}, Inv X [(S, o)] σ' H' s' → (∀ b ∈ fp, H' b = none) → ∀ b ∈ fp, FpOk X [(S, o)] H' b := fun {o σ' H' s'} I' hn b hb =>
    ⟨hn b hb, (I'.ok.exf b (hex ▸ hb)).1, I'.ok.exfs b (hex ▸ hb), .inl (hex ▸ hb), fun x c e => (I'.ok.exf b (hex ▸ hb)).2 x c e, fun p hp z => by
      rcases List.mem_append.mp hp with q | q
      · exact hpf p q (z ▸ hb)
      · have e : p = (S, o) := by simpa using q
        rw [e] at z
        exact hSf (by rw [show S = b from z]; exact hb)⟩
  intro k
  induction k with
  | zero =>
    intro i s₀ s o H hk hs0 G
    have hin : i = n := by omega
    subst hin
    show Seg _ A _ _ _ s₀ _ ((compTurn (.GeneratorExp elt [⟨tg, iter, [], 0⟩] scope pos) 0 (.ref it) .none X.env).onRaise (leaving X.env)) [] s
    rw [compTurn_gen, Sem.onRaise_eq_wrap]
    refine seg_bind_wrap (wpAny_standAt ?_)
    refine seg_bind_wrap ?_
    rw [over_gen, hA]
    refine thnF (T.done X rfl rfl rfl hc i [(S, o)] s σ0 H (fun _ _ => False) G.inv (stat G.inv G.nfp) G.st ((step i H G.w).2 rfl)) fun r s6 ⟨hr, I6⟩ => ?_
    subst hr
    exact seg_end (.ok .next) ⟨rfl, rfl, o, H, I6, G.w⟩
  | succ k ih =>
    intro i s₀ s o H hk hs0 G
    have hlt : i < n := by omega
    obtain ⟨go, st⟩ := (step i H G.w).1 hlt
    show Seg _ A _ _ _ s₀ _ ((compTurn (.GeneratorExp elt [⟨tg, iter, [], 0⟩] scope pos) 0 (.ref it) .none X.env).onRaise (leaving X.env)) [] s
    rw [compTurn_gen, Sem.onRaise_eq_wrap]
    refine seg_bind_wrap (wpAny_standAt ?_)
    refine seg_bind_wrap ?_
    rw [over_gen, hA]
    refine thnF (T.item X rfl rfl rfl hc i [(S, o)] s σ0 H (fun _ _ => False) G.inv (stat G.inv G.nfp) G.st go) fun r s6 ⟨u, hr, h6⟩ => ?_
    subst hr
    refine seg_bind_wrap ?_
    rw [over_gen, hA]
    refine thnF h6 fun _ s7 ⟨x, H7, I7, r7, y7, st7, n7⟩ => ?_
    have I7' := I7.pinned (stat I7 n7) (T.obj _ _ st7)
    refine seg_bind_wrap ?_
    rw [over_gen, hA]
    refine wpAny_mono (pg.run _ s7 _ H7 x u _ I7' r7 (st x H7 y7)) (fun _ s8 h8 => ?_) (fun e s' z => (hxe e s' z).elim)
    obtain ⟨σ8, H8, I8, hw8, q8⟩ := h8
    refine seg_bind_wrap (wpAny_tests_nil ?_)
    simp only [if_true]
    have hy : ∀ v, yieldOut X.env v = yieldValue v := fun v => by simp only [yieldOut, hco, Bool.false_eq_true, if_false]
    simp only [hy]
    rw [Sem.bind_eq_wrap', Sem.bind_eq_wrap', Sem.wrap_wrap, Sem.wrap_wrap]
    refine seg_wrap ?_
    rw [over_gen, hA]
    refine wpAny_mono (pe.run _ s8 σ8 H8 _ I8 q8) (fun yv s10 h10 => ?_) (fun e s' z => (hxe e s' z).elim)
    obtain ⟨y, H10, I10, r10, ey, w10⟩ := h10
    have pin' : ∀ b ∈ fp, ∀ ob, s7.heap.get? b = some ob → s10.heap.get? b = some ob ∧ H10 b = none := fun b hb ob e =>
      let z := I10.pin (b, ob) (List.mem_append_right _ (List.mem_append_right _ (mem_pinsAt hb e)))
      ⟨z.1, z.2.1⟩
    have hl : σ0.length = σ8.length := by rw [← hw8, wipe_length]
    have I11 : Inv X [(S, o)] σ0 H10 s10 := (I10.unpinned (pins := [(S, o)])).weak hl fun j v e => by
      rw [← hw8] at e
      exact (wipe_some e).1
    have G11 : GxAt X fp tn σ0 W S (i + 1) o H10 s10 := ⟨I11, T.keep _ _ _ st7 fun b hb ob e => (pin' b hb ob e).1, fun b hb => by
      obtain ⟨ob, e, _⟩ := T.obj _ _ st7 b hb
      exact (pin' b hb ob e).2, w10⟩
    refine seg_at (seg_yield rfl rfl rfl ⟨i, o, H10, by omega, by rw [← ey]; exact r10, hs0, G11, fun s'' o' z => ?_⟩)
    refine seg_again rfl (ih (i + 1) s'' s'' o' H10 (by omega) z.own ⟨woke G11.inv h0 hcs (fun p hp => hpS p (by simpa using hp)) z.os z.bare z.keep z.own z.nc, T.keep _ _ _ G11.st fun b hb ob e => z.keep b ob (fun q => hSf (q ▸ hb)) e, G11.nfp, G11.w⟩)
/-- from its beginning -/
theorem gx_begin {A : Around} {elt tg iter : Expr} {scope : Scope} {pos : Pos} {J : It} {fp : List Addr} {it : Addr} {tn : Nat → Heap → Prop} {R : GenEnd} {Y : Protocol} {k : Nat} {s₀ s : Shared} (T : Turn X.prog X.w X.K tg J fp it tn) (st : tn 0 s.heap)
    (loop : Seg (model X.prog X.w) A R Y k s₀ (.compLoop (.GeneratorExp elt [⟨tg, iter, [], 0⟩] scope pos) 0 (.ref it) .none X.env)
        ((model X.prog X.w).den (.compLoop (.GeneratorExp elt [⟨tg, iter, [], 0⟩] scope pos) 0 (.ref it) .none X.env)) [] s) :
    Seg (model X.prog X.w) A R Y k s₀ (.compStart (.GeneratorExp elt [⟨tg, iter, [], 0⟩] scope pos) 0 (.ref it) .none X.env)
        ((model X.prog X.w).den (.compStart (.GeneratorExp elt [⟨tg, iter, [], 0⟩] scope pos) 0 (.ref it) .none X.env)) [] s := by
  show Seg _ A _ _ _ s₀ _ ((compStart (.GeneratorExp elt [⟨tg, iter, [], 0⟩] scope pos) 0 (.ref it) .none X.env).onRaise (leaving X.env)) [] s
  unfold compStart
  rw [Sem.onRaise_eq_wrap]
  show Seg _ A _ _ _ s₀ _ ((ask >>= _).wrap _ _ _ _) [] s
  refine seg_bind_wrap (wpAny_askSetting ?_)
  split
  · exact seg_again rfl loop
  · refine seg_bind_wrap (wpAny_rule ?_)
    show Seg _ A _ _ _ s₀ _ ((standAt iter.pos >>= _).wrap _ _ _ _) [] s
    exact seg_bind_wrap (wpAny_standAt (seg_bind_wrap (T.self _ 0 s _ _ st (seg_again rfl loop))))
end
end My

set_option Elab.async false
set_option linter.all false
set_option maxRecDepth 100000
set_option maxHeartbeats 2000000
namespace My
open PySem PySem.Spec PyProof.Rows L2
section
variable {X : Cx}
/-- what sum() walks: the generator at a sleeps, k items are still to come -/
structure GxSt (X : Cx) (A : Around) (fp : List Addr) (tn : Nat → Heap → Prop) (σ0 : L2.St) (W : Nat → Hp → Prop) (S : Addr) (n : Nat) (F : Nat → V) (a : Addr) (g k : Nat) (s : Shared) : Prop where
  gen : s.heap.IsGen a g
  lim : s.heap.NoLimit
  bare : AllBare s.gens
  go : ∃ gs, s.gens[g]? = some gs ∧ ∀ s'' o', Wrote S s s'' o' → gs.Goes (model X.prog X.w) A (fun m s₀ r s₁ => r = .ok .next ∧ gxP X σ0 W S n m s₀ s₁) (gxY X fp tn σ0 W S n F) k (.send .none) s''
end
end My

set_option Elab.async false
set_option linter.all false
set_option maxRecDepth 100000
set_option maxHeartbeats 2000000
namespace My
open PySem PySem.Spec PyProof.Rows L2
section
variable {X : Cx} {pins : List (Addr × Obj)} {σ : L2.St} {H : Hp} {s : Shared}
/-- the generator expression's scope -/
structure GxS (X : Cx) (scope : Scope) (own : List (Str × Nat)) : Prop where
  blk : BlkOk X.N X.env.scope scope own
  co : scope.isCoroutine = false
  cell : ∀ y ∈ scope.names, y.2 ≠ .cell
  dot : scope.names.lookup (".0" : Str) = some NameKind.local
/-- the generator at a, as it was made -/
def GxNew (X : Cx) (pins : List (Addr × Obj)) (σ : L2.St) (elt tg iter : Expr) (scope : Scope) (pos : Pos) (own : List (Str × Nat)) (J : It) (H2 : Hp) (a : Addr) (s5 : Shared) : Prop :=
  ∃ (s4 : Shared) (code : Value) (cenv : Env) (fp : List Addr) (it : Addr) (tn : Nat → Heap → Prop) (go : Obj),
    cenv = genEnv scope (cloFrom X.env.cells scope.names []) s4.heap.objs.size code builtinsNs X.env ∧ Inv X pins σ H2 s4 ∧ (∀ b ∈ fp, FpOk X pins H2 b ∧ b < s4.heap.objs.size) ∧ Turn X.prog X.w X.K tg J fp it tn ∧ tn 0 s5.heap ∧
    s5.gens = s4.gens.push (.fresh (.compStart (.GeneratorExp elt [⟨tg, iter, [], 0⟩] scope pos) 0 (.ref it) .none cenv)) ∧ (∀ h : Heap, h.get? a = some go → h.IsGen a s4.gens.size) ∧ s5.heap.get? a = some go ∧ s4.heap.objs.size < a ∧
    (∀ A : Around, A.handled = none → A.frames = some X.stack → Inv (gxC X (A.deeper cenv) s4 H2 cenv fp [(a, go)]) [] (wipe σ (own.map (·.2))) H2 s5)
theorem gx_make {c P : Addr} {elt tg iter : Expr} {gpos : Pos} {scope : Scope} {own : List (Str × Nat)} {wi : TI} {k : Nat} {Q' : Value → Shared → Prop} {R : It → Hp → Prop}
    (hr : Room k X.A) (TB : LamX.TabB X.base X.mg c P) (hcode : X.env.code = .ref c) (S : GxS X scope own) (hN : X.N.Nodup) (hi : PI X tg iter wi)
    (hs : ∀ v, genFold iter X.env v = pure v) (I : Inv X pins σ H s) (h : wi σ H fun J H1 => GxR.TabG H1 P ∧ R J H1)
    (hQ : ∀ J H1 H2 a s5, R J H1 → GxR.Tabbed P H1 H2 → GxNew X pins σ elt tg iter scope gpos own J H2 a s5 → Q' (.ref a) s5) :
    wpAny (model X.prog X.w) X.A (eval (.GeneratorExp elt [⟨tg, iter, [], 0⟩] scope gpos) X.env) Q' X.xe s := by
  have caught : ∀ y ∈ scope.names, y.2 = .free → ∃ c, X.env.cells.lookup y.1 = some c := fun y hy e => I.ok.has _ (S.blk.free y hy e)
  have deep : X.A.depth < recursionLimit := by
    have := hr.dp
    omega
  refine wpAny_GeneratorExp_make S.co (closure_ok caught) S.cell S.dot S.blk.kind deep (thn (hi.run pins s σ H _ I h) fun xv s1 hx => thn hx fun itv s2 h2 => ?_) hs
  obtain ⟨it, fp, tn, J, H1, rfl, I2, T, st2, f2, hT, hR⟩ := h2
  refine ⟨I2.nolimit, gen_code I2 TB hcode hT fun code H2 s4 tab I4 kp _ h' hn' hs' => ?_⟩
  have apart : ∀ b ∈ fp, b ≠ P := fun b hb z => by
    obtain ⟨_, e, _⟩ := hT
    rw [← z, (f2 b hb).1] at e
    cases e
  have kp5 : ∀ (go : Obj) b u, s4.heap.get? b = some u → (h'.push go).get? b = some u := fun go b u e => Heap.get?_push_of_some _ (hs'.extBut b u (Nat.ne_of_lt (Heap.lt_size e)) (Heap.get?_push_of_some _ e))
  have f4 : ∀ b ∈ fp, FpOk X pins H2 b ∧ b < s4.heap.objs.size := fun b hb => by
    obtain ⟨o, e, _⟩ := T.obj _ _ st2 b hb
    exact ⟨⟨(tab.2 b (apart b hb)).trans (f2 b hb).1, (f2 b hb).2⟩, Heap.lt_size (kp b o (apart b hb) e)⟩
  generalize hgo : ({ cls := .type "generator", data := .fields #[.int s4.gens.size 0, .str "<genexpr>" (s4.toks + 1), .str (X.env.qual ++ "<genexpr>") (s4.toks + 1 + 1)] } : Obj) = go
  have hgp : (h'.push go).get? h'.objs.size = some go := Heap.get?_push_size _ (by rw [← hgo]; rfl)
  have hgd : ∀ v, go.data ≠ .cell v := fun v z => by
    rw [← hgo] at z
    cases z
  exact hQ J H1 H2 h'.objs.size _ hR tab ⟨s4, code, _, fp, it, tn, go, rfl, I4, f4, T, T.keep _ _ _ st2 fun b hb u e => kp5 go b u (kp b u (apart b hb) e), rfl, fun hh e => ⟨go, _, _, e, by rw [← hgo], by rw [← hgo], by rw [← hgo]⟩, hgp, hn'.lt,
    fun A hA hfr => gx_start I4 S.blk S.cell hN f4 hA hfr hn' hs' (I4.bare.push rfl) hgp hgd⟩
end
end My

set_option Elab.async false
set_option linter.all false
set_option maxRecDepth 100000
set_option maxHeartbeats 2000000
namespace My
open PySem PySem.Spec PyProof.Rows L2
def gxCk (scope : Scope) : Bool := !scope.isCoroutine && (scope.names.all fun y => match y.2 with | .cell => false | _ => true) && (match scope.names.lookup (".0" : Str) with | some .local => true | _ => false)
theorem gxS_by {X : Cx} {scope : Scope} {own : List (Str × Nat)} (b : BlkOk X.N X.env.scope scope own) (h : gxCk scope = true) : GxS X scope own := by
  unfold gxCk at h
  simp only [Bool.and_eq_true] at h
  obtain ⟨⟨h1, h2⟩, h3⟩ := h
  rw [List.all_eq_true] at h2
  refine ⟨b, by simpa using h1, fun y hy z => ?_, ?_⟩
  · have q := h2 y hy
    rw [z] at q
    cases q
  · revert h3
    cases scope.names.lookup (".0" : Str) with
    | none => simp
    | some k => cases k <;> simp
/-! sums -/
/-! works -/
end My

set_option Elab.async false
set_option linter.all false
set_option maxRecDepth 100000
set_option maxHeartbeats 2000000
namespace My
open PySem PySem.Spec PyProof.Rows L2
/-! ### a promise where no repr is under way -/
structure FnG (P : Program) (w : World) (K : PySem.W.Frag) (mg : Str → Option Value) (base : Heap) (k : Nat) (f : Addr) (fd : FuncData) (ps : List Str) (sp : Sp) : Prop where
  ln : ∀ vs H Q E, sp vs H Q E → vs.length = ps.length
  go : ∀ (A : Around), A.guards = some [] → Room k A → ∀ (outer : List Env) (s : Shared) (H : Hp) (args : Args) (us : List Value) (vs : List V) (Q : VK) (E : XK), Env0 P w K mg base A outer s H → BindsTo s fd args (ps.zip us) → Vals vs us → sp vs H Q E → codeAny (model P w) A (.call (.ref f) args) (CR CX0 outer P w H s Q E) s
theorem okG {P : Program} {w : World} {K : PySem.W.Frag} {mg : Str → Option Value} {base : Heap} {x qual : Str} {st : Stmt} {f : Addr} {fd : FuncData} {N ps : List Str} {k : Nat} {sp : Sp} (F : Fun K x qual st f fd) (S : FnScope N ps (defScope st)) (ln : ∀ vs H Q E, sp vs H Q E → vs.length = ps.length)
    (body : ∀ (cdv : Value) (A : Around) (outer : List Env) (s : Shared) (H : Hp) (vs : List V) (Q : VK) (E : XK), A.guards = some [] → Room k (A.deeper (envOfC qual (defScope st) s.heap.objs.size f cdv)) → sp vs H Q E →
      ∃ t, PSs (cxOf CX0 P w K mg base N qual (defScope st) f cdv A outer s H E).nox (defBody st) t ∧ t { nx := fun _ G => Q .non G, rt := Q } (start N vs) H) : FnG P w K mg base (k + 1) f fd ps sp := by
  obtain ⟨oc, od, kV, dcv, pm, an, cdv, ct, osl, rfl, look, hcode⟩ := F.ex
  refine ⟨ln, fun A hgd hr outer s H args us vs Q E e0 hbd rel hsp => ?_⟩
  obtain ⟨t, ht, hq⟩ := body cdv A outer s H vs Q E hgd (hr.deeper _) hsp
  have inK : K.In s.heap := e0.mod.kin.keeps fun c o z => (e0.bs c o z).1
  have nlm : s.heap.NoLimit := e0.mod.nolimit.keeps fun c o z => (e0.bs c o z).1
  refine codeAny_call_function hr.depth (inK _ _ look) rfl S.co S.gen rfl (PySem.W.codeRec_of inK hcode) (hbd _ _ _ _ (wpAny_newFunctionEnv_cells S.kind (fun y hy => ?_) fun env he s1 begun => ?_))
  · rcases S.par y.1 (List.of_mem_zip (show (y.1, y.2) ∈ ps.zip us from hy)).1 with z | z
    · exact .inl z
    · exact .inr ⟨z, PySem.W.cellsFrom_some _ _ _ (.inl z)⟩
  subst he
  refine ⟨nlm.keeps begun.toInCall.keep, codeAny_func (wpAny_mono (ht.nox.run [] s1 _ H _ (inv_start S hr.hd e0 (ln _ _ _ _ hsp) rel begun) hq) (fun fl s' hs => ?_) fun e s' hs => hs)⟩
  cases fl with
  | ret u =>
    obtain ⟨v, σ', G, J, rv, qv⟩ := hs
    exact ⟨v, G, J.os, J.bare, J.base, J.hok, rv, qv⟩
  | next =>
    obtain ⟨σ', G, J, qv⟩ := hs
    exact ⟨V.non, G, J.os, J.bare, J.base, J.hok, rfl, qv⟩
  | brk =>
    obtain ⟨_, _, _, z⟩ := hs
    exact False.elim z
  | cont =>
    obtain ⟨_, _, _, z⟩ := hs
    exact False.elim z
/-! ### repr of data -/
structure Sh (n m : Nat) (d : PyData) : Prop where
  ok : d.showable = true
  nd : d.hasDict = false
  sh : d.leavesShort 100 = true
  dp : d.depth ≤ n
  wt : d.weight ≤ m
  ly : d.canLay0 = true
theorem Sh.mono {n n' m m' : Nat} {d : PyData} (h : Sh n m d) (h1 : n ≤ n') (h2 : m ≤ m') : Sh n' m' d := ⟨h.ok, h.nd, h.sh, Nat.le_trans h.dp h1, Nat.le_trans h.wt h2, h.ly⟩
theorem Sh.none {n m : Nat} : Sh n m .none := ⟨rfl, rfl, rfl, Nat.zero_le _, Nat.zero_le _, rfl⟩
theorem Sh.bool {n m : Nat} (b : Bool) : Sh n m (.bool b) := ⟨rfl, rfl, rfl, Nat.zero_le _, Nat.zero_le _, rfl⟩
theorem Sh.str {n m : Nat} {l : List Nat} (h : ∀ c ∈ l, c < 1000) (hl : l.length ≤ m) : Sh n m (.str (txS l)) := by
  refine ⟨rfl, rfl, ?_, Nat.zero_le _, ?_, ?_⟩
  · have e : l.toArray.toList = l := by simp
    simp only [PyData.leavesShort, List.all_eq_true, decide_eq_true_eq]
    intro c hc
    have := h c hc
    omega
  · show l.toArray.size ≤ m
    simpa using hl
  · show (txS l).cps.all (· < 0x110000) = true
    rw [Array.all_eq_true']
    intro c hc
    have hc2 : c ∈ l := by simpa using hc
    have := h c hc2
    exact decide_eq_true (by omega)
theorem log2_small {i : Int} (h : i.natAbs < 10 ^ 60) : i.natAbs.log2 < 200 := by
  by_cases e : i.natAbs = 0
  · rw [e]
    decide
  · rw [Nat.log2_lt e]
    exact Nat.lt_of_lt_of_le h (by decide)
theorem Sh.int {n m : Nat} {i : Int} (h : i.natAbs < 10 ^ 60) (hm : 200 ≤ m) : Sh n m (.int i) := by
  have h1 := log2_small h
  refine ⟨?_, rfl, ?_, Nat.zero_le _, ?_, rfl⟩
  · simp only [PyData.showable, decide_eq_true_eq]
    omega
  · simp only [PyData.leavesShort, decide_eq_true_eq]
    show (Str.ofString (toString i)).length ≤ 100
    have h2 := int_text_length_le10 (a := i) (k := 60) (by decide) h
    rw [PySem.ofString_length]
    omega
  · simp only [PyData.weight]
    split <;> omega
theorem sh_all {n m : Nat} : ∀ {xs : List PyData}, (∀ x ∈ xs, Sh n m x) → PyData.showableAll xs = true ∧ PyData.hasDictAll xs = false ∧ PyData.leavesShortAll 100 xs = true ∧ PyData.depthAll xs ≤ n ∧ PyData.weightAll xs ≤ (m + 1) * xs.length ∧ PyData.canLayAll0 xs = true
  | [], _ => ⟨rfl, rfl, rfl, Nat.zero_le _, Nat.zero_le _, rfl⟩
  | x :: xs, h => by
    obtain ⟨a1, a2, a3, a4, a5, a6⟩ := sh_all (xs := xs) fun y hy => h y (List.mem_cons_of_mem _ hy)
    have b := h x (List.mem_cons_self ..)
    refine ⟨by simp only [PyData.showableAll, b.ok, a1, Bool.and_self], by simp only [PyData.hasDictAll, b.nd, a2, Bool.or_self], by simp only [PyData.leavesShortAll, b.sh, a3, Bool.and_self], ?_, ?_, by simp only [PyData.canLayAll0, b.ly, a6, Bool.and_self]⟩
    · have := b.dp
      simp only [PyData.depthAll]
      omega
    · have := b.wt
      simp only [PyData.weightAll, List.length_cons, Nat.mul_add, Nat.mul_one]
      omega
theorem Sh.lst {n m : Nat} {xs : List PyData} (h : ∀ x ∈ xs, Sh n m x) : Sh (n + 1) ((m + 1) * xs.length) (.list xs) := by
  obtain ⟨a1, a2, a3, a4, a5, a6⟩ := sh_all h
  exact ⟨a1, a2, a3, Nat.succ_le_succ a4, a5, a6⟩
theorem Sh.tup {n m : Nat} {xs : List PyData} (h : ∀ x ∈ xs, Sh n m x) : Sh (n + 1) ((m + 1) * xs.length) (.tuple xs) := by
  obtain ⟨a1, a2, a3, a4, a5, a6⟩ := sh_all h
  exact ⟨a1, a2, a3, Nat.succ_le_succ a4, a5, a6⟩
theorem Sh.fits {d : PyData} (h : Sh 20 100000 d) : d.shown.length ≤ sizeLine := by
  have h1 := PyData.shown_le 100 (by decide) d h.sh
  have h2 := h.wt
  rw [sizeLine_eq]
  omega
def rRepr (K : PySem.W.Frag) : List V → Hp → VK → Prop := fun xs H Q => ∃ (v : V) (d : PyData), xs = [v] ∧ Dp K H v d ∧ Sh 20 100000 d ∧ Q (.str d.shown) H
theorem cReprK (K : PySem.W.Frag) {X : Cx} {k : Nat} (hgd : X.A.guards = some []) (hr : Room k X.A) (hK : X.K = K := by rfl) : CallR X (.builtin "repr") (rRepr K) := by
  subst hK
  intro pins s σ H xs us Q I r h
  obtain ⟨v, d, rfl, hd, hs, q⟩ := h
  obtain ⟨u, rfl, rx⟩ := vals1 r
  obtain ⟨as, rd⟩ := Dp.reads I _ _ _ hd rx
  have hz := hs.fits
  cases u with
  | ref a =>
    refine repr_of_reads' rd hs.ok (PyData.noDict_hsm hs.nd) hgd ?_ (fun _ _ e => e) (fun h' u tk hk => ⟨.str d.shown, H, I.kept hk, ⟨_, rfl⟩, q⟩) hz
    have h1 := hs.dp
    have h2 := hr.un
    omega
  | none =>
    cases rd
    exact PySem.P.repr_of_none ⟨.str _, H, I.tok _, ⟨_, rfl⟩, q⟩
  | bool b =>
    cases rd
    exact PySem.P.repr_of_bool ⟨.str _, H, I.tok _, ⟨_, rfl⟩, q⟩
  | int i t =>
    cases rd
    refine PySem.P.repr_of_int ?_ ⟨.str _, H, I.tok _, ⟨_, rfl⟩, q⟩
    have := hs.ok
    simpa only [PyData.showable, decide_eq_true_eq] using this
  | str x t =>
    cases rd
    exact PySem.P.repr_of_str ⟨.str _, H, I.tok _, ⟨_, rfl⟩, q⟩ hz
  | _ => cases rd
/-! ### the law's own call -/
section
variable {P : Program} {w : World} {K : PySem.W.Frag} {mg mb : Str → Option Value} {cs : List (Addr × Addr)} {a : Addr} {vs : List Value} {ns : List Int} {s : Shared} {H : Hp}
/-- told of at the beginning: the script, where it is no part of what is written, and the tables of code -/
structure Begun (P : Program) (w : World) (K : PySem.W.Frag) (cs : List (Addr × Addr)) (a : Addr) (vs : List Value) (ns : List Int) (s : Shared) (H : Hp) : Prop where
  tb : ∀ p ∈ cs, H p.2 = some (.tbl #[])
  only : ∀ b u, H b = some u → (b ∈ cs.map (·.2) ∧ u = .tbl #[]) ∨ (b = a ∧ K.lookup a = Option.none ∧ u = .frz { cls := .type "list", data := .seq vs.toArray } (.lst (ns.map V.int)))
  sc : SqL K H a (ns.map V.int)
  hok : HOk P w H s.heap
open Classical in
theorem begun (inK : K.In s.heap) (hT : ∀ p ∈ cs, s.heap.get? p.2 = some { cls := .none, data := .fields #[] }) (ha : s.heap.get? a = some { cls := .type "list", data := .seq vs.toArray }) (hi : IntsAre vs ns) (hl : ns.length ≤ sizeLine) : ∃ H, Begun P w K cs a vs ns s H := by
  have tabs : ∀ b, b ∈ cs.map (·.2) → s.heap.get? b = some { cls := .none, data := .fields #[] } := fun b z => by
    obtain ⟨p, hp, rfl⟩ := List.mem_map.mp z
    exact hT p hp
  have far : a ∉ cs.map (·.2) := fun z => by
    have z1 := (tabs a z).symm.trans ha
    cases congrArg Obj.data (Option.some.inj z1)
  refine ⟨fun b => if b ∈ cs.map (·.2) then some (.tbl #[]) else if b = a ∧ K.lookup a = Option.none then some (.frz { cls := .type "list", data := .seq vs.toArray } (.lst (ns.map V.int))) else Option.none, fun p hp => if_pos (List.mem_map.mpr ⟨p, hp, rfl⟩), fun b u hu => ?_, ?_, fun b u hu => ?_⟩
  · split at hu
    · rename_i z
      exact .inl ⟨z, (Option.some.inj hu).symm⟩
    · split at hu
      · rename_i z
        exact .inr ⟨z.1, z.2, (Option.some.inj hu).symm⟩
      · cases hu
  · cases hk : K.lookup a with
    | some o =>
      have z := (inK a o hk).symm.trans ha
      cases z
      exact .inr ⟨_, vs.toArray, _, hk, rfl, rfl, rfl, by rw [List.size_toArray, hi.length]; exact hl, by simpa using vals_ints hi⟩
    | none => exact .inl (.inr ⟨{ cls := .type "list", data := .seq vs.toArray }, (if_neg far).trans (if_pos ⟨rfl, rfl⟩)⟩)
  · split at hu
    · rename_i z
      cases hu
      exact tabs b z
    · split at hu
      · rename_i z
        cases hu
        rw [z.1]
        exact ⟨ha, by rw [List.length_map]; exact hl, vs, _, vals_ints hi, ha⟩
      · cases hu
/-- what is no list and no empty table is not told of -/
theorem Begun.bare (B : Begun P w K cs a vs ns s H) {b : Addr} {o : Obj} (hT : ∀ p ∈ cs, s.heap.get? p.2 = some { cls := .none, data := .fields #[] }) (ha : s.heap.get? a = some { cls := .type "list", data := .seq vs.toArray }) (e : s.heap.get? b = some o) (h1 : ∀ us n, o.data ≠ .seq us n) (h2 : o.data ≠ .fields #[]) : (hidT s.heap H).get? b = some o := by
  refine hidT_get e ?_
  cases hb : H b with
  | none => rfl
  | some u =>
    rcases B.only b u hb with ⟨z, _⟩ | ⟨z, _⟩
    · obtain ⟨p, hp, rfl⟩ := List.mem_map.mp z
      have z1 := Option.some.inj ((hT p hp).symm.trans e)
      exact absurd (congrArg Obj.data z1).symm h2
    · subst z
      have z1 := Option.some.inj (ha.symm.trans e)
      exact absurd (congrArg Obj.data z1).symm (h1 _ _)
/-- the law's call -/
theorem callG {k : Nat} {fa : Addr} {fd : FuncData} {x : Str} {sp : Sp} (inK : K.In s.heap) (hns : s.heap.Ns mainGlobals mg) (hb : s.heap.Ns builtinsNs mb) (hbb : ∀ y : Str, y ≠ "__name__" → mb y = bootBuiltins y) (hlim : s.heap.NoLimit) (hg : s.gens = #[])
    (hT : ∀ p ∈ cs, s.heap.get? p.2 = some { cls := .none, data := .fields #[] }) (nT : ∀ p ∈ cs, K.lookup p.2 = Option.none) (C : ∀ p ∈ cs, PySem.W.CodeHd s.heap p.1 p.2)
    (hbm : ∃ (m : Addr) (o : Obj), mg "__builtins__" = some (.ref m) ∧ m ≠ builtinsNs ∧ s.heap.get? m = some o ∧ o.cls = .type "module" ∧ o.dict = some builtinsNs ∧ o.data = .plain)
    (ha : s.heap.get? a = some { cls := .type "list", data := .seq vs.toArray }) (hi : IntsAre vs ns) (hl : ns.length ≤ sizeLine) (hr : Room k callerA)
    (F : ∀ base : Heap, K.In base → base.Ns mainGlobals mg → (∀ p ∈ cs, LamX.TabB base mg p.1 p.2) → FnG P w K mg base k fa fd [x] sp) (hbind : ∀ (t : Shared) (u : Value), BindsTo t fd ⟨[u], []⟩ [(x, u)])
    (hsp : ∀ G : Hp, (∀ p ∈ cs, G p.2 = some (.tbl #[])) → SqL K G a (ns.map V.int) → sp [.ref a] G (fun v _ => v = .bl true) fun _ _ _ => False) :
    codeAny (model P w) callerA (.call (.ref fa) ⟨[.ref a], []⟩) (fun r t => r = .ok (.ret (.bool true)) ∧ OldK s.heap t.heap ∧ t.os = s.os ∧ AllBare t.gens) s := by
  obtain ⟨H, B⟩ := begun (P := P) (w := w) inK hT ha hi hl
  have stays : ∀ {b : Addr} {o : Obj}, s.heap.get? b = some o → (∀ us n, o.data ≠ .seq us n) → o.data ≠ .fields #[] → (hidT s.heap H).get? b = some o := fun e h1 h2 => B.bare hT ha e h1 h2
  have names : ∀ {b : Addr} {m : Str → Option Value}, s.heap.Ns b m → (hidT s.heap H).Ns b m := fun ⟨o, es, ep, e, d, r⟩ => ⟨o, es, ep, stays e (fun us n z => by rw [d] at z; cases z) (fun z => by rw [d] at z; cases z), d, r⟩
  have inB : K.In (hidT s.heap H) := fun b o e => hidT_get (inK b o e) (by
    cases hbb : H b with
    | none => rfl
    | some u =>
      exfalso
      rcases B.only b u hbb with ⟨z, _⟩ | ⟨z, z2, _⟩
      · obtain ⟨p, hp, rfl⟩ := List.mem_map.mp z
        cases (nT p hp).symm.trans e
      · subst z
        cases z2.symm.trans e)
  have TB : ∀ p ∈ cs, LamX.TabB (hidT s.heap H) mg p.1 p.2 := fun p hp => by
    have hTp := hT p hp
    refine ⟨?_, ?_, fun z => ?_⟩
    · obtain ⟨o, us, fl, tf, fg, tg, inF, tx, tt, e1, r1, r2, r3, r4⟩ := C p hp
      exact ⟨o, us, fl, tf, fg, tg, inF, tx, tt, stays e1 (fun us n z => by rw [r2] at z; cases z) (fun z => by
        rw [r2] at z
        cases z
        simp at r3), r1, r2, r3, r4⟩
    · obtain ⟨m, o, b1, b2, b3, b4, b5, b6⟩ := hbm
      refine ⟨m, o, b1, b2, fun z => ?_, fun z => ?_, stays b3 (fun us n z => by rw [b6] at z; cases z) (fun z => by rw [b6] at z; cases z), b4, b5, b6⟩
      · obtain ⟨o2, es, ep, e, d, _⟩ := hns
        rw [z] at b3
        cases e.symm.trans b3
        rw [d] at b6
        cases b6
      · rw [z] at b3
        cases hTp.symm.trans b3
        cases b6
    · obtain ⟨o2, es, ep, e, d, _⟩ := hns
      rw [z] at e
      cases hTp.symm.trans e
      cases d
  have hM : L2.Mod K mg (hidT s.heap H) := ⟨inB, names hns, ⟨mb, names hb, hbb⟩, let ⟨mc, h1, h2⟩ := hlim; ⟨mc, names h1, h2⟩⟩
  have e0 : Env0 P w K mg (hidT s.heap H) callerA [] s H := ⟨rfl, hM, fun b o e => of_hidT e, Nat.le_of_eq (hidT_size _ _), trivial, fun b z => absurd z List.not_mem_nil, B.hok, .of_eq hg⟩
  refine codeAny_mono ((F _ inB (names hns) TB).go callerA rfl hr [] s H ⟨[.ref a], []⟩ [.ref a] [.ref a] _ _ e0 (hbind s (.ref a)) (.cons rfl .nil) (hsp H B.tb B.sc)) fun r t h => ?_
  cases r with
  | error e => exact False.elim h
  | ok fl =>
    cases fl with
    | ret u =>
      obtain ⟨v, G, hos, hbare, un, hokG, rel, hv⟩ := h
      have hv2 : v = .bl true := hv
      subst hv2
      obtain rfl : u = Value.bool true := rel
      have more : ∀ p ∈ cs, ∃ m : Array Value, t.heap.get? p.2 = some { cls := .none, data := .fields m } := fun p hp => by
        obtain ⟨m, z⟩ := un.tbls p.2 #[] (B.tb p hp)
        exact ⟨_, hokG p.2 _ z⟩
      have rest : ∀ b o, b ∉ cs.map (·.2) → s.heap.get? b = some o → t.heap.get? b = some o := fun b o nb e => by
        cases hbH : H b with
        | none => exact un.keep b o e hbH (fun z => absurd z List.not_mem_nil) List.not_mem_nil
        | some y =>
          rcases B.only b y hbH with ⟨z, _⟩ | ⟨_, _, rfl⟩
          · exact absurd z nb
          · obtain ⟨g1, _⟩ := B.hok b _ hbH
            obtain ⟨g2, _⟩ := hokG b _ (un.frzs b _ _ hbH)
            cases g1.symm.trans e
            exact g2
      refine ⟨rfl, ⟨fun b o e => ?_, fun b o e => ?_⟩, hos, hbare⟩
      · by_cases z : b ∈ cs.map (·.2)
        · obtain ⟨p, hp, rfl⟩ := List.mem_map.mp z
          obtain ⟨m, hm⟩ := more p hp
          cases (hT p hp).symm.trans e
          exact .inr (.inl ⟨((C p hp).tab (hT p hp)).isCodeTable, rfl, #[], m, rfl, by rw [Array.empty_append]; exact hm⟩)
        · exact .inl (rest b o z e)
      · by_cases z : b ∈ cs.map (·.2)
        · obtain ⟨p, hp, rfl⟩ := List.mem_map.mp z
          obtain ⟨m, hm⟩ := more p hp
          exact ⟨_, hm⟩
        · exact ⟨o, rest b o z e⟩
    | _ => exact False.elim h
end
/-- what is known of the law at the head's heap -/
def LawAtG (l : PySem.W.OpenLaw) (w : World) (K : PySem.W.Frag) (k n : Nat) (x : Str) (mg : Str → Option Value) (fa : Addr) (h : Heap) : Prop :=
  ∃ (fd : FuncData) (cs : List (Addr × Addr)) (sp : Sp), (∀ p ∈ cs, h.get? p.2 = some { cls := .none, data := .fields #[] }) ∧ (∀ p ∈ cs, K.lookup p.2 = none) ∧ (∀ p ∈ cs, PySem.W.CodeHd h p.1 p.2) ∧ (∀ (t : Shared) (u : Value), BindsTo t fd ⟨[u], []⟩ [(x, u)]) ∧
    (∀ (G : Hp) (sc : Addr) (ns : List Int), ns.length ≤ n → (∀ z ∈ ns, Builtin.Int.intBits z ≤ 1048576) → (∀ p ∈ cs, G p.2 = some (.tbl #[])) → SqL K G sc (ns.map V.int) → sp [.ref sc] G (fun v _ => v = .bl true) fun _ _ _ => False) ∧
    ∀ base : Heap, K.In base → base.Ns mainGlobals mg → (∀ p ∈ cs, LamX.TabB base mg p.1 p.2) → FnG l.prog w K mg base k fa fd [x] sp
theorem walk_ofG {l : PySem.W.OpenLaw} {n k : Nat} {q : Program} {loose : List Str} {XP : (Str → Option Value) → Heap → Prop} {YP : World → Heap → Prop} {d : DefRec} {K : Params → PySem.W.Frag} {x : Str}
    (hn : l.most = some n) (hz : n ≤ sizeLine) (hdf : d.params.defaults = []) (hr : Room k callerA) (hY : ∀ (v : World) (h : Heap), YP v h → (K v.params).In h)
    (F : ∀ (w : World) (mg : Str → Option Value) (fl : Addr) (h : Heap), YP w h → (K w.params).In h → h.Ns mainGlobals mg → mg d.name = some (.ref fl) →
      (∀ (nm : Str) (fb : Addr), ((recsOf q).any fun e => e.name == nm) = true → mg nm = some (.ref fb) → OwnTC (K w.params) fb h) → LawAtG l w (K w.params) k n x mg fl h) :
    PySem.W.WalkO q loose XP YP l.row.toRowW d [] (fun f vs => PySem.call f vs) := by
  refine Att.attach_callB hn hdf fun w s₀ s₁ mg mb fa o pm cd dc a vs ns G Y ho hd hcd hmg hobj hints hlen hbits hg => ?_
  have KX := hY w _ Y
  obtain ⟨fd, cs, sp, hT, nT, C, hb, hsp, hF⟩ := F w mg fa _ Y KX G.T.g hmg fun nm fb hrec hnm c P o1 fd1 e dd vs1 sl k1 k2 k3 k4 k5 => by
    obtain ⟨dL, hm, hn1⟩ := List.any_eq_true.mp hrec
    have hn3 : dL.name = nm := beq_iff_eq.mp hn1
    obtain ⟨a', o', fd', c', P', g1, g2, g3, g4, g5, g6⟩ := G.T.tab dL hm
    rw [hn3, hnm] at g1
    cases g1
    rw [KX _ _ k1] at g2
    cases g2
    rw [k2] at g3
    cases g3
    rw [k3] at g4
    cases g4
    have g7 := g6
    obtain ⟨⟨oc, vc, e1, _, e3, e4⟩, hP⟩ := g7
    rw [KX _ _ k4] at e1
    cases e1
    cases e3
    rw [k5] at e4
    cases e4
    exact ⟨hP, PySem.W.CodeHd.of g5 g6⟩
  exact callG KX G.T.g G.T.b G.T.builtins G.T.nolimit hg hT nT C G.T.bmain hobj hints (Nat.le_trans hlen hz) hr hF hb fun H hH hS => hsp H a ns hlen hbits hH hS
end My

set_option Elab.async false
set_option linter.all false
set_option maxRecDepth 100000
set_option maxHeartbeats 2000000
namespace My
open PySem PySem.Spec PyProof.Rows L2
/-! ### all(elt for target in iter), any(..), the element of any kind -/
section
variable {X : Cx}
theorem repin {A : Around} {s s' : Shared} {H H' : Hp} {cenv : Env} {fp : List Addr} {pn pins : List (Addr × Obj)} {σ : L2.St} (I : Inv (gxC X A s H cenv fp pn) pins σ H' s') : Inv (gxC X A s H cenv fp []) (pn ++ pins) σ H' s' :=
  ⟨⟨I.ok.mod, I.ok.kind, I.ok.glob, I.ok.blt, I.ok.above, I.ok.inj, I.ok.has, I.ok.cab, I.ok.hd, I.ok.frames, I.ok.stk, I.ok.exf, I.ok.bs, I.ok.bsz, I.ok.noex, I.ok.exfs, I.ok.funs, I.ok.frf⟩, I.os, I.bare, I.base, I.loc, I.cell, I.free, I.freeC, I.pin, I.hok, I.len⟩
theorem all_loopC {A : Around} {fp : List Addr} {tn : Nat → Heap → Prop} {σ0 : L2.St} {W : Nat → Hp → Prop} {n : Nat} {tr : Nat → Bool} {a : Addr} {g : Nat} {go : Obj} {R : Result → Shared → Prop}
    (hh : A.handled = none) (hd : A.depth < recursionLimit) (hgo : ∀ h : Heap, h.get? a = some go → h.IsGen a g) (hnc : ∀ v, go.data ≠ .cell v)
    (hR1 : ∀ s' o H, (∀ j, j < n → tr j = true) → Inv X [(a, o)] σ0 H s' → W n H → R (.ok (.ret (.bool true))) s')
    (hR0 : ∀ s' o H j, j < n → tr j = false → (∀ i, i < j → tr i = true) → Inv X [(a, o)] σ0 H s' → W (j + 1) H → R (.ok (.ret (.bool false))) s') :
    ∀ (k i : Nat) (s : Shared), i + k = n → (∀ j, j < i → tr j = true) → GxSt X A.in1.in1 fp tn σ0 W a n (fun i => .bl (tr i)) a g k s → s.heap.get? a = some go →
      codeAny (model X.prog X.w) A (.builtin "all.loop" ⟨[.ref a], []⟩) R s := by
  intro k
  induction k with
  | zero =>
    intro i s hk hall Z hS
    have hin : i = n := by omega
    subst hin
    obtain ⟨hg, hl, hb, gs, hgs, hgoes⟩ := Z
    refine codeAny_builtin F.entry_all_loop ?_
    rw [Around.under_plainId F.plain_all_loop _]
    show wpAny _ A.in1 (pyNext (.ref a) >>= _) _ _ s
    refine wpAny_bind (wpAny_pyNext_genexpQ (A := A.in1) hh hl hd hg hgs (hgoes (s.setGen g .running) _ ⟨rfl, allBare_setGen hb rfl, fun b u _ e => e, hS, hnc⟩) (fun v s₁ gs' hbare hv => ?_) fun s₁ hp h' hk' => ?_)
    · obtain ⟨i', o, H, _, _, _, G, hkap⟩ := hv
      obtain ⟨p1, _, _, _, p5⟩ := G.inv.pin (a, o) (List.mem_append_right _ List.mem_cons_self)
      exact (hkap s₁ o ⟨rfl, G.inv.bare, fun b u _ e => e, p1, p5⟩).elim
    · obtain ⟨_, o, H, I, w⟩ := hp
      refine wpAny_bind (wpAny_rule (wpAny_pure (hR1 _ o H hall ?_ w)))
      exact I.call' (ch := []) rfl (Un.kept hk') (I.hok.kept hk') (allBare_setGen I.bare rfl) (fun b hb => absurd hb (by simp))
  | succ k ih =>
    intro i s hk hall Z hS
    have hlt : i < n := by omega
    obtain ⟨hg, hl, hb, gs, hgs, hgoes⟩ := Z
    have hgl : g < s.gens.size := (Array.getElem?_eq_some_iff.mp hgs).1
    refine codeAny_builtin F.entry_all_loop ?_
    rw [Around.under_plainId F.plain_all_loop _]
    show wpAny _ A.in1 (pyNext (.ref a) >>= _) _ _ s
    refine wpAny_bind (GenW.wpAny_gsz (n := g + 1) hgl (wpAny_pyNext_genexpQ (A := A.in1) hh hl hd hg hgs (hgoes (s.setGen g .running) _ ⟨rfl, allBare_setGen hb rfl, fun b u _ e => e, hS, hnc⟩) (fun v s₁ gs' hbare hv => ?_) fun s₁ hp h' hk' => ?_))
    · intro hsz
      obtain ⟨i', o, H, hi', hrel, hs0, G, hkap⟩ := hv
      have ei : i' = i := by omega
      subst ei
      obtain rfl : v = .bool (tr i') := hrel
      have eo : o = go := by
        have h1 : s.heap.get? a = some o := hs0
        rw [hS] at h1
        exact (Option.some.inj h1).symm
      subst eo
      obtain ⟨p1, _, _, _, p5⟩ := G.inv.pin (a, o) (List.mem_append_right _ List.mem_cons_self)
      refine wpAny_bind (wpAny_holding (wpAny_truthy_bool (wpAny_bind (wpAny_letGo ?_))))
      cases hb : tr i' with
      | true =>
        simp only [if_true]
        have hsz1 : g < s₁.gens.size := by
          have q : (s₁.setGen g gs').gens.size = s₁.gens.size := GenW.setGen_size _ _ _
          have hsz' : g + 1 ≤ (s₁.setGen g gs').gens.size := hsz
          omega
        refine wpAny_pure ⟨plainId_quiet F.plain_all_loop _, ih (i' + 1) _ (by omega) (fun j hj => ?_) ⟨hgo _ p1, G.inv.nolimit, allBare_setGen (s := s₁) G.inv.bare hbare, gs', setGen_at (s := s₁) hsz1, fun s'' o'' z => ?_⟩ p1⟩
        · by_cases e : j = i'
          · rw [e]
            exact hb
          · exact hall j (by omega)
        · exact hkap s'' o'' ⟨z.os, z.bare, z.keep, z.own, z.nc⟩
      | false =>
        simp only [Bool.false_eq_true, if_false]
        refine wpAny_bind (wpAny_rule (wpAny_pure (hR0 _ o H i' hlt hb hall ?_ G.w)))
        exact G.inv.call' (ch := []) rfl (Un.kept fun b u e => e) G.inv.hok (allBare_setGen G.inv.bare hbare) (fun b hb => absurd hb (by simp))
    · exact absurd hp.1 (Nat.succ_ne_zero k)
/-- all(..) -/
def tAllC (P : Addr) (wi : TI) (g : L2.TG) (te : TE) (vs : List Nat) : TE := fun σ H Q => wi σ H fun J H1 => GxR.TabG H1 P ∧ ∀ H2, GxR.Tabbed P H1 H2 →
  ∃ (n : Nat) (tr : Nat → Bool) (W : Nat → Hp → Prop), W 0 H2 ∧ gxStep J g te vs (wipe σ vs) W n (fun i => .bl (tr i)) ∧ (∀ H3, W n H3 → (∀ j, j < n → tr j = true) → Q (.bl true) H3) ∧ ∀ j H3, j < n → tr j = false → (∀ i, i < j → tr i = true) → W (j + 1) H3 → Q (.bl false) H3
theorem pe_allC {c P : Addr} {elt tg iter : Expr} {p pos gpos : Pos} {scope : Scope} {own : List (Str × Nat)} {wi : TI} {g : L2.TG} {te : TE} {k : Nat}
    (hr : Room (k + 3) X.A) (hg : Gl X "all") (hm : X.mg "all" = none) (TB : LamX.TabB X.base X.mg c P) (hcode : X.env.code = .ref c) (S : GxS X scope own) (hN : X.N.Nodup) (hc : X.calm = true) (hi : PI X tg iter wi)
    (pg : ∀ (A : Around) (s : Shared) (H : Hp) (C : Addr) (cl : List (Str × Addr)) (code : Value) (fp : List Addr) (pn : List (Addr × Obj)), PG (gxC X A s H (genEnv scope cl C code builtinsNs X.env) fp pn) tg g)
    (pe : ∀ (A : Around) (s : Shared) (H : Hp) (C : Addr) (cl : List (Str × Addr)) (code : Value) (fp : List Addr) (pn : List (Addr × Obj)), Room k A → PE (gxC X A s H (genEnv scope cl C code builtinsNs X.env) fp pn) elt te)
    (hb : bootBuiltins "all" = some (.builtin "all") := by decide +kernel) (hs : ∀ v, genFold iter X.env v = pure v := by intro _; rfl)
    (he : starEach [.GeneratorExp elt [⟨tg, iter, [], 0⟩] scope gpos] X.env = (false, eval (.GeneratorExp elt [⟨tg, iter, [], 0⟩] scope gpos) X.env) :: starEach [] X.env := by rfl) :
    PE X (.Call (.Name "all" p) [.GeneratorExp elt [⟨tg, iter, [], 0⟩] scope gpos] [] pos) (tAllC P wi g te (own.map (·.2))) := by
  refine ⟨fun pins s σ H Q I h => ?_⟩
  refine wpAny_Call_Name_kw (ld_blt I hg hm hb (PyProof.Rows.callWith_builtin1 ?_ he (by rfl)))
  rw [he]
  refine Calls.spliced_cons (gx_make hr TB hcode S hN hi hs I h fun J H1 H2 a s5 hR hTb hG => ?_)
  refine Calls.spliced_nil ?_
  obtain ⟨n, tr, W, w0, step, hend1, hend0⟩ := hR H2 hTb
  obtain ⟨s4, code, cenv, fp, it, tn, go, ec, I4, f4, T, st5, egs, hgen, hga, hlt, hInv⟩ := hG
  have I5 := repin (hInv X.A.in1.in1 hr.hd I4.ok.frames)
  have hroom : Room k (X.A.in1.in1.deeper cenv) := hr.in1.in1.deeper cenv
  have pg' := pg (X.A.in1.in1.deeper cenv) s4 H2 s4.heap.objs.size (cloFrom X.env.cells scope.names []) code fp []
  have pe' := pe (X.A.in1.in1.deeper cenv) s4 H2 s4.heap.objs.size (cloFrom X.env.cells scope.names []) code fp [] hroom
  rw [← ec] at pg' pe'
  have hgen5 : s5.heap.IsGen a s4.gens.size := hgen _ hga
  obtain ⟨_, ga, gb, gc, hnc⟩ := I5.pin (a, go) (by simp)
  have haf : a ∉ fp := fun hb => Nat.lt_irrefl _ (Nat.lt_trans (f4 a hb).2 hlt)
  have hcl : ∀ x c, cenv.cells.lookup x = some c → c ≠ a := fun x c e z => by
    obtain ⟨v, o, e1, e2⟩ := I5.cell x c e
    rw [z, hga] at e1
    cases e1
    exact hnc _ e2
  refine call_function_tree F.kind_all F.plain_all F.entry_all (F.args_all1 _) ?_
  unfold Builtin.«all»
  refine wpAny_bind (m := oneArg "all" _) (wpAny_pure ?_)
  refine wpAny_bind (wpAny_pyIter_gen hgen5 ?_)
  refine wpAny_pure ⟨plainId_quiet F.plain_all_loop _, all_loopC (X := gxC X (X.A.in1.in1.deeper cenv) s4 H2 cenv fp []) (A := X.A) (fp := fp) (tn := tn) (σ0 := wipe σ (own.map (·.2))) (W := W) (n := n) (tr := tr) (a := a) (g := s4.gens.size) (go := go)
    hr.hd (by have := hr.dp; omega) hgen hnc (fun s' o H3 hdone I' w' => ?_) (fun s' o H3 j hj hsj hal I' w' => ?_) n 0 _ (Nat.zero_add n) (fun j hj => absurd hj (Nat.not_lt_zero j)) ⟨hgen5, I5.nolimit, I5.bare, .fresh (.compStart (.GeneratorExp elt [⟨tg, iter, [], 0⟩] scope gpos) 0 (.ref it) .none cenv), ?_, fun s'' o' z => ⟨rfl, ?_⟩⟩ hga⟩
  · refine ⟨.bl true, H3, ?_, rfl, hend1 H3 w' hdone⟩
    exact I4.call' (ch := fp) I'.os I'.base I'.hok I'.bare fun b hb => ⟨(f4 b hb).1.2.2.2.1, (f4 b hb).1.2.1, (f4 b hb).1.2.2.2.2.1, (f4 b hb).1.2.2.2.2.2⟩
  · refine ⟨.bl false, H3, ?_, rfl, hend0 j H3 hj hsj hal w'⟩
    exact I4.call' (ch := fp) I'.os I'.base I'.hok I'.bare fun b hb => ⟨(f4 b hb).1.2.2.2.1, (f4 b hb).1.2.1, (f4 b hb).1.2.2.2.2.1, (f4 b hb).1.2.2.2.2.2⟩
  · show s5.gens[s4.gens.size]? = _
    rw [egs]
    exact Array.getElem?_push_size ..
  · have Iz : Inv (gxC X (X.A.in1.in1.deeper cenv) s4 H2 cenv fp []) [(a, o')] (wipe σ (own.map (·.2))) H2 s'' := woke I5 (Nat.le_of_lt hlt) hcl (fun p hp => absurd hp (by simp)) z.os z.bare z.keep z.own z.nc
    have stz : tn 0 s''.heap := T.keep _ _ _ st5 fun b hb u e => z.keep b u (fun q => haf (q ▸ hb)) e
    exact gx_begin (X := gxC X (X.A.in1.in1.deeper cenv) s4 H2 cenv fp []) T stz (gx_loop (X := gxC X (X.A.in1.in1.deeper cenv) s4 H2 cenv fp []) rfl T hc rfl haf (fun p hp => absurd hp List.not_mem_nil) (fun _ _ q => q) (by rw [ec]; exact S.co) (Nat.le_of_lt hlt) hcl (fun p hp => absurd hp List.not_mem_nil) pg' pe' step n 0 s'' s'' o' H2 (Nat.zero_add n) z.own ⟨Iz, stz, fun b hb => (f4 b hb).1.1, w0⟩)
end
end My

set_option Elab.async false
set_option linter.all false
set_option maxRecDepth 100000
set_option maxHeartbeats 2000000
namespace My
open PySem PySem.Spec PyProof.Rows L2
theorem gx_step {J : It} {n : Nat} {G : Hp → Prop} {Y : Nat → Hp → V → Hp → Prop} (w : Walk J n G Y) {g : L2.TG} {te : TE} {vs : List Nat} {σ0 : L2.St} {F : Nat → V} {Pv : Nat → Hp → Prop}
    (hG : ∀ i H, i ≤ n → Pv i H → G H) (hs : ∀ i x H H', i < n → Pv i H → Y i H x H' → g x σ0 H' fun σ2 H2 => wipe σ2 vs = σ0 ∧ te σ2 H2 fun y H3 => y = F i ∧ i + 1 ≤ n ∧ Pv (i + 1) H3) :
    gxStep J g te vs σ0 (fun i H => i ≤ n ∧ Pv i H) n F := fun i H hW => ⟨fun hi => ⟨w.goes i H hi (hG i H hW.1 hW.2), fun x H' y => hs i x H H' hi hW.2 (w.yields i H x H' hi (hG i H hW.1 hW.2) y)⟩, fun e => by
    subst e
    exact w.stops H (hG i H hW.1 hW.2)⟩
/-! ### data that lies away from some places -/
def hidS (L : List Addr) (H : Hp) : Hp := fun b => if b ∈ L then none else H b
theorem hid_some {L : List Addr} {H : Hp} {b : Addr} {o : HO} : hidS L H b = some o ↔ b ∉ L ∧ H b = some o := by
  unfold hidS
  split
  · rename_i h
    exact ⟨(fun z => nomatch z), (fun z => absurd h z.1)⟩
  · rename_i h
    exact ⟨fun z => ⟨h, z⟩, fun z => z.2⟩
abbrev Fl (L : List Addr) (H : Hp) (v : V) (d : PyData) : Prop := Ft (hidS L H) v d
abbrev FlA (L : List Addr) (H : Hp) (vs : List V) (ds : List PyData) : Prop := FtA (hidS L H) vs ds
theorem hid_same {L : List Addr} {H : Hp} : Same (hidS L H) H := fun _ _ e => (hid_some.mp e).2
theorem hid_keep {L : List Addr} {H H' : Hp} (k : ∀ b o, b ∉ L → H b = some o → H' b = some o) : Same (hidS L H) (hidS L H') := fun b o e => hid_some.mpr ⟨(hid_some.mp e).1, k b o (hid_some.mp e).1 (hid_some.mp e).2⟩
theorem hid_sub {L L' : List Addr} {H : Hp} (h : ∀ b ∈ L', b ∈ L) : Same (hidS L H) (hidS L' H) := fun b o e => hid_some.mpr ⟨fun z => (hid_some.mp e).1 (h b z), (hid_some.mp e).2⟩
theorem Fl.to {L : List Addr} {H : Hp} {v : V} {d : PyData} (h : Fl L H v d) : Ft H v d := Ft.mono hid_same _ _ h
theorem FlA.to {L : List Addr} {H : Hp} {vs : List V} {ds : List PyData} (h : FlA L H vs ds) : FtA H vs ds := FtA.mono hid_same _ _ h
theorem Fl.keep {L : List Addr} {H H' : Hp} {v : V} {d : PyData} (h : Fl L H v d) (k : ∀ b o, b ∉ L → H b = some o → H' b = some o) : Fl L H' v d := Ft.mono (hid_keep k) _ _ h
theorem FlA.keep {L : List Addr} {H H' : Hp} {vs : List V} {ds : List PyData} (h : FlA L H vs ds) (k : ∀ b o, b ∉ L → H b = some o → H' b = some o) : FlA L H' vs ds := FtA.mono (hid_keep k) _ _ h
theorem Fl.sub {L L' : List Addr} {H : Hp} {v : V} {d : PyData} (h : Fl L H v d) (hs : ∀ b ∈ L', b ∈ L) : Fl L' H v d := Ft.mono (hid_sub hs) _ _ h
theorem FlA.sub {L L' : List Addr} {H : Hp} {vs : List V} {ds : List PyData} (h : FlA L H vs ds) (hs : ∀ b ∈ L', b ∈ L) : FlA L' H vs ds := FtA.mono (hid_sub hs) _ _ h
theorem Fl.same {L : List Addr} {H H' : Hp} {v : V} {d : PyData} (h : Fl L H v d) (k : Same H H') : Fl L H' v d := h.keep fun b o _ e => k b o e
theorem FlA.same {L : List Addr} {H H' : Hp} {vs : List V} {ds : List PyData} (h : FlA L H vs ds) (k : Same H H') : FlA L H' vs ds := h.keep fun b o _ e => k b o e
theorem Fl.sx {Ps L : List Addr} {H H' : Hp} {v : V} {d : PyData} (h : Fl L H v d) (k : Sx Ps H H') (hs : ∀ b ∈ Ps, b ∈ L) : Fl L H' v d := h.keep fun b o nb e => k b o (fun z => nb (hs b z)) e
theorem FlA.sx {Ps L : List Addr} {H H' : Hp} {vs : List V} {ds : List PyData} (h : FlA L H vs ds) (k : Sx Ps H H') (hs : ∀ b ∈ Ps, b ∈ L) : FlA L H' vs ds := h.keep fun b o nb e => k b o (fun z => nb (hs b z)) e
theorem Fl.kp {r : Addr} {L : List Addr} {H H' : Hp} {v : V} {d : PyData} (h : Fl L H v d) (k : Kp r H H') (hs : r ∈ L) : Fl L H' v d := h.keep fun b o nb e => k b o (fun z => nb (z ▸ hs)) e
theorem FlA.kp {r : Addr} {L : List Addr} {H H' : Hp} {vs : List V} {ds : List PyData} (h : FlA L H vs ds) (k : Kp r H H') (hs : r ∈ L) : FlA L H' vs ds := h.keep fun b o nb e => k b o (fun z => nb (z ▸ hs)) e
theorem Fl.tup {L : List Addr} {H : Hp} {p : Addr} {xs : List V} {ds : List PyData} (n : p ∉ L) (h : H p = some (.tup xs)) (a : FlA L H xs ds) : Fl L H (.ref p) (.tuple ds) := Ft.tup (hid_some.mpr ⟨n, h⟩) a
theorem Fl.lst {L : List Addr} {H : Hp} {p : Addr} {xs : List V} {ds : List PyData} (n : p ∉ L) (h : H p = some (.lst xs)) (a : FlA L H xs ds) : Fl L H (.ref p) (.list ds) := Ft.lst (hid_some.mpr ⟨n, h⟩) a
theorem FlA.one {L : List Addr} {H : Hp} {vs : List V} {a : PyData} (h : FlA L H vs [a]) : ∃ x, vs = [x] ∧ Fl L H x a := by
  cases h with
  | cons f g =>
    cases g
    exact ⟨_, rfl, f⟩
theorem FlA.at {L : List Addr} {H : Hp} {vs : List V} {ds : List PyData} (h : FlA L H vs ds) {i : Int} (h0 : 0 ≤ i) (h1 : i < ds.length) : ∃ v d, atI vs i = some v ∧ ds[i.toNat]? = some d ∧ Fl L H v d := by
  have hl := FtA.len h
  have hi : i.toNat < vs.length := by omega
  obtain ⟨d, e, f⟩ := FtA.getV h (List.getElem?_eq_getElem hi)
  refine ⟨_, d, ?_, e, f⟩
  have e2 := atI_nat (List.getElem?_eq_getElem hi)
  rw [show ((i.toNat : Nat) : Int) = i by omega] at e2
  exact e2
theorem FlA.take {L : List Addr} {H : Hp} : ∀ (n : Nat) {vs : List V} {ds : List PyData}, FlA L H vs ds → FlA L H (vs.take n) (ds.take n)
  | 0, _, _, _ => .nil
  | _ + 1, _, _, .nil => .nil
  | n + 1, _, _, .cons a r => .cons a (FlA.take n r)
theorem FlA.drop {L : List Addr} {H : Hp} : ∀ (n : Nat) {vs : List V} {ds : List PyData}, FlA L H vs ds → FlA L H (vs.drop n) (ds.drop n)
  | 0, _, _, h => h
  | _ + 1, _, _, .nil => .nil
  | n + 1, _, _, .cons _ r => FlA.drop n r
/-! ### what isinstance tells of data, more -/
/-! ### questions, of any data -/
end My
namespace My
open PySem PySem.Spec PyProof.Rows L2
theorem Sh.len {n m : Nat} {z : Str} (h : Sh n m (.str z)) (hm : m ≤ 100000) : z.length ≤ sizeLine := by
  have h1 : z.cps.size ≤ m := h.wt
  have h2 : z.length = z.cps.size := rfl
  rw [sizeLine_eq, h2]
  omega
theorem st_open {d : PyData} (h : isSt d = true) : ∃ z, d = .str z := by
  cases d with
  | str z => exact ⟨z, rfl⟩
  | _ => cases h
end My

set_option Elab.async false
set_option linter.all false
set_option maxRecDepth 100000
set_option maxHeartbeats 2000000
namespace My
open PySem PySem.Spec PyProof.Rows L2 HT
/-! ### t[::-1] of a tuple -/
section
variable {X : Cx}
end
end My
namespace My
open PySem PySem.Spec PyProof.Rows L2
/-! ### tuple + tuple, both of one's own -/
/-! ### some data -/
def Th (L : List Addr) (H : Hp) (n m : Nat) (v : V) : Prop := ∃ d, Fl L H v d ∧ Sh n m d ∧ wd d ≤ m
theorem Th.mono {L : List Addr} {H : Hp} {n n' m m' : Nat} {v : V} (h : Th L H n m v) (h1 : n ≤ n') (h2 : m ≤ m') : Th L H n' m' v := by
  obtain ⟨d, f, s, w⟩ := h
  exact ⟨d, f, s.mono h1 h2, Nat.le_trans w h2⟩
theorem Th.keep {L : List Addr} {H H' : Hp} {n m : Nat} {v : V} (h : Th L H n m v) (k : ∀ b o, b ∉ L → H b = some o → H' b = some o) : Th L H' n m v := by
  obtain ⟨d, f, s, w⟩ := h
  exact ⟨d, f.keep k, s, w⟩
theorem Th.same {L : List Addr} {H H' : Hp} {n m : Nat} {v : V} (h : Th L H n m v) (k : Same H H') : Th L H' n m v := h.keep fun b o _ e => k b o e
theorem Th.kp {r : Addr} {L : List Addr} {H H' : Hp} {n m : Nat} {v : V} (h : Th L H n m v) (k : Kp r H H') (hr : r ∈ L) : Th L H' n m v := h.keep fun b o nb e => k b o (fun z => nb (z ▸ hr)) e
theorem Th.sx {Ps L : List Addr} {H H' : Hp} {n m : Nat} {v : V} (h : Th L H n m v) (k : Sx Ps H H') (hs : ∀ b ∈ Ps, b ∈ L) : Th L H' n m v := h.keep fun b o nb e => k b o (fun z => nb (hs b z)) e
theorem Th.non {L : List Addr} {H : Hp} {n m : Nat} : Th L H n m .non := ⟨.none, .non, Sh.none, Nat.zero_le _⟩
theorem Th.bl {L : List Addr} {H : Hp} {n m : Nat} (b : Bool) : Th L H n m (.bl b) := ⟨.bool b, .bl b, Sh.bool b, Nat.zero_le _⟩
theorem Th.int {L : List Addr} {H : Hp} {n m : Nat} {i : Int} (h : i.natAbs < 10 ^ 60) (hm : 200 ≤ m) : Th L H n m (.int i) := ⟨.int i, .int i, Sh.int h hm, Nat.zero_le _⟩
theorem Th.tx {L : List Addr} {H : Hp} {n m : Nat} {l : List Nat} (h : ∀ c ∈ l, c < 1000) (hl : l.length ≤ m) : Th L H n m (tx l) := ⟨.str (txS l), .str _, Sh.str h hl, Nat.zero_le _⟩
theorem th_all {L : List Addr} {H : Hp} {n m : Nat} : ∀ {vs : List V}, (∀ v ∈ vs, Th L H n m v) → ∃ ds, FlA L H vs ds ∧ (∀ d ∈ ds, Sh n m d) ∧ wdA ds ≤ m
  | [], _ => ⟨[], .nil, (fun d h => nomatch h), Nat.zero_le _⟩
  | v :: vs, h => by
    obtain ⟨d, f, s, w⟩ := h v (List.mem_cons_self ..)
    obtain ⟨ds, fs, ss, ws⟩ := th_all (vs := vs) fun u hu => h u (List.mem_cons_of_mem _ hu)
    refine ⟨d :: ds, .cons f fs, fun e he => ?_, ?_⟩
    · rcases List.mem_cons.mp he with z | z
      · rw [z]
        exact s
      · exact ss e z
    · show max (wd d) (wdA ds) ≤ m
      omega
theorem wd_fit {m k w : Nat} (h : w ≤ m) (h0 : k = 0 → w = 0) : max k w ≤ (m + 1) * k := by
  cases k with
  | zero =>
    rw [h0 rfl]
    exact Nat.le_refl _
  | succ k =>
    have e : (m + 1) * (k + 1) = m * k + m + (k + 1) := by
      rw [Nat.add_mul, Nat.one_mul, Nat.mul_add, Nat.mul_one]
    omega
theorem Th.tup {L : List Addr} {H : Hp} {n m : Nat} {p : Addr} {vs : List V} (np : p ∉ L) (hp : H p = some (.tup vs)) (h : ∀ v ∈ vs, Th L H n m v) : Th L H (n + 1) ((m + 1) * vs.length) (.ref p) := by
  obtain ⟨ds, fs, ss, ws⟩ := th_all h
  have hl := FtA.len fs
  refine ⟨.tuple ds, Fl.tup np hp fs, hl ▸ Sh.tup ss, ?_⟩
  rw [hl]
  exact wd_fit ws fun z => by
    rw [List.length_eq_zero_iff.mp z]
    rfl
theorem Th.lst {L : List Addr} {H : Hp} {n m : Nat} {p : Addr} {vs : List V} (np : p ∉ L) (hp : H p = some (.lst vs)) (h : ∀ v ∈ vs, Th L H n m v) : Th L H (n + 1) ((m + 1) * vs.length) (.ref p) := by
  obtain ⟨ds, fs, ss, ws⟩ := th_all h
  have hl := FtA.len fs
  refine ⟨.list ds, Fl.lst np hp fs, hl ▸ Sh.lst ss, ?_⟩
  rw [hl]
  exact wd_fit ws fun z => by
    rw [List.length_eq_zero_iff.mp z]
    rfl
theorem at_mem {vs : List V} {i : Int} (h0 : 0 ≤ i) (h1 : i < vs.length) : ∃ v ∈ vs, atI vs i = some v := by
  have hi : i.toNat < vs.length := by omega
  refine ⟨vs[i.toNat], List.getElem_mem hi, ?_⟩
  have e2 := atI_nat (List.getElem?_eq_getElem hi)
  rw [show ((i.toNat : Nat) : Int) = i by omega] at e2
  exact e2
theorem all1 {α : Type} {p : α → Prop} {a : α} (ha : p a) : ∀ x ∈ [a], p x := fun x h => by
  rw [List.mem_singleton.mp h]
  exact ha
theorem allC {α : Type} {p : α → Prop} {a : α} {l : List α} (ha : p a) (hl : ∀ x ∈ l, p x) : ∀ x ∈ a :: l, p x := fun x h => by
  rcases List.mem_cons.mp h with z | z
  · rw [z]
    exact ha
  · exact hl x z
theorem all0 {α : Type} {p : α → Prop} : ∀ x ∈ ([] : List α), p x := fun x h => nomatch h
theorem allApp {α : Type} {p : α → Prop} {l k : List α} (hl : ∀ x ∈ l, p x) (hk : ∀ x ∈ k, p x) : ∀ x ∈ l ++ k, p x := fun x h => by
  rcases List.mem_append.mp h with z | z
  · exact hl x z
  · exact hk x z
end My
namespace My
open PySem PySem.Spec PyProof.Rows L2
end My
namespace My
open PySem PySem.Spec PyProof.Rows L2
theorem new_all {L : List Addr} {H : Hp} {p : Addr} {o : HO} (h : ∀ b ∈ L, H b ≠ none) : ∀ b ∈ L, (upd H p o) b ≠ none := fun b hb => by
  by_cases e : b = p
  · rw [e, upd_same]
    simp
  · rw [upd_ne e]
    exact h b hb
theorem ne_in {L : List Addr} {p r : Addr} (h : p ∉ L) (hr : r ∈ L) : p ≠ r := fun z => h (z ▸ hr)
theorem Th.at {L : List Addr} {H : Hp} {n m : Nat} {vs : List V} (h : ∀ v ∈ vs, Th L H n m v) {i : Int} (h0 : 0 ≤ i) (h1 : i < vs.length) : ∃ v, atI vs i = some v ∧ Th L H n m v := by
  obtain ⟨v, hv, e⟩ := at_mem h0 h1
  exact ⟨v, e, h v hv⟩
end My
namespace My
open PySem PySem.Spec PyProof.Rows L2
end My

set_option Elab.async false
set_option linter.all false
set_option maxRecDepth 100000
set_option maxHeartbeats 2000000
namespace My
open PySem PySem.Spec PyProof.Rows L2
end My
namespace My
open PySem PySem.Spec PyProof.Rows L2
theorem held_all {r : Addr} {Ps : List Addr} {H : Hp} {o : HO} (h : H r = some o) (tg : TG Ps H) : ∀ b ∈ r :: Ps, H b ≠ none := fun b hb => by
  rcases List.mem_cons.mp hb with z | z
  · rw [z, h]
    simp
  · obtain ⟨ps, hp, _⟩ := tg b z
    rw [hp]
    simp
theorem fresh_same {L : List Addr} {H : Hp} {D : Addr} {o : HO} (n : H D = none) : Same (hidS L H) (hidS (D :: L) (upd H D o)) := fun b x e => by
  obtain ⟨h1, h2⟩ := hid_some.mp e
  have hb : b ≠ D := ne_of_none h2 n
  exact hid_some.mpr ⟨fun z => (List.mem_cons.mp z).elim hb h1, keep_ne h2 hb⟩
theorem Th.fresh {L : List Addr} {H : Hp} {D : Addr} {o : HO} {n m : Nat} {v : V} (h : Th L H n m v) (nD : H D = none) : Th (D :: L) (upd H D o) n m v := by
  obtain ⟨d, f, s, w⟩ := h
  exact ⟨d, Ft.mono (fresh_same nD) _ _ f, s, w⟩
end My

set_option Elab.async false
set_option linter.all false
set_option maxRecDepth 100000
set_option maxHeartbeats 4000000
namespace My
open PySem PySem.Spec PyProof.Rows L2
/-! ### sets of texts that can be walked

A table is told by the list of the texts in it, each with its token; a set is a table whose texts are all different. -/
/-- a text in a table -/
def entS (w : World) (p : Str × Tok) : Int × Value := (hashStr w p.1, .str p.1 p.2)
/-- the table holds these texts, and the model tells its order -/
structure TxTab (w : World) (es : Array (Int × Value)) (t : SetTable) (ps : List (Str × Tok)) : Prop where
  all : es.toList.Perm (ps.map (entS w))
  few : ps.length < scanBound
  told : t.fits es.size = true ∧ Ris t.place.toList ∧ (w.params.followText "set-order" = true ∨ t.led = true)
/-- an object that is a set without members -/
abbrev blankS (w : World) : Obj := { cls := .type "set", dict := none, data := .set #[] 0 (.fresh 0 0 (!w.params.followText "set-order")) }
/-- the set of texts at a: ks its members -/
def SetS (w : World) (h : Heap) (a : Addr) (ks : List Str) : Prop :=
  ks.Nodup ∧ ∃ (o : Obj) (es : Array (Int × Value)) (ep : Nat) (t : SetTable) (ps : List (Str × Tok)), h.get? a = some o ∧ o.ExactSet ∧ o.data = .set es ep t ∧ TxTab w es t ps ∧ ks = ps.map Prod.fst
section
variable {w : World} {es : Array (Int × Value)} {t : SetTable} {ps : List (Str × Tok)} {h h' : Heap} {a : Addr} {ks : List Str} {k : Str} {tk : Tok}
theorem TxTab.none (w : World) : TxTab w #[] (.fresh 0 0 (!w.params.followText "set-order")) [] where
  all := .nil
  few := by decide
  told := ⟨rfl, .nil, by cases e : w.params.followText "set-order" <;> simp [SetTable.fresh]⟩
theorem TxTab.size (T : TxTab w es t ps) : es.size = ps.length := by
  have := T.all.length_eq
  simpa using this
theorem TxTab.small (T : TxTab w es t ps) : es.size < scanBound := T.size ▸ T.few
theorem TxTab.kind (T : TxTab w es t ps) (P : Program) : ElemsOf (PySem.strKind P w) es.toList := by
  intro e he
  obtain ⟨p, _, rfl⟩ := List.mem_map.mp (T.all.mem_iff.mp he)
  exact ⟨⟨p.1, strKind_is P w p.1 p.2, rfl⟩, rfl⟩
theorem is_entS {P : Program} {p : Str × Tok} : (PySem.strKind P w).is k (entS w p).2 = true ↔ p.1 = k := by
  refine ⟨fun q => ?_, fun q => q ▸ strKind_is P w p.1 p.2⟩
  have ⟨_, z⟩ := Value.isStrOf_shape (x := k) (v := .str p.1 p.2) q
  exact (Value.str.inj z).1
/-- the search in the table -/
theorem TxTab.search (T : TxTab w es t ps) (P : Program) (k : Str) : (es.toList.findIdx? fun e => (PySem.strKind P w).is k e.2).isSome = decide (k ∈ ps.map Prod.fst) := by
  rw [List.findIdx?_isSome, Bool.eq_iff_iff, List.any_eq_true, decide_eq_true_iff, List.mem_map]
  constructor
  · rintro ⟨e, he, q⟩
    obtain ⟨p, hp, rfl⟩ := List.mem_map.mp (T.all.mem_iff.mp he)
    exact ⟨p, hp, is_entS.mp q⟩
  · rintro ⟨p, hp, q⟩
    exact ⟨entS w p, T.all.mem_iff.mpr (List.mem_map_of_mem hp), is_entS.mpr q⟩
/-- one text more -/
theorem TxTab.lay (T : TxTab w es t ps) (k : Str) (tk : Tok) (room : ps.length + 1 < scanBound) : TxTab w (layNew t es (hashStr w k) (.str k tk)).1 (layNew t es (hashStr w k) (.str k tk)).2.1 ((k, tk) :: ps) where
  all := by
    refine (layNew_perm t es _ _).trans ?_
    rw [Array.toList_push]
    exact List.perm_append_comm.trans (T.all.cons _)
  few := room
  told := ⟨layNew_fits .., layNew_ris _ _ _ _ T.told.2.1, by rw [layNew_led]; exact T.told.2.2⟩
theorem TxTab.relay (T : TxTab w es t ps) (n : Nat) : TxTab w (relayAll t es n).1 (relayAll t es n).2.1 ps where
  all := (relayAll_perm t es n).trans T.all
  few := T.few
  told := ⟨relayAll_fits .., relayAll_ris .., by rw [relayAll_led]; exact T.told.2.2⟩
theorem TxTab.off (T : TxTab w es t ps) : TxTab w es { t with plain := false } ps := ⟨T.all, T.few, SetTable.fits_plain_off T.told.1, T.told.2⟩
theorem SetS.at (R : SetS w h a ks) (k : ∀ o, h.get? a = some o → h'.get? a = some o) : SetS w h' a ks :=
  let ⟨nd, o, es, ep, t, ps, ho, r⟩ := R
  ⟨nd, o, es, ep, t, ps, k o ho, r⟩
theorem SetS.obj (R : SetS w h a ks) : ∃ o, h.get? a = some o ∧ o.ExactSet :=
  let ⟨_, o, _, _, _, _, ho, hex, _⟩ := R
  ⟨o, ho, hex⟩
theorem SetS.blank (ho : h.get? a = some (blankS w)) : SetS w h a [] :=
  ⟨.nil, _, _, _, _, [], ho, ⟨rfl, rfl, rfl⟩, rfl, TxTab.none w, rfl⟩
/-- a table stored -/
theorem TxTab.stored {o : Obj} {e0 : Array (Int × Value)} {ep : Nat} {t0 : SetTable} (T : TxTab w es t ps) (ho : h.get? a = some o) (hex : o.ExactSet) (hd : o.data = .set e0 ep t0) (nd : (ps.map Prod.fst).Nodup) : SetS w (h.update a (Obj.putSet es t)) a (ps.map Prod.fst) :=
  ⟨nd, _, es, ep + 1, t, ps, store_at ho hd, hex, rfl, T, rfl⟩
end
section
variable {P : Program} {w : World} {A : Around} {E : Value → Shared → Prop} {s : Shared} {a : Addr} {ks : List Str}
/-- what only tells the log of rules -/
theorem wp_told {b : Bool} {m : Bool → Sem Unit} {Q : Unit → Shared → Prop} (h1 : ∃ r, m true = rule r) (h2 : m false = pure ()) (q : Q () s) : wpAny (model P w) A (m b) Q E s := by
  obtain ⟨r, h1⟩ := h1
  cases b
  · rw [h2]; exact wpAny_pure q
  · rw [h1]; exact wpAny_rule q
theorem setS_add {k : Str} {tk : Tok} {Q : Bool → Shared → Prop} (R : SetS w s.heap a ks) (room : ks.length + 1 < scanBound)
    (hQ : ∀ h' b, Heap.SameBut a s.heap h' → SetS w h' a (if k ∈ ks then ks else k :: ks) → Q b { s with heap := h' }) :
    wpAny (model P w) A (setAddHashed a (.str k tk) ((PySem.strKind P w).hash k)) Q E s := by
  have R0 := R
  obtain ⟨nd, o, es, ep, t, ps, ho, hex, hd, T, rfl⟩ := R
  have look := T.search P k
  unfold setAddHashed setAddHashedIn setAddByScan
  refine wpAny_holding (wpAny_bind (wpAny_setState_of ho hd T.told.1 ?_))
  simp only [byScan_of (x := Value.str k tk) rfl T.small (T.kind P), if_true, bind_assoc]
  refine wpAny_bind (wpAny_rule (wpAny_bind (wpAny_setScan_of (strKind_is P w k tk) ho hd T.told.1 (T.kind P) ?_)))
  by_cases hin : k ∈ ps.map Prod.fst
  · rw [decide_eq_true hin, Option.isSome_iff_exists] at look
    obtain ⟨j, e⟩ := look
    rw [if_pos hin] at hQ
    rw [e]
    exact wpAny_bind (wpAny_pure (wpAny_pure (hQ _ false (Heap.SameBut.refl a s.heap) R0)))
  · rw [decide_eq_false hin, Option.isSome_eq_false_iff, Option.isNone_iff_eq_none] at look
    rw [if_neg hin] at hQ
    rw [look]
    have T1 := T.lay k tk (by simpa using room)
    have nd1 : (((k, tk) :: ps).map Prod.fst).Nodup := List.nodup_cons.mpr ⟨hin, nd⟩
    rw [show hashStr w k = (PySem.strKind P w).hash k from rfl] at T1
    generalize layNew t es ((PySem.strKind P w).hash k) (.str k tk) = Y at T1 ⊢
    obtain ⟨es1, t1, wd, gave⟩ := Y
    refine wpAny_bind (wpAny_bind (wp_told (b := gave) ⟨_, rfl⟩ rfl ?_))
    simp only [show hashByValue 8 (.str k tk) = pure false from hashByValue_scannable 8 rfl, pure_bind, Bool.false_eq_true, if_false, if_true]
    split
    have T2 := T1.off
    generalize ({ t1 with plain := false } : SetTable) = t2 at T2 ⊢
    rotate_left
    have T2 := T1
    generalize t1 = t2 at T2 ⊢
    all_goals
      refine wpAny_bind (wpAny_storeSet_of ho hd ?_ (fits_of_scanBound T2.small))
      have sb := Heap.SameBut.update s.heap a (Obj.putSet es1 t2)
      split
      · have T3 := T2.relay (SetTable.grown es1.size)
        generalize relayAll t2 es1 (SetTable.grown es1.size) = Y3 at T3 ⊢
        have h1 := store_at (es' := es1) (t' := t2) ho hd
        refine wpAny_bind (wp_told (b := Y3.2.2) ⟨_, rfl⟩ rfl ?_)
        refine wpAny_bind (wpAny_storeSet_of h1 rfl ?_ (fits_of_scanBound T3.small))
        exact wpAny_pure (wpAny_pure (hQ _ true (sb.trans (.update _ a _)) (T3.stored h1 hex rfl nd1)))
      · exact wpAny_pure (wpAny_pure (hQ _ true sb (T2.stored ho hex hd nd1)))
end
section
variable {prog : Program} {w : World} {A : Around} {I S : Addr} {fp wr : List Addr} {G : Array GenState → Array GenState → Prop} {n : Nat} {Pv : Nat → Value → Prop} {St : Nat → Shared → Prop} {zs : List Str}
/-- the set at S has met the first i of the texts zs -/
def MetAt (w : World) (zs : List Str) (S : Addr) (i : Nat) (h : Heap) : Prop := ∃ ks : List Str, ks.length ≤ i ∧ (∀ x, x ∈ ks ↔ x ∈ zs.take i) ∧ SetS w h S ks
theorem MetAt.start {h : Heap} (R : SetS w h S []) : MetAt w zs S 0 h := ⟨[], Nat.le_refl 0, fun x => by rw [List.take_zero], R⟩
theorem MetAt.at {h h' : Heap} {i : Nat} (M : MetAt w zs S i h) (k : ∀ o, h.get? S = some o → h'.get? S = some o) : MetAt w zs S i h' :=
  let ⟨ks, a, b, R⟩ := M
  ⟨ks, a, b, R.at k⟩
theorem met_more {ks : List Str} {i : Nat} {x : Str} (hx : zs[i]? = some x) (l : ks.length ≤ i) (m : ∀ y, y ∈ ks ↔ y ∈ zs.take i) {h : Heap} (R : SetS w h S (if x ∈ ks then ks else x :: ks)) : MetAt w zs S (i + 1) h := by
  refine ⟨_, ?_, fun y => ?_, R⟩
  · split
    · omega
    · exact Nat.succ_le_succ l
  · rw [List.take_add_one, hx, Option.toList_some, List.mem_append, List.mem_singleton, ← m]
    split
    · rename_i hin
      exact ⟨.inl, fun z => z.elim id fun e => e ▸ hin⟩
    · rw [List.mem_cons, or_comm]
/-- a set takes what an iterator of texts gives -/
theorem met_loop (W : WalksS prog w A.in1 I fp wr G n Pv St) (away : S ∉ fp) (texts : ∀ i v, i < n → Pv i v → ∃ x t, zs[i]? = some x ∧ v = .str x t) (few : n + 1 < scanBound) {R : Result → Shared → Prop} (i : Nat) (s : Shared) (le : i ≤ n) (st : St i s)
    (M : MetAt w zs S i s.heap) (goal : ∀ s', Moved (S :: wr) G s s' → MetAt w zs S n s'.heap → R (.ok (.ret .none)) s') : codeAny (model prog w) A (.builtin "set.update.loop" ⟨[.ref S, .ref I], []⟩) R s := by
  have apart : ∀ {s s' : Shared}, Moved wr G s s' → ∀ o, s.heap.get? S = some o → s'.heap.get? S = some o := fun mv o e => mv.heap S o (away ∘ W.sub S) e
  refine codeAny_builtin F.entry_set_update_loop (Eq.mpr (by rw [Around.under_plainId F.plain_set_update_loop _]) ?_)
  unfold Builtin.«set.update.loop»
  refine wpAny_bind ?_
  by_cases lt : i < n
  · refine W.item i s _ _ lt st fun v s1 hP st1 mv => ?_
    obtain ⟨x, t, hx, rfl⟩ := texts i v lt hP
    obtain ⟨ks, l, m, R1⟩ := M.at (apart mv)
    refine wpAny_bind (wpAny_holding (wpAny_holding (wpAny_bind ((PySem.strKind prog w).pyHash (strKind_is prog w x t) ?_))))
    refine setS_add (s := { s1 with toks := s1.toks + 1 }) R1 (by omega) fun h2 _ same R2 => wpAny_pure ⟨plainId_quiet F.plain_set_update_loop _, ?_⟩
    have other : ∀ b o, b ≠ S → s1.heap.get? b = some o → h2.get? b = some o := fun b o ne e => (same.2 b ne).trans e
    refine met_loop W away texts few (i + 1) _ lt (W.frame _ s1 h2 _ st1 (Nat.le_succ _) fun b hb o e => other b o (fun z => away (z ▸ hb)) e) (met_more hx l m R2) fun s3 mv3 M3 => goal s3 (.trans W.gtrans (.then_heap (mv.mono fun b => List.mem_cons_of_mem S) (Nat.le_succ _) ?_) mv3) M3
    exact fun b o hb e => other b o (fun z => hb (z ▸ List.mem_cons_self)) e
  · obtain rfl : i = n := by omega
    exact W.done s _ _ st fun s1 mv => wpAny_pure (goal s1 (mv.mono fun b => List.mem_cons_of_mem S) (M.at (apart mv)))
termination_by n - i
end
section
variable {prog : Program} {w : World} {A : Around} {E : Value → Shared → Prop} {s : Shared}
/-- an iterable of texts: its type is none that a set would take otherwise, and its iterator gives the texts zs -/
structure Giv (prog : Program) (w : World) (x : Value) (zs : List Str) (s : Shared) : Prop where
  ty : ∃ T, s.TypeIs x T ∧ isSubtype (.type T) (.type "set") = pure false ∧ isSubtype (.type T) (.type "frozenset") = pure false ∧ (Value.type T == Value.type "dict") = false
  it : ∀ {A : Around} {E : Value → Shared → Prop} {Q : Value → Shared → Prop}, (∀ (o : Obj) (fp : List Addr) (Pv : Nat → Value → Prop) (St : Nat → Heap → Prop), (∀ A : Around, A.handled = none → Walks prog w A s.heap.objs.size fp [s.heap.objs.size] zs.length Pv St) →
    (∀ b ∈ fp, b = s.heap.objs.size ∨ x = .ref b) → (∀ i v, i < zs.length → Pv i v → ∃ y t, zs[i]? = some y ∧ v = .str y t) → St 0 (s.heap.push o) → Q (.ref s.heap.objs.size) { s with heap := s.heap.push o }) → wpAny (model prog w) A (pyIter x) Q E s
/-- a blank set takes the texts of an iterable -/
theorem init_texts {S : Addr} {x : Value} {zs : List Str} {Q : Fin → Shared → Prop} (calm : A.handled = none) (hS : s.heap.get? S = some (blankS w)) (g : Giv prog w x zs s) (ne : x ≠ .ref S) (few : zs.length + 1 < scanBound)
    (goal : ∀ (h' : Heap) (tk : Nat), MetAt w zs S zs.length h' → (∀ b o, b ≠ S → s.heap.get? b = some o → h'.get? b = some o) → Q (.done (.ret .none)) { s with heap := h', toks := tk }) :
    wpAny (model prog w) A (Builtin.«set.__init__» ⟨[.ref S, x], []⟩) Q E s := by
  obtain ⟨T, hT, n1, n2, n3⟩ := g.ty
  have sS : S < s.heap.objs.size := Heap.lt_size hS
  have : s.TypeIs (.ref S) "set" := ⟨_, hS, rfl⟩
  unfold Builtin.«set.__init__» noKeywords Builtin.Frozenset.updateFrom
  generalize hPI : pyIter = PI
  wp_walk
  subst hPI
  refine g.it fun o fp Pv St W own texts st => wpAny_bind (wpAny_runValue ?_)
  refine met_loop (zs := zs) (W _ (by simp [calm])).toS (fun z => ?_) texts few 0 _ (Nat.zero_le _) st (.start (.blank (Heap.get?_push_of_some _ hS))) ?_
  · exact (own S z).elim (Nat.ne_of_lt sS) ne
  rintro ⟨h', g', d', tk, os'⟩ mv M
  obtain ⟨rfl, rfl, rfl⟩ : g' = s.gens ∧ d' = s.drawn ∧ os' = s.os := ⟨mv.gens, mv.drawn, mv.os⟩
  refine wpAny_pure (wpAny_pure (goal h' tk M fun b o nb e => mv.heap b o ?_ (Heap.get?_push_of_some _ e)))
  simp [nb, Nat.ne_of_lt (Heap.lt_size e)]
set_option maxHeartbeats 8000000 in
/-- set(an iterable of texts) -/
theorem set_made {x : Value} {zs : List Str} {Q : Value → Shared → Prop} (calm : A.handled = none) (g : Giv prog w x zs { s with heap := s.heap.push (blankS w) }) (ne : x ≠ .ref s.heap.objs.size) (few : zs.length + 1 < scanBound) (tc : checkTypeCall "set" ⟨[x], []⟩ = pure ())
    (goal : ∀ (h' : Heap) (tk : Nat), MetAt w zs s.heap.objs.size zs.length h' → (∀ b o, s.heap.get? b = some o → h'.get? b = some o) → Q (.ref s.heap.objs.size) { s with heap := h', toks := tk }) :
    wpAny (model prog w) A (call (.type "set") [x]) Q E s := by
  have ft := F.called_set
  have ⟨_, _, m⟩ := ft.mro
  have := ft.made
  have := ft.sub
  have := ft.notType
  have := ft.canCreate
  refine wpAny_call (codeAny_of_tree (wpAny_pure ⟨Code.quiet_builtin _ (by decide +kernel), codeAny_builtin F.entry_type_call (Eq.mpr (by rw [Around.under_plain (weight_type_call_type "set" [x] []) rfl]) ?_)⟩))
  repeat (any_goals (first | assumption | wp_step))
  refine codeAny_mono (code_set_led1 x (E := E) (Q₁ := fun v s1 => v = .ref s.heap.objs.size ∧ s1 = { s with heap := s.heap.push (blankS w) }) ⟨rfl, rfl⟩) ?_
  rintro (e | (v | _)) s1 hr
  all_goals first | exact hr | exact hr.elim | skip
  obtain ⟨rfl, rfl⟩ := hr
  have new : (s.heap.push (blankS w)).get? s.heap.objs.size = some (blankS w) := Heap.get?_push_size _ rfl
  have ty : Shared.TypeIs { s with heap := s.heap.push (blankS w) } (.ref s.heap.objs.size) "set" := ⟨_, new, rfl⟩
  have := ft.init.lookup
  have := ft.init.bind (.ref s.heap.objs.size)
  repeat (any_goals (first | assumption | wp_step))
  have made : codeAny (model prog w) A.in1 (.call (.builtin "set.__init__") ⟨[.ref s.heap.objs.size, x], []⟩) (wants (fun v s2 => v = .none ∧ Q (.ref s.heap.objs.size) s2) E) { s with heap := s.heap.push (blankS w) } := by
    refine codeAny_call_builtin ft.init.plain F.entry_set_init (check_set_init_1 ty ?_)
    refine init_texts (by simp [calm]) new g ne few fun h' tk M old => ⟨rfl, goal h' tk M fun b o e => old b o (Nat.ne_of_lt (Heap.lt_size e)) (Heap.get?_push_of_some _ e)⟩
  refine codeAny_mono made ?_
  rintro (e | (v | _)) s2 hr
  all_goals first | exact hr | exact hr.elim | skip
  obtain ⟨rfl, q⟩ := hr
  repeat (any_goals (first | assumption | wp_step))
/-- set(text) -/
theorem set_text {x : Str} {t : Tok} {Q : Value → Shared → Prop} (calm : A.handled = none) (few : x.cps.size + 1 < scanBound)
    (goal : ∀ (h' : Heap) (tk : Nat), MetAt w (x.cps.toList.map sS) s.heap.objs.size x.cps.size h' → (∀ b o, s.heap.get? b = some o → h'.get? b = some o) → Q (.ref s.heap.objs.size) { s with heap := h', toks := tk }) :
    wpAny (model prog w) A (call (.type "set") [.str x t]) Q E s := by
  have n : (x.cps.toList.map sS).length = x.cps.size := by simp
  refine set_made (zs := x.cps.toList.map sS) calm ⟨⟨"str", rfl, by rw [isSubtype_type]; kernel_rfl, by rw [isSubtype_type]; kernel_rfl, by decide⟩, fun q => ?_⟩ (fun z => nomatch z) (n ▸ few) (F.typeCall_set_1 _) (n ▸ goal)
  refine wpAny_pyIter_str fun o St W st => q o _ _ St (n ▸ W) (fun b z => .inl (List.mem_singleton.mp z)) (fun i v _ hv => ?_) st
  obtain ⟨c, tt, hc, rfl⟩ := hv
  exact ⟨_, tt, by rw [List.getElem?_map, Array.getElem?_toList, hc]; rfl, rfl⟩
end
end My

set_option Elab.async false
set_option linter.all false
set_option maxRecDepth 100000
set_option maxHeartbeats 2000000
namespace My
open PySem PySem.Spec PyProof.Rows L2
/-! ### len(set(text)) -/
theorem len_nodup {l : List Nat} {ks : List Str} (k1 : ks.Nodup) (mem : ∀ x, x ∈ ks ↔ x ∈ l.map sS) : ks.length ≤ l.length ∧ (ks.length = l.length ↔ l.Nodup) := by
  have inj : ∀ a b : Nat, sS a = sS b → a = b := fun a b h => by
    have h2 := congrArg (fun z : Str => z.cps.toList) h
    simpa [sS] using h2
  have hle : ks.length ≤ (l.map sS).length := List.Nodup.length_le_of_subset k1 fun x hx => (mem x).mp hx
  rw [List.length_map] at hle
  refine ⟨hle, fun e => ?_, fun nd => ?_⟩
  · have nm : (l.map sS).Nodup := by
      have hp : ks ⊆ l.map sS := fun x hx => (mem x).mp hx
      refine Classical.byContradiction fun hn => ?_
      obtain ⟨ds, d1, d2, d3⟩ : ∃ ds : List Str, ds.Nodup ∧ (∀ x, x ∈ ds ↔ x ∈ l.map sS) ∧ (ds.length < (l.map sS).length) := by
        have key : ∀ m : List Str, ¬ m.Nodup → ∃ ds : List Str, ds.Nodup ∧ (∀ x, x ∈ ds ↔ x ∈ m) ∧ ds.length < m.length := by
          have all : ∀ m : List Str, ∃ ds : List Str, ds.Nodup ∧ (∀ x, x ∈ ds ↔ x ∈ m) ∧ ds.length ≤ m.length := by
            intro m
            induction m with
            | nil => exact ⟨[], List.nodup_nil, fun x => Iff.rfl, Nat.le_refl _⟩
            | cons a m ih =>
              obtain ⟨ds, d1, d2, d3⟩ := ih
              by_cases ha : a ∈ m
              · refine ⟨ds, d1, fun x => ?_, by rw [List.length_cons]; omega⟩
                rw [d2, List.mem_cons]
                exact ⟨.inr, fun z => z.elim (fun y => by rw [y]; exact ha) id⟩
              · refine ⟨a :: ds, List.nodup_cons.mpr ⟨fun z => ha ((d2 a).mp z), d1⟩, fun x => by rw [List.mem_cons, List.mem_cons, d2], by rw [List.length_cons, List.length_cons]; omega⟩
          intro m
          induction m with
          | nil => exact fun h => absurd List.nodup_nil h
          | cons a m ih =>
            intro h
            by_cases ha : a ∈ m
            · obtain ⟨ds, d1, d2, d3⟩ := all m
              refine ⟨ds, d1, fun x => ?_, by rw [List.length_cons]; omega⟩
              rw [d2, List.mem_cons]
              exact ⟨.inr, fun z => z.elim (fun y => by rw [y]; exact ha) id⟩
            · obtain ⟨ds, d1, d2, d3⟩ := ih fun z => h (List.nodup_cons.mpr ⟨ha, z⟩)
              exact ⟨a :: ds, List.nodup_cons.mpr ⟨fun z => ha ((d2 a).mp z), d1⟩, fun x => by rw [List.mem_cons, List.mem_cons, d2], by rw [List.length_cons, List.length_cons]; omega⟩
        exact key _ hn
      have h3 : ks.length ≤ ds.length := List.Nodup.length_le_of_subset k1 fun x hx => (d2 x).mpr ((mem x).mp hx)
      rw [List.length_map] at d3
      omega
    exact (List.pairwise_map.mp nm).imp fun {a b} h z => h (by rw [z])
  · have nm : (l.map sS).Nodup := List.pairwise_map.mpr (nd.imp fun {a b} h z => h (inj a b z))
    have h3 : (l.map sS).length ≤ ks.length := List.Nodup.length_le_of_subset nm fun x hx => (mem x).mpr hx
    rw [List.length_map] at h3
    omega
section
variable {X : Cx}
def tLenSet (te : TE) : TE := fun σ H Q => te σ H fun x H1 => ∃ l : List Nat, x = tx l ∧ l.length ≤ 1000 ∧ ∀ n : Nat, n ≤ l.length → (n = l.length ↔ l.Nodup) → Q (.int n) H1
theorem pe_lenSet {e : Expr} {te : TE} {p1 p2 q1 q2 : Pos} (hc : X.calm = true) (hg : Gl X "len") (hm : X.mg "len" = none) (hg2 : Gl X "set") (hm2 : X.mg "set" = none) (he : PE X e te)
    (hb : bootBuiltins "len" = some (.builtin "len") := by decide +kernel) (hb2 : bootBuiltins "set" = some (.type "set") := by decide +kernel)
    (hs : starEach [.Call (.Name "set" q1) [e] [] q2] X.env = (false, eval (.Call (.Name "set" q1) [e] [] q2) X.env) :: starEach [] X.env := by rfl) (hs2 : starEach [e] X.env = (false, eval e X.env) :: starEach [] X.env := by rfl) :
    PE X (.Call (.Name "len" p1) [.Call (.Name "set" q1) [e] [] q2] [] p2) (tLenSet te) := by
  refine ⟨fun pins s σ H Q I h => ?_⟩
  refine wpAny_Call_Name_kw (ld_blt I hg hm hb (PyProof.Rows.callWith_builtin1 ?_ hs (by rfl)))
  rw [hs]
  refine Calls.spliced_cons (wpAny_Call_Name_kw (ld_blt I hg2 hm2 hb2 ?_))
  refine PyProof.Rows.callWith_type1 ?_ hs2 (by rfl)
  rw [hs2]
  refine Calls.spliced_cons (thn (he.run pins s σ H _ I h) fun u s1 ⟨x, H1, I1, r1, l, ex, hl, q⟩ => ?_)
  refine Calls.spliced_nil ?_
  subst ex
  obtain ⟨t, rfl⟩ := r1
  have hsz : (⟨l.toArray⟩ : Str).cps.size = l.length := by simp
  refine set_text (I1.ok.hd hc) (by rw [hsz]; unfold scanBound; omega) fun h' tk hT hk => ?_
  rw [hsz] at hT
  obtain ⟨ks, _, k2, R⟩ := hT
  have k3 : ∀ x, x ∈ ks ↔ x ∈ l.map sS := fun x => by rw [k2, List.take_of_length_le (by simp)]
  obtain ⟨a1, a2⟩ := len_nodup R.1 k3
  obtain ⟨_, o, es, ep, tb, ps, ho, hex, hd, T, rfl⟩ := R
  have hn : es.size = (ps.map Prod.fst).length := by rw [T.size, List.length_map]
  have I2 : Inv X pins σ H1 { s1 with heap := h', toks := tk } := I1.kept hk
  refine Calls.spliced_nil ?_
  refine call_len_set ho hex hd T.told.1 (by rw [hn]; omega) ?_
  rw [hn]
  exact ⟨.int _, H1, I2.tok _ |>.tok _, ⟨_, rfl⟩, q _ a1 a2⟩
end
end My

set_option Elab.async false
set_option linter.all false
set_option maxRecDepth 100000
set_option maxHeartbeats 2000000
namespace My
open PySem PySem.Spec PyProof.Rows L2
/-! ### lists of columns, of any data -/
def isListL (cols l : List Nat) : Bool := !l.isEmpty && decide l.Nodup && l.all fun c => decide (c ∈ cols)
def isListD (cols : List Nat) : PyData → Bool
  | .str z => isListL cols z.cps.toList
  | _ => false
theorem list_of_str {cols : List Nat} {l : List Nat} : isListD cols (.str (txS l)) = isListL cols l := by
  show isListL cols l.toArray.toList = _
  simp
/-- no place that is not so, by a look at each -/
theorem list_looked (cols l : List Nat) (hl : l ≠ []) : ((List.range l.length).filter fun i => decide (l.getD i 0 ∉ cols) || decide (l.getD i 0 ∈ l.take i)) = [] ↔ isListL cols l = true := by
  unfold isListL
  have e1 : (!l.isEmpty) = true := by
    cases l with
    | nil => exact absurd rfl hl
    | cons a l => rfl
  rw [e1, Bool.true_and, Bool.and_eq_true, decide_eq_true_eq, List.all_eq_true, List.filter_eq_nil_iff]
  constructor
  · intro h
    have h1 : ∀ i (hi : i < l.length), l[i] ∈ cols ∧ l[i] ∉ l.take i := fun i hi => by
      have := h i (List.mem_range.mpr hi)
      simp only [List.getD_eq_getElem?_getD, List.getElem?_eq_getElem hi, Option.getD_some, Bool.or_eq_true, decide_eq_true_eq, not_or, Classical.not_not] at this
      exact this
    refine ⟨List.pairwise_iff_getElem.mpr fun i j hi hj hij e => ?_, fun c hc => ?_⟩
    · refine (h1 j hj).2 ?_
      rw [← e]
      exact List.mem_take_iff_getElem.mpr ⟨i, by omega, rfl⟩
    · obtain ⟨i, hi, rfl⟩ := List.getElem_of_mem hc
      exact decide_eq_true (h1 i hi).1
  · rintro ⟨nd, h2⟩ i hi
    have hi2 := List.mem_range.mp hi
    simp only [List.getD_eq_getElem?_getD, List.getElem?_eq_getElem hi2, Option.getD_some, Bool.or_eq_true, decide_eq_true_eq, not_or, Classical.not_not]
    refine ⟨of_decide_eq_true (h2 _ (List.getElem_mem hi2)), fun z => ?_⟩
    obtain ⟨j, hj, e⟩ := List.mem_take_iff_getElem.mp z
    exact List.pairwise_iff_getElem.mp nd j i (by omega) hi2 (by omega) e
theorem up1_small (c : Nat) (h : c < 128) : up1 c < 1000 := by
  have : ∀ c, c < 128 → up1 c < 1000 := by decide +kernel
  exact this c h
theorem upper_tx {l : List Nat} (h : ∀ c ∈ l, c < 128) : V.str (Txt.upper ⟨l.toArray⟩) = tx (l.map up1) := by
  rw [upper_ascii (x := ⟨l.toArray⟩) (by simpa using h)]
  show V.str ⟨l.toArray.map up1⟩ = V.str ⟨(l.map up1).toArray⟩
  simp
theorem cat_tx (l k : List Nat) : V.str ((⟨l.toArray⟩ : Str) ++ ⟨k.toArray⟩) = tx (l ++ k) := by
  show V.str ⟨l.toArray ++ k.toArray⟩ = V.str ⟨(l ++ k).toArray⟩
  simp
theorem eqv_ints_nil (ns : List Int) : PyData.eqv (.list (ns.map PyData.int)) (.list []) = ns.isEmpty := by
  cases ns with
  | nil => rfl
  | cons a ns => rfl
end My

set_option Elab.async false
set_option linter.all false
set_option maxRecDepth 100000
set_option maxHeartbeats 1000000
namespace My
open PySem PySem.Spec PyProof.Rows L2
def topS (i : Nat) : Stmt := PySem.Challenge.pw_stretchkeep_k02_what_is_a_list.main.body.getD i (.Pass ⟨0, 0, 0, 0⟩)
abbrev s_is_list : Stmt := topS 1
theorem sc_is_list : FnScope ["columns", "thing", "letter"] ["columns", "thing"] (defScope s_is_list) := ⟨rfl, rfl, rfl, by decide +kernel, rfl, by decide +kernel, by decide +kernel⟩
abbrev s_l_reel : Stmt := topS 3
theorem sc_l_reel : FnScope ["script", "k", "number", "stir", "found", "turn"] ["script", "k"] (defScope s_l_reel) := ⟨rfl, rfl, rfl, by decide +kernel, rfl, by decide +kernel, by decide +kernel⟩
abbrev s_l_pick : Stmt := topS 4
theorem sc_l_pick : FnScope ["reel", "many", "digit"] ["reel", "many"] (defScope s_l_pick) := ⟨rfl, rfl, rfl, by decide +kernel, rfl, by decide +kernel, by decide +kernel⟩
abbrev s_l_columns : Stmt := topS 5
theorem sc_l_columns : FnScope ["reel", "many", "left", "found", "k"] ["reel", "many"] (defScope s_l_columns) := ⟨rfl, rfl, rfl, by decide +kernel, rfl, by decide +kernel, by decide +kernel⟩
abbrev s_l_one : Stmt := topS 6
theorem sc_l_one : FnScope ["reel", "columns", "left", "found", "k"] ["reel", "columns"] (defScope s_l_one) := ⟨rfl, rfl, rfl, by decide +kernel, rfl, by decide +kernel, by decide +kernel⟩
abbrev s_l_is_list : Stmt := topS 7
theorem sc_l_is_list : FnScope ["columns", "thing", "at"] ["columns", "thing"] (defScope s_l_is_list) := ⟨rfl, rfl, rfl, by decide +kernel, rfl, by decide +kernel, by decide +kernel⟩
abbrev s_law : Stmt := topS 8
theorem sc_law : FnScope ["script", "k", "reel", "columns", "one", "at", "sign", "things", "thing", "kept", "found"] ["script"] (defScope s_law) := ⟨rfl, rfl, rfl, by decide +kernel, rfl, by decide +kernel, by decide +kernel⟩
structure Ad where
  f_is_list : Addr
  d_is_list : FuncData
  c_is_list : Addr
  P_is_list : Addr
  f_l_reel : Addr
  d_l_reel : FuncData
  f_l_pick : Addr
  d_l_pick : FuncData
  f_l_columns : Addr
  d_l_columns : FuncData
  f_l_one : Addr
  d_l_one : FuncData
  f_l_is_list : Addr
  d_l_is_list : FuncData
  f_law : Addr
  d_law : FuncData
abbrev Ad.Ps (Z : Ad) : List Addr := [Z.P_is_list]
structure Tb (base : Heap) (mg : Str → Option Value) (Z : Ad) : Prop where
  t_is_list : LamX.TabB base mg Z.c_is_list Z.P_is_list
structure Tx (K : PySem.W.Frag) (mg : Str → Option Value) (Z : Ad) : Prop where
  F_is_list : Fun K "is_list" "is_list" s_is_list Z.f_is_list Z.d_is_list
  C_is_list : FunC K "is_list" "is_list" s_is_list Z.f_is_list Z.d_is_list Z.c_is_list
  b_is_list : Binds K Z.d_is_list ["columns", "thing"] []
  g_is_list : mg "is_list" = some (.ref Z.f_is_list)
  F_l_reel : Fun K "_law_reel" "_law_reel" s_l_reel Z.f_l_reel Z.d_l_reel
  b_l_reel : Binds K Z.d_l_reel ["script", "k"] []
  g_l_reel : mg "_law_reel" = some (.ref Z.f_l_reel)
  F_l_pick : Fun K "_law_pick" "_law_pick" s_l_pick Z.f_l_pick Z.d_l_pick
  b_l_pick : Binds K Z.d_l_pick ["reel", "many"] []
  g_l_pick : mg "_law_pick" = some (.ref Z.f_l_pick)
  F_l_columns : Fun K "_law_columns" "_law_columns" s_l_columns Z.f_l_columns Z.d_l_columns
  b_l_columns : Binds K Z.d_l_columns ["reel", "many"] []
  g_l_columns : mg "_law_columns" = some (.ref Z.f_l_columns)
  F_l_one : Fun K "_law_one" "_law_one" s_l_one Z.f_l_one Z.d_l_one
  b_l_one : Binds K Z.d_l_one ["reel", "columns"] []
  g_l_one : mg "_law_one" = some (.ref Z.f_l_one)
  F_l_is_list : Fun K "_law_is_list" "_law_is_list" s_l_is_list Z.f_l_is_list Z.d_l_is_list
  b_l_is_list : Binds K Z.d_l_is_list ["columns", "thing"] []
  g_l_is_list : mg "_law_is_list" = some (.ref Z.f_l_is_list)
  F_law : Fun K "law" "law" s_law Z.f_law Z.d_law
  b_law : Binds K Z.d_law ["script"] []
  g_law : mg "law" = some (.ref Z.f_law)
  m_len : mg "len" = none
  m_range : mg "range" = none
  m_list : mg "list" = none
  m_sorted : mg "sorted" = none
  m_tuple : mg "tuple" = none
  m_min : mg "min" = none
  m_max : mg "max" = none
  m_isinstance : mg "isinstance" = none
  m_all : mg "all" = none
  m_bool : mg "bool" = none
  m_str : mg "str" = none
  m_set : mg "set" = none
  m_repr : mg "repr" = none
section
variable {P : Program} {w : World} {K : PySem.W.Frag} {mg : Str → Option Value} {base : Heap} {Z : Ad}
/-! ### _law_reel -/
def spReel (K : PySem.W.Frag) : Sp := fun vs H Q _ => ∃ (a : Addr) (ns : List Int) (k : Nat), vs = [.ref a, .int k] ∧ SqL K H a (ns.map V.int) ∧ k < 1000 ∧ ∀ (n : Int) p, H p = none → Q (.ref p) (upd H p (.lst [.int n]))
theorem ok_reel (T : Tx K mg Z) : FnOk P w K mg base CX0 1 Z.f_l_reel Z.d_l_reel ["script", "k"] (spReel K) := by
  refine T.F_l_reel.ok sc_l_reel (fun vs H Q E h => ?_) (fun cdv A outer s H vs Q E hr h => ?_)
  · obtain ⟨a, ns, k, rfl, _⟩ := h
    rfl
  · obtain ⟨a, ns, k, rfl, hS, hk, q⟩ := h
    refine ⟨_, (pss_cons (ps_set (i := 2) sc_l_reel.nd rfl (.inl rfl) (pe_op op_add (pe_op op_mul pe_int (pv 1)) pe_int))
      (pss_mid (ps_if (pt_cmpR op_lt (pv 1) (pe_callB (cLenSq K) (by rfl) T.m_len (by decide +kernel) (pa_cons (pv 0) pa_nil)) (nomark _)) (pss_one (ps_set (i := 2) sc_l_reel.nd rfl (.inl rfl) (pe_ix (ixL K) (pv 0) (pv 1) (fun _ _ => rfl)))) pss_nil)
      (pss_cons (ps_if (pt_cmpR op_eq (pe_op op_mod (pv 2) pe_int) pe_int (nomark _)) (pss_one (ps_ret (pe_lst (pa_cons (pe_op op_fdiv (pv 2) pe_int) pa_nil)))) pss_nil)
      (pss_cons (ps_set (i := 3) sc_l_reel.nd rfl (.inl rfl) (pe_op op_mod (pe_op op_add (pe_op op_add (pe_op op_mul (pe_op op_mod (pv 2) pe_int) pe_int) (pe_op op_mul pe_int (pv 1))) pe_int) pe_int))
      (pss_cons (ps_set (i := 4) sc_l_reel.nd rfl (.inl rfl) pe_int)
      (pss_cons (ps_for PassesOwn.never rfl (pi_range1 (by rfl) T.m_range (pa_cons pe_int pa_nil)) (pg_name (i := 5) sc_l_reel.nd rfl (.inl rfl)) (pss_cons (ps_set (i := 3) sc_l_reel.nd rfl (.inl rfl) (pe_op op_mod (pe_op op_add (pe_op op_add (pe_op op_add (pe_op op_mul (pv 3) (pv 3)) (pe_op op_mul pe_int (pv 3))) (pe_op op_mul pe_int (pv 5))) pe_int) pe_int))
      (pss_one (ps_set (i := 4) sc_l_reel.nd rfl (.inl rfl) (pe_op op_add (pe_op op_mul (pv 4) pe_int) (pv 3))))))
      (pss_one (ps_ret (pe_lst (pa_cons (pv 4) pa_nil)))))))))), ?_⟩
    have b64 : ∀ x : Int, 0 ≤ x → x < 2147483399 → -(2 ^ 64) < x ∧ x < 2 ^ 64 := fun x h0 h1 => ⟨by omega, by omega⟩
    have em : ∀ x : Int, 0 ≤ x % 2147483399 ∧ x % 2147483399 < 2147483399 := fun x => ⟨Int.emod_nonneg _ (by decide), Int.emod_lt_of_pos _ (by decide)⟩
    refine ⟨.int k, rfl, 7, k, rfl, rfl, .inl ⟨by decide, by decide⟩, _, 4, rfl, rfl, ?_⟩
    refine ⟨fun σ H' => ∃ num : Int, σ = [some (.ref a), some (.int k), some (.int num), none, none, none] ∧ H' = H, ?_, ?_⟩
    · refine ⟨.int k, rfl, .ref a, rfl, a, _, rfl, .inl hS, _, _, rfl, rfl, _, rfl, ite2 (fun e => ?_) (fun e => ?_)⟩
      · have e1 : (k : Int) < ((ns.map V.int).length : Nat) := of_decide_eq_true e
        have e2 : k < ns.length := by
          rw [List.length_map] at e1
          omega
        refine ⟨.ref a, rfl, .int k, rfl, a, _, _, .int ns[k], rfl, rfl, hS, atI_nat (by rw [List.getElem?_map, List.getElem?_eq_getElem e2]; rfl), ?_⟩
        exact ⟨_, rfl, rfl⟩
      · exact ⟨_, rfl, rfl⟩
    · intro σ1 H1 hM
      obtain ⟨num, rfl, rfl⟩ := hM
      refine ⟨.int num, rfl, num, 5, rfl, rfl, (by show (0 : Int) < 5; decide), rfl, _, rfl, ite2 (fun e => ?_) (fun e => ?_)⟩
      · refine ⟨.int num, rfl, num, 5, rfl, rfl, ⟨by decide, by decide⟩, (by show 1 ≤ sizeLine; decide), fun p np => ?_⟩
        exact q _ p np
      · refine ⟨.int num, rfl, num, 2147483399, rfl, rfl, (by show (0 : Int) < 2147483399; decide), _, 50021, rfl, rfl, .inl (b64 _ (em _).1 (em _).2), .int k, rfl, 977, k, rfl, rfl, .inl ⟨by decide, by decide⟩, _, _, rfl, rfl, _, 31, rfl, rfl, _, 2147483399, rfl, rfl, (by show (0 : Int) < 2147483399; decide), ?_⟩
        refine ⟨60, rfl, by decide, by decide, for_range (fun i σ H' => ∃ (st fo : Int) (y : Option V), σ = [some (.ref a), some (.int k), some (.int num), some (.int st), some (.int fo), y] ∧ 0 ≤ st ∧ st < 2147483399 ∧ H' = H1) ⟨_, 0, none, rfl, (em _).1, (em _).2, rfl⟩ (fun i σ H' hi hP => ?_) (fun σ H' hP => ?_)⟩
        · obtain ⟨st, fo, y, rfl, s0, s1, rfl⟩ := hP
          refine ⟨.int st, rfl, .int st, rfl, st, st, rfl, rfl, .inl (b64 _ s0 s1), .int st, rfl, 60013, st, rfl, rfl, .inl ⟨by decide, by decide⟩, _, _, rfl, rfl, _, rfl, 29, _, rfl, rfl, .inl ⟨by decide, by decide⟩, _, _, rfl, rfl, _, 5, rfl, rfl, _, 2147483399, rfl, rfl, (by show (0 : Int) < 2147483399; decide), ?_⟩
          refine ⟨.int fo, rfl, fo, 2147483399, rfl, rfl, .inr ⟨by decide, by decide⟩, _, rfl, _, _, rfl, rfl, ?_⟩
          exact ⟨_, _, _, rfl, (em _).1, (em _).2, rfl⟩
        · obtain ⟨st, fo, y, rfl, s0, s1, rfl⟩ := hP
          refine ⟨.int fo, rfl, (by show 1 ≤ sizeLine; decide), fun p np => ?_⟩
          exact q _ p np
/-! ### _law_pick -/
def spPick (K : PySem.W.Frag) : Sp := fun vs H Q _ => ∃ (r : Addr) (n m : Int), vs = [.ref r, .int m] ∧ H r = some (.lst [.int n]) ∧ 0 < m ∧ m < 1073741824 ∧ ∀ (d n' : Int), 0 ≤ d → d < m → Q (.int d) (upd H r (.lst [.int n']))
theorem ok_pick (T : Tx K mg Z) : FnOk P w K mg base CX0 1 Z.f_l_pick Z.d_l_pick ["reel", "many"] (spPick K) := by
  refine T.F_l_pick.ok sc_l_pick (fun vs H Q E h => ?_) (fun cdv A outer s H vs Q E hr h => ?_)
  · obtain ⟨a, n, m, rfl, _⟩ := h
    rfl
  · obtain ⟨r, n, m, rfl, hS, h0, h1, q⟩ := h
    refine ⟨_, (pss_cons (ps_set (i := 2) sc_l_pick.nd rfl (.inl rfl) (pe_op op_mod (pe_ix (ixL K) (pv 0) pe_int (fun _ _ => rfl)) (pv 1)))
      (pss_cons (ps_asg (pe_op op_fdiv (pe_ix (ixL K) (pv 0) pe_int (fun _ _ => rfl)) (pv 1)) (pg_sub (pv 0) pe_int set_list))
      (pss_one (ps_ret (pv 2))))), ?_⟩
    refine ⟨.ref r, rfl, r, [.int n], 0, .int n, rfl, rfl, .inl (.inl hS), rfl, .int m, rfl, n, m, rfl, rfl, h0, ?_⟩
    refine ⟨.ref r, rfl, r, [.int n], 0, .int n, rfl, rfl, .inl (.inl hS), rfl, .int m, rfl, n, m, rfl, rfl, ⟨h0, h1⟩, ?_⟩
    refine ⟨.ref r, rfl, r, [.int n], 0, 0, rfl, rfl, hS, rfl, _, rfl, ?_⟩
    exact q _ _ (Int.emod_nonneg _ (by omega)) (Int.emod_lt_of_pos _ h0)
/-! ### _law_columns -/
def alpha : List Nat := [97, 98, 99, 100, 101, 102, 103, 104, 105, 106, 107, 108, 109, 110, 111, 112, 113, 114, 115, 116, 117, 118, 119, 120, 121, 122]
def spColumns (K : PySem.W.Frag) : Sp := fun vs H Q _ => ∃ (r : Addr) (n : Int) (m : Nat), vs = [.ref r, .int m] ∧ H r = some (.lst [.int n]) ∧ m ≤ 26 ∧ ∀ (l : List Nat) (n' : Int) (H' : Hp), Kp r H H' → H' r = some (.lst [.int n']) → Cols l → l.length = m → Q (tx l) H'
theorem ok_columns (T : Tx K mg Z) : FnOk P w K mg base CX0 2 Z.f_l_columns Z.d_l_columns ["reel", "many"] (spColumns K) := by
  have G_l_pick : FnOk P w K mg base CX0 1 Z.f_l_pick Z.d_l_pick ["reel", "many"] (spPick K) := ok_pick T
  refine T.F_l_columns.ok sc_l_columns (fun vs H Q E h => ?_) (fun cdv A outer s H vs Q E hr h => ?_)
  · obtain ⟨r, n, m, rfl, _⟩ := h
    rfl
  · obtain ⟨r, n, m, rfl, hR, hm, q⟩ := h
    refine ⟨_, (pss_cons (ps_set (i := 2) sc_l_columns.nd rfl (.inl rfl) (pe_callTy call_list_txt (by rfl) T.m_list (by decide +kernel) (pa_cons pe_str pa_nil)))
      (pss_cons (ps_set (i := 3) sc_l_columns.nd rfl (.inl rfl) (pe_lst pa_nil))
      (pss_cons (ps_for PassesOwn.never rfl (pi_range1 (by rfl) T.m_range (pa_cons (pv 1) pa_nil)) (pg_name (i := 4) sc_l_columns.nd rfl (.inl rfl)) (pss_one (ps_expr (bmK K PySem.F.plainAttrs_list PySem.F.slot_list_append PySem.F.type_list_append mt_append (pv 3) (pa_cons (bmK K PySem.F.plainAttrs_list PySem.F.slot_list_pop PySem.F.type_list_pop mt_popAt (pv 2) (pa_cons (pe_call G_l_pick (hr.mono (by omega)) (by rfl) T.g_l_pick T.F_l_pick.kp T.b_l_pick .nil pass0 (pa_cons (pv 0) (pa_cons (pe_callB (cLenSq K) (by rfl) T.m_len (by decide +kernel) (pa_cons (pv 2) pa_nil)) pa_nil))) pa_nil)) pa_nil)))))
      (pss_one (ps_ret (pe_join pe_str (pe_callB cr_sortedS (by rfl) T.m_sorted (by decide +kernel) (pa_cons (pv 3) pa_nil)))))))), ?_⟩
    have ea : (Str.ofString "abcdefghijklmnopqrstuvwxyz").cps.toList = alpha := by decide +kernel
    refine ⟨_, rfl, (by decide +kernel), fun L nL => ?_⟩
    rw [ea]
    refine ⟨Nat.zero_le _, fun F nF => ?_⟩
    have nFL : F ≠ L := fun e => by
      rw [e, upd_same] at nF
      cases nF
    have nF0 : H F = none := by
      rw [upd_ne nFL] at nF
      exact nF
    have nLr : L ≠ r := (ne_of_none hR nL).symm
    have nFr : F ≠ r := (ne_of_none hR nF0).symm
    refine ⟨.int m, rfl, m, rfl, by omega, by omega, for_range (fun i σ H' => ∃ (ll ff : List Nat) (n' : Int) (y : Option V), σ = [some (.ref r), some (.int m), some (.ref L), some (.ref F), y] ∧ Kp r H H' ∧ H' r = some (.lst [.int n']) ∧ H' L = some (.lst (ll.map sg)) ∧ H' F = some (.lst (ff.map sg)) ∧ (ll ++ ff).Perm alpha ∧ ff.length = i)
      ⟨alpha, [], n, none, rfl, ?_, ?_, ?_, ?_, ?_, rfl⟩ (fun i σ H' hi hP => ?_) (fun σ H' hP => ?_)⟩
    · exact (Kp.new Kp.rfl' nL).new nF
    · rw [upd_ne nFr.symm, upd_ne nLr.symm]
      exact hR
    · rw [upd_ne nFL.symm, upd_same]
    · rw [upd_same]
      rfl
    · rw [List.append_nil]
    · obtain ⟨ll, ff, n1, y, rfl, kp, hR1, hL, hF, hp, hl⟩ := hP
      have hlen : ll.length + ff.length = 26 := by
        have := hp.length_eq
        rw [List.length_append] at this
        exact this
      have hll : 0 < ll.length := by
        have : i < m := by omega
        omega
      refine ⟨.ref F, rfl, .inl ⟨rfl, _, .inl (.inl hF)⟩, .ref L, rfl, .inl ⟨rfl, _, .inl (.inl hL)⟩, .ref r, rfl, .ref L, rfl, L, _, rfl, .inl (.inl (.inl hL)), r, n1, _, rfl, hR1, ?_, ?_, fun d n2 d0 d1 => ?_⟩
      · rw [List.length_map]
        omega
      · rw [List.length_map]
        omega
      · rw [List.length_map] at d1
        have hd : d.toNat < ll.length := by omega
        have hL2 : (upd H' r (.lst [.int n2])) L = some (.lst (ll.map sg)) := by
          rw [upd_ne nLr]
          exact hL
        have hF2 : (upd (upd H' r (.lst [.int n2])) L (.lst ((ll.map sg).eraseIdx d.toNat))) F = some (.lst (ff.map sg)) := by
          rw [upd_ne nFL, upd_ne nFr]
          exact hF
        have hy : ll[d.toNat]? = some ll[d.toNat] := List.getElem?_eq_getElem hd
        refine ⟨L, _, d, d.toNat, sg ll[d.toNat], rfl, rfl, hL2, by omega, by omega, PySem.seqIndex_of d0 (by rw [List.length_map]; exact d1), ?_, F, _, _, rfl, rfl, hF2, ?_, ?_⟩
        · rw [List.getElem?_map, hy]
          rfl
        · rw [List.length_map]
          exact small1000 (by omega)
        · refine ⟨ll.eraseIdx d.toNat, ff ++ [ll[d.toNat]], n2, _, rfl, ?_, ?_, ?_, ?_, (popped hy ff).trans hp, by rw [List.length_append, hl]; rfl⟩
          · exact ((Kp.own kp).mut nL).mut nF0
          · rw [upd_ne nFr.symm, upd_ne nLr.symm, upd_same]
          · rw [upd_ne nFL.symm, upd_same, erase_map]
          · rw [upd_same, List.map_append]
            rfl
    · obtain ⟨ll, ff, n1, y, rfl, kp, hR1, hL, hF, hp, hl⟩ := hP
      have hm2 : ff.length = m := by
        rw [hl]
        omega
      refine ⟨⟨_, rfl⟩, .ref F, rfl, F, ff.map sS, rfl, .inl (.inl (by rw [← map_sg]; exact hF)), by rw [List.length_map]; omega, fun ys p hys hso np => ?_⟩
      obtain ⟨l, rfl, pl⟩ := perm_signs hys
      have ndA : (ll ++ ff).Nodup := hp.nodup_iff.mpr (by decide)
      have ndf : ff.Nodup := (List.nodup_append.mp ndA).2.1
      have ndl : l.Nodup := pl.nodup_iff.mpr ndf
      refine ⟨_, p, _, rfl, rfl, .inl (.inl (.inl upd_same)), ?_, ?_⟩
      · have e1 : (Str.ofString "").length = 0 := by decide +kernel
        rw [e1, Nat.mul_zero, Nat.add_zero, List.map_map]
        have e2 : ∀ k : List Nat, (k.map ((fun x : Str => x.length) ∘ sS)).sum = k.length := fun k => by
          induction k with
          | nil => rfl
          | cons a k ih =>
            rw [List.map_cons, List.sum_cons, ih, List.length_cons]
            show 1 + k.length = k.length + 1
            omega
        rw [e2, pl.length_eq]
        omega
      · rw [join_signs]
        refine q l n1 _ (kp.new np) ?_ ⟨strict_of (sorted_signs l hso) ndl, fun c hc => ?_⟩ (by rw [pl.length_eq]; exact hm2)
        · rw [upd_ne (ne_of_none hR1 np)]
          exact hR1
        · have hc2 : c ∈ alpha := hp.mem_iff.mp (List.mem_append_right _ (pl.mem_iff.mp hc))
          have : ∀ c ∈ alpha, 97 ≤ c ∧ c ≤ 122 := by decide
          exact this c hc2

/-! ### _law_one -/
def spOne (K : PySem.W.Frag) : Sp := fun vs H Q _ => ∃ (r : Addr) (n : Int) (cols : List Nat), vs = [.ref r, tx cols] ∧ H r = some (.lst [.int n]) ∧ 0 < cols.length ∧ cols.length ≤ 26 ∧ ∀ (one rest : List Nat) (n' : Int) (H' : Hp), Kp r H H' → H' r = some (.lst [.int n']) → (rest ++ one).Perm cols → 0 < one.length → Q (tx one) H'
theorem ok_one (T : Tx K mg Z) : FnOk P w K mg base CX0 2 Z.f_l_one Z.d_l_one ["reel", "columns"] (spOne K) := by
  have G_l_pick : FnOk P w K mg base CX0 1 Z.f_l_pick Z.d_l_pick ["reel", "many"] (spPick K) := ok_pick T
  refine T.F_l_one.ok sc_l_one (fun vs H Q E h => ?_) (fun cdv A outer s H vs Q E hr h => ?_)
  · obtain ⟨r, n, cols, rfl, _⟩ := h
    rfl
  · obtain ⟨r, n, cols, rfl, hR, hc0, hc1, q⟩ := h
    refine ⟨_, (pss_cons (ps_set (i := 2) sc_l_one.nd rfl (.inl rfl) (pe_callTy call_list_txt (by rfl) T.m_list (by decide +kernel) (pa_cons (pv 1) pa_nil)))
      (pss_cons (ps_set (i := 3) sc_l_one.nd rfl (.inl rfl) pe_str)
      (pss_cons (ps_for PassesOwn.never rfl (pi_range1 (by rfl) T.m_range (pa_cons (pe_op op_add pe_int (pe_call G_l_pick (hr.mono (by omega)) (by rfl) T.g_l_pick T.F_l_pick.kp T.b_l_pick .nil pass0 (pa_cons (pv 0) (pa_cons (pe_callB call_len_str (by rfl) T.m_len (by decide +kernel) (pa_cons (pv 1) pa_nil)) pa_nil)))) pa_nil)) (pg_name (i := 4) sc_l_one.nd rfl (.inl rfl)) (pss_one (ps_set (i := 3) sc_l_one.nd rfl (.inl rfl) (pe_op op_add_str (pv 3) (bmK K PySem.F.plainAttrs_list PySem.F.slot_list_pop PySem.F.type_list_pop mt_popAt (pv 2) (pa_cons (pe_call G_l_pick (hr.mono (by omega)) (by rfl) T.g_l_pick T.F_l_pick.kp T.b_l_pick .nil pass0 (pa_cons (pv 0) (pa_cons (pe_callB (cLenSq K) (by rfl) T.m_len (by decide +kernel) (pa_cons (pv 2) pa_nil)) pa_nil))) pa_nil))))))
      (pss_one (ps_ret (pv 3)))))), ?_⟩
    refine ⟨tx cols, rfl, _, rfl, by show cols.length ≤ sizeLine; exact Nat.le_of_lt (small1000 (by omega)), fun L nL => ?_⟩
    have ea : (⟨cols.toArray⟩ : Str).cps.toList = cols := by simp
    rw [ea]
    have nLr : L ≠ r := (ne_of_none hR nL).symm
    have hR1 : (upd H L (.lst (cols.map sg))) r = some (.lst [.int n]) := keep_new hR nL
    have hlc : (⟨cols.toArray⟩ : Str).length = cols.length := by
      show cols.toArray.size = cols.length
      simp
    refine ⟨.ref r, rfl, tx cols, rfl, _, rfl, by rw [hlc]; exact Nat.le_of_lt (small1000 (by omega)), r, n, _, rfl, hR1, by rw [hlc]; omega, by rw [hlc]; omega, fun d n1 d0 d1 => ?_⟩
    rw [hlc] at d1
    refine ⟨1, d, rfl, rfl, _, rfl, by omega, by omega, ?_⟩
    refine for_range (fun i σ H' => ∃ (ll ff : List Nat) (n' : Int) (y : Option V), σ = [some (.ref r), some (tx cols), some (.ref L), some (tx ff), y] ∧ Kp r H H' ∧ H' r = some (.lst [.int n']) ∧ H' L = some (.lst (ll.map sg)) ∧ (ll ++ ff).Perm cols ∧ ff.length = i)
      ⟨cols, [], n1, none, rfl, (Kp.new Kp.rfl' nL).own, upd_same, ?_, by rw [List.append_nil], rfl⟩ (fun i σ H' hi hP => ?_) (fun σ H' hP => ?_)
    · rw [upd_ne nLr, upd_same]
    · obtain ⟨ll, ff, n2, y, rfl, kp, hR2, hL, hp, hl⟩ := hP
      have hlen : ll.length + ff.length = cols.length := by
        have := hp.length_eq
        rw [List.length_append] at this
        exact this
      have hll : 0 < ll.length := by omega
      refine ⟨tx ff, rfl, .ref L, rfl, .inl ⟨rfl, _, .inl (.inl hL)⟩, .ref r, rfl, .ref L, rfl, L, _, rfl, .inl (.inl (.inl hL)), r, n2, _, rfl, hR2, ?_, ?_, fun g n3 g0 g1 => ?_⟩
      · rw [List.length_map]
        omega
      · rw [List.length_map]
        omega
      · rw [List.length_map] at g1
        have hg : g.toNat < ll.length := by omega
        have hL2 : (upd H' r (.lst [.int n3])) L = some (.lst (ll.map sg)) := by
          rw [upd_ne nLr]
          exact hL
        have hy : ll[g.toNat]? = some ll[g.toNat] := List.getElem?_eq_getElem hg
        refine ⟨L, _, g, g.toNat, sg ll[g.toNat], rfl, rfl, hL2, by omega, by omega, PySem.seqIndex_of g0 (by rw [List.length_map]; exact g1), ?_, _, _, rfl, rfl, ?_, ?_⟩
        · rw [List.getElem?_map, hy]
          rfl
        · show ff.length + 1 ≤ sizeLine
          exact Nat.le_of_lt (small1000 (by omega))
        · refine ⟨ll.eraseIdx g.toNat, ff ++ [ll[g.toNat]], n3, some (.int (0 + (i : Nat))), ?_, (Kp.own kp).mut nL, ?_, ?_, (popped hy ff).trans hp, by rw [List.length_append, hl]; rfl⟩
          · have e1 : tx (ff ++ [ll[g.toNat]]) = .str ((⟨ff.toArray⟩ : Str) ++ (⟨[ll[g.toNat]].toArray⟩ : Str)) := by
              rw [app_txt]
            rw [e1]
            rfl
          · rw [upd_ne nLr.symm, upd_same]
          · rw [upd_same, erase_map]
    · obtain ⟨ll, ff, n2, y, rfl, kp, hR2, hL, hp, hl⟩ := hP
      exact ⟨_, rfl, q ff ll n2 _ kp hR2 hp (by omega)⟩

/-! ### is_list -/
def spIsList (K : PySem.W.Frag) (Z : Ad) : Sp := fun vs H Q _ => ∃ (cols : List Nat) (v : V) (d : PyData), vs = [tx cols, v] ∧ TG Z.Ps H ∧ Ft H v d ∧ Sh 20 1000 d ∧ ∀ (H' : Hp), Sx Z.Ps H H' → TG Z.Ps H' → Q (.bl (isListD cols d)) H'
theorem ok_islist (T : Tx K mg Z) (TB : Tb base mg Z) : FnOk P w K mg base CX0 4 Z.f_is_list Z.d_is_list ["columns", "thing"] (spIsList K Z) := by
  refine T.C_is_list.ok sc_is_list (fun vs H Q E h => ?_) (fun A outer s H vs Q E hr h => ?_)
  · obtain ⟨cols, v, d, rfl, _⟩ := h
    rfl
  · obtain ⟨cols, v, d, rfl, tg, f, hsh, q⟩ := h
    refine ⟨_, (pss_cons (ps_if (PW.pt (pw_or (pt_not (pt_val (pe_callB (isiK K) (by rfl) T.m_isinstance (by decide +kernel) (pa_cons (pv 1) (pa_cons (pe_bltn (v := .ty "str") (by rfl) T.m_str (by decide +kernel) rfl) pa_nil))))) (pw_or1 (pt_cmpR op_eq (pv 1) pe_str (nomark _))))) (pss_one (ps_ret pe_bl)) pss_nil)
      (pss_one (ps_ret (pe_and (pe_cmpR op_eq (pe_lenSet (by rfl) (by rfl) T.m_len (by rfl) T.m_set (pv 1)) (pe_callB call_len_str (by rfl) T.m_len (by decide +kernel) (pa_cons (pv 1) pa_nil)) (nomark _)) (pe_one (pe_allC (own := [("letter", 2)]) (k := 0) (hr.mono (by omega)) (by rfl) T.m_all (TB.t_is_list) rfl (gxS_by (blkOk_by (own := [("letter", 2)]) (by kernel_rfl)) (by kernel_rfl)) sc_is_list.nd (by rfl) (pi_str (pv 1)) (fun _ _ _ _ _ _ _ _ => (pg_name (i := 2) sc_is_list.nd rfl (.inl rfl))) (fun _ _ _ _ _ _ _ _ hr => (pe_cmpR op_in_sign (pv 2) (pv 0) (by rfl))))))))), ?_⟩
    have hP : Z.P_is_list ∈ Z.Ps := by simp
    refine ⟨v, rfl, v, .ty "str", _, _, isSt d, rfl, .ty _, ty_ft f, kit_st d, _, rfl, ite2 (fun e => ?_) (fun e => ?_)⟩
    · have hq : isListD cols d = false := by
        cases d with
        | str z => cases e
        | _ => rfl
      rw [hq] at q
      exact iteT (q H (fun _ _ _ h => h) tg)
    · obtain ⟨z, rfl⟩ := st_open (d := d) (by simpa using e)
      cases f
      obtain ⟨l, rfl⟩ : ∃ l : List Nat, z = txS l := ⟨z.cps.toList, (txS_of z).symm⟩
      rw [list_of_str] at q
      have hl : l.length ≤ 1000 := by
        have h1 : l.toArray.size ≤ 1000 := hsh.wt
        simpa using h1
      refine ⟨tx l, rfl, rfl, _, rfl, ite2 (fun e2 => ?_) (fun e2 => ?_)⟩
      · have e3 : tx l = .str (Str.ofString "") := of_decide_eq_true e2
        have e4 : (Str.ofString "") = txS [] := by decide +kernel
        rw [e4] at e3
        have e5 : l = [] := tx_inj e3
        rw [e5] at q
        exact q H (fun _ _ _ h => h) tg
      · have hne : l ≠ [] := fun z2 => e2 (by
          rw [z2]
          exact decide_eq_true (congrArg V.str (by decide +kernel)))
        have he : (!l.isEmpty) = true := by
          cases l with
          | nil => exact absurd rfl hne
          | cons a l => rfl
        have hq : isListL cols l = (decide l.Nodup && l.all fun c => decide (c ∈ cols)) := by
          unfold isListL
          rw [he, Bool.true_and]
        rw [hq] at q
        have hsz : (⟨l.toArray⟩ : Str).length = l.length := by simp [Str.length]
        refine ⟨tx l, rfl, l, rfl, hl, fun n hn1 hn2 => ?_⟩
        refine ⟨tx l, rfl, _, rfl, Nat.le_of_lt (small1000 (show l.length ≤ 1000 from hl)), rfl, _, rfl, ite2 (fun e3 => ?_) (fun e3 => ?_)⟩
        · have e4 : V.int ((n : Nat) : Int) = V.int (((⟨l.toArray⟩ : Str).length : Nat) : Int) := of_decide_eq_true e3
          rw [hsz] at e4
          have e5 : ((n : Nat) : Int) = (l.length : Int) := by injection e4
          have hnd : l.Nodup := hn2.mp (by omega)
          rw [decide_eq_true hnd, Bool.true_and] at q
          refine ⟨tx l, rfl, _, rfl, tg _ hP, fun H2 hT => ?_⟩
          have tg2 := Tabbed.tg tg hT
          have sx2 := Tabbed.sx hP hT
          have hcs : (⟨l.toArray⟩ : Str).cps.size = l.length := by simp
          refine ⟨(⟨l.toArray⟩ : Str).cps.size, fun i => decide (l.getD i 0 ∈ cols), fun i H' => i ≤ (⟨l.toArray⟩ : Str).cps.size ∧ H' = H2, ⟨Nat.zero_le _, rfl⟩, gx_step walk_str (fun _ _ _ _ => trivial) (fun i x H3 H4 hi e hY => ?_), fun H3 e hall => ?_, fun j H3 hj hs hal e => ?_⟩
          · obtain ⟨rfl, c, hc, rfl⟩ := hY
            have hc2 : l[i]? = some c := by simpa using hc
            refine ⟨rfl, sg c, rfl, tx cols, rfl, c, ⟨cols.toArray⟩, rfl, rfl, ?_, hi, e⟩
            simp only [show (⟨cols.toArray⟩ : Str).cps.toList = cols by simp, List.getD_eq_getElem?_getD, hc2]
            rfl
          · obtain ⟨_, rfl⟩ := e
            have hq2 : (l.all fun c => decide (c ∈ cols)) = true := by
              rw [List.all_eq_true]
              intro c hc
              obtain ⟨i, hi, rfl⟩ := List.getElem_of_mem hc
              have := hall i (by rw [hcs]; exact hi)
              simp only [List.getD_eq_getElem?_getD, List.getElem?_eq_getElem hi] at this
              exact this
            rw [hq2] at q
            exact q _ sx2 tg2
          · obtain ⟨_, rfl⟩ := e
            have hj2 : j < l.length := by
              rw [hcs] at hj
              exact hj
            have hq2 : (l.all fun c => decide (c ∈ cols)) = false := by
              refine eq_false_of_ne_true fun z => ?_
              have h1 := List.all_eq_true.mp z l[j] (List.getElem_mem hj2)
              simp only [List.getD_eq_getElem?_getD, List.getElem?_eq_getElem hj2] at hs
              rw [show decide (l[j] ∈ cols) = false from hs] at h1
              cases h1
            rw [hq2] at q
            exact q _ sx2 tg2
        · have hnd : ¬ l.Nodup := fun z => e3 (decide_eq_true (by
            rw [hsz, hn2.mpr z]))
          rw [decide_eq_false hnd, Bool.false_and] at q
          exact q H (fun _ _ _ h => h) tg

/-! ### _law_is_list -/
def spLisList : Sp := fun vs H Q _ => ∃ (cols : List Nat) (v : V) (d : PyData), vs = [tx cols, v] ∧ Ft H v d ∧ Sh 20 1000 d ∧ ∀ (H' : Hp), Same H H' → Q (.bl (isListD cols d)) H'
theorem ok_lislist (T : Tx K mg Z) : FnOk P w K mg base CX0 1 Z.f_l_is_list Z.d_l_is_list ["columns", "thing"] spLisList := by
  refine T.F_l_is_list.ok sc_l_is_list (fun vs H Q E h => ?_) (fun cdv A outer s H vs Q E hr h => ?_)
  · obtain ⟨cols, v, d, rfl, _⟩ := h
    rfl
  · obtain ⟨cols, v, d, rfl, f, hsh, q⟩ := h
    refine ⟨_, (pss_cons (ps_if (PW.pt (pw_or (pt_not (pt_val (pe_callB (isiK K) (by rfl) T.m_isinstance (by decide +kernel) (pa_cons (pv 1) (pa_cons (pe_bltn (v := .ty "str") (by rfl) T.m_str (by decide +kernel) rfl) pa_nil))))) (pw_or1 (pt_cmpR op_eq (pv 1) pe_str (nomark _))))) (pss_one (ps_ret pe_bl)) pss_nil)
      (pss_one (ps_ret (pe_cmpR (eqDK K hr.units) (pe_lc (own := [("at", 2)]) (tt := _) (by rfl) sc_l_is_list.nd (pi_range1 (by rfl) T.m_range (pa_cons (pe_callB call_len_str (by rfl) T.m_len (by decide +kernel) (pa_cons (pv 1) pa_nil)) pa_nil)) (blkOk_by (own := [("at", 2)]) (by kernel_rfl)) (fun _ _ _ _ _ => (pg_name (i := 2) sc_l_is_list.nd rfl (.inl rfl))) (fun _ _ _ _ _ => (pts_one (PW.pt (pw_or (pt_cmpR op_notIn_sign (pe_ix ix_str (pv 1) (pv 2) (fun _ _ => rfl)) (pv 0) (by rfl)) (pw_or1 (pt_cmpR op_in_sign (pe_ix ix_str (pv 1) (pv 2) (fun _ _ => rfl)) (pe_slice sl_str (pv 1) po_none (po_some (pv 2))) (by rfl))))))) (fun _ _ _ _ _ => (pv 2))) (pe_lst pa_nil) (nomark _))))), ?_⟩
    refine ⟨v, rfl, v, .ty "str", _, _, isSt d, rfl, .ty _, ty_ft f, kit_st d, _, rfl, ite2 (fun e => ?_) (fun e => ?_)⟩
    · have hq : isListD cols d = false := by
        cases d with
        | str z => cases e
        | _ => rfl
      rw [hq] at q
      exact iteT (q H (Same.refl H))
    · obtain ⟨z, rfl⟩ := st_open (d := d) (by simpa using e)
      cases f
      obtain ⟨l, rfl⟩ : ∃ l : List Nat, z = txS l := ⟨z.cps.toList, (txS_of z).symm⟩
      rw [list_of_str] at q
      have hl : l.length ≤ 1000 := by
        have h1 : l.toArray.size ≤ 1000 := hsh.wt
        simpa using h1
      have hlz : (⟨l.toArray⟩ : Str).length ≤ sizeLine := Nat.le_of_lt (small1000 (show l.length ≤ 1000 from hl))
      refine ⟨tx l, rfl, rfl, _, rfl, ite2 (fun e2 => ?_) (fun e2 => ?_)⟩
      · have e3 : tx l = .str (Str.ofString "") := of_decide_eq_true e2
        have e4 : (Str.ofString "") = txS [] := by decide +kernel
        rw [e4] at e3
        have e5 : l = [] := tx_inj e3
        rw [e5] at q
        exact q H (Same.refl H)
      · have hne : l ≠ [] := fun z2 => e2 (by
          rw [z2]
          exact decide_eq_true (congrArg V.str (by decide +kernel)))
        have hsz : (⟨l.toArray⟩ : Str).length = l.length := by simp [Str.length]
        refine ⟨tx l, rfl, _, rfl, hlz, _, rfl, by rw [hsz]; omega, by rw [hsz]; omega, fun D nD => ?_⟩
        rw [hsz]
        refine lc_range (fun i H' => Same H H' ∧ H' D = some (.lst ((((List.range i).filter fun i => decide (l.getD i 0 ∉ cols) || decide (l.getD i 0 ∈ l.take i)).map fun i : Nat => (i : Int)).map V.int)))
          ⟨Same.new (Same.refl H) nD, upd_same⟩ (fun i HA hi hP => ?_) (fun HB hP => ?_)
        · obtain ⟨sm, hD⟩ := hP
          have hi2 : i < l.length := by
            have : ((l.length : Nat) : Int).toNat = l.length := by omega
            omega
          have hg : l[i]? = some (l.getD i 0) := by
            rw [List.getD_eq_getElem?_getD, List.getElem?_eq_getElem hi2]
            rfl
          have hat : atI (⟨l.toArray⟩ : Str).cps.toList (0 + (i : Nat) : Int) = some (l.getD i 0) := by
            rw [Int.zero_add, show (⟨l.toArray⟩ : Str).cps.toList = l by simp]
            exact atI_nat hg
          have hlen : ((((List.range i).filter fun i => decide (l.getD i 0 ∉ cols) || decide (l.getD i 0 ∈ l.take i)).map fun i : Nat => (i : Int)).map V.int).length < sizeLine := by
            rw [List.length_map, List.length_map]
            have := List.length_filter_le (fun i => decide (l.getD i 0 ∉ cols) || decide (l.getD i 0 ∈ l.take i)) (List.range i)
            rw [List.length_range] at this
            exact small1000 (by omega)
          have yes : (decide (l.getD i 0 ∉ cols) || decide (l.getD i 0 ∈ l.take i)) = true → Same H (upd HA D (.lst ((((List.range i).filter fun i => decide (l.getD i 0 ∉ cols) || decide (l.getD i 0 ∈ l.take i)).map fun i : Nat => (i : Int)).map V.int ++ [.int (0 + (i : Nat))]))) ∧ (upd HA D (.lst ((((List.range i).filter fun i => decide (l.getD i 0 ∉ cols) || decide (l.getD i 0 ∈ l.take i)).map fun i : Nat => (i : Int)).map V.int ++ [.int (0 + (i : Nat))]))) D = some (.lst ((((List.range (i + 1)).filter fun i => decide (l.getD i 0 ∉ cols) || decide (l.getD i 0 ∈ l.take i)).map fun i : Nat => (i : Int)).map V.int)) := fun hy => by
            refine ⟨Same.mut sm nD, ?_⟩
            rw [upd_same, List.range_succ, List.filter_append, List.filter_cons, if_pos hy, List.filter_nil, List.map_append, List.map_append, Int.zero_add]
            rfl
          refine ⟨rfl, tx l, rfl, .int (0 + (i : Nat)), rfl, _, _, _, rfl, rfl, hlz, hat, tx cols, rfl, l.getD i 0, ⟨cols.toArray⟩, rfl, rfl, _, rfl, ?_⟩
          rw [show (⟨cols.toArray⟩ : Str).cps.toList = cols by simp]
          refine ite2 (fun e3 => ?_) (fun e3 => ?_)
          · refine iteT ⟨.int (0 + (i : Nat)), rfl, _, hD, hlen, yes ?_⟩
            have h3 : l.getD i 0 ∉ cols := by simpa using e3
            rw [decide_eq_true h3, Bool.true_or]
          · have h3 : ¬ l.getD i 0 ∉ cols := by simpa using e3
            refine ⟨tx l, rfl, .int (0 + (i : Nat)), rfl, _, _, _, rfl, rfl, hlz, hat, tx l, rfl, .int (0 + (i : Nat)), rfl, _, rfl, _, rfl, hlz, ?_⟩
            rw [Int.zero_add, cut_take]
            refine ⟨l.getD i 0, ⟨(l.take i).toArray⟩, rfl, rfl, _, rfl, ?_⟩
            rw [show (⟨(l.take i).toArray⟩ : Str).cps.toList = l.take i by simp]
            refine ite2 (fun e4 => ?_) (fun e4 => ?_)
            · have y2 := yes (by rw [e4, Bool.or_true])
              rw [Int.zero_add] at y2
              exact ⟨.int ((i : Nat)), rfl, _, hD, hlen, y2⟩
            · refine ⟨sm, ?_⟩
              rw [hD, List.range_succ, List.filter_append, List.filter_cons, if_neg (by rw [decide_eq_false h3, eq_false_of_ne_true e4]; decide), List.filter_nil, List.append_nil]
        · obtain ⟨sm, hD⟩ := hP
          have hN : ((l.length : Nat) : Int).toNat = l.length := by omega
          rw [hN] at hD
          refine ⟨(by show 0 ≤ sizeLine; decide), fun p np => ?_⟩
          have hp : (upd HB p (.lst [])) p = some (.lst []) := upd_same
          have sm2 : Same H (upd HB p (.lst [])) := Same.new sm np
          have hD2 := keep_new (o := .lst []) hD np
          refine ⟨_, _, .lst (.inl (.inl hD2)) (dp_ints _), .lst (.inl (.inl hp)) .nil, ?_, rfl, ?_⟩
          · exact shaped_ints _
          rw [eqv_ints_nil]
          have hq : isListL cols l = (((List.range l.length).filter fun i => decide (l.getD i 0 ∉ cols) || decide (l.getD i 0 ∈ l.take i)).map fun i : Nat => (i : Int)).isEmpty := by
            rw [Bool.eq_iff_iff, ← list_looked cols l hne, List.isEmpty_iff, List.map_eq_nil_iff]
          rw [← hq]
          exact q _ sm2

/-! ### the law -/
theorem cola (cols : List Nat) (h : cols.length ≤ 100) : (⟨cols.toArray⟩ : Str).length + (Str.ofString "a").length ≤ sizeLine := by
  have e : (⟨cols.toArray⟩ : Str).length = cols.length := by simp [Str.length]
  have e2 : (Str.ofString "a").length = 1 := by decide +kernel
  rw [e, e2]
  exact Nat.le_of_lt (small1000 (by omega))
theorem cola_eq (cols : List Nat) : V.str ((⟨cols.toArray⟩ : Str) ++ Str.ofString "a") = tx (cols ++ [97]) := by
  rw [show Str.ofString "a" = ⟨[97].toArray⟩ by decide +kernel]
  exact cat_tx cols [97]
def spLaw (K : PySem.W.Frag) (Z : Ad) : Sp := fun vs H Q _ => ∃ (a : Addr) (ns : List Int), vs = [.ref a] ∧ SqL K H a (ns.map V.int) ∧ ns.length ≤ 63 ∧ (∀ P ∈ Z.Ps, GxR.TabG H P) ∧ ∀ H', Q (.bl true) H'
set_option maxHeartbeats 16000000 in
theorem ok_law (T : Tx K mg Z) (TB : Tb base mg Z) : FnG P w K mg base 10 Z.f_law Z.d_law ["script"] (spLaw K Z) := by
  have G_l_reel : FnOk P w K mg base CX0 1 Z.f_l_reel Z.d_l_reel ["script", "k"] (spReel K) := ok_reel T
  have G_l_pick : FnOk P w K mg base CX0 1 Z.f_l_pick Z.d_l_pick ["reel", "many"] (spPick K) := ok_pick T
  have G_l_columns : FnOk P w K mg base CX0 2 Z.f_l_columns Z.d_l_columns ["reel", "many"] (spColumns K) := ok_columns T
  have G_l_one : FnOk P w K mg base CX0 2 Z.f_l_one Z.d_l_one ["reel", "columns"] (spOne K) := ok_one T
  have G_is_list : FnOk P w K mg base CX0 4 Z.f_is_list Z.d_is_list ["columns", "thing"] (spIsList K Z) := ok_islist T TB
  have G_l_is_list : FnOk P w K mg base CX0 1 Z.f_l_is_list Z.d_l_is_list ["columns", "thing"] spLisList := ok_lislist T
  refine okG T.F_law sc_law (fun vs H Q E h => ?_) (fun cdv A outer s H vs Q E hgd hr h => ?_)
  · obtain ⟨a, ns, rfl, _⟩ := h
    rfl
  · obtain ⟨a, ns, rfl, hS, hlen, tgA, q⟩ := h
    have tg : TG Z.Ps H := tgA
    refine ⟨_, (pss_cons (ps_for PassesOwn.never rfl (pi_range1 (by rfl) T.m_range (pa_cons (pe_callB (call_max2 rfl) (by rfl) T.m_max (by decide +kernel) (pa_cons pe_int (pa_cons (pe_callB (call_min2 rfl) (by rfl) T.m_min (by decide +kernel) (pa_cons pe_int (pa_cons (pe_callB (cLenSq K) (by rfl) T.m_len (by decide +kernel) (pa_cons (pv 0) pa_nil)) pa_nil))) pa_nil))) pa_nil)) (pg_name (i := 1) sc_law.nd rfl (.inl rfl)) (pss_cons (ps_set (i := 2) sc_law.nd rfl (.inl rfl) (pe_call G_l_reel (hr.mono (by omega)) (by rfl) T.g_l_reel T.F_l_reel.kp T.b_l_reel .nil pass0 (pa_cons (pv 0) (pa_cons (pv 1) pa_nil))))
      (pss_cons (ps_set (i := 3) sc_law.nd rfl (.inl rfl) (pe_call G_l_columns (hr.mono (by omega)) (by rfl) T.g_l_columns T.F_l_columns.kp T.b_l_columns .nil pass0 (pa_cons (pv 2) (pa_cons (pe_op op_add pe_int (pe_call G_l_pick (hr.mono (by omega)) (by rfl) T.g_l_pick T.F_l_pick.kp T.b_l_pick .nil pass0 (pa_cons (pv 2) (pa_cons pe_int pa_nil)))) pa_nil))))
      (pss_cons (ps_set (i := 4) sc_law.nd rfl (.inl rfl) (pe_call G_l_one (hr.mono (by omega)) (by rfl) T.g_l_one T.F_l_one.kp T.b_l_one .nil pass0 (pa_cons (pv 2) (pa_cons (pv 3) pa_nil))))
      (pss_cons (ps_set (i := 5) sc_law.nd rfl (.inl rfl) (pe_call G_l_pick (hr.mono (by omega)) (by rfl) T.g_l_pick T.F_l_pick.kp T.b_l_pick .nil pass0 (pa_cons (pv 2) (pa_cons (pe_callB call_len_str (by rfl) T.m_len (by decide +kernel) (pa_cons (pv 4) pa_nil)) pa_nil))))
      (pss_cons (ps_set (i := 6) sc_law.nd rfl (.inl rfl) (pe_ix ix_str pe_str (pe_call G_l_pick (hr.mono (by omega)) (by rfl) T.g_l_pick T.F_l_pick.kp T.b_l_pick .nil pass0 (pa_cons (pv 2) (pa_cons pe_int pa_nil))) (fun _ _ => rfl)))
      (pss_cons (ps_set (i := 7) sc_law.nd rfl (.inl rfl) (pe_lst (pa_cons (pv 4) (pa_cons (pe_op op_add_str (pv 4) (pe_slice sl_str (pv 4) po_none (po_some pe_int))) (pa_cons (pe_op op_add_str (pe_op op_add_str (pe_slice sl_str (pv 4) po_none (po_some (pv 5))) (pv 6)) (pe_slice sl_str (pv 4) (po_some (pe_op op_add (pv 5) pe_int)) po_none)) (pa_cons (pe_op op_add_str (pv 4) (pv 6)) (pa_cons (pe_op op_add_str (pv 4) (pv 4)) (pa_cons (pe_revS (pv 4)) (pa_cons (pv 3) (pa_cons pe_str pa_nil))))))))))
      (pss_cons (ps_set (i := 7) sc_law.nd rfl (.inl rfl) (pe_op op_cat (pv 7) (pe_lst (pa_cons (pe_callTy call_list_txt (by rfl) T.m_list (by decide +kernel) (pa_cons (pv 4) pa_nil)) (pa_cons (pe_callTy call_tuple_txt (by rfl) T.m_tuple (by decide +kernel) (pa_cons (pv 4) pa_nil)) (pa_cons pe_non (pa_cons pe_bl (pa_cons pe_int (pa_cons (pe_lst (pa_cons (pv 4) pa_nil)) (pa_cons (pe_tup (pa_cons (pv 4) pa_nil)) (pa_cons (pe_upper (pv 4)) (pa_cons (pe_op op_add_str (pv 3) pe_str) pa_nil))))))))))))
      (pss_cons (ps_set (i := 7) sc_law.nd rfl (.inl rfl) (pe_op op_cat (pv 7) (pe_lst (pa_cons (pe_lst (pa_cons pe_str (pa_cons pe_str (pa_cons (pe_lst pa_nil) pa_nil)))) (pa_cons pe_bl (pa_cons (pe_tup (pa_cons (pe_tup pa_nil) pa_nil)) pa_nil))))))
      (pss_one (ps_for PassesOwn.never rfl (piL K (pv 7)) (pg_name (i := 8) sc_law.nd rfl (.inl rfl)) (pss_cons (ps_set (i := 9) sc_law.nd rfl (.inl rfl) (pe_callB (cReprK K hgd hr) (by rfl) T.m_repr (by decide +kernel) (pa_cons (pv 8) pa_nil)))
      (pss_cons (ps_set (i := 10) sc_law.nd rfl (.inl rfl) (pe_call G_is_list (hr.mono (by omega)) (by rfl) T.g_is_list T.F_is_list.kp T.b_is_list .nil pass0 (pa_cons (pv 3) (pa_cons (pv 8) pa_nil))))
      (pss_one (ps_if (PW.pt (pw_or (pt_not (pt_val (pe_callB (isiK K) (by rfl) T.m_isinstance (by decide +kernel) (pa_cons (pv 10) (pa_cons (pe_bltn (v := .ty "bool") (by rfl) T.m_bool (by decide +kernel) rfl) pa_nil))))) (pw_or (pt_cmpR op_ne (pe_callB (cReprK K hgd hr) (by rfl) T.m_repr (by decide +kernel) (pa_cons (pv 8) pa_nil)) (pv 9) (nomark _)) (pw_or1 (pt_cmpR op_ne (pv 10) (pe_call G_l_is_list (hr.mono (by omega)) (by rfl) T.g_l_is_list T.F_l_is_list.kp T.b_l_is_list .nil pass0 (pa_cons (pv 3) (pa_cons (pv 8) pa_nil))) (nomark _)))))) (pss_one (ps_ret pe_bl)) pss_nil)))))))))))))))
      (pss_one (ps_ret pe_bl))), ?_⟩
    refine ⟨.ref a, rfl, a, _, rfl, .inl hS, 12, _, rfl, 3, _, rfl, _, rfl, ?_, ?_, ?_⟩
    · split <;> (try split) <;> omega
    · split <;> (try split) <;> omega
    generalize hN : (if (if ((ns.map V.int).length : Int) < 12 then ((ns.map V.int).length : Int) else 12) > 3 then (if ((ns.map V.int).length : Int) < 12 then ((ns.map V.int).length : Int) else 12) else 3).toNat = N
    have hN8 : N ≤ 12 := by
      rw [← hN]
      split <;> (try split) <;> omega
    refine for_range (fun i σ H' => ∃ y1 y2 y3 y4 y5 y6 y7 y8 y9 y10 : Option V, σ = [some (.ref a), y1, y2, y3, y4, y5, y6, y7, y8, y9, y10] ∧ SqL K H' a (ns.map V.int) ∧ TG Z.Ps H') ⟨none, none, none, none, none, none, none, none, none, none, rfl, hS, tg⟩ (fun i σ H0 hi hP => ?_) (fun σ H0 hP => q H0)
    obtain ⟨y1, y2, y3, y4, y5, y6, y7, y8, y9, y10, rfl, hS0, tg0⟩ := hP
    -- reel
    refine ⟨.ref a, rfl, _, rfl, a, ns, i, by rw [Int.zero_add]; rfl, hS0, by omega, fun n0 r nr => ?_⟩
    have sm1 : Same H0 (upd H0 r (.lst [.int n0])) := Same.new (Same.refl H0) nr
    have hR1 : (upd H0 r (.lst [.int n0])) r = some (.lst [.int n0]) := upd_same
    generalize upd H0 r (.lst [.int n0]) = H1 at sm1 hR1 ⊢
    have kpx : ∀ {G G' : Hp}, Sx Z.Ps H0 G → Kp r G G' → Sx Z.Ps H0 G' := fun s k b o nb h => k b o (ne_of_none h nr) (s b o nb h)
    refine ⟨.ref r, rfl, .ref r, rfl, r, n0, 6, rfl, hR1, by decide, by decide, fun d0 n1 d0_0 d0_1 => ?_⟩
    have sm2 : Same H0 (upd H1 r (.lst [.int n1])) := Same.mut sm1 nr
    have hR2 : (upd H1 r (.lst [.int n1])) r = some (.lst [.int n1]) := upd_same
    generalize upd H1 r (.lst [.int n1]) = H2 at sm2 hR2 ⊢
    refine ⟨1, d0, rfl, rfl, r, n1, (1 + d0).toNat, by rw [Int.toNat_of_nonneg (by omega)]; rfl, hR2, by omega, fun cols n2 H3 kp3 hR3 hc hcl => ?_⟩
    have sm3 : Same H0 H3 := Same.kpN sm2 nr kp3
    have hc1 : 0 < cols.length := by omega
    have hc2 : cols.length ≤ 6 := by omega
    refine ⟨.ref r, rfl, tx cols, rfl, r, n2, cols, rfl, hR3, hc1, by omega, fun one rest n3 H4 kp4 hR4 hperm hone => ?_⟩
    have hook := one_ok hc.nd hperm hone
    have hol : one.length ≤ 6 := by
      have := hook.len
      omega
    have hcc : ∀ c ∈ cols, c < 128 := fun c h => by
      have := (hc.az c h).2
      omega
    have hoc : ∀ c ∈ one, c < 128 := fun c h => hcc c (hook.sub c h)
    have hcc9 : ∀ c ∈ cols, c < 1000 := fun c h => by
      have := hcc c h
      omega
    have hoc9 : ∀ c ∈ one, c < 1000 := fun c h => by
      have := hoc c h
      omega
    have eol : (⟨one.toArray⟩ : Str).length = one.length := by simp [Str.length]
    have hoz : (⟨one.toArray⟩ : Str).length ≤ sizeLine := by
      rw [eol]
      exact Nat.le_of_lt (small1000 (by omega))
    have sm4 : Same H0 H4 := Same.kpN sm3 nr kp4
    refine ⟨.ref r, rfl, tx one, rfl, _, rfl, hoz, r, n3, _, rfl, hR4, by rw [eol]; omega, by rw [eol]; omega, fun m0 n4 m0_0 m0_1 => ?_⟩
    rw [eol] at m0_1
    obtain ⟨m, em⟩ : ∃ m : Nat, m0 = (m : Int) := ⟨m0.toNat, by omega⟩
    subst em
    have sm5 : Same H0 (upd H4 r (.lst [.int n4])) := Same.mut sm4 nr
    have hR5 : (upd H4 r (.lst [.int n4])) r = some (.lst [.int n4]) := upd_same
    generalize upd H4 r (.lst [.int n4]) = H5 at sm5 hR5 ⊢
    refine ⟨.ref r, rfl, r, n4, 31, rfl, hR5, by decide, by decide, fun d5 n5 d5_0 d5_1 => ?_⟩
    obtain ⟨gs, hgs, hgs9⟩ : ∃ gs : Nat, atI (Str.ofString "abcdefghijklmnopqrstuvwxyzAZ 0.").cps.toList d5 = some gs ∧ gs < 1000 := by
      have e31 : (Str.ofString "abcdefghijklmnopqrstuvwxyzAZ 0.").cps.toList = alpha ++ [65, 90, 32, 48, 46] := by decide +kernel
      rw [e31]
      have hd6 : d5.toNat < (alpha ++ [65, 90, 32, 48, 46]).length := by
        show d5.toNat < 31
        omega
      refine ⟨(alpha ++ [65, 90, 32, 48, 46])[d5.toNat], ?_, ?_⟩
      · have e0 := atI_nat (List.getElem?_eq_getElem hd6)
        rw [show ((d5.toNat : Nat) : Int) = d5 by omega] at e0
        exact e0
      · have h6 : ∀ x ∈ alpha ++ [65, 90, 32, 48, 46], x < 1000 := by decide
        exact h6 _ (List.getElem_mem hd6)
    have sm6 : Same H0 (upd H5 r (.lst [.int n5])) := Same.mut sm5 nr
    have hR6 : (upd H5 r (.lst [.int n5])) r = some (.lst [.int n5]) := upd_same
    generalize upd H5 r (.lst [.int n5]) = H6 at sm6 hR6 ⊢
    have tg6 : TG Z.Ps H6 := tg0.same sm6
    refine ⟨_, _, _, rfl, rfl, (by decide +kernel), hgs, ?_⟩
    have hl6 : ∀ b ∈ (r :: Z.Ps), H6 b ≠ none := held_all hR6 tg6
    have hrL : r ∈ (r :: Z.Ps) := by simp
    have hPs : ∀ b ∈ Z.Ps, b ∈ (r :: Z.Ps) := fun b h => List.mem_cons_of_mem _ h
    have lz : ∀ l : List Nat, l.length ≤ 100 → (⟨l.toArray⟩ : Str).length ≤ sizeLine := fun l h => by
      have e : (⟨l.toArray⟩ : Str).length = l.length := by simp [Str.length]
      rw [e]
      exact Nat.le_of_lt (small1000 (by omega))
    have lz2 : ∀ l k : List Nat, l.length + k.length ≤ 100 → (⟨l.toArray⟩ : Str).length + (⟨k.toArray⟩ : Str).length ≤ sizeLine := fun l k h => by
      have e : (⟨l.toArray⟩ : Str).length = l.length := by simp [Str.length]
      have e2 : (⟨k.toArray⟩ : Str).length = k.length := by simp [Str.length]
      rw [e, e2]
      exact Nat.le_of_lt (small1000 (by omega))
    have htk : ∀ k, (one.take k).length ≤ 6 := fun k => Nat.le_trans (List.length_take_le' k one) hol
    have hdk : ∀ k, (one.drop k).length ≤ 6 := fun k => by
      rw [List.length_drop]
      omega
    -- the first eight
    refine ⟨tx one, rfl, tx one, rfl, tx one, rfl, 1, rfl, _, rfl, hoz, ?_⟩
    rw [show (1 : Int) = ((1 : Nat) : Int) from rfl, cut_take]
    refine ⟨⟨one.toArray⟩, ⟨(one.take 1).toArray⟩, rfl, rfl, lz2 _ _ (by have := htk 1; omega), tx one, rfl, .int m, rfl, _, rfl, _, rfl, hoz, ?_⟩
    rw [cut_take]
    refine ⟨sg gs, rfl, ⟨(one.take m).toArray⟩, ⟨[gs].toArray⟩, rfl, rfl, lz2 _ _ (by have := htk m; show (one.take m).length + 1 ≤ 100; omega), ?_⟩
    rw [cat_tx one (one.take 1), cat_tx (one.take m) [gs]]
    refine ⟨tx one, rfl, .int m, rfl, _, 1, rfl, rfl, _, rfl, _, rfl, hoz, ?_⟩
    rw [show ((m : Nat) : Int) + 1 = ((m + 1 : Nat) : Int) from rfl, cut_from one (m + 1)]
    refine ⟨⟨(one.take m ++ [gs]).toArray⟩, ⟨(one.drop (m + 1)).toArray⟩, rfl, rfl, lz2 _ _ (by rw [List.length_append]; have := htk m; have := hdk (m + 1); show (one.take m).length + 1 + _ ≤ 100; omega), ?_⟩
    rw [cat_tx (one.take m ++ [gs]) (one.drop (m + 1))]
    refine ⟨tx one, rfl, sg gs, rfl, ⟨one.toArray⟩, ⟨[gs].toArray⟩, rfl, rfl, lz2 _ _ (by show one.length + 1 ≤ 100; omega), ?_⟩
    rw [cat_tx one [gs]]
    refine ⟨tx one, rfl, tx one, rfl, ⟨one.toArray⟩, ⟨one.toArray⟩, rfl, rfl, lz2 _ _ (by omega), ?_⟩
    rw [cat_tx one one]
    refine ⟨tx one, rfl, one, rfl, hoz, ?_⟩
    refine ⟨tx cols, rfl, (by show 8 ≤ sizeLine; decide), fun pG1 npG1 => ?_⟩
    have nLpG1 : pG1 ∉ (r :: Z.Ps) := fun z => hl6 pG1 z npG1
    have ksG1 : Kp r H6 (upd H6 pG1 (.lst [tx one, tx (one ++ one.take 1), tx (one.take m ++ [gs] ++ one.drop (m + 1)), tx (one ++ [gs]), tx (one ++ one), tx one.reverse, tx cols, .str (Str.ofString "")])) := Kp.new Kp.rfl' npG1
    have hRG1 : (upd H6 pG1 (.lst [tx one, tx (one ++ one.take 1), tx (one.take m ++ [gs] ++ one.drop (m + 1)), tx (one ++ [gs]), tx (one ++ one), tx one.reverse, tx cols, .str (Str.ofString "")])) r = some (.lst [.int n5]) := keep_new hR6 npG1
    have hlG1 : ∀ b ∈ (r :: Z.Ps), (upd H6 pG1 (.lst [tx one, tx (one ++ one.take 1), tx (one.take m ++ [gs] ++ one.drop (m + 1)), tx (one ++ [gs]), tx (one ++ one), tx one.reverse, tx cols, .str (Str.ofString "")])) b ≠ none := new_all hl6
    have hopG1 : (upd H6 pG1 (.lst [tx one, tx (one ++ one.take 1), tx (one.take m ++ [gs] ++ one.drop (m + 1)), tx (one ++ [gs]), tx (one ++ one), tx one.reverse, tx cols, .str (Str.ofString "")])) pG1 = some (.lst [tx one, tx (one ++ one.take 1), tx (one.take m ++ [gs] ++ one.drop (m + 1)), tx (one ++ [gs]), tx (one ++ one), tx one.reverse, tx cols, .str (Str.ofString "")]) := upd_same
    generalize upd H6 pG1 (.lst [tx one, tx (one ++ one.take 1), tx (one.take m ++ [gs] ++ one.drop (m + 1)), tx (one ++ [gs]), tx (one ++ one), tx one.reverse, tx cols, .str (Str.ofString "")]) = G1 at ksG1 hRG1 hlG1 hopG1 ⊢
    refine ⟨.ref pG1, rfl, tx one, rfl, _, rfl, hoz, fun pG2 npG2 => ?_⟩
    rw [show (⟨one.toArray⟩ : Str).cps.toList = one by simp]
    have nLpG2 : pG2 ∉ (r :: Z.Ps) := fun z => hlG1 pG2 z npG2
    have ksG2 : Kp r G1 (upd G1 pG2 (.lst (one.map sg))) := Kp.new Kp.rfl' npG2
    have hRG2 : (upd G1 pG2 (.lst (one.map sg))) r = some (.lst [.int n5]) := keep_new hRG1 npG2
    have hlG2 : ∀ b ∈ (r :: Z.Ps), (upd G1 pG2 (.lst (one.map sg))) b ≠ none := new_all hlG1
    have hopG2 : (upd G1 pG2 (.lst (one.map sg))) pG2 = some (.lst (one.map sg)) := upd_same
    generalize upd G1 pG2 (.lst (one.map sg)) = G2 at ksG2 hRG2 hlG2 hopG2 ⊢
    have tpG2 : Th (r :: Z.Ps) G2 1 240 (.ref pG2) := (Th.lst nLpG2 hopG2 (n := 0) (m := 1) (fun v hv => by obtain ⟨c, hc, rfl⟩ := List.mem_map.mp hv; exact Th.tx (l := [c]) (all1 (hoc9 c hc)) (Nat.le_refl 1))).mono (by decide) (by rw [List.length_map]; omega)
    refine ⟨tx one, rfl, _, rfl, hoz, fun pG3 npG3 => ?_⟩
    rw [show (⟨one.toArray⟩ : Str).cps.toList = one by simp]
    have nLpG3 : pG3 ∉ (r :: Z.Ps) := fun z => hlG2 pG3 z npG3
    have ksG3 : Kp r G2 (upd G2 pG3 (.tup (one.map sg))) := Kp.new Kp.rfl' npG3
    have hRG3 : (upd G2 pG3 (.tup (one.map sg))) r = some (.lst [.int n5]) := keep_new hRG2 npG3
    have hlG3 : ∀ b ∈ (r :: Z.Ps), (upd G2 pG3 (.tup (one.map sg))) b ≠ none := new_all hlG2
    have hopG3 : (upd G2 pG3 (.tup (one.map sg))) pG3 = some (.tup (one.map sg)) := upd_same
    generalize upd G2 pG3 (.tup (one.map sg)) = G3 at ksG3 hRG3 hlG3 hopG3 ⊢
    have tpG3 : Th (r :: Z.Ps) G3 1 240 (.ref pG3) := (Th.tup nLpG3 hopG3 (n := 0) (m := 1) (fun v hv => by obtain ⟨c, hc, rfl⟩ := List.mem_map.mp hv; exact Th.tx (l := [c]) (all1 (hoc9 c hc)) (Nat.le_refl 1))).mono (by decide) (by rw [List.length_map]; omega)
    refine ⟨tx one, rfl, (by show 1 ≤ sizeLine; decide), fun pG4 npG4 => ?_⟩
    have nLpG4 : pG4 ∉ (r :: Z.Ps) := fun z => hlG3 pG4 z npG4
    have ksG4 : Kp r G3 (upd G3 pG4 (.lst [tx one])) := Kp.new Kp.rfl' npG4
    have hRG4 : (upd G3 pG4 (.lst [tx one])) r = some (.lst [.int n5]) := keep_new hRG3 npG4
    have hlG4 : ∀ b ∈ (r :: Z.Ps), (upd G3 pG4 (.lst [tx one])) b ≠ none := new_all hlG3
    have hopG4 : (upd G3 pG4 (.lst [tx one])) pG4 = some (.lst [tx one]) := upd_same
    generalize upd G3 pG4 (.lst [tx one]) = G4 at ksG4 hRG4 hlG4 hopG4 ⊢
    have tpG4 : Th (r :: Z.Ps) G4 3 1000 (.ref pG4) := (Th.lst nLpG4 hopG4 (n := 1) (m := 240) (allC (Th.tx hoc9 (by omega)) all0)).mono (by decide) (Nat.le_of_ble_eq_true rfl)
    refine ⟨tx one, rfl, (by show 1 ≤ sizeLine; decide), fun pG5 npG5 => ?_⟩
    have nLpG5 : pG5 ∉ (r :: Z.Ps) := fun z => hlG4 pG5 z npG5
    have ksG5 : Kp r G4 (upd G4 pG5 (.tup [tx one])) := Kp.new Kp.rfl' npG5
    have hRG5 : (upd G4 pG5 (.tup [tx one])) r = some (.lst [.int n5]) := keep_new hRG4 npG5
    have hlG5 : ∀ b ∈ (r :: Z.Ps), (upd G4 pG5 (.tup [tx one])) b ≠ none := new_all hlG4
    have hopG5 : (upd G4 pG5 (.tup [tx one])) pG5 = some (.tup [tx one]) := upd_same
    generalize upd G4 pG5 (.tup [tx one]) = G5 at ksG5 hRG5 hlG5 hopG5 ⊢
    have tpG5 : Th (r :: Z.Ps) G5 3 1000 (.ref pG5) := (Th.tup nLpG5 hopG5 (n := 1) (m := 240) (allC (Th.tx hoc9 (by omega)) all0)).mono (by decide) (Nat.le_of_ble_eq_true rfl)
    refine ⟨tx one, rfl, ⟨_, rfl⟩, ⟨one.toArray⟩, rfl, rfl, (by rw [eol]; omega), ?_⟩
    rw [upper_tx hoc]
    refine ⟨tx cols, rfl, ⟨cols.toArray⟩, Str.ofString "a", rfl, rfl, cola cols (by omega), ?_⟩
    rw [cola_eq cols]
    refine ⟨(by show 9 ≤ sizeLine; decide), fun pG6 npG6 => ?_⟩
    have nLpG6 : pG6 ∉ (r :: Z.Ps) := fun z => hlG5 pG6 z npG6
    have ksG6 : Kp r G5 (upd G5 pG6 (.lst [.ref pG2, .ref pG3, .non, .bl true, .int 7, .ref pG4, .ref pG5, tx (one.map up1), tx (cols ++ [97])])) := Kp.new Kp.rfl' npG6
    have hRG6 : (upd G5 pG6 (.lst [.ref pG2, .ref pG3, .non, .bl true, .int 7, .ref pG4, .ref pG5, tx (one.map up1), tx (cols ++ [97])])) r = some (.lst [.int n5]) := keep_new hRG5 npG6
    have hlG6 : ∀ b ∈ (r :: Z.Ps), (upd G5 pG6 (.lst [.ref pG2, .ref pG3, .non, .bl true, .int 7, .ref pG4, .ref pG5, tx (one.map up1), tx (cols ++ [97])])) b ≠ none := new_all hlG5
    have hopG6 : (upd G5 pG6 (.lst [.ref pG2, .ref pG3, .non, .bl true, .int 7, .ref pG4, .ref pG5, tx (one.map up1), tx (cols ++ [97])])) pG6 = some (.lst [.ref pG2, .ref pG3, .non, .bl true, .int 7, .ref pG4, .ref pG5, tx (one.map up1), tx (cols ++ [97])]) := upd_same
    generalize upd G5 pG6 (.lst [.ref pG2, .ref pG3, .non, .bl true, .int 7, .ref pG4, .ref pG5, tx (one.map up1), tx (cols ++ [97])]) = G6 at ksG6 hRG6 hlG6 hopG6 ⊢
    refine ⟨pG1, pG6, [tx one, tx (one ++ one.take 1), tx (one.take m ++ [gs] ++ one.drop (m + 1)), tx (one ++ [gs]), tx (one ++ one), tx one.reverse, tx cols, .str (Str.ofString "")], [.ref pG2, .ref pG3, .non, .bl true, .int 7, .ref pG4, .ref pG5, tx (one.map up1), tx (cols ++ [97])], rfl, rfl, (((((ksG2).trans ksG3).trans ksG4).trans ksG5).trans ksG6) _ _ (ne_in nLpG1 hrL) hopG1, hopG6, (by show 17 ≤ sizeLine; decide), fun pG7 npG7 => ?_⟩
    have nLpG7 : pG7 ∉ (r :: Z.Ps) := fun z => hlG6 pG7 z npG7
    have ksG7 : Kp r G6 (upd G6 pG7 (.lst ([tx one, tx (one ++ one.take 1), tx (one.take m ++ [gs] ++ one.drop (m + 1)), tx (one ++ [gs]), tx (one ++ one), tx one.reverse, tx cols, .str (Str.ofString "")] ++ [.ref pG2, .ref pG3, .non, .bl true, .int 7, .ref pG4, .ref pG5, tx (one.map up1), tx (cols ++ [97])]))) := Kp.new Kp.rfl' npG7
    have hRG7 : (upd G6 pG7 (.lst ([tx one, tx (one ++ one.take 1), tx (one.take m ++ [gs] ++ one.drop (m + 1)), tx (one ++ [gs]), tx (one ++ one), tx one.reverse, tx cols, .str (Str.ofString "")] ++ [.ref pG2, .ref pG3, .non, .bl true, .int 7, .ref pG4, .ref pG5, tx (one.map up1), tx (cols ++ [97])]))) r = some (.lst [.int n5]) := keep_new hRG6 npG7
    have hlG7 : ∀ b ∈ (r :: Z.Ps), (upd G6 pG7 (.lst ([tx one, tx (one ++ one.take 1), tx (one.take m ++ [gs] ++ one.drop (m + 1)), tx (one ++ [gs]), tx (one ++ one), tx one.reverse, tx cols, .str (Str.ofString "")] ++ [.ref pG2, .ref pG3, .non, .bl true, .int 7, .ref pG4, .ref pG5, tx (one.map up1), tx (cols ++ [97])]))) b ≠ none := new_all hlG6
    have hopG7 : (upd G6 pG7 (.lst ([tx one, tx (one ++ one.take 1), tx (one.take m ++ [gs] ++ one.drop (m + 1)), tx (one ++ [gs]), tx (one ++ one), tx one.reverse, tx cols, .str (Str.ofString "")] ++ [.ref pG2, .ref pG3, .non, .bl true, .int 7, .ref pG4, .ref pG5, tx (one.map up1), tx (cols ++ [97])]))) pG7 = some (.lst [tx one, tx (one ++ one.take 1), tx (one.take m ++ [gs] ++ one.drop (m + 1)), tx (one ++ [gs]), tx (one ++ one), tx one.reverse, tx cols, .str (Str.ofString ""), .ref pG2, .ref pG3, .non, .bl true, .int 7, .ref pG4, .ref pG5, tx (one.map up1), tx (cols ++ [97])]) := upd_same
    generalize upd G6 pG7 (.lst ([tx one, tx (one ++ one.take 1), tx (one.take m ++ [gs] ++ one.drop (m + 1)), tx (one ++ [gs]), tx (one ++ one), tx one.reverse, tx cols, .str (Str.ofString "")] ++ [.ref pG2, .ref pG3, .non, .bl true, .int 7, .ref pG4, .ref pG5, tx (one.map up1), tx (cols ++ [97])])) = G7 at ksG7 hRG7 hlG7 hopG7 ⊢
    refine ⟨.ref pG7, rfl, (by show 0 ≤ sizeLine; decide), fun pG8 npG8 => ?_⟩
    have nLpG8 : pG8 ∉ (r :: Z.Ps) := fun z => hlG7 pG8 z npG8
    have ksG8 : Kp r G7 (upd G7 pG8 (.lst [])) := Kp.new Kp.rfl' npG8
    have hRG8 : (upd G7 pG8 (.lst [])) r = some (.lst [.int n5]) := keep_new hRG7 npG8
    have hlG8 : ∀ b ∈ (r :: Z.Ps), (upd G7 pG8 (.lst [])) b ≠ none := new_all hlG7
    have hopG8 : (upd G7 pG8 (.lst [])) pG8 = some (.lst []) := upd_same
    generalize upd G7 pG8 (.lst []) = G8 at ksG8 hRG8 hlG8 hopG8 ⊢
    have tpG8 : Th (r :: Z.Ps) G8 1 240 (.ref pG8) := (Th.lst nLpG8 hopG8 (n := 0) (m := 0) all0).mono (by decide) (Nat.le_of_ble_eq_true rfl)
    refine ⟨(by show 3 ≤ sizeLine; decide), fun pG9 npG9 => ?_⟩
    have nLpG9 : pG9 ∉ (r :: Z.Ps) := fun z => hlG8 pG9 z npG9
    have ksG9 : Kp r G8 (upd G8 pG9 (.lst [.str (Str.ofString "b"), .str (Str.ofString "a"), .ref pG8])) := Kp.new Kp.rfl' npG9
    have hRG9 : (upd G8 pG9 (.lst [.str (Str.ofString "b"), .str (Str.ofString "a"), .ref pG8])) r = some (.lst [.int n5]) := keep_new hRG8 npG9
    have hlG9 : ∀ b ∈ (r :: Z.Ps), (upd G8 pG9 (.lst [.str (Str.ofString "b"), .str (Str.ofString "a"), .ref pG8])) b ≠ none := new_all hlG8
    have hopG9 : (upd G8 pG9 (.lst [.str (Str.ofString "b"), .str (Str.ofString "a"), .ref pG8])) pG9 = some (.lst [.str (Str.ofString "b"), .str (Str.ofString "a"), .ref pG8]) := upd_same
    generalize upd G8 pG9 (.lst [.str (Str.ofString "b"), .str (Str.ofString "a"), .ref pG8]) = G9 at ksG9 hRG9 hlG9 hopG9 ⊢
    have tpG9 : Th (r :: Z.Ps) G9 3 1000 (.ref pG9) := (Th.lst nLpG9 hopG9 (n := 1) (m := 240) (allC (Th.tx (l := [98]) (by decide) (by decide)) (allC (Th.tx (l := [97]) (by decide) (by decide)) (allC ((tpG8.kp (ksG9) hrL)) all0)))).mono (by decide) (Nat.le_of_ble_eq_true rfl)
    refine ⟨(by show 0 ≤ sizeLine; decide), fun pG10 npG10 => ?_⟩
    have nLpG10 : pG10 ∉ (r :: Z.Ps) := fun z => hlG9 pG10 z npG10
    have ksG10 : Kp r G9 (upd G9 pG10 (.tup [])) := Kp.new Kp.rfl' npG10
    have hRG10 : (upd G9 pG10 (.tup [])) r = some (.lst [.int n5]) := keep_new hRG9 npG10
    have hlG10 : ∀ b ∈ (r :: Z.Ps), (upd G9 pG10 (.tup [])) b ≠ none := new_all hlG9
    have hopG10 : (upd G9 pG10 (.tup [])) pG10 = some (.tup []) := upd_same
    generalize upd G9 pG10 (.tup []) = G10 at ksG10 hRG10 hlG10 hopG10 ⊢
    have tpG10 : Th (r :: Z.Ps) G10 1 240 (.ref pG10) := (Th.tup nLpG10 hopG10 (n := 0) (m := 0) all0).mono (by decide) (Nat.le_of_ble_eq_true rfl)
    refine ⟨(by show 1 ≤ sizeLine; decide), fun pG11 npG11 => ?_⟩
    have nLpG11 : pG11 ∉ (r :: Z.Ps) := fun z => hlG10 pG11 z npG11
    have ksG11 : Kp r G10 (upd G10 pG11 (.tup [.ref pG10])) := Kp.new Kp.rfl' npG11
    have hRG11 : (upd G10 pG11 (.tup [.ref pG10])) r = some (.lst [.int n5]) := keep_new hRG10 npG11
    have hlG11 : ∀ b ∈ (r :: Z.Ps), (upd G10 pG11 (.tup [.ref pG10])) b ≠ none := new_all hlG10
    have hopG11 : (upd G10 pG11 (.tup [.ref pG10])) pG11 = some (.tup [.ref pG10]) := upd_same
    generalize upd G10 pG11 (.tup [.ref pG10]) = G11 at ksG11 hRG11 hlG11 hopG11 ⊢
    have tpG11 : Th (r :: Z.Ps) G11 3 1000 (.ref pG11) := (Th.tup nLpG11 hopG11 (n := 1) (m := 240) (allC ((tpG10.kp (ksG11) hrL)) all0)).mono (by decide) (Nat.le_of_ble_eq_true rfl)
    refine ⟨(by show 3 ≤ sizeLine; decide), fun pG12 npG12 => ?_⟩
    have nLpG12 : pG12 ∉ (r :: Z.Ps) := fun z => hlG11 pG12 z npG12
    have ksG12 : Kp r G11 (upd G11 pG12 (.lst [.ref pG9, .bl false, .ref pG11])) := Kp.new Kp.rfl' npG12
    have hRG12 : (upd G11 pG12 (.lst [.ref pG9, .bl false, .ref pG11])) r = some (.lst [.int n5]) := keep_new hRG11 npG12
    have hlG12 : ∀ b ∈ (r :: Z.Ps), (upd G11 pG12 (.lst [.ref pG9, .bl false, .ref pG11])) b ≠ none := new_all hlG11
    have hopG12 : (upd G11 pG12 (.lst [.ref pG9, .bl false, .ref pG11])) pG12 = some (.lst [.ref pG9, .bl false, .ref pG11]) := upd_same
    generalize upd G11 pG12 (.lst [.ref pG9, .bl false, .ref pG11]) = G12 at ksG12 hRG12 hlG12 hopG12 ⊢
    refine ⟨pG7, pG12, [tx one, tx (one ++ one.take 1), tx (one.take m ++ [gs] ++ one.drop (m + 1)), tx (one ++ [gs]), tx (one ++ one), tx one.reverse, tx cols, .str (Str.ofString ""), .ref pG2, .ref pG3, .non, .bl true, .int 7, .ref pG4, .ref pG5, tx (one.map up1), tx (cols ++ [97])], [.ref pG9, .bl false, .ref pG11], rfl, rfl, (((((ksG8).trans ksG9).trans ksG10).trans ksG11).trans ksG12) _ _ (ne_in nLpG7 hrL) hopG7, hopG12, (by show 20 ≤ sizeLine; decide), fun pG13 npG13 => ?_⟩
    have nLpG13 : pG13 ∉ (r :: Z.Ps) := fun z => hlG12 pG13 z npG13
    have ksG13 : Kp r G12 (upd G12 pG13 (.lst ([tx one, tx (one ++ one.take 1), tx (one.take m ++ [gs] ++ one.drop (m + 1)), tx (one ++ [gs]), tx (one ++ one), tx one.reverse, tx cols, .str (Str.ofString ""), .ref pG2, .ref pG3, .non, .bl true, .int 7, .ref pG4, .ref pG5, tx (one.map up1), tx (cols ++ [97])] ++ [.ref pG9, .bl false, .ref pG11]))) := Kp.new Kp.rfl' npG13
    have hRG13 : (upd G12 pG13 (.lst ([tx one, tx (one ++ one.take 1), tx (one.take m ++ [gs] ++ one.drop (m + 1)), tx (one ++ [gs]), tx (one ++ one), tx one.reverse, tx cols, .str (Str.ofString ""), .ref pG2, .ref pG3, .non, .bl true, .int 7, .ref pG4, .ref pG5, tx (one.map up1), tx (cols ++ [97])] ++ [.ref pG9, .bl false, .ref pG11]))) r = some (.lst [.int n5]) := keep_new hRG12 npG13
    have hlG13 : ∀ b ∈ (r :: Z.Ps), (upd G12 pG13 (.lst ([tx one, tx (one ++ one.take 1), tx (one.take m ++ [gs] ++ one.drop (m + 1)), tx (one ++ [gs]), tx (one ++ one), tx one.reverse, tx cols, .str (Str.ofString ""), .ref pG2, .ref pG3, .non, .bl true, .int 7, .ref pG4, .ref pG5, tx (one.map up1), tx (cols ++ [97])] ++ [.ref pG9, .bl false, .ref pG11]))) b ≠ none := new_all hlG12
    have hopG13 : (upd G12 pG13 (.lst ([tx one, tx (one ++ one.take 1), tx (one.take m ++ [gs] ++ one.drop (m + 1)), tx (one ++ [gs]), tx (one ++ one), tx one.reverse, tx cols, .str (Str.ofString ""), .ref pG2, .ref pG3, .non, .bl true, .int 7, .ref pG4, .ref pG5, tx (one.map up1), tx (cols ++ [97])] ++ [.ref pG9, .bl false, .ref pG11]))) pG13 = some (.lst [tx one, tx (one ++ one.take 1), tx (one.take m ++ [gs] ++ one.drop (m + 1)), tx (one ++ [gs]), tx (one ++ one), tx one.reverse, tx cols, .str (Str.ofString ""), .ref pG2, .ref pG3, .non, .bl true, .int 7, .ref pG4, .ref pG5, tx (one.map up1), tx (cols ++ [97]), .ref pG9, .bl false, .ref pG11]) := upd_same
    generalize upd G12 pG13 (.lst ([tx one, tx (one ++ one.take 1), tx (one.take m ++ [gs] ++ one.drop (m + 1)), tx (one ++ [gs]), tx (one ++ one), tx one.reverse, tx cols, .str (Str.ofString ""), .ref pG2, .ref pG3, .non, .bl true, .int 7, .ref pG4, .ref pG5, tx (one.map up1), tx (cols ++ [97])] ++ [.ref pG9, .bl false, .ref pG11])) = G13 at ksG13 hRG13 hlG13 hopG13 ⊢
    have thT : ∀ v ∈ [tx one, tx (one ++ one.take 1), tx (one.take m ++ [gs] ++ one.drop (m + 1)), tx (one ++ [gs]), tx (one ++ one), tx one.reverse, tx cols, .str (Str.ofString ""), .ref pG2, .ref pG3, .non, .bl true, .int 7, .ref pG4, .ref pG5, tx (one.map up1), tx (cols ++ [97]), .ref pG9, .bl false, .ref pG11], Th (r :: Z.Ps) G13 3 1000 v := (allC ((Th.tx hoc9 (by omega) : Th (r :: Z.Ps) G13 1 240 _).mono (by decide) (by decide)) (allC ((Th.tx (allApp hoc9 fun c h => hoc9 c (List.mem_of_mem_take h)) (by rw [List.length_append]; have := htk 1; omega) : Th (r :: Z.Ps) G13 1 240 _).mono (by decide) (by decide)) (allC ((Th.tx (allApp (allApp (fun c h => hoc9 c (List.mem_of_mem_take h)) (all1 hgs9)) fun c h => hoc9 c (List.mem_of_mem_drop h)) (by rw [List.length_append, List.length_append]; have h1 := htk m; have h2 := hdk (m + 1); show (one.take m).length + 1 + _ ≤ 240; omega) : Th (r :: Z.Ps) G13 1 240 _).mono (by decide) (by decide)) (allC ((Th.tx (allApp hoc9 (all1 hgs9)) (by rw [List.length_append]; show one.length + 1 ≤ 240; omega) : Th (r :: Z.Ps) G13 1 240 _).mono (by decide) (by decide)) (allC ((Th.tx (allApp hoc9 hoc9) (by rw [List.length_append]; omega) : Th (r :: Z.Ps) G13 1 240 _).mono (by decide) (by decide)) (allC ((Th.tx (fun c h => hoc9 c (List.mem_reverse.mp h)) (by rw [List.length_reverse]; omega) : Th (r :: Z.Ps) G13 1 240 _).mono (by decide) (by decide)) (allC ((Th.tx hcc9 (by omega) : Th (r :: Z.Ps) G13 1 240 _).mono (by decide) (by decide)) (allC ((Th.tx (l := []) (by decide) (by decide) : Th (r :: Z.Ps) G13 1 240 _).mono (by decide) (by decide)) (allC (((tpG2.kp (((((((((((ksG3).trans ksG4).trans ksG5).trans ksG6).trans ksG7).trans ksG8).trans ksG9).trans ksG10).trans ksG11).trans ksG12).trans ksG13) hrL)).mono (by decide) (by decide)) (allC (((tpG3.kp ((((((((((ksG4).trans ksG5).trans ksG6).trans ksG7).trans ksG8).trans ksG9).trans ksG10).trans ksG11).trans ksG12).trans ksG13) hrL)).mono (by decide) (by decide)) (allC (Th.non) (allC (Th.bl true) (allC (Th.int (by decide) (by decide)) (allC (((tpG4.kp (((((((((ksG5).trans ksG6).trans ksG7).trans ksG8).trans ksG9).trans ksG10).trans ksG11).trans ksG12).trans ksG13) hrL)).mono (by decide) (by decide)) (allC (((tpG5.kp ((((((((ksG6).trans ksG7).trans ksG8).trans ksG9).trans ksG10).trans ksG11).trans ksG12).trans ksG13) hrL)).mono (by decide) (by decide)) (allC (Th.tx (fun c h => by obtain ⟨x, hx, rfl⟩ := List.mem_map.mp h; exact up1_small x (hoc x hx)) (by rw [List.length_map]; omega)) (allC (Th.tx (allApp hcc9 (by decide)) (by rw [List.length_append]; show cols.length + 1 ≤ 1000; omega)) (allC ((tpG9.kp ((((ksG10).trans ksG11).trans ksG12).trans ksG13) hrL)) (allC (Th.bl false) (allC ((tpG11.kp ((ksG12).trans ksG13) hrL)) all0))))))))))))))))))))
    have sx7 : Sx Z.Ps H0 G13 := kpx (Same.sx sm6) (((((((((((((ksG1).trans ksG2).trans ksG3).trans ksG4).trans ksG5).trans ksG6).trans ksG7).trans ksG8).trans ksG9).trans ksG10).trans ksG11).trans ksG12).trans ksG13)
    have tg7 : TG Z.Ps G13 := tg6.kp hR6 (((((((((((((ksG1).trans ksG2).trans ksG3).trans ksG4).trans ksG5).trans ksG6).trans ksG7).trans ksG8).trans ksG9).trans ksG10).trans ksG11).trans ksG12).trans ksG13)
    have hpp := hopG13
    generalize [tx one, tx (one ++ one.take 1), tx (one.take m ++ [gs] ++ one.drop (m + 1)), tx (one ++ [gs]), tx (one ++ one), tx one.reverse, tx cols, .str (Str.ofString ""), .ref pG2, .ref pG3, .non, .bl true, .int 7, .ref pG4, .ref pG5, tx (one.map up1), tx (cols ++ [97]), .ref pG9, .bl false, .ref pG11] = ts at thT hpp
    refine ⟨.ref pG13, rfl, pG13, rfl, ⟨_, .inl (.inl hpp)⟩, for_it (walk_list (xs := ts)) (fun j σ H' => (∃ y8 y9 y10 : Option V, σ = [some (.ref a), some (.int (0 + (i : Nat))), some (.ref r), some (tx cols), some (tx one), some (.int m), some (sg gs), some (.ref pG13), y8, y9, y10]) ∧ Sx Z.Ps G13 H' ∧ TG Z.Ps H')
      ⟨⟨_, _, _, rfl⟩, fun _ _ _ h => h, tg7⟩ (fun j σ H' _ hP => .inl (.inl (hP.2.1.lst tg7 hpp))) (fun j x σ H8 H9 hj hP hY => ?_) (fun σ H8 hP => ?_)⟩
    · obtain ⟨⟨y8, y9, y10, rfl⟩, sx8, tg8⟩ := hP
      obtain ⟨rfl, hx⟩ := hY
      obtain ⟨d, f, sh, wdx⟩ := thT x (List.mem_of_getElem? hx)
      have sh1 : Sh 20 1000 d := sh.mono (by decide) (by decide)
      have sh2 : Sh 20 100000 d := sh.mono (by decide) (by decide)
      have f8 := f.sx sx8 hPs
      refine ⟨x, rfl, x, d, rfl, Ft.dp _ _ f8.to, sh2, ?_⟩
      refine ⟨tx cols, rfl, x, rfl, cols, x, d, rfl, tg8, f8.to, sh1, fun HB sxB tgB => ?_⟩
      have fB := f8.sx sxB hPs
      refine ⟨.bl (isListD cols d), rfl, .bl (isListD cols d), .ty "bool", _, _, true, rfl, .ty _, ty_ft (d := .bool (isListD cols d)) (.bl _), kit_bl (.bool (isListD cols d)), _, rfl, iteF ?_⟩
      refine ⟨x, rfl, x, d, rfl, Ft.dp _ _ fB.to, sh2, .str d.shown, rfl, rfl, _, rfl, iteNS rfl ?_⟩
      refine ⟨.bl (isListD cols d), rfl, tx cols, rfl, x, rfl, cols, x, d, rfl, fB.to, sh1, fun HC smC => ?_⟩
      refine ⟨rfl, _, rfl, iteNS rfl ?_⟩
      exact ⟨⟨_, _, _, rfl⟩, (sx8.trans sxB).trans (Same.sx smC), tgB.same smC⟩
    obtain ⟨⟨y8, y9, y10, rfl⟩, sx8, tg8⟩ := hP
    exact ⟨_, _, _, _, _, _, _, _, _, _, rfl, (sx7.trans sx8).seqL tg0 hS0, tg8⟩

end
theorem all_mk {l : PySem.W.OpenLaw} {q : Program} {w : World} {K : PySem.W.Frag} {h : Heap} {mg : Str → Option Value} {fa : Addr} (X : K.In h) (G : h.Ns mainGlobals mg) (hfa : mg "law" = some (.ref fa))
    (own : ∀ (nm : Str) (fb : Addr), ((recsOf q).any fun e => e.name == nm) = true → mg nm = some (.ref fb) → OwnTC K fb h)
    {oc0 kv0 dc0 pm0 ct0 : Value} {od0 an0 : Option Addr} {sl0 : Array (Option Value)} {f0 : Addr}
    {c0 P0 : Addr} {ec0 : Value} {ed0 : Option Addr} {ev0 : Array Value} {es0 : Array (Option Value)}
    {oc1 kv1 dc1 pm1 cd1 ct1 : Value} {od1 an1 : Option Addr} {sl1 : Array (Option Value)} {f1 : Addr}
    {oc2 kv2 dc2 pm2 cd2 ct2 : Value} {od2 an2 : Option Addr} {sl2 : Array (Option Value)} {f2 : Addr}
    {oc3 kv3 dc3 pm3 cd3 ct3 : Value} {od3 an3 : Option Addr} {sl3 : Array (Option Value)} {f3 : Addr}
    {oc4 kv4 dc4 pm4 cd4 ct4 : Value} {od4 an4 : Option Addr} {sl4 : Array (Option Value)} {f4 : Addr}
    {oc5 kv5 dc5 pm5 cd5 ct5 : Value} {od5 an5 : Option Addr} {sl5 : Array (Option Value)} {f5 : Addr}
    {oc6 kv6 dc6 pm6 cd6 ct6 : Value} {od6 an6 : Option Addr} {sl6 : Array (Option Value)} {f6 : Addr}
    (a0 : PySem.W.nsIn K mainGlobals "is_list" = some (some (.ref f0)))
    (l0 : K.lookup f0 = some ⟨oc0, od0, .func (PySem.W.fnOf "is_list" "is_list" (defArgs s_is_list) (defBody s_is_list) (defScope s_is_list) .none kv0 dc0 pm0 an0 (.ref c0) ct0), sl0⟩)
    (c0_ : PySem.W.codeIn K (.ref c0) "is_list" = true) (k0 : PySem.W.keepIn K (.ref f0) = true)
    (lc0 : K.lookup c0 = some ⟨ec0, ed0, .fields ev0, es0⟩) (vc0 : ev0[11]? = some (.ref P0)) (np0 : K.lookup P0 = none) (rc0 : ((recsOf q).any fun e => e.name == "is_list") = true)
    (a1 : PySem.W.nsIn K mainGlobals "_law_reel" = some (some (.ref f1)))
    (l1 : K.lookup f1 = some ⟨oc1, od1, .func (PySem.W.fnOf "_law_reel" "_law_reel" (defArgs s_l_reel) (defBody s_l_reel) (defScope s_l_reel) .none kv1 dc1 pm1 an1 cd1 ct1), sl1⟩)
    (c1_ : PySem.W.codeIn K cd1 "_law_reel" = true) (k1 : PySem.W.keepIn K (.ref f1) = true)
    (a2 : PySem.W.nsIn K mainGlobals "_law_pick" = some (some (.ref f2)))
    (l2 : K.lookup f2 = some ⟨oc2, od2, .func (PySem.W.fnOf "_law_pick" "_law_pick" (defArgs s_l_pick) (defBody s_l_pick) (defScope s_l_pick) .none kv2 dc2 pm2 an2 cd2 ct2), sl2⟩)
    (c2_ : PySem.W.codeIn K cd2 "_law_pick" = true) (k2 : PySem.W.keepIn K (.ref f2) = true)
    (a3 : PySem.W.nsIn K mainGlobals "_law_columns" = some (some (.ref f3)))
    (l3 : K.lookup f3 = some ⟨oc3, od3, .func (PySem.W.fnOf "_law_columns" "_law_columns" (defArgs s_l_columns) (defBody s_l_columns) (defScope s_l_columns) .none kv3 dc3 pm3 an3 cd3 ct3), sl3⟩)
    (c3_ : PySem.W.codeIn K cd3 "_law_columns" = true) (k3 : PySem.W.keepIn K (.ref f3) = true)
    (a4 : PySem.W.nsIn K mainGlobals "_law_one" = some (some (.ref f4)))
    (l4 : K.lookup f4 = some ⟨oc4, od4, .func (PySem.W.fnOf "_law_one" "_law_one" (defArgs s_l_one) (defBody s_l_one) (defScope s_l_one) .none kv4 dc4 pm4 an4 cd4 ct4), sl4⟩)
    (c4_ : PySem.W.codeIn K cd4 "_law_one" = true) (k4 : PySem.W.keepIn K (.ref f4) = true)
    (a5 : PySem.W.nsIn K mainGlobals "_law_is_list" = some (some (.ref f5)))
    (l5 : K.lookup f5 = some ⟨oc5, od5, .func (PySem.W.fnOf "_law_is_list" "_law_is_list" (defArgs s_l_is_list) (defBody s_l_is_list) (defScope s_l_is_list) .none kv5 dc5 pm5 an5 cd5 ct5), sl5⟩)
    (c5_ : PySem.W.codeIn K cd5 "_law_is_list" = true) (k5 : PySem.W.keepIn K (.ref f5) = true)
    (a6 : PySem.W.nsIn K mainGlobals "law" = some (some (.ref f6)))
    (l6 : K.lookup f6 = some ⟨oc6, od6, .func (PySem.W.fnOf "law" "law" (defArgs s_law) (defBody s_law) (defScope s_law) .none kv6 dc6 pm6 an6 cd6 ct6), sl6⟩)
    (c6_ : PySem.W.codeIn K cd6 "law" = true) (k6 : PySem.W.keepIn K (.ref f6) = true)
    (z0 : PySem.W.nsIn K mainGlobals "len" = some none)
    (z1 : PySem.W.nsIn K mainGlobals "range" = some none)
    (z2 : PySem.W.nsIn K mainGlobals "list" = some none)
    (z3 : PySem.W.nsIn K mainGlobals "sorted" = some none)
    (z4 : PySem.W.nsIn K mainGlobals "tuple" = some none)
    (z5 : PySem.W.nsIn K mainGlobals "min" = some none)
    (z6 : PySem.W.nsIn K mainGlobals "max" = some none)
    (z7 : PySem.W.nsIn K mainGlobals "isinstance" = some none)
    (z8 : PySem.W.nsIn K mainGlobals "all" = some none)
    (z9 : PySem.W.nsIn K mainGlobals "bool" = some none)
    (z10 : PySem.W.nsIn K mainGlobals "str" = some none)
    (z11 : PySem.W.nsIn K mainGlobals "set" = some none)
    (z12 : PySem.W.nsIn K mainGlobals "repr" = some none)
    : LawAtG l w K 10 63 "script" mg fa h := by
  have e := hfa.symm.trans (PySem.W.mg_of X G a6)
  cases e
  have F0 := fun_mk (st := s_is_list) l0 c0_ k0
  have b0 := F0.binds (ps := ["columns", "thing"]) fun _ _ _ _ _ _ us hl => match us, hl with | [_, _], _ => rfl
  have o0 := own "is_list" _ rc0 (PySem.W.mg_of X G a0) c0 P0 _ _ _ _ _ _ l0 rfl rfl lc0 vc0
  have F1 := fun_mk (st := s_l_reel) l1 c1_ k1
  have b1 := F1.binds (ps := ["script", "k"]) fun _ _ _ _ _ _ us hl => match us, hl with | [_, _], _ => rfl
  have F2 := fun_mk (st := s_l_pick) l2 c2_ k2
  have b2 := F2.binds (ps := ["reel", "many"]) fun _ _ _ _ _ _ us hl => match us, hl with | [_, _], _ => rfl
  have F3 := fun_mk (st := s_l_columns) l3 c3_ k3
  have b3 := F3.binds (ps := ["reel", "many"]) fun _ _ _ _ _ _ us hl => match us, hl with | [_, _], _ => rfl
  have F4 := fun_mk (st := s_l_one) l4 c4_ k4
  have b4 := F4.binds (ps := ["reel", "columns"]) fun _ _ _ _ _ _ us hl => match us, hl with | [_, _], _ => rfl
  have F5 := fun_mk (st := s_l_is_list) l5 c5_ k5
  have b5 := F5.binds (ps := ["columns", "thing"]) fun _ _ _ _ _ _ us hl => match us, hl with | [_, _], _ => rfl
  have F6 := fun_mk (st := s_law) l6 c6_ k6
  have b6 := F6.binds (ps := ["script"]) fun _ _ _ _ _ _ us hl => match us, hl with | [_], _ => rfl
  let Z : Ad := ⟨f0, PySem.W.fnOf "is_list" "is_list" (defArgs s_is_list) (defBody s_is_list) (defScope s_is_list) .none kv0 dc0 pm0 an0 (.ref c0) ct0, c0, P0, f1, PySem.W.fnOf "_law_reel" "_law_reel" (defArgs s_l_reel) (defBody s_l_reel) (defScope s_l_reel) .none kv1 dc1 pm1 an1 cd1 ct1, f2, PySem.W.fnOf "_law_pick" "_law_pick" (defArgs s_l_pick) (defBody s_l_pick) (defScope s_l_pick) .none kv2 dc2 pm2 an2 cd2 ct2, f3, PySem.W.fnOf "_law_columns" "_law_columns" (defArgs s_l_columns) (defBody s_l_columns) (defScope s_l_columns) .none kv3 dc3 pm3 an3 cd3 ct3, f4, PySem.W.fnOf "_law_one" "_law_one" (defArgs s_l_one) (defBody s_l_one) (defScope s_l_one) .none kv4 dc4 pm4 an4 cd4 ct4, f5, PySem.W.fnOf "_law_is_list" "_law_is_list" (defArgs s_l_is_list) (defBody s_l_is_list) (defScope s_l_is_list) .none kv5 dc5 pm5 an5 cd5 ct5, fa, PySem.W.fnOf "law" "law" (defArgs s_law) (defBody s_law) (defScope s_law) .none kv6 dc6 pm6 an6 cd6 ct6⟩
  have T : Tx K mg Z := ⟨F0, ⟨_, _, _, _, _, _, _, _, rfl, l0, c0_⟩, b0, PySem.W.mg_of X G a0, F1, b1, PySem.W.mg_of X G a1, F2, b2, PySem.W.mg_of X G a2, F3, b3, PySem.W.mg_of X G a3, F4, b4, PySem.W.mg_of X G a4, F5, b5, PySem.W.mg_of X G a5, F6, b6, PySem.W.mg_of X G a6, PySem.W.mg_none_of X G z0, PySem.W.mg_none_of X G z1, PySem.W.mg_none_of X G z2, PySem.W.mg_none_of X G z3, PySem.W.mg_none_of X G z4, PySem.W.mg_none_of X G z5, PySem.W.mg_none_of X G z6, PySem.W.mg_none_of X G z7, PySem.W.mg_none_of X G z8, PySem.W.mg_none_of X G z9, PySem.W.mg_none_of X G z10, PySem.W.mg_none_of X G z11, PySem.W.mg_none_of X G z12⟩
  have each : ∀ {R : Addr × Addr → Prop}, R (c0, P0) → ∀ p ∈ [(c0, P0)], R p := fun h0 p hp => by
    simp only [List.mem_cons, List.not_mem_nil, or_false] at hp
    rw [hp]
    exact h0
  refine ⟨Z.d_law, [(c0, P0)], spLaw K Z, each o0.1, each np0, each o0.2, fun s v => .of_eq rfl, fun H a ns hl _ hT hS => ?_, fun base _ _ hTB => ?_⟩
  · refine ⟨a, ns, rfl, hS, hl, fun P hP => ?_, fun _ => rfl⟩
    obtain ⟨p, hp, rfl⟩ : ∃ p ∈ [((c0, P0) : Addr × Addr)], p.2 = P := by
      have hP2 : P ∈ [((c0, P0) : Addr × Addr).2] := hP
      exact List.mem_map.mp (show P ∈ List.map (fun p : Addr × Addr => p.2) [(c0, P0)] from hP2)
    exact ⟨#[], hT p hp, trivial⟩
  · exact ok_law T ⟨hTB (c0, P0) (by simp)⟩
end My
open PySem PySem.W PyProof.Rows
set_option maxHeartbeats 0 in
theorem PySem.Challenge.cw_stretchkeep_k02_what_is_a_list_holds : PySem.Challenge.rw_stretchkeep_k02_what_is_a_list.Holds := by
  w_on; o_law; k_head; (case hw => w_witness2)
  k_fill
  refine My.walk_ofG (l := PySem.Challenge.rw_stretchkeep_k02_what_is_a_list) (n := 63) (k := 10) (x := "script") rfl (by decide) rfl ⟨rfl, by decide, by decide⟩ (fun w h Y => PySem.W.kIn_of Y) ?F
  case F =>
    intro w mg fa h Y KX G hmg own
    refine' My.all_mk KX G hmg own ?a0 ?l0 ?c0_ ?k0 ?lc0 ?vc0 ?np0 ?rc0 ?a1 ?l1 ?c1_ ?k1 ?a2 ?l2 ?c2_ ?k2 ?a3 ?l3 ?c3_ ?k3 ?a4 ?l4 ?c4_ ?k4 ?a5 ?l5 ?c5_ ?k5 ?a6 ?l6 ?c6_ ?k6 ?z0 ?z1 ?z2 ?z3 ?z4 ?z5 ?z6 ?z7 ?z8 ?z9 ?z10 ?z11 ?z12
    (case a0 => k_is)
    (case l0 => k_is)
    (case c0_ => k_is)
    (case k0 => k_is)
    (case lc0 => k_is)
    (case vc0 => rfl)
    (case np0 => first | rfl | kernel_rfl)
    (case rc0 => decide +kernel)
    (case a1 => k_is)
    (case l1 => k_is)
    (case c1_ => k_is)
    (case k1 => k_is)
    (case a2 => k_is)
    (case l2 => k_is)
    (case c2_ => k_is)
    (case k2 => k_is)
    (case a3 => k_is)
    (case l3 => k_is)
    (case c3_ => k_is)
    (case k3 => k_is)
    (case a4 => k_is)
    (case l4 => k_is)
    (case c4_ => k_is)
    (case k4 => k_is)
    (case a5 => k_is)
    (case l5 => k_is)
    (case c5_ => k_is)
    (case k5 => k_is)
    (case a6 => k_is)
    (case l6 => k_is)
    (case c6_ => k_is)
    (case k6 => k_is)
    (case z0 => k_is)
    (case z1 => k_is)
    (case z2 => k_is)
    (case z3 => k_is)
    (case z4 => k_is)
    (case z5 => k_is)
    (case z6 => k_is)
    (case z7 => k_is)
    (case z8 => k_is)
    (case z9 => k_is)
    (case z10 => k_is)
    (case z11 => k_is)
    (case z12 => k_is)

