import PyProof.Rows.All
import Wide.All
import OpenK.AllK
import Wide.FinOn
import HandS.ForMost
import HandS.Wide
import HandS.Walk
import HandS.IsInst
import HandS.TupAny
import HandS.StrMore
import HandS.Replace
import HandS.Style
import HandS.Evl
import HandS.ForExc
import HandS.ExcInit
import HandS.ExcField
import HandS.ExcIs
import KE.KExcIs
import HandS.HotCalls
import HandS.ExcInitHot
import KE.KxField
import HandS.FStr
import HandS.Iter
import PyProof.Rows.ChunkEnd
import HandS.Star
import HandS.Strs
import HandS.WideBits
import HandS.OwnEq
import HandS.OwnIter
import HandS.IterVal
import OpenK.KMeth
import OpenK.KOps
import HandS.SetFor
import PySem.Challenge.RW_romwright_k64_whole_torn_forms
set_option Elab.async false
set_option linter.all false
set_option maxRecDepth 100000
set_option maxHeartbeats 4000000
namespace RK
open PySem PySem.Spec PyProof.Rows L2
/-! ### heaps -/
/-- all but what stands at p is as it was -/
def But (p : Addr) (H H' : Hp) : Prop := ∀ b o, b ≠ p → H b = some o → H' b = some o
theorem But.refl (p : Addr) (H : Hp) : But p H H := fun _ _ _ h => h
theorem But.upd {p : Addr} {H H' : Hp} {o : HO} (h : But p H H') : But p H (upd H' p o) := fun b u n e => by
  rw [upd_ne n]
  exact h b u n e
theorem But.trans {p : Addr} {H H1 H2 : Hp} (a : But p H H1) (b : But p H1 H2) : But p H H2 := fun c o n h => b c o n (a c o n h)
theorem but_new {p D : Addr} {H H' : Hp} {o : HO} (h : But p H H') (n : H D = none) : But p H (upd H' D o) := fun b u nb e => by
  rw [upd_ne (ne_of_none e n)]
  exact h b u nb e
theorem But.of {p : Addr} {H H' : Hp} (h : Same H H') : But p H H' := fun b o _ e => h b o e
theorem same_new {H : Hp} {p : Addr} {o : HO} (h : H p = none) : Same H (upd H p o) := fun b x e => by
  rw [upd_ne (ne_of_none e h)]
  exact e
theorem sqT_up {K : PySem.W.Frag} {H H' : Hp} {a : Addr} {xs : List V} (h : SqT K H a xs) (e : Same H H') : SqT K H' a xs := by
  rcases h with (h | ⟨o, h⟩) | h
  · exact .inl (.inl (e _ _ h))
  · exact .inl (.inr ⟨o, e _ _ h⟩)
  · exact .inr h
theorem sqL_up {K : PySem.W.Frag} {H H' : Hp} {a : Addr} {xs : List V} (h : SqL K H a xs) (e : Same H H') : SqL K H' a xs := e.seq h
/-- a new object that H did not know changes -/
theorem same_mut {H H' : Hp} {p : Addr} {o : HO} (e : Same H H') (h : H p = none) : Same H (upd H' p o) := fun a u ha => by
  rw [upd_ne (ne_of_none ha h)]
  exact e a u ha
/-- the heap without p -/
def hid (H : Hp) (p : Addr) : Hp := fun b => if b = p then none else H b
theorem hid_same {H : Hp} {p : Addr} : Same (hid H p) H := fun b o e => by
  unfold hid at e
  split at e
  · cases e
  · exact e
theorem hid_at {H : Hp} {p b : Addr} {o : HO} (h : H b = some o) (n : b ≠ p) : hid H p b = some o := by
  unfold hid
  rw [if_neg n]
  exact h
theorem hid_but {H H' : Hp} {p : Addr} (h : But p H H') : Same (hid H p) (hid H' p) := fun b o e => by
  unfold hid at e ⊢
  split at e
  · cases e
  · rename_i n
    rw [if_neg n]
    exact h b o n e
mutual
theorem dpUp {K : PySem.W.Frag} {H H' : Hp} (e : Same H H') : ∀ {v : V} {d : PyData}, Dp K H v d → Dp K H' v d
  | _, _, .non => .non
  | _, _, .bl b => .bl b
  | _, _, .int i => .int i
  | _, _, .str x => .str x
  | _, _, .lst h t => .lst (sqL_up h e) (dpAllUp e t)
  | _, _, .tup h t => .tup (sqT_up h e) (dpAllUp e t)
theorem dpAllUp {K : PySem.W.Frag} {H H' : Hp} (e : Same H H') : ∀ {vs : List V} {ds : List PyData}, DpAll K H vs ds → DpAll K H' vs ds
  | _, _, .nil => .nil
  | _, _, .cons h t => .cons (dpUp e h) (dpAllUp e t)
end
/-! ### data of any depth, none of whose changeable objects lies in S -/
abbrev ASet := Addr → Prop
def noS : ASet := fun _ => False
def inS (S : ASet) (a : Addr) : ASet := fun b => S b ∨ b = a
/-- at a: a list | a tuple that is not in S -/
def XL (K : PySem.W.Frag) (H : Hp) (S : ASet) (a : Addr) (xs : List V) : Prop := (¬ S a ∧ Rd H a (.lst xs)) ∨ SqL K (fun _ => none) a xs
def XT (K : PySem.W.Frag) (H : Hp) (S : ASet) (a : Addr) (xs : List V) : Prop := (¬ S a ∧ Rd H a (.tup xs)) ∨ SqT K (fun _ => none) a xs
/-- what stood outside of S stands -/
def Out (S : ASet) (H H' : Hp) : Prop := ∀ b o, ¬ S b → H b = some o → H' b = some o
theorem Out.of {S : ASet} {H H' : Hp} (h : Same H H') : Out S H H' := fun b o _ e => h b o e
theorem Out.refl (S : ASet) (H : Hp) : Out S H H := fun _ _ _ h => h
theorem Out.trans {S : ASet} {H H1 H2 : Hp} (a : Out S H H1) (b : Out S H1 H2) : Out S H H2 := fun c o n h => b c o n (a c o n h)
theorem Out.mono {S S' : ASet} {H H' : Hp} (h : Out S H H') (k : ∀ a, S a → S' a) : Out S' H H' := fun b o n e => h b o (fun z => n (k b z)) e
theorem Out.put {S : ASet} {H H' : Hp} {a : Addr} {o : HO} (h : Out S H H') (ha : S a) : Out S H (upd H' a o) := fun b u n e => by
  rw [upd_ne fun z => n (by rw [z]; exact ha)]
  exact h b u n e
section
variable {K : PySem.W.Frag} {H H' : Hp} {S S' : ASet} {v x : V} {a p : Addr} {xs : List V} {d : PyData} {ds : List PyData}
theorem XL.sq (h : XL K H S a xs) : SqL K H a xs := by
  rcases h with ⟨_, h⟩ | (h | ⟨_, h⟩) | h
  · exact .inl h
  · cases h
  · cases h
  · exact .inr h
theorem XT.sq (h : XT K H S a xs) : SqT K H a xs := by
  rcases h with ⟨_, h⟩ | (h | ⟨_, h⟩) | h
  · exact .inl h
  · cases h
  · cases h
  · exact .inr h
theorem XL.of (h : H a = some (.lst xs)) (n : ¬ S a) : XL K H S a xs := .inl ⟨n, .inl h⟩
theorem XT.of (h : H a = some (.tup xs)) (n : ¬ S a) : XT K H S a xs := .inl ⟨n, .inl h⟩
theorem XL.up (h : XL K H S a xs) (e : Out S H H') : XL K H' S a xs := by
  rcases h with ⟨n, h | ⟨o, h⟩⟩ | h
  · exact .inl ⟨n, .inl (e _ _ n h)⟩
  · exact .inl ⟨n, .inr ⟨o, e _ _ n h⟩⟩
  · exact .inr h
theorem XT.up (h : XT K H S a xs) (e : Out S H H') : XT K H' S a xs := by
  rcases h with ⟨n, h | ⟨o, h⟩⟩ | h
  · exact .inl ⟨n, .inl (e _ _ n h)⟩
  · exact .inl ⟨n, .inr ⟨o, e _ _ n h⟩⟩
  · exact .inr h
/-- a further address that is not in the heap is kept out -/
theorem XL.add (h : XL K H S a xs) (hp : H p = none) : XL K H (inS S p) a xs := by
  rcases h with ⟨n, h⟩ | h
  · refine .inl ⟨fun z => ?_, h⟩
    rcases z with z | z
    · exact n z
    · subst z
      rcases h with h | ⟨o, h⟩ <;> rw [hp] at h <;> cases h
  · exact .inr h
theorem XT.add (h : XT K H S a xs) (hp : H p = none) : XT K H (inS S p) a xs := by
  rcases h with ⟨n, h⟩ | h
  · refine .inl ⟨fun z => ?_, h⟩
    rcases z with z | z
    · exact n z
    · subst z
      rcases h with h | ⟨o, h⟩ <;> rw [hp] at h <;> cases h
  · exact .inr h
theorem XL.less (h : XL K H S a xs) (k : ∀ a, S' a → S a) : XL K H S' a xs := by
  rcases h with ⟨n, h⟩ | h
  · exact .inl ⟨fun z => n (k _ z), h⟩
  · exact .inr h
theorem XT.less (h : XT K H S a xs) (k : ∀ a, S' a → S a) : XT K H S' a xs := by
  rcases h with ⟨n, h⟩ | h
  · exact .inl ⟨fun z => n (k _ z), h⟩
  · exact .inr h
mutual
inductive Dx (K : PySem.W.Frag) (H : Hp) (S : ASet) : V → PyData → Prop
  | non : Dx K H S .non .none
  | bl (b : Bool) : Dx K H S (.bl b) (.bool b)
  | int (i : Int) : Dx K H S (.int i) (.int i)
  | str (x : Str) : Dx K H S (.str x) (.str x)
  | lst {a : Addr} {xs : List V} {ds : List PyData} : XL K H S a xs → DxAll K H S xs ds → Dx K H S (.ref a) (.list ds)
  | tup {a : Addr} {xs : List V} {ds : List PyData} : XT K H S a xs → DxAll K H S xs ds → Dx K H S (.ref a) (.tuple ds)
inductive DxAll (K : PySem.W.Frag) (H : Hp) (S : ASet) : List V → List PyData → Prop
  | nil : DxAll K H S [] []
  | cons {v : V} {vs : List V} {d : PyData} {ds : List PyData} : Dx K H S v d → DxAll K H S vs ds → DxAll K H S (v :: vs) (d :: ds)
end
mutual
theorem Dx.up (e : Out S H H') : ∀ {v : V} {d : PyData}, Dx K H S v d → Dx K H' S v d
  | _, _, .non => .non
  | _, _, .bl b => .bl b
  | _, _, .int i => .int i
  | _, _, .str x => .str x
  | _, _, .lst h t => .lst (h.up e) (DxAll.up e t)
  | _, _, .tup h t => .tup (h.up e) (DxAll.up e t)
theorem DxAll.up (e : Out S H H') : ∀ {vs : List V} {ds : List PyData}, DxAll K H S vs ds → DxAll K H' S vs ds
  | _, _, .nil => .nil
  | _, _, .cons h t => .cons (Dx.up e h) (DxAll.up e t)
end
mutual
theorem Dx.add (hp : H p = none) : ∀ {v : V} {d : PyData}, Dx K H S v d → Dx K H (inS S p) v d
  | _, _, .non => .non
  | _, _, .bl b => .bl b
  | _, _, .int i => .int i
  | _, _, .str x => .str x
  | _, _, .lst h t => .lst (h.add hp) (DxAll.add hp t)
  | _, _, .tup h t => .tup (h.add hp) (DxAll.add hp t)
theorem DxAll.add (hp : H p = none) : ∀ {vs : List V} {ds : List PyData}, DxAll K H S vs ds → DxAll K H (inS S p) vs ds
  | _, _, .nil => .nil
  | _, _, .cons h t => .cons (Dx.add hp h) (DxAll.add hp t)
end
mutual
theorem Dx.less (k : ∀ a, S' a → S a) : ∀ {v : V} {d : PyData}, Dx K H S v d → Dx K H S' v d
  | _, _, .non => .non
  | _, _, .bl b => .bl b
  | _, _, .int i => .int i
  | _, _, .str x => .str x
  | _, _, .lst h t => .lst (h.less k) (DxAll.less k t)
  | _, _, .tup h t => .tup (h.less k) (DxAll.less k t)
theorem DxAll.less (k : ∀ a, S' a → S a) : ∀ {vs : List V} {ds : List PyData}, DxAll K H S vs ds → DxAll K H S' vs ds
  | _, _, .nil => .nil
  | _, _, .cons h t => .cons (Dx.less k h) (DxAll.less k t)
end
mutual
theorem Dx.dp : ∀ {v : V} {d : PyData}, Dx K H S v d → Dp K H v d
  | _, _, .non => .non
  | _, _, .bl b => .bl b
  | _, _, .int i => .int i
  | _, _, .str x => .str x
  | _, _, .lst h t => .lst h.sq (DxAll.dp t)
  | _, _, .tup h t => .tup h.sq (DxAll.dp t)
theorem DxAll.dp : ∀ {vs : List V} {ds : List PyData}, DxAll K H S vs ds → DpAll K H vs ds
  | _, _, .nil => .nil
  | _, _, .cons h t => .cons (Dx.dp h) (DxAll.dp t)
end
theorem dxAll_get : ∀ {vs : List V} {ds : List PyData} {i : Nat} {x : V}, DxAll K H S vs ds → vs[i]? = some x → ∃ d, ds[i]? = some d ∧ Dx K H S x d
  | _, _, _, _, .nil, e => by simp at e
  | _, _, 0, _, .cons h _, e => by
    simp at e
    subst e
    exact ⟨_, rfl, h⟩
  | _, _, i + 1, x, .cons _ t, e => by
    obtain ⟨d, h1, h2⟩ := dxAll_get (i := i) (x := x) t (by simpa using e)
    exact ⟨d, by simpa using h1, h2⟩
theorem Dx.of_get {vs : List V} {ds : List PyData} {i : Nat} (h : DxAll K H S vs ds) (e : vs[i]? = some x) (e2 : ds[i]? = some d) : Dx K H S x d := by
  obtain ⟨d', h1, h2⟩ := dxAll_get h e
  rw [e2] at h1
  rw [Option.some.inj h1]
  exact h2
theorem dxAll_len : ∀ {vs : List V} {ds : List PyData}, DxAll K H S vs ds → vs.length = ds.length
  | _, _, .nil => rfl
  | _, _, .cons _ t => by
    rw [List.length_cons, List.length_cons, dxAll_len t]
theorem dxAll_app : ∀ {vs ws : List V} {ds es : List PyData}, DxAll K H S vs ds → DxAll K H S ws es → DxAll K H S (vs ++ ws) (ds ++ es)
  | _, _, _, _, .nil, h => h
  | _, _, _, _, .cons a t, h => .cons a (dxAll_app t h)
theorem dxAll_ints : ∀ ns : List Int, DxAll K H S (ns.map V.int) (ns.map PyData.int)
  | [] => .nil
  | n :: r => .cons (.int n) (dxAll_ints r)
theorem dxAll_strs : ∀ ns : List Str, DxAll K H S (ns.map V.str) (ns.map PyData.str)
  | [] => .nil
  | n :: r => .cons (.str n) (dxAll_strs r)
theorem dxAll_ints_inv : ∀ {vs : List V} {ns : List Int}, DxAll K H S vs (ns.map PyData.int) → vs = ns.map V.int
  | _, [], .nil => rfl
  | _, n :: r, .cons h t => by
    cases h
    rw [dxAll_ints_inv t]
    rfl
end
section
variable {K : PySem.W.Frag} {H H' : Hp} {v x : V} {a p : Addr} {xs : List V} {d : PyData} {ds : List PyData}
/-! ### isinstance -/
def tn : PyData → String
  | .none => "NoneType"
  | .bool _ => "bool"
  | .int _ => "int"
  | .str _ => "str"
  | .list _ => "list"
  | .tuple _ => "tuple"
  | .dict _ => "dict"
def isB (a c : String) : Bool := a == c || (a == "bool" && c == "int")
theorem kitT : ∀ a ∈ (["NoneType", "bool", "int", "str", "list", "tuple"] : List String), ∀ c ∈ (["int", "bool", "str", "list", "tuple"] : List String), kitB a c = some (isB a c) := by decide +kernel
theorem dp_tn (h : Dp K H v d) : tn d ∈ (["NoneType", "bool", "int", "str", "list", "tuple"] : List String) := by
  cases h <;> simp [tn]
theorem dp_ty (h : Dp K H v d) : TyX K H v (.type (tn d)) := by
  cases h with
  | non => exact .base .non
  | bl b => exact .base (.bl b)
  | int i => exact .base (.int i)
  | str x => exact .base (.str x)
  | lst h _ =>
    rcases h with (h | ⟨o, h⟩) | ⟨o, its, n, hk, hc, _⟩
    · exact .base (.lst h)
    · exact .base (.frz h)
    · exact .kList hk hc
  | tup h _ =>
    rcases h with (h | ⟨o, h⟩) | ⟨o, its, n, hk, hc, _⟩
    · exact .base (.tup h)
    · exact .fTuple h
    · exact .kTuple hk hc
theorem r_isi {c : String} {Q : VK} (h : Dp K H v d) (hc : c ∈ (["int", "bool", "str", "list", "tuple"] : List String)) (q : Q (.bl (isB (tn d) c)) H) : rIsi K [v, .ty c] H Q :=
  ⟨v, .ty c, _, _, _, rfl, .ty c, dp_ty h, kit_ty (kitT _ (dp_tn h) c hc), q⟩
theorem kit_any {t : String} (ht : t ∈ (["NoneType", "bool", "int", "str", "list", "tuple"] : List String)) : ∀ cs : List String, (∀ c ∈ cs, c ∈ (["int", "bool", "str", "list", "tuple"] : List String)) →
    PySem.W.kitAny K (.type t) (cs.map Value.type) = some (cs.any (isB t))
  | [], _ => rfl
  | c :: r, h => by
    have h1 : PySem.W.kitOne K (.type t) (.type c) = some (isB t c) := kit_ty (kitT t ht c (h c List.mem_cons_self))
    have h2 := kit_any ht r fun x hx => h x (List.mem_cons_of_mem _ hx)
    show PySem.W.kitAny K (.type t) (.type c :: r.map Value.type) = some (isB t c || r.any (isB t))
    refine kitAny_cons h1 (fun e => ?_) (fun e => ?_)
    · rw [e, Bool.false_or]
      exact h2
    · rw [e, Bool.true_or]
theorem paired_ty : ∀ cs : List String, Paired ClsV (cs.map V.ty) (cs.map Value.type)
  | [] => .nil
  | c :: r => .cons (.ty c) (paired_ty r)
theorem r_isiT {cs : List String} {Q : VK} (h : Dp K H v d) (hp : H p = some (.tup (cs.map V.ty))) (hc : ∀ c ∈ cs, c ∈ (["int", "bool", "str", "list", "tuple"] : List String)) (q : Q (.bl (cs.any (isB (tn d)))) H) : rIsiT K [v, .ref p] H Q :=
  ⟨v, p, _, _, _, _, rfl, hp, paired_ty cs, dp_ty h, kit_any (dp_tn h) cs hc, q⟩
end
theorem ifT {c : Bool} {A B : Prop} (h : c = true) (a : A) : if c = true then A else B := by
  rw [if_pos h]
  exact a
theorem ifF {c : Bool} {A B : Prop} (h : c = false) (b : B) : if c = true then A else B := by
  rw [h, if_neg Bool.false_ne_true]
  exact b
theorem ifB {c : Bool} {A B : Prop} (ht : c = true → A) (hf : c = false → B) : if c = true then A else B := by
  cases c with
  | true => exact ifT rfl (ht rfl)
  | false => exact ifF rfl (hf rfl)
theorem lenOk {α : Type} {xs : List α} {n : Nat} (h : xs.length = n) (hn : n ≤ 100000) : xs.length ≤ sizeLine := by
  rw [h]
  exact Nat.le_trans hn (by decide)
theorem range_getD {α β : Type} (g : α → β) (z : α) : ∀ l : List α, (List.range l.length).map (fun i => g (l.getD i z)) = l.map g := fun l => by
  apply List.ext_getElem?
  intro i
  by_cases h : i < l.length
  · rw [List.getElem?_map, List.getElem?_range h, List.getElem?_map, List.getElem?_eq_getElem h]
    simp [List.getD_eq_getElem?_getD, List.getElem?_eq_getElem h]
  · rw [List.getElem?_eq_none (by simp; omega), List.getElem?_eq_none (by simp; omega)]
theorem depth_get : ∀ {ds : List PyData} {i : Nat} {d : PyData}, ds[i]? = some d → d.depth ≤ PyData.depthAll ds
  | [], _, _, h => by simp at h
  | x :: r, 0, d, h => by
    simp at h
    subst h
    exact Nat.le_max_left _ _
  | x :: r, i + 1, d, h => Nat.le_trans (depth_get (ds := r) (i := i) (by simpa using h)) (Nat.le_max_right _ _)
/-! no list or tuple in it is very long -/
mutual
def wdB : PyData → Bool
  | .list xs => decide (xs.length ≤ 100000) && wdA xs
  | .tuple xs => decide (xs.length ≤ 100000) && wdA xs
  | .none => true
  | .bool _ => true
  | .int _ => true
  | .str _ => true
  | .dict _ => true
def wdA : List PyData → Bool
  | [] => true
  | x :: r => wdB x && wdA r
end
theorem wdA_get : ∀ {ds : List PyData} {i : Nat} {d : PyData}, wdA ds = true → ds[i]? = some d → wdB d = true
  | [], _, _, _, h => by simp at h
  | x :: r, 0, d, w, h => by
    simp at h
    subst h
    exact (Bool.and_eq_true_iff.mp w).1
  | x :: r, i + 1, d, w, h => wdA_get (ds := r) (i := i) (Bool.and_eq_true_iff.mp w).2 (by simpa using h)
theorem wdA_all : ∀ {ds : List PyData}, (∀ d ∈ ds, wdB d = true) → wdA ds = true
  | [], _ => rfl
  | x :: r, h => Bool.and_eq_true_iff.mpr ⟨h x List.mem_cons_self, wdA_all fun d hd => h d (List.mem_cons_of_mem _ hd)⟩
/-! ### rules whose reading has a name -/
def rTupOf (K : PySem.W.Frag) : List V → Hp → VK → Prop := fun xs H Q => ∃ p ys, xs = [.ref p] ∧ ((SqL K H p ys ∧ ∀ l, H l = none → Q (.ref l) (upd H l (.tup ys))) ∨ (SqT K H p ys ∧ Q (.ref p) H))
section
variable {X : Cx}
theorem tuple_of : CallR X (.type "tuple") (rTupOf X.K) := call_tuple_of
theorem len_seq : CallR X (.builtin "len") (Evl.rLenS X.K) := call_len_seq
theorem list_of : CallR X (.type "list") (Evl.rListS X.K) := call_list_of
end
/-! ### what a walk goes over, lists or tuples -/
theorem PI_or {X : Cx} {tg l : Expr} {w1 w2 : TI} (h1 : PI X tg l w1) (h2 : PI X tg l w2) : PI X tg l (fun σ H R => w1 σ H R ∨ w2 σ H R) :=
  ⟨fun pins s σ H R I h => h.elim (h1.run pins s σ H R I) (h2.run pins s σ H R I)⟩
/-! ### comprehensions without tests whose elements have a value each; the target is the name at k -/
section
variable {J : It} {n : Nat} {G : Hp → Prop} {Y : Nat → Hp → V → Hp → Prop}
theorem lc_vals (w : Walk J n G Y) {te : TE} {σ : L2.St} {H1 : Hp} {D : Addr} {Qd : Hp → Prop} {k : Nat} (I : Nat → V → Prop) (f : Nat → V) (hD : H1 D = none) (hG : ∀ H, Same H1 H → G H) (hn : n ≤ 1000000)
    (hY : ∀ i H x H', i < n → Y i H x H' → H' = H ∧ I i x)
    (hs : ∀ i x H, i < n → Same H1 H → I i x → ∀ Q : VK, (∀ H3, Same H H3 → Q (f i) H3) → te ((σ.set k none).set k (some x)) H Q) (hd : ∀ H, Same H1 H → H D = some (.lst ((List.range n).map f)) → Qd H) :
    ∃ W : Nat → Nat → Hp → Prop, (∃ m, W 0 m (upd H1 D (.lst []))) ∧ ∀ i m H, W i m H →
      (J.stop i H ∧ Qd H) ∨ (J.go i H ∧ ∃ Nx : Hp → Prop, (∀ H', Nx H' → ∃ m', m' < m ∧ W (i + 1) m' H') ∧ ∀ x H', J.yld i H x H' → gName k x (wipe σ [k]) H' fun σ2 H2 => wipe σ2 [k] = wipe σ [k] ∧ tYes σ2 H2 fun b H3 =>
        if b = true then te σ2 H3 fun y H4 => ∃ acc, H4 D = some (.lst acc) ∧ acc.length < sizeLine ∧ Nx (upd H4 D (.lst (acc ++ [y]))) else Nx H3) := by
  refine lc_it w (fun i H => Same H1 H ∧ H D = some (.lst ((List.range i).map f))) ⟨same_new hD, upd_same⟩ (fun i H _ h => hG H h.1) (fun i x H H' hi hp y => ?_) fun H h => hd H h.1 h.2
  obtain ⟨sm, e⟩ := hp
  obtain ⟨rfl, hx⟩ := hY i H x H' hi y
  refine ⟨?_, ?_⟩
  · show ((σ.set k none).set k (some x)).set k none = σ.set k none
    rw [List.set_set, List.set_set]
  show te ((σ.set k none).set k (some x)) H' _
  refine hs i x H' hi sm hx _ fun H3 s3 => ?_
  have e3 : H3 D = some (.lst ((List.range i).map f)) := s3 _ _ e
  refine ⟨_, e3, ?_, same_mut (sm.trans s3) hD, ?_⟩
  · rw [List.length_map, List.length_range]
    exact Nat.lt_of_lt_of_le (Nat.lt_of_lt_of_le hi hn) (by decide)
  · rw [upd_same, List.range_succ, List.map_append]
    rfl
/-- a comprehension whose elements may change what stands; Pv speaks of the turn, the list so far and the heap -/
theorem lc_inv (w : Walk J n G Y) {te : TE} {σ : L2.St} {H1 : Hp} {D : Addr} {Qd : Hp → Prop} {k : Nat} (I : Nat → V → Prop) (Pv : Nat → List V → Hp → Prop) (hn : n ≤ 1000000) (h0 : Pv 0 [] (upd H1 D (.lst [])))
    (hG : ∀ i acc H, Pv i acc H → G H) (hY : ∀ i H x H', i < n → Y i H x H' → H' = H ∧ I i x)
    (hs : ∀ i x acc H, i < n → acc.length = i → Pv i acc H → H D = some (.lst acc) → I i x → ∀ Q : VK, (∀ v H3, H3 D = some (.lst acc) → Pv (i + 1) (acc ++ [v]) (upd H3 D (.lst (acc ++ [v]))) → Q v H3) → te ((σ.set k none).set k (some x)) H Q)
    (hd : ∀ acc H, acc.length = n → Pv n acc H → H D = some (.lst acc) → Qd H) :
    ∃ W : Nat → Nat → Hp → Prop, (∃ m, W 0 m (upd H1 D (.lst []))) ∧ ∀ i m H, W i m H →
      (J.stop i H ∧ Qd H) ∨ (J.go i H ∧ ∃ Nx : Hp → Prop, (∀ H', Nx H' → ∃ m', m' < m ∧ W (i + 1) m' H') ∧ ∀ x H', J.yld i H x H' → gName k x (wipe σ [k]) H' fun σ2 H2 => wipe σ2 [k] = wipe σ [k] ∧ tYes σ2 H2 fun b H3 =>
        if b = true then te σ2 H3 fun y H4 => ∃ acc, H4 D = some (.lst acc) ∧ acc.length < sizeLine ∧ Nx (upd H4 D (.lst (acc ++ [y]))) else Nx H3) := by
  refine lc_it w (fun i H => ∃ acc, acc.length = i ∧ H D = some (.lst acc) ∧ Pv i acc H) ⟨[], rfl, upd_same, h0⟩ (fun i H _ h => ?_) (fun i x H H' hi hp y => ?_) fun H h => ?_
  · obtain ⟨acc, _, _, p⟩ := h
    exact hG i acc H p
  · obtain ⟨acc, hl, e, p⟩ := hp
    obtain ⟨rfl, hx⟩ := hY i H x H' hi y
    refine ⟨?_, ?_⟩
    · show ((σ.set k none).set k (some x)).set k none = σ.set k none
      rw [List.set_set, List.set_set]
    show te ((σ.set k none).set k (some x)) H' _
    refine hs i x acc H' hi hl p e hx _ fun v H3 e3 p3 => ⟨acc, e3, ?_, acc ++ [v], ?_, upd_same, p3⟩
    · rw [hl]
      exact Nat.lt_of_lt_of_le (Nat.lt_of_lt_of_le hi hn) (by decide)
    · rw [List.length_append, hl]
      rfl
  · obtain ⟨acc, hl, e, p⟩ := h
    exact hd acc H hl p e
theorem lc_data {K : PySem.W.Frag} {S : ASet} (w : Walk J n G Y) {te : TE} {σ : L2.St} {H1 : Hp} {D : Addr} {Qd : Hp → Prop} {k : Nat} (I : Nat → V → Prop) (f : Nat → PyData) (hS : ∀ a, S a → H1 a ≠ none) (hD : H1 D = none) (hG : ∀ H, Same H1 H → G H) (hn : n ≤ 1000000)
    (hY : ∀ i H x H', i < n → Y i H x H' → H' = H ∧ I i x)
    (hs : ∀ i x H, i < n → Same H1 H → H D ≠ none → I i x → ∀ Q : VK, (∀ v H3, Same H H3 → Dx K H3 (inS S D) v (f i) → Q v H3) → te ((σ.set k none).set k (some x)) H Q)
    (hd : ∀ H, Same H1 H → Dx K H S (.ref D) (.list ((List.range n).map f)) → Qd H) :
    ∃ W : Nat → Nat → Hp → Prop, (∃ m, W 0 m (upd H1 D (.lst []))) ∧ ∀ i m H, W i m H →
      (J.stop i H ∧ Qd H) ∨ (J.go i H ∧ ∃ Nx : Hp → Prop, (∀ H', Nx H' → ∃ m', m' < m ∧ W (i + 1) m' H') ∧ ∀ x H', J.yld i H x H' → gName k x (wipe σ [k]) H' fun σ2 H2 => wipe σ2 [k] = wipe σ [k] ∧ tYes σ2 H2 fun b H3 =>
        if b = true then te σ2 H3 fun y H4 => ∃ acc, H4 D = some (.lst acc) ∧ acc.length < sizeLine ∧ Nx (upd H4 D (.lst (acc ++ [y]))) else Nx H3) := by
  have hnS : ¬ S D := fun z => hS D z hD
  refine lc_it w (fun i H => Same H1 H ∧ ∃ acc, H D = some (.lst acc) ∧ DxAll K H (inS S D) acc ((List.range i).map f)) ⟨same_new hD, [], upd_same, .nil⟩ (fun i H _ h => hG H h.1) (fun i x H H' hi hp y => ?_) fun H h => ?_
  · obtain ⟨sm, acc, e, da⟩ := hp
    obtain ⟨rfl, hx⟩ := hY i H x H' hi y
    refine ⟨?_, ?_⟩
    · show ((σ.set k none).set k (some x)).set k none = σ.set k none
      rw [List.set_set, List.set_set]
    show te ((σ.set k none).set k (some x)) H' _
    refine hs i x H' hi sm (by rw [e]; exact fun z => nomatch z) hx _ fun v H3 s3 dv => ?_
    have hl : acc.length = i := by rw [dxAll_len da, List.length_map, List.length_range]
    refine ⟨acc, s3 _ _ e, ?_, same_mut (sm.trans s3) hD, acc ++ [v], upd_same, ?_⟩
    · rw [hl]
      exact Nat.lt_of_lt_of_le (Nat.lt_of_lt_of_le hi hn) (by decide)
    · rw [List.range_succ, List.map_append]
      have o : Out (inS S D) H3 (upd H3 D (.lst (acc ++ [v]))) := (Out.refl _ _).put (.inr rfl)
      exact dxAll_app (DxAll.up o (DxAll.up (Out.of s3) da)) (.cons (Dx.up o dv) .nil)
  · obtain ⟨sm, acc, e, da⟩ := h
    exact hd H sm (.lst (XL.of e hnS) (DxAll.less (fun a z => .inl z) da))
end
end RK

namespace RK
open PySem PySem.Spec PyProof.Rows L2 PySem.Builtin.Str
/-! ### texts as lists of code points -/
def sO (l : List Nat) : Str := ⟨l.toArray⟩
theorem sO_eta (x : Str) : sO x.cps.toList = x := rfl
theorem sO_list (l : List Nat) : (sO l).cps.toList = l := rfl
theorem sO_len (l : List Nat) : (sO l).length = l.length := rfl
theorem sO_inj {a b : List Nat} (h : sO a = sO b) : a = b := by
  have := congrArg (fun s : Str => s.cps.toList) h
  exact this
theorem sO_app (a b : List Nat) : sO a ++ sO b = sO (a ++ b) := by
  show (⟨a.toArray ++ b.toArray⟩ : Str) = ⟨(a ++ b).toArray⟩
  rw [List.append_toArray]
theorem sO_at {l : List Nat} {i : Nat} {c : Nat} (h : l[i]? = some c) : atI (sO l).cps.toList (i : Int) = some c := atI_nat h
theorem join_fold (l : List Str) : ∀ (acc : Array Nat), (l.foldl (fun acc p => acc ++ (sO []).cps ++ p.cps) acc) = (acc.toList ++ (l.map fun s => s.cps.toList).flatten).toArray := by
  induction l with
  | nil => intro acc; simp
  | cons p r ih =>
    intro acc
    rw [List.foldl_cons, ih]
    simp [sO]
theorem join_nil (l : List Str) : Txt.join (sO []) l = sO (l.map fun s => s.cps.toList).flatten := by
  cases l with
  | nil => rfl
  | cons p r =>
    show (⟨(r.foldl (fun acc p => acc ++ (sO []).cps ++ p.cps) p.cps)⟩ : Str) = _
    rw [join_fold]
    simp [sO]
theorem strip_take (goes : Nat → Bool) : ∀ l : List Nat, l.take (l.length - (l.reverse.takeWhile goes).length) = (l.reverse.dropWhile goes).reverse := fun l => by
  have h : l.reverse = l.reverse.takeWhile goes ++ l.reverse.dropWhile goes := (List.takeWhile_append_dropWhile).symm
  have h2 : l = (l.reverse.dropWhile goes).reverse ++ (l.reverse.takeWhile goes).reverse := by
    rw [← List.reverse_append, List.takeWhile_append_dropWhile, List.reverse_reverse]
  have h3 : l.length = (l.reverse.dropWhile goes).length + (l.reverse.takeWhile goes).length := by
    have := congrArg List.length h2
    rw [List.length_append, List.length_reverse, List.length_reverse] at this
    exact this
  have h4 : l.length - (l.reverse.takeWhile goes).length = (l.reverse.dropWhile goes).reverse.length := by
    rw [List.length_reverse]
    omega
  rw [h4]
  conv => lhs; arg 2; rw [h2]
  rw [List.take_left]
theorem rstrip_sO (l : List Nat) : Txt.rstrip (sO l) = sO (l.reverse.dropWhile Unicode.isSpace).reverse := by
  have hi : stripHi Unicode.isSpace true (sO l) 0 = l.length - (l.reverse.takeWhile Unicode.isSpace).length := rfl
  show (if (stripSame Unicode.isSpace false true (sO l)) = true then sO l else stripped Unicode.isSpace false true (sO l)) = _
  have e : stripped Unicode.isSpace false true (sO l) = sO (l.reverse.dropWhile Unicode.isSpace).reverse := by
    show (⟨l.toArray.extract 0 (l.length - (l.reverse.takeWhile Unicode.isSpace).length)⟩ : Str) = _
    rw [List.extract_toArray, List.extract_eq_take_drop, List.drop_zero, Nat.sub_zero, strip_take]
    rfl
  split
  · rename_i h
    have h1 : (l.length - (l.reverse.takeWhile Unicode.isSpace).length == l.length) = true := (Bool.and_eq_true_iff.mp h).2
    have h2 : l.length - (l.reverse.takeWhile Unicode.isSpace).length = l.length := by simpa using h1
    have h3 := strip_take Unicode.isSpace l
    rw [h2, List.take_length] at h3
    rw [← h3]
  · exact e
theorem ljust_sO (l : List Nat) (n : Nat) (h : l.length ≤ n) : Txt.ljust (sO l) (n : Int) = sO (l ++ List.replicate (n - l.length) 32) := by
  show (if (n : Int) ≤ (l.length : Nat) then sO l else padded (sO l) 0 ((n : Int).toNat - l.length) 32) = _
  split
  · rename_i h2
    have : n - l.length = 0 := by omega
    rw [this]
    simp [sO]
  · show (⟨Array.replicate 0 32 ++ l.toArray ++ Array.replicate ((n : Int).toNat - l.length) 32⟩ : Str) = _
    rw [Int.toNat_natCast]
    simp [sO]
/-- parts of a text -/
theorem cut_lo (l : List Nat) (k : Nat) : cutS (sO l) (some (k : Int)) none = sO (l.drop k) := by
  show (⟨((l.drop (HT.sIx l.length 0 (some (k : Int)))).take (HT.sIx l.length l.length none - HT.sIx l.length 0 (some (k : Int)))).toArray⟩ : Str) = _
  rw [HT.sIx_nat, HT.sIx_none]
  have e : (l.drop (min k l.length)).take (l.length - min k l.length) = l.drop k := by
    rw [List.take_of_length_le (by rw [List.length_drop]; omega)]
    by_cases h : k ≤ l.length
    · rw [Nat.min_eq_left h]
    · rw [Nat.min_eq_right (by omega), List.drop_length, List.drop_of_length_le (by omega)]
  rw [e]
  rfl
theorem cut_hi (l : List Nat) (k : Nat) : cutS (sO l) none (some (k : Int)) = sO (l.take k) := by
  show (⟨((l.drop (HT.sIx l.length 0 none)).take (HT.sIx l.length l.length (some (k : Int)) - HT.sIx l.length 0 none)).toArray⟩ : Str) = _
  rw [HT.sIx_nat, HT.sIx_none, List.drop_zero, Nat.sub_zero]
  have e : l.take (min k l.length) = l.take k := by
    by_cases h : k ≤ l.length
    · rw [Nat.min_eq_left h]
    · rw [Nat.min_eq_right (by omega), List.take_length, List.take_of_length_le (by omega)]
  rw [e]
  rfl
theorem rep_fold (a : Array Nat) : ∀ (n : Nat) (acc : Array Nat), (List.replicate n a).foldl (· ++ ·) acc = (acc.toList ++ (List.replicate n a.toList).flatten).toArray
  | 0, acc => by simp
  | n + 1, acc => by
    rw [List.replicate_succ, List.foldl_cons, rep_fold a n, List.replicate_succ]
    simp
section
variable {X : Cx}
/-- a text times a small number -/
theorem op_rep_str : OpR X (binaryOp .Mult) (fun x y H Q => ∃ (l : List Nat) (n : Nat), x = .str (sO l) ∧ y = .int (n : Int) ∧ l.length ≤ 1000 ∧ n ≤ 1000 ∧ Q (.str (sO (List.replicate n l).flatten)) H) := by
  intro pins s σ H x y v u Q I rx ry h
  obtain ⟨l, n, rfl, rfl, hl, hn, q⟩ := h
  obtain ⟨t, rfl⟩ := rx
  obtain ⟨t2, rfl⟩ := ry
  have big : l.length * n ≤ 1000000 := Nat.mul_le_mul hl hn
  refine P.mul_str ?_ (fun _ _ => ?_) (fun _ _ => ?_) ?_
  · rw [decide_eq_false (show ¬ (n : Int) < -(2 ^ 63) by omega), decide_eq_false (show ¬ (n : Int) ≥ 2 ^ 63 by omega)]
    rfl
  · show ¬ ((l.length : Nat) : Int) > (2 ^ 63 - 1) / (n : Int)
    have h1 : (0 : Int) < n := by omega
    have h2 : (1000 : Int) ≤ (2 ^ 63 - 1) / (n : Int) := (Int.le_ediv_iff_mul_le h1).mpr (by omega)
    omega
  · show tooLong (l.length * (n : Int).toNat) = false
    rw [Int.toNat_natCast]
    exact decide_eq_false (by show ¬ _; have : (1000000 : Nat) ≤ sizeLine := by decide
                              omega)
  · have fin : ∀ (z : Str) tk tok, z = sO (List.replicate n l).flatten → EP X pins σ Q (Value.str z tok) { s with toks := tk } := fun z tk tok e => by subst e; exact ⟨.str _, H, I.tok _, ⟨_, rfl⟩, q⟩
    have hsz : ∀ z : Str, z = sO (List.replicate n l).flatten → z.length ≤ sizeLine := fun z e => by
      rw [e, sO_len]
      have e2 : (List.replicate n l).flatten.length = n * l.length := by simp
      rw [e2, Nat.mul_comm]
      exact Nat.le_trans big (by decide)
    split
    · have : n = 0 := by omega
      subst this
      exact ⟨by decide, fin _ _ _ rfl⟩
    · split
      · rename_i h2
        rcases Bool.or_eq_true_iff.mp h2 with h3 | h3
        · have h4 : (n : Int) = 1 := by simpa using h3
          have h5 : n = 1 := by omega
          subst h5
          refine fin _ s.toks _ ?_
          simp
        · have h4 : l.length = 0 := (eq_of_beq h3 : (sO l).length = 0)
          have h5 : l = [] := List.eq_nil_of_length_eq_zero h4
          subst h5
          refine fin _ s.toks _ ?_
          have : (List.replicate n ([] : List Nat)).flatten = [] := by simp
          rw [this]
      · have e : (⟨(List.replicate (n : Int).toNat (sO l).cps).foldl (· ++ ·) #[]⟩ : Str) = sO (List.replicate n l).flatten := by
          rw [rep_fold, Int.toNat_natCast]
          simp [sO]
        exact ⟨hsz _ e, fin _ _ _ e⟩
end
end RK

namespace RK
open PySem PySem.Spec PyProof.Rows L2 PySem.Builtin.Str
/-! ### names and the words that pack them -/
def sg (k : Nat) : Nat := if k = 0 then 32 else if k ≤ 26 then 96 + k else 21 + k
abbrev LTR : List Nat := (Str.ofString "abcdefghijklmnopqrstuvwxyz").cps.toList
abbrev SGN : List Nat := (Str.ofString " abcdefghijklmnopqrstuvwxyz0123456789").cps.toList
theorem SGN_eq : SGN = (List.range 37).map sg := by decide +kernel
theorem LTR_eq : LTR = (List.range 26).map fun k => sg (k + 1) := by decide +kernel
def isN (l : List Nat) : Bool := (decide (1 ≤ l.length) && decide (l.length ≤ 9) && decide (l.headD 0 ∈ LTR)) && l.all fun c => decide (c ∈ SGN) && !decide (c = 32)
theorem dec_blank (c : Nat) : decide (V.str (sO [c]) = V.str (Str.ofString " ")) = decide (c = 32) := by
  have e : Str.ofString " " = sO [32] := by decide +kernel
  rw [e, decide_eq_decide]
  constructor
  · intro h
    have := sO_inj (V.str.inj h)
    exact (List.cons.inj this).1
  · intro h
    rw [h]
/-- the codes of a name -/
structure Nk (ks : List Nat) : Prop where
  pos : 1 ≤ ks.length
  le : ks.length ≤ 9
  head : 1 ≤ ks.headD 0 ∧ ks.headD 0 ≤ 26
  all : ∀ k ∈ ks, 1 ≤ k ∧ k ≤ 36
theorem sg_mem {k : Nat} (h : k ≤ 36) : sg k ∈ SGN := by
  rw [SGN_eq]
  exact List.mem_map.mpr ⟨k, List.mem_range.mpr (by omega), rfl⟩
theorem sg_ne {k : Nat} (h : 1 ≤ k) : sg k ≠ 32 := by
  unfold sg
  split
  · omega
  · split <;> omega
theorem sg_inj {a b : Nat} (ha : a ≤ 36) (hb : b ≤ 36) (h : sg a = sg b) : a = b := by
  unfold sg at h
  split at h <;> split at h <;> (try split at h) <;> (try split at h) <;> omega
theorem sg_lt {k : Nat} (h : k ≤ 36) : sg k ∈ LTR ↔ 1 ≤ k ∧ k ≤ 26 := by
  rw [LTR_eq, List.mem_map]
  constructor
  · rintro ⟨j, hj, e⟩
    have hj := List.mem_range.mp hj
    have := sg_inj (by omega) h e
    omega
  · rintro ⟨h1, h2⟩
    exact ⟨k - 1, List.mem_range.mpr (by omega), by rw [Nat.sub_add_cancel h1]⟩
theorem isN_codes {ks : List Nat} (h36 : ∀ k ∈ ks, k ≤ 36) : isN (ks.map sg) = (decide (1 ≤ ks.length) && decide (ks.length ≤ 9) && decide (1 ≤ ks.headD 0 ∧ ks.headD 0 ≤ 26) && ks.all fun k => decide (1 ≤ k)) := by
  unfold isN
  rw [List.length_map]
  have e1 : decide ((ks.map sg).headD 0 ∈ LTR) = decide (1 ≤ ks.headD 0 ∧ ks.headD 0 ≤ 26) := by
    cases ks with
    | nil => decide +kernel
    | cons k r =>
      show decide (sg k ∈ LTR) = decide (1 ≤ k ∧ k ≤ 26)
      rw [decide_eq_decide]
      exact sg_lt (h36 k List.mem_cons_self)
  have e2 : ((ks.map sg).all fun c => decide (c ∈ SGN) && !decide (c = 32)) = ks.all fun k => decide (1 ≤ k) := by
    rw [List.all_map]
    apply Bool.eq_iff_iff.mpr
    rw [List.all_eq_true, List.all_eq_true]
    constructor
    · intro h k hk
      have := h k hk
      apply decide_eq_true
      rcases Nat.eq_zero_or_pos k with z | z
      · subst z
        exact absurd this (by decide +kernel)
      · exact z
    · intro h k hk
      have hk1 : 1 ≤ k := of_decide_eq_true (h k hk)
      show (decide (sg k ∈ SGN) && !decide (sg k = 32)) = true
      rw [decide_eq_true (sg_mem (h36 k hk)), decide_eq_false (sg_ne hk1)]
      rfl
  rw [e1, e2]
theorem isN_of {ks : List Nat} (h : Nk ks) : isN (ks.map sg) = true := by
  rw [isN_codes fun k hk => (h.all k hk).2, decide_eq_true h.pos, decide_eq_true h.le, decide_eq_true h.head]
  rw [List.all_eq_true.mpr fun k hk => decide_eq_true (h.all k hk).1]
  rfl
theorem isN_long {l : List Nat} (h : 10 ≤ l.length) : isN l = false := by
  unfold isN
  rw [decide_eq_false (show ¬ l.length ≤ 9 by omega), Bool.and_false]
  rfl
theorem isN_head {l : List Nat} (h : l.headD 0 ∉ LTR) : isN l = false := by
  unfold isN
  rw [decide_eq_false h, Bool.and_false]
  rfl
theorem isN_mem {l : List Nat} {c : Nat} (h : c ∈ l) (hc : (decide (c ∈ SGN) && !decide (c = 32)) = false) : isN l = false := by
  unfold isN
  rw [show (l.all fun c => decide (c ∈ SGN) && !decide (c = 32)) = false from ?_, Bool.and_false]
  apply Bool.eq_false_iff.mpr
  intro z
  have := List.all_eq_true.mp z c h
  rw [hc] at this
  cases this
/-! words -/
def cds (w : Nat) : List Nat := [w / 1600, w / 40 % 40, w % 40]
def rtrim (ks : List Nat) : List Nat := (ks.reverse.dropWhile (· == 0)).reverse
theorem rtrim_app (l : List Nat) (x : Nat) : rtrim (l ++ [x]) = if x = 0 then rtrim l else l ++ [x] := by
  unfold rtrim
  rw [List.reverse_append]
  show ((x :: l.reverse).dropWhile (· == 0)).reverse = _
  rw [List.dropWhile_cons]
  by_cases h : x = 0
  · rw [if_pos h, if_pos (by rw [h]; rfl)]
  · rw [if_neg h, if_neg (by simpa using h)]
    simp
theorem rtrim_pre (l : List Nat) : rtrim l = l.take (rtrim l).length := by
  have h : l.reverse = l.reverse.takeWhile (· == 0) ++ l.reverse.dropWhile (· == 0) := (List.takeWhile_append_dropWhile).symm
  have h2 : l = rtrim l ++ (l.reverse.takeWhile (· == 0)).reverse := by
    unfold rtrim
    rw [← List.reverse_append, List.takeWhile_append_dropWhile, List.reverse_reverse]
  conv => rhs; arg 2; rw [h2]
  rw [List.take_left]
theorem rtrim_big {l : List Nat} {x : Nat} (h : x ∈ l) (hx : x ≠ 0) : x ∈ rtrim l := by
  have h2 : l = rtrim l ++ (l.reverse.takeWhile (· == 0)).reverse := by
    unfold rtrim
    rw [← List.reverse_append, List.takeWhile_append_dropWhile, List.reverse_reverse]
  rw [h2] at h
  rcases List.mem_append.mp h with h | h
  · exact h
  · have := List.mem_reverse.mp h
    have h3 : ∀ (r : List Nat), x ∈ r.takeWhile (· == 0) → x = 0 := fun r => by
      induction r with
      | nil => intro z; cases z
      | cons y r ih =>
        rw [List.takeWhile_cons]
        split
        · rename_i hy
          intro z
          rcases List.mem_cons.mp z with z | z
          · rw [z]; simpa using hy
          · exact ih z
        · intro z; cases z
    exact absurd (h3 _ this) hx
theorem rtrim_sub {l : List Nat} {x : Nat} (h : x ∈ rtrim l) : x ∈ l := by
  rw [rtrim_pre] at h
  exact List.mem_of_mem_take h
theorem rtrim_len (l : List Nat) : (rtrim l).length ≤ l.length := by
  rw [rtrim_pre, List.length_take]
  omega
theorem rtrim_head {l : List Nat} (h : rtrim l ≠ []) : (rtrim l).headD 0 = l.headD 0 := by
  rw [rtrim_pre] at h ⊢
  cases l with
  | nil => simp at h
  | cons x r =>
    cases e : (rtrim (x :: r)).length with
    | zero => rw [e] at h; exact absurd rfl h
    | succ n => rfl
/-- the program's way -/
def wn (ks : List Nat) : Option (List Nat) := if ks.any (fun k => decide (37 ≤ k)) then none else if isN ((rtrim ks).map sg) then some ((rtrim ks).map sg) else none
/-- the law's way -/
def un (ks : List Nat) : Option (List Nat) := if (rtrim ks).all (fun k => decide (1 ≤ k ∧ k ≤ 36)) && (decide ((rtrim ks).length ≠ 0) && decide (ks.headD 0 ≤ 26)) then some ((rtrim ks).map sg) else none
theorem wn_un (ks : List Nat) (h9 : ks.length ≤ 9) : wn ks = un ks := by
  unfold wn un
  by_cases hb : ks.any (fun k => decide (37 ≤ k)) = true
  · rw [if_pos hb]
    obtain ⟨k, hk, hk2⟩ := List.any_eq_true.mp hb
    have hk3 : 37 ≤ k := of_decide_eq_true hk2
    have : (rtrim ks).all (fun k => decide (1 ≤ k ∧ k ≤ 36)) = false := by
      apply Bool.eq_false_iff.mpr
      intro z
      have := of_decide_eq_true (List.all_eq_true.mp z k (rtrim_big hk (by omega)))
      omega
    rw [this]
    rfl
  · rw [if_neg hb]
    have h36 : ∀ k ∈ ks, k ≤ 36 := fun k hk => by
      apply Decidable.byContradiction
      intro z
      exact hb (List.any_eq_true.mpr ⟨k, hk, decide_eq_true (by omega)⟩)
    have h36' : ∀ k ∈ rtrim ks, k ≤ 36 := fun k hk => h36 k (rtrim_sub hk)
    have hl := rtrim_len ks
    have e : isN ((rtrim ks).map sg) = ((rtrim ks).all (fun k => decide (1 ≤ k ∧ k ≤ 36)) && (decide ((rtrim ks).length ≠ 0) && decide (ks.headD 0 ≤ 26))) := by
      rw [isN_codes h36']
      apply Bool.eq_iff_iff.mpr
      simp only [Bool.and_eq_true, decide_eq_true_eq, List.all_eq_true]
      constructor
      · rintro ⟨⟨⟨h1, _⟩, h3, h4⟩, h5⟩
        have hne : rtrim ks ≠ [] := fun z => by rw [z] at h1; exact absurd h1 (by decide)
        rw [rtrim_head hne] at h3 h4
        exact ⟨fun k hk => ⟨h5 k hk, h36' k hk⟩, by omega, h4⟩
      · rintro ⟨h1, h2, h3⟩
        have hne : rtrim ks ≠ [] := fun z => by rw [z] at h2; exact h2 rfl
        refine ⟨⟨⟨by omega, by omega⟩, ?_⟩, fun k hk => (h1 k hk).1⟩
        have hm : (rtrim ks).headD 0 ∈ rtrim ks := by
          cases hr : rtrim ks with
          | nil => exact absurd hr hne
          | cons x r => exact List.mem_cons_self
        have := h1 _ hm
        rw [rtrim_head hne] at this ⊢
        exact ⟨this.1, h3⟩
    rw [e]
def pad (ks : List Nat) : List Nat := ks ++ List.replicate (9 - ks.length) 0
theorem pad_len {ks : List Nat} (h : ks.length ≤ 9) : (pad ks).length = 9 := by
  unfold pad
  rw [List.length_append, List.length_replicate]
  omega
def pk1 (cs : List Nat) (k : Nat) : Nat := (cs.getD k 0 * 40 + cs.getD (k + 1) 0) * 40 + cs.getD (k + 2) 0
def pk3 (cs : List Nat) : List Nat := [pk1 cs 0, pk1 cs 3, pk1 cs 6]
theorem cds_pk1 {cs : List Nat} {k : Nat} (h : ∀ x ∈ cs, x ≤ 39) : cds (pk1 cs k) = [cs.getD k 0, cs.getD (k + 1) 0, cs.getD (k + 2) 0] := by
  have g : ∀ i, cs.getD i 0 ≤ 39 := fun i => by
    rw [List.getD_eq_getElem?_getD]
    cases e : cs[i]? with
    | none => exact Nat.zero_le _
    | some x => exact h x (List.mem_of_getElem? e)
  have a := g k
  have b := g (k + 1)
  have c := g (k + 2)
  unfold cds pk1
  congr 1
  · omega
  · congr 1
    · omega
    · congr 1
      omega
theorem cds_pk3 {cs : List Nat} (h : ∀ x ∈ cs, x ≤ 39) (h9 : cs.length = 9) : (pk3 cs).flatMap cds = cs := by
  match cs, h9 with
  | [a, b, c, d, e, f, g, i, j], _ =>
    show cds _ ++ (cds _ ++ (cds _ ++ [])) = _
    rw [cds_pk1 h, cds_pk1 h, cds_pk1 h]
    rfl
theorem rtrim_pad {ks : List Nat} (h : Nk ks) : rtrim (pad ks) = ks := by
  unfold pad
  generalize 9 - ks.length = n
  induction n with
  | zero =>
    rw [List.replicate_zero, List.append_nil]
    cases e : ks.reverse with
    | nil =>
      have := congrArg List.reverse e
      rw [List.reverse_reverse] at this
      rw [this]
      rfl
    | cons x r =>
      have e2 : ks = r.reverse ++ [x] := by
        have := congrArg List.reverse e
        rw [List.reverse_reverse, List.reverse_cons] at this
        exact this
      rw [e2, rtrim_app, if_neg]
      have := h.all x (by rw [e2]; simp)
      omega
  | succ n ih =>
    rw [List.replicate_succ', ← List.append_assoc, rtrim_app, if_pos rfl]
    exact ih
theorem pad_le {ks : List Nat} (h : Nk ks) : ∀ x ∈ pad ks, x ≤ 39 := fun x hx => by
  unfold pad at hx
  rcases List.mem_append.mp hx with hx | hx
  · have := h.all x hx
    omega
  · have := List.eq_of_mem_replicate hx
    omega
theorem wn_pad {ks : List Nat} (h : Nk ks) : wn (pad ks) = some (ks.map sg) := by
  unfold wn
  rw [rtrim_pad h, isN_of h, if_neg, if_pos rfl]
  intro z
  obtain ⟨k, hk, hk2⟩ := List.any_eq_true.mp z
  have hk3 : 37 ≤ k := of_decide_eq_true hk2
  unfold pad at hk
  rcases List.mem_append.mp hk with hx | hx
  · have := h.all k hx
    omega
  · have := List.eq_of_mem_replicate hx
    omega
/-- signs found in the tables -/
theorem find_sg : ∀ k : _root_.Fin 37, Txt.find (Str.ofString " abcdefghijklmnopqrstuvwxyz0123456789") (sO [sg k.val]) = (k.val : Int) := by decide +kernel
theorem occ_sg : ∀ k : _root_.Fin 37, occurrences (Str.ofString " abcdefghijklmnopqrstuvwxyz0123456789") (sO [sg k.val]) 0 (Str.ofString " abcdefghijklmnopqrstuvwxyz0123456789").length 1 = [k.val] := by decide +kernel
theorem space_sg : ∀ k : _root_.Fin 37, Unicode.isSpace (sg k.val) = (k.val == 0) := by decide +kernel
theorem rstrip_sg {ks : List Nat} (h : ∀ k ∈ ks, k ≤ 36) : Txt.rstrip (sO (ks.map sg)) = sO ((rtrim ks).map sg) := by
  rw [rstrip_sO]
  unfold rtrim
  rw [← List.map_reverse]
  have e : ∀ r : List Nat, (∀ k ∈ r, k ≤ 36) → (r.map sg).dropWhile Unicode.isSpace = (r.dropWhile (· == 0)).map sg := fun r => by
    induction r with
    | nil => intro _; rfl
    | cons x r ih =>
      intro hr
      rw [List.map_cons, List.dropWhile_cons, List.dropWhile_cons]
      have hx : Unicode.isSpace (sg x) = (x == 0) := space_sg ⟨x, by have := hr x List.mem_cons_self; omega⟩
      rw [hx]
      split
      · exact ih fun k hk => hr k (List.mem_cons_of_mem _ hk)
      · rfl
  rw [e _ fun k hk => h k (List.mem_reverse.mp hk), ← List.map_reverse]
/-! lists of small numbers as they stand in the program -/
def intV (l : List Nat) : List V := l.map fun (n : Nat) => V.int (n : Int)
theorem atI_intV {cs : List Nat} {k : Int} (h0 : 0 ≤ k) (h1 : k < (cs.length : Int)) : atI (intV cs) k = some (.int ((cs.getD k.toNat 0 : Nat) : Int)) := by
  obtain ⟨j, rfl⟩ : ∃ j : Nat, k = (j : Int) := ⟨k.toNat, by omega⟩
  have hj : j < cs.length := by omega
  refine atI_nat ?_
  unfold intV
  rw [List.getElem?_map, List.getElem?_eq_getElem hj, Int.toNat_natCast, List.getD_eq_getElem?_getD, List.getElem?_eq_getElem hj]
  rfl
theorem intV_map {α : Type} (g : α → Nat) (l : List α) : intV (l.map g) = l.map fun x => V.int ((g x : Nat) : Int) := by
  unfold intV
  rw [List.map_map]
  rfl
theorem intV_ints (l : List Nat) : intV l = (l.map fun (n : Nat) => (n : Int)).map V.int := by
  unfold intV
  rw [List.map_map]
  rfl
theorem intV_range (cs : List Nat) : (List.range cs.length).map (fun i => V.int ((cs.getD i 0 : Nat) : Int)) = intV cs := range_getD (fun n : Nat => V.int (n : Int)) 0 cs
theorem ljust_pad {ks : List Nat} (h : ks.length ≤ 9) : Txt.ljust (sO (ks.map sg)) 9 = sO ((pad ks).map sg) := by
  have e := ljust_sO (ks.map sg) 9 (by rw [List.length_map]; exact h)
  rw [List.length_map] at e
  unfold pad
  rw [List.map_append, List.map_replicate]
  exact e
/-! numbers as data -/
def intsD (l : List Nat) : PyData := .tuple ((l.map fun (n : Nat) => (n : Int)).map PyData.int)
theorem lay_ints : ∀ l : List Int, PyData.canLayAll0 (l.map PyData.int) = true
  | [] => rfl
  | _ :: r => lay_ints r
theorem lay_intsD (l : List Nat) : (intsD l).canLay0 = true := lay_ints _
theorem dep_ints : ∀ l : List Int, PyData.depthAll (l.map PyData.int) = 0
  | [] => rfl
  | x :: r => by
    show max 0 (PyData.depthAll (r.map PyData.int)) = 0
    rw [dep_ints r]
    rfl
theorem dep_intsD (l : List Nat) : (intsD l).depth ≤ 1 := by
  show PyData.depthAll _ + 1 ≤ 1
  rw [dep_ints]
  exact Nat.le_refl 1
theorem wd_ints : ∀ l : List Int, wdA (l.map PyData.int) = true
  | [] => rfl
  | _ :: r => wd_ints r
theorem wd_intsD {l : List Nat} (h : l.length ≤ 100000) : wdB (intsD l) = true := by
  show (decide (_ ≤ 100000) && wdA _) = true
  rw [wd_ints, List.length_map, List.length_map, decide_eq_true h]
  rfl
theorem dx_intsD {K : PySem.W.Frag} {H : Hp} {p : Addr} {l : List Nat} (h : H p = some (.tup (intV l))) : Dx K H noS (.ref p) (intsD l) := by
  rw [intV_ints] at h
  exact .tup (XT.of h fun z => z.elim) (dxAll_ints _)
/-! parts of a tuple -/
theorem cutV_lo {xs : List V} (k : Nat) : cutV xs (some (k : Int)) none = xs.drop k := by
  show (xs.drop (HT.sIx xs.length 0 (some (k : Int)))).take (HT.sIx xs.length xs.length none - HT.sIx xs.length 0 (some (k : Int))) = _
  rw [HT.sIx_nat, HT.sIx_none, List.take_of_length_le (by rw [List.length_drop]; omega)]
  by_cases h : k ≤ xs.length
  · rw [Nat.min_eq_left h]
  · rw [Nat.min_eq_right (by omega), List.drop_length, List.drop_of_length_le (by omega)]
theorem cutV_hi {xs : List V} (k : Nat) : cutV xs none (some (k : Int)) = xs.take k := by
  show (xs.drop (HT.sIx xs.length 0 none)).take (HT.sIx xs.length xs.length (some (k : Int)) - HT.sIx xs.length 0 none) = _
  rw [HT.sIx_nat, HT.sIx_none, List.drop_zero, Nat.sub_zero]
  by_cases h : k ≤ xs.length
  · rw [Nat.min_eq_left h]
  · rw [Nat.min_eq_right (by omega), List.take_length, List.take_of_length_le (by omega)]
theorem slA_of {K : PySem.W.Frag} {H : Hp} {a : Addr} {xs : List V} {lo hi : Option Int} {Q : VK} (h : SqT K H a xs) (q : ∀ p H', Same H H' → SqT K H' p (cutV xs lo hi) → Q (.ref p) H') : rSlA K (.ref a) lo hi H Q := by
  refine ⟨a, xs, rfl, h, fun e => q a H (Same.refl _) ?_, fun _ p hp => q p _ (same_new hp) (SqT.of upd_same)⟩
  have : cutV xs lo hi = xs := by
    show (xs.drop (HT.sIx xs.length 0 lo)).take (HT.sIx xs.length xs.length hi - HT.sIx xs.length 0 lo) = _
    rw [e.1, e.2, List.drop_zero, Nat.sub_zero, List.take_length]
  rw [this]
  exact h
end RK

namespace RK
open PySem PySem.Spec PyProof.Rows L2
/-! ### an own error that keeps one thing, and a try whose first clause names it -/
/-- what the first clause wishes: the error is its own -/
def wHit (K : PySem.W.Frag) (c : Value) (i : Nat) (ts : Addr → Value → Option Addr → TS) (D : Ends) : WX := fun cls d σ H => PySem.W.exmOne K cls c = some true ∧
  ∀ a, H a = none → ts a cls d ⟨fun σ' H' => D.nx (σ'.set i none) H', D.rt, fun σ' H' => D.bk (σ'.set i none) H', fun σ' H' => D.ct (σ'.set i none) H'⟩ (σ.set i (some (.ref a))) H
section
variable {X : Cx} {x n : Str} {c : Value} {i : Nat} {body suite : List Stmt} {hds : List ExceptHandler} {b₀ : Stmt} {np pos pos' : Pos} {tb : WX → TS} {ts : Addr → Value → Option Addr → TS} {pins : List (Addr × Obj)}
/-- what the body leaves, seen from outside the try -/
theorem flow_out {D : Ends} {xe : Value → Shared → Prop} (ok : X.Ok) {f : Flow} {s1 : Shared} (h : SP (X.tr (X.pn ++ pins) xe) [] D f s1) : SP X pins D f s1 := by
  cases f with
  | ret u => exact let ⟨v, σ', H', J, r, q⟩ := h; ⟨v, σ', H', J.ofTry ok, r, q⟩
  | next => exact let ⟨σ', H', J, q⟩ := h; ⟨σ', H', J.ofTry ok, q⟩
  | brk => exact let ⟨σ', H', J, q⟩ := h; ⟨σ', H', J.ofTry ok, q⟩
  | cont => exact let ⟨σ', H', J, q⟩ := h; ⟨σ', H', J.ofTry ok, q⟩
/-- an error that flies stands in no frame -/
theorem no_frame {B h : Heap} {l : List Env} {a : Addr} {o : Obj} {vs : Array Value} (ff : h.FunFrames B l) (e : h.get? a = some o) (hd : o.data = .fields vs) : a ∉ frs l := fun hm => by
  obtain ⟨_, o2, e2, no⟩ := ff.mem hm
  have : o2 = o := Option.some.inj (e2.symm.trans e)
  exact no vs (this ▸ hd)
/-- the first clause's test -/
theorem names_it {a : Addr} {o : Obj} {σ : L2.St} {H : Hp} {s : Shared} {Q : Value → Shared → Prop} {E : Value → Shared → Prop} (hc : Names X x c) (S : Inv (X.suite a ((a, o) :: (X.pn ++ pins))) [] σ H s) (q : Q c s) :
    wpAny (model X.prog X.w) (X.A.mark (some (.ref a))) (eval (.Name x np) X.env) Q E s := by
  rcases hc with ⟨hg, hd, h | ⟨h1, h2, h3⟩⟩
  · exact ld_glob (X := Cx.suite X a ((a, o) :: (X.pn ++ pins))) S hg h q hd
  · exact ld_blt (X := Cx.suite X a ((a, o) :: (X.pn ++ pins))) S hg h1 h2 q h3 hd
end

/-! ### an own error class C: __init__(self, f): self.f = f -/
/-- what __init__ does of a fresh error -/
def spKeep (f : Str) (C : Addr) : Sp := fun vs H Q _ => ∃ (a : Addr) (v : V), vs = [.ref a, v] ∧ H a = some (exo a C none) ∧ ∀ dx, H dx = none → dx ≠ a → Q .non (upd (upd H dx (exd dx [(f, v)])) a (exo a C (some dx)))
structure ErrC (K : PySem.W.Frag) (mg : Str → Option Value) (x f : Str) (C fI : Addr) (fd : FuncData) : Prop where
  g : mg x = some (.ref C)
  ox : OexC K C
  no : PySem.W.findIn K (.ref C) f = some none
  iC : PySem.W.findIn K (.ref C) "__init__" = some (some (.ref fI))
  tI : PySem.W.typeIn K (.ref fI) = some (.type "function")
  b : Binds K fd ["self", f] []
  xf : XfC K C
  ex : ExcC K C
  te : PySem.W.exmOne K (.ref C) (.ref C) = some true
section
variable {X : Cx} {x f : Str} {C fI : Addr} {fd : FuncData} {k : Nat} {e : Expr} {es : List Expr} {ta : TA} {p pos : Pos}
/-- C(e), to be raised -/
theorem pmk_err (T : ErrC X.K X.mg x f C fI fd) (F1 : FnOk X.prog X.w X.K X.mg X.base CX0 k fI fd ["self", f] (spKeep f C)) (hr : Room (k + 1) X.A) (ha : PA X (e :: es) ta) (hg : Gl X x := by rfl) (hdb : (x == ("__debug__" : Str)) = false := by decide)
    (he : starEach (e :: es) X.env = (false, eval e X.env) :: starEach es X.env := by rfl) (hpl : (backTo pos (starEach es X.env)).any (·.1) = false := by rfl) : PMk X (.Call (.Name x p) (e :: es) [] pos) (tMkO C (spKeep f C) [] ta) :=
  pmk_oex T.ox T.iC T.tI F1 hr T.b .nil (fun _ _ _ _ _ _ _ z => z.elim) hg T.g ha hdb he hpl
/-- the end of its reading -/
theorem keep_end {H1 : Hp} {v : V} {Q : XK} (q : ∀ d H2, Same H1 H2 → H1 d = none → H2 d = some (.xd [(f, v)]) → Q (.ref C) (some d) H2) : ([v] : List V).length ≤ 1000 ∧ ∀ a, H1 a = none → spKeep f C (.ref a :: ([v] ++ [])) (upd H1 a (exo a C none))
    (fun v H2 => v = .non ∧ ∃ (d : Addr) (fs : List (Str × V)), H2 a = some (exo a C (some d)) ∧ H2 d = some (exd d fs) ∧ H1 d = none ∧ Q (.ref C) (some d) (upd (del H2 a) d (.xd fs))) (fun _ _ _ => False) := by
  refine ⟨by show 1 ≤ 1000; decide, fun a na => ⟨a, v, rfl, upd_same, fun dx nd ne => ⟨rfl, dx, [(f, v)], upd_same, ?_, ?_, ?_⟩⟩⟩
  · rw [upd_ne ne, upd_same]
  · rw [upd_ne ne] at nd
    exact nd
  · rw [upd_ne ne] at nd
    refine q dx _ (fun b o eb => ?_) nd upd_same
    have b1 : b ≠ dx := ne_of_none eb nd
    have b2 : b ≠ a := ne_of_none eb na
    rw [upd_ne b1, del_ne b2, upd_ne b2, upd_ne b1, upd_ne b2]
    exact eb
/-- isinstance(e, c), e the error in hand whose own dict is dd -/
def rIsEx (K : PySem.W.Frag) (D a dd : Addr) : List V → Hp → VK → Prop := fun xs H Q => ∃ (c : V) (cv : Value) (b : Bool) (fs : List (Str × V)), xs = [.ref a, c] ∧ (∀ u, RelV c u → u = cv) ∧ PySem.W.kitOne K (.ref D) cv = some b ∧ H dd = some (.xd fs) ∧ Q (.bl b) H
theorem call_isEx {a D : Addr} {o : Obj} {cls : Value} {d : Option Addr} {ps : List (Addr × Obj)} (T : ExcC X.K D) (hz : Zc cls d o) (hf : ∃ vs, o.data = .fields vs) :
    CallR (X.suite a ((a, o) :: ps)) (.builtin "isinstance") (fun xs H Q => ∃ dd, cls = .ref D ∧ d = some dd ∧ rIsEx X.K D a dd xs H Q) := by
  intro pins s σ H xs us Q I r h
  obtain ⟨dd, rfl, rfl, c, cv, b, fs, rfl, hcv, hk, hd, q⟩ := h
  obtain ⟨u1, u2, rfl, r1, r2⟩ := vals2 r
  obtain rfl := hcv u2 r2
  cases r1
  obtain ⟨ga, _⟩ := I.pin (a, o) (List.mem_append_left _ List.mem_cons_self)
  obtain ⟨vs, ef⟩ := hf
  obtain ⟨mA, hns, _⟩ := (show ObjOk X.prog X.w H s.heap dd (.xd fs) from I.hok dd _ hd)
  obtain ⟨od, ho, _⟩ := lookIn_ns hns
  have J : PySem.W.InstAt s.heap a o D (some od) := ⟨ga, hz.1, by unfold PySem.W.notCls; rw [ef], by rw [hz.2]; exact ho⟩
  have hc : (PySem.W.clsIn X.K D).isSome = true := by
    have := T.hd
    unfold PySem.W.hasDictIn at this
    cases e : PySem.W.clsIn X.K D with
    | none => rw [e] at this; cases this
    | some => rfl
  exact PySem.W.kia_one (PySem.W.kitx_exc hc T.hg T.hk T.hs T.ha T.hn T.ht T.hm) I.kIn J hk (fun z => nomatch z) fun tk => ⟨.bl b, H, I.kept (t' := tk) fun _ _ z => z, rfl, q⟩
end
end RK

namespace RK
open PySem PySem.Spec PyProof.Rows L2 HotX
/-! ### the end of a walk over a list or a tuple while an error is handled -/
section
variable {prog : Program} {w : World} {A : Around} {E : Value → Shared → Prop} {s : Shared}
theorem next_list_hot {it l x1 : Addr} {i : Nat} {items : Array Value} {Q : Option Value → Shared → Prop} (hot : HotAt A x1 s.heap) (ne : x1 ≠ it) (hit : s.heap.IsListIter it l i) (hl : s.heap.IsList l items) (hx : items[i]? = none)
    (hQ : ∀ h', (∀ b o, b ≠ it → s.heap.get? b = some o → h'.get? b = some o) → Q none { s with heap := h' }) : wpAny (model prog w) A (pyNext (.ref it)) Q E s := by
  obtain ⟨hh, o1, vs1, h1, d1, c1⟩ := hot
  obtain ⟨oi, gi, ci, di⟩ := id hit
  obtain ⟨ol, gl, _, nl, dl⟩ := hl
  unfold pyNext
  refine wpAny_bind (wpAny_attempt (wpAny_callSpecial?_slot (name := "__next__") hit.typeIs slot_listiter_next (wpAny_call_entry slot_listiter_next hit.typeIs entry_listiter_next ?_ (args_listiter_next _))))
  refine wpAny_bind (m := field (.ref it) 0) (wpAny_field gi di (x := .ref l) rfl ?_)
  refine (if_neg (Bool.false_ne_true : ¬ ((Value.ref l == Value.none) = true))).symm ▸ ?_
  refine wpAny_bind (m := field (.ref it) 1) (wpAny_field gi di (x := .int i 0) rfl (wpAny_bind (m := seqItems? (.ref l)) (wpAny_seqItems gl dl ?_)))
  simp only [Int.toNat_natCast, hx]
  refine wpAny_bind (wpAny_rule (wpAny_bind (wpAny_setField gi di (by simp) (wpAny_bind (m := newExc (.type "StopIteration") []) ?_))))
  simp only [newExc, newTuple]
  refine wpAny_bind (wpAny_newObj_type (wpAny_bind (m := firstArgMember _ _) (wpAny_of_eq (a := Value.none) (by first | rfl | (simp only [firstArgMember]; rfl)) (wpAny_newObj_type ?_ (by size_fits)))) (by size_fits))
  have k0 : ∀ b o, b ≠ it → s.heap.get? b = some o → (s.heap.update it (Obj.mapFields (·.setIfInBounds 0 Value.none))).get? b = some o := fun b o n e => by
    rw [Heap.get?_update_other _ _ (Ne.symm n)]; exact e
  have u1 := Heap.get?_push_of_some { cls := .type "tuple", data := .seq #[] } (k0 _ _ ne h1)
  refine raiseNew_hot ⟨hh, o1, vs1, Heap.get?_push_of_some _ u1, d1, c1⟩ (Nat.ne_of_lt (Heap.lt_size u1)) (Heap.get?_push_size _ rfl) rfl (by first | (simp; done) | (simp; omega)) (wpAny_bind (wpAny_isInstance (T := "StopIteration") (b := true) ⟨_, Heap.get?_update_self _ (Heap.get?_push_size _ rfl) rfl, rfl⟩ isSubtype_stop (wpAny_pure (hQ _ fun b o n e => ?_))))
  have u2 := Heap.get?_push_of_some { cls := .type "tuple", data := .seq #[] } (k0 _ _ n e)
  rw [Heap.get?_update_other _ _ (Nat.ne_of_gt (Heap.lt_size u2))]; exact Heap.get?_push_of_some _ u2
theorem next_tuple_hot {it l x1 : Addr} {i : Nat} {items : Array Value} {Q : Option Value → Shared → Prop} (hot : HotAt A x1 s.heap) (ne : x1 ≠ it) (hit : s.heap.IsTupleIter it l i) (hl : s.heap.IsTuple l items) (hx : items[i]? = none)
    (hQ : ∀ h', (∀ b o, b ≠ it → s.heap.get? b = some o → h'.get? b = some o) → Q none { s with heap := h' }) : wpAny (model prog w) A (pyNext (.ref it)) Q E s := by
  obtain ⟨hh, o1, vs1, h1, d1, c1⟩ := hot
  obtain ⟨oi, gi, ci, di⟩ := id hit
  obtain ⟨ol, gl, _, nl, dl⟩ := hl
  unfold pyNext
  refine wpAny_bind (wpAny_attempt (wpAny_callSpecial?_slot (name := "__next__") hit.typeIs F.slot_tuple_iterator_next (wpAny_call_entry F.slot_tuple_iterator_next hit.typeIs F.entry_tuple_iterator_next ?_ (F.args_tuple_iterator_next_1 _))))
  refine wpAny_bind (m := field (.ref it) 0) (wpAny_field gi di (x := .ref l) rfl ?_)
  refine (if_neg (Bool.false_ne_true : ¬ ((Value.ref l == Value.none) = true))).symm ▸ ?_
  refine wpAny_bind (m := field (.ref it) 1) (wpAny_field gi di (x := .int i 0) rfl (wpAny_bind (m := seqItems? (.ref l)) (wpAny_seqItems gl dl ?_)))
  simp only [Int.toNat_natCast, hx]
  refine wpAny_bind (wpAny_rule (wpAny_bind (wpAny_setField gi di (by simp) (wpAny_bind (m := newExc (.type "StopIteration") []) ?_))))
  simp only [newExc, newTuple]
  refine wpAny_bind (wpAny_newObj_type (wpAny_bind (m := firstArgMember _ _) (wpAny_of_eq (a := Value.none) (by first | rfl | (simp only [firstArgMember]; rfl)) (wpAny_newObj_type ?_ (by size_fits)))) (by size_fits))
  have k0 : ∀ b o, b ≠ it → s.heap.get? b = some o → (s.heap.update it (Obj.mapFields (·.setIfInBounds 0 Value.none))).get? b = some o := fun b o n e => by
    rw [Heap.get?_update_other _ _ (Ne.symm n)]; exact e
  have u1 := Heap.get?_push_of_some { cls := .type "tuple", data := .seq #[] } (k0 _ _ ne h1)
  refine raiseNew_hot ⟨hh, o1, vs1, Heap.get?_push_of_some _ u1, d1, c1⟩ (Nat.ne_of_lt (Heap.lt_size u1)) (Heap.get?_push_size _ rfl) rfl (by first | (simp; done) | (simp; omega)) (wpAny_bind (wpAny_isInstance (T := "StopIteration") (b := true) ⟨_, Heap.get?_update_self _ (Heap.get?_push_size _ rfl) rfl, rfl⟩ isSubtype_stop (wpAny_pure (hQ _ fun b o n e => ?_))))
  have u2 := Heap.get?_push_of_some { cls := .type "tuple", data := .seq #[] } (k0 _ _ n e)
  rw [Heap.get?_update_other _ _ (Nat.ne_of_gt (Heap.lt_size u2))]; exact Heap.get?_push_of_some _ u2
end
/-! ### walks over lists and tuples there -/
section
variable {P : Program} {w : World} {K : PySem.W.Frag} {tg : Expr} (a it : Addr)
theorem turn_listH : L2H.TurnH P w K tg (Itl K a) [it] it (fun i h => h.IsListIter it a i) := by
  have T : Turn P w K tg (Itl K a) [it] it (fun i h => h.IsListIter it a i) := turn_list a it
  refine ⟨T.mem, T.obj, T.keep, ?_, ?_, T.self⟩
  · rintro X rfl rfl rfl - i pins s σ H E I hf st ⟨xs, x, hq, hx⟩
    obtain ⟨its, rv, pl, _⟩ := I.list hq
    obtain ⟨u, hu, ru⟩ := rv.get hx
    obtain ⟨g0, g1, g2, g3, g4, g5⟩ := hf it T.mem
    refine wpAny_pyNext_list_item st pl.isList (x := u) (by simpa using hu) fun h2 st2 sb => ⟨u, rfl, ?_⟩
    obtain ⟨o, eo, co, dd⟩ := id st2
    refine go_of (s := { s with heap := h2 }) eo co dd (by decide) ⟨x, H, I.turned (t' := s.toks) (fun b ob hb e => (sb.2 b hb).trans e) g0 g1 g3 g4 g5, ru, ⟨rfl, fun ys hy => ?_⟩, st2, fun b hb => (hf b hb).1⟩
    rw [I.list_inj hy hq, hx]
  · rintro X rfl rfl rfl hc i pins s σ H E I hf st ⟨xs, hq, hx⟩
    obtain ⟨its, rv, pl, _⟩ := I.list hq
    obtain ⟨g0, g1, g2, g3, g4, g5⟩ := hf it T.mem
    obtain ⟨p, ⟨hh, vs1, d1, c1⟩, hp⟩ := hc
    have P1 := I.pin p (List.mem_append_left _ hp)
    have hl := rv.length
    exact next_list_hot ⟨hh, p.2, vs1, P1.1, d1, c1⟩ (g5 p (List.mem_append_left _ hp)) st pl.isList (by simp; omega) fun h2 eb => ⟨rfl, I.turned (t' := s.toks) (fun b ob hb e => eb b ob hb e) g0 g1 g3 g4 g5⟩
theorem turn_tupleH : L2H.TurnH P w K tg (Itt K a) [it] it (fun i h => h.IsTupleIter it a i) := by
  have T : Turn P w K tg (Itt K a) [it] it (fun i h => h.IsTupleIter it a i) := turn_tuple a it
  refine ⟨T.mem, T.obj, T.keep, ?_, ?_, T.self⟩
  · rintro X rfl rfl rfl - i pins s σ H E I hf st ⟨xs, x, hq, hx⟩
    obtain ⟨its, rv, pl, _⟩ := I.tuple hq
    obtain ⟨u, hu, ru⟩ := rv.get hx
    obtain ⟨g0, g1, g2, g3, g4, g5⟩ := hf it T.mem
    refine wpAny_pyNext_tuple_item st (show s.heap.IsTuple a its.toArray from pl) (x := u) (by simpa using hu) fun h2 st2 sb => ⟨u, rfl, ?_⟩
    obtain ⟨o, eo, co, dd⟩ := id st2
    refine go_of (s := { s with heap := h2 }) eo co dd (by decide) ⟨x, H, I.turned (t' := s.toks) (fun b ob hb e => (sb.2 b hb).trans e) g0 g1 g3 g4 g5, ru, ⟨rfl, fun ys hy => ?_⟩, st2, fun b hb => (hf b hb).1⟩
    rw [I.tuple_inj hy hq, hx]
  · rintro X rfl rfl rfl hc i pins s σ H E I hf st ⟨xs, hq, hx⟩
    obtain ⟨its, rv, pl, _⟩ := I.tuple hq
    obtain ⟨g0, g1, g2, g3, g4, g5⟩ := hf it T.mem
    obtain ⟨p, ⟨hh, vs1, d1, c1⟩, hp⟩ := hc
    have P1 := I.pin p (List.mem_append_left _ hp)
    have hl := rv.length
    exact next_tuple_hot ⟨hh, p.2, vs1, P1.1, d1, c1⟩ (g5 p (List.mem_append_left _ hp)) st (show s.heap.IsTuple a its.toArray from pl) (by simp; omega) fun h2 eb => ⟨rfl, I.turned (t' := s.toks) (fun b ob hb e => eb b ob hb e) g0 g1 g3 g4 g5⟩
end
section
variable {X : Cx} {tg l : Expr} {tl : TE}
theorem pi_listH (hl : PE X l tl) : L2H.PIH X tg l (iList X.K tl) := by
  refine ⟨fun pins s σ H R I h => thn (hl.run pins s σ H _ I h) fun v s1 ⟨x, H1, I1, r1, a, ex, ⟨xs, hq⟩, q⟩ => ?_⟩
  subst ex; cases r1
  obtain ⟨its, rv, pl, _⟩ := I1.list hq
  refine wpAny_pyIter_list pl.isList ⟨s1.heap.objs.size, [s1.heap.objs.size], _, _, H1, rfl, I1.kept (t' := s1.toks) fun b o e => Heap.get?_push_of_some _ e, turn_listH a _, ⟨_, Heap.get?_push_size _ rfl, rfl, rfl⟩, fun b hb => ?_, q⟩
  rw [List.mem_singleton.mp hb]
  exact I1.fpOk (Nat.le_refl _) (I1.hok.fresh (Nat.le_refl _))
theorem pi_tupH (hl : PE X l tl) : L2H.PIH X tg l (iTup X.K tl) := by
  refine ⟨fun pins s σ H R I h => thn (hl.run pins s σ H _ I h) fun v s1 ⟨x, H1, I1, r1, a, ex, ⟨xs, hq⟩, q⟩ => ?_⟩
  subst ex; cases r1
  obtain ⟨its, rv, pl, _⟩ := I1.tuple hq
  refine wpAny_pyIter_tuple (show s1.heap.IsTuple a its.toArray from pl) ⟨s1.heap.objs.size, [s1.heap.objs.size], _, _, H1, rfl, I1.kept (t' := s1.toks) fun b o e => Heap.get?_push_of_some _ e, turn_tupleH a _, ⟨_, Heap.get?_push_size _ rfl, rfl, rfl⟩, fun b hb => ?_, q⟩
  rw [List.mem_singleton.mp hb]
  exact I1.fpOk (Nat.le_refl _) (I1.hok.fresh (Nat.le_refl _))
theorem PIH_or {w1 w2 : TI} (h1 : L2H.PIH X tg l w1) (h2 : L2H.PIH X tg l w2) : L2H.PIH X tg l (fun σ H R => w1 σ H R ∨ w2 σ H R) :=
  ⟨fun pins s σ H R I h => h.elim (h1.run pins s σ H R I) (h2.run pins s σ H R I)⟩
end
/-! ### list comprehensions there: the block keeps the error that is handled among its pins -/
abbrev blkH (X : Cx) (s : Shared) (H : Hp) (scope : Scope) (ce : Env) (fp : List Addr) (p : Addr × Obj) : Cx := { X.blk s H scope ce fp with pn := [p] }
section
variable {X : Cx} {pins : List (Addr × Obj)} {s : Shared} {σ : L2.St} {H : Hp} {Q : VK} {elt tg iter : Expr} {ifs : List Expr} {scope : Scope} {own : List (Str × Nat)} {pos pos2 : Pos} {wi : TI} {g : TG} {tt : TT} {te : TE}
theorem okH {s3 : Shared} {ce : Env} {fp : List Addr} {p : Addr × Obj} (nc : X.calm = false) (ok : (X.blk s3 H scope ce fp).Ok) : (blkH X s3 H scope ce fp p).Ok :=
  ⟨ok.mod, ok.kind, ok.glob, ok.blt, ok.above, ok.inj, ok.has, ok.cab, fun z => absurd (nc.symm.trans z) Bool.false_ne_true, ok.frames, ok.stk, ok.exf, ok.bs, ok.bsz, ok.noex, ok.exfs, ok.funs, ok.frf⟩
theorem comp_hot {Qf : Value → Shared → Prop} (nc : X.calm = false) {p : Addr × Obj} (hot : L2H.Hot1 X.A p) (hp : p ∈ X.pn) (hN : X.N.Nodup) (I : Inv X pins σ H s) (hi : L2H.PIH X tg iter wi) (ok : BlkOk X.N X.env.scope scope own)
    (hg : ∀ s H C cl fp, PG (blkH X s H scope (compEnvC scope cl C X.env) fp p) tg g) (ht : ∀ s H C cl fp, PTs (blkH X s H scope (compEnvC scope cl C X.env) fp p) ifs tt)
    (he : ∀ s H C cl fp, PE (blkH X s H scope (compEnvC scope cl C X.env) fp p) elt te) (hs : ∀ x, foldedSetIterable iter X.env x = pure x) (h : tLc wi g tt te (own.map (·.2)) σ H Q)
    (hR : ∀ D C s' m H', Inv X pins σ H' s' → Q (.ref D) H' → s'.heap.Ns C m → FpOk X pins H' C → compPost (model X.prog X.w) X.A X.xe none Qf (.ref D) C (.ok .next) s') :
    wpAny (model X.prog X.w) X.A (comprehension (.ListComp elt [⟨tg, iter, ifs, 0⟩] scope pos) scope X.env pos2 (newList []) false (eval iter X.env) none) Qf X.xe s := by
  have free : ∀ y ∈ scope.names, y.2 = .free → ∃ c, X.env.cells.lookup y.1 = some c := fun y hy e => I.ok.has _ (ok.free y hy e)
  refine wpAny_comprehension_free (use := none) rfl hs (closure_ok free) ok.kind (fun y hy e => (ok.uniq y hy).trans (congrArg some e)) (thn (hi.run pins s σ H _ I h) fun _ t1 hx => thn hx fun _ t2 ⟨it, fp, tn, J, H2, ei, I2, T, st2, f2, q⟩ => ?_)
  subst ei
  refine wpAny_newObj_type (newEnv_comp ?_) (Nat.zero_le _)
  have nD : H2 t2.heap.objs.size = none := I2.hok.fresh (Nat.le_refl _)
  obtain ⟨W, ⟨m0, w0⟩, turn⟩ := q _ nD
  generalize eD : t2.heap.objs.size = D at nD w0 turn ⊢
  generalize e3 : ({ t2 with heap := t2.heap.push { cls := .type "list", data := .seq ([] : List Value).toArray } } : Shared) = t3
  have hp3 : t3.heap = t2.heap.push { cls := .type "list", data := .seq ([] : List Value).toArray } := by rw [← e3]
  have I3 : Inv X pins σ (upd H2 D (.lst [])) t3 := by
    rw [← e3]
    exact I2.laid (t' := t2.toks) (fun b o e => Heap.get?_push_of_some _ e) (Nat.le_of_eq eD) ⟨Nat.zero_le _, [], 0, .nil, by rw [← eD]; exact Heap.get?_push_size _ rfl⟩
  have f3 : ∀ b ∈ fp, FpOk X pins (upd H2 D (.lst [])) b ∧ b < t3.heap.objs.size := fun b hb => by
    obtain ⟨o, eo, _⟩ := T.obj _ _ st2 b hb
    have lt : b < D := by rw [← eD]; exact Heap.lt_size eo
    exact ⟨⟨(upd_ne (Nat.ne_of_lt lt)).trans (f2 b hb).1, (f2 b hb).2⟩, by rw [hp3, Heap.size_push, eD]; exact Nat.lt_succ_of_lt lt⟩
  have I4 := block_start I3 ok hN f3
  have P3 := I3.pin p (List.mem_append_left _ hp)
  have pS : p.1 ∉ frs X.stack := fun hm => (List.mem_cons.mp (I3.stkSub p.1 hm)).elim P3.2.2.1 P3.2.2.2.1
  have pg := hg t3 (upd H2 D (.lst [])) t3.heap.objs.size (cellsFrom (t3.heap.objs.size + 1) scope.names (cloFrom X.env.cells scope.names [])) fp
  have pt := ht t3 (upd H2 D (.lst [])) t3.heap.objs.size (cellsFrom (t3.heap.objs.size + 1) scope.names (cloFrom X.env.cells scope.names [])) fp
  have pe := he t3 (upd H2 D (.lst [])) t3.heap.objs.size (cellsFrom (t3.heap.objs.size + 1) scope.names (cloFrom X.env.cells scope.names [])) fp
  show codeAny _ _ (.compStart _ 0 (.ref it) (.ref D) (compEnvC scope (cellsFrom (t3.heap.objs.size + 1) scope.names (cloFrom X.env.cells scope.names [])) t3.heap.objs.size X.env)) (compPost _ X.A X.xe none Qf (.ref D) t3.heap.objs.size) { t3 with heap := pushCells (t3.heap.push { cls := .type "dict", data := .dict #[] }) scope.names }
  have nfp : ∀ b ∈ fp, (upd H2 D (.lst [])) b = none := fun b hb => (f3 b hb).1.1
  generalize hce : compEnvC scope (cellsFrom (t3.heap.objs.size + 1) scope.names (cloFrom X.env.cells scope.names [])) t3.heap.objs.size X.env = ce at I4 pg pt pe ⊢
  have cL : ce.locals = t3.heap.objs.size := by rw [← hce]; rfl
  generalize hH3 : upd H2 D (.lst []) = H3 at I3 I4 P3 pg pt pe w0 nfp f3
  generalize hs4 : ({ t3 with heap := pushCells (t3.heap.push { cls := .type "dict", data := .dict #[] }) scope.names } : Shared) = t4 at I4 ⊢
  have k4 : ∀ b o, t3.heap.get? b = some o → t4.heap.get? b = some o := fun b o e => by rw [← hs4]; exact pushCells_keeps _ _ _ _ (Heap.get?_push_of_some _ e)
  have k3 : ∀ b o, t2.heap.get? b = some o → t4.heap.get? b = some o := fun b o e => k4 b o (by rw [hp3]; exact Heap.get?_push_of_some _ e)
  have st4 : tn 0 t4.heap := T.keep _ _ _ st2 fun b _ o e => k3 b o e
  have J4 : Inv (blkH X t3 H3 scope ce fp p) [] (wipe σ (own.map (·.2))) H3 t4 := ⟨okH nc I4.ok, I4.os, I4.bare, I4.base, I4.loc, I4.cell, I4.free, I4.freeC, fun r hr => by
    have er : r = p := by simpa using hr
    subst er
    exact ⟨k4 _ _ P3.1, P3.2.1, by rw [show (blkH X t3 H3 scope ce fp r).env.locals = t3.heap.objs.size from cL]; exact Nat.ne_of_lt (Heap.lt_size P3.1), pS, P3.2.2.2.2⟩, I4.hok, I4.len⟩
  have hc : L2H.HotC (blkH X t3 H3 scope ce fp p) := ⟨p, hot, List.mem_cons_self⟩
  have stat : ∀ {σ' : L2.St} {H' : Hp} {s' : Shared}, Inv (blkH X t3 H3 scope ce fp p) [] σ' H' s' → (∀ b ∈ fp, H' b = none) → ∀ b ∈ fp, FpOk (blkH X t3 H3 scope ce fp p) [] H' b := fun I' hn b hb =>
    ⟨hn b hb, (I'.ok.exf b hb).1, I'.ok.exfs b hb, .inl hb, (I'.ok.exf b hb).2, fun r hr => by
      have er : r = p := by simpa using hr
      rw [er]
      exact (f2 b hb).2.2.2.2.2 p (List.mem_append_left _ hp)⟩
  have loop : codeAny (model X.prog X.w) X.A (.compLoop (.ListComp elt [⟨tg, iter, ifs, 0⟩] scope pos) 0 (.ref it) (.ref D) ce) (compPost (model X.prog X.w) X.A X.xe none Qf (.ref D) t3.heap.objs.size) t4 := by
    refine compLoop_any (fun n s' => ∃ i H', Inv (blkH X t3 H3 scope ce fp p) [] (wipe σ (own.map (·.2))) H' s' ∧ tn i s'.heap ∧ (∀ b ∈ fp, H' b = none) ∧ W i n H') (fun n t5 ⟨i, H5, I5, st5, n5, w5⟩ => ?_) m0 ⟨0, H3, J4, st4, nfp, w0⟩
    rcases turn i n H5 w5 with ⟨stop, qq⟩ | ⟨go, Nx, hNx, step⟩
    · refine thnF (T.done (blkH X t3 H3 scope ce fp p) rfl rfl rfl hc i [] t5 _ H5 (fun _ _ => False) I5 (stat I5 n5) st5 stop) fun r t6 ⟨er, I6⟩ => ?_
      subst er
      have I7 : Inv X pins σ H5 t6 := I3.call' (ch := fp) I6.os I6.base I6.hok I6.bare fun b hb => ⟨(f3 b hb).1.2.2.2.1, (f3 b hb).1.2.1, (f3 b hb).1.2.2.2.2.1, (f3 b hb).1.2.2.2.2.2⟩
      have nC : H5 t3.heap.objs.size = none := cL ▸ (I6.free : H5 ce.locals = none)
      obtain ⟨m, hn, _⟩ := I6.loc
      exact hR D _ t6 m H5 I7 qq (cL ▸ (hn : t6.heap.Ns ce.locals m)) (I3.fpOk (Nat.le_refl _) nC)
    · refine thnF (T.item (blkH X t3 H3 scope ce fp p) rfl rfl rfl hc i [] t5 _ H5 (fun _ _ => False) I5 (stat I5 n5) st5 go) fun r t6 ⟨u, er, h6⟩ => ?_
      subst er
      refine thnF h6 fun _ t7 ⟨x, H7, I7, r7, y7, st7, n7⟩ => thnF (pg.run _ t7 _ H7 x u _ (I7.pinned (stat I7 n7) (T.obj _ _ st7)) r7 (step x H7 y7)) fun _ t8 ⟨σ8, H8, I8, hw8, q8⟩ => thnF (pt.run _ t8 σ8 H8 _ I8 q8) fun b t9 ⟨H9, I9, q9⟩ => ?_
      have back : ∀ {s' : Shared} {H' : Hp}, Inv (blkH X t3 H3 scope ce fp p) ([] ++ pinsAt fp t7.heap) σ8 H' s' → Nx H' → ∃ m, m < n ∧ ∃ i H', Inv (blkH X t3 H3 scope ce fp p) [] (wipe σ (own.map (·.2))) H' s' ∧ tn i s'.heap ∧ (∀ b ∈ fp, H' b = none) ∧ W i m H' := fun {s' H'} I' nx => by
        obtain ⟨m', lt, w'⟩ := hNx H' nx
        have at_ : ∀ b ∈ fp, ∀ o, t7.heap.get? b = some o → s'.heap.get? b = some o ∧ H' b = none := fun b hb o e => ⟨(I'.pin (b, o) (.tail _ (mem_pinsAt hb e))).1, (I'.pin (b, o) (.tail _ (mem_pinsAt hb e))).2.1⟩
        refine ⟨m', lt, i + 1, H', (I'.unpinned (pins := [])).weak (by rw [← hw8, wipe_length]) (fun j v e => (wipe_some (hw8 ▸ e)).1), T.keep _ _ _ st7 fun b hb o e => (at_ b hb o e).1, fun b hb => ?_, w'⟩
        exact let ⟨o, e, _⟩ := T.obj _ _ st7 b hb; (at_ b hb o e).2
      cases b with
      | false => exact back I9 q9
      | true => exact thnF (pe.run _ t9 σ8 H9 _ I9 q9) fun z t10 ⟨yv, H10, I10, r10, acc, d10, z10, nx⟩ => app_ok (X := blkH X t3 H3 scope ce fp p) I10 d10 z10 r10 fun t11 I11 => back I11 nx
  exact codeAny_compStart_list loop (T.self X.A 0 _ _ _ st4 loop)
theorem pe_lcH (nc : X.calm = false) {p : Addr × Obj} (hot : L2H.Hot1 X.A p) (hp : p ∈ X.pn) (hN : X.N.Nodup) (hi : L2H.PIH X tg iter wi) (ok : BlkOk X.N X.env.scope scope own)
    (hg : ∀ s H C cl fp, PG (blkH X s H scope (compEnvC scope cl C X.env) fp p) tg g) (ht : ∀ s H C cl fp, PTs (blkH X s H scope (compEnvC scope cl C X.env) fp p) ifs tt)
    (he : ∀ s H C cl fp, PE (blkH X s H scope (compEnvC scope cl C X.env) fp p) elt te) (hs : ∀ x, foldedSetIterable iter X.env x = pure x := by intro _; rfl) : PE X (.ListComp elt [⟨tg, iter, ifs, 0⟩] scope pos) (tLc wi g tt te (own.map (·.2))) := by
  refine ⟨fun pins s σ H Q I h => ?_⟩
  rw [eval_ListComp]
  exact comp_hot nc hot hp hN I hi ok hg ht he hs h fun D C s2 m H2 I2 q hn f => ⟨m, hn, fun h2 sb => ⟨.ref D, H2, I2.turned (t' := s2.toks) (fun b o hb e => (sb.2 b hb).trans e) f.1 f.2.1 f.2.2.2.1 f.2.2.2.2.1 f.2.2.2.2.2, rfl, q⟩⟩
end
/-! ### errors raised where nothing is handled, their context None -/
section
variable {X : Cx} {x f : Str} {C fI : Addr} {fd : FuncData} {k : Nat} {e : Expr} {ta : TA} {p pos : Pos}
theorem pmk_errN (T : ErrC X.K X.mg x f C fI fd) (F1 : FnOk X.prog X.w X.K X.mg X.base CX0 k fI fd ["self", f] (spKeep f C)) (hr : Room (k + 1) X.A) (ha : PA X [e] ta) (hg : Gl X x := by rfl) (hdb : (x == ("__debug__" : Str)) = false := by decide)
    (he : starEach [e] X.env = (false, eval e X.env) :: starEach [] X.env := by rfl) (hpl : (backTo pos (starEach [] X.env)).any (·.1) = false := by rfl) : L2N.PMk X (.Call (.Name x p) [e] [] pos) (tMkO C (spKeep f C) [] ta) := by
  intro pins s σ H Q I h
  obtain ⟨nm, q, N, bs, bm, sn, sub, ab, col, dd, k0, k1, k2, k3, k5, lkC, vbm⟩ := T.ox.cls
  refine wpAny_Call_Name_kw (ld_glob I hg T.g (PySem.W.callWith_K (h₀ := X.base) I.ok.mod.kin T.ox.kC (thn (ha.run pos pins s σ H _ I h) fun us s1 ⟨vs, H1, I1, r1, lv, q1⟩ => ⟨I1.kIn, ?_⟩) he hpl) hdb)
  obtain ⟨hp, g, dr, tk, os⟩ := s1
  generalize ea : hp.objs.size + 1 = a
  have ge : hp.objs.size ≤ a := by omega
  have hq := q1 a (I1.hok.fresh ge)
  have kk : ∀ b o, hp.get? b = some o → ((hp.push (PySem.W.kdv_tup us)).push (PySem.HandSPX.excO C hp.objs.size)).get? b = some o := fun b o z => Heap.get?_push_of_some _ (Heap.get?_push_of_some _ z)
  have ga : ((hp.push (PySem.W.kdv_tup us)).push (PySem.HandSPX.excO C hp.objs.size)).get? a = some (PySem.HandSPX.excO C hp.objs.size) := by rw [← ea]; heap_get
  have I2 : Inv X pins σ (upd H1 a (exo a C none)) ⟨(hp.push (PySem.W.kdv_tup us)).push (PySem.HandSPX.excO C hp.objs.size), g, dr, tk, os⟩ := I1.laid (t' := tk) (o := exo a C none) kk ge (exo_ok ga)
  have r2 : Vals (V.ref a :: (vs ++ [])) (Value.ref a :: (us ++ [])) := .cons rfl (r1.append .nil)
  have lu : us.length ≤ sizeLine := by
    have := Paired.length r1; have : (1000 : Nat) ≤ sizeLine := by decide
    omega
  have ll : (Value.ref a :: us ++ []).length = (["self", f] : List Str).length := (r2.length).symm.trans (F1.len _ _ _ _ hq)
  have bb := T.b ⟨(hp.push (PySem.W.kdv_tup us)).push (PySem.HandSPX.excO C hp.objs.size), g, dr, tk, os⟩ (Value.ref a :: us) I2.kIn ll
  subst ea
  refine wpAny_call (PySem.HandSPX.call_own F.excBase_ValueError (fun Y => PySem.HandSPX.refsVE_contains Y bm vbm) (I1.kIn _ _ lkC) (PySem.W.looks_findIn I1.kIn T.iC) (fun self => PySem.W.bind_fn I1.kIn self T.tI) lu
    (codeAny_mono (F1.run _ X.stack _ _ ⟨Value.ref _ :: us, []⟩ _ _ _ (fun _ _ _ => False) (hr.make C us []) (I2.env0.make C us []) bb r2 hq) fun r s2 z => ?_))
  match r, z with
  | .error _, z => exact False.elim z
  | .ok .next, z => exact False.elim z
  | .ok .brk, z => exact False.elim z
  | .ok .cont, z => exact False.elim z
  | .ok (.ret u), ⟨v, H2, os2, bare2, un2, hok2, rv, ev, d, fs, e1, e2, e3, q2⟩ =>
    subst ev
    obtain ⟨h2, g2, d2, t2, os3⟩ := s2
    obtain ⟨t0, G, J, kG, gn, go, na⟩ := mk_end0 (d2 := d2) (t2 := t2) I1 ge kk un2 hok2 os2 bare2 e1 e2 e3
    exact ⟨rv, _, _, _, ⟨G, g2, d2, t2, os3⟩, _, .ref C, some d, rfl, J, kG, gn, go, ⟨rfl, rfl, fun vs z => by cases z; rfl⟩, rfl, rfl, na, rfl, bare2, raises_own T.ox.exC T.ox.tyC, q2⟩
/-- a def that may raise so -/
theorem Fun.okN {P : Program} {w : World} {K : PySem.W.Frag} {mg : Str → Option Value} {base : Heap} {x qual : Str} {st : Stmt} {f : Addr} {fd : FuncData} {N ps : List Str} {k : Nat} {sp : Sp} (F : Fun K x qual st f fd) (S : FnScope N ps (defScope st))
    (len : ∀ vs H Q E, sp vs H Q E → vs.length = ps.length) (body : ∀ (cdv : Value) (A : Around) (outer : List Env) (s : Shared) (H : Hp) (vs : List V) (Q : VK) (E : XK), Room k (A.deeper (envOfC qual (defScope st) s.heap.objs.size f cdv)) → sp vs H Q E →
      ∃ t, PSs (cxOf (L2N.CX P w) P w K mg base N qual (defScope st) f cdv A outer s H E) (defBody st) t ∧ t { nx := fun _ H' => Q .non H', rt := Q } (start N vs) H) : FnOk P w K mg base (L2N.CX P w) (k + 1) f fd ps sp := by
  obtain ⟨oc, od, kV, doc, pm, an, cdv, ct, osl, rfl, lk, hcd⟩ := F.ex
  exact fn_of lk hcd S len fun A outer s H vs Q E hr z => body cdv A outer s H vs Q E hr z
/-- a def called while an error is handled -/
theorem Fun.okH {P : Program} {w : World} {K : PySem.W.Frag} {mg : Str → Option Value} {base : Heap} {x qual : Str} {st : Stmt} {f : Addr} {fd : FuncData} {N ps : List Str} {k : Nat} {sp : Sp} (F : Fun K x qual st f fd) (S : FnScope N ps (defScope st))
    (len : ∀ vs H Q E, sp vs H Q E → vs.length = ps.length) (body : ∀ (cdv : Value) (A : Around) (outer : List Env) (s : Shared) (H : Hp) (vs : List V) (Q : VK) (E : XK) (p : Addr × Obj), L2H.Hot1 A p → L2H.RoomH k (A.deeper (envOfC qual (defScope st) s.heap.objs.size f cdv)) → sp vs H Q E →
      ∃ t, PSs (L2H.cxH CX0 P w K mg base N qual (defScope st) f cdv A outer s H E p).nox (defBody st) t ∧ t { nx := fun _ H' => Q .non H', rt := Q } (start N vs) H) : L2H.FnH P w K mg base CX0 (k + 1) f fd ps sp := by
  obtain ⟨oc, od, kV, doc, pm, an, cdv, ct, osl, rfl, lk, hcd⟩ := F.ex
  refine L2H.fn_ofH lk hcd S len fun A outer s H vs Q E p hot hr z => ?_
  obtain ⟨t, h1, h2⟩ := body cdv A outer s H vs Q E p hot hr z
  exact ⟨t, h1.nox, h2⟩
end
section
variable {X : Cx} {x n : Str} {c : Value} {i : Nat} {body suite : List Stmt} {hds : List ExceptHandler} {b₀ : Stmt} {np pos pos' : Pos} {tb : WX → TS} {ts : Addr → Value → Option Addr → TS} {pins : List (Addr × Obj)}
theorem ps_try_hitN (st : X.stack = X.env :: X.outer) (fr : X.env.frame = some X.env.locals) (ndN : X.N.Nodup) (ni : X.N[i]? = some n) (nl : X.env.kindOf n = some .local) (nc : Names X x c)
    (hB : ∀ (W : WX) (ps : List (Addr × Obj)) (xe : Value → Shared → Prop), L2N.Takes (X.tr ps xe) W → PassesOwn (model X.prog X.w) X.A X.env xe → PSs (X.tr ps xe) body (tb W))
    (hS : ∀ (a : Addr) (o : Obj) (cls : Value) (d : Option Addr) (ps : List (Addr × Obj)), L2N.Zn cls d o → (∃ vs, o.data = .fields vs) → PSs (X.suite a ((a, o) :: ps)) (b₀ :: suite) (ts a cls d)) :
    PS X (.Try body (.ExceptHandler (some (.Name x np)) (some n) (b₀ :: suite) pos' :: hds) [] [] pos) (fun D σ H => tb (wHit X.K c i ts D) D σ H) := by
  refine ⟨fun pins s σ H D I h => wpAny_Try_except ?_⟩
  have fr2 : X.A.frames = some (X.env :: X.outer) := I.ok.frames.trans (congrArg some st)
  refine wpAny_mono ((hB _ (X.pn ++ pins) (fun e s₁ => wpAny (model X.prog X.w) X.A (noteFrame e X.env) (fun _ s₂ => wpAny (model X.prog X.w) X.A (setFlight e none) (fun _ s₃ => wpAny (model X.prog X.w) X.A
    (handleBy e X.env (.ExceptHandler (some (.Name x np)) (some n) (b₀ :: suite) pos' :: hds)) (SP X pins D) X.xe s₃) X.xe s₂) X.xe s₁) (fun u t xx => ?_) PassesOwn.looking).run [] s σ H D (I.toTry _) h) (fun f t q => ?_) (fun _ _ z => z)
  case refine_2 =>
    have q' := flow_out (pins := pins) I.ok q
    cases f with
    | next => exact wpAny_execs_nil q'
    | _ => exact q'
  obtain ⟨a, B, t0, ps, σ1, H1, cls, d, eu, J0, nB, u1, sk, na, eo, bare, hit, go⟩ := xx
  subst eu
  have J := J0.ofTry I.ok
  rw [show (X.tr (X.pn ++ pins) _).stack = X.env :: X.outer from st] at sk
  refine L2N.Sky.land L2N.Zn.steady fr2 fr sk fun h3 f3 u3 => ?_
  have J3 : Inv X pins σ1 H1 { t with heap := h3 } := J.landed nB f3.1 (u1.trans u3) eo bare
  obtain ⟨o3, v3, g3, z3, d3⟩ := f3.there
  have out := no_frame f3.2.2.1 g3 d3
  have aL : a ≠ X.env.locals := fun e => out (List.mem_filterMap.mpr ⟨X.env, .head _, by rw [e]; exact fr⟩)
  have aF : a ∉ X.fs := fun m => out (by rw [show frs (X.env :: X.outer) = X.env.locals :: frs X.outer from List.filterMap_cons_some fr]; exact .tail _ m)
  refine wpAny_handleBy_cons (codeAny_handlers_test (names_it nc (J3.suite g3 d3 na aL aF) ?_)) (by intro z; cases z)
  refine (PySem.W.exm_one (M := model X.prog X.w) J3.kIn (fun _ _ _ _ k z => wpAny_typeOf_ref (k _ _ g3) (by rw [z3.1]; exact z)) hit).here ?_
  refine codeAny_handlers_suite_as (HandSPX.lands_againZ f3 fun h4 f4 u4 => ?_)
  have J4 : Inv X pins σ1 H1 { t with heap := h4 } := J.landed nB f4.1 ((u1.trans u3).trans u4) eo bare
  obtain ⟨o4, v4, g4, z4, d4⟩ := f4.there
  refine store_ok (X := Cx.suite X a ((a, o4) :: (X.pn ++ pins))) (v := .ref a) (J4.suite g4 d4 na aL aF) ndN ni (.inl nl) rfl (fun t5 S5 => ?_) (.inr nl)
  refine wpAny_mono ((hS a o4 cls d (X.pn ++ pins) z4 ⟨_, d4⟩).run [] t5 _ H1 _ S5 (go a na)) (fun f t6 q => ?_) (fun _ _ z => z.elim)
  cases f with
  | ret u => exact let ⟨v6, σ6, H6, S6, r6, q6⟩ := q; gone_ok (S6.unsuite I.ok) ndN ni nl fun t7 J7 => ⟨v6, _, H6, J7, r6, q6⟩
  | next => exact let ⟨σ6, H6, S6, q6⟩ := q; gone_ok (S6.unsuite I.ok) ndN ni nl fun t7 J7 => ⟨_, H6, J7, q6⟩
  | brk => exact let ⟨σ6, H6, S6, q6⟩ := q; gone_ok (S6.unsuite I.ok) ndN ni nl fun t7 J7 => ⟨_, H6, J7, q6⟩
  | cont => exact let ⟨σ6, H6, S6, q6⟩ := q; gone_ok (S6.unsuite I.ok) ndN ni nl fun t7 J7 => ⟨_, H6, J7, q6⟩
/-- the suite's context bears the error -/
theorem hot_suite {a : Addr} {o : Obj} {cls : Value} {d : Option Addr} {ps : List (Addr × Obj)} (z : L2N.Zn cls d o) (h : ∃ vs, o.data = .fields vs) : L2H.HotC (X.suite a ((a, o) :: ps)) :=
  let ⟨vs, e⟩ := h
  ⟨(a, o), ⟨rfl, vs, e, z.2.2 vs e⟩, List.mem_cons_self⟩
theorem passN : Passes (L2N.CX X.prog X.w) X E0 := fun _ _ _ _ _ _ _ h => let ⟨_, _, _, _, _, _, _, _, _, _, _, _, z⟩ := h; z.elim
/-- nothing leaves a suite -/
theorem pass_at0 {σ : L2.St} : PassesAt CX0 X σ (fun _ _ _ => False) := fun _ _ _ _ _ _ h => h.elim
end
theorem unitsH {k : Nat} {A : Around} (r : L2H.RoomH k A) : A.units + 64 < cLine := by
  have := r.un
  omega
end RK

namespace RK
open PySem PySem.Spec PyProof.Rows L2 PySem.Builtin.Str
/-! ### {n:04x} of a word -/
def hx (k : Nat) : Nat := if k < 10 then 48 + k else 87 + k
def hexd (n : Nat) : List Nat := [hx (n / 4096), hx (n / 256 % 16), hx (n / 16 % 16), hx (n % 16)]
theorem hx_char : ∀ k : _root_.Fin 16, (Nat.digitChar k.val).toNat = hx k.val := by decide +kernel
theorem tod16 {n : Nat} (h : n < 65536) : (Nat.toDigits 16 n).length ≤ 4 ∧ List.replicate (4 - (Nat.toDigits 16 n).length) 48 ++ (Nat.toDigits 16 n).map Char.toNat = hexd n := by
  have hc : ∀ k, k < 16 → (Nat.digitChar k).toNat = hx k := fun k hk => hx_char ⟨k, hk⟩
  have z : hx 0 = 48 := rfl
  have base : ∀ k, k < 16 → Nat.toDigits 16 k = [Nat.digitChar k] := fun k hk => Nat.toDigits_of_lt_base hk
  have step : ∀ k, 16 ≤ k → Nat.toDigits 16 k = Nat.toDigits 16 (k / 16) ++ [Nat.digitChar (k % 16)] := fun k hk => Nat.toDigits_of_base_le (by decide) hk
  unfold hexd
  by_cases h1 : n < 16
  · rw [base n h1, show n / 4096 = 0 by omega, show n / 256 % 16 = 0 by omega, show n / 16 % 16 = 0 by omega, show n % 16 = n by omega]
    refine ⟨show 1 ≤ 4 by decide, ?_⟩
    show List.replicate 3 48 ++ [(Nat.digitChar n).toNat] = _
    rw [hc n h1]
    rfl
  rw [step n (by omega)]
  by_cases h2 : n / 16 < 16
  · rw [base (n / 16) h2, show n / 4096 = 0 by omega, show n / 256 % 16 = 0 by omega, show n / 16 % 16 = n / 16 by omega]
    refine ⟨show 2 ≤ 4 by decide, ?_⟩
    show List.replicate 2 48 ++ [(Nat.digitChar (n / 16)).toNat, (Nat.digitChar (n % 16)).toNat] = _
    rw [hc _ h2, hc _ (Nat.mod_lt _ (by decide))]
    rfl
  rw [step (n / 16) (by omega)]
  by_cases h3 : n / 16 / 16 < 16
  · rw [base (n / 16 / 16) h3, show n / 4096 = 0 by omega, show n / 256 % 16 = n / 16 / 16 by omega]
    refine ⟨show 3 ≤ 4 by decide, ?_⟩
    show List.replicate 1 48 ++ [(Nat.digitChar (n / 16 / 16)).toNat, (Nat.digitChar (n / 16 % 16)).toNat, (Nat.digitChar (n % 16)).toNat] = _
    rw [hc _ h3, hc _ (Nat.mod_lt _ (by decide)), hc _ (Nat.mod_lt _ (by decide))]
    rfl
  rw [step (n / 16 / 16) (by omega), base (n / 16 / 16 / 16) (by omega), show n / 4096 = n / 16 / 16 / 16 by omega, show n / 256 = n / 16 / 16 by omega]
  refine ⟨show 4 ≤ 4 by decide, ?_⟩
  show List.replicate 0 48 ++ [(Nat.digitChar (n / 16 / 16 / 16)).toNat, (Nat.digitChar (n / 16 / 16 % 16)).toNat, (Nat.digitChar (n / 16 % 16)).toNat, (Nat.digitChar (n % 16)).toNat] = _
  rw [hc _ (by omega), hc _ (Nat.mod_lt _ (by decide)), hc _ (Nat.mod_lt _ (by decide)), hc _ (Nat.mod_lt _ (by decide))]
  rfl
section
variable {X : Cx}
open Builtin PySem.W Builtin.Float
abbrev sp4 : Str := ⟨#[48, 52, 120]⟩
theorem ret_text2 {M : Model} {A : Around} {E : Value → Shared → Prop} {s : Shared} {X T : PySem.Str} {Q : Fin → Shared → Prop} (e : X = T) (hL : T.length ≤ sizeLine) (h : ∀ t k, Q (.done (.ret (.str T t))) { s with toks := k }) : wpAny M A (retStr X) Q E s := by
  subst e
  exact KXf.ret_text rfl hL h
def f4 : Builtin.Float.FormatSpec := { fill := 48, align := 61, width := some 4, type := some 120 }
theorem fmt4_meets {n : Nat} (h : n < 65536) (t u : Tok) : Meets («int.__format__» ⟨[.int (n : Int) t, .str sp4 u], []⟩) (fun _ R s => ∀ t' k, R (.ok (.ret (.str (sO (hexd n)) t'))) { s with toks := k }) := by
  apply KPc.meets_of
  intro prog w A s Q E hq
  unfold Builtin.«int.__format__»
  refine wpAny_bind (wpAny_of_eq (a := (_, _)) rfl ?_)
  refine wpAny_bind (wpAny_of_eq (a := _) rfl ?_)
  refine wpAny_ite (KPc.ite_no Bool.false_ne_true ?_)
  refine wpAny_bind (wpAny_typeNameOf (T := "str") (typeIs_str _ _ _) (by decide) fun _ => ?_)
  refine wpAny_bind (wpAny_of_eq (a := some _) rfl ?_)
  refine wpAny_ite (KPc.ite_no (by decide) ?_)
  refine wpAny_ite (KPc.ite_no (by decide) ?_)
  refine wpAny_bind (wpAny_typeNameOfCut_int ?_)
  have hp : parseFormatSpec sp4.cps.toList "int" 62 = .ok f4 := rfl
  have hty : f4.type.getD (if (sp4.cps.back? == some 0) = true then 0 else 100) = 120 := rfl
  have h1 : f4.precision = none := rfl
  have h2 : f4.noNeg0 = false := rfl
  have h3 : f4.alt = false := rfl
  have h4 : f4.width = some 4 := rfl
  have h5 : f4.grouping = none := rfl
  have h6 : f4.sign = none := rfl
  have h7 : f4.fill = 48 := rfl
  have h8 : f4.align = 61 := rfl
  obtain ⟨f, hf⟩ : ∃ f, f = f4 := ⟨_, rfl⟩
  rw [← hf] at hp hty h1 h2 h3 h4
  simp only [hp, hty]
  rw [if_pos (by decide)]
  show wpAny _ _ (if _ then _ else _) _ _ _
  rw [if_neg (by simp [h1])]
  show wpAny _ _ (if _ then _ else _) _ _ _
  rw [if_neg (by simp [h2])]
  show wpAny _ _ (if _ then _ else _) _ _ _
  rw [if_neg (by decide)]
  show wpAny _ _ (if _ then _ else _) _ _ _
  rw [if_neg (by decide)]
  show wpAny _ _ (if _ then _ else _) _ _ _
  rw [if_neg (by simp [h4])]
  refine ret_text2 (T := sO (hexd n)) ?_ ?_ hq
  case refine_1 =>
    obtain ⟨hl, ht⟩ := tod16 h
    simp only [h3, Bool.false_eq_true, if_false, Int.natAbs_natCast, decide_eq_false (by omega : ¬ (n : Int) < 0), show ((120 : Nat) == 88) = false by decide, show ((16 : Nat) == 10) = false by decide]
    generalize Nat.toDigits 16 n = ds at hl ht
    subst hf
    conv => lhs; whnf
    simp only [h4, h5, h6, h7, h8, List.length_nil, Bool.false_eq_true, if_false, beq_self_eq_true, Bool.and_self, if_true]
    have e4 : ((4 : Nat) : Int) - (((0 : Nat) : Int) + ((0 : Nat) : Int) + ((0 : Nat) : Int)) = 4 := by decide
    rw [e4]
    clear h1 h2 h3 h4 h5 h6 h7 h8 hty hp hq
    cases ds with
    | nil =>
      show _ = sO (hexd n)
      rw [← ht]
      rfl
    | cons c r =>
      have hm : ((c :: r).map Char.toNat).length = (c :: r).length := List.length_map ..
      show (⟨(([] ++ [] ++ [] ++ List.replicate (4 - ((List.replicate (4 - ((c :: r).map Char.toNat).length) 48 ++ (c :: r).map Char.toNat).length : Int)).toNat 48 ++ (List.replicate (4 - ((c :: r).map Char.toNat).length) 48 ++ (c :: r).map Char.toNat)) ++ [] ++ []).toArray⟩ : Str) = _
      rw [hm, ht]
      rfl
  case refine_2 => exact Nat.le_trans (show 4 ≤ 100 by decide) (by decide)
/-- {e:04x} of a word -/
def tF4 (te : TE) : TE := fun σ H Q => te σ H fun x H1 => ∃ n : Nat, x = .int (n : Int) ∧ n < 65536 ∧ Q (.str (sO (hexd n))) H1
theorem pe_fmt4 {e spec : Expr} {te : TE} {pos : Pos} (he : PE X e te) (hs : PE X spec (tC (.str (Str.ofString "04x")))) : PE X (.FormattedValue e (-1) (some spec) pos) (tF4 te) := by
  refine ⟨fun pins s σ H Q I h => ?_⟩
  refine wpAny_FormattedValue_spec (thn (he.run pins s σ H _ I h) fun v s1 ⟨x, H1, I1, r1, q⟩ => ?_)
  obtain ⟨n, rfl, hn, q⟩ := q
  obtain ⟨t, rfl⟩ := r1
  refine thn (hs.run pins s1 σ H1 (fun x H2 => x = .str (Str.ofString "04x") ∧ Q (.str (sO (hexd n))) H2) I1 ⟨rfl, q⟩) fun u s2 ⟨y, H2, I2, r2, ey, q2⟩ => ?_
  subst ey
  obtain ⟨t2, rfl⟩ := r2
  refine ⟨_, _, rfl, KXf.field_int (spec' := sp4) (by decide +kernel) rfl (by decide) (fun u => fmt4_meets hn _ u) fun t' k => ⟨.str _, H2, I2.tok _, ⟨_, rfl⟩, q2⟩⟩
end
/-! digits -/
abbrev HXD : List Nat := (Str.ofString "0123456789abcdef").cps.toList
/-- a digit's value -/
def dv (c : Nat) : Nat := if c ≤ 57 then c - 48 else c - 87
theorem HXD_eq : HXD = (List.range 16).map hx := by decide +kernel
theorem hx_mem {k : Nat} (h : k < 16) : hx k ∈ HXD := by
  rw [HXD_eq]
  exact List.mem_map.mpr ⟨k, List.mem_range.mpr h, rfl⟩
theorem hxd_of {c : Nat} (h : c ∈ HXD) : ∃ k, k < 16 ∧ c = hx k := by
  rw [HXD_eq] at h
  obtain ⟨k, h1, h2⟩ := List.mem_map.mp h
  exact ⟨k, List.mem_range.mp h1, h2.symm⟩
theorem hx_dv : ∀ k : _root_.Fin 16, dv (hx k.val) = k.val := by decide +kernel
theorem hx_find : ∀ k : _root_.Fin 16, Txt.find (Str.ofString "0123456789abcdef") (sO [hx k.val]) = (k.val : Int) := by decide +kernel
theorem hx_occ : ∀ k : _root_.Fin 16, occurrences (Str.ofString "0123456789abcdef") (sO [hx k.val]) 0 (Str.ofString "0123456789abcdef").length 1 = [k.val] := by decide +kernel
theorem hx_at : ∀ k : _root_.Fin 16, (Str.ofString "0123456789abcdef").cps.toList[k.val]? = some (hx k.val) := by decide +kernel
theorem find_dv {c : Nat} (h : c ∈ HXD) : Txt.find (Str.ofString "0123456789abcdef") (sO [c]) = (dv c : Int) := by
  obtain ⟨k, hk, rfl⟩ := hxd_of h
  rw [hx_find ⟨k, hk⟩, hx_dv ⟨k, hk⟩]
theorem occ_dv {c : Nat} (h : c ∈ HXD) : occurrences (Str.ofString "0123456789abcdef") (sO [c]) 0 (Str.ofString "0123456789abcdef").length 1 = [dv c] := by
  obtain ⟨k, hk, rfl⟩ := hxd_of h
  rw [hx_occ ⟨k, hk⟩, hx_dv ⟨k, hk⟩]
/-- the first place that is no digit | the length, if it is no multiple of four -/
def fbad (l : List Nat) : Option Nat := match l.findIdx? (fun c => !decide (c ∈ HXD)) with
  | some i => some i
  | none => if l.length % 4 = 0 then none else some l.length
theorem fbad_at {l : List Nat} {i : Nat} (hi : i < l.length) (h : l.getD i 0 ∉ HXD) (hp : ∀ j, j < i → l.getD j 0 ∈ HXD) : fbad l = some i := by
  have e : l.findIdx? (fun c => !decide (c ∈ HXD)) = some i := by
    rw [List.findIdx?_eq_some_iff_getElem]
    refine ⟨hi, ?_, fun j hj => ?_⟩
    · rw [List.getD_eq_getElem?_getD, List.getElem?_eq_getElem hi] at h
      have h2 : l[i] ∉ HXD := h
      rw [decide_eq_false h2]
      rfl
    · have := hp j hj
      rw [List.getD_eq_getElem?_getD, List.getElem?_eq_getElem (by omega)] at this
      have h2 : l[j] ∈ HXD := this
      rw [decide_eq_true h2]
      decide
  unfold fbad
  rw [e]
theorem fbad_all {l : List Nat} (h : ∀ j, j < l.length → l.getD j 0 ∈ HXD) : fbad l = if l.length % 4 = 0 then none else some l.length := by
  have e : l.findIdx? (fun c => !decide (c ∈ HXD)) = none := by
    rw [List.findIdx?_eq_none_iff]
    intro c hc
    obtain ⟨j, hj, rfl⟩ := List.mem_iff_getElem.mp hc
    have := h j hj
    rw [List.getD_eq_getElem?_getD, List.getElem?_eq_getElem hj] at this
    have h2 : l[j] ∈ HXD := this
    rw [decide_eq_true h2]
    rfl
  unfold fbad
  rw [e]
theorem fbad_none {l : List Nat} (h : fbad l = none) : (∀ c ∈ l, c ∈ HXD) ∧ l.length % 4 = 0 := by
  unfold fbad at h
  cases e : l.findIdx? (fun c => !decide (c ∈ HXD)) with
  | some i => rw [e] at h; cases h
  | none =>
    rw [e] at h
    have h2 : (if l.length % 4 = 0 then none else some l.length) = none := h
    refine ⟨fun c hc => ?_, ?_⟩
    · have := List.findIdx?_eq_none_iff.mp e c hc
      apply Decidable.byContradiction
      intro z
      rw [decide_eq_false z] at this
      cases this
    · apply Decidable.byContradiction
      intro z
      rw [if_neg z] at h2
      cases h2
def val4 (l : List Nat) : Nat := l.foldl (fun a c => a * 16 + dv c) 0
theorem val4_app (l : List Nat) (c : Nat) : val4 (l ++ [c]) = val4 l * 16 + dv c := by
  unfold val4
  rw [List.foldl_append]
  rfl
/-- the words of a text of digits -/
def rdw (l : List Nat) : List Nat := (List.range (l.length / 4)).map fun k => val4 ((l.drop (4 * k)).take 4)
theorem val4_hexd {w : Nat} (h : w ≤ 65535) : val4 (hexd w) = w := by
  have e : ∀ k, k < 16 → dv (hx k) = k := fun k hk => hx_dv ⟨k, hk⟩
  show (((0 * 16 + dv (hx (w / 4096))) * 16 + dv (hx (w / 256 % 16))) * 16 + dv (hx (w / 16 % 16))) * 16 + dv (hx (w % 16)) = w
  rw [e _ (by omega), e _ (by omega), e _ (by omega), e _ (by omega)]
  omega
theorem flat_hexd (ws : List Nat) : (ws.flatMap hexd).length = 4 * ws.length := by
  induction ws with
  | nil => rfl
  | cons x r ih =>
    rw [List.flatMap_cons, List.length_append, ih, List.length_cons]
    show 4 + _ = _
    omega
theorem rdw_flat {ws : List Nat} (h : ∀ w ∈ ws, w ≤ 65535) : rdw (ws.flatMap hexd) = ws := by
  unfold rdw
  rw [flat_hexd, show 4 * ws.length / 4 = ws.length by omega]
  apply List.ext_getElem?
  intro i
  by_cases hi : i < ws.length
  · rw [List.getElem?_map, List.getElem?_range hi]
    have e : ∀ (ws : List Nat) (i : Nat), i < ws.length → ((ws.flatMap hexd).drop (4 * i)).take 4 = hexd (ws.getD i 0) := fun ws => by
      induction ws with
      | nil => intro i hi; exact absurd hi (Nat.not_lt_zero _)
      | cons x r ih =>
        intro i hi
        cases i with
        | zero => rfl
        | succ i =>
          rw [List.flatMap_cons, show 4 * (i + 1) = 4 * i + 4 by omega]
          have := ih i (by simpa using hi)
          show ((hexd x ++ _).drop (4 * i + 4)).take 4 = _
          rw [show 4 * i + 4 = (hexd x).length + 4 * i from by show _ = 4 + 4 * i; omega, List.drop_length_add_append]
          exact this
    show some (val4 _) = _
    rw [e ws i hi, List.getD_eq_getElem?_getD, List.getElem?_eq_getElem hi]
    exact congrArg some (val4_hexd (h _ (List.getElem_mem hi)))
  · rw [List.getElem?_eq_none (by simp; omega), List.getElem?_eq_none (by omega)]
theorem fbad_flat {ws : List Nat} (hw : ∀ w ∈ ws, w ≤ 65535) : fbad (ws.flatMap hexd) = none := by
  have hm : ∀ c ∈ ws.flatMap hexd, c ∈ HXD := fun c hc => by
    obtain ⟨w, h1, h⟩ := List.mem_flatMap.mp hc
    have := hw w h1
    unfold hexd at h
    rcases List.mem_cons.mp h with z | h
    · rw [z]; exact hx_mem (by omega)
    rcases List.mem_cons.mp h with z | h
    · rw [z]; exact hx_mem (by omega)
    rcases List.mem_cons.mp h with z | h
    · rw [z]; exact hx_mem (by omega)
    rw [List.mem_singleton.mp h]
    exact hx_mem (by omega)
  rw [fbad_all fun j hj => by rw [List.getD_eq_getElem?_getD, List.getElem?_eq_getElem hj]; exact hm _ (List.getElem_mem hj), flat_hexd, if_pos (by omega)]
theorem cut_mid (l : List Nat) (a b : Nat) (h : a ≤ b) : cutS (sO l) (some (a : Int)) (some (b : Int)) = sO ((l.drop a).take (b - a)) := by
  show (⟨((l.drop (HT.sIx l.length 0 (some (a : Int)))).take (HT.sIx l.length l.length (some (b : Int)) - HT.sIx l.length 0 (some (a : Int)))).toArray⟩ : Str) = _
  rw [HT.sIx_nat, HT.sIx_nat]
  have e : (l.drop (min a l.length)).take (min b l.length - min a l.length) = (l.drop a).take (b - a) := by
    by_cases h1 : a ≤ l.length
    · rw [Nat.min_eq_left h1]
      by_cases h2 : b ≤ l.length
      · rw [Nat.min_eq_left h2]
      · rw [Nat.min_eq_right (by omega), List.take_of_length_le (by rw [List.length_drop]; omega), List.take_of_length_le (by rw [List.length_drop]; omega)]
    · have h3 : min a l.length = l.length := by omega
      rw [h3, List.drop_length, List.drop_of_length_le (by omega)]
      simp
  rw [e]
  rfl
end RK

namespace RK
open PySem PySem.Spec PyProof.Rows L2 PySem.Builtin.Str
/-! ### enumerate(text) -/
def Itse (x : Str) : It := ⟨fun i _ => i < x.cps.size, fun i H v H' => ∃ T c, v = .ref T ∧ H T = none ∧ H' = upd H T (.tup [.int (i : Nat), .str ⟨#[c]⟩]) ∧ x.cps[i]? = some c, fun i _ => x.cps.size ≤ i⟩
theorem draws_str {prog : Program} {w : World} {A : Around} (hh : A.handled = none) (it : Addr) (x : Str) (t : Tok) :
    Draws prog w A it [it] x.cps.size (fun i v => ∃ c u, x.cps[i]? = some c ∧ v = .str ⟨#[c]⟩ u) (fun i h => h.IsStrIter it (strIterType x) x t i) := by
  unfold strIterType
  cases x.cps.all (· < 128)
  · exact Draws.strWide hh it x t
  · exact Draws.strAscii hh it x t
theorem turn_enumS {P : Program} {w : World} {K : PySem.W.Frag} {elts : List Expr} {kk : Nat} {tpos : Pos} (x : Str) (t : Tok) (e it : Addr) :
    Turn P w K (.Tuple elts kk tpos) (Itse x) [e, it] e (fun i h => (∃ old, IsEnum h e it ((i : Nat) : Int) old) ∧ h.IsStrIter it (strIterType x) x t i ∧ e ≠ it ∧ i ≤ x.cps.size) where
  mem := by simp
  obj := fun i h st b hb => by
    obtain ⟨⟨old, he⟩, ⟨o, ho, hc, hd⟩, _⟩ := st
    have e' : b = e ∨ b = it := by simpa using hb
    rcases e' with z | z
    · rw [z]; exact ⟨_, he, fun v q => nomatch q⟩
    · rw [z]; exact ⟨o, ho, fun v q => by rw [hd] at q; cases q⟩
  keep := fun i h h' st k => let ⟨⟨old, he⟩, ⟨o, ho, r⟩, hne, hle⟩ := st; ⟨⟨old, k e (by simp) _ he⟩, ⟨o, k it (by simp) o ho, r⟩, hne, hle⟩
  item := by
    intro X hP hw hK hc i pins s σ H E I hf st hg
    subst hP hw hK
    obtain ⟨⟨old, he⟩, hit, hne, hle⟩ := st
    have hel : e < s.heap.objs.size := Heap.lt_size he
    have hil : it < s.heap.objs.size := by obtain ⟨_, q, _⟩ := hit; exact Heap.lt_size q
    have D := draws_str (A := X.A.in1) (prog := X.prog) (w := X.w) (show X.A.in1.handled = none from I.ok.hd hc) it x t
    refine wpAny_pyNext_enum_itemD D he hit hg hne (by simpa using hne) fun u h' tk hu ho hit' hT hsz hk => ?_
    obtain ⟨c, tc, hcx, rfl⟩ := hu
    refine ⟨_, rfl, wpAny_letOwnedTupleGo_enum (s := { s with heap := h', toks := tk + 1 }) ho fun h'' he' sb => ?_⟩
    have hT2 : h''.get? s.heap.objs.size = some { cls := .type "tuple", data := .seq #[.int i tk, .str ⟨#[c]⟩ tc] } := (sb.2 _ (Nat.ne_of_gt hel)).trans hT
    have new : ObjOk X.prog X.w (upd H s.heap.objs.size (.tup [.int (i : Nat), .str ⟨#[c]⟩])) h'' s.heap.objs.size (.tup [.int (i : Nat), .str ⟨#[c]⟩]) :=
      ⟨by show 2 ≤ sizeLine; decide, [.int i tk, .str ⟨#[c]⟩ tc], .cons ⟨_, rfl⟩ (.cons ⟨_, rfl⟩ .nil), ⟨_, hT2, rfl, _, rfl⟩⟩
    have I1 : Inv X pins σ (upd H s.heap.objs.size (.tup [.int (i : Nat), .str ⟨#[c]⟩])) { s with heap := h'', toks := tk + 1 } :=
      I.turnedNew (ch := [e, it]) (fun b ob hb q => (sb.2 b (fun z => hb (by simp [z]))).trans (hk b ob (fun z => hb (by simp [z])) (fun z => hb (by simp [z])) q)) hf (Nat.le_refl _) new
    refine ⟨.ref s.heap.objs.size, _, I1, rfl, ⟨_, c, rfl, I.hok.fresh (Nat.le_refl _), rfl, hcx⟩, ⟨⟨.str ⟨#[c]⟩ tc, ?_⟩, ?_, hne, hg⟩, fun b hb => ?_⟩
    · have e1 : ((i + 1 : Nat) : Int) = (i : Int) + 1 := by omega
      rw [e1]; exact he'
    · obtain ⟨o, ho2, r⟩ := hit'
      exact ⟨o, (sb.2 it (Ne.symm hne)).trans ho2, r⟩
    · have hb' : b < s.heap.objs.size := by
        have e' : b = e ∨ b = it := by simpa using hb
        rcases e' with z | z
        · rw [z]; exact hel
        · rw [z]; exact hil
      rw [upd_ne (Nat.ne_of_lt hb')]
      exact (hf b hb).1
  done := by
    intro X hP hw hK hc i pins s σ H E I hf st hg
    subst hP hw hK
    obtain ⟨⟨old, he⟩, hit, hne, hle⟩ := st
    obtain ⟨f0, f1, f2, f3, f4, f5⟩ := hf it (by simp)
    have ei : i = x.cps.size := Nat.le_antisymm hle hg
    have D := draws_str (A := X.A.in1) (prog := X.prog) (w := X.w) (show X.A.in1.handled = none from I.ok.hd hc) it x t
    subst ei
    exact wpAny_pyNext_enum_endD D he hit fun h' eb => ⟨rfl, I.turned (t' := s.toks) (fun b o hb q => eb b o hb q) f0 f1 f3 f4 f5⟩
  self := fun A i s Q E st h => let ⟨⟨_, he⟩, _⟩ := st; wpAny_pyIter_enum he h
/-- the text at each turn, each sign in a new pair -/
def iEnS (ta : TA) : TI := fun σ H R => ta σ H fun vs H1 => ∃ x, vs = [.str x] ∧ R (Itse x) H1
theorem pi_enumS {X : Cx} {e : Expr} {ta : TA} {p pos tpos : Pos} {elts : List Expr} {kk : Nat} (hg : Gl X "enumerate") (hm : X.mg "enumerate" = none) (ha : PA X [e] ta) (hs : starEach [e] X.env = [(false, eval e X.env)] := by rfl) :
    PI X (.Tuple elts kk tpos) (.Call (.Name "enumerate" p) [e] [] pos) (iEnS ta) := by
  refine ⟨fun pins s σ H R I h => ?_⟩
  refine Call_ (ld_blt I hg hm boot_enumerate (PyProof.Rows.callWith_type1 (thn (ha.run pos pins s σ H _ I h) fun us s1 ⟨vs, H1, I1, r1, q1⟩ => ?_) hs rfl))
  obtain ⟨x, ex, q⟩ := q1
  subst ex
  cases r1 with
  | cons r rr =>
    cases rr
    obtain ⟨t, rfl⟩ := r
    refine call_enumerate_str fun h' he hit hsz hk => wpAny_pyIter_enum he ?_
    have I2 : Inv X pins σ H1 { s1 with heap := h' } := I1.kept (t' := s1.toks) hk
    refine ⟨s1.heap.objs.size + 1, [s1.heap.objs.size + 1, s1.heap.objs.size], _, _, H1, rfl, I2, turn_enumS x t (s1.heap.objs.size + 1) s1.heap.objs.size, ⟨⟨.none, he⟩, hit, Nat.succ_ne_self _, Nat.zero_le _⟩, fun b hb => ?_, q⟩
    have e' : b = s1.heap.objs.size + 1 ∨ b = s1.heap.objs.size := by simpa using hb
    have hge : s1.heap.objs.size ≤ b := by
      rcases e' with z | z
      · rw [z]; omega
      · rw [z]; omega
    exact I1.fpOk hge (I1.hok.fresh hge)
theorem walk_enumS {x : Str} : Walk (Itse x) x.cps.size (fun _ => True) (fun i H v H' => ∃ T c, v = .ref T ∧ H T = none ∧ H' = upd H T (.tup [.int (i : Nat), .str ⟨#[c]⟩]) ∧ x.cps[i]? = some c) :=
  ⟨fun i H hi _ => hi, fun H _ => Nat.le_refl _, fun i H v H' _ _ y => y⟩
theorem rg4 {n : Nat} (h : n ≤ 10000) (hm : n % 4 = 0) : RgC 0 (n : Int) 4 (n / 4) := by
  have e : Builtin.Range.rangeSize 0 (n : Int) 4 = ((n / 4 : Nat) : Int) := by
    rw [rangeSize_pos (by decide) (by omega)]
    omega
  have fl : ∀ i : Int, -100000 ≤ i → i ≤ 100000 → Builtin.Range.rangeFitsLong i = true := fun i h1 h2 => by
    unfold Builtin.Range.rangeFitsLong
    rw [decide_eq_true (show -(2 ^ 63) ≤ i by omega), decide_eq_true (show i < 2 ^ 63 by omega)]
    rfl
  refine ⟨by decide, by decide, ?_, e⟩
  unfold Builtin.Range.small
  rw [e, fl 0 (by decide) (by decide), fl (n : Int) (by omega) (by omega), fl 4 (by decide) (by decide), fl _ (by omega) (by omega)]
  rw [if_pos (by decide), fl _ (by omega) (by omega), Bool.or_true]
  rfl
end RK

namespace RK
open PySem PySem.Spec PyProof.Rows L2 StX
/-! ### defs with *rest that may raise where nothing is handled -/
theorem cxUpN {P : Program} {w : World} : CXUp (L2N.CX P w) := by
  rintro outer s H s2 H2 E e s' un kp ho ⟨a, B, H', cls, d, ea, fl, hok, ub, na, os, ag, he⟩
  refine ⟨a, B, H', cls, d, ea, fl, hok, ⟨fun b o q n hb => ub.keep b o (kp b o q) (un.free b o q n (by simp)) hb, fun b o q hb => ub.slot b o (kp b o q) hb, fun b o q n => ub.free b o (kp b o q) (un.free b o q n (by simp)),
    fun b o q hb => ub.there b o (kp b o q) hb, fun b xs q => ub.tups b xs (un.tups b xs q), fun b o xs q => ub.frzs b o xs (un.frzs b o xs q), fun b ps q => ?_⟩, na, os.trans ho, ag, he⟩
  obtain ⟨m1, e1⟩ := un.tbls b ps q
  obtain ⟨m2, e2⟩ := ub.tbls b _ e1
  exact ⟨m1 ++ m2, by rw [e2, Array.append_assoc]⟩
section
variable {X : Cx} {CX : CXT} {k : Nat} {f : Addr} {sp : Sp} {x : Str} {e : Expr} {es : List Expr} {t : TA} {p pos : Pos} {E : L2.St → XK}
theorem run_fnRS {pins : List (Addr × Obj)} {σ : L2.St} {H : Hp} {s : Shared} {Q : VK} {us : List Value} {vs : List V} (F : FnR X.prog X.w X.K X.mg X.base CX k f sp) (hr : Room k X.A) (hx : PassesAt CX X σ (E σ))
    (I : Inv X pins σ H s) (r : Vals vs us) (h : sp vs H Q (E σ)) : wpAny (model X.prog X.w) X.A (call (.ref f) us) (EP X pins σ Q) X.xe s := by
  refine wpAny_call (codeAny_mono (F X.A X.stack s H us vs Q (E σ) hr I.env0 r h) fun r s' hq => ?_)
  cases r with
  | error e => exact hx pins H s e s' I hq
  | ok fl =>
    cases fl with
    | ret u => exact I.after hq
    | next => exact False.elim hq
    | brk => exact False.elim hq
    | cont => exact False.elim hq
theorem pe_callRS (F : FnR X.prog X.w X.K X.mg X.base CX k f sp) (hr : Room k X.A) (hg : Gl X x) (hm : X.mg x = some (.ref f)) (hk : PySem.W.keepIn X.K (.ref f) = true) (hx : ∀ σ, PassesAt CX X σ (E σ))
    (ha : PA X (e :: es) t) (hdb : (x == ("__debug__" : Str)) = false := by decide) (he : starEach (e :: es) X.env = (false, eval e X.env) :: starEach es X.env := by rfl) (hpl : (backTo pos (starEach es X.env)).any (·.1) = false := by rfl) :
    PE X (.Call (.Name x p) (e :: es) [] pos) (tCallS sp E t) := by
  refine ⟨fun pins s σ H Q I h => ?_⟩
  refine wpAny_Call_Name_kw (ld_glob I hg hm ?_ hdb)
  refine PySem.W.callWith_K (h₀ := X.base) I.ok.mod.kin hk (thn (ha.run pos pins s σ H _ I h) fun us s1 ⟨vs, H1, I1, r, q⟩ => ⟨I1.kIn, ?_⟩) he hpl
  exact run_fnRS F hr (hx σ) I1 r q
theorem passAtN {σ : L2.St} : PassesAt (L2N.CX X.prog X.w) X σ (fun _ _ _ => False) := fun _ _ _ _ _ _ h => let ⟨_, _, _, _, _, _, _, _, _, _, _, _, z⟩ := h; z.elim
end
/-- a def with *rest: its promise speaks of the bound names, the call's of all that is handed on -/
def spStar (n : Nat) (sp : Sp) : Sp := fun vs H Q E => ∃ ws rest, vs = ws ++ rest ∧ ws.length = n ∧ rest.length ≤ sizeLine ∧ ∀ p, H p = none → sp (ws ++ [V.ref p]) (upd H p (.tup rest)) Q E
theorem Fun.starN {P : Program} {w : World} {K : PySem.W.Frag} {mg : Str → Option Value} {base : Heap} {x qual pv : Str} {st : Stmt} {f : Addr} {fd : FuncData} {N ps : List Str} {k : Nat} {sp : Sp} (F : Fun K x qual st f fd) (S : FnScope N (ps ++ [pv]) (defScope st))
    (hb : ∀ us rest : List Value, us.length = ps.length → bindArgs fd ⟨us ++ rest, []⟩ = (newTuple rest >>= fun t => pure (ps.zip us ++ [(pv, t)])))
    (body : ∀ (cdv : Value) (A : Around) (outer : List Env) (s : Shared) (H : Hp) (vs : List V) (Q : VK) (E : XK), Room k (A.deeper (envOfC qual (defScope st) s.heap.objs.size f cdv)) → sp vs H Q E →
      ∃ t, PSs (cxOf (L2N.CX P w) P w K mg base N qual (defScope st) f cdv A outer s H E) (defBody st) t ∧ t { nx := fun _ H' => Q .non H', rt := Q } (start N vs) H) : FnR P w K mg base (L2N.CX P w) (k + 1) f (spStar ps.length sp) := by
  obtain ⟨oc, od, kV, doc, pm, an, cdv, ct, osl, rfl, lk, hcd⟩ := F.ex
  exact fn_star lk hcd S cxUpN hb fun A outer s H vs Q E hr z => body cdv A outer s H vs Q E hr z
section
variable {X : Cx}
/-- t.index(x), x a text, ahead of it texts and None -/
theorem mt_tupIdx : MtR X "tuple.index" (fun x xs H Q => ∃ p, ∃ ys : List V, ∃ z j, x = .ref p ∧ xs = [.str z] ∧ SqT X.K H p ys ∧ (∀ v ∈ ys, v = .non ∨ ∃ y, v = .str y) ∧ ys[j]? = some (.str z) ∧ (∀ m, m < j → ys[m]? ≠ some (.str z)) ∧ Q (.int (j : Nat)) H) := by
  intro pins s σ H x xs v us Q I rx rs h
  obtain ⟨p, ys, z, j, rfl, rfl, hq, hfl, hy, hno, q⟩ := h
  cases rx
  obtain ⟨u, rfl, t, rfl⟩ := vals1 rs
  obtain ⟨its, r, pl, hz⟩ := I.tuple hq
  obtain ⟨⟨cls, dd, dt, sl⟩, ho, hc, n, hd⟩ := pl
  simp only at hc hd
  subst hc
  subst hd
  have hl : its.toArray.size = ys.length := by rw [List.size_toArray, ← r.length]
  have hj : j < its.toArray.size := by rw [hl]; exact (List.getElem?_eq_some_iff.mp hy).1
  have at' : ∀ (m : Nat) (hm : m < its.toArray.size), (∃ y t', ys[m]? = some (.str y) ∧ its.toArray[m] = Value.str y t') ∨ (ys[m]? = some .non ∧ its.toArray[m] = Value.none) := fun m hm => by
    have hm' : m < ys.length := by rw [← hl]; exact hm
    have hg : ys[m]? = some ys[m] := List.getElem?_eq_getElem hm'
    obtain ⟨w, hw, hr⟩ := r.get hg
    have e := (List.getElem?_eq_some_iff.mp hw).2
    rcases hfl ys[m] (List.getElem_mem hm') with e2 | ⟨y, e2⟩
    · rw [e2] at hr hg
      refine .inr ⟨hg, ?_⟩
      have : w = Value.none := hr
      rw [← this, ← e]
      simp
    · rw [e2] at hr hg
      obtain ⟨t', hw'⟩ := hr
      refine .inl ⟨y, t', hg, ?_⟩
      rw [← hw', ← e]
      simp
  refine call_meets PySem.F.slot_tuple_index ⟨_, ho, rfl⟩ PySem.F.entry_tuple_index (PySem.F.args_tuple_index_2 _ _) (TI.tuple_indexAt p its.toArray n dd sl (.str z t) (eqU (.str z)) j hj ?_ ?_)
    ⟨ho, fun w hw => mem_eqAt (x := .str z) ⟨t, rfl⟩ rfl r ?_ w (by simpa using hw), ⟨.int (j : Nat), H, I.tok _, ⟨_, rfl⟩, q⟩⟩
  · rcases at' j hj with ⟨y, t', h1, h2⟩ | ⟨h1, h2⟩
    · rw [hy] at h1
      cases h1
      rw [h2]
      show (z == z) = true
      exact beq_self_eq_true z
    · rw [hy] at h1
      cases h1
  · intro m hm hmj
    rcases at' m hm with ⟨y, t', h1, h2⟩ | ⟨h1, h2⟩
    · rw [h2]
      show (y == z) = false
      exact beq_eq_false_iff_ne.mpr fun e => hno m hmj (by rw [h1, e])
    · rw [h2]
      rfl
  · rw [List.all_eq_true]
    intro v hv
    rcases hfl v hv with e | ⟨y, e⟩
    · rw [e]; rfl
    · rw [e]; rfl
end
/-- a tuple behind a tuple, whatever the two are -/
theorem catA_of {K : PySem.W.Frag} {H : Hp} {a b : Addr} {xs ys : List V} {Q : VK} (ha : SqT K H a xs) (hb : SqT K H b ys) (hl : xs.length + ys.length ≤ 100000) (q : ∀ p H', Same H H' → SqT K H' p (xs ++ ys) → Q (.ref p) H') : rCatA K (.ref a) (.ref b) H Q := by
  refine ⟨a, b, xs, ys, rfl, rfl, ha, hb, Nat.le_trans hl (lenOk (xs := List.replicate 100000 ()) (n := 100000) (List.length_replicate ..) (Nat.le_refl _) |> fun h => by rw [List.length_replicate] at h; exact h), fun e => q b H (Same.refl _) (by rw [e]; exact hb), fun _ e => q a H (Same.refl _) (by rw [e, List.append_nil]; exact ha), fun _ _ p hp => q p _ (same_new hp) (SqT.of upd_same)⟩
end RK

namespace RK
open PySem PySem.Spec PyProof.Rows L2
section
variable {J : It} {n : Nat} {G : Hp → Prop} {Y : Nat → Hp → V → Hp → Prop}
/-- a comprehension with one test, whose elements have a value each; the target is the name at k -/
theorem lc_filt (w : Walk J n G Y) {tt : TT} {te : TE} {σ : L2.St} {H1 : Hp} {D : Addr} {Qd : Hp → Prop} {k : Nat} (I : Nat → V → Prop) (c : Nat → Bool) (f : Nat → V) (hD : H1 D = none) (hG : ∀ H, Same H1 H → G H) (hn : n ≤ 1000000)
    (hY : ∀ i H x H', i < n → Y i H x H' → H' = H ∧ I i x)
    (ht : ∀ i x H, i < n → Same H1 H → I i x → ∀ Q : Bool → Hp → Prop, Q (c i) H → tt ((σ.set k none).set k (some x)) H Q)
    (hs : ∀ i x H, i < n → c i = true → Same H1 H → I i x → ∀ Q : VK, (∀ H3, Same H H3 → Q (f i) H3) → te ((σ.set k none).set k (some x)) H Q) (hd : ∀ H, Same H1 H → H D = some (.lst (((List.range n).filter c).map f)) → Qd H) :
    ∃ W : Nat → Nat → Hp → Prop, (∃ m, W 0 m (upd H1 D (.lst []))) ∧ ∀ i m H, W i m H →
      (J.stop i H ∧ Qd H) ∨ (J.go i H ∧ ∃ Nx : Hp → Prop, (∀ H', Nx H' → ∃ m', m' < m ∧ W (i + 1) m' H') ∧ ∀ x H', J.yld i H x H' → gName k x (wipe σ [k]) H' fun σ2 H2 => wipe σ2 [k] = wipe σ [k] ∧ tt σ2 H2 fun b H3 =>
        if b = true then te σ2 H3 fun y H4 => ∃ acc, H4 D = some (.lst acc) ∧ acc.length < sizeLine ∧ Nx (upd H4 D (.lst (acc ++ [y]))) else Nx H3) := by
  refine lc_it w (fun i H => Same H1 H ∧ H D = some (.lst (((List.range i).filter c).map f))) ⟨same_new hD, upd_same⟩ (fun i H _ h => hG H h.1) (fun i x H H' hi hp y => ?_) fun H h => hd H h.1 h.2
  obtain ⟨sm, e⟩ := hp
  obtain ⟨rfl, hx⟩ := hY i H x H' hi y
  refine ⟨?_, ?_⟩
  · show ((σ.set k none).set k (some x)).set k none = σ.set k none
    rw [List.set_set, List.set_set]
  show tt ((σ.set k none).set k (some x)) H' _
  refine ht i x H' hi sm hx _ ?_
  by_cases hc : c i = true
  · rw [if_pos hc]
    refine hs i x H' hi hc sm hx _ fun H3 s3 => ?_
    have e3 := s3 _ _ e
    refine ⟨_, e3, ?_, same_mut (sm.trans s3) hD, ?_⟩
    · rw [List.length_map]
      refine Nat.lt_of_le_of_lt (List.length_filter_le _ _) ?_
      rw [List.length_range]
      exact Nat.lt_of_lt_of_le (Nat.lt_of_lt_of_le hi hn) (by decide)
    · rw [upd_same, List.range_succ, List.filter_append, List.map_append]
      rw [show [i].filter c = [i] by simp only [List.filter, hc]]
      rfl
  · rw [if_neg hc]
    refine ⟨sm, ?_⟩
    rw [e, List.range_succ, List.filter_append, List.map_append]
    rw [show [i].filter c = [] by simp only [List.filter, hc]]
    rw [List.map_nil, List.append_nil]
end
end RK

namespace RK
open PySem PySem.Spec PyProof.Rows L2
/-! ### tuples where the rules know lists alone: xs.extend(t), sum(t), enumerate(t) -/
theorem meets_extendT (l b : Addr) (items items2 : Array Value) (n n2 : Nat) (dd : Option Addr) (sl : Array (Option Value)) (hz : items.size + items2.size ≤ sizeLine) :
    Meets (Builtin.«list.extend» ⟨[Value.ref l, Value.ref b], []⟩) fun x R s => s.heap.get? l = some { cls := Value.type "list", data := Data.seq items n } ∧
      s.heap.get? b = some { cls := Value.type "tuple", dict := dd, data := Data.seq items2 n2, slots := sl } ∧
      R (Except.ok (Flow.ret Value.none)) { s with heap := s.heap.update l (Obj.mapSeq fun x => x ++ items2) } := by
  refine Meets.of_wp fun prog w A R s h => ?_
  obtain ⟨hl, hb, h⟩ := h
  show wpAny _ _ (Builtin.List.listExtendWith (.ref l) (.ref b) .none) _ _ _
  unfold Builtin.List.listExtendWith
  refine wpAny_bind (wpAny_typeOf_ref hb ?_)
  refine wpAny_ite_true (by simp) ?_
  refine wpAny_bind ?_
  unfold Builtin.List.listItems
  refine wpAny_bind (wpAny_seqItems hb rfl (wpAny_pure ?_))
  refine wpAny_bind (wpAny_bind (wpAny_seqItems hl rfl (wpAny_pure ?_)))
  have hbig : Builtin.List.listTooLong (items.size + items2.size) = false := notLongL hz
  refine wpAny_ite_false (by rw [hbig, Bool.and_false]; rfl) ?_
  refine wpAny_bind ?_
  show wpAny _ _ (updateSeq l (fun x => x ++ items2)) _ _ _
  refine wpAny_updateSeq hl rfl (wpAny_pure ⟨_, rfl, h⟩) (by omega) (by rw [Array.size_append]; omega)
/-! enumerate over a tuple -/
theorem meets_enumerate_newT (l : Addr) (items : Array Value) (n : Nat) (dct : Option Addr) (sl : Array (Option Value)) :
    Meets (Builtin.«enumerate.__new__» ⟨[Value.type "enumerate", Value.ref l], []⟩) fun x R s => s.heap.get? l = some { cls := Value.type "tuple", dict := dct, data := Data.seq items n, slots := sl } ∧
      R (Except.ok (Flow.ret (Value.ref (s.heap.push { cls := Value.type "tuple_iterator", data := Data.fields #[Value.ref l, Value.int 0 0] }).objs.size)))
        { s with heap := (s.heap.push { cls := Value.type "tuple_iterator", data := Data.fields #[Value.ref l, Value.int 0 0] }).push { cls := Value.type "enumerate", data := Data.fields #[Value.none, Value.bool false, Value.ref s.heap.objs.size, rawInt 0, Value.none, Value.none] } } := by
  refine Meets.of_wp fun prog w A R s h => ?_
  obtain ⟨hl, h⟩ := h
  have hsub := sub_enumerate
  have hL : s.heap.IsTuple l items := ⟨_, hl, rfl, n, rfl⟩
  unfold Builtin.«enumerate.__new__»
  refine wpAny_bind ?_
  unfold Builtin.SmallTypes.newClass
  refine wpAny_bind (wpAny_pure (wpAny_ite_false rfl (wpAny_bind (wpAny_of_eq hsub (wpAny_ite_false rfl (wpAny_pure ?_))))))
  refine wpAny_ite_true rfl (wpAny_bind ?_)
  unfold Builtin.SmallTypes.calledThroughType
  refine wpAny_bind (wpAny_stack_any fun st => wpAny_pure ?_)
  have fin : wpAny (model prog w) A.in1 (pyIter (Value.ref l) >>= fun it => Builtin.SmallTypes.newRecord (Value.type "enumerate") (Builtin.SmallTypes.ownedTupleFields ++ [it, rawInt 0, Value.none, Value.none]) >>= fun v => ret v) (fun fin s' => ∃ v, fin = Fin.done (Flow.ret v) ∧ R (Except.ok (Flow.ret v)) s') (fun e s' => R (Except.error e) s') s := by
    refine wpAny_bind (wpAny_pyIter_tuple hL ?_)
    refine wpAny_bind ?_
    unfold Builtin.SmallTypes.newRecord
    show wpAny _ _ (newObj (Value.type "enumerate") (Data.fields #[Value.none, Value.bool false, Value.ref s.heap.objs.size, rawInt 0, Value.none, Value.none])) _ _ _
    exact wpAny_newObj_type (wpAny_pure ⟨_, rfl, h⟩) (by show 6 ≤ sizeLine + 2; decide)
  split
  · rename_i c tail kw snd tl heq
    generalize (c == Value.type "enumerate") = short
    cases short with
    | false =>
      refine wpAny_ite_false rfl (wpAny_bind (wpAny_of_eq (a := (Value.ref l, none)) rfl ?_))
      exact fin
    | true =>
      refine wpAny_ite_true rfl (wpAny_bind (wpAny_of_eq (a := (Value.ref l, none)) rfl ?_))
      exact fin
  · refine wpAny_ite_false rfl (wpAny_bind (wpAny_of_eq (a := (Value.ref l, none)) rfl ?_))
    exact fin
section
variable {prog : Program} {w : World} {A : Around} {E : Value → Shared → Prop} {s : Shared}
theorem nextOf_tup_item {it l : Addr} {i : Nat} {items : Array Value} {x : Value} {Q : Value → Shared → Prop} (hit : s.heap.IsTupleIter it l i) (hl : s.heap.IsTuple l items) (hx : items[i]? = some x)
    (hQ : ∀ h', h'.IsTupleIter it l (i + 1) → Heap.SameBut it s.heap h' → Q x { s with heap := h' }) : wpAny (model prog w) A (Builtin.SmallTypes.nextOf (Value.ref it)) Q E s := by
  obtain ⟨⟨oc, od, odt, osl⟩, gi, ci, di⟩ := id hit
  simp only at ci di
  subst ci
  subst di
  obtain ⟨ol, gl, _, nl, dl⟩ := hl
  unfold Builtin.SmallTypes.nextOf
  refine wpAny_bind (wpAny_callSpecial?_slot (name := "__next__") hit.typeIs F.slot_tuple_iterator_next (wpAny_call_entry F.slot_tuple_iterator_next hit.typeIs F.entry_tuple_iterator_next ?_ (F.args_tuple_iterator_next_1 _)))
  refine wpAny_bind (m := field (.ref it) 0) (wpAny_field gi rfl (x := .ref l) rfl ?_)
  refine (if_neg (Bool.false_ne_true : ¬ ((Value.ref l == Value.none) = true))).symm ▸ ?_
  refine wpAny_bind (m := field (.ref it) 1) (wpAny_field gi rfl (x := .int i 0) rfl (wpAny_bind (m := seqItems? (.ref l)) (wpAny_seqItems gl dl ?_)))
  simp only [Int.toNat_natCast, hx]
  refine wpAny_bind (wpAny_setField gi rfl (by simp) (wpAny_pure ⟨x, rfl, wpAny_pure (hQ _ ⟨_, Heap.get?_update_self _ gi rfl, rfl, rfl⟩ ⟨?_, fun b n => Heap.get?_update_other _ _ (Ne.symm n)⟩)⟩))
  exact Heap.size_update _ _ _
theorem nextOf_tup_end {it l : Addr} {i : Nat} {items : Array Value} {Q : Value → Shared → Prop} (hh : A.handled = none) (hit : s.heap.IsTupleIter it l i) (hl : s.heap.IsTuple l items) (hx : items[i]? = none)
    (hQ : ∀ (h' : Heap) (e : Addr), Heap.ExtBut it s.heap h' → (∃ o, h'.get? e = some o ∧ o.cls = Value.type "StopIteration") → E (Value.ref e) { s with heap := h' }) : wpAny (model prog w) A (Builtin.SmallTypes.nextOf (Value.ref it)) Q E s := by
  obtain ⟨oi, gi, ci, di⟩ := id hit
  obtain ⟨ol, gl, _, nl, dl⟩ := hl
  unfold Builtin.SmallTypes.nextOf
  refine wpAny_bind (wpAny_callSpecial?_slot (name := "__next__") hit.typeIs F.slot_tuple_iterator_next (wpAny_call_entry F.slot_tuple_iterator_next hit.typeIs F.entry_tuple_iterator_next ?_ (F.args_tuple_iterator_next_1 _)))
  refine wpAny_bind (m := field (.ref it) 0) (wpAny_field gi di (x := .ref l) rfl ?_)
  refine (if_neg (Bool.false_ne_true : ¬ ((Value.ref l == Value.none) = true))).symm ▸ ?_
  refine wpAny_bind (m := field (.ref it) 1) (wpAny_field gi di (x := .int i 0) rfl (wpAny_bind (m := seqItems? (.ref l)) (wpAny_seqItems gl dl ?_)))
  simp only [Int.toNat_natCast, hx]
  refine wpAny_bind (wpAny_rule (wpAny_bind (wpAny_setField gi di (by simp) ?_)))
  unfold Builtin.SmallTypes.stopIteration
  refine wpAny_bind (m := newExc (.type "StopIteration") []) ?_
  simp only [newExc, newTuple]
  refine wpAny_bind (wpAny_newObj_type (wpAny_bind (m := firstArgMember _ _) (wpAny_of_eq (a := Value.none) (by first | rfl | (simp only [firstArgMember]; rfl)) (wpAny_newObj_type ?_ (by size_fits)))) (by size_fits))
  unfold raiseNew
  refine wpAny_bind (wpAny_handled ?_)
  rw [show A.in1.handled = none from hh]
  refine wpAny_throw (hQ _ _ (fun b o n e => ?_) ⟨_, Heap.get?_push_size _ rfl, rfl⟩)
  refine Heap.get?_push_of_some _ (Heap.get?_push_of_some _ ?_)
  rw [Heap.get?_update_other _ _ (Ne.symm n)]
  exact e
theorem draws_tup (hh : A.handled = none) (it l : Addr) (ne : l ≠ it) (items : Array Value) :
    Draws prog w A it [it, l] items.size (fun i v => items[i]? = some v) fun i h => h.IsTupleIter it l i ∧ h.IsTuple l items := by
  refine ⟨fun i h st => let ⟨⟨o, g, _⟩, _⟩ := st; ⟨o, g⟩, fun i h h' st k => let ⟨⟨o, g, r⟩, ⟨o2, g2, r2⟩⟩ := st; ⟨⟨o, k it (by simp) o g, r⟩, ⟨o2, k l (by simp) o2 g2, r2⟩⟩, fun i s Q E hi st h => ?_, fun s Q E st h => ?_⟩
  · obtain ⟨h1, h2⟩ := st
    have hx : items[i]? = some items[i] := Array.getElem?_eq_getElem hi
    refine nextOf_tup_item h1 h2 hx fun h' st' sb => ?_
    obtain ⟨o2, g2, r2⟩ := h2
    exact h _ _ s.toks hx ⟨st', ⟨o2, (sb.2 l ne).trans g2, r2⟩⟩ sb
  · obtain ⟨h1, h2⟩ := st
    exact nextOf_tup_end hh h1 h2 (by simp) fun h' e eb he => h h' e eb he
theorem call_enumerate_tup {l : Addr} {items : Array Value} {Q : Value → Shared → Prop} (hL : s.heap.IsTuple l items)
    (h : ∀ h', IsEnum h' (s.heap.objs.size + 1) s.heap.objs.size 0 Value.none → h'.IsTupleIter s.heap.objs.size l 0 → h'.objs.size = s.heap.objs.size + 2 → (∀ b o, s.heap.get? b = some o → h'.get? b = some o) → Q (Value.ref (s.heap.objs.size + 1)) { s with heap := h' }) :
    wpAny (model prog w) A (call (Value.type "enumerate") [Value.ref l]) Q E s := by
  obtain ⟨⟨c, dct, dt, sl⟩, hl, hc, n, hd⟩ := hL
  simp only at hc hd
  subst hc
  subst hd
  have hz := Heap.size_push s.heap { cls := .type "tuple_iterator", data := Data.fields #[Value.ref l, Value.int 0 0] }
  refine callType_new F.called_enumerate (by decide) (F.typeCall_enumerate_1 (Value.ref l)) (F.newCall_enumerate_1 (Value.ref l)) (fun obj => F.args_object_init_2 obj (Value.ref l)) F.entry_enumerate_new (meets_enumerate_newT l items n dct sl) ⟨hl, ?_⟩
  have he := Heap.get?_push_size (s.heap.push { cls := Value.type "tuple_iterator", data := Data.fields #[Value.ref l, Value.int 0 0] }) (o := { cls := Value.type "enumerate", data := Data.fields #[Value.none, Value.bool false, Value.ref s.heap.objs.size, rawInt 0, Value.none, Value.none] }) rfl
  rw [hz] at he
  show Shared.TypeIs _ (Value.ref (Heap.objs _).size) "enumerate" ∧ Q (Value.ref (Heap.objs _).size) _
  rw [hz]
  refine ⟨⟨_, he, rfl⟩, h _ he ⟨_, Heap.get?_push_of_some _ (Heap.get?_push_size _ rfl), rfl, rfl⟩ ?_ fun b o e => Heap.get?_push_of_some _ (Heap.get?_push_of_some _ e)⟩
  rw [Heap.size_push, hz]
theorem draws_tup_end (hh : A.handled = none) (it l : Addr) (ne : l ≠ it) (items : Array Value) (i0 : Nat) (hx : items[i0]? = none) :
    Draws prog w A it [it, l] i0 (fun _ _ => False) fun i h => i = i0 ∧ h.IsTupleIter it l i ∧ h.IsTuple l items := by
  refine ⟨fun i h st => let ⟨_, ⟨o, g, _⟩, _⟩ := st; ⟨o, g⟩, fun i h h' st k => let ⟨e, ⟨o, g, r⟩, ⟨o2, g2, r2⟩⟩ := st; ⟨e, ⟨o, k it (by simp) o g, r⟩, ⟨o2, k l (by simp) o2 g2, r2⟩⟩, fun i s Q E hi st h => ?_, fun s Q E st h => ?_⟩
  · exact absurd st.1 (Nat.ne_of_lt hi)
  · obtain ⟨_, h1, h2⟩ := st
    exact nextOf_tup_end hh h1 h2 hx fun h' e eb he => h h' e eb he
end
def IteT (K : PySem.W.Frag) (a : Addr) : It := ⟨fun i H => ∃ xs x, SqT K H a xs ∧ xs[i]? = some x, fun i H v H' => ∃ T x, v = V.ref T ∧ H T = none ∧ H' = upd H T (.tup [.int (i : Nat), x]) ∧ ∀ xs, SqT K H a xs → xs[i]? = some x, fun i H => ∃ xs, SqT K H a xs ∧ xs.length ≤ i⟩
theorem tup_ne {h : Heap} {a it : Addr} {i : Nat} {items : Array Value} (hit : h.IsTupleIter it a i) (pl : h.IsTuple a items) : a ≠ it := fun z => by
  subst z
  obtain ⟨o, h1, c1, _⟩ := hit
  obtain ⟨o2, h2, c2, _⟩ := pl
  rw [h1] at h2
  cases h2
  rw [c1] at c2
  exact absurd c2 (by decide)
theorem enum_ne {h : Heap} {a e it : Addr} {i : Int} {old : Value} {items : Array Value} (he : IsEnum h e it i old) (pl : h.IsTuple a items) : e ≠ a := fun z => by
  subst z
  obtain ⟨o2, h2, c2, _⟩ := pl
  rw [show h.get? e = _ from he] at h2
  cases h2
  exact absurd (show Value.type "enumerate" = Value.type "tuple" from c2) (by decide)
theorem turn_enumT {P : Program} {w : World} {K : PySem.W.Frag} {elts : List Expr} {kk : Nat} {tpos : Pos} (a e it : Addr) :
    Turn P w K (.Tuple elts kk tpos) (IteT K a) [e, it] e (fun i h => (∃ old, IsEnum h e it ((i : Nat) : Int) old) ∧ h.IsTupleIter it a i ∧ e ≠ it) where
  mem := by simp
  obj := fun i h st b hb => by
    obtain ⟨⟨old, he⟩, ⟨o, ho, hc, hd⟩, _⟩ := st
    have e' : b = e ∨ b = it := by simpa using hb
    rcases e' with z | z
    · rw [z]; exact ⟨_, he, fun v q => nomatch q⟩
    · rw [z]; exact ⟨o, ho, fun v q => by rw [hd] at q; cases q⟩
  keep := fun i h h' st k => let ⟨⟨old, he⟩, ⟨o, ho, r⟩, hne⟩ := st; ⟨⟨old, k e (by simp) _ he⟩, ⟨o, k it (by simp) o ho, r⟩, hne⟩
  item := by
    intro X hP hw hK hc i pins s σ H E I hf st hg
    subst hP hw hK
    obtain ⟨⟨old, he⟩, hit, hne⟩ := st
    obtain ⟨xs, x, hq, hx⟩ := hg
    obtain ⟨its, rv, pl, _⟩ := I.tuple hq
    have pl' : s.heap.IsTuple a its.toArray := pl
    have hel : e < s.heap.objs.size := Heap.lt_size he
    have hil : it < s.heap.objs.size := by obtain ⟨_, q, _⟩ := hit; exact Heap.lt_size q
    have ne := tup_ne hit pl'
    have ne2 := enum_ne he pl'
    have D := draws_tup (A := X.A.in1) (prog := X.prog) (w := X.w) (show X.A.in1.handled = none from I.ok.hd hc) it a ne its.toArray
    have hlt : i < its.toArray.size := by
      rw [List.size_toArray, ← rv.length]
      exact (List.getElem?_eq_some_iff.mp hx).1
    obtain ⟨u0, hu0, ru⟩ := rv.get hx
    refine wpAny_pyNext_enum_itemD D he ⟨hit, pl'⟩ hlt hne (by simp [hne, ne2]) fun u h' tk hu ho hst hT hsz hk => ?_
    have eu : u = u0 := by
      have h1 : its[i]? = some u := by simpa using hu
      rw [hu0] at h1
      exact (Option.some.inj h1).symm
    subst eu
    obtain ⟨hit', pl2⟩ := hst
    refine ⟨_, rfl, wpAny_letOwnedTupleGo_enum (s := { s with heap := h', toks := tk + 1 }) ho fun h'' he' sb => ?_⟩
    have hT2 : h''.get? s.heap.objs.size = some { cls := .type "tuple", data := .seq #[.int i tk, u] } := (sb.2 _ (Nat.ne_of_gt hel)).trans hT
    have new : ObjOk X.prog X.w (upd H s.heap.objs.size (.tup [.int (i : Nat), x])) h'' s.heap.objs.size (.tup [.int (i : Nat), x]) :=
      ⟨by show 2 ≤ sizeLine; decide, [.int i tk, u], .cons ⟨_, rfl⟩ (.cons ru .nil), ⟨_, hT2, rfl, _, rfl⟩⟩
    have I1 : Inv X pins σ (upd H s.heap.objs.size (.tup [.int (i : Nat), x])) { s with heap := h'', toks := tk + 1 } :=
      I.turnedNew (ch := [e, it]) (fun b ob hb q => (sb.2 b (fun z => hb (by simp [z]))).trans (hk b ob (fun z => hb (by simp [z])) (fun z => hb (by simp [z])) q)) hf (Nat.le_refl _) new
    refine ⟨.ref s.heap.objs.size, _, I1, rfl, ⟨_, x, rfl, I.hok.fresh (Nat.le_refl _), rfl, fun ys hy => by rw [I.tuple_inj hy hq, hx]⟩, ⟨⟨u, ?_⟩, ?_, hne⟩, fun b hb => ?_⟩
    · have e1 : ((i + 1 : Nat) : Int) = (i : Int) + 1 := by omega
      rw [e1]; exact he'
    · obtain ⟨o, ho2, r⟩ := hit'
      exact ⟨o, (sb.2 it (Ne.symm hne)).trans ho2, r⟩
    · have hb' : b < s.heap.objs.size := by
        have e' : b = e ∨ b = it := by simpa using hb
        rcases e' with z | z
        · rw [z]; exact hel
        · rw [z]; exact hil
      rw [upd_ne (Nat.ne_of_lt hb')]
      exact (hf b hb).1
  done := by
    intro X hP hw hK hc i pins s σ H E I hf st hg
    subst hP hw hK
    obtain ⟨⟨old, he⟩, hit, hne⟩ := st
    obtain ⟨xs, hq, hx⟩ := hg
    obtain ⟨its, rv, pl, _⟩ := I.tuple hq
    have pl' : s.heap.IsTuple a its.toArray := pl
    obtain ⟨f0, f1, f2, f3, f4, f5⟩ := hf it (by simp)
    have D := draws_tup_end (A := X.A.in1) (prog := X.prog) (w := X.w) (show X.A.in1.handled = none from I.ok.hd hc) it a (tup_ne hit pl') its.toArray i (by
      have := rv.length
      simp
      omega)
    exact wpAny_pyNext_enum_endD D he ⟨rfl, hit, pl'⟩ fun h' eb => ⟨rfl, I.turned (t' := s.toks) (fun b o hb q => eb b o hb q) f0 f1 f3 f4 f5⟩
  self := fun A i s Q E st h => let ⟨⟨_, he⟩, _⟩ := st; wpAny_pyIter_enum he h
def iEnumT (K : PySem.W.Frag) (ta : TA) : TI := fun σ H R => ta σ H fun vs H1 => ∃ a xs, vs = [V.ref a] ∧ SqT K H1 a xs ∧ R (IteT K a) H1
theorem pi_enumT {X : Cx} {e : Expr} {ta : TA} {p pos tpos : Pos} {elts : List Expr} {kk : Nat} (hg : Gl X "enumerate") (hm : X.mg "enumerate" = none) (ha : PA X [e] ta) (hs : starEach [e] X.env = [(false, eval e X.env)] := by rfl) :
    PI X (.Tuple elts kk tpos) (.Call (.Name "enumerate" p) [e] [] pos) (iEnumT X.K ta) := by
  refine ⟨fun pins s σ H R I h => ?_⟩
  refine Call_ (ld_blt I hg hm boot_enumerate (PyProof.Rows.callWith_type1 (thn (ha.run pos pins s σ H _ I h) fun us s1 ⟨vs, H1, I1, r1, q1⟩ => ?_) hs rfl))
  obtain ⟨a, xs, ex, hq, q⟩ := q1
  subst ex
  cases r1 with
  | cons r rr =>
    cases rr
    cases r
    obtain ⟨its, rv, pl, _⟩ := I1.tuple hq
    refine call_enumerate_tup (show s1.heap.IsTuple a its.toArray from pl) fun h' he hit hsz hk => wpAny_pyIter_enum he ?_
    have I2 : Inv X pins σ H1 { s1 with heap := h' } := I1.kept (t' := s1.toks) hk
    refine ⟨s1.heap.objs.size + 1, [s1.heap.objs.size + 1, s1.heap.objs.size], _, _, H1, rfl, I2, turn_enumT a (s1.heap.objs.size + 1) s1.heap.objs.size, ⟨⟨.none, he⟩, hit, Nat.succ_ne_self _⟩, fun b hb => ?_, q⟩
    have e' : b = s1.heap.objs.size + 1 ∨ b = s1.heap.objs.size := by simpa using hb
    have hge : s1.heap.objs.size ≤ b := by
      rcases e' with z | z
      · rw [z]; omega
      · rw [z]; omega
    exact I1.fpOk hge (I1.hok.fresh hge)
theorem walk_enumT {K : PySem.W.Frag} {a : Addr} {xs : List V} : Walk (IteT K a) xs.length (fun H => SqT K H a xs) (fun i H v H' => ∃ T x, v = V.ref T ∧ H T = none ∧ H' = upd H T (.tup [.int (i : Nat), x]) ∧ xs[i]? = some x) :=
  ⟨fun i H hi h => ⟨xs, xs[i], h, List.getElem?_eq_getElem hi⟩, fun H h => ⟨xs, h, Nat.le_refl _⟩, fun i H v H' _ h y => let ⟨T, x, a, b, c, d⟩ := y; ⟨T, x, a, b, c, d xs h⟩⟩
section
variable {X : Cx}
def rExtendT (K : PySem.W.Frag) : V → List V → Hp → VK → Prop := fun x vs H Q => ∃ l b xs zs, x = .ref l ∧ vs = [.ref b] ∧ H l = some (.lst xs) ∧ SqT K H b zs ∧ xs.length + zs.length ≤ sizeLine ∧ Q .non (upd H l (.lst (xs ++ zs)))
theorem mt_extendT : MtR X "list.extend" (rExtendT X.K) := by
  intro pins s σ H x xs v us Q I rx rs h
  obtain ⟨l, b, ys, zs, rfl, rfl, hl, hb, hz, q⟩ := h
  cases rx
  obtain ⟨u, rfl, ru⟩ := rs.one
  cases ru
  obtain ⟨z1, its, n, r1, l1, e1⟩ := I.lstM hl
  obtain ⟨its2, r2, pl2, _⟩ := I.tuple hb
  obtain ⟨⟨cls, dd, dt, sl⟩, ho, hc, n2, hd⟩ := pl2
  simp only at hc hd
  subst hc
  subst hd
  have l2 := r2.length
  refine call_meets PySem.F.slot_list_extend ⟨_, e1, rfl⟩ PySem.F.entry_list_extend (PySem.F.args_list_extend_2 _ _) (meets_extendT l b its.toArray its2.toArray n n2 dd sl (by rw [List.size_toArray, List.size_toArray]; omega)) ⟨e1, ho, ?_⟩
  refine ⟨.non, upd H l (.lst (ys ++ zs)), ?_, rfl, q⟩
  exact I.lset (t' := s.toks) hl e1 (by simp) (r1.append r2) (by rw [List.length_append]; omega)
theorem ints_get : ∀ {vs : List Value} {ns : List Int} {i : Nat} {v : Value}, IntsAre vs ns → vs[i]? = some v → ∃ t, v = .int (ns.getD i 0) t
  | _, _, _, _, .nil, e => by simp at e
  | _, _, 0, _, .cons n t _, e => by
    simp at e
    exact ⟨t, e.symm⟩
  | _, _, i + 1, v, .cons n t r, e => by
    obtain ⟨t', e'⟩ := ints_get (i := i) (v := v) r (by simpa using e)
    exact ⟨t', by simpa using e'⟩
theorem preSum_getD : ∀ (ns : List Int) (m : Nat), m ≤ ns.length → preSum (fun i => ns.getD i 0) m = (ns.take m).sum := fun ns m => by
  induction m with
  | zero => intro _; rfl
  | succ m ih =>
    intro h
    show preSum _ m + ns.getD m 0 = _
    rw [ih (by omega), List.take_add_one, List.getElem?_eq_getElem (by omega), List.sum_append, List.getD_eq_getElem?_getD, List.getElem?_eq_getElem (by omega)]
    simp
def rSumT (K : PySem.W.Frag) : List V → Hp → VK → Prop := fun vs H Q => ∃ (a : Addr) (ns : List Int), vs = [V.ref a] ∧ SqT K H a (ns.map V.int) ∧ Q (.int ns.sum) H
theorem cr_sumT (hc : X.calm = true) : CallR X (.builtin "sum") (rSumT X.K) := by
  intro pins s σ H vs us Q I rv h
  obtain ⟨a, ns, rfl, ha, q⟩ := h
  obtain ⟨u, rfl, ru⟩ := rv.one
  cases ru
  obtain ⟨its, r, pl, _⟩ := I.tuple ha
  have hi := ints_of_vals r
  have hlen := r.length
  rw [List.length_map] at hlen
  have pl' : s.heap.IsTuple a its.toArray := pl
  have la : a < s.heap.objs.size := by obtain ⟨o, ho, _⟩ := pl'; exact Heap.lt_size ho
  refine call_sum_walkG (wpAny_pyIter_tuple pl' ?_)
  refine ⟨s.heap.objs.size, [s.heap.objs.size, a], [s.heap.objs.size], its.toArray.size, _, _, fun i => ns.getD i 0, rfl, Walks.tuple (by exact I.ok.hd hc) _ a (Nat.ne_of_lt la) its.toArray, ⟨⟨_, Heap.get?_push_size _ rfl, rfl, rfl⟩, ?_⟩, fun b hb => ?_, fun i v hv => ints_get (i := i) hi (by simpa using hv), fun h' tk t' k => ?_⟩
  · obtain ⟨o, ho, r⟩ := pl'
    exact ⟨o, Heap.get?_push_of_some _ ho, r⟩
  · rw [Heap.size_push]
    have e' : b = s.heap.objs.size ∨ b = a := by simpa using hb
    rcases e' with z | z
    · rw [z]; exact Nat.lt_succ_self _
    · rw [z]; exact Nat.lt_succ_of_lt la
  · refine ⟨.int ns.sum, H, ?_, ?_, q⟩
    · refine I.kept (t' := tk) fun b o e => k b o ?_ (Heap.get?_push_of_some _ e)
      have := Heap.lt_size e
      intro z
      have e' : b = s.heap.objs.size := by simpa using z
      exact absurd e' (Nat.ne_of_lt this)
    · rw [preSum_getD _ _ (by rw [List.size_toArray]; omega), List.size_toArray, ← hlen, List.take_length]
      exact ⟨_, rfl⟩
end
end RK

namespace RK
open PySem PySem.Spec PyProof.Rows L2
/-- a comprehension with two for, both targets names (at k and k1), no tests -/
theorem lc2_it {J : It} {n : Nat} {G : Hp → Prop} {Y : Nat → Hp → V → Hp → Prop} (w : Walk J n G Y) {wi1 : TI} {te : TE} {σ : L2.St} {H1 : Hp} {D : Addr} {Qd : Hp → Prop} {k k1 : Nat} (hk : k ≠ k1) (Pv : Nat → Hp → Prop) (h0 : Pv 0 (upd H1 D (.lst []))) (hG : ∀ i H, i ≤ n → Pv i H → G H)
    (hs : ∀ (i : Nat) (x : V) (H H' : Hp), i < n → Pv i H → Y i H x H' → ∀ R : It → Hp → Prop, (∀ (J1 : It) (H4 : Hp) (n1 : Nat) (G1 : Hp → Prop) (Y1 : Nat → Hp → V → Hp → Prop) (P1 : Nat → Hp → Prop), Walk J1 n1 G1 Y1 → P1 0 H4 → (∀ j H, j ≤ n1 → P1 j H → G1 H) →
      (∀ (j : Nat) (y : V) (H H' : Hp), j < n1 → P1 j H → Y1 j H y H' → te (((((σ.set k1 none).set k none).set k (some x)).set k1 none).set k1 (some y)) H' fun z H7 => ∃ acc, H7 D = some (.lst acc) ∧ acc.length < sizeLine ∧ P1 (j + 1) (upd H7 D (.lst (acc ++ [z])))) →
      (∀ H, P1 n1 H → Pv (i + 1) H) → R J1 H4) → wi1 (((σ.set k1 none).set k none).set k (some x)) H' R)
    (hd : ∀ H, Pv n H → Qd H) :
    ∃ W : Nat → Nat → Hp → Prop, (∃ m, W 0 m (upd H1 D (.lst []))) ∧ ∀ (i m : Nat) (H : Hp), W i m H → (J.stop i H ∧ Qd H) ∨ (J.go i H ∧ ∃ Nx : Hp → Prop, (∀ H', Nx H' → ∃ m', m' < m ∧ W (i + 1) m' H') ∧ ∀ (x : V) (H' : Hp), J.yld i H x H' →
      gName k x (wipe σ [k, k1]) H' fun σ2 H2 => wipe σ2 [k, k1] = wipe σ [k, k1] ∧ tYes σ2 H2 fun b H3 => if b = true then wi1 σ2 H3 fun J1 H4 => ∃ W1 : Nat → Nat → Hp → Prop, (∃ m, W1 0 m H4) ∧ ∀ (j k' : Nat) (H : Hp), W1 j k' H → (J1.stop j H ∧ Nx H) ∨ (J1.go j H ∧ ∃ Nx1 : Hp → Prop, (∀ H', Nx1 H' → ∃ k2, k2 < k' ∧ W1 (j + 1) k2 H') ∧
        ∀ (x : V) (H' : Hp), J1.yld j H x H' → gName k1 x (wipe σ2 [k1]) H' fun σ3 H5 => wipe σ3 [k1] = wipe σ2 [k1] ∧ tYes σ3 H5 fun b H6 => if b = true then te σ3 H6 fun y H7 => ∃ acc, H7 D = some (.lst acc) ∧ acc.length < sizeLine ∧ Nx1 (upd H7 D (.lst (acc ++ [y]))) else Nx1 H6) else Nx H3) := by
  refine ⟨fun i m H => i ≤ n ∧ m = n - i ∧ Pv i H, ⟨n, Nat.zero_le _, rfl, h0⟩, fun i m H hW => ?_⟩
  obtain ⟨hi, rfl, hp⟩ := hW
  rcases Nat.lt_or_ge i n with hlt | hge
  · refine .inr ⟨w.goes i H hlt (hG i H hi hp), fun H' => Pv (i + 1) H', fun H' h => ⟨n - (i + 1), by omega, by omega, rfl, h⟩, fun x H' y => ?_⟩
    have y' := w.yields i H x H' hlt (hG i H hi hp) y
    refine ⟨?_, ?_⟩
    · show ((((σ.set k1 none).set k none).set k (some x)).set k1 none).set k none = (σ.set k1 none).set k none
      rw [List.set_set, List.set_comm _ _ hk, List.set_set, List.set_set]
    show wi1 (((σ.set k1 none).set k none).set k (some x)) H' _
    refine hs i x H H' hlt hp y' _ fun J1 H4 n1 G1 Y1 P1 w1 p0 hG1 st en => ?_
    refine ⟨fun j m H => j ≤ n1 ∧ m = n1 - j ∧ P1 j H, ⟨n1, Nat.zero_le _, rfl, p0⟩, fun j m Hj hW1 => ?_⟩
    obtain ⟨hj, rfl, hp1⟩ := hW1
    rcases Nat.lt_or_ge j n1 with hlt1 | hge1
    · refine .inr ⟨w1.goes j Hj hlt1 (hG1 j Hj hj hp1), fun H' => P1 (j + 1) H', fun H' h => ⟨n1 - (j + 1), by omega, by omega, rfl, h⟩, fun y H'' yy => ?_⟩
      have yy' := w1.yields j Hj y H'' hlt1 (hG1 j Hj hj hp1) yy
      refine ⟨?_, ?_⟩
      · show (((((σ.set k1 none).set k none).set k (some x)).set k1 none).set k1 (some y)).set k1 none = (((σ.set k1 none).set k none).set k (some x)).set k1 none
        rw [List.set_set, List.set_set]
      exact st j y Hj H'' hlt1 hp1 yy'
    · have : j = n1 := Nat.le_antisymm hj hge1
      subst this
      exact .inl ⟨w1.stops Hj (hG1 j Hj hj hp1), en Hj hp1⟩
  · have : i = n := Nat.le_antisymm hi hge
    subst this
    exact .inl ⟨w.stops H (hG i H hi hp), hd H hp⟩
theorem xt_sq {K : PySem.W.Frag} {H : Hp} {S : ASet} {r : Addr} {xs : List V} (h : SqT K H r xs) (n : ∀ a, S a → ∃ ys, H a = some (.lst ys)) : XT K H S r xs := by
  rcases h with h | h
  · refine .inl ⟨fun z => ?_, h⟩
    obtain ⟨ys, e⟩ := n r z
    rcases h with h | ⟨o, h⟩ <;> rw [e] at h <;> cases h
  · exact .inr (.inr h)
/-- a tuple and a new one behind it -/
theorem catA_xt {K : PySem.W.Frag} {H : Hp} {S : ASet} {a b : Addr} {xs ys : List V} {Q : VK} (ha : SqT K H a xs) (hb : XT K H S b ys) (hy : ys ≠ []) (hS : ∀ c, S c → H c ≠ none) (hl : xs.length + ys.length ≤ 100000) (q : ∀ p H', Same H H' → XT K H' S p (xs ++ ys) → Q (.ref p) H') : rCatA K (.ref a) (.ref b) H Q :=
  ⟨a, b, xs, ys, rfl, rfl, ha, hb.sq, Nat.le_trans hl (show 100000 ≤ sizeLine by decide), fun e => q b H (Same.refl _) (by rw [e]; exact hb), fun _ e => absurd e hy, fun _ _ p hp => q p _ (same_new hp) (XT.of upd_same fun z => hS p z hp)⟩
/-! one thing by its place, three by keywords -/
def kw1_3 {α : Type} : List α → List α → List α
  | [a], [b, c, d] => [a, b, c, d]
  | _, _ => []
theorem kw1_3_rel {vs zs : List V} {us ws : List Value} (h : Vals vs us) (k : Vals zs ws) : Vals (kw1_3 vs zs) (kw1_3 us ws) := by
  match h, k with
  | .cons h0 .nil, .cons k0 (.cons k1 (.cons k2 .nil)) => exact .cons h0 (.cons k0 (.cons k1 (.cons k2 .nil)))
  | .nil, _ => exact .nil
  | .cons _ (.cons _ _), _ => exact .nil
  | .cons _ .nil, .nil => exact .nil
  | .cons _ .nil, .cons _ .nil => exact .nil
  | .cons _ .nil, .cons _ (.cons _ .nil) => exact .nil
  | .cons _ .nil, .cons _ (.cons _ (.cons _ (.cons _ _))) => exact .nil
theorem kbinds1_3 {K : PySem.W.Frag} {fd : FuncData} {p0 p1 p2 p3 : Str} (h : ∀ (a b c d : Value) (s : Shared), BindsTo s fd ⟨[a], [(p1, b), (p2, c), (p3, d)]⟩ [(p0, a), (p1, b), (p2, c), (p3, d)]) : KBinds K fd [p0, p1, p2, p3] [p1, p2, p3] kw1_3 kw1_3 := by
  refine ⟨fun s us ws _ hl => ?_, kw1_3_rel⟩
  match us, ws with
  | [a], [b, c, d] => exact h a b c d s
  | [], ws => cases hl
  | _ :: _ :: _, ws => cases hl
  | [_], [] => cases hl
  | [_], [_] => cases hl
  | [_], [_, _] => cases hl
  | [_], _ :: _ :: _ :: _ :: _ => cases hl
/-- a comprehension with one test over the pairs of an enumerated tuple -/
theorem lc_enumF {K : PySem.W.Frag} {a : Addr} {xs : List V} {tt : TT} {te : TE} {σ : L2.St} {H1 : Hp} {D : Addr} {Qd : Hp → Prop} {k k1 : Nat} (hk : k ≠ k1) (c : Nat → Bool) (f : Nat → V) (hD : H1 D = none) (ha : SqT K H1 a xs) (hn : xs.length ≤ 1000000)
    (ht : ∀ i x H, i < xs.length → Same H1 H → xs[i]? = some x → ∀ Q : Bool → Hp → Prop, Q (c i) H → tt ((((σ.set k1 none).set k none).set k (some (.int (i : Nat)))).set k1 (some x)) H Q)
    (hs : ∀ i x H, i < xs.length → c i = true → Same H1 H → xs[i]? = some x → ∀ Q : VK, (∀ H3, Same H H3 → Q (f i) H3) → te ((((σ.set k1 none).set k none).set k (some (.int (i : Nat)))).set k1 (some x)) H Q)
    (hd : ∀ H, Same H1 H → H D = some (.lst (((List.range xs.length).filter c).map f)) → Qd H) :
    ∃ W : Nat → Nat → Hp → Prop, (∃ m, W 0 m (upd H1 D (.lst []))) ∧ ∀ i m H, W i m H →
      ((IteT K a).stop i H ∧ Qd H) ∨ ((IteT K a).go i H ∧ ∃ Nx : Hp → Prop, (∀ H', Nx H' → ∃ m', m' < m ∧ W (i + 1) m' H') ∧ ∀ x H', (IteT K a).yld i H x H' → gTup K 2 (gCons (gName k) (gCons (gName k1) gNil)) x (wipe σ [k, k1]) H' fun σ2 H2 => wipe σ2 [k, k1] = wipe σ [k, k1] ∧ tt σ2 H2 fun b H3 =>
        if b = true then te σ2 H3 fun y H4 => ∃ acc, H4 D = some (.lst acc) ∧ acc.length < sizeLine ∧ Nx (upd H4 D (.lst (acc ++ [y]))) else Nx H3) := by
  refine lc_it (walk_enumT (K := K) (a := a) (xs := xs)) (fun i H => Same H1 H ∧ H D = some (.lst (((List.range i).filter c).map f))) ⟨same_new hD, upd_same⟩ (fun i H _ h => sqT_up ha h.1) (fun i x H H' hi hp y => ?_) fun H h => hd H h.1 h.2
  obtain ⟨sm, e⟩ := hp
  obtain ⟨T, z, rfl, nT, rfl, hz⟩ := y
  have sT := same_new (o := .tup [.int (i : Nat), z]) nT
  refine ⟨T, _, rfl, SqT.of upd_same, rfl, _, _, rfl, _, _, rfl, rfl, ?_, ?_⟩
  · show ((((((σ.set k1 none).set k none).set k (some (.int (i : Nat)))).set k1 (some z)).set k1 none).set k none) = (σ.set k1 none).set k none
    rw [List.set_set, List.set_set, List.set_comm _ _ hk, List.set_set, List.set_set]
  show tt ((((σ.set k1 none).set k none).set k (some (.int (i : Nat)))).set k1 (some z)) _ _
  refine ht i z _ hi (sm.trans sT) hz _ ?_
  by_cases hc : c i = true
  · rw [if_pos hc]
    refine hs i z _ hi hc (sm.trans sT) hz _ fun H3 s3 => ?_
    have e3 := s3 _ _ (sT _ _ e)
    refine ⟨_, e3, ?_, same_mut (sm.trans (sT.trans s3)) hD, ?_⟩
    · rw [List.length_map]
      refine Nat.lt_of_le_of_lt (List.length_filter_le _ _) ?_
      rw [List.length_range]
      exact Nat.lt_of_lt_of_le (Nat.lt_of_lt_of_le hi hn) (by decide)
    · rw [upd_same, List.range_succ, List.filter_append, List.map_append]
      rw [show [i].filter c = [i] by simp only [List.filter, hc]]
      rfl
  · rw [if_neg hc]
    refine ⟨sm.trans sT, ?_⟩
    rw [sT _ _ e, List.range_succ, List.filter_append, List.map_append]
    rw [show [i].filter c = [] by simp only [List.filter, hc]]
    rw [List.map_nil, List.append_nil]
end RK

/-! own __len__, __contains__, __eq__, __iter__ (handing back a tuple's iterator), list(o) -/
namespace DK
open PySem PySem.Spec PyProof.Rows L2

section
variable {X : Cx} {pins : List (Addr × Obj)} {σ : L2.St} {H : Hp} {s : Shared} {CX : CXT} {k : Nat} {f C : Addr} {sp : Sp} {E : XK}

/-- the callee runs below the running body -/
theorem run_sub {A1 : Around} {Q : VK} {us : List Value} {vs : List V} (F : FnR X.prog X.w X.K X.mg X.base CX k f sp) (sb : Sub X k A1) (hx : Passes CX X E) (I : Inv X pins σ H s) (r : Vals vs us) (h : sp vs H Q E) :
    wpAny (model X.prog X.w) A1 (call (.ref f) us) (EP X pins σ Q) X.xe s := by
  have e0 : Env0 X.prog X.w X.K X.mg X.base A1 X.stack s H := by
    have e := I.env0
    exact ⟨by rw [sb.fr]; exact e.frames, e.mod, e.bs, e.bsz, e.funs, e.frf, e.hok, e.bare⟩
  refine wpAny_call (codeAny_mono (F A1 X.stack s H us vs Q E sb.room e0 r h) fun r s' hq => ?_)
  cases r with
  | error e => exact hx pins σ H s e s' I hq
  | ok fl =>
    cases fl with
    | ret u => exact I.after hq
    | next => exact False.elim hq
    | brk => exact False.elim hq
    | cont => exact False.elim hq

/-- the def at f stands in the class at C under this name -/
structure Own (K : PySem.W.Frag) (C : Addr) (name : Str) (f : Addr) : Prop where
  at_ : PySem.W.findIn K (.ref C) name = some (some (.ref f))
  fn : PySem.W.isFn K (.ref f) = true

/-! ### len(o) -/
def rLenO (C : Addr) (sp : Sp) (E : XK) : List V → Hp → VK → Prop := fun xs H Q => ∃ a dx fs, xs = [V.ref a] ∧ H a = some (.ins C dx fs) ∧
  sp [.ref a] H (fun v H' => ∃ n : Int, v = .int n ∧ (0 ≤ n ∧ n < 2 ^ 63) ∧ Q (.int n) H') E
theorem call_lenO_at {A1 : Around} {Q : VK} {a dx : Addr} {fs : List (Str × V)} (c : Own X.K C "__len__" f) (F : FnR X.prog X.w X.K X.mg X.base CX k f sp) (hx : Passes CX X E) (sb : Sub X (k + 1) A1) (I : Inv X pins σ H s) (ha : H a = some (.ins C dx fs))
    (hsp : sp [.ref a] H (fun v H' => ∃ n : Int, v = .int n ∧ (0 ≤ n ∧ n < 2 ^ 63) ∧ Q (.int n) H') E) : wpAny (model X.prog X.w) A1 (call (.builtin "len") [.ref a]) (EP X pins σ Q) X.xe s := by
  obtain ⟨mA, J, _⟩ := ins_get I.hok ha
  obtain ⟨od, J, _⟩ := J.look
  obtain ⟨m, hF⟩ := I.fr
  refine PySem.W.len_K hF I.ok.mod.kin J c.at_ c.fn ?_
  refine wpAny_mono (run_sub (us := [.ref a]) (vs := [V.ref a]) F sb.in1 hx I (.cons rfl .nil) hsp) (fun r s' hq => ?_) fun _ _ z => z
  obtain ⟨v, H', I', rv, n, rfl, hn, q⟩ := hq
  obtain ⟨t, rfl⟩ := rv
  exact ⟨hn, .int n, H', I'.tok _, ⟨_, rfl⟩, q⟩
theorem call_lenO (c : Own X.K C "__len__" f) (F : FnR X.prog X.w X.K X.mg X.base CX k f sp) (hx : Passes CX X E) (hr : Room (k + 1) X.A) : CallR X (.builtin "len") (rLenO C sp E) := by
  intro pins s σ H xs us Q I r h
  obtain ⟨a, dx, fs, rfl, ha, hsp⟩ := h
  obtain ⟨u, rfl, ru⟩ := r.one
  cases ru
  exact call_lenO_at c F hx ⟨hr, rfl⟩ I ha hsp

/-! ### x in o -/
def rInO (neg : Bool) (C : Addr) (sp : Sp) (E : XK) : R2 := fun x y H Q => ∃ a dx fs, y = V.ref a ∧ H a = some (.ins C dx fs) ∧
  sp [.ref a, x] H (fun v H' => ∃ b : Bool, v = .bl b ∧ Q (.bl (b ^^ neg)) H') E
theorem op_inO (c : Own X.K C "__contains__" f) (F : FnR X.prog X.w X.K X.mg X.base CX k f sp) (hx : Passes CX X E) (hr : Room k X.A) : OpR X (compareOp .In) (rInO false C sp E) := by
  intro pins s σ H x y v u Q I rx ry h
  obtain ⟨a, dx, fs, rfl, ha, hsp⟩ := h
  cases ry
  obtain ⟨mA, J, _⟩ := ins_get I.hok ha
  obtain ⟨od, J, _⟩ := J.look
  obtain ⟨m, hF⟩ := I.fr
  refine PySem.W.in_K hF I.ok.mod.kin J c.at_ c.fn ?_
  refine wpAny_mono (run_sub (us := [.ref a, v]) (vs := [V.ref a, x]) F ⟨hr, rfl⟩ hx I (.cons rfl (.cons rx .nil)) hsp) (fun r s' hq => ?_) fun _ _ z => z
  obtain ⟨w', H', I', rv, b, rfl, q⟩ := hq
  cases rv
  refine wpAny_truthy_bool ?_
  exact ⟨.bl b, H', I', rfl, by simpa using q⟩
theorem op_notInO (c : Own X.K C "__contains__" f) (F : FnR X.prog X.w X.K X.mg X.base CX k f sp) (hx : Passes CX X E) (hr : Room k X.A) : OpR X (compareOp .NotIn) (rInO true C sp E) := by
  intro pins s σ H x y v u Q I rx ry h
  obtain ⟨a, dx, fs, rfl, ha, hsp⟩ := h
  cases ry
  obtain ⟨mA, J, _⟩ := ins_get I.hok ha
  obtain ⟨od, J, _⟩ := J.look
  obtain ⟨m, hF⟩ := I.fr
  refine PySem.W.notIn_K hF I.ok.mod.kin J c.at_ c.fn ?_
  refine wpAny_mono (run_sub (us := [.ref a, v]) (vs := [V.ref a, x]) F ⟨hr, rfl⟩ hx I (.cons rfl (.cons rx .nil)) hsp) (fun r s' hq => ?_) fun _ _ z => z
  obtain ⟨w', H', I', rv, b, rfl, q⟩ := hq
  cases rv
  refine wpAny_truthy_bool ?_
  exact ⟨.bl (!b), H', I', rfl, by simpa using q⟩

/-! ### o == p, both of the class at C; the own __eq__ says which -/
def rEqO (C : Addr) (sp : Sp) (E : XK) : R2 := fun x y H Q => ∃ a dx fs b dy gs, x = V.ref a ∧ y = V.ref b ∧ H a = some (.ins C dx fs) ∧ H b = some (.ins C dy gs) ∧
  sp [.ref a, .ref b] H (fun v H' => ∃ k : Bool, v = .bl k ∧ Q (.bl k) H') E
theorem op_eqO (c : Own X.K C "__eq__" f) (F : FnR X.prog X.w X.K X.mg X.base CX k f sp) (hx : Passes CX X E) (hr : Room k X.A) : OpR X (compareOp .Eq) (rEqO C sp E) := by
  intro pins s σ H x y v u Q I rx ry h
  obtain ⟨a, dx, fs, b, dy, gs, rfl, rfl, ha, hb, hsp⟩ := h
  cases rx
  cases ry
  obtain ⟨mA, J, _⟩ := ins_get I.hok ha
  obtain ⟨mB, J', _⟩ := ins_get I.hok hb
  obtain ⟨od, J, _⟩ := J.look
  obtain ⟨od', J', _⟩ := J'.look
  obtain ⟨m, hF⟩ := I.fr
  show wpAny (model X.prog X.w) X.A (richCompare .Eq (.ref a) (.ref b)) (EP X pins σ Q) X.xe s
  refine PySem.W.cmp_K (op := .Eq) (tb := .ref C) hr.units0 hF I.ok.mod.kin J J'.type (by simp [PySem.W.notFirst]) c.at_ c.fn ?_
  refine wpAny_mono (run_sub (us := [.ref a, .ref b]) (vs := [V.ref a, V.ref b]) F ⟨hr, rfl⟩ hx I (.cons rfl (.cons rfl .nil)) hsp) (fun r s' hq => ?_) fun _ _ z => z
  obtain ⟨w', H', I', rv, b', rfl, q⟩ := hq
  cases rv
  exact ⟨.bl b', H', I', rfl, q⟩
end

/-! ### a tuple's iterator as a tracked thing -/
def TiO (t it : Addr) (i : Nat) : HO := .ext fun h => h.IsTupleIter it t i
theorem tiO_ok {P : Program} {w : World} {H : Hp} {h : Heap} {t it : Addr} {i : Nat} (e : h.IsTupleIter it t i) : ObjOk P w H h it (TiO t it i) :=
  ⟨e, (let ⟨o, ho, _⟩ := e; ⟨o, ho⟩), fun h1 h2 q k => q.at k⟩
section
variable {X : Cx} {pins : List (Addr × Obj)} {σ : L2.St} {H : Hp} {s : Shared} {t it : Addr} {i : Nat}
theorem tiO_get (I : Inv X pins σ H s) (e : H it = some (TiO t it i)) : s.heap.IsTupleIter it t i := (I.hok it _ e).1
end
section
variable {prog : Program} {w : World} {A : Around} {E : Value → Shared → Prop} {s : Shared} {t : Addr} {items : Array Value}
theorem call_iter_tup {Q : Value → Shared → Prop} (hl : s.heap.IsTuple t items) (h : Q (.ref s.heap.objs.size) { s with heap := s.heap.push { cls := .type "tuple_iterator", data := .fields #[.ref t, .int 0 0] } }) :
    wpAny (model prog w) A (call (.builtin "iter") [.ref t]) Q E s := by
  refine Calls.call_function_entry (by decide +kernel) (by decide +kernel) PySem.W.kdk_entry_iter (PySem.W.kdk_args_iter _) ?_
  unfold Builtin.«iter»
  refine wpAny_bind (m := someArgs "iter" 1 2 _) (wpAny_of_eq (a := [Value.ref t]) (by first | rfl | kernel_rfl!) ?_)
  show wpAny _ _ (pyIter (.ref t) >>= _) _ _ _
  refine wpAny_bind (wpAny_pyIter_tuple hl ?_)
  exact wpAny_pure ⟨_, rfl, h⟩
end
/-- iter(t), t a tuple: a new iterator, younger than the entry -/
def rIterT (K : PySem.W.Frag) (n : Nat) : List V → Hp → VK → Prop := fun xs H Q => ∃ (t : Addr) (zs : List V), xs = [V.ref t] ∧ SqT K H t zs ∧ ∀ it, H it = none → n ≤ it → Q (.ref it) (upd H it (TiO t it 0))
theorem call_iterT {X : Cx} : CallR X (.builtin "iter") (rIterT X.K X.s_0.heap.objs.size) := by
  intro pins s σ H xs us Q I r h
  obtain ⟨t, zs, rfl, hq, q⟩ := h
  obtain ⟨u, rfl, ru⟩ := r.one
  cases ru
  obtain ⟨its, rv, pl, hz⟩ := I.tuple hq
  refine call_iter_tup (show s.heap.IsTuple t its.toArray from pl) ?_
  exact ⟨.ref s.heap.objs.size, _, I.laid (t' := s.toks) (fun b u e => Heap.get?_push_of_some _ e) (Nat.le_refl _) (tiO_ok ⟨_, Heap.get?_push_size _ rfl, rfl, rfl⟩), rfl, q _ (I.hok.fresh (Nat.le_refl _)) I.sz⟩

/-! ### a def whose promise may speak of the heap's size at its entry -/
def FnS (P : Program) (w : World) (K : PySem.W.Frag) (mg : Str → Option Value) (base : Heap) (CX : CXT) (k : Nat) (f : Addr) (spN : Nat → Sp) : Prop :=
  ∀ (A : Around) (outer : List Env) (s : Shared) (H : Hp) (us : List Value) (vs : List V) (Q : VK) (E : XK), Room k A → Env0 P w K mg base A outer s H → Vals vs us → spN s.heap.objs.size vs H Q E →
    codeAny (model P w) A (.call (.ref f) ⟨us, []⟩) (CR CX outer P w H s Q E) s
theorem fn_ofS {CX : CXT} {P : Program} {w : World} {K : PySem.W.Frag} {mg : Str → Option Value} {base : Heap} {k : Nat} {f : Addr} {name qual : Str} {params : Arguments} {body : List Stmt} {scope : Scope} {dV kV doc pm cdv ct oc : Value} {an od : Option Addr}
    {osl : Array (Option Value)} {N ps : List Str} {spN : Nat → Sp} (lk : K.lookup f = some ⟨oc, od, .func (PySem.W.fnOf name qual params body scope dV kV doc pm an cdv ct), osl⟩) (hcd : PySem.W.codeIn K cdv qual = true) (S : FnScope N ps scope)
    (hbd : Binds K (PySem.W.fnOf name qual params body scope dV kV doc pm an cdv ct) ps [])
    (len : ∀ n vs H Q E, spN n vs H Q E → vs.length = ps.length)
    (hbody : ∀ (A : Around) (outer : List Env) (s : Shared) (H : Hp) (vs : List V) (Q : VK) (E : XK), Room k (A.deeper (envOfC qual scope s.heap.objs.size f cdv)) → spN s.heap.objs.size vs H Q E →
      ∃ t, PSs (cxOf CX P w K mg base N qual scope f cdv A outer s H E) body t ∧ t { nx := fun _ H' => Q .non H', rt := Q } (start N vs) H) :
    FnS P w K mg base CX (k + 1) f spN := by
  intro A outer s H us vs Q E hr e0 r hsp
  have below : ∀ b o, base.get? b = some o → s.heap.get? b = some o := fun b o z => (e0.bs b o z).1
  have KX := e0.mod.kin.keeps below
  have nl := len _ _ _ _ _ hsp
  have cellsOf : ∀ y ∈ ps.zip us, scope.names.lookup y.1 = some .local ∨
      (scope.names.lookup y.1 = some .cell ∧ ((cellsFrom (s.heap.objs.size + 1) scope.names []).lookup y.1).isSome = true) := by
    rintro ⟨n, v⟩ hy
    exact (S.par n (List.of_mem_zip hy).1).imp id fun q => ⟨q, PySem.W.cellsFrom_some _ _ _ (.inl q)⟩
  have hb : BindsTo s (PySem.W.fnOf name qual params body scope dV kV doc pm an cdv ct) ⟨us, []⟩ (ps.zip us) := by
    have z := hbd s us KX (by rw [List.append_nil, ← r.length, nl])
    simpa using z
  refine codeAny_call_function hr.depth (KX _ _ lk) rfl S.co S.gen rfl
    (PySem.W.codeRec_of KX hcd) (hb _ _ _ _ ?_)
  refine wpAny_newFunctionEnv_cells S.kind cellsOf
    fun env he s1 x => ?_
  cases he
  refine ⟨(e0.mod.nolimit.keeps below).keeps x.toInCall.keep, codeAny_func ?_⟩
  obtain ⟨t, ht, hq⟩ := hbody A outer s H vs Q E
    (hr.deeper _) hsp
  have I : Inv (cxOf CX P w K mg base N qual scope f cdv A outer s H E)
      [] (L2.start N vs) H s1 :=
    inv_start S hr.hd e0 nl r x
  refine wpAny_mono (ht.run [] s1 (start N vs) H _ I hq)
    (fun fl s' hs => ?_) fun _ _ z => z
  cases fl with
  | ret u => exact (let ⟨v, σ', H', J, rv, q⟩ := hs; ⟨v, H', J.os, J.bare, J.base, J.hok, rv, q⟩)
  | next => exact (let ⟨σ', H', J, q⟩ := hs; ⟨V.non, H', J.os, J.bare, J.base, J.hok, rfl, q⟩)
  | brk => exact (let ⟨_, _, _, q⟩ := hs; False.elim q)
  | cont => exact (let ⟨_, _, _, q⟩ := hs; False.elim q)
/-- what __iter__ of the class promises: P says which tuple -/
def spIterN (P : Addr → Addr → Hp → Prop) (K : PySem.W.Frag) (n : Nat) : Sp := fun vs H Q _ => ∃ a t, vs = [V.ref a] ∧ P a t H ∧ ∀ it, H it = none → n ≤ it → Q (.ref it) (upd H it (TiO t it 0))
/-- own things that hand back a tuple's iterator -/
structure OwnI (X : Cx) (CX : CXT) (C f : Addr) (k : Nat) (P : Addr → Addr → Hp → Prop) : Prop where
  own : Own X.K C "__iter__" f
  run : FnS X.prog X.w X.K X.mg X.base CX k f (spIterN P X.K)
section
variable {X : Cx} {pins : List (Addr × Obj)} {σ : L2.St} {H : Hp} {s : Shared} {CX : CXT} {k : Nat} {f C : Addr} {E : XK} {P : Addr → Addr → Hp → Prop}
/-- the iterator comes: it is forgotten at once, and may turn -/
theorem iter_own {A1 : Around} {a t dx : Addr} {fs : List (Str × V)} {Q : Value → Shared → Prop} (o : OwnI X CX C f k P) (sb : Sub X k A1) (hx : Passes CX X E) (I : Inv X pins σ H s) (ha : H a = some (.ins C dx fs)) (hP : P a t H)
    (h : ∀ it s', Inv X pins σ H s' → s'.heap.IsTupleIter it t 0 → FpOk X pins H it → Q (.ref it) s') : wpAny (model X.prog X.w) A1 (pyIter (.ref a)) Q X.xe s := by
  obtain ⟨mA, J, _⟩ := ins_get I.hok ha
  obtain ⟨od, J, _⟩ := J.look
  obtain ⟨m, hF⟩ := I.fr
  refine PySem.W.owit_iter hF I.ok.mod.kin J o.own.at_ o.own.fn ?_
  have e0 : Env0 X.prog X.w X.K X.mg X.base A1 X.stack s H := by
    have e := I.env0
    exact ⟨by rw [sb.fr]; exact e.frames, e.mod, e.bs, e.bsz, e.funs, e.frf, e.hok, e.bare⟩
  have r2 : Vals [V.ref a] [Value.ref a] := .cons rfl .nil
  have hsp : spIterN P X.K s.heap.objs.size [V.ref a] H (fun v H' => ∃ it, v = .ref it ∧ H it = none ∧ s.heap.objs.size ≤ it ∧ H' = upd H it (TiO t it 0)) E :=
    ⟨a, t, rfl, hP, fun it n g => ⟨it, rfl, n, g, rfl⟩⟩
  refine wpAny_call (codeAny_mono (o.run A1 X.stack s H [.ref a] [.ref a] _ E sb.room e0 r2 hsp) fun r s' hq => ?_)
  cases r with
  | error e => exact hx pins σ H s e s' I hq
  | ok fl =>
    cases fl with
    | next => exact False.elim hq
    | brk => exact False.elim hq
    | cont => exact False.elim hq
    | ret u =>
      obtain ⟨v, H', I', rv, it, ev, hn, hg, eH⟩ := I.after hq
      subst ev
      cases rv
      rw [eH] at I'
      have st := tiO_get I' upd_same
      have hT : s'.TypeIs (.ref it) "tuple_iterator" := (let ⟨o, ho, hc, _⟩ := st; ⟨o, ho, hc⟩)
      have hd : (upd H it (TiO t it 0)) it = some (.ext fun h => h.IsTupleIter it t 0) := upd_same
      have I2 := ItX.inv_drop I' hd
      have fp := ItX.inv_fp I' hd (Nat.le_trans I.sz hg)
      rw [ItX.dropH_upd hn] at I2 fp
      show wpAny _ _ (specialOf (.ref it) "__next__") _ _ _
      exact wpAny_specialOf hT slot_tupleiter_next.lookup (h it s' I2 st fp)
/-- for x in o; a comprehension over o -/
def iOwnI (K : PySem.W.Frag) (C : Addr) (P : Addr → Addr → Hp → Prop) (te : TE) : TI := fun σ H R => te σ H fun x H1 => ∃ a t dx fs, x = V.ref a ∧ H1 a = some (.ins C dx fs) ∧ P a t H1 ∧ R (Itt K t) H1
theorem pi_ownI {tg e : Expr} {te : TE} (he : PE X e te) (o : OwnI X CX C f k P) (hx : Passes CX X E) (hr : Room k X.A) : PI X tg e (iOwnI X.K C P te) := by
  refine ⟨fun pins s σ H R I h => ?_⟩
  refine thn (he.run pins s σ H _ I h) fun v s1 ⟨x, H1, I1, r1, q1⟩ => ?_
  obtain ⟨a, t, dx, fs, rfl, ha, hP, q⟩ := q1
  cases r1
  refine iter_own (E := E) o ⟨hr, rfl⟩ hx I1 ha hP fun it s' I2 st fp => ?_
  exact ⟨it, [it], _, Itt X.K t, H1, rfl, I2, turn_tuple t it, st, fun b hb => by
    have e : b = it := by simpa using hb
    subst e
    exact fp, q⟩
end

/-! ### list(o) -/
section
variable {X : Cx} {pins : List (Addr × Obj)} {σ : L2.St} {H : Hp} {s : Shared} {CX CXl : CXT} {k kl : Nat} {f g C t it q : Addr} {E El : XK} {P : Addr → Addr → Hp → Prop} {A1 : Around} {xs : List V} {spl : Sp}
theorem tup_loop {Rs : Result → Shared → Prop} (hh : A1.in1.handled = none) (hdone : ∀ s, Inv X pins σ (upd H q (.lst xs)) s → Rs (.ok (.ret .none)) s) (ht : SqT X.K H t xs) (hq : H q = none)
    (hfp : ∀ b, b = it → FpOk X pins (upd H q (.lst [])) b) :
    ∀ (m i : Nat) (s : Shared), m = xs.length - i → i ≤ xs.length → Inv X pins σ (upd H q (.lst (xs.take i))) s → s.heap.IsTupleIter it t i →
      codeAny (model X.prog X.w) A1 (.builtin "list.extend.loop" ⟨[.ref q, .ref it, .none], []⟩) Rs s := by
  have hqt : ∀ {ys : List V}, SqT X.K (upd H q (.lst ys)) t xs := fun {ys} => SqT.ext ht fun a o z => by
    rw [upd_ne (ne_of_none z hq)]
    exact z
  have nq : it ≠ q := fun z => by
    have z2 := (hfp it rfl).1
    rw [z, upd_same] at z2
    cases z2
  have fpn : ∀ ys, FpOk X pins (upd H q (.lst ys)) it := fun ys => by
    obtain ⟨f0, f1⟩ := hfp it rfl
    refine ⟨?_, f1⟩
    rw [upd_ne nq] at f0 ⊢
    exact f0
  intro m
  induction m with
  | zero =>
    intro i s hm hi I st
    have hi' : i = xs.length := by omega
    subst hi'
    refine codeAny_builtin PySem.F.entry_extend_loop ?_
    rw [Around.under_plainId PySem.F.plain_extend_loop _]
    show wpAny _ A1.in1 (pyNext (.ref it) >>= _) _ _ s
    obtain ⟨its, rv, pl, hz⟩ := I.tuple hqt
    obtain ⟨f0, f1, f2, f3, f4, f5⟩ := fpn (xs.take xs.length)
    have hl := rv.length
    refine wpAny_bind (wpAny_pyNext_tuple_end hh st (show s.heap.IsTuple t its.toArray from pl) (by simp; omega) fun h' eb => ?_)
    refine wpAny_pure (hdone _ ?_)
    have I2 : Inv X pins σ _ { s with heap := h' } := I.turned (t' := s.toks) (fun b o hb e => eb b o hb e) f0 f1 f3 f4 f5
    rw [List.take_length] at I2
    exact I2
  | succ m ih =>
    intro i s hm hi I st
    have hlt : i < xs.length := by omega
    refine codeAny_builtin PySem.F.entry_extend_loop ?_
    rw [Around.under_plainId PySem.F.plain_extend_loop _]
    show wpAny _ A1.in1 (pyNext (.ref it) >>= _) _ _ s
    obtain ⟨its, rv, pl, hz⟩ := I.tuple hqt
    obtain ⟨f0, f1, f2, f3, f4, f5⟩ := fpn (xs.take i)
    obtain ⟨u, hu, ru⟩ := rv.get (List.getElem?_eq_getElem hlt)
    refine wpAny_bind (wpAny_pyNext_tuple_item st (show s.heap.IsTuple t its.toArray from pl) (x := u) (by simpa using hu) fun h' st' sb => ?_)
    have I1 : Inv X pins σ (upd H q (.lst (xs.take i))) { s with heap := h' } := I.turned (t' := s.toks) (fun b o hb e => (sb.2 b hb).trans e) f0 f1 f3 f4 f5
    show wpAny _ A1.in1 (updateSeq q (·.push u) >>= _) _ _ _
    obtain ⟨z, its2, k2, r2, hl2, e2⟩ := I1.lstM upd_same
    have hlen : (xs.take i).length < sizeLine := by rw [List.length_take]; omega
    refine wpAny_bind (wpAny_updateSeq e2 rfl (wpAny_pure ⟨plainId_quiet PySem.F.plain_extend_loop _, ?_⟩) (by rw [List.size_toArray]; omega) (by show (its2.toArray.push u).size ≤ sizeLine + 1; rw [Array.size_push, List.size_toArray]; omega))
    have I3 := I1.lset (f := (·.push u)) (its' := its2 ++ [u]) (t' := s.toks) upd_same e2 (by simp) (r2.append (.cons ru .nil)) (by rw [List.length_append, List.length_singleton]; omega)
    rw [upd_upd] at I3
    have et : xs.take i ++ [xs[i]] = xs.take (i + 1) := by rw [List.take_add_one, List.getElem?_eq_getElem hlt]; rfl
    rw [et] at I3
    refine ih (i + 1) _ (by omega) (by omega) I3 ?_
    obtain ⟨o, ho, hc, hd⟩ := st'
    exact ⟨o, (Heap.get?_update_other h' _ (Ne.symm nq)).trans ho, hc, hd⟩
/-- room is made by the own length -/
theorem hint_own {a dx : Addr} {fs : List (Str × V)} {Q : Bool → Shared → Prop} (c : Own X.K C "__len__" g) (F : FnR X.prog X.w X.K X.mg X.base CX0 kl g spl) (sb : Sub X (kl + 1) A1) (I : Inv X pins σ H s) (ha : H a = some (.ins C dx fs))
    {n : Nat} (hn : n ≤ sizeLine) (hsp : spl [.ref a] H (fun v H' => ∃ k : Int, v = .int k ∧ (0 ≤ k ∧ k < 2 ^ 63) ∧ k = n ∧ H' = H) El)
    (h : ∀ b s', Inv X pins σ H s' → Q b s') : wpAny (model X.prog X.w) A1 (Builtin.List.listLengthHint (.ref a)) Q X.xe s := by
  obtain ⟨mA, J, _⟩ := ins_get I.hok ha
  obtain ⟨od, J, _⟩ := J.look
  have hK := I.kIn
  unfold Builtin.List.listLengthHint
  refine wpAny_bind (wpAny_bind (J.type.here ((PySem.W.looks_findIn hK c.at_).here ?_)))
  refine PySem.W.KFB.if_not rfl ?_
  refine PySem.W.KFB.if_so rfl ?_
  refine wpAny_bind (wpAny_rule ?_)
  refine wpAny_bind (wpAny_attempt ?_)
  have J0 : Inv X.nox pins σ H s := I.wish _
  have q := call_lenO_at (X := X.nox) (E := El) (Q := fun v H' => v = .int n ∧ H' = H) (A1 := A1) c F (fun _ _ _ _ _ _ _ z => False.elim z) ⟨sb.room, sb.fr⟩ J0 ha (by simpa using hsp)
  refine wpAny_mono q (fun r s' hq => ?_) fun _ _ z => False.elim z
  obtain ⟨v, H', I', rv, rfl, rfl⟩ := hq
  obtain ⟨t, rfl⟩ := rv
  refine wpAny_bind (wpAny_pure ?_)
  refine PySem.W.KFB.if_not (by unfold Builtin.List.listTooLong; simp; omega) ?_
  exact wpAny_pure (h _ _ I'.unwish)
/-- a list's first filling by such a thing -/
theorem extend_own {Rs : Result → Shared → Prop} {a dx : Addr} {fs : List (Str × V)} (o : OwnI X CX C f k P) (hx : Passes CX X E) (c : Own X.K C "__len__" g) (F : FnR X.prog X.w X.K X.mg X.base CX0 kl g spl)
    (sb : Sub X k A1.in1) (sbl : Sub X (kl + 1) A1.in1) (ht : SqT X.K H t xs) (hq : H q = none) (hqn : X.s_0.heap.objs.size ≤ q) (ha : H a = some (.ins C dx fs)) (hP : P a t (upd H q (.lst [])))
    (hsp : ∀ H, (∃ dx fs, H a = some (.ins C dx fs)) → P a t H → spl [.ref a] H (fun v H' => ∃ k : Int, v = .int k ∧ (0 ≤ k ∧ k < 2 ^ 63) ∧ k = xs.length ∧ H' = H) El)
    (hdone : ∀ s, Inv X pins σ (upd H q (.lst xs)) s → Rs (.ok (.ret .none)) s) (herr : ∀ e s, X.xe e s → Rs (.error e) s) (I : Inv X pins σ (upd H q (.lst [])) s) :
    wpAny (model X.prog X.w) A1.in1 (Builtin.List.listExtendWith (.ref q) (.ref a) .none)
      (fun fin s' => match fin with | .done f => Rs (.ok f) s' | .again c' => c'.quiet = true ∧ codeAny (model X.prog X.w) A1 c' Rs s') (fun e s' => Rs (.error e) s') s := by
  have hne : q ≠ a := fun z => by rw [← z, hq] at ha; cases ha
  have ha2 : upd H q (.lst []) a = some (.ins C dx fs) := by rw [upd_ne (Ne.symm hne)]; exact ha
  obtain ⟨mA, J, _⟩ := ins_get I.hok ha2
  obtain ⟨od, J, _⟩ := J.look
  have htq : SqT X.K (upd H q (.lst [])) t xs := SqT.ext ht fun b u z => by
    rw [upd_ne (ne_of_none z hq)]
    exact z
  obtain ⟨_, _, _, hz⟩ := I.tuple htq
  unfold Builtin.List.listExtendWith
  refine wpAny_bind (J.type.here ?_)
  simp only [show Builtin.List.listSameRef (.ref q) (.ref a) = false by simp [Builtin.List.listSameRef, hne], show (Value.ref C == Value.type "list") = false from rfl, show (Value.ref C == Value.type "tuple") = false from rfl, Bool.or_false, Bool.false_eq_true, if_false]
  refine wpAny_bind (wpAny_mono (iter_own (E := E) (Q := fun v s' => ∃ it, v = .ref it ∧ Inv X pins σ (upd H q (.lst [])) s' ∧ s'.heap.IsTupleIter it t 0 ∧ FpOk X pins (upd H q (.lst [])) it) o sb hx I ha2 hP
    fun it s' I' st fp => ⟨it, rfl, I', st, fp⟩) (fun v s' hv => ?_) herr)
  obtain ⟨it, rfl, I', st, fp⟩ := hv
  have I1 := I'.pinned (fp := [it]) (fun b hb => by
    have e : b = it := by simpa using hb
    subst e
    exact fp) (fun b hb => by
    have e : b = it := by simpa using hb
    subst e
    obtain ⟨oo, ho, hc, hd⟩ := st
    exact ⟨oo, ho, fun v z => by rw [hd] at z; cases z⟩)
  refine wpAny_bind (wpAny_holding (hint_own (Q := fun b s2 => Inv X pins σ (upd H q (.lst [])) s2 ∧ s2.heap.IsTupleIter it t 0) c F sbl I1 ha2 hz (hsp _ ⟨_, _, ha2⟩ hP) fun b s2 I2 => ⟨I2.unpinned, by
    obtain ⟨oo, ho, hc, hd⟩ := st
    exact ⟨oo, (I2.pin (it, oo) (List.mem_append_right _ (List.mem_append_right _ (mem_pinsAt (by simp) ho)))).1, hc, hd⟩⟩) |> fun w => wpAny_mono w (fun b s2 h2 => ?_) herr)
  obtain ⟨I2, st2⟩ := h2
  have loop : ∀ s3, Inv X pins σ (upd H q (.lst [])) s3 → s3.heap.IsTupleIter it t 0 → codeAny (model X.prog X.w) A1 (.builtin "list.extend.loop" ⟨[.ref q, .ref it, .none], []⟩) Rs s3 := fun s3 I3 st3 =>
    tup_loop (q := q) sb.room.hd hdone ht hq (fun b hb => by rw [hb]; exact fp) (xs.length - 0) 0 s3 rfl (Nat.zero_le _) I3 st3
  have nq : it ≠ q := fun z => by
    have z2 := fp.1
    rw [z, upd_same] at z2
    cases z2
  obtain ⟨z, its, k2, r3, hl3, e3⟩ := I2.lstM upd_same
  cases r3
  refine wpAny_ite_split (fun _ => ?_) (fun _ => wpAny_pure ⟨plainId_quiet PySem.F.plain_extend_loop _, loop _ I2 st2⟩)
  refine wpAny_bind (wpAny_rule ?_)
  refine wpAny_bind ?_
  show wpAny _ _ (updateSeq q (·.push .none) >>= fun _ => updateSeq q (·.pop)) _ _ _
  refine wpAny_bind (wpAny_updateSeq e3 rfl ?_)
  have I4 := I2.lset (f := (·.push Value.none)) (its' := [Value.none]) (ys := [.non]) (t' := s2.toks) upd_same e3 (by simp) (.cons rfl .nil) (by rw [List.length_singleton, sizeLine_eq]; decide)
  rw [upd_upd] at I4
  obtain ⟨z4, its4, k4, r4, hl4, e4⟩ := I4.lstM upd_same
  obtain ⟨u4, rfl, ru4⟩ := r4.one
  refine wpAny_updateSeq e4 rfl ?_ (by show 1 ≤ sizeLine; rw [sizeLine_eq]; decide) (by show 0 ≤ sizeLine + 1; exact Nat.zero_le _)
  have I5 := I4.lset (f := (·.pop)) (its := [u4]) (its' := []) (ys := []) (t' := s2.toks) upd_same e4 (by rfl) .nil (Nat.zero_le _)
  rw [upd_upd] at I5
  refine wpAny_pure ⟨plainId_quiet PySem.F.plain_extend_loop _, loop _ I5 ?_⟩
  obtain ⟨oo, ho, hc, hd⟩ := st2
  exact ⟨oo, (Heap.get?_update_other _ _ (Ne.symm nq)).trans ((Heap.get?_update_other _ _ (Ne.symm nq)).trans ho), hc, hd⟩
/-- list(o) -/
def rListO (K : PySem.W.Frag) (C : Addr) (P : Addr → Addr → Hp → Prop) (spl : Sp) (El : XK) : List V → Hp → VK → Prop := fun vs H Q => ∃ a dx fs t xs, vs = [V.ref a] ∧ H a = some (.ins C dx fs) ∧ SqT K H t xs ∧
  (∀ q, H q = none → P a t (upd H q (.lst []))) ∧ (∀ H, (∃ dx fs, H a = some (.ins C dx fs)) → P a t H → spl [.ref a] H (fun v H' => ∃ k : Int, v = .int k ∧ (0 ≤ k ∧ k < 2 ^ 63) ∧ k = xs.length ∧ H' = H) El) ∧
  ∀ q, H q = none → Q (.ref q) (upd H q (.lst xs))
theorem call_listO (o : OwnI X CX C f k P) (hx : Passes CX X E) (c : Own X.K C "__len__" g) (F : FnR X.prog X.w X.K X.mg X.base CX0 kl g spl) (hr : Room (k + 2) X.A) (hrl : Room (kl + 3) X.A) : CallR X (.type "list") (rListO X.K C P spl El) := by
  intro pins s σ H vs us Q I rv h
  obtain ⟨a, dx, fs, t, xs, rfl, ha, ht, hP, hsp, hQ⟩ := h
  obtain ⟨u, rfl, ru⟩ := rv.one
  cases ru
  have sb : Sub X k X.A.in1.in1 := Sub.in1 (Sub.in1 (⟨hr, rfl⟩ : Sub X (k + 2) X.A))
  have sbl : Sub X (kl + 1) X.A.in1.in1 := Sub.in1 (Sub.in1 (⟨hrl, rfl⟩ : Sub X (kl + 3) X.A))
  refine callType_codes (Q₁ := fun obj s₁ => obj = .ref s.heap.objs.size ∧ s₁ = { s with heap := s.heap.push { cls := .type "list", data := .seq #[] } }) PySem.F.called_list (PySem.F.typeCall_list_1 _) PySem.F.entry_list_init
    (code_list_new _ ⟨rfl, rfl⟩) fun obj s₁ h₁ => ?_
  obtain ⟨rfl, rfl⟩ := h₁
  have hS : (s.heap.push { cls := .type "list", data := .seq #[] }).get? s.heap.objs.size = some { cls := .type "list", data := .seq #[] } := Heap.get?_push_size _ rfl
  refine ⟨⟨_, hS, rfl⟩, PySem.F.args_list_init_2 _ _, ?_⟩
  have fr : H s.heap.objs.size = none := I.hok.fresh (Nat.le_refl _)
  have I1 : Inv X pins σ (upd H s.heap.objs.size (.lst [])) { s with heap := s.heap.push { cls := .type "list", data := .seq #[] } } := I.lnew (its := []) (t' := s.toks) .nil (Nat.zero_le _)
  show wpAny _ _ (do let old ← Builtin.List.listItems (.ref s.heap.objs.size); Builtin.List.listUpdate (.ref s.heap.objs.size) (fun _ => #[]); letGo old.toList.reverse; Builtin.List.listExtendWith (.ref s.heap.objs.size) (.ref a) .none) _ _ _
  refine wpAny_bind ?_
  unfold Builtin.List.listItems
  refine wpAny_bind (wpAny_seqItems hS rfl (wpAny_pure ?_))
  show wpAny _ _ (updateSeq s.heap.objs.size (fun _ => #[]) >>= fun _ => letGo (#[] : Array Value).toList.reverse >>= fun _ => Builtin.List.listExtendWith (.ref s.heap.objs.size) (.ref a) .none) _ _ _
  refine wpAny_bind (wpAny_updateSeq hS rfl ?_)
  have I2 := I1.lset (f := fun _ => #[]) (its := []) (its' := []) (ys := []) (t' := s.toks) upd_same hS rfl .nil (Nat.zero_le _)
  rw [upd_upd] at I2
  refine wpAny_bind (wpAny_letGo ?_)
  exact extend_own (A1 := X.A.in1) (El := El) (Rs := wants (fun r s₂ => r = .none ∧ EP X pins σ Q (.ref s.heap.objs.size) s₂) X.xe) o hx c F sb sbl ht fr I.sz ha (hP _ fr) hsp
    (fun s' I' => ⟨rfl, .ref s.heap.objs.size, _, I', rfl, hQ _ fr⟩) (fun e s' he => he) I2
end
end DK

/-! len(set(t)) of a tuple of ints; a new instance within a try -/
namespace DK
open PySem PySem.Spec PyProof.Rows L2 StX

theorem mem_len : ∀ (ks ns : List Int), ks.Nodup → (∀ k, k ∈ ks → k ∈ ns) → ks.length ≤ ns.length
  | [], _, _, _ => Nat.zero_le _
  | k :: ks, ns, hn, h => by
    have h1 : k ∈ ns := h k List.mem_cons_self
    have h2 := mem_len ks (ns.erase k) (List.nodup_cons.mp hn).2 fun j hj => (List.mem_erase_of_ne fun e => (List.nodup_cons.mp hn).1 (by rw [← e]; exact hj)).mpr (h j (List.mem_cons_of_mem _ hj))
    rw [List.length_erase_of_mem h1] at h2
    have : 0 < ns.length := List.length_pos_of_mem h1
    simp only [List.length_cons]
    omega
theorem nodup_len {ks ns : List Int} (hk : ks.Nodup) (h : ∀ k, k ∈ ks ↔ k ∈ ns) : ks.length = ns.length ↔ ns.Nodup := by
  refine ⟨fun e => ?_, fun hn => Nat.le_antisymm (mem_len _ _ hk fun k => (h k).mp) (mem_len _ _ hn fun k => (h k).mpr)⟩
  apply Decidable.byContradiction
  intro hn
  have : ∃ k rest, ns.Perm (k :: k :: rest) := by
    clear h e hk
    induction ns with
    | nil => exact absurd List.nodup_nil hn
    | cons a r ih =>
      by_cases ha : a ∈ r
      · exact ⟨a, r.erase a, (List.perm_cons_erase ha).cons a⟩
      · obtain ⟨k, rest, p⟩ := ih fun z => hn (List.nodup_cons.mpr ⟨ha, z⟩)
        exact ⟨k, a :: rest, (p.cons a).trans ((List.Perm.swap k a (k :: rest)).trans ((List.Perm.swap k a rest).cons k))⟩
  obtain ⟨k, rest, p⟩ := this
  have := mem_len ks (k :: rest) hk fun j hj => by
    have := p.mem_iff.mp ((h j).mp hj)
    simpa using this
  have := p.length_eq
  simp only [List.length_cons] at *
  omega
def tLenSetT (K : PySem.W.Frag) (ta : TE) : TE := fun σ H Q => ta σ H fun x H1 => ∃ (l : Addr) (ns : List Int), x = V.ref l ∧ SqT K H1 l (ns.map V.int) ∧ ns.length ≤ 1000 ∧ ∀ c : Nat, (c = ns.length ↔ ns.Nodup) → Q (.int c) H1
theorem pe_lenSetT {X : Cx} {a : Expr} {ta : TE} {p p2 q pos : Pos} (hc : X.calm = true) (hg : Gl X "len") (hm : X.mg "len" = none) (hg2 : Gl X "set") (hm2 : X.mg "set" = none) (ha : PE X a ta)
    (na : starEach [a] X.env = (false, eval a X.env) :: starEach [] X.env := by rfl) : PE X (.Call (.Name "len" p) [.Call (.Name "set" p2) [a] [] q] [] pos) (tLenSetT X.K ta) := by
  refine ⟨fun pins s σ H Q I h => ?_⟩
  refine Call_ (ld_blt I hg hm PySem.boot_len ?_)
  refine PyProof.Rows.callWith_builtin1 (PyProof.Rows.args_cons ?_ rfl) rfl rfl
  refine Call_ (ld_blt I hg2 hm2 PyProof.Rows.boot_set ?_)
  refine PyProof.Rows.callWith_type1 (PyProof.Rows.args_cons (thn (ha.run pins s σ H _ I h) fun v s1 ⟨x, H1, I1, r1, l, ns, ex, hq, hl, q1⟩ => PyProof.Rows.args_nil ?_) na) na rfl
  subst ex
  cases r1
  obtain ⟨its, rv, pt, hz⟩ := I1.tuple hq
  refine call_set_tupI ns (I1.ok.hd hc) (show s1.heap.IsTuple l its.toArray from pt) (ints_of_vals rv) (by unfold scanBound; omega) fun h' tk c R1 hcn k => ?_
  obtain ⟨o, es, ep, t, ho, hex, hdt, g, nd, hm3, hb, hf, hn, hr, hl2⟩ := R1
  have I2 : Inv X pins σ H1 { s1 with heap := h', toks := tk } := I1.kept k
  refine PyProof.Rows.args_nil ?_
  have hsz : (es.toList.map keyOf).length = es.size := by simp
  have key := nodup_len (ns := ns) nd fun j => (hm3 j).symm.trans (by simp)
  rw [hsz] at key
  have small : es.size ≤ ns.length := by omega
  exact call_len_set ho hex hdt hf (by omega) ⟨.int es.size, H1, I2.tok _, ⟨_, rfl⟩, q1 _ key⟩
/-- C(e, ..) where what is raised is wished for at the maker's slots -/
def tMakeS (C : Addr) (sp : Sp) (E : L2.St → XK) (t : TA) : TE := fun σ H Q => t σ H fun vs H1 => ∀ x dx, H1 x = Option.none → H1 dx = Option.none → dx ≠ x →
  sp (V.ref x :: vs) (upd (upd H1 dx (.own x)) x (.ins C dx [])) (fun v H2 => v = .non ∧ Q (.ref x) H2) (E σ)
section
variable {X : Cx} {CX : CXT} {k : Nat} {f C : Addr} {sp : Sp} {E : L2.St → XK} {x : Str} {e : Expr} {es : List Expr} {t : TA} {p pos : Pos}
theorem pe_makeS (M : Mk X.K C f) (F : FnR X.prog X.w X.K X.mg X.base CX k f sp) (hr : Room (k + 1) X.A) (hg : Gl X x) (hm : X.mg x = some (.ref C)) (hx : ∀ σ, PassesAt CX X σ (E σ)) (ha : PA X (e :: es) t) (hdb : (x == ("__debug__" : Str)) = false := by decide)
    (he : starEach (e :: es) X.env = (false, eval e X.env) :: starEach es X.env := by rfl) (hpl : (backTo pos (starEach es X.env)).any (·.1) = false := by rfl) : PE X (.Call (.Name x p) (e :: es) [] pos) (tMakeS C sp E t) := by
  refine ⟨fun pins s σ H Q I h => ?_⟩
  refine wpAny_Call_Name_kw (ld_glob I hg hm ?_ hdb)
  refine PySem.W.callWith_K (h₀ := X.base) I.ok.mod.kin M.kp (thn (ha.run pos pins s σ H _ I h) fun us s1 ⟨vs, H1, I1, r, h1⟩ => ⟨I1.kIn, ?_⟩) he hpl
  have hq := h1 (s1.heap.objs.size + 1) s1.heap.objs.size (I1.hok.fresh (Nat.le_succ _)) (I1.hok.fresh (Nat.le_refl _)) (Nat.ne_of_lt (Nat.lt_succ_self _))
  have I2 := Inv.made (C := C) I1
  have r2 : Vals (V.ref (s1.heap.objs.size + 1) :: vs) (Value.ref (s1.heap.objs.size + 1) :: us) := .cons rfl r
  refine wpAny_call (make_map (f := f) I1.kIn M.makes M.init (beq_iff_eq.mp M.fn) (codeAny_mono (F _ X.stack _ _ (Value.ref (s1.heap.objs.size + 1) :: us) _ _ (E σ) (hr.make C us []) (I2.env0.make C us []) r2 hq) fun r s' hq' => ?_))
  cases r with
  | error e => exact hx σ pins _ _ e s' I2 hq'
  | ok fl =>
    cases fl with
    | ret u =>
      obtain ⟨v, H', I3, rv, ev, q3⟩ := I2.after hq'
      subst ev
      exact ⟨rv, ⟨V.ref (s1.heap.objs.size + 1), H', I3, rfl, q3⟩⟩
    | next => exact False.elim hq'
    | brk => exact False.elim hq'
    | cont => exact False.elim hq'
end
end DK

namespace R1
open PySem PySem.Spec PyProof.Rows L2 RK
local macro_rules | `(tactic| walk_at "sq") => `(tactic| first
  | exact SqL.of upd_same | exact upd_same | exact SqL.of (by assumption) | exact SqL.of (by rw [upd_ne (by assumption)]; assumption) | assumption)
local macro_rules | `(tactic| walk_at "sd") => `(tactic| first
  | assumption | omega | (refine Or.inl ⟨?_, ?_⟩ <;> omega) | (show _ ∧ _; constructor <;> omega) | (show _ ≠ _; simp; omega) | (exact Or.inl ⟨by decide, by decide⟩) | (exact Or.inr ⟨by decide, by decide⟩) | (show _ < _; decide) | (show _ ≤ _; decide))
local macro_rules | `(tactic| walk_at "at") => `(tactic| first | rfl | (refine atI_intV ?_ ?_ <;> omega) | assumption)
local macro_rules | `(tactic| walk_at "s1") => `(tactic| first
  | refine ⟨_, rfl, ?_⟩ | refine ⟨_, _, rfl, rfl, ?_⟩ | refine ⟨rfl, ?_⟩
  | refine ⟨_, _, _, _, rfl, rfl, by walk_at "sq", by walk_at "at", ?_⟩
  | refine Or.inl ⟨_, rfl, ?_⟩
  | refine ⟨_, _, rfl, Or.inl (by walk_at "sq"), ?_⟩
  | refine And.intro (by walk_at "sd") ?_)
local macro_rules | `(tactic| walk_at "s") => `(tactic| repeat walk_at "s1")

def topS (i : Nat) : Stmt := PySem.Challenge.pw_romwright_k64_whole_torn_forms.main.body.getD i (.Pass ⟨0, 0, 0, 0⟩)
abbrev s_BadImage_init : Stmt := inClass (topS 4) 0
abbrev N_BadImage_init : List Str := ["self", "reason"]
theorem sc_BadImage_init : FnScope N_BadImage_init ["self", "reason"] (defScope s_BadImage_init) := ⟨rfl, rfl, rfl, by decide +kernel, rfl, by decide +kernel, by decide +kernel⟩
abbrev s_Image_init : Stmt := inClass (topS 12) 0
abbrev N_Image_init : List Str := ["self", "words", "reason"]
theorem sc_Image_init : FnScope N_Image_init ["self", "words"] (defScope s_Image_init) := ⟨rfl, rfl, rfl, by decide +kernel, rfl, by decide +kernel, by decide +kernel⟩
abbrev s_check_of : Stmt := topS 13
abbrev N_check_of : List Str := ["words", "left", "place", "word"]
theorem sc_check_of : FnScope N_check_of ["words", "left"] (defScope s_check_of) := ⟨rfl, rfl, rfl, by decide +kernel, rfl, by decide +kernel, by decide +kernel⟩
abbrev s_number_at : Stmt := topS 14
abbrev N_number_at : List Str := ["words", "places", "number", "place"]
theorem sc_number_at : FnScope N_number_at ["words", "places"] (defScope s_number_at) := ⟨rfl, rfl, rfl, by decide +kernel, rfl, by decide +kernel, by decide +kernel⟩
abbrev s_form_fault : Stmt := topS 15
abbrev N_form_fault : List Str := ["words"]
theorem sc_form_fault : FnScope N_form_fault ["words"] (defScope s_form_fault) := ⟨rfl, rfl, rfl, by decide +kernel, rfl, by decide +kernel, by decide +kernel⟩
abbrev s_refusal : Stmt := topS 16
abbrev N_refusal : List Str := ["words", "product", "secret", "home", "reason"]
theorem sc_refusal : FnScope N_refusal ["words", "product", "secret", "home"] (defScope s_refusal) := ⟨rfl, rfl, rfl, by decide +kernel, rfl, by decide +kernel, by decide +kernel⟩
abbrev s_law_source : Stmt := topS 18
abbrev N_law_source : List Str := ["_law_script", "_law_cell", "_law_numbers", "_law_mixed"]
theorem sc_law_source : FnScope N_law_source ["_law_script"] (defScope s_law_source) := ⟨rfl, rfl, rfl, by decide +kernel, rfl, by decide +kernel, by decide +kernel⟩
abbrev s_law_draw : Stmt := topS 19
abbrev N_law_draw : List Str := ["_law_source_here", "_law_below", "_law_numbers", "_law_place", "_law_digits_here", "_law_count", "_law_seed", "_law_number_here"]
theorem sc_law_draw : FnScope N_law_draw ["_law_source_here", "_law_below"] (defScope s_law_draw) := ⟨rfl, rfl, rfl, by decide +kernel, rfl, by decide +kernel, by decide +kernel⟩
abbrev s_law_word : Stmt := topS 20
abbrev N_law_word : List Str := ["_law_source_here", "_law_way"]
theorem sc_law_word : FnScope N_law_word ["_law_source_here"] (defScope s_law_word) := ⟨rfl, rfl, rfl, by decide +kernel, rfl, by decide +kernel, by decide +kernel⟩
abbrev s_law_plain : Stmt := topS 21
abbrev N_law_plain : List Str := ["_law_thing", "_law_one"]
theorem sc_law_plain : FnScope N_law_plain ["_law_thing"] (defScope s_law_plain) := ⟨rfl, rfl, rfl, by decide +kernel, rfl, by decide +kernel, by decide +kernel⟩
abbrev s_law_sum : Stmt := topS 22
abbrev N_law_sum : List Str := ["_law_words", "_law_without", "_law_total", "_law_place"]
theorem sc_law_sum : FnScope N_law_sum ["_law_words", "_law_without"] (defScope s_law_sum) := ⟨rfl, rfl, rfl, by decide +kernel, rfl, by decide +kernel, by decide +kernel⟩
abbrev s_law_digits : Stmt := topS 23
abbrev N_law_digits : List Str := ["_law_number_here", "_law_count", "_law_digits_here", "_law_step"]
theorem sc_law_digits : FnScope N_law_digits ["_law_number_here", "_law_count"] (defScope s_law_digits) := ⟨rfl, rfl, rfl, by decide +kernel, rfl, by decide +kernel, by decide +kernel⟩
abbrev s_law_number : Stmt := topS 24
abbrev N_law_number : List Str := ["_law_words", "_law_number_here", "_law_word_here"]
theorem sc_law_number : FnScope N_law_number ["_law_words"] (defScope s_law_number) := ⟨rfl, rfl, rfl, by decide +kernel, rfl, by decide +kernel, by decide +kernel⟩
abbrev s_law_headed : Stmt := topS 25
abbrev N_law_headed : List Str := ["_law_facts", "_law_sign", "_law_body_here", "_law_head", "_law_total"]
theorem sc_law_headed : FnScope N_law_headed ["_law_facts", "_law_sign", "_law_body_here"] (defScope s_law_headed) := ⟨rfl, rfl, rfl, by decide +kernel, rfl, by decide +kernel, by decide +kernel⟩
abbrev s_law_flaw : Stmt := topS 26
abbrev N_law_flaw : List Str := ["_law_words"]
theorem sc_law_flaw : FnScope N_law_flaw ["_law_words"] (defScope s_law_flaw) := ⟨rfl, rfl, rfl, by decide +kernel, rfl, by decide +kernel, by decide +kernel⟩
abbrev s_law_due : Stmt := topS 27
abbrev N_law_due : List Str := ["_law_words", "_law_made", "_law_sign", "_law_base", "_law_flaw_here"]
theorem sc_law_due : FnScope N_law_due ["_law_words", "_law_made", "_law_sign", "_law_base"] (defScope s_law_due) := ⟨rfl, rfl, rfl, by decide +kernel, rfl, by decide +kernel, by decide +kernel⟩
abbrev s_law_end_word : Stmt := topS 28
abbrev N_law_end_word : List Str := ["_law_source_here", "_law_way"]
theorem sc_law_end_word : FnScope N_law_end_word ["_law_source_here"] (defScope s_law_end_word) := ⟨rfl, rfl, rfl, by decide +kernel, rfl, by decide +kernel, by decide +kernel⟩
abbrev s_law_body : Stmt := topS 29
abbrev N_law_body : List Str := ["_law_source_here", "_law_place", "_law_rows"]
theorem sc_law_body : FnScope N_law_body ["_law_source_here"] (defScope s_law_body) := ⟨rfl, rfl, rfl, by decide +kernel, rfl, by decide +kernel, by decide +kernel⟩
abbrev s_law_places : Stmt := topS 30
abbrev N_law_places : List Str := ["_law_source_here", "_law_count", "_law_way", "_law_spot", "_law_place", "_law_head", "_law_page", "_law_pages", "_law_sealed"]
theorem sc_law_places : FnScope N_law_places ["_law_source_here", "_law_count"] (defScope s_law_places) := ⟨rfl, rfl, rfl, by decide +kernel, rfl, by decide +kernel, by decide +kernel⟩
abbrev s_law_reason : Stmt := topS 31
abbrev N_law_reason : List Str := ["_law_words", "_law_image", "e"]
theorem sc_law_reason : FnScope N_law_reason ["_law_words"] (defScope s_law_reason) := ⟨rfl, rfl, rfl, by decide +kernel, rfl, by decide +kernel, by decide +kernel⟩
abbrev s_law : Stmt := topS 32
abbrev N_law : List Str := ["_law_script", "_law_source_here", "_law_body_here", "_law_step", "_law_facts", "_law_sign", "_law_words", "_law_lost", "_law_place", "_law_torn", "_law_behind", "_law_others", "_law_given", "_law_made", "_law_base", "_law_due_here", "_law_told"]
theorem sc_law : FnScope N_law ["_law_script"] (defScope s_law) := ⟨rfl, rfl, rfl, by decide +kernel, rfl, by decide +kernel, by decide +kernel⟩
/-- where things stand -/
structure Ads where
  a_check_of : Addr
  d_check_of : FuncData
  a_number_at : Addr
  d_number_at : FuncData
  a_form_fault : Addr
  d_form_fault : FuncData
  a_refusal : Addr
  d_refusal : FuncData
  a_law_source : Addr
  d_law_source : FuncData
  a_law_draw : Addr
  d_law_draw : FuncData
  a_law_word : Addr
  d_law_word : FuncData
  a_law_plain : Addr
  d_law_plain : FuncData
  a_law_sum : Addr
  d_law_sum : FuncData
  a_law_digits : Addr
  d_law_digits : FuncData
  a_law_number : Addr
  d_law_number : FuncData
  a_law_headed : Addr
  d_law_headed : FuncData
  a_law_flaw : Addr
  d_law_flaw : FuncData
  a_law_due : Addr
  d_law_due : FuncData
  a_law_end_word : Addr
  d_law_end_word : FuncData
  a_law_body : Addr
  d_law_body : FuncData
  a_law_places : Addr
  d_law_places : FuncData
  a_law_reason : Addr
  d_law_reason : FuncData
  a_law : Addr
  d_law : FuncData
  c_BadImage : Addr
  a_BadImage_init : Addr
  d_BadImage_init : FuncData
  c_Image : Addr
  a_Image_init : Addr
  d_Image_init : FuncData
  t_BLANK : Tok
  t_HEADER : Tok
  t_MOST_WORDS : Tok
  t_TAG_FACTOR : Tok
  t_CHECK : Addr
  t_TAG : Addr
  t_UNCHECKED : Addr
structure Txt (K : PySem.W.Frag) (mg : Str → Option Value) (A : Ads) : Prop where
  F_check_of : Fun K "check_of" "check_of" s_check_of A.a_check_of A.d_check_of
  g_check_of : mg "check_of" = some (.ref A.a_check_of)
  b_check_of : Binds K A.d_check_of ["words", "left"] []
  F_number_at : Fun K "number_at" "number_at" s_number_at A.a_number_at A.d_number_at
  g_number_at : mg "number_at" = some (.ref A.a_number_at)
  b_number_at : Binds K A.d_number_at ["words", "places"] []
  F_form_fault : Fun K "form_fault" "form_fault" s_form_fault A.a_form_fault A.d_form_fault
  g_form_fault : mg "form_fault" = some (.ref A.a_form_fault)
  b_form_fault : Binds K A.d_form_fault ["words"] []
  F_refusal : Fun K "refusal" "refusal" s_refusal A.a_refusal A.d_refusal
  g_refusal : mg "refusal" = some (.ref A.a_refusal)
  b_refusal : KBinds K A.d_refusal ["words", "product", "secret", "home"] ["product", "secret", "home"] kw1_3 kw1_3
  F_law_source : Fun K "_law_source" "_law_source" s_law_source A.a_law_source A.d_law_source
  g_law_source : mg "_law_source" = some (.ref A.a_law_source)
  b_law_source : Binds K A.d_law_source ["_law_script"] []
  F_law_draw : Fun K "_law_draw" "_law_draw" s_law_draw A.a_law_draw A.d_law_draw
  g_law_draw : mg "_law_draw" = some (.ref A.a_law_draw)
  b_law_draw : Binds K A.d_law_draw ["_law_source_here", "_law_below"] []
  F_law_word : Fun K "_law_word" "_law_word" s_law_word A.a_law_word A.d_law_word
  g_law_word : mg "_law_word" = some (.ref A.a_law_word)
  b_law_word : Binds K A.d_law_word ["_law_source_here"] []
  F_law_plain : Fun K "_law_plain" "_law_plain" s_law_plain A.a_law_plain A.d_law_plain
  g_law_plain : mg "_law_plain" = some (.ref A.a_law_plain)
  b_law_plain : Binds K A.d_law_plain ["_law_thing"] []
  F_law_sum : Fun K "_law_sum" "_law_sum" s_law_sum A.a_law_sum A.d_law_sum
  g_law_sum : mg "_law_sum" = some (.ref A.a_law_sum)
  b_law_sum : Binds K A.d_law_sum ["_law_words", "_law_without"] []
  F_law_digits : Fun K "_law_digits" "_law_digits" s_law_digits A.a_law_digits A.d_law_digits
  g_law_digits : mg "_law_digits" = some (.ref A.a_law_digits)
  b_law_digits : Binds K A.d_law_digits ["_law_number_here", "_law_count"] []
  F_law_number : Fun K "_law_number" "_law_number" s_law_number A.a_law_number A.d_law_number
  g_law_number : mg "_law_number" = some (.ref A.a_law_number)
  b_law_number : Binds K A.d_law_number ["_law_words"] []
  F_law_headed : Fun K "_law_headed" "_law_headed" s_law_headed A.a_law_headed A.d_law_headed
  g_law_headed : mg "_law_headed" = some (.ref A.a_law_headed)
  b_law_headed : Binds K A.d_law_headed ["_law_facts", "_law_sign", "_law_body_here"] []
  F_law_flaw : Fun K "_law_flaw" "_law_flaw" s_law_flaw A.a_law_flaw A.d_law_flaw
  g_law_flaw : mg "_law_flaw" = some (.ref A.a_law_flaw)
  b_law_flaw : Binds K A.d_law_flaw ["_law_words"] []
  F_law_due : Fun K "_law_due" "_law_due" s_law_due A.a_law_due A.d_law_due
  g_law_due : mg "_law_due" = some (.ref A.a_law_due)
  b_law_due : Binds K A.d_law_due ["_law_words", "_law_made", "_law_sign", "_law_base"] []
  F_law_end_word : Fun K "_law_end_word" "_law_end_word" s_law_end_word A.a_law_end_word A.d_law_end_word
  g_law_end_word : mg "_law_end_word" = some (.ref A.a_law_end_word)
  b_law_end_word : Binds K A.d_law_end_word ["_law_source_here"] []
  F_law_body : Fun K "_law_body" "_law_body" s_law_body A.a_law_body A.d_law_body
  g_law_body : mg "_law_body" = some (.ref A.a_law_body)
  b_law_body : Binds K A.d_law_body ["_law_source_here"] []
  F_law_places : Fun K "_law_places" "_law_places" s_law_places A.a_law_places A.d_law_places
  g_law_places : mg "_law_places" = some (.ref A.a_law_places)
  b_law_places : Binds K A.d_law_places ["_law_source_here", "_law_count"] []
  F_law_reason : Fun K "_law_reason" "_law_reason" s_law_reason A.a_law_reason A.d_law_reason
  g_law_reason : mg "_law_reason" = some (.ref A.a_law_reason)
  b_law_reason : Binds K A.d_law_reason ["_law_words"] []
  F_law : Fun K "law" "law" s_law A.a_law A.d_law
  g_law : mg "law" = some (.ref A.a_law)
  b_law : Binds K A.d_law ["_law_script"] []
  F_BadImage_init : Fun K "__init__" "BadImage.__init__" s_BadImage_init A.a_BadImage_init A.d_BadImage_init
  x_BadImage : ErrC K mg "BadImage" "reason" A.c_BadImage A.a_BadImage_init A.d_BadImage_init
  F_Image_init : Fun K "__init__" "Image.__init__" s_Image_init A.a_Image_init A.d_Image_init
  b_Image_init : Binds K A.d_Image_init ["self", "words"] []
  m_Image : Mk K A.c_Image A.a_Image_init
  cl_Image : Cls K A.c_Image
  na_Image_words : NoAttr K A.c_Image "words"
  na_Image_product : NoAttr K A.c_Image "product"
  na_Image_version : NoAttr K A.c_Image "version"
  na_Image_level : NoAttr K A.c_Image "level"
  na_Image_home : NoAttr K A.c_Image "home"
  na_Image_entry : NoAttr K A.c_Image "entry"
  na_Image_check : NoAttr K A.c_Image "check"
  na_Image_tag : NoAttr K A.c_Image "tag"
  na_Image_content : NoAttr K A.c_Image "content"
  na_Image_map : NoAttr K A.c_Image "map"
  g_BadImage : mg "BadImage" = some (.ref A.c_BadImage)
  g_Image : mg "Image" = some (.ref A.c_Image)
  g_BLANK : mg "BLANK" = some (.int 65535 A.t_BLANK)
  g_HEADER : mg "HEADER" = some (.int 16 A.t_HEADER)
  g_MOST_WORDS : mg "MOST_WORDS" = some (.int 1024 A.t_MOST_WORDS)
  g_TAG_FACTOR : mg "TAG_FACTOR" = some (.int 65521 A.t_TAG_FACTOR)
  g_CHECK : mg "CHECK" = some (.ref A.t_CHECK)
  q_CHECK : SqT K (fun _ => none) A.t_CHECK [.int (9), .int (10), .int (11)]
  y_CHECK : ∃ o, K.lookup A.t_CHECK = some o ∧ o.cls = .type "tuple" ∧ o.dict = none
  g_TAG : mg "TAG" = some (.ref A.t_TAG)
  q_TAG : SqT K (fun _ => none) A.t_TAG [.int (12), .int (13), .int (14), .int (15)]
  y_TAG : ∃ o, K.lookup A.t_TAG = some o ∧ o.cls = .type "tuple" ∧ o.dict = none
  g_UNCHECKED : mg "UNCHECKED" = some (.ref A.t_UNCHECKED)
  q_UNCHECKED : SqT K (fun _ => none) A.t_UNCHECKED [.int (9), .int (10), .int (11), .int (12), .int (13), .int (14), .int (15)]
  y_UNCHECKED : ∃ o, K.lookup A.t_UNCHECKED = some o ∧ o.cls = .type "tuple" ∧ o.dict = none
  n_abs : mg "abs" = none
  n_bool : mg "bool" = none
  n_enumerate : mg "enumerate" = none
  n_int : mg "int" = none
  n_isinstance : mg "isinstance" = none
  n_len : mg "len" = none
  n_list : mg "list" = none
  n_range : mg "range" = none
  n_sum : mg "sum" = none
  n_tuple : mg "tuple" = none
theorem ok_BadImage_init {P : Program} {w : World} {K : PySem.W.Frag} {mg : Str → Option Value} {base : Heap} {A : Ads} (T : Txt K mg A) : FnOk P w K mg base CX0 1 A.a_BadImage_init A.d_BadImage_init ["self", "reason"] (spKeep "reason" A.c_BadImage) := by
  refine T.F_BadImage_init.ok sc_BadImage_init (fun vs H Q E h => ?_) (fun cdv B outer s H vs Q E hr h => ?_)
  · obtain ⟨a, v, rfl, _⟩ := h
    rfl
  · obtain ⟨a, v, rfl, e, q⟩ := h
    refine ⟨_, pss_one (ps_ost (pv 0) (pv 1)), ?_⟩
    exact ⟨_, rfl, _, rfl, a, A.c_BadImage, rfl, T.x_BadImage.ox, T.x_BadImage.no, .inl ⟨e, q⟩⟩

/-! ### the law's source of draws -/
def Src (c : Addr) (H : Hp) (p : Addr) : Prop := ∃ (cs : List Int) (pl dg ct mx : Int), H p = some (.lst [.ref c, .int pl, .int dg, .int ct, .int mx]) ∧ H c = some (.lst (cs.map V.int)) ∧ 0 < cs.length ∧ 0 ≤ pl
theorem src_ne {H : Hp} {c p : Addr} (h : Src c H p) : H p ≠ none := by
  obtain ⟨cs, pl, dg, ct, mx, e, _⟩ := h
  rw [e]
  exact fun z => nomatch z
theorem src_cne {H : Hp} {c p : Addr} (h : Src c H p) : H c ≠ none := by
  obtain ⟨cs, pl, dg, ct, mx, _, e, _⟩ := h
  rw [e]
  exact fun z => nomatch z
theorem src_up {H H' : Hp} {c p : Addr} (h : Src c H p) (e : Same H H') : Src c H' p := by
  obtain ⟨cs, pl, dg, ct, mx, h1, h2, h3⟩ := h
  exact ⟨cs, pl, dg, ct, mx, e _ _ h1, e _ _ h2, h3⟩
/-- what is neither of its two lists may change -/
theorem src_put {H : Hp} {c p D : Addr} {o : HO} (h : Src c H p) (hp : D ≠ p) (hc : D ≠ c) : Src c (upd H D o) p := by
  obtain ⟨cs, pl, dg, ct, mx, h1, h2, h3⟩ := h
  exact ⟨cs, pl, dg, ct, mx, by rw [upd_ne (Ne.symm hp)]; exact h1, by rw [upd_ne (Ne.symm hc)]; exact h2, h3⟩
/-- a list of numbers is not the source -/
theorem src_ints {H : Hp} {c p D : Addr} {l : List Nat} (h : Src c H p) (e : H D = some (.lst (intV l))) : D ≠ p := fun z => by
  obtain ⟨cs, pl, dg, ct, mx, h1, _⟩ := h
  subst z
  rw [e] at h1
  have := HO.lst.inj (Option.some.inj h1)
  cases l with
  | nil => cases this
  | cons a r =>
    have := (List.cons.inj this).1
    cases this
def spDraw : Sp := fun vs H Q _ => ∃ (c p : Addr) (b : Int), vs = [.ref p, .int b] ∧ Src c H p ∧ 0 < b ∧ b < 1000000 ∧ ∀ H' (r : Nat), (r : Int) < b → Src c H' p → But p H H' → Q (.int (r : Int)) H'
def spSource (K : PySem.W.Frag) : Sp := fun vs H Q _ => ∃ (a : Addr) (ns : List Int), vs = [.ref a] ∧ SqL K H a (ns.map V.int) ∧ ns.length ≤ 63 ∧ ∀ H' c p, Same H H' → H c = none → H p = none → Src c H' p → Q (.ref p) H'
theorem get_int {cs : List Int} {i : Int} (h0 : 0 ≤ i) (h1 : i < cs.length) : ∃ z, atI (cs.map V.int) i = some (.int z) := by
  obtain ⟨j, rfl⟩ : ∃ j : Nat, i = (j : Int) := ⟨i.toNat, by omega⟩
  have hj : j < cs.length := by omega
  exact ⟨cs[j], atI_nat (by rw [List.getElem?_map, List.getElem?_eq_getElem hj]; rfl)⟩
/-! plain: a value with what tells its kind -/
mutual
def plD : PyData → PyData
  | .list xs => .tuple [.bool true, .list (plA xs)]
  | .tuple xs => .tuple [.bool false, .list (plA xs)]
  | .bool b => .tuple [.bool true, .bool b]
  | .none => .tuple [.bool false, .none]
  | .int i => .tuple [.bool false, .int i]
  | .str x => .tuple [.bool false, .str x]
  | .dict kvs => .tuple [.bool false, .dict kvs]
def plA : List PyData → List PyData
  | [] => []
  | x :: r => plD x :: plA r
end
theorem plA_map : ∀ xs : List PyData, plA xs = xs.map plD
  | [] => rfl
  | x :: r => by
    show plD x :: plA r = plD x :: r.map plD
    rw [plA_map r]
mutual
theorem plD_depth : ∀ d : PyData, (plD d).depth ≤ 2 * d.depth + 1
  | .list xs => by
    have h := plA_depth xs
    show max 0 (max (PyData.depthAll (plA xs) + 1) 0) + 1 ≤ 2 * (PyData.depthAll xs + 1) + 1
    omega
  | .tuple xs => by
    have h := plA_depth xs
    show max 0 (max (PyData.depthAll (plA xs) + 1) 0) + 1 ≤ 2 * (PyData.depthAll xs + 1) + 1
    omega
  | .bool b => by show 1 ≤ 1; omega
  | .none => by show 1 ≤ 1; omega
  | .int i => by show 1 ≤ 1; omega
  | .str x => by show 1 ≤ 1; omega
  | .dict kvs => by
    show max 0 (max (PyData.depthKv kvs + 1) 0) + 1 ≤ 2 * (PyData.depthKv kvs + 1) + 1
    omega
theorem plA_depth : ∀ ds : List PyData, (PyData.depthAll (plA ds)) ≤ 2 * (PyData.depthAll ds) + 1
  | [] => Nat.zero_le _
  | x :: r => by
    have h1 := plD_depth x
    have h2 := plA_depth r
    show max (plD x).depth (PyData.depthAll (plA r)) ≤ 2 * (max x.depth (PyData.depthAll r)) + 1
    omega
end
mutual
theorem plD_lay : ∀ d : PyData, d.canLay0 = true → (plD d).canLay0 = true
  | .list xs, h => by
    show (true && (PyData.canLayAll0 (plA xs) && true)) = true
    rw [plA_lay xs h]
    rfl
  | .tuple xs, h => by
    show (true && (PyData.canLayAll0 (plA xs) && true)) = true
    rw [plA_lay xs h]
    rfl
  | .bool b, h => rfl
  | .none, h => rfl
  | .int i, h => rfl
  | .str x, h => by
    show (true && ((PyData.str x).canLay0 && true)) = true
    rw [h]
    rfl
  | .dict kvs, h => by cases h
theorem plA_lay : ∀ ds : List PyData, PyData.canLayAll0 ds = true → PyData.canLayAll0 (plA ds) = true
  | [], _ => rfl
  | x :: r, h => by
    have h' := Bool.and_eq_true_iff.mp h
    show ((plD x).canLay0 && PyData.canLayAll0 (plA r)) = true
    rw [plD_lay x h'.1, plA_lay r h'.2]
    rfl
end
theorem plD_shaped {d : PyData} (h : d.canLay0 = true) (hd : d.depth ≤ 20) : SeqAt.shaped (plD d) = true := by
  have h2 := plD_depth d
  unfold SeqAt.shaped
  rw [plD_lay d h, Bool.true_and]
  exact decide_eq_true (by omega)
def spPlain (K : PySem.W.Frag) : Nat → Sp
  | 0 => fun _ _ _ _ => False
  | n + 1 => fun vs H Q _ => ∃ (v : V) (d : PyData) (S : ASet), vs = [v] ∧ (∀ a, S a → H a ≠ none) ∧ Dx K H S v d ∧ d.depth ≤ n ∧ wdB d = true ∧ ∀ H' v', Same H H' → Dx K H' S v' (plD d) → Q v' H'

section
variable {P : Program} {w : World} {K : PySem.W.Frag} {mg : Str → Option Value} {base : Heap} {A : Ads}
theorem ok_law_draw (T : Txt K mg A) : FnOk P w K mg base CX0 1 A.a_law_draw A.d_law_draw ["_law_source_here", "_law_below"] spDraw := by
  refine T.F_law_draw.ok sc_law_draw (fun vs H Q E h => ?_) (fun cdv B outer s H vs Q E hr h => ?_)
  · obtain ⟨c, p, b, rfl, _⟩ := h
    rfl
  · obtain ⟨c, p, b, rfl, ⟨cs, pl, dg, ct, mx, hp, hc, hn, hpl⟩, hb, hb2, q⟩ := h
    refine ⟨_, (pss_cons (ps_set (i := 2) sc_law_draw.nd rfl (.inl rfl) (pe_ix ix_list (pv 0) pe_int (fun _ _ => rfl)))
    (pss_cons (ps_set (i := 3) sc_law_draw.nd rfl (.inl rfl) (pe_ix ix_list (pv 0) pe_int (fun _ _ => rfl)))
    (pss_cons (ps_set (i := 4) sc_law_draw.nd rfl (.inl rfl) (pe_ix ix_list (pv 0) pe_int (fun _ _ => rfl)))
    (pss_cons (ps_set (i := 5) sc_law_draw.nd rfl (.inl rfl) (pe_ix ix_list (pv 0) pe_int (fun _ _ => rfl)))
    (pss_cons (ps_asg (pe_op op_add (pv 5) pe_int) (pg_sub (pv 0) pe_int set_list))
    (pss_cons (ps_if (PW.pt (pw_and (pt_cmpR op_eq (pe_ix ix_list (pv 0) pe_int (fun _ _ => rfl)) pe_int (nomark _)) (pw_and1 (pt_cmpR op_lt (pv 3) (pe_callB len_seq (by rfl) T.n_len (by decide +kernel) (pa_cons (pv 2) pa_nil)) (nomark _))))) (pss_cons (ps_asg (pe_op op_fdivN (pv 4) (pv 1)) (pg_sub (pv 0) pe_int set_list))
    (pss_cons (ps_if (pt_cmpR op_eq (pe_ix ix_list (pv 0) pe_int (fun _ _ => rfl)) pe_int (nomark _)) (pss_cons (ps_asg (pe_op op_add (pv 3) pe_int) (pg_sub (pv 0) pe_int set_list))
    (pss_one (ps_if (pt_cmpR op_lt (pe_op op_add (pv 3) pe_int) (pe_callB len_seq (by rfl) T.n_len (by decide +kernel) (pa_cons (pv 2) pa_nil)) (nomark _)) (pss_one (ps_asg (pe_ix ix_list (pv 2) (pe_op op_add (pv 3) pe_int) (fun _ _ => rfl)) (pg_sub (pv 0) pe_int set_list))) pss_nil))) pss_nil)
    (pss_one (ps_ret (pe_op op_modN (pe_callTy call_int1 (by rfl) T.n_int (by decide +kernel) (pa_cons (pv 4) pa_nil)) (pv 1)))))) pss_nil)
    (pss_cons (ps_set (i := 6) sc_law_draw.nd rfl (.inl rfl) (pe_op op_add (pe_op op_add (pe_ix ix_list (pv 2) (pe_op op_modN (pe_callTy call_int1 (by rfl) T.n_int (by decide +kernel) (pa_cons (pv 5) pa_nil)) (pe_callB len_seq (by rfl) T.n_len (by decide +kernel) (pa_cons (pv 2) pa_nil))) (fun _ _ => rfl)) (pe_op op_mul pe_int (pv 5))) pe_int))
    (pss_cons (ps_set (i := 7) sc_law_draw.nd rfl (.inl rfl) (pe_op op_mod (pe_callTy call_int1 (by rfl) T.n_int (by decide +kernel) (pa_cons (pe_op op_add (pe_op op_mul (pv 6) pe_int) (pe_op op_mul (pe_op op_add (pv 5) pe_int) pe_int)) pa_nil)) pe_int))
    (pss_cons (ps_set (i := 7) sc_law_draw.nd rfl (.inl rfl) (pe_op op_mod (pe_callTy call_int1 (by rfl) T.n_int (by decide +kernel) (pa_cons (pe_op op_add (pe_op op_mul (pv 7) (pe_op op_add (pe_op op_add (pe_op op_mod (pe_callTy call_int1 (by rfl) T.n_int (by decide +kernel) (pa_cons (pv 7) pa_nil)) pe_int) (pv 5)) pe_int)) (pv 6)) pa_nil)) pe_int))
    (pss_one (ps_ret (pe_op op_modN (pe_callTy call_int1 (by rfl) T.n_int (by decide +kernel) (pa_cons (pe_op op_fdiv (pv 7) pe_int) pa_nil)) (pv 1))))))))))))), ?_⟩
    have nc : c ≠ p := ne_of hc hp (by intro z; have := HO.lst.inj z; cases cs with | nil => cases hn | cons a r => cases this)
    have hmod : ∀ i : Int, 0 ≤ i.fmod b ∧ i.fmod b < b := fun i => ⟨Int.fmod_nonneg_of_pos _ hb, Int.fmod_lt_of_pos _ hb⟩
    have cat : ∀ {H1}, But p H H1 → H1 c = some (.lst (cs.map V.int)) := fun h => h c _ nc hc
    have fin : ∀ {H1} {x1 x2 x3 x4 : Int} (i : Int), But p H H1 → 0 ≤ x1 → H1 p = some (.lst [.ref c, .int x1, .int x2, .int x3, .int x4]) → Q (.int (i.fmod b)) H1 := fun i bt h e => by
      have := q _ (i.fmod b).toNat (by have := hmod i; omega) ⟨cs, _, _, _, _, e, cat bt, hn, h⟩ bt
      rw [Int.toNat_of_nonneg (hmod i).1] at this
      exact this
    have hb3 : b ≠ 0 ∧ b.natAbs < 1073741824 := ⟨by omega, by omega⟩
    have hl : 0 < (cs.map V.int).length := by rw [List.length_map]; exact hn
    have tail : ∀ i : Int, 0 ≤ i.fmod ((cs.map V.int).length : Int) ∧ i.fmod ((cs.map V.int).length : Int) < cs.length := fun i => by
      rw [List.length_map]
      exact ⟨Int.fmod_nonneg_of_pos _ (by omega), Int.fmod_lt_of_pos _ (by omega)⟩
    obtain ⟨z, hz⟩ := get_int (cs := cs) (tail ct).1 (tail ct).2
    walk_at "s"
    have b1 : ∀ o, But p H (upd H p o) := fun o => (But.refl p H).upd
    have c1 : ∀ o, SqL K (upd H p o) c (cs.map V.int) := fun o => SqL.of (cat (b1 o))
    refine ite2 (fun e => ?_) (fun e => ?_)
    · refine ⟨_, rfl, .ref c, rfl, c, _, rfl, .inl (c1 _), ?_⟩
      walk_at "s"
      refine ite2 (fun e => ?_) (fun e => ?_)
      · walk_at "s"
        refine ite2 (fun e => ?_) (fun e => ?_)
        · walk_at "s"
          refine ⟨c, _, rfl, .inl (SqL.of (cat (b1 _).upd.upd)), ?_⟩
          walk_at "s"
          refine ite2 (fun e3 => ?_) (fun e3 => ?_)
          · have e4 : pl + 1 < ((cs.map V.int).length : Int) := of_decide_eq_true e3
            obtain ⟨z2, hz2⟩ := get_int (cs := cs) (i := pl + 1) (by omega) (by rw [List.length_map] at e4; exact e4)
            walk_at "s"
            refine ⟨_, _, _, _, rfl, rfl, SqL.of (cat (b1 _).upd.upd), hz2, ?_⟩
            walk_at "s"
            exact fin _ (b1 _).upd.upd.upd (by omega) upd_same
          · walk_at "s"
            exact fin _ (b1 _).upd.upd (by omega) upd_same
        · walk_at "s"
          exact fin _ (b1 _).upd hpl upd_same
      · walk_at "s"
        try (refine ⟨_, _, _, _, rfl, rfl, c1 _, hz, ?_⟩)
        walk_at "s"
        exact fin _ (b1 _) hpl upd_same
    · walk_at "s"
      try (refine ⟨_, _, _, _, rfl, rfl, c1 _, hz, ?_⟩)
      walk_at "s"
      exact fin _ (b1 _) hpl upd_same

theorem ok_law_source (T : Txt K mg A) : FnOk P w K mg base CX0 1 A.a_law_source A.d_law_source ["_law_script"] (spSource K) := by
  refine T.F_law_source.ok sc_law_source (fun vs H Q E h => ?_) (fun cdv A outer s H vs Q E hr h => ?_)
  · obtain ⟨a, ns, rfl, _⟩ := h
    rfl
  · obtain ⟨a, ns, rfl, hS, hl, q⟩ := h
    refine ⟨_, (pss_cons (ps_setLc (i := 2) (own := [("_law_cell", 1)]) rfl sc_law_source.nd rfl rfl (sw_true rfl rfl rfl (by decide +kernel)) (pi_list (pv 0)) (blkOk_by (own := [("_law_cell", 1)]) (N := N_law_source) (sc := defScope s_law_source) (by decide +kernel)) (fun _ _ _ _ _ => pg_name (i := 1) sc_law_source.nd rfl (Or.inl rfl)) (fun _ _ _ _ _ => pts_nil) (fun _ _ _ _ _ => by exact (pe_callB call_abs (by rfl) T.n_abs (by decide +kernel) (pa_cons (pe_callTy call_int1 (by rfl) T.n_int (by decide +kernel) (pa_cons (pv 1) pa_nil)) pa_nil))))
    (pss_cons (ps_if (pt_cmpR op_eq (pe_callB len_seq (by rfl) T.n_len (by decide +kernel) (pa_cons (pv 2) pa_nil)) pe_int (nomark _)) (pss_one (ps_set (i := 2) sc_law_source.nd rfl (.inl rfl) (pe_lst (pa_cons pe_int pa_nil)))) pss_nil)
    (pss_cons (ps_set (i := 3) sc_law_source.nd rfl (.inl rfl) pe_int)
    (pss_cons (ps_if (pt_cmpR op_lt (pe_ix ix_list (pv 2) pe_int (fun _ _ => rfl)) (pe_op op_pow pe_int pe_int) (nomark _)) (pss_one (ps_set (i := 3) sc_law_source.nd rfl (.inl rfl) (pe_op op_mod (pe_callTy call_int1 (by rfl) T.n_int (by decide +kernel) (pa_cons (pe_ix ix_list (pv 2) pe_int (fun _ _ => rfl)) pa_nil)) pe_int))) pss_nil)
    (pss_one (ps_ret (pe_lst (pa_cons (pv 2) (pa_cons pe_int (pa_cons (pe_ix ix_list (pv 2) pe_int (fun _ _ => rfl)) (pa_cons pe_int (pa_cons (pv 3) pa_nil)))))))))))), ?_⟩
    have w := walk_list (K := K) (a := a) (xs := ns.map V.int)
    refine ⟨_, rfl, a, rfl, ⟨_, hS⟩, fun D hD => ?_⟩
    have hx : ∀ {i : Nat} {x : V}, (ns.map V.int)[i]? = some x → x = .int (ns.getD i 0) := fun {i x} e => by
      rw [List.getElem?_map] at e
      cases h : ns[i]? with
      | none => rw [h] at e; cases e
      | some z =>
        rw [h] at e
        rw [List.getD_eq_getElem?_getD, h]
        exact (Option.some.inj e).symm
    refine lc_vals w (fun i x => (ns.map V.int)[i]? = some x) (fun i => .int (if ns.getD i 0 < 0 then -ns.getD i 0 else ns.getD i 0)) hD (fun H' e => e.seq hS) (by rw [List.length_map]; omega) (fun i H x H' _ y => y) (fun i x H' hi sm e Q q => ?_) (fun H1 s1 e1 => ?_)
    · rw [hx e]
      exact ⟨_, rfl, .inl ⟨_, rfl, _, rfl, q _ (Same.refl _)⟩⟩
    have e2 : H1 D = some (.lst (((List.range ns.length).map fun i => if ns.getD i 0 < 0 then -ns.getD i 0 else ns.getD i 0).map V.int)) := by
      rw [e1, List.map_map, List.length_map]
      rfl
    generalize hcs : ((List.range ns.length).map fun i => if ns.getD i 0 < 0 then -ns.getD i 0 else ns.getD i 0) = cs at e2
    clear hcs e1
    refine ⟨_, rfl, D, _, rfl, .inl (SqL.of e2), rfl, _, rfl, ite2 (fun e => ?_) (fun e => ?_)⟩
    · refine ⟨by decide, fun c hc => ?_⟩
      generalize hH : upd H1 c (.lst [V.int 5]) = H2
      have fc : H c = none := s1.free hc
      have ec : H2 c = some (.lst (([5] : List Int).map V.int)) := by rw [← hH]; exact upd_same
      have s2 : Same H1 H2 := by rw [← hH]; exact same_new hc
      have sm : Same H H2 := s1.trans s2
      have hl : 0 < ([5] : List Int).length := by decide
      generalize ([5] : List Int) = cs at ec hl
      clear hH hc
      obtain ⟨z, h0⟩ := get_int (cs := cs) (i := 0) (Int.le_refl 0) (by omega)
      have fin : ∀ (x1 x2 x3 x4 : Int) {H3 : Hp}, 0 ≤ x1 → Same H1 H3 → H3 = H2 → ∀ p, H3 p = none → Q (.ref p) (upd H3 p (.lst [.ref c, .int x1, .int x2, .int x3, .int x4])) := fun x1 x2 x3 x4 H3 h1 s3 e3 p hp => by
        subst e3
        exact q _ c _ (sm.trans (same_new hp)) fc (sm.free hp) ⟨cs, x1, x2, x3, x4, upd_same, by rw [upd_ne (ne_of_none ec hp)]; exact ec, hl, h1⟩
      refine ⟨.ref c, rfl, c, _, _, _, rfl, rfl, SqL.of ec, h0, _, _, rfl, rfl, ⟨by decide, by decide, by decide⟩, _, _, rfl, rfl, _, rfl, ite2 (fun e => ?_) (fun e => ?_)⟩
      · refine ⟨.ref c, rfl, c, _, _, _, rfl, rfl, SqL.of ec, h0, .inl ⟨_, rfl, _, _, rfl, rfl, (by show (0 : Int) < 2; decide), ?_⟩⟩
        refine ⟨.ref c, rfl, .ref c, rfl, c, _, _, _, rfl, rfl, SqL.of ec, h0, _, rfl, lenOk (n := 5) rfl (by decide), fun p hp => ?_⟩
        exact fin _ _ _ _ (Int.le_refl 0) s2 rfl p hp
      · refine ⟨.ref c, rfl, .ref c, rfl, c, _, _, _, rfl, rfl, SqL.of ec, h0, _, rfl, lenOk (n := 5) rfl (by decide), fun p hp => ?_⟩
        exact fin _ _ _ _ (Int.le_refl 0) s2 rfl p hp
    · have hl : 0 < cs.length := by
        cases cs with
        | nil => exact absurd (decide_eq_true rfl) e
        | cons => exact Nat.succ_pos _
      have ec := e2
      have fc : H D = none := hD
      generalize D = c at ec fc
      generalize hH : H1 = H2 at ec
      have s2 : Same H1 H2 := by rw [← hH]; exact Same.refl _
      have sm : Same H H2 := s1.trans s2
      obtain ⟨z, h0⟩ := get_int (cs := cs) (i := 0) (Int.le_refl 0) (by omega)
      have fin : ∀ (x1 x2 x3 x4 : Int) {H3 : Hp}, 0 ≤ x1 → Same H1 H3 → H3 = H2 → ∀ p, H3 p = none → Q (.ref p) (upd H3 p (.lst [.ref c, .int x1, .int x2, .int x3, .int x4])) := fun x1 x2 x3 x4 H3 h1 s3 e3 p hp => by
        subst e3
        exact q _ c _ (sm.trans (same_new hp)) fc (sm.free hp) ⟨cs, x1, x2, x3, x4, upd_same, by rw [upd_ne (ne_of_none ec hp)]; exact ec, hl, h1⟩
      refine ⟨.ref c, rfl, c, _, _, _, rfl, rfl, SqL.of ec, h0, _, _, rfl, rfl, ⟨by decide, by decide, by decide⟩, _, _, rfl, rfl, _, rfl, ite2 (fun e => ?_) (fun e => ?_)⟩
      · refine ⟨.ref c, rfl, c, _, _, _, rfl, rfl, SqL.of ec, h0, .inl ⟨_, rfl, _, _, rfl, rfl, (by show (0 : Int) < 2; decide), ?_⟩⟩
        refine ⟨.ref c, rfl, .ref c, rfl, c, _, _, _, rfl, rfl, SqL.of ec, h0, _, rfl, lenOk (n := 5) rfl (by decide), fun p hp => ?_⟩
        exact fin _ _ _ _ (Int.le_refl 0) s2 rfl p hp
      · refine ⟨.ref c, rfl, .ref c, rfl, c, _, _, _, rfl, rfl, SqL.of ec, h0, _, rfl, lenOk (n := 5) rfl (by decide), fun p hp => ?_⟩
        exact fin _ _ _ _ (Int.le_refl 0) s2 rfl p hp
def spNone : Sp := fun _ _ _ _ => False
theorem ok_plain (T : Txt K mg A) : ∀ n : Nat, FnOk P w K mg base CX0 n A.a_law_plain A.d_law_plain ["_law_thing"] (spPlain K n)
  | 0 => ⟨fun _ _ _ _ h => h.elim, fun _ _ _ _ _ _ _ _ _ _ _ _ _ h => h.elim⟩
  | n + 1 => by
    have G0 : FnOk P w K mg base CX0 n A.a_law_plain A.d_law_plain ["_law_thing"] (spPlain K n) := ok_plain T n
    refine T.F_law_plain.ok sc_law_plain (fun vs H Q E h => ?_) (fun cdv A outer s H vs Q E hr h => ?_)
    · obtain ⟨v, d, S, rfl, _⟩ := h
      rfl
    · obtain ⟨v, d, S, rfl, hS, hd, hn, hw, q⟩ := h
      refine ⟨_, (pss_cons (ps_if (pt_val (pe_callB call_isiT (by rfl) T.n_isinstance (by decide +kernel) (pa_cons (pv 0) (pa_cons (pe_tup (pa_cons (pe_bltn (v := .ty "list") (u := .type "list") (by rfl) T.n_list (by decide +kernel) rfl) (pa_cons (pe_bltn (v := .ty "tuple") (u := .type "tuple") (by rfl) T.n_tuple (by decide +kernel) rfl) pa_nil))) pa_nil)))) (pss_one (ps_ret (pe_tup (pa_cons (pe_callB call_isi (by rfl) T.n_isinstance (by decide +kernel) (pa_cons (pv 0) (pa_cons (pe_bltn (v := .ty "list") (u := .type "list") (by rfl) T.n_list (by decide +kernel) rfl) pa_nil))) (pa_cons (pe_lc (own := [("_law_one", 1)]) rfl sc_law_plain.nd (PI_or (pi_list (pv 0)) (pi_tup (pv 0))) (blkOk_by (own := [("_law_one", 1)]) (N := N_law_plain) (sc := defScope s_law_plain) (by decide +kernel)) (fun _ _ _ _ _ => pg_name (i := 1) sc_law_plain.nd rfl (Or.inl rfl)) (fun _ _ _ _ _ => pts_nil) (fun _ _ _ _ _ => by exact (pe_call G0 (hr.mono (by omega)) rfl T.g_law_plain T.F_law_plain.kp T.b_law_plain .nil pass0 (pa_cons (pv 1) pa_nil)))) pa_nil))))) pss_nil)
    (pss_one (ps_ret (pe_tup (pa_cons (pe_callB call_isi (by rfl) T.n_isinstance (by decide +kernel) (pa_cons (pv 0) (pa_cons (pe_bltn (v := .ty "bool") (u := .type "bool") (by rfl) T.n_bool (by decide +kernel) rfl) pa_nil))) (pa_cons (pv 0) pa_nil)))))), ?_⟩
      have out : ∀ (b : Bool), tn d ≠ "list" → tn d ≠ "tuple" → b = isB (tn d) "bool" → plD d = .tuple [.bool b, d] := fun b h1 h2 h3 => by
        subst h3
        cases hd with
        | non => rfl
        | bl => rfl
        | int => rfl
        | str => rfl
        | lst _ _ => exact absurd rfl h1
        | tup _ _ => exact absurd rfl h2
      refine ⟨_, rfl, lenOk rfl (by decide), fun tp htp => ?_⟩
      have hd1 : Dx K _ S v d := Dx.up (Out.of (same_new (o := .tup (["list", "tuple"].map V.ty)) htp)) hd
      refine ⟨v, tp, _, _, _, _, rfl, upd_same, paired_ty ["list", "tuple"], dp_ty hd1.dp, kit_any (dp_tn hd1.dp) ["list", "tuple"] (by decide), ?_⟩
      have sm0 : Same H (upd H tp (.tup [V.ty "list", V.ty "tuple"])) := same_new htp
      refine ⟨_, rfl, ite2 (fun e => ?_) (fun e => ?_)⟩
      · refine ⟨_, rfl, v, .ty "list", _, _, _, rfl, .ty "list", dp_ty hd1.dp, kit_ty (kitT _ (dp_tn hd1.dp) "list" (by decide)), ?_⟩
        have htt : tn d = "list" ∨ tn d = "tuple" := by
          have hb := dp_tn hd.dp
          rcases List.mem_cons.mp hb with h | hb
          · rw [h] at e; exact absurd e (by decide)
          rcases List.mem_cons.mp hb with h | hb
          · rw [h] at e; exact absurd e (by decide)
          rcases List.mem_cons.mp hb with h | hb
          · rw [h] at e; exact absurd e (by decide)
          rcases List.mem_cons.mp hb with h | hb
          · rw [h] at e; exact absurd e (by decide)
          rcases List.mem_cons.mp hb with h | hb
          · exact .inl h
          · exact .inr (List.mem_singleton.mp hb)
        generalize hH1 : upd H tp (.tup (["list", "tuple"].map V.ty)) = H1 at hd1
        have hH2 : upd H tp (.tup [V.ty "list", V.ty "tuple"]) = H1 := hH1
        rw [hH2] at sm0 ⊢
        have hS1 : ∀ a, S a → H1 a ≠ none := fun a z y => hS a z (sm0.free y)
        cases n with
        | zero =>
          cases hd with
          | lst h t => exact absurd hn (Nat.not_succ_le_zero _)
          | tup h t => exact absurd hn (Nat.not_succ_le_zero _)
          | non => rcases htt with z | z <;> exact absurd z (by show ¬ "NoneType" = _; decide)
          | bl => rcases htt with z | z <;> exact absurd z (by show ¬ "bool" = _; decide)
          | int => rcases htt with z | z <;> exact absurd z (by show ¬ "int" = _; decide)
          | str => rcases htt with z | z <;> exact absurd z (by show ¬ "str" = _; decide)
        | succ n =>
          cases hd1 with
          | non => rcases htt with z | z <;> exact absurd z (by show ¬ "NoneType" = _; decide)
          | bl => rcases htt with z | z <;> exact absurd z (by show ¬ "bool" = _; decide)
          | int => rcases htt with z | z <;> exact absurd z (by show ¬ "int" = _; decide)
          | str => rcases htt with z | z <;> exact absurd z (by show ¬ "str" = _; decide)
          | @lst a xs ds h t =>
            have hw' : wdA ds = true := (Bool.and_eq_true_iff.mp hw).2
            have hl : xs.length ≤ 1000000 := by
              have := of_decide_eq_true (Bool.and_eq_true_iff.mp hw).1
              rw [dxAll_len t]
              omega
            refine .inl ⟨_, rfl, a, rfl, ⟨_, h.sq⟩, fun D hD => ?_⟩
            refine lc_data (S := S) (K := K) (walk_list (K := K) (a := a) (xs := xs)) (fun i x => xs[i]? = some x) (fun i => plD (ds.getD i .none)) hS1 hD (fun H' e => (h.up (Out.of e)).sq) hl (fun i H x H' _ y => y) (fun i x H' hi sm hDn e Q q => ?_) (fun H2 s2 d2 => ?_)
            · obtain ⟨di, h1, h2⟩ := dxAll_get (DxAll.up (Out.of sm) t) e
              have h3 : di.depth ≤ n := by
                have := depth_get h1
                have hn' : PyData.depthAll ds + 1 ≤ n + 1 := hn
                omega
              refine ⟨_, rfl, x, di, inS S D, rfl, fun a z => ?_, ?_, h3, wdA_get hw' h1, fun H' v' s3 d3 => ?_⟩
              · rcases z with z | z
                · exact fun y => hS1 a z (sm.free y)
                · rw [z]; exact hDn
              · exact Dx.up (Out.of sm) (Dx.add hD (Dx.of_get t e h1))
              · refine q _ _ s3 ?_
                rw [List.getD_eq_getElem?_getD, h1]
                exact d3
            refine ⟨lenOk (n := 2) rfl (by decide), fun l hl2 => ?_⟩
            have hSl : ¬ S l := fun z => hS l z (((sm0.trans s2)).free hl2)
            refine q _ _ ((sm0.trans s2).trans (same_new hl2)) ?_
            have e3 : (List.range xs.length).map (fun i => plD (ds.getD i .none)) = plA ds := by
              rw [dxAll_len t, range_getD plD .none ds, plA_map]
            rw [e3] at d2
            exact .tup (XT.of upd_same hSl) (.cons (.bl _) (.cons (Dx.up (Out.of (same_new hl2)) d2) .nil))
          | @tup a xs ds h t =>
            have hw' : wdA ds = true := (Bool.and_eq_true_iff.mp hw).2
            have hl : xs.length ≤ 1000000 := by
              have := of_decide_eq_true (Bool.and_eq_true_iff.mp hw).1
              rw [dxAll_len t]
              omega
            refine .inr ⟨_, rfl, a, rfl, ⟨_, h.sq⟩, fun D hD => ?_⟩
            refine lc_data (S := S) (K := K) (walk_tup (K := K) (a := a) (xs := xs)) (fun i x => xs[i]? = some x) (fun i => plD (ds.getD i .none)) hS1 hD (fun H' e => (h.up (Out.of e)).sq) hl (fun i H x H' _ y => y) (fun i x H' hi sm hDn e Q q => ?_) (fun H2 s2 d2 => ?_)
            · obtain ⟨di, h1, h2⟩ := dxAll_get (DxAll.up (Out.of sm) t) e
              have h3 : di.depth ≤ n := by
                have := depth_get h1
                have hn' : PyData.depthAll ds + 1 ≤ n + 1 := hn
                omega
              refine ⟨_, rfl, x, di, inS S D, rfl, fun a z => ?_, ?_, h3, wdA_get hw' h1, fun H' v' s3 d3 => ?_⟩
              · rcases z with z | z
                · exact fun y => hS1 a z (sm.free y)
                · rw [z]; exact hDn
              · exact Dx.up (Out.of sm) (Dx.add hD (Dx.of_get t e h1))
              · refine q _ _ s3 ?_
                rw [List.getD_eq_getElem?_getD, h1]
                exact d3
            refine ⟨lenOk (n := 2) rfl (by decide), fun l hl2 => ?_⟩
            have hSl : ¬ S l := fun z => hS l z (((sm0.trans s2)).free hl2)
            refine q _ _ ((sm0.trans s2).trans (same_new hl2)) ?_
            have e3 : (List.range xs.length).map (fun i => plD (ds.getD i .none)) = plA ds := by
              rw [dxAll_len t, range_getD plD .none ds, plA_map]
            rw [e3] at d2
            exact .tup (XT.of upd_same hSl) (.cons (.bl _) (.cons (Dx.up (Out.of (same_new hl2)) d2) .nil))
      · refine ⟨_, rfl, v, .ty "bool", _, _, _, rfl, .ty "bool", dp_ty hd1.dp, kit_ty (kitT _ (dp_tn hd1.dp) "bool" (by decide)), _, rfl, lenOk (n := 2) rfl (by decide), fun l hl => ?_⟩
        have n1 : tn d ≠ "list" := fun z => e (by rw [z]; decide)
        have n2 : tn d ≠ "tuple" := fun z => e (by rw [z]; decide)
        have hS2 : ¬ S l := fun z => hS l z (sm0.free hl)
        refine q _ _ (sm0.trans (same_new hl)) ?_
        rw [out _ n1 n2 rfl]
        exact .tup (XT.of upd_same hS2) (.cons (.bl _) (.cons (Dx.up (Out.of (same_new hl)) hd1) .nil))
theorem okH_plain (T : Txt K mg A) : ∀ n : Nat, L2H.FnH P w K mg base CX0 n A.a_law_plain A.d_law_plain ["_law_thing"] (spPlain K n)
  | 0 => ⟨fun _ _ _ _ h => h.elim, fun _ _ _ _ _ _ _ _ _ _ _ _ _ _ _ _ h => h.elim⟩
  | n + 1 => by
    have G0 : L2H.FnH P w K mg base CX0 n A.a_law_plain A.d_law_plain ["_law_thing"] (spPlain K n) := okH_plain T n
    refine Fun.okH T.F_law_plain sc_law_plain (fun vs H Q E h => ?_) (fun cdv A outer s H vs Q E p hot hr h => ?_)
    · obtain ⟨v, d, S, rfl, _⟩ := h
      rfl
    · obtain ⟨v, d, S, rfl, hS, hd, hn, hw, q⟩ := h
      refine ⟨_, (pss_cons (ps_if (pt_val (pe_callB (r := rIsiT K) call_isiT (by rfl) T.n_isinstance (by decide +kernel) (pa_cons (pv 0) (pa_cons (pe_tup (pa_cons (pe_bltn (v := .ty "list") (u := .type "list") (by rfl) T.n_list (by decide +kernel) rfl) (pa_cons (pe_bltn (v := .ty "tuple") (u := .type "tuple") (by rfl) T.n_tuple (by decide +kernel) rfl) pa_nil))) pa_nil)))) (pss_one (ps_ret (pe_tup (pa_cons (pe_callB (r := rIsi K) call_isi (by rfl) T.n_isinstance (by decide +kernel) (pa_cons (pv 0) (pa_cons (pe_bltn (v := .ty "list") (u := .type "list") (by rfl) T.n_list (by decide +kernel) rfl) pa_nil))) (pa_cons (pe_lcH (own := [("_law_one", 1)]) rfl hot List.mem_cons_self sc_law_plain.nd (PIH_or (pi_listH (pv 0)) (pi_tupH (pv 0))) (blkOk_by (own := [("_law_one", 1)]) (N := N_law_plain) (sc := defScope s_law_plain) (by decide +kernel)) (fun _ _ _ _ _ => pg_name (i := 1) sc_law_plain.nd rfl (Or.inl rfl)) (fun _ _ _ _ _ => pts_nil) (fun _ _ _ _ _ => by exact (L2H.pe_callH G0 (hr.mono (by omega)) ⟨p, hot, List.mem_cons_self⟩ rfl T.g_law_plain T.F_law_plain.kp T.b_law_plain (fun _ => pass_at0) (pa_cons (pv 1) pa_nil)))) pa_nil))))) pss_nil)
    (pss_one (ps_ret (pe_tup (pa_cons (pe_callB (r := rIsi K) call_isi (by rfl) T.n_isinstance (by decide +kernel) (pa_cons (pv 0) (pa_cons (pe_bltn (v := .ty "bool") (u := .type "bool") (by rfl) T.n_bool (by decide +kernel) rfl) pa_nil))) (pa_cons (pv 0) pa_nil)))))), ?_⟩
      have out : ∀ (b : Bool), tn d ≠ "list" → tn d ≠ "tuple" → b = isB (tn d) "bool" → plD d = .tuple [.bool b, d] := fun b h1 h2 h3 => by
        subst h3
        cases hd with
        | non => rfl
        | bl => rfl
        | int => rfl
        | str => rfl
        | lst _ _ => exact absurd rfl h1
        | tup _ _ => exact absurd rfl h2
      refine ⟨_, rfl, lenOk rfl (by decide), fun tp htp => ?_⟩
      have hd1 : Dx K _ S v d := Dx.up (Out.of (same_new (o := .tup (["list", "tuple"].map V.ty)) htp)) hd
      refine ⟨v, tp, _, _, _, _, rfl, upd_same, paired_ty ["list", "tuple"], dp_ty hd1.dp, kit_any (dp_tn hd1.dp) ["list", "tuple"] (by decide), ?_⟩
      have sm0 : Same H (upd H tp (.tup [V.ty "list", V.ty "tuple"])) := same_new htp
      refine ⟨_, rfl, ite2 (fun e => ?_) (fun e => ?_)⟩
      · refine ⟨_, rfl, v, .ty "list", _, _, _, rfl, .ty "list", dp_ty hd1.dp, kit_ty (kitT _ (dp_tn hd1.dp) "list" (by decide)), ?_⟩
        have htt : tn d = "list" ∨ tn d = "tuple" := by
          have hb := dp_tn hd.dp
          rcases List.mem_cons.mp hb with h | hb
          · rw [h] at e; exact absurd e (by decide)
          rcases List.mem_cons.mp hb with h | hb
          · rw [h] at e; exact absurd e (by decide)
          rcases List.mem_cons.mp hb with h | hb
          · rw [h] at e; exact absurd e (by decide)
          rcases List.mem_cons.mp hb with h | hb
          · rw [h] at e; exact absurd e (by decide)
          rcases List.mem_cons.mp hb with h | hb
          · exact .inl h
          · exact .inr (List.mem_singleton.mp hb)
        generalize hH1 : upd H tp (.tup (["list", "tuple"].map V.ty)) = H1 at hd1
        have hH2 : upd H tp (.tup [V.ty "list", V.ty "tuple"]) = H1 := hH1
        rw [hH2] at sm0 ⊢
        have hS1 : ∀ a, S a → H1 a ≠ none := fun a z y => hS a z (sm0.free y)
        cases n with
        | zero =>
          cases hd with
          | lst h t => exact absurd hn (Nat.not_succ_le_zero _)
          | tup h t => exact absurd hn (Nat.not_succ_le_zero _)
          | non => rcases htt with z | z <;> exact absurd z (by show ¬ "NoneType" = _; decide)
          | bl => rcases htt with z | z <;> exact absurd z (by show ¬ "bool" = _; decide)
          | int => rcases htt with z | z <;> exact absurd z (by show ¬ "int" = _; decide)
          | str => rcases htt with z | z <;> exact absurd z (by show ¬ "str" = _; decide)
        | succ n =>
          cases hd1 with
          | non => rcases htt with z | z <;> exact absurd z (by show ¬ "NoneType" = _; decide)
          | bl => rcases htt with z | z <;> exact absurd z (by show ¬ "bool" = _; decide)
          | int => rcases htt with z | z <;> exact absurd z (by show ¬ "int" = _; decide)
          | str => rcases htt with z | z <;> exact absurd z (by show ¬ "str" = _; decide)
          | @lst a xs ds h t =>
            have hw' : wdA ds = true := (Bool.and_eq_true_iff.mp hw).2
            have hl : xs.length ≤ 1000000 := by
              have := of_decide_eq_true (Bool.and_eq_true_iff.mp hw).1
              rw [dxAll_len t]
              omega
            refine .inl ⟨_, rfl, a, rfl, ⟨_, h.sq⟩, fun D hD => ?_⟩
            refine lc_data (S := S) (K := K) (walk_list (K := K) (a := a) (xs := xs)) (fun i x => xs[i]? = some x) (fun i => plD (ds.getD i .none)) hS1 hD (fun H' e => (h.up (Out.of e)).sq) hl (fun i H x H' _ y => y) (fun i x H' hi sm hDn e Q q => ?_) (fun H2 s2 d2 => ?_)
            · obtain ⟨di, h1, h2⟩ := dxAll_get (DxAll.up (Out.of sm) t) e
              have h3 : di.depth ≤ n := by
                have := depth_get h1
                have hn' : PyData.depthAll ds + 1 ≤ n + 1 := hn
                omega
              refine ⟨_, rfl, x, di, inS S D, rfl, fun a z => ?_, ?_, h3, wdA_get hw' h1, fun H' v' s3 d3 => ?_⟩
              · rcases z with z | z
                · exact fun y => hS1 a z (sm.free y)
                · rw [z]; exact hDn
              · exact Dx.up (Out.of sm) (Dx.add hD (Dx.of_get t e h1))
              · refine q _ _ s3 ?_
                rw [List.getD_eq_getElem?_getD, h1]
                exact d3
            refine ⟨lenOk (n := 2) rfl (by decide), fun l hl2 => ?_⟩
            have hSl : ¬ S l := fun z => hS l z (((sm0.trans s2)).free hl2)
            refine q _ _ ((sm0.trans s2).trans (same_new hl2)) ?_
            have e3 : (List.range xs.length).map (fun i => plD (ds.getD i .none)) = plA ds := by
              rw [dxAll_len t, range_getD plD .none ds, plA_map]
            rw [e3] at d2
            exact .tup (XT.of upd_same hSl) (.cons (.bl _) (.cons (Dx.up (Out.of (same_new hl2)) d2) .nil))
          | @tup a xs ds h t =>
            have hw' : wdA ds = true := (Bool.and_eq_true_iff.mp hw).2
            have hl : xs.length ≤ 1000000 := by
              have := of_decide_eq_true (Bool.and_eq_true_iff.mp hw).1
              rw [dxAll_len t]
              omega
            refine .inr ⟨_, rfl, a, rfl, ⟨_, h.sq⟩, fun D hD => ?_⟩
            refine lc_data (S := S) (K := K) (walk_tup (K := K) (a := a) (xs := xs)) (fun i x => xs[i]? = some x) (fun i => plD (ds.getD i .none)) hS1 hD (fun H' e => (h.up (Out.of e)).sq) hl (fun i H x H' _ y => y) (fun i x H' hi sm hDn e Q q => ?_) (fun H2 s2 d2 => ?_)
            · obtain ⟨di, h1, h2⟩ := dxAll_get (DxAll.up (Out.of sm) t) e
              have h3 : di.depth ≤ n := by
                have := depth_get h1
                have hn' : PyData.depthAll ds + 1 ≤ n + 1 := hn
                omega
              refine ⟨_, rfl, x, di, inS S D, rfl, fun a z => ?_, ?_, h3, wdA_get hw' h1, fun H' v' s3 d3 => ?_⟩
              · rcases z with z | z
                · exact fun y => hS1 a z (sm.free y)
                · rw [z]; exact hDn
              · exact Dx.up (Out.of sm) (Dx.add hD (Dx.of_get t e h1))
              · refine q _ _ s3 ?_
                rw [List.getD_eq_getElem?_getD, h1]
                exact d3
            refine ⟨lenOk (n := 2) rfl (by decide), fun l hl2 => ?_⟩
            have hSl : ¬ S l := fun z => hS l z (((sm0.trans s2)).free hl2)
            refine q _ _ ((sm0.trans s2).trans (same_new hl2)) ?_
            have e3 : (List.range xs.length).map (fun i => plD (ds.getD i .none)) = plA ds := by
              rw [dxAll_len t, range_getD plD .none ds, plA_map]
            rw [e3] at d2
            exact .tup (XT.of upd_same hSl) (.cons (.bl _) (.cons (Dx.up (Out.of (same_new hl2)) d2) .nil))
      · refine ⟨_, rfl, v, .ty "bool", _, _, _, rfl, .ty "bool", dp_ty hd1.dp, kit_ty (kitT _ (dp_tn hd1.dp) "bool" (by decide)), _, rfl, lenOk (n := 2) rfl (by decide), fun l hl => ?_⟩
        have n1 : tn d ≠ "list" := fun z => e (by rw [z]; decide)
        have n2 : tn d ≠ "tuple" := fun z => e (by rw [z]; decide)
        have hS2 : ¬ S l := fun z => hS l z (sm0.free hl)
        refine q _ _ (sm0.trans (same_new hl)) ?_
        rw [out _ n1 n2 rfl]
        exact .tup (XT.of upd_same hS2) (.cons (.bl _) (.cons (Dx.up (Out.of (same_new hl)) hd1) .nil))
end
end R1

namespace R1
open PySem PySem.Spec PyProof.Rows L2 RK
local macro_rules | `(tactic| walk_at "sq") => `(tactic| first
  | exact SqL.of upd_same | exact upd_same | exact SqL.of (by assumption) | exact SqL.of (by rw [upd_ne (by assumption)]; assumption) | assumption)
local macro_rules | `(tactic| walk_at "sd") => `(tactic| first
  | assumption | omega | (refine Or.inl ⟨?_, ?_⟩ <;> omega) | (show _ ∧ _; constructor <;> omega) | (show _ ≠ _; simp; omega) | (exact Or.inl ⟨by decide, by decide⟩) | (exact Or.inr ⟨by decide, by decide⟩) | (show _ < _; decide) | (show _ ≤ _; decide))
local macro_rules | `(tactic| walk_at "at") => `(tactic| first | rfl | (refine atI_intV ?_ ?_ <;> omega) | assumption)
local macro_rules | `(tactic| walk_at "s1") => `(tactic| first
  | refine ⟨_, rfl, ?_⟩ | refine ⟨_, _, rfl, rfl, ?_⟩ | refine ⟨rfl, ?_⟩
  | refine ⟨_, _, _, _, rfl, rfl, by walk_at "sq", by walk_at "at", ?_⟩
  | refine Or.inl ⟨_, rfl, ?_⟩
  | refine ⟨_, _, rfl, Or.inl (by walk_at "sq"), ?_⟩
  | refine And.intro (by walk_at "sd") ?_)
local macro_rules | `(tactic| walk_at "s") => `(tactic| repeat walk_at "s1")

theorem intV_app (a b : List Nat) : intV (a ++ b) = intV a ++ intV b := List.map_append ..
theorem intV_len (a : List Nat) : (intV a).length = a.length := List.length_map ..
theorem intV_at {ws : List Nat} {i : Nat} (h : i < ws.length) : (intV ws)[i]? = some (.int ((ws.getD i 0 : Nat) : Int)) := by
  unfold intV
  rw [List.getElem?_map, List.getElem?_eq_getElem h, List.getD_eq_getElem?_getD, List.getElem?_eq_getElem h]
  rfl
theorem inV_ints (x : Nat) : ∀ ws : List Nat, inV (.int (x : Int)) (intV ws) = ws.contains x
  | [] => rfl
  | w :: r => by
    show (eqV (.int (w : Int)) (.int (x : Int)) || inV (.int (x : Int)) (intV r)) = _
    rw [inV_ints x r, List.contains_cons]
    have : eqV (.int (w : Int)) (.int (x : Int)) = (x == w) := by
      apply Bool.eq_iff_iff.mpr
      show decide ((w : Int) = (x : Int)) = true ↔ _
      rw [decide_eq_true_eq, beq_iff_eq]
      omega
    rw [this]
theorem flat_ints (ws : List Nat) : (intV ws).all flatV = true := by
  rw [List.all_eq_true]
  intro v hv
  obtain ⟨n, _, rfl⟩ := List.mem_map.mp hv
  rfl
abbrev LF : List Nat := [9, 10, 11, 12, 13, 14, 15]
abbrev P3 : List Nat := [9, 10, 11]
abbrev P4 : List Nat := [12, 13, 14, 15]
def vfmt : V := .str (Str.ofString "format")
def vchk : V := .str (Str.ofString "check")
def vtag : V := .str (Str.ofString "tag")
def vprd : V := .str (Str.ofString "product")
def vhom : V := .str (Str.ofString "home")
def chkW (lf ws : List Nat) : Nat := (((List.range ws.length).filter fun i => !lf.contains i).map fun i => (i + 1) * (65535 - ws.getD i 0)).sum
def valN (ws : List Nat) : Nat := ws.foldl (fun n w => n * 65536 + w) 0
def at3 (ws : List Nat) : Nat := valN (P3.map fun i => ws.getD i 0)
def at4 (ws : List Nat) : Nat := valN (P4.map fun i => ws.getD i 0)
def flawV (ws : List Nat) : V :=
  if ws.length < 16 ∨ ws.getD 0 0 ≠ 1 then vfmt
  else if ws.getD 6 0 < 16 ∨ 1024 < ws.getD 6 0 ∨ ws.length < ws.getD 6 0 ∨ ws.getD 8 0 < 16 ∨ ws.getD 6 0 < ws.getD 8 0 then vfmt
  else if chkW LF (ws.take (ws.getD 6 0)) = at3 ws then .non else vchk
def dueV (ws : List Nat) (m s h : Int) : V :=
  if flawV ws = .non then
    (if (at4 ws : Int) = (at3 ws : Int) * 65521 + s then (if ((ws.getD 1 0 : Nat) : Int) = m then (if ((ws.getD 5 0 : Nat) : Int) = h then .non else vhom) else vprd) else vtag)
  else flawV ws
def spCheckOf (K : PySem.W.Frag) : Sp := fun vs H Q _ => ∃ (a l : Addr) (ws lf : List Nat), vs = [.ref a, .ref l] ∧ SqT K H a (intV ws) ∧ SqT K H l (intV lf) ∧ (∀ w ∈ ws, w ≤ 65535) ∧ ws.length ≤ 100000 ∧ ∀ H', Same H H' → Q (.int ((chkW lf ws : Nat) : Int)) H'
def spNumberAt (K : PySem.W.Frag) : Sp := fun vs H Q _ => ∃ (a l : Addr) (ws ps : List Nat), vs = [.ref a, .ref l] ∧ SqT K H a (intV ws) ∧ SqT K H l (intV ps) ∧ (∀ p ∈ ps, p < ws.length) ∧ ps.length ≤ 10 ∧ Q (.int ((valN (ps.map fun i => ws.getD i 0) : Nat) : Int)) H
def spFault (K : PySem.W.Frag) : Sp := fun vs H Q _ => ∃ (a : Addr) (ws : List Nat), vs = [.ref a] ∧ SqT K H a (intV ws) ∧ (∀ w ∈ ws, w ≤ 65535) ∧ ws.length ≤ 100000 ∧ ∀ H', Same H H' → Q (flawV ws) H'
def spRefusal (K : PySem.W.Frag) : Sp := fun vs H Q _ => ∃ (a : Addr) (ws : List Nat) (m s h : Int), vs = [.ref a, .int m, .int s, .int h] ∧ SqT K H a (intV ws) ∧ (∀ w ∈ ws, w ≤ 65535) ∧ ws.length ≤ 100000 ∧ ∀ H', Same H H' → Q (dueV ws m s h) H'
theorem sum_cast (l : List Nat) : (l.map fun (n : Nat) => (n : Int)).sum = ((l.sum : Nat) : Int) := by
  induction l with
  | nil => rfl
  | cons a r ih =>
    rw [List.map_cons, List.sum_cons, List.sum_cons, ih]
    omega
theorem valN_snoc (ws : List Nat) (w : Nat) : valN (ws ++ [w]) = valN ws * 65536 + w := by
  unfold valN
  rw [List.foldl_append]
  rfl
theorem flaw_len {ws : List Nat} (h : flawV ws ≠ vfmt) : 16 ≤ ws.length := by
  apply Decidable.byContradiction
  intro z
  apply h
  unfold flawV
  rw [if_pos (.inl (by omega))]
theorem non_ne : V.non ≠ vfmt ∧ V.non ≠ vchk := ⟨(fun z => nomatch z), (fun z => nomatch z)⟩
section
variable {P : Program} {w : World} {K : PySem.W.Frag} {mg : Str → Option Value} {base : Heap} {A : Ads}
theorem ok_check_of (T : Txt K mg A) : FnOk P w K mg base CX0 1 A.a_check_of A.d_check_of ["words", "left"] (spCheckOf K) := by
  refine T.F_check_of.ok sc_check_of (fun vs H Q E h => ?_) (fun cdv B outer s H vs Q E hr h => ?_)
  · obtain ⟨a, l, ws, lf, rfl, _⟩ := h
    rfl
  · obtain ⟨a, l, ws, lf, rfl, ha, hlf, hw, hl, q⟩ := h
    refine ⟨_, (pss_one (ps_ret (pe_callB (cr_sum rfl) (by rfl) T.n_sum (by decide +kernel) (pa_cons (pe_lc (own := [("place", 2), ("word", 3)]) rfl sc_check_of.nd (pi_enumT (by rfl) T.n_enumerate (pa_cons (pv 0) pa_nil)) (blkOk_by (own := [("place", 2), ("word", 3)]) (N := N_check_of) (sc := defScope s_check_of) (by decide +kernel)) (fun _ _ _ _ _ => (show PG _ _ (gTup K 2 (gCons (gName 2) (gCons (gName 3) gNil))) from pg_tup (by rfl) (pgs_cons (pg_name (i := 2) sc_check_of.nd rfl (Or.inl rfl)) (pgs_cons (pg_name (i := 3) sc_check_of.nd rfl (Or.inl rfl)) pgs_nil)))) (fun _ _ _ _ _ => pts_one (by exact (pt_cmpR (r := rIn K true) op_notIn_seq (pv 2) (pv 1) (by rfl)))) (fun _ _ _ _ _ => by exact (pe_op op_mul (pe_op op_add (pv 2) pe_int) (pe_op op_sub (pe_glob (v := .int 65535) rfl T.g_BLANK ⟨_, rfl⟩) (pv 3))))) pa_nil)))), ?_⟩
    refine ⟨_, rfl, a, _, rfl, ha, fun D hD => ?_⟩
    have hil := intV_len ws
    refine lc_enumF (K := K) (a := a) (xs := intV ws) (k := 2) (k1 := 3) (by decide) (fun i => !lf.contains i) (fun i => .int ((((i + 1) * (65535 - ws.getD i 0) : Nat)) : Int)) hD ha (by omega) (fun i x H4 hi sm hx Q q => ?_) (fun i x H4 hi hc sm hx Q q => ?_) (fun H4 s4 e4 => ?_)
    · refine ⟨_, rfl, _, rfl, l, _, rfl, .inr (sqT_up hlf sm), rfl, flat_ints lf, _, rfl, ?_⟩
      rw [if_pos rfl, inV_ints]
      exact q
    · rw [hil] at hi
      have ex := hx
      rw [intV_at hi] at ex
      cases ex
      have hwi : ws.getD i 0 ≤ 65535 := by
        rw [List.getD_eq_getElem?_getD, List.getElem?_eq_getElem hi]
        exact hw _ (List.getElem_mem hi)
      refine ⟨_, rfl, _, _, rfl, rfl, _, rfl, _, _, rfl, rfl, _, _, rfl, rfl, .inl ⟨by omega, by omega⟩, ?_⟩
      have e : ((i : Int) + 1) * (65535 - ((ws.getD i 0 : Nat) : Int)) = (((i + 1) * (65535 - ws.getD i 0) : Nat) : Int) := by
        rw [Int.natCast_mul]
        congr 1
        omega
      have := q _ (Same.refl _)
      rw [← e] at this
      exact this
    · rw [hil] at e4
      refine ⟨D, (((List.range ws.length).filter fun i => !lf.contains i).map fun i => (i + 1) * (65535 - ws.getD i 0)).map fun (n : Nat) => (n : Int), rfl, SqL.of ?_, ?_⟩
      · rw [e4, List.map_map, List.map_map]
        rfl
      · rw [sum_cast]
        exact q _ s4
theorem ok_number_at (T : Txt K mg A) : FnOk P w K mg base CX0 1 A.a_number_at A.d_number_at ["words", "places"] (spNumberAt K) := by
  refine T.F_number_at.ok sc_number_at (fun vs H Q E h => ?_) (fun cdv B outer s H vs Q E hr h => ?_)
  · obtain ⟨a, l, ws, ps, rfl, _⟩ := h
    rfl
  · obtain ⟨a, l, ws, ps, rfl, ha, hp, hlt, hl, q⟩ := h
    refine ⟨_, (pss_cons (ps_set (i := 2) sc_number_at.nd rfl (.inl rfl) pe_int)
    (pss_cons (ps_for PassesOwn.never rfl (pi_tup (pv 1)) (pg_name (i := 3) sc_number_at.nd rfl (.inl rfl))
      (pss_one (ps_set (i := 2) sc_number_at.nd rfl (.inl rfl) (pe_op op_add (pe_op op_mul (pv 2) pe_int) (pe_ix ix_tup (pv 0) (pv 3) (fun _ _ => rfl))))))
    (pss_one (ps_ret (pv 2))))), ?_⟩
    have hpl := intV_len ps
    refine ⟨_, rfl, l, rfl, ⟨_, hp⟩, ?_⟩
    refine for_it (walk_tup (K := K) (a := l) (xs := intV ps)) (fun i σ Hc => ∃ o3, σ = [some (.ref a), some (.ref l), some (.int ((valN ((ps.take i).map fun i => ws.getD i 0) : Nat) : Int)), o3] ∧ Hc = H) ⟨_, rfl, rfl⟩ (fun i σ Hc _ y => ?_) (fun i x σ Hc Hd hi y e => ?_) (fun σ Hc y => ?_)
    · obtain ⟨_, _, rfl⟩ := y
      exact hp
    · obtain ⟨rfl, e⟩ := e
      obtain ⟨o3, rfl, rfl⟩ := y
      rw [hpl] at hi
      rw [intV_at hi] at e
      cases e
      have hpi : ps.getD i 0 = ps[i] := by rw [List.getD_eq_getElem?_getD, List.getElem?_eq_getElem hi]; rfl
      have hlti : ps.getD i 0 < ws.length := by rw [hpi]; exact hlt _ (List.getElem_mem hi)
      have htk : (ps.take (i + 1)).map (fun i => ws.getD i 0) = (ps.take i).map (fun i => ws.getD i 0) ++ [ws.getD (ps.getD i 0) 0] := by
        rw [List.take_add_one, List.getElem?_eq_getElem hi, List.map_append, hpi]
        rfl
      rw [htk, valN_snoc]
      generalize valN ((ps.take i).map fun i => ws.getD i 0) = n
      generalize ps.getD i 0 = j at hlti
      refine ⟨_, rfl, _, _, rfl, rfl, .inr ⟨by decide, by decide⟩, _, rfl, _, rfl, a, _, _, _, rfl, rfl, ha, atI_nat (intV_at hlti), _, _, rfl, rfl, ?_⟩
      exact ⟨_, congrArg (fun z => [some (V.ref a), some (V.ref l), some (V.int z), _]) (show (n : Int) * 65536 + ((ws.getD j 0 : Nat) : Int) = ((n * 65536 + ws.getD j 0 : Nat) : Int) by omega), rfl⟩
    · obtain ⟨o3, rfl, rfl⟩ := y
      rw [hpl, List.take_length]
      exact ⟨_, rfl, q⟩
theorem q_check (T : Txt K mg A) (H : Hp) : SqT K H A.t_CHECK (intV P3) := sqT_up T.q_CHECK fun _ _ h => nomatch h
theorem q_tag (T : Txt K mg A) (H : Hp) : SqT K H A.t_TAG (intV P4) := sqT_up T.q_TAG fun _ _ h => nomatch h
theorem q_un (T : Txt K mg A) (H : Hp) : SqT K H A.t_UNCHECKED (intV LF) := sqT_up T.q_UNCHECKED fun _ _ h => nomatch h
theorem ok_form_fault (T : Txt K mg A) : FnOk P w K mg base CX0 2 A.a_form_fault A.d_form_fault ["words"] (spFault K) := by
  refine T.F_form_fault.ok sc_form_fault (fun vs H Q E h => ?_) (fun cdv B outer s H vs Q E hr h => ?_)
  · obtain ⟨a, ws, rfl, _⟩ := h
    rfl
  · obtain ⟨a, ws, rfl, ha, hw, hl, q⟩ := h
    refine ⟨_, (pss_cons (ps_if (PW.pt (pw_or (pt_cmpR op_lt (pe_callB len_seq (by rfl) T.n_len (by decide +kernel) (pa_cons (pv 0) pa_nil)) (pe_glob (v := .int 16) rfl T.g_HEADER ⟨_, rfl⟩) (nomark _)) (pw_or1 (pt_cmpR op_ne (pe_ix ix_tup (pv 0) pe_int (fun _ _ => rfl)) pe_int (nomark _))))) (pss_one (ps_ret pe_str)) pss_nil)
    (pss_cons (ps_if (PW.pt (pw_or (pt_not (pt_chain op_le op_le (pe_glob (v := .int 16) rfl T.g_HEADER ⟨_, rfl⟩) (pe_ix ix_tup (pv 0) pe_int (fun _ _ => rfl)) (pe_glob (v := .int 1024) rfl T.g_MOST_WORDS ⟨_, rfl⟩))) (pw_or (pt_cmpR op_gt (pe_ix ix_tup (pv 0) pe_int (fun _ _ => rfl)) (pe_callB len_seq (by rfl) T.n_len (by decide +kernel) (pa_cons (pv 0) pa_nil)) (nomark _)) (pw_or1 (pt_not (pt_chain op_le op_le (pe_glob (v := .int 16) rfl T.g_HEADER ⟨_, rfl⟩) (pe_ix ix_tup (pv 0) pe_int (fun _ _ => rfl)) (pe_ix ix_tup (pv 0) pe_int (fun _ _ => rfl)))))))) (pss_one (ps_ret pe_str)) pss_nil)
    (pss_one (ps_ret (pe_ifExp (pt_cmpR op_eq (pe_call (ok_check_of T) (hr.mono (by omega)) rfl T.g_check_of T.F_check_of.kp T.b_check_of .nil pass0 (pa_cons (pe_slice sl_tupA (pv 0) po_none (po_some (pe_ix ix_tup (pv 0) pe_int (fun _ _ => rfl)))) (pa_cons (pe_glob (v := .ref A.t_UNCHECKED) rfl T.g_UNCHECKED rfl) pa_nil))) (pe_call (ok_number_at T) (hr.mono (by omega)) rfl T.g_number_at T.F_number_at.kp T.b_number_at .nil pass0 (pa_cons (pv 0) (pa_cons (pe_glob (v := .ref A.t_CHECK) rfl T.g_CHECK rfl) pa_nil))) (nomark _)) pe_non pe_str))))), ?_⟩
    have hil := intV_len ws
    have fmt : ∀ H', Same H H' → flawV ws = vfmt → Q vfmt H' := fun H' s e => by
      have := q H' s
      rw [e] at this
      exact this
    refine ⟨_, rfl, a, _, rfl, .inr ha, _, _, rfl, rfl, _, rfl, ?_⟩
    rw [hil]
    refine ifB (fun e1 => ?_) (fun e1 => ?_)
    · have e1 := of_decide_eq_true e1
      exact fmt _ (Same.refl _) (by unfold flawV; rw [if_pos (.inl (by omega))])
    have e1 := of_decide_eq_false e1
    refine ⟨_, rfl, a, _, 0, _, rfl, rfl, ha, atI_nat (intV_at (i := 0) (by omega)), rfl, _, rfl, ifB (fun e2 => ?_) (fun e2 => ?_)⟩
    · have hne : ws.getD 0 0 ≠ 1 := fun z => by
        rw [z] at e2
        exact absurd e2 (by decide)
      exact fmt _ (Same.refl _) (by unfold flawV; rw [if_pos (.inr hne)])
    have h0 : ws.getD 0 0 = 1 := Decidable.byContradiction fun z => by
      have : decide (V.int ((ws.getD 0 0 : Nat) : Int) = V.int 1) = false := decide_eq_false fun y => z (by have := V.int.inj y; omega)
      rw [this] at e2
      cases e2
    have i0 : ∀ i, i < 16 → (intV ws)[i]? = some (.int ((ws.getD i 0 : Nat) : Int)) := fun i h => intV_at (by omega)
    have base : ∀ X : Prop, (¬ (ws.getD 6 0 < 16 ∨ 1024 < ws.getD 6 0 ∨ ws.length < ws.getD 6 0 ∨ ws.getD 8 0 < 16 ∨ ws.getD 6 0 < ws.getD 8 0) → X) → (ws.getD 6 0 < 16 ∨ 1024 < ws.getD 6 0 ∨ ws.length < ws.getD 6 0 ∨ ws.getD 8 0 < 16 ∨ ws.getD 6 0 < ws.getD 8 0 → X) → X := fun X a b => (Decidable.em _).elim b a
    have bad : (ws.getD 6 0 < 16 ∨ 1024 < ws.getD 6 0 ∨ ws.length < ws.getD 6 0 ∨ ws.getD 8 0 < 16 ∨ ws.getD 6 0 < ws.getD 8 0) → Q vfmt H := fun h => fmt _ (Same.refl _) (by
      unfold flawV
      rw [if_neg (by omega), if_pos h])
    refine ⟨_, rfl, a, _, 6, _, rfl, rfl, ha, atI_nat (i0 6 (by decide)), _, _, rfl, rfl, _, rfl, ifB (fun e3 => ?_) (fun e3 => ?_)⟩
    case refine_2 =>
      have e3 := of_decide_eq_false e3
      have X := bad (by omega)
      first | exact ⟨_, rfl, ifT rfl X⟩ | exact ⟨_, rfl, ifT rfl (ifT rfl X)⟩
    have e3 := of_decide_eq_true e3
    refine ⟨_, _, rfl, rfl, _, rfl, ifB (fun e4 => ?_) (fun e4 => ?_)⟩
    · have e4 : decide (((ws.getD 6 0 : Nat) : Int) ≤ 1024) = false := by simpa using e4
      have e4 := of_decide_eq_false e4
      have X := bad (by omega)
      first | exact X | exact ifT rfl X
    have e4 : decide (((ws.getD 6 0 : Nat) : Int) ≤ 1024) = true := by simpa using e4
    have e4 := of_decide_eq_true e4
    refine ⟨_, rfl, a, _, 6, _, rfl, rfl, ha, atI_nat (i0 6 (by decide)), _, rfl, a, _, rfl, .inr ha, _, _, rfl, rfl, _, rfl, ?_⟩
    rw [hil]
    refine ifB (fun e5 => ?_) (fun e5 => ?_)
    · have e5 := of_decide_eq_true e5
      have X := bad (by omega)
      first | exact X | exact ifT rfl X
    have e5 := of_decide_eq_false e5
    refine ⟨_, rfl, a, _, 8, _, rfl, rfl, ha, atI_nat (i0 8 (by decide)), _, _, rfl, rfl, _, rfl, ifB (fun e6 => ?_) (fun e6 => ?_)⟩
    case refine_2 =>
      have e6 := of_decide_eq_false e6
      have X := bad (by omega)
      first | exact ⟨_, rfl, ifT rfl X⟩ | exact ⟨_, rfl, ifT rfl (ifT rfl X)⟩ | exact ⟨_, rfl, X⟩
    have e6 := of_decide_eq_true e6
    refine ⟨_, rfl, a, _, 6, _, rfl, rfl, ha, atI_nat (i0 6 (by decide)), _, _, rfl, rfl, _, rfl, ifB (fun e7 => ?_) (fun e7 => ?_)⟩
    · have e7 : decide (((ws.getD 8 0 : Nat) : Int) ≤ ((ws.getD 6 0 : Nat) : Int)) = false := by simpa using e7
      have e7 := of_decide_eq_false e7
      have X := bad (by omega)
      first | exact X | exact ifT rfl X
    have e7 : decide (((ws.getD 8 0 : Nat) : Int) ≤ ((ws.getD 6 0 : Nat) : Int)) = true := by simpa using e7
    have e7 := of_decide_eq_true e7
    have hfl : flawV ws = if chkW LF (ws.take (ws.getD 6 0)) = at3 ws then .non else vchk := by
      unfold flawV
      rw [if_neg (by omega), if_neg (by omega)]
    unfold tNoPart
    refine ⟨_, rfl, _, rfl, a, _, 6, _, rfl, rfl, ha, atI_nat (i0 6 (by decide)), _, rfl, slA_of ha fun p H2 s2 e2 => ?_⟩
    rw [cutV_hi, show (intV ws).take (ws.getD 6 0) = intV (ws.take (ws.getD 6 0)) from (List.map_take ..).symm] at e2
    refine ⟨p, A.t_UNCHECKED, ws.take (ws.getD 6 0), LF, rfl, e2, q_un T H2, fun w h => hw w (List.mem_of_mem_take h), by rw [List.length_take]; omega, fun H3 s3 => ?_⟩
    have s23 := s2.trans s3
    refine ⟨_, rfl, a, A.t_CHECK, ws, P3, rfl, sqT_up ha s23, q_check T H3, fun p hp => ?_, by decide, ?_⟩
    · have : p ≤ 11 := by revert p; decide
      omega
    refine ⟨rfl, _, rfl, ?_⟩
    have := q _ s23
    rw [hfl] at this
    refine ifB (fun e8 => ?_) (fun e8 => ?_)
    · have e8 := V.int.inj (of_decide_eq_true e8)
      rw [if_pos (by show _ = valN _; omega)] at this
      exact this
    · have e8 := of_decide_eq_false e8
      rw [if_neg (fun z => e8 (by rw [z]; rfl))] at this
      exact this
end
end R1

namespace R1
open PySem PySem.Spec PyProof.Rows L2 RK
local macro_rules | `(tactic| walk_at "sq") => `(tactic| first
  | exact SqL.of upd_same | exact upd_same | exact SqL.of (by assumption) | exact SqL.of (by rw [upd_ne (by assumption)]; assumption) | assumption)
local macro_rules | `(tactic| walk_at "sd") => `(tactic| first
  | assumption | omega | (refine Or.inl ⟨?_, ?_⟩ <;> omega) | (show _ ∧ _; constructor <;> omega) | (show _ ≠ _; simp; omega) | (exact Or.inl ⟨by decide, by decide⟩) | (exact Or.inr ⟨by decide, by decide⟩) | (show _ < _; decide) | (show _ ≤ _; decide))
local macro_rules | `(tactic| walk_at "at") => `(tactic| first | rfl | (refine atI_intV ?_ ?_ <;> omega) | assumption)
local macro_rules | `(tactic| walk_at "s1") => `(tactic| first
  | refine ⟨_, rfl, ?_⟩ | refine ⟨_, _, rfl, rfl, ?_⟩ | refine ⟨rfl, ?_⟩
  | refine ⟨_, _, _, _, rfl, rfl, by walk_at "sq", by walk_at "at", ?_⟩
  | refine Or.inl ⟨_, rfl, ?_⟩
  | refine ⟨_, _, rfl, Or.inl (by walk_at "sq"), ?_⟩
  | refine And.intro (by walk_at "sd") ?_)
local macro_rules | `(tactic| walk_at "s") => `(tactic| repeat walk_at "s1")

theorem flaw_cases (ws : List Nat) : flawV ws = .non ∨ flawV ws = vfmt ∨ flawV ws = vchk := by
  unfold flawV
  split
  · exact .inr (.inl rfl)
  · split
    · exact .inr (.inl rfl)
    · split
      · exact .inl rfl
      · exact .inr (.inr rfl)
section
variable {P : Program} {w : World} {K : PySem.W.Frag} {mg : Str → Option Value} {base : Heap} {A : Ads}
theorem ok_refusal (T : Txt K mg A) : FnOk P w K mg base CX0 3 A.a_refusal A.d_refusal ["words", "product", "secret", "home"] (spRefusal K) := by
  refine T.F_refusal.ok sc_refusal (fun vs H Q E h => ?_) (fun cdv B outer s H vs Q E hr h => ?_)
  · obtain ⟨a, ws, m, s, h, rfl, _⟩ := h
    rfl
  · obtain ⟨a, ws, m, sc, hm, rfl, ha, hw, hl, q⟩ := h
    refine ⟨_, (pss_cons (ps_set (i := 4) sc_refusal.nd rfl (.inl rfl) (pe_call (ok_form_fault T) (hr.mono (by omega)) rfl T.g_form_fault T.F_form_fault.kp T.b_form_fault .nil pass0 (pa_cons (pv 0) pa_nil)))
    (pss_cons (ps_if (pt_cmpR op_notN (pv 4) pe_non (nomark _)) (pss_one (ps_ret (pv 4))) pss_nil)
    (pss_cons (ps_if (pt_cmpR op_ne (pe_call (ok_number_at T) (hr.mono (by omega)) rfl T.g_number_at T.F_number_at.kp T.b_number_at .nil pass0 (pa_cons (pv 0) (pa_cons (pe_glob (v := .ref A.t_TAG) rfl T.g_TAG rfl) pa_nil))) (pe_op op_add (pe_op op_mul (pe_call (ok_number_at T) (hr.mono (by omega)) rfl T.g_number_at T.F_number_at.kp T.b_number_at .nil pass0 (pa_cons (pv 0) (pa_cons (pe_glob (v := .ref A.t_CHECK) rfl T.g_CHECK rfl) pa_nil))) (pe_glob (v := .int 65521) rfl T.g_TAG_FACTOR ⟨_, rfl⟩)) (pv 2)) (nomark _)) (pss_one (ps_ret pe_str)) pss_nil)
    (pss_cons (ps_if (pt_cmpR op_ne (pe_ix ix_tup (pv 0) pe_int (fun _ _ => rfl)) (pv 1) (nomark _)) (pss_one (ps_ret pe_str)) pss_nil)
    (pss_one (ps_ret (pe_ifExp (pt_cmpR op_eq (pe_ix ix_tup (pv 0) pe_int (fun _ _ => rfl)) (pv 3) (nomark _)) pe_non pe_str))))))), ?_⟩
    refine ⟨_, rfl, a, ws, rfl, ha, hw, hl, fun H1 s1 => ?_⟩
    have q1 := q
    unfold dueV at q1
    rcases flaw_cases ws with hf | hf | hf
    · rw [if_pos hf] at q1
      rw [hf]
      have h16 := flaw_len (ws := ws) (by rw [hf]; exact non_ne.1)
      have ha1 := sqT_up ha s1
      refine ⟨_, rfl, rfl, _, rfl, ifF (by rw [decide_eq_true rfl]; rfl) ?_⟩
      refine ⟨_, rfl, a, A.t_TAG, ws, P4, rfl, ha1, q_tag T H1, fun p hp => ?_, by decide, ?_⟩
      · have : p ≤ 15 := by revert p; decide
        omega
      refine ⟨_, rfl, a, A.t_CHECK, ws, P3, rfl, ha1, q_check T H1, fun p hp => ?_, by decide, ?_⟩
      · have : p ≤ 11 := by revert p; decide
        omega
      refine ⟨_, _, rfl, rfl, .inr ⟨by decide, by decide⟩, _, rfl, _, _, rfl, rfl, rfl, _, rfl, ifB (fun e1 => ?_) (fun e1 => ?_)⟩
      · rw [if_neg (fun z => by
          have z2 : decide (V.int ((valN (P4.map fun i => ws.getD i 0) : Nat) : Int) = V.int (((valN (P3.map fun i => ws.getD i 0) : Nat) : Int) * 65521 + sc)) = true := decide_eq_true (congrArg V.int z)
          rw [z2] at e1
          cases e1)] at q1
        exact q1 _ s1
      · have z : (at4 ws : Int) = (at3 ws : Int) * 65521 + sc := Decidable.byContradiction fun z => by
          have z2 : decide (V.int ((valN (P4.map fun i => ws.getD i 0) : Nat) : Int) = V.int (((valN (P3.map fun i => ws.getD i 0) : Nat) : Int) * 65521 + sc)) = false := decide_eq_false fun y => z (V.int.inj y)
          rw [z2] at e1
          cases e1
        rw [if_pos z] at q1
        refine ⟨_, rfl, a, _, 1, _, rfl, rfl, ha1, atI_nat (intV_at (i := 1) (by omega)), _, rfl, rfl, _, rfl, ifB (fun e2 => ?_) (fun e2 => ?_)⟩
        · rw [if_neg (fun z => by
            have z2 : decide (V.int ((ws.getD 1 0 : Nat) : Int) = V.int m) = true := decide_eq_true (congrArg V.int z)
            rw [z2] at e2
            cases e2)] at q1
          exact q1 _ s1
        · have z3 : ((ws.getD 1 0 : Nat) : Int) = m := Decidable.byContradiction fun z => by
            have z2 : decide (V.int ((ws.getD 1 0 : Nat) : Int) = V.int m) = false := decide_eq_false fun y => z (V.int.inj y)
            rw [z2] at e2
            cases e2
          rw [if_pos z3] at q1
          refine ⟨_, rfl, a, _, 5, _, rfl, rfl, ha1, atI_nat (intV_at (i := 5) (by omega)), _, rfl, rfl, _, rfl, ifB (fun e3 => ?_) (fun e3 => ?_)⟩
          · rw [if_pos (V.int.inj (of_decide_eq_true e3))] at q1
            exact q1 _ s1
          · rw [if_neg (fun z => of_decide_eq_false e3 (congrArg V.int z))] at q1
            exact q1 _ s1
    · rw [hf] at q1 ⊢
      rw [if_neg (fun z => non_ne.1 z.symm)] at q1
      exact ⟨_, rfl, rfl, _, rfl, ifT (by rw [decide_eq_false (fun z => nomatch z)]; rfl) ⟨_, rfl, q1 _ s1⟩⟩
    · rw [hf] at q1 ⊢
      rw [if_neg (fun z => non_ne.2 z.symm)] at q1
      exact ⟨_, rfl, rfl, _, rfl, ifT (by rw [decide_eq_false (fun z => nomatch z)]; rfl) ⟨_, rfl, q1 _ s1⟩⟩
theorem xt_ins {K : PySem.W.Frag} {H : Hp} {x C dx r : Addr} {fs : List (Str × V)} {xs : List V} (h : SqT K H r xs) (n : H x = some (.ins C dx fs)) : XT K H (inS noS x) r xs := by
  rcases h with h | h
  · refine .inl ⟨fun z => z.elim (fun z => z) fun z => ?_, h⟩
    subst z
    rcases h with h | ⟨o, h⟩ <;> rw [n] at h <;> cases h
  · exact .inr (.inr h)
theorem out_but {p : Addr} {S : ASet} {H H' : Hp} (hp : S p) (h : But p H H') : Out S H H' := fun b o n e => h b o (fun z => n (by rw [z]; exact hp)) e
/-- what stands while the fields are put -/
def GI (K : PySem.W.Frag) (x C dx p : Addr) (H : Hp) (zs : List V) (k : Nat) (Hc : Hp) (fs : List (Str × V)) : Prop := But x H Hc ∧ Hc x = some (.ins C dx fs) ∧ XT K Hc (inS noS x) p zs ∧ List.lookup ("words" : Str) fs = some (V.ref p) ∧ fs.length ≤ k
theorem GI.step {K : PySem.W.Frag} {x C dx p : Addr} {H : Hp} {zs : List V} {k : Nat} {Hc : Hp} {fs : List (Str × V)} (g : GI K x C dx p H zs k Hc fs) (f : Str) (y : V) (hf : ("words" : Str) ≠ f) : GI K x C dx p H zs (k + 1) (upd Hc x (.ins C dx (putF f y fs))) (putF f y fs) :=
  ⟨g.1.upd, upd_same, g.2.2.1.up ((Out.refl _ _).put (.inr rfl)), by rw [lookup_putF, if_neg hf]; exact g.2.2.2.1, Nat.le_trans (length_putF _ _ _) (Nat.succ_le_succ g.2.2.2.2)⟩
theorem GI.same {K : PySem.W.Frag} {x C dx p : Addr} {H : Hp} {zs : List V} {k : Nat} {Hc Hd : Hp} {fs : List (Str × V)} (g : GI K x C dx p H zs k Hc fs) (s : Same Hc Hd) : GI K x C dx p H zs k Hd fs :=
  ⟨g.1.trans (But.of s), s _ _ g.2.1, g.2.2.1.up (Out.of s), g.2.2.2.1, g.2.2.2.2⟩
def spInit (K : PySem.W.Frag) (C B : Addr) : Sp := fun vs H Q E => ∃ (x dx a : Addr) (ws : List Nat), vs = [.ref x, .ref a] ∧ H x = some (.ins C dx []) ∧ SqT K H a (intV ws) ∧ (∀ w ∈ ws, w ≤ 65535) ∧ ws.length ≤ 100000 ∧
  (flawV ws ≠ .non → ∀ dz H', Same H H' → H dz = none → H' dz = some (.xd [("reason", flawV ws)]) → E (.ref B) (some dz) H') ∧
  (flawV ws = .non → ∀ H' p fs, But x H H' → H' x = some (.ins C dx fs) → List.lookup ("words" : Str) fs = some (V.ref p) → SqT K H' p (intV (ws.take (ws.getD 6 0))) → Q .non H')
theorem ok_Image_init (T : Txt K mg A) : FnOk P w K mg base (L2N.CX P w) 4 A.a_Image_init A.d_Image_init ["self", "words"] (spInit K A.c_Image A.c_BadImage) := by
  refine Fun.okN T.F_Image_init sc_Image_init (fun vs H Q E h => ?_) (fun cdv B outer s H vs Q E hr h => ?_)
  · obtain ⟨x, dx, a, ws, rfl, _⟩ := h
    rfl
  · obtain ⟨x, dx, a, ws, rfl, hx, ha, hw, hl, bad, good⟩ := h
    refine ⟨_, (pss_cons (ps_set (i := 2) sc_Image_init.nd rfl (.inl rfl) (pe_call (ok_form_fault T) (hr.mono (by omega)) rfl T.g_form_fault T.F_form_fault.kp T.b_form_fault .nil pass0 (pa_cons (pv 1) pa_nil)))
    (pss_cons (ps_if (pt_cmpR op_notN (pv 2) pe_non (nomark _)) (pss_one (L2N.ps_raise rfl (L2N.takes_of rfl rfl rfl rfl) (pmk_errN T.x_BadImage (ok_BadImage_init T) (hr.mono (by omega)) (pa_cons (pv 2) pa_nil)))) pss_nil)
    (pss_cons (ps_fld (pv 0) (pe_callTy call_tupleT (by rfl) T.n_tuple (by decide +kernel) (pa_cons (pe_slice sl_tupA (pv 1) po_none (po_some (pe_ix ix_tup (pv 1) pe_int (fun _ _ => rfl)))) pa_nil)) rfl)
    (pss_cons (ps_fld (pv 0) (pe_ix ix_tup (pv 1) pe_int (fun _ _ => rfl)) rfl)
    (pss_cons (ps_fld (pv 0) (pe_ix ix_tup (pv 1) pe_int (fun _ _ => rfl)) rfl)
    (pss_cons (ps_fld (pv 0) (pe_ix ix_tup (pv 1) pe_int (fun _ _ => rfl)) rfl)
    (pss_cons (ps_fld (pv 0) (pe_ix ix_tup (pv 1) pe_int (fun _ _ => rfl)) rfl)
    (pss_cons (ps_fld (pv 0) (pe_ix ix_tup (pv 1) pe_int (fun _ _ => rfl)) rfl)
    (pss_cons (ps_fld (pv 0) (pe_call (ok_number_at T) (hr.mono (by omega)) rfl T.g_number_at T.F_number_at.kp T.b_number_at .nil pass0 (pa_cons (pv 1) (pa_cons (pe_glob (v := .ref A.t_CHECK) rfl T.g_CHECK rfl) pa_nil))) rfl)
    (pss_cons (ps_fld (pv 0) (pe_call (ok_number_at T) (hr.mono (by omega)) rfl T.g_number_at T.F_number_at.kp T.b_number_at .nil pass0 (pa_cons (pv 1) (pa_cons (pe_glob (v := .ref A.t_TAG) rfl T.g_TAG rfl) pa_nil))) rfl)
    (pss_cons (ps_fld (pv 0) (pe_slice sl_tupA (pe_fld (pv 0) rfl) (po_some (pe_glob (v := .int 16) rfl T.g_HEADER ⟨_, rfl⟩)) (po_some (pe_ix ix_tup (pv 1) pe_int (fun _ _ => rfl)))) rfl)
    (pss_one (ps_fld (pv 0) (pe_slice sl_tupA (pe_fld (pv 0) rfl) (po_some (pe_ix ix_tup (pv 1) pe_int (fun _ _ => rfl))) po_none) rfl))))))))))))), ?_⟩
    have raise : flawV ws ≠ .non → ∀ Hc, Same H Hc → ∀ Q' : XK, Q' = E → ∀ dz H2, Same Hc H2 → Hc dz = none → H2 dz = some (.xd [("reason", flawV ws)]) → Q' (.ref A.c_BadImage) (some dz) H2 := fun h Hc s1 Q' eQ dz H2 s2 n2 e2 => by
      rw [eQ]
      exact bad h dz H2 (s1.trans s2) (s1.free n2) e2
    refine ⟨_, rfl, a, ws, rfl, ha, hw, hl, fun H1 s1 => ?_⟩
    rcases flaw_cases ws with hf | hf | hf
    · rw [hf]
      have h16 := flaw_len (ws := ws) (by rw [hf]; exact non_ne.1)
      have good := good hf
      refine ⟨_, rfl, rfl, _, rfl, ifF (by rw [decide_eq_true rfl]; rfl) ?_⟩
      have ha1 := xt_ins (sqT_up ha s1) (s1 _ _ hx)
      have hx1 := s1 _ _ hx
      have b1 : But x H H1 := But.of s1
      have at_ : ∀ i, i < 16 → (intV ws)[i]? = some (.int ((ws.getD i 0 : Nat) : Int)) := fun i h => intV_at (by omega)
      unfold tNoPart
      refine ⟨_, rfl, _, rfl, a, _, 6, _, rfl, rfl, ha1.sq, atI_nat (at_ 6 (by decide)), _, rfl, slA_of ha1.sq fun p H2 s2 e2 => ?_⟩
      rw [cutV_hi, show (intV ws).take (ws.getD 6 0) = intV (ws.take (ws.getD 6 0)) from (List.map_take ..).symm] at e2
      have hx2 := s2 _ _ hx1
      refine ⟨p, _, rfl, e2, _, rfl, x, A.c_Image, dx, [], rfl, hx2, T.cl_Image, T.na_Image_words, by decide, ?_⟩
      have hp2 := xt_ins e2 hx2
      have ha0 := xt_ins ha hx
      have g3 : GI K x A.c_Image dx p H (intV (ws.take (ws.getD 6 0))) 1 (upd H2 x (.ins A.c_Image dx (putF "words" (.ref p) []))) (putF "words" (.ref p) []) :=
        ⟨(b1.trans (But.of s2)).upd, upd_same, hp2.up ((Out.refl _ _).put (.inr rfl)), by rw [lookup_putF, if_pos rfl], Nat.le_refl 1⟩
      generalize upd H2 x (.ins A.c_Image dx (putF "words" (.ref p) [])) = H3 at g3 ⊢
      generalize putF "words" (.ref p) [] = fs3 at g3
      have hag : ∀ {Hc fs k}, GI K x A.c_Image dx p H (intV (ws.take (ws.getD 6 0))) k Hc fs → SqT K Hc a (intV ws) := fun g => (ha0.up (out_but (.inr rfl) g.1)).sq
      have hpl : (intV (ws.take (ws.getD 6 0))).length ≤ 100000 := by rw [intV_len, List.length_take]; omega
      refine ⟨_, rfl, a, _, 1, _, rfl, rfl, hag g3, atI_nat (at_ 1 (by decide)), _, rfl, x, A.c_Image, dx, _, rfl, g3.2.1, T.cl_Image, T.na_Image_product, Nat.lt_of_le_of_lt g3.2.2.2.2 (by decide), ?_⟩
      have g4 := g3.step "product" (.int ((ws.getD 1 0 : Nat) : Int)) (by decide +kernel)
      refine ⟨_, rfl, a, _, 2, _, rfl, rfl, hag g4, atI_nat (at_ 2 (by decide)), _, rfl, x, A.c_Image, dx, _, rfl, g4.2.1, T.cl_Image, T.na_Image_version, Nat.lt_of_le_of_lt g4.2.2.2.2 (by decide), ?_⟩
      have g5 := g4.step "version" (.int ((ws.getD 2 0 : Nat) : Int)) (by decide +kernel)
      refine ⟨_, rfl, a, _, 3, _, rfl, rfl, hag g5, atI_nat (at_ 3 (by decide)), _, rfl, x, A.c_Image, dx, _, rfl, g5.2.1, T.cl_Image, T.na_Image_level, Nat.lt_of_le_of_lt g5.2.2.2.2 (by decide), ?_⟩
      have g6 := g5.step "level" (.int ((ws.getD 3 0 : Nat) : Int)) (by decide +kernel)
      refine ⟨_, rfl, a, _, 5, _, rfl, rfl, hag g6, atI_nat (at_ 5 (by decide)), _, rfl, x, A.c_Image, dx, _, rfl, g6.2.1, T.cl_Image, T.na_Image_home, Nat.lt_of_le_of_lt g6.2.2.2.2 (by decide), ?_⟩
      have g7 := g6.step "home" (.int ((ws.getD 5 0 : Nat) : Int)) (by decide +kernel)
      refine ⟨_, rfl, a, _, 7, _, rfl, rfl, hag g7, atI_nat (at_ 7 (by decide)), _, rfl, x, A.c_Image, dx, _, rfl, g7.2.1, T.cl_Image, T.na_Image_entry, Nat.lt_of_le_of_lt g7.2.2.2.2 (by decide), ?_⟩
      have g8 := g7.step "entry" (.int ((ws.getD 7 0 : Nat) : Int)) (by decide +kernel)
      refine ⟨_, rfl, a, A.t_CHECK, ws, P3, rfl, hag g8, q_check T _, fun p hp => ?_, by decide, _, rfl, x, A.c_Image, dx, _, rfl, g8.2.1, T.cl_Image, T.na_Image_check, Nat.lt_of_le_of_lt g8.2.2.2.2 (by decide), ?_⟩
      · have : p ≤ 11 := by revert p; decide
        omega
      have g9 := g8.step "check" (.int ((valN (P3.map fun i => ws.getD i 0) : Nat) : Int)) (by decide +kernel)
      refine ⟨_, rfl, a, A.t_TAG, ws, P4, rfl, hag g9, q_tag T _, fun p hp => ?_, by decide, _, rfl, x, A.c_Image, dx, _, rfl, g9.2.1, T.cl_Image, T.na_Image_tag, Nat.lt_of_le_of_lt g9.2.2.2.2 (by decide), ?_⟩
      · have : p ≤ 15 := by revert p; decide
        omega
      have g10 := g9.step "tag" (.int ((valN (P4.map fun i => ws.getD i 0) : Nat) : Int)) (by decide +kernel)
      generalize upd _ x (.ins A.c_Image dx (putF "tag" _ _)) = H10 at g10 ⊢
      generalize putF "tag" _ _ = fs10 at g10 ⊢
      refine ⟨_, rfl, x, A.c_Image, dx, _, _, rfl, g10.2.1, T.cl_Image, T.na_Image_words, g10.2.2.2.1, _, rfl, _, rfl, a, _, 8, _, rfl, rfl, hag g10, atI_nat (at_ 8 (by decide)), _, rfl, slA_of g10.2.2.1.sq fun p11 H11 s11 e11 => ?_⟩
      have g10' := g10.same s11
      refine ⟨_, rfl, x, A.c_Image, dx, _, rfl, g10'.2.1, T.cl_Image, T.na_Image_content, Nat.lt_of_le_of_lt g10'.2.2.2.2 (by decide), ?_⟩
      have g11 := g10'.step "content" (.ref p11) (by decide +kernel)
      generalize upd _ x (.ins A.c_Image dx (putF "content" _ _)) = H12 at g11 ⊢
      generalize putF "content" _ _ = fs11 at g11 ⊢
      refine ⟨_, rfl, x, A.c_Image, dx, _, _, rfl, g11.2.1, T.cl_Image, T.na_Image_words, g11.2.2.2.1, _, rfl, a, _, 8, _, rfl, rfl, hag g11, atI_nat (at_ 8 (by decide)), _, rfl, slA_of g11.2.2.1.sq fun p12 H13 s13 e13 => ?_⟩
      have g11' := g11.same s13
      refine ⟨_, rfl, x, A.c_Image, dx, _, rfl, g11'.2.1, T.cl_Image, T.na_Image_map, Nat.lt_of_le_of_lt g11'.2.2.2.2 (by decide), ?_⟩
      have g12 := g11'.step "map" (.ref p12) (by decide +kernel)
      exact good _ p _ g12.1 g12.2.1 g12.2.2.2.1 g12.2.2.1.sq
    · have raise := raise (by rw [hf]; exact fun z => nomatch z)
      rw [hf] at raise ⊢
      refine ⟨_, rfl, rfl, _, rfl, ifT (by rw [decide_eq_false (fun z => nomatch z)]; rfl) ?_⟩
      exact ⟨_, rfl, keep_end fun dz H2 s2 n2 e2 => raise _ s1 _ rfl dz H2 s2 n2 e2⟩
    · have raise := raise (by rw [hf]; exact fun z => nomatch z)
      rw [hf] at raise ⊢
      refine ⟨_, rfl, rfl, _, rfl, ifT (by rw [decide_eq_false (fun z => nomatch z)]; rfl) ?_⟩
      exact ⟨_, rfl, keep_end fun dz H2 s2 n2 e2 => raise _ s1 _ rfl dz H2 s2 n2 e2⟩
end
end R1

namespace R1
open PySem PySem.Spec PyProof.Rows L2 RK
local macro_rules | `(tactic| walk_at "sq") => `(tactic| first
  | exact SqL.of upd_same | exact upd_same | exact SqL.of (by assumption) | exact SqL.of (by rw [upd_ne (by assumption)]; assumption) | assumption)
local macro_rules | `(tactic| walk_at "sd") => `(tactic| first
  | assumption | omega | (refine Or.inl ⟨?_, ?_⟩ <;> omega) | (show _ ∧ _; constructor <;> omega) | (show _ ≠ _; simp; omega) | (exact Or.inl ⟨by decide, by decide⟩) | (exact Or.inr ⟨by decide, by decide⟩) | (show _ < _; decide) | (show _ ≤ _; decide))
local macro_rules | `(tactic| walk_at "at") => `(tactic| first | rfl | (refine atI_intV ?_ ?_ <;> omega) | assumption)
local macro_rules | `(tactic| walk_at "s1") => `(tactic| first
  | refine ⟨_, rfl, ?_⟩ | refine ⟨_, _, rfl, rfl, ?_⟩ | refine ⟨rfl, ?_⟩
  | refine ⟨_, _, _, _, rfl, rfl, by walk_at "sq", by walk_at "at", ?_⟩
  | refine Or.inl ⟨_, rfl, ?_⟩
  | refine ⟨_, _, rfl, Or.inl (by walk_at "sq"), ?_⟩
  | refine And.intro (by walk_at "sd") ?_)
local macro_rules | `(tactic| walk_at "s") => `(tactic| repeat walk_at "s1")

def spWord : Sp := fun vs H Q _ => ∃ (c p : Addr), vs = [.ref p] ∧ Src c H p ∧ ∀ H' (w : Nat), w ≤ 65535 → Src c H' p → But p H H' → Q (.int (w : Int)) H'
def chkP (lf ws : List Nat) (n : Nat) : Nat := (((List.range n).filter fun i => !lf.contains i).map fun i => (i + 1) * (65535 - ws.getD i 0)).sum
theorem chkP_len (lf ws : List Nat) : chkP lf ws ws.length = chkW lf ws := rfl
theorem chkP_succ (lf ws : List Nat) (n : Nat) : chkP lf ws (n + 1) = chkP lf ws n + (if lf.contains n = true then 0 else (n + 1) * (65535 - ws.getD n 0)) := by
  unfold chkP
  rw [List.range_succ, List.filter_append, List.map_append, List.sum_append]
  congr 1
  by_cases h : lf.contains n = true
  · have hh : (!lf.contains n) = false := by rw [h]; rfl
    rw [if_pos h, show [n].filter (fun i => !lf.contains i) = [] by simp only [List.filter, hh]]
    rfl
  · have h2 : lf.contains n = false := by simpa using h
    have hh : (!lf.contains n) = true := by rw [h2]; rfl
    rw [if_neg h, show [n].filter (fun i => !lf.contains i) = [n] by simp only [List.filter, hh]]
    rfl
def digN : Nat → Nat → List Nat
  | 0, _ => []
  | c + 1, n => digN c (n / 65536) ++ [n % 65536]
theorem digN_front : ∀ (k n : Nat), digN (k + 1) n = (n / 65536 ^ k) % 65536 :: digN k n
  | 0, n => by
    show [] ++ [n % 65536] = _
    rw [Nat.pow_zero, Nat.div_one]
    rfl
  | k + 1, n => by
    show digN (k + 1) (n / 65536) ++ [n % 65536] = _
    rw [digN_front k (n / 65536)]
    show ((n / 65536) / 65536 ^ k % 65536) :: (digN k (n / 65536) ++ [n % 65536]) = _
    rw [Nat.div_div_eq_div_mul, Nat.pow_succ, Nat.mul_comm 65536]
    rfl
theorem digN_len : ∀ (k n : Nat), (digN k n).length = k
  | 0, _ => rfl
  | k + 1, n => by
    show (digN k (n / 65536) ++ [n % 65536]).length = _
    rw [List.length_append, digN_len k]
    rfl
theorem digN_val : ∀ (k n : Nat), n < 65536 ^ k → valN (digN k n) = n
  | 0, n, h => by
    have : n = 0 := by rw [Nat.pow_zero] at h; omega
    rw [this]
    rfl
  | k + 1, n, h => by
    show valN (digN k (n / 65536) ++ [n % 65536]) = n
    rw [valN_snoc, digN_val k (n / 65536) (by rw [Nat.pow_succ] at h; exact Nat.div_lt_of_lt_mul (by rw [Nat.mul_comm]; exact h))]
    omega
theorem digN_le : ∀ (k n : Nat), ∀ w ∈ digN k n, w ≤ 65535
  | 0, _, w, h => by cases h
  | k + 1, n, w, h => by
    rcases List.mem_append.mp (show w ∈ digN k (n / 65536) ++ [n % 65536] from h) with z | z
    · exact digN_le k _ w z
    · have := List.mem_singleton.mp z
      omega
def head9 (fs body : List Nat) : List Nat := [1, fs.getD 0 0, fs.getD 1 0, fs.getD 2 0, 0, fs.getD 3 0, 16 + body.length, fs.getD 4 0, fs.getD 5 0]
def totN (fs body : List Nat) : Nat := chkW LF (head9 fs body ++ [0, 0, 0, 0, 0, 0, 0] ++ body)
def headN (fs : List Nat) (sg : Nat) (body : List Nat) : List Nat := head9 fs body ++ digN 3 (totN fs body) ++ digN 4 (totN fs body * 65521 + sg) ++ body
theorem slice_map (ws : List Nat) : ∀ (n a : Nat), a + n ≤ ws.length → (ws.drop a).take n = (List.range' a n).map fun i => ws.getD i 0
  | 0, a, _ => by
    rw [List.take_zero]
    rfl
  | n + 1, a, h => by
    rw [List.drop_eq_getElem_cons (show a < ws.length by omega), List.take_succ_cons, slice_map ws n (a + 1) (by omega), List.range'_succ, List.map_cons, List.getD_eq_getElem?_getD, List.getElem?_eq_getElem (show a < ws.length by omega)]
    rfl
theorem cutV_mid {xs : List V} {a b : Nat} (hb : b ≤ xs.length) : cutV xs (some (a : Int)) (some (b : Int)) = (xs.drop a).take (b - a) := by
  show (xs.drop (HT.sIx xs.length 0 (some (a : Int)))).take (HT.sIx xs.length xs.length (some (b : Int)) - HT.sIx xs.length 0 (some (a : Int))) = _
  have e1 : HT.sIx xs.length xs.length (some (b : Int)) = b := by
    unfold HT.sIx
    simp only []
    rw [if_neg (by omega)]
    omega
  by_cases h : a ≤ xs.length
  · have e2 : HT.sIx xs.length 0 (some (a : Int)) = a := by
      unfold HT.sIx
      simp only []
      rw [if_neg (by omega)]
      omega
    rw [e1, e2]
  · have e2 : HT.sIx xs.length 0 (some (a : Int)) = xs.length := by
      unfold HT.sIx
      simp only []
      rw [if_neg (by omega)]
      omega
    rw [e1, e2, List.drop_length, List.drop_eq_nil_of_le (by omega), List.take_nil, List.take_nil]
theorem cut_ints (ws : List Nat) (a n : Nat) (h : a + n ≤ ws.length) : cutV (intV ws) (some (a : Int)) (some ((a + n : Nat) : Int)) = intV ((List.range' a n).map fun i => ws.getD i 0) := by
  rw [cutV_mid (by rw [intV_len]; omega), ← slice_map ws n a h, show a + n - a = n by omega]
  unfold intV
  rw [List.map_take, List.map_drop]
def spSum (K : PySem.W.Frag) : Sp := fun vs H Q _ => ∃ (a l : Addr) (ws lf : List Nat), vs = [.ref a, .ref l] ∧ SqL K H a (intV ws) ∧ SqT K H l (intV lf) ∧ (∀ w ∈ ws, w ≤ 65535) ∧ ws.length ≤ 100000 ∧ Q (.int ((chkW lf ws : Nat) : Int)) H
def spDigits : Sp := fun vs H Q _ => ∃ n c : Nat, vs = [.int (n : Int), .int (c : Int)] ∧ c ≤ 4 ∧ ∀ H' l, Same H H' → H l = none → H' l = some (.lst (intV (digN c n))) → Q (.ref l) H'
def spNumber (K : PySem.W.Frag) : Sp := fun vs H Q _ => ∃ (a : Addr) (ws : List Nat), vs = [.ref a] ∧ SqL K H a (intV ws) ∧ ws.length ≤ 1000 ∧ Q (.int ((valN ws : Nat) : Int)) H
def spHeaded : Sp := fun vs H Q _ => ∃ (fa ba : Addr) (fs body : List Nat) (sg : Nat), vs = [.ref fa, .int (sg : Int), .ref ba] ∧ H fa = some (.lst (intV fs)) ∧ fs.length = 6 ∧ H ba = some (.lst (intV body)) ∧ body.length ≤ 1008 ∧ (∀ w ∈ fs, w ≤ 65535) ∧ (∀ w ∈ body, w ≤ 65535) ∧ ∀ H' l, Same H H' → H l = none → H' l = some (.lst (intV (headN fs sg body))) → Q (.ref l) H'
def spFlaw (K : PySem.W.Frag) : Sp := fun vs H Q _ => ∃ (a : Addr) (ws : List Nat), vs = [.ref a] ∧ SqL K H a (intV ws) ∧ (∀ w ∈ ws, w ≤ 65535) ∧ ws.length ≤ 100000 ∧ ∀ H', Same H H' → Q (flawV ws) H'
def spDue (K : PySem.W.Frag) : Sp := fun vs H Q _ => ∃ (a : Addr) (ws : List Nat) (m s h : Int), vs = [.ref a, .int m, .int s, .int h] ∧ SqL K H a (intV ws) ∧ (∀ w ∈ ws, w ≤ 65535) ∧ ws.length ≤ 100000 ∧ ∀ H', Same H H' → Q (dueV ws m s h) H'
section
variable {P : Program} {w : World} {K : PySem.W.Frag} {mg : Str → Option Value} {base : Heap} {A : Ads}
theorem ok_law_word (T : Txt K mg A) : FnOk P w K mg base CX0 3 A.a_law_word A.d_law_word ["_law_source_here"] spWord := by
  refine T.F_law_word.ok sc_law_word (fun vs H Q E h => ?_) (fun cdv B outer s H vs Q E hr h => ?_)
  · obtain ⟨c, p, rfl, _⟩ := h
    rfl
  · obtain ⟨c, p, rfl, hs, q⟩ := h
    refine ⟨_, (pss_cons (ps_set (i := 1) sc_law_word.nd rfl (.inl rfl) (pe_call (ok_law_draw T) (hr.mono (by omega)) rfl T.g_law_draw T.F_law_draw.kp T.b_law_draw .nil pass0 (pa_cons (pv 0) (pa_cons pe_int pa_nil))))
    (pss_cons (ps_if (pt_cmpR op_lt (pv 1) pe_int (nomark _)) (pss_one (ps_ret (pe_call (ok_law_draw T) (hr.mono (by omega)) rfl T.g_law_draw T.F_law_draw.kp T.b_law_draw .nil pass0 (pa_cons (pv 0) (pa_cons pe_int pa_nil))))) pss_nil)
    (pss_cons (ps_if (pt_cmpR op_eq (pv 1) pe_int (nomark _)) (pss_one (ps_ret (pe_call (ok_law_draw T) (hr.mono (by omega)) rfl T.g_law_draw T.F_law_draw.kp T.b_law_draw .nil pass0 (pa_cons (pv 0) (pa_cons pe_int pa_nil))))) pss_nil)
    (pss_one (ps_ret (pe_op op_sub pe_int (pe_call (ok_law_draw T) (hr.mono (by omega)) rfl T.g_law_draw T.F_law_draw.kp T.b_law_draw .nil pass0 (pa_cons (pv 0) (pa_cons pe_int pa_nil))))))))), ?_⟩
    walk_at "s"
    refine ⟨c, p, 4, rfl, hs, by decide, by decide, fun H1 way lw hs1 b1 => ?_⟩
    walk_at "s"
    refine ite2 (fun e => ?_) (fun e => ?_)
    · walk_at "s"
      exact ⟨c, p, 10, rfl, hs1, by decide, by decide, fun H2 r l2 hs2 b2 => q _ r (by omega) hs2 (b1.trans b2)⟩
    walk_at "s"
    refine ite2 (fun e => ?_) (fun e => ?_)
    · walk_at "s"
      exact ⟨c, p, 65536, rfl, hs1, by decide, by decide, fun H2 r l2 hs2 b2 => q _ r (by omega) hs2 (b1.trans b2)⟩
    walk_at "s"
    refine ⟨c, p, 3, rfl, hs1, by decide, by decide, fun H2 r l2 hs2 b2 => ?_⟩
    have := q _ (65535 - r) (by omega) hs2 (b1.trans b2)
    rw [show ((65535 - r : Nat) : Int) = 65535 - (r : Int) by omega] at this
    exact ⟨_, _, rfl, rfl, this⟩
theorem ok_law_sum (T : Txt K mg A) : FnOk P w K mg base CX0 1 A.a_law_sum A.d_law_sum ["_law_words", "_law_without"] (spSum K) := by
  refine T.F_law_sum.ok sc_law_sum (fun vs H Q E h => ?_) (fun cdv B outer s H vs Q E hr h => ?_)
  · obtain ⟨a, l, ws, lf, rfl, _⟩ := h
    rfl
  · obtain ⟨a, l, ws, lf, rfl, ha, hlf, hw, hl, q⟩ := h
    refine ⟨_, (pss_cons (ps_set (i := 2) sc_law_sum.nd rfl (.inl rfl) pe_int)
    (pss_cons (ps_for PassesOwn.never rfl (pi_range1 (by rfl) T.n_range (pa_cons (pe_callB len_seq (by rfl) T.n_len (by decide +kernel) (pa_cons (pv 0) pa_nil)) pa_nil)) (pg_name (i := 3) sc_law_sum.nd rfl (.inl rfl))
      (pss_one (ps_if (pt_cmpR op_notIn_seq (pv 3) (pv 1) (by rfl)) (pss_one (ps_set (i := 2) sc_law_sum.nd rfl (.inl rfl) (pe_op op_add (pv 2) (pe_op op_mul (pe_op op_add (pv 3) pe_int) (pe_op op_sub pe_int (pe_ix ix_list (pv 0) (pv 3) (fun _ _ => rfl))))))) pss_nil)))
    (pss_one (ps_ret (pv 2))))), ?_⟩
    have hil := intV_len ws
    refine ⟨_, rfl, a, _, rfl, .inl ha, _, rfl, by omega, by omega, ?_⟩
    rw [Int.toNat_natCast, hil]
    refine for_it (walk_range (lo := 0) (n := ws.length)) (fun i σ Hc => ∃ o3, σ = [some (.ref a), some (.ref l), some (.int ((chkP lf ws i : Nat) : Int)), o3] ∧ Hc = H) ⟨_, rfl, rfl⟩ (fun _ _ _ _ _ => trivial) (fun i x σ Hc Hd hi y e => ?_) (fun σ Hc y => ?_)
    · obtain ⟨rfl, rfl⟩ := e
      obtain ⟨o3, rfl, rfl⟩ := y
      have hi0 : (0 : Int) + (i : Int) = ((i : Nat) : Int) := by omega
      have hwi : ws.getD i 0 ≤ 65535 := by
        rw [List.getD_eq_getElem?_getD, List.getElem?_eq_getElem hi]
        exact hw _ (List.getElem_mem hi)
      rw [chkP_succ]
      refine ⟨_, rfl, _, rfl, l, _, rfl, .inr hlf, rfl, flat_ints lf, _, rfl, ?_⟩
      have hin : (if true = true then !inV (V.int (0 + (i : Int))) (intV lf) else inV (V.int (0 + (i : Int))) (intV lf)) = !lf.contains i := by rw [if_pos rfl, hi0, inV_ints]
      cases hc : lf.contains i with
      | true =>
        rw [hc] at hin
        rw [if_pos rfl]
        exact ifF hin ⟨_, rfl, rfl⟩
      | false =>
        rw [hc] at hin
        rw [if_neg Bool.false_ne_true]
        refine ifT hin ?_
        refine ⟨_, rfl, _, rfl, _, _, rfl, rfl, _, rfl, _, rfl, a, _, _, _, rfl, rfl, ha, by rw [hi0]; exact atI_nat (intV_at hi), _, _, rfl, rfl, _, _, rfl, rfl, .inl ⟨by omega, by omega⟩, _, _, rfl, rfl, ?_⟩
        refine ⟨_, congrArg (fun z => [some (V.ref a), some (V.ref l), some (V.int z), _]) (?_ : ((chkP lf ws i : Nat) : Int) + (0 + (i : Int) + 1) * (65535 - ((ws.getD i 0 : Nat) : Int)) = ((chkP lf ws i + (i + 1) * (65535 - ws.getD i 0) : Nat) : Int)), rfl⟩
        rw [Int.natCast_add, Int.natCast_mul]
        congr 2
        · omega
        · omega
    · obtain ⟨o3, rfl, rfl⟩ := y
      exact ⟨_, rfl, q⟩
theorem ok_law_digits (T : Txt K mg A) : FnOk P w K mg base CX0 1 A.a_law_digits A.d_law_digits ["_law_number_here", "_law_count"] spDigits := by
  refine T.F_law_digits.ok sc_law_digits (fun vs H Q E h => ?_) (fun cdv B outer s H vs Q E hr h => ?_)
  · obtain ⟨n, c, rfl, _⟩ := h
    rfl
  · obtain ⟨n, c, rfl, hc, q⟩ := h
    refine ⟨_, (pss_cons (ps_set (i := 2) sc_law_digits.nd rfl (.inl rfl) (pe_lst pa_nil))
    (pss_cons (ps_for PassesOwn.never rfl (pi_range1 (by rfl) T.n_range (pa_cons (pv 1) pa_nil)) (pg_name (i := 3) sc_law_digits.nd rfl (.inl rfl))
      (pss_cons (ps_set (i := 2) sc_law_digits.nd rfl (.inl rfl) (pe_op op_cat (pe_lst (pa_cons (pe_op op_mod (pe_callTy call_int1 (by rfl) T.n_int (by decide +kernel) (pa_cons (pv 0) pa_nil)) pe_int) pa_nil)) (pv 2)))
    (pss_one (ps_set (i := 0) sc_law_digits.nd rfl (.inl rfl) (pe_op op_fdiv (pv 0) pe_int)))))
    (pss_one (ps_ret (pv 2))))), ?_⟩
    refine ⟨lenOk (n := 0) rfl (by decide), fun D hD => ?_⟩
    have e1 : upd H D (.lst []) D = some (.lst (intV (digN 0 n))) := upd_same
    have s1 := same_new (o := .lst []) hD
    generalize upd H D (.lst []) = H1 at e1 s1 ⊢
    refine ⟨_, rfl, (c : Int), rfl, by omega, by omega, ?_⟩
    rw [Int.toNat_natCast]
    refine for_it (walk_range (lo := 0) (n := c)) (fun i σ Hc => ∃ o3 l, σ = [some (.int ((n / 65536 ^ i : Nat) : Int)), some (.int (c : Int)), some (.ref l), o3] ∧ Same H Hc ∧ H l = none ∧ Hc l = some (.lst (intV (digN i n)))) ⟨_, D, by rw [Nat.pow_zero, Nat.div_one]; rfl, s1, hD, e1⟩ (fun _ _ _ _ _ => trivial) (fun i x σ Hc Hd hi y e => ?_) (fun σ Hc y => ?_)
    · obtain ⟨rfl, rfl⟩ := e
      obtain ⟨o3, l, rfl, sm, nl, el⟩ := y
      refine ⟨_, rfl, .inl ⟨_, rfl, _, _, rfl, rfl, (by show (0 : Int) < 65536; decide), lenOk (n := 1) rfl (by decide), fun l1 h1 => ?_⟩⟩
      refine ⟨_, rfl, l1, l, _, _, rfl, rfl, upd_same, (same_new h1) _ _ el, Nat.le_trans (show _ ≤ 1000 by rw [intV_len, digN_len]; show 1 + _ ≤ _; omega) (by decide), fun l2 h2 => ?_⟩
      have s2 := (same_new (o := .lst [V.int (((n / 65536 ^ i : Nat) : Int) % 65536)]) h1).trans (same_new (o := .lst ([V.int (((n / 65536 ^ i : Nat) : Int) % 65536)] ++ intV (digN i n))) h2)
      have e2 : upd (upd Hd l1 (.lst [V.int (((n / 65536 ^ i : Nat) : Int) % 65536)])) l2 (.lst ([V.int (((n / 65536 ^ i : Nat) : Int) % 65536)] ++ intV (digN i n))) l2 = some (.lst (intV (digN (i + 1) n))) := by
        rw [upd_same, digN_front, show (((n / 65536 ^ i : Nat) : Int) % 65536) = ((n / 65536 ^ i % 65536 : Nat) : Int) by omega]
        rfl
      refine ⟨_, rfl, _, _, rfl, rfl, ⟨by decide, by decide⟩, ?_⟩
      refine ⟨_, l2, congrArg (fun z => [some (V.int z), some (V.int (c : Int)), some (V.ref l2), _]) (show ((n / 65536 ^ i : Nat) : Int) / 65536 = ((n / 65536 ^ (i + 1) : Nat) : Int) by rw [Nat.pow_succ, ← Nat.div_div_eq_div_mul]; omega), sm.trans s2, (sm.trans (same_new h1)).free h2, e2⟩
    · obtain ⟨o3, l, rfl, sm, nl, el⟩ := y
      exact ⟨_, rfl, q _ l sm nl el⟩
theorem ok_law_number (T : Txt K mg A) : FnOk P w K mg base CX0 1 A.a_law_number A.d_law_number ["_law_words"] (spNumber K) := by
  refine T.F_law_number.ok sc_law_number (fun vs H Q E h => ?_) (fun cdv B outer s H vs Q E hr h => ?_)
  · obtain ⟨a, ws, rfl, _⟩ := h
    rfl
  · obtain ⟨a, ws, rfl, ha, hl, q⟩ := h
    refine ⟨_, (pss_cons (ps_set (i := 1) sc_law_number.nd rfl (.inl rfl) pe_int)
    (pss_cons (ps_for PassesOwn.never rfl (pi_list (pv 0)) (pg_name (i := 2) sc_law_number.nd rfl (.inl rfl))
      (pss_one (ps_set (i := 1) sc_law_number.nd rfl (.inl rfl) (pe_op op_add (pe_op op_mul (pv 1) pe_int) (pv 2)))))
    (pss_one (ps_ret (pv 1))))), ?_⟩
    have hil := intV_len ws
    refine ⟨_, rfl, a, rfl, ⟨_, ha⟩, ?_⟩
    refine for_it (walk_list (K := K) (a := a) (xs := intV ws)) (fun i σ Hc => ∃ o2, σ = [some (.ref a), some (.int ((valN (ws.take i) : Nat) : Int)), o2] ∧ Hc = H) ⟨_, rfl, rfl⟩ (fun i σ Hc _ y => ?_) (fun i x σ Hc Hd hi y e => ?_) (fun σ Hc y => ?_)
    · obtain ⟨_, _, rfl⟩ := y
      exact ha
    · obtain ⟨rfl, e⟩ := e
      obtain ⟨o2, rfl, rfl⟩ := y
      rw [hil] at hi
      rw [intV_at hi] at e
      cases e
      have htk : ws.take (i + 1) = ws.take i ++ [ws.getD i 0] := by
        rw [List.take_add_one, List.getElem?_eq_getElem hi, List.getD_eq_getElem?_getD, List.getElem?_eq_getElem hi]
        rfl
      rw [htk, valN_snoc]
      generalize valN (ws.take i) = n
      refine ⟨_, rfl, _, _, rfl, rfl, .inr ⟨by decide, by decide⟩, _, rfl, _, _, rfl, rfl, ?_⟩
      exact ⟨_, congrArg (fun z => [some (V.ref a), some (V.int z), _]) (show (n : Int) * 65536 + ((ws.getD i 0 : Nat) : Int) = ((n * 65536 + ws.getD i 0 : Nat) : Int) by omega), rfl⟩
    · obtain ⟨o2, rfl, rfl⟩ := y
      rw [hil, List.take_length]
      exact ⟨_, rfl, q⟩
end
end R1

namespace R1
open PySem PySem.Spec PyProof.Rows L2 RK
local macro_rules | `(tactic| walk_at "sq") => `(tactic| first
  | exact SqL.of upd_same | exact upd_same | exact SqL.of (by assumption) | exact SqL.of (by rw [upd_ne (by assumption)]; assumption) | assumption)
local macro_rules | `(tactic| walk_at "sd") => `(tactic| first
  | assumption | omega | (refine Or.inl ⟨?_, ?_⟩ <;> omega) | (show _ ∧ _; constructor <;> omega) | (show _ ≠ _; simp; omega) | (exact Or.inl ⟨by decide, by decide⟩) | (exact Or.inr ⟨by decide, by decide⟩) | (show _ < _; decide) | (show _ ≤ _; decide))
local macro_rules | `(tactic| walk_at "at") => `(tactic| first | rfl | (refine atI_intV ?_ ?_ <;> omega) | assumption)
local macro_rules | `(tactic| walk_at "s1") => `(tactic| first
  | refine ⟨_, rfl, ?_⟩ | refine ⟨_, _, rfl, rfl, ?_⟩ | refine ⟨rfl, ?_⟩
  | refine ⟨_, _, _, _, rfl, rfl, by walk_at "sq", by walk_at "at", ?_⟩
  | refine Or.inl ⟨_, rfl, ?_⟩
  | refine ⟨_, _, rfl, Or.inl (by walk_at "sq"), ?_⟩
  | refine And.intro (by walk_at "sd") ?_)
local macro_rules | `(tactic| walk_at "s") => `(tactic| repeat walk_at "s1")

theorem tot_le {fs body : List Nat} (hb : body.length ≤ 1008) : ∀ {ws : List Nat}, ws.length ≤ 1024 → chkW LF ws ≤ 200000000000 := fun {ws} hl => by
  have : ∀ n, chkP LF ws n ≤ n * (1024 * 65535 + 65535 * n) := fun n => by
    induction n with
    | zero => exact Nat.le_refl 0
    | succ n ih =>
      rw [chkP_succ]
      have h1 : (if (LF.contains n) = true then 0 else (n + 1) * (65535 - ws.getD n 0)) ≤ (n + 1) * 65535 := by
        split
        · exact Nat.zero_le _
        · exact Nat.mul_le_mul_left _ (by omega)
      have h2 : (n + 1) * (1024 * 65535 + 65535 * (n + 1)) = n * (1024 * 65535 + 65535 * n) + n * 65535 + (1024 * 65535 + 65535 * (n + 1)) := by
        rw [Nat.succ_mul, Nat.mul_add n (1024 * 65535) (65535 * (n + 1)), Nat.mul_add n (1024 * 65535) (65535 * n), Nat.mul_succ 65535 n, Nat.mul_add n (65535 * n) 65535]
        omega
      omega
  rw [← chkP_len]
  have h := this ws.length
  have h3 : ws.length * (1024 * 65535 + 65535 * ws.length) ≤ 1024 * (1024 * 65535 + 65535 * 1024) := Nat.mul_le_mul hl (by omega)
  omega
section
variable {P : Program} {w : World} {K : PySem.W.Frag} {mg : Str → Option Value} {base : Heap} {A : Ads}
theorem ok_law_headed (T : Txt K mg A) : FnOk P w K mg base CX0 2 A.a_law_headed A.d_law_headed ["_law_facts", "_law_sign", "_law_body_here"] spHeaded := by
  refine T.F_law_headed.ok sc_law_headed (fun vs H Q E h => ?_) (fun cdv B outer s H vs Q E hr h => ?_)
  · obtain ⟨fa, ba, fs, body, sg, rfl, _⟩ := h
    rfl
  · obtain ⟨fa, ba, fs, body, sg, rfl, hf, hfl, hb, hbl, hfw, hbw, q⟩ := h
    refine ⟨_, (pss_cons (ps_set (i := 3) sc_law_headed.nd rfl (.inl rfl) (pe_lst (pa_cons pe_int (pa_cons (pe_ix ix_list (pv 0) pe_int (fun _ _ => rfl)) (pa_cons (pe_ix ix_list (pv 0) pe_int (fun _ _ => rfl)) (pa_cons (pe_ix ix_list (pv 0) pe_int (fun _ _ => rfl)) (pa_cons pe_int (pa_cons (pe_ix ix_list (pv 0) pe_int (fun _ _ => rfl)) (pa_cons (pe_op op_add pe_int (pe_callB len_seq (by rfl) T.n_len (by decide +kernel) (pa_cons (pv 2) pa_nil))) (pa_cons (pe_ix ix_list (pv 0) pe_int (fun _ _ => rfl)) (pa_cons (pe_ix ix_list (pv 0) pe_int (fun _ _ => rfl)) pa_nil)))))))))))
    (pss_cons (ps_set (i := 4) sc_law_headed.nd rfl (.inl rfl) (pe_call (ok_law_sum T) (hr.mono (by omega)) rfl T.g_law_sum T.F_law_sum.kp T.b_law_sum .nil pass0 (pa_cons (pe_op op_cat (pe_op op_cat (pv 3) (pe_lst (pa_cons pe_int (pa_cons pe_int (pa_cons pe_int (pa_cons pe_int (pa_cons pe_int (pa_cons pe_int (pa_cons pe_int pa_nil))))))))) (pv 2)) (pa_cons (pe_tup (pa_cons pe_int (pa_cons pe_int (pa_cons pe_int (pa_cons pe_int (pa_cons pe_int (pa_cons pe_int (pa_cons pe_int pa_nil)))))))) pa_nil))))
    (pss_one (ps_ret (pe_op op_cat (pe_op op_cat (pe_op op_cat (pv 3) (pe_call (ok_law_digits T) (hr.mono (by omega)) rfl T.g_law_digits T.F_law_digits.kp T.b_law_digits .nil pass0 (pa_cons (pv 4) (pa_cons pe_int pa_nil)))) (pe_call (ok_law_digits T) (hr.mono (by omega)) rfl T.g_law_digits T.F_law_digits.kp T.b_law_digits .nil pass0 (pa_cons (pe_op op_add (pe_op op_mul (pv 4) pe_int) (pv 1)) (pa_cons pe_int pa_nil)))) (pv 2)))))), ?_⟩
    have hfi : ∀ i, i < 6 → (intV fs)[i]? = some (.int ((fs.getD i 0 : Nat) : Int)) := fun i h => intV_at (by omega)
    have sf := SqL.of (K := K) hf
    refine ⟨_, rfl, fa, _, 0, _, rfl, rfl, sf, atI_nat (hfi 0 (by decide)), _, rfl, fa, _, 1, _, rfl, rfl, sf, atI_nat (hfi 1 (by decide)), _, rfl, fa, _, 2, _, rfl, rfl, sf, atI_nat (hfi 2 (by decide)), _, rfl, fa, _, 3, _, rfl, rfl, sf, atI_nat (hfi 3 (by decide)), _, rfl, ba, _, rfl, .inl (SqL.of hb), _, _, rfl, rfl, _, rfl, fa, _, 4, _, rfl, rfl, sf, atI_nat (hfi 4 (by decide)), _, rfl, fa, _, 5, _, rfl, rfl, sf, atI_nat (hfi 5 (by decide)), lenOk (n := 9) rfl (by decide), fun l1 h1 => ?_⟩
    rw [intV_len]
    have e1 : upd H l1 (.lst [V.int 1, V.int ((fs.getD 0 0 : Nat) : Int), V.int ((fs.getD 1 0 : Nat) : Int), V.int ((fs.getD 2 0 : Nat) : Int), V.int 0, V.int ((fs.getD 3 0 : Nat) : Int), V.int (16 + (body.length : Int)), V.int ((fs.getD 4 0 : Nat) : Int), V.int ((fs.getD 5 0 : Nat) : Int)]) l1 = some (.lst (intV (head9 fs body))) := by
      rw [upd_same, show (16 : Int) + (body.length : Int) = ((16 + body.length : Nat) : Int) by omega]
      rfl
    have s1 := same_new (o := .lst [V.int 1, V.int ((fs.getD 0 0 : Nat) : Int), V.int ((fs.getD 1 0 : Nat) : Int), V.int ((fs.getD 2 0 : Nat) : Int), V.int 0, V.int ((fs.getD 3 0 : Nat) : Int), V.int (16 + (body.length : Int)), V.int ((fs.getD 4 0 : Nat) : Int), V.int ((fs.getD 5 0 : Nat) : Int)]) h1
    generalize upd H l1 _ = H1 at e1 s1 ⊢
    have h9l : (head9 fs body).length = 9 := rfl
    have lim : ∀ {n : Nat}, n ≤ 100000 → n ≤ sizeLine := fun h => Nat.le_trans h (by decide)
    refine ⟨_, rfl, lenOk (n := 7) rfl (by decide), fun l2 h2 => ?_⟩
    have e2 : upd H1 l2 (.lst [V.int 0, V.int 0, V.int 0, V.int 0, V.int 0, V.int 0, V.int 0]) l2 = some (.lst (intV [0, 0, 0, 0, 0, 0, 0])) := upd_same
    have s2 := same_new (o := .lst [V.int 0, V.int 0, V.int 0, V.int 0, V.int 0, V.int 0, V.int 0]) h2
    generalize upd H1 l2 (.lst [V.int 0, V.int 0, V.int 0, V.int 0, V.int 0, V.int 0, V.int 0]) = H2 at e2 s2 ⊢
    refine ⟨l1, l2, _, _, rfl, rfl, s2 _ _ e1, e2, lim (by rw [intV_len, intV_len, h9l]; decide), fun l3 h3 => ?_⟩
    have e3 : upd H2 l3 (.lst (intV (head9 fs body) ++ intV [0, 0, 0, 0, 0, 0, 0])) l3 = some (.lst (intV (head9 fs body ++ [0, 0, 0, 0, 0, 0, 0]))) := by rw [upd_same, intV_app]
    have s3 := same_new (o := .lst (intV (head9 fs body) ++ intV [0, 0, 0, 0, 0, 0, 0])) h3
    generalize upd H2 l3 (.lst (intV (head9 fs body) ++ intV [0, 0, 0, 0, 0, 0, 0])) = H3 at e3 s3 ⊢
    have s03 := s1.trans (s2.trans s3)
    refine ⟨_, rfl, l3, ba, _, _, rfl, rfl, e3, s03 _ _ hb, lim (by rw [intV_len, intV_len]; show 16 + _ ≤ _; omega), fun l4 h4 => ?_⟩
    have e4 : upd H3 l4 (.lst (intV (head9 fs body ++ [0, 0, 0, 0, 0, 0, 0]) ++ intV body)) l4 = some (.lst (intV (head9 fs body ++ [0, 0, 0, 0, 0, 0, 0] ++ body))) := by rw [upd_same, intV_app (head9 fs body ++ _)]
    have s4 := same_new (o := .lst (intV (head9 fs body ++ [0, 0, 0, 0, 0, 0, 0]) ++ intV body)) h4
    generalize upd H3 l4 (.lst (intV (head9 fs body ++ [0, 0, 0, 0, 0, 0, 0]) ++ intV body)) = H4 at e4 s4 ⊢
    refine ⟨lenOk (n := 7) rfl (by decide), fun t1 ht1 => ?_⟩
    have et : upd H4 t1 (.tup [V.int 9, V.int 10, V.int 11, V.int 12, V.int 13, V.int 14, V.int 15]) t1 = some (.tup (intV LF)) := upd_same
    have s5 := same_new (o := .tup [V.int 9, V.int 10, V.int 11, V.int 12, V.int 13, V.int 14, V.int 15]) ht1
    generalize upd H4 t1 (.tup [V.int 9, V.int 10, V.int 11, V.int 12, V.int 13, V.int 14, V.int 15]) = H5 at et s5 ⊢
    have hfg : ∀ i, fs.getD i 0 ≤ 65535 := fun i => by
      rw [List.getD_eq_getElem?_getD]
      cases h : fs[i]? with
      | none => exact Nat.zero_le _
      | some z => exact hfw _ (List.mem_of_getElem? h)
    have hzw : ∀ w ∈ head9 fs body ++ [0, 0, 0, 0, 0, 0, 0] ++ body, w ≤ 65535 := fun w hw => by
      rcases List.mem_append.mp hw with hw | hw
      · have a0 := hfg 0
        have a1 := hfg 1
        have a2 := hfg 2
        have a3 := hfg 3
        have a4 := hfg 4
        have a5 := hfg 5
        have : w = 1 ∨ w = fs.getD 0 0 ∨ w = fs.getD 1 0 ∨ w = fs.getD 2 0 ∨ w = 0 ∨ w = fs.getD 3 0 ∨ w = 16 + body.length ∨ w = fs.getD 4 0 ∨ w = fs.getD 5 0 := by
          rcases List.mem_append.mp hw with z | z
          · simpa [head9] using z
          · have : w = 0 := by simpa using z
            omega
        omega
      · exact hbw w hw
    have hzl : (head9 fs body ++ [0, 0, 0, 0, 0, 0, 0] ++ body).length ≤ 1024 := by
      rw [List.length_append]
      show 16 + _ ≤ _
      omega
    refine ⟨l4, t1, _, LF, rfl, SqL.of (s5 _ _ e4), SqT.of et, hzw, by omega, ?_⟩
    have htot : totN fs body ≤ 200000000000 := tot_le (fs := fs) hbl hzl
    generalize hT : chkW LF (head9 fs body ++ [0, 0, 0, 0, 0, 0, 0] ++ body) = T
    have hT2 : totN fs body = T := hT
    have s15 := s2.trans (s3.trans (s4.trans s5))
    refine ⟨_, rfl, _, rfl, T, 3, rfl, by decide, fun H6 l6 s6 n6 e6 => ?_⟩
    refine ⟨l1, l6, _, _, rfl, rfl, (s15.trans s6) _ _ e1, e6, lim (by rw [intV_len, intV_len, h9l, digN_len]; decide), fun l7 h7 => ?_⟩
    have e7 : upd H6 l7 (.lst (intV (head9 fs body) ++ intV (digN 3 T))) l7 = some (.lst (intV (head9 fs body ++ digN 3 T))) := by rw [upd_same, intV_app]
    have s7 := same_new (o := .lst (intV (head9 fs body) ++ intV (digN 3 T))) h7
    generalize upd H6 l7 (.lst (intV (head9 fs body) ++ intV (digN 3 T))) = H7 at e7 s7 ⊢
    refine ⟨_, rfl, _, _, rfl, rfl, .inr ⟨by decide, by decide⟩, _, rfl, _, _, rfl, rfl, T * 65521 + sg, 4, congrArg (fun z => [V.int z, V.int 4]) (show (T : Int) * 65521 + (sg : Int) = ((T * 65521 + sg : Nat) : Int) by omega), by decide, fun H8 l8 s8 n8 e8 => ?_⟩
    refine ⟨l7, l8, _, _, rfl, rfl, s8 _ _ e7, e8, lim (by rw [intV_len, intV_len, List.length_append, h9l, digN_len, digN_len]; decide), fun l9 h9 => ?_⟩
    have e9 : upd H8 l9 (.lst (intV (head9 fs body ++ digN 3 T) ++ intV (digN 4 (T * 65521 + sg)))) l9 = some (.lst (intV (head9 fs body ++ digN 3 T ++ digN 4 (T * 65521 + sg)))) := by rw [upd_same, intV_app (head9 fs body ++ digN 3 T)]
    have s9 := same_new (o := .lst (intV (head9 fs body ++ digN 3 T) ++ intV (digN 4 (T * 65521 + sg)))) h9
    generalize upd H8 l9 (.lst (intV (head9 fs body ++ digN 3 T) ++ intV (digN 4 (T * 65521 + sg)))) = H9 at e9 s9 ⊢
    have sall := s1.trans (s15.trans (s6.trans (s7.trans (s8.trans s9))))
    refine ⟨_, rfl, l9, ba, _, _, rfl, rfl, e9, sall _ _ hb, lim (by rw [intV_len, intV_len, List.length_append, List.length_append, h9l, digN_len, digN_len]; omega), fun l10 h10 => ?_⟩
    refine q _ l10 (sall.trans (same_new h10)) (sall.free h10) ?_
    rw [upd_same, ← intV_app]
    unfold headN
    rw [hT2]
end
end R1

namespace R1
open PySem PySem.Spec PyProof.Rows L2 RK
local macro_rules | `(tactic| walk_at "sq") => `(tactic| first
  | exact SqL.of upd_same | exact upd_same | exact SqL.of (by assumption) | exact SqL.of (by rw [upd_ne (by assumption)]; assumption) | assumption)
local macro_rules | `(tactic| walk_at "sd") => `(tactic| first
  | assumption | omega | (refine Or.inl ⟨?_, ?_⟩ <;> omega) | (show _ ∧ _; constructor <;> omega) | (show _ ≠ _; simp; omega) | (exact Or.inl ⟨by decide, by decide⟩) | (exact Or.inr ⟨by decide, by decide⟩) | (show _ < _; decide) | (show _ ≤ _; decide))
local macro_rules | `(tactic| walk_at "at") => `(tactic| first | rfl | (refine atI_intV ?_ ?_ <;> omega) | assumption)
local macro_rules | `(tactic| walk_at "s1") => `(tactic| first
  | refine ⟨_, rfl, ?_⟩ | refine ⟨_, _, rfl, rfl, ?_⟩ | refine ⟨rfl, ?_⟩
  | refine ⟨_, _, _, _, rfl, rfl, by walk_at "sq", by walk_at "at", ?_⟩
  | refine Or.inl ⟨_, rfl, ?_⟩
  | refine ⟨_, _, rfl, Or.inl (by walk_at "sq"), ?_⟩
  | refine And.intro (by walk_at "sd") ?_)
local macro_rules | `(tactic| walk_at "s") => `(tactic| repeat walk_at "s1")

def spBody : Sp := fun vs H Q _ => ∃ (c p : Addr), vs = [.ref p] ∧ Src c H p ∧ ∀ H' l (ws : List Nat), Src c H' p → But p H H' → H' l = some (.lst (intV ws)) → ws.length ≤ 1008 → (∀ w ∈ ws, w ≤ 65535) → Q (.ref l) H'
section
variable {P : Program} {w : World} {K : PySem.W.Frag} {mg : Str → Option Value} {base : Heap} {A : Ads}
theorem ok_law_flaw (T : Txt K mg A) : FnOk P w K mg base CX0 3 A.a_law_flaw A.d_law_flaw ["_law_words"] (spFlaw K) := by
  refine T.F_law_flaw.ok sc_law_flaw (fun vs H Q E h => ?_) (fun cdv B outer s H vs Q E hr h => ?_)
  · obtain ⟨a, ws, rfl, _⟩ := h
    rfl
  · obtain ⟨a, ws, rfl, ha, hw, hl, q⟩ := h
    refine ⟨_, (pss_cons (ps_if (PW.pt (pw_or (pt_cmpR op_lt (pe_callB len_seq (by rfl) T.n_len (by decide +kernel) (pa_cons (pv 0) pa_nil)) pe_int (nomark _)) (pw_or1 (pt_cmpR op_ne (pe_ix ix_list (pv 0) pe_int (fun _ _ => rfl)) pe_int (nomark _))))) (pss_one (ps_ret pe_str)) pss_nil)
    (pss_cons (ps_if (PW.pt (pw_or (pt_cmpR op_lt (pe_ix ix_list (pv 0) pe_int (fun _ _ => rfl)) pe_int (nomark _)) (pw_or (pt_cmpR op_gt (pe_ix ix_list (pv 0) pe_int (fun _ _ => rfl)) pe_int (nomark _)) (pw_or1 (pt_cmpR op_gt (pe_ix ix_list (pv 0) pe_int (fun _ _ => rfl)) (pe_callB len_seq (by rfl) T.n_len (by decide +kernel) (pa_cons (pv 0) pa_nil)) (nomark _)))))) (pss_one (ps_ret pe_str)) pss_nil)
    (pss_cons (ps_if (PW.pt (pw_or (pt_cmpR op_lt (pe_ix ix_list (pv 0) pe_int (fun _ _ => rfl)) pe_int (nomark _)) (pw_or1 (pt_cmpR op_gt (pe_ix ix_list (pv 0) pe_int (fun _ _ => rfl)) (pe_ix ix_list (pv 0) pe_int (fun _ _ => rfl)) (nomark _))))) (pss_one (ps_ret pe_str)) pss_nil)
    (pss_cons (ps_if (pt_cmpR op_ne (pe_call (ok_law_number T) (hr.mono (by omega)) rfl T.g_law_number T.F_law_number.kp T.b_law_number .nil pass0 (pa_cons (pe_slice sl_list (pv 0) (po_some pe_int) (po_some pe_int)) pa_nil)) (pe_call (ok_law_sum T) (hr.mono (by omega)) rfl T.g_law_sum T.F_law_sum.kp T.b_law_sum .nil pass0 (pa_cons (pe_slice sl_list (pv 0) po_none (po_some (pe_ix ix_list (pv 0) pe_int (fun _ _ => rfl)))) (pa_cons (pe_tup (pa_cons pe_int (pa_cons pe_int (pa_cons pe_int (pa_cons pe_int (pa_cons pe_int (pa_cons pe_int (pa_cons pe_int pa_nil)))))))) pa_nil))) (nomark _)) (pss_one (ps_ret pe_str)) pss_nil)
    (pss_one (ps_ret pe_non)))))), ?_⟩
    have hil := intV_len ws
    have fmt : flawV ws = vfmt → Q vfmt H := fun e => by
      have := q H (Same.refl _)
      rw [e] at this
      exact this
    refine ⟨_, rfl, a, _, rfl, .inl ha, _, _, rfl, rfl, _, rfl, ?_⟩
    rw [hil]
    refine ifB (fun e1 => ?_) (fun e1 => ?_)
    · have e1 := of_decide_eq_true e1
      exact fmt (by unfold flawV; rw [if_pos (.inl (by omega))])
    have e1 := of_decide_eq_false e1
    have i0 : ∀ i, i < 16 → (intV ws)[i]? = some (.int ((ws.getD i 0 : Nat) : Int)) := fun i h => intV_at (by omega)
    refine ⟨_, rfl, a, _, 0, _, rfl, rfl, ha, atI_nat (i0 0 (by decide)), rfl, _, rfl, ifB (fun e2 => ?_) (fun e2 => ?_)⟩
    · have hne : ws.getD 0 0 ≠ 1 := fun z => by
        rw [z] at e2
        exact absurd e2 (by decide)
      exact fmt (by unfold flawV; rw [if_pos (.inr hne)])
    have h0 : ws.getD 0 0 = 1 := Decidable.byContradiction fun z => by
      have : decide (V.int ((ws.getD 0 0 : Nat) : Int) = V.int 1) = false := decide_eq_false fun y => z (by have := V.int.inj y; omega)
      rw [this] at e2
      cases e2
    have bad : (ws.getD 6 0 < 16 ∨ 1024 < ws.getD 6 0 ∨ ws.length < ws.getD 6 0 ∨ ws.getD 8 0 < 16 ∨ ws.getD 6 0 < ws.getD 8 0) → Q vfmt H := fun h => fmt (by
      unfold flawV
      rw [if_neg (by omega), if_pos h])
    refine ⟨_, rfl, a, _, 6, _, rfl, rfl, ha, atI_nat (i0 6 (by decide)), _, _, rfl, rfl, _, rfl, ifB (fun e3 => ?_) (fun e3 => ?_)⟩
    · have e3 := of_decide_eq_true e3
      exact bad (by omega)
    have e3 := of_decide_eq_false e3
    refine ⟨_, rfl, a, _, 6, _, rfl, rfl, ha, atI_nat (i0 6 (by decide)), _, _, rfl, rfl, _, rfl, ifB (fun e4 => ?_) (fun e4 => ?_)⟩
    · have e4 := of_decide_eq_true e4
      exact bad (by omega)
    have e4 := of_decide_eq_false e4
    refine ⟨_, rfl, a, _, 6, _, rfl, rfl, ha, atI_nat (i0 6 (by decide)), _, rfl, a, _, rfl, .inl ha, _, _, rfl, rfl, _, rfl, ?_⟩
    rw [hil]
    refine ifB (fun e5 => ?_) (fun e5 => ?_)
    · have e5 := of_decide_eq_true e5
      exact bad (by omega)
    have e5 := of_decide_eq_false e5
    refine ⟨_, rfl, a, _, 8, _, rfl, rfl, ha, atI_nat (i0 8 (by decide)), _, _, rfl, rfl, _, rfl, ifB (fun e6 => ?_) (fun e6 => ?_)⟩
    · have e6 := of_decide_eq_true e6
      exact bad (by omega)
    have e6 := of_decide_eq_false e6
    refine ⟨_, rfl, a, _, 8, _, rfl, rfl, ha, atI_nat (i0 8 (by decide)), _, rfl, a, _, 6, _, rfl, rfl, ha, atI_nat (i0 6 (by decide)), _, _, rfl, rfl, _, rfl, ifB (fun e7 => ?_) (fun e7 => ?_)⟩
    · have e7 := of_decide_eq_true e7
      exact bad (by omega)
    have e7 := of_decide_eq_false e7
    have hfl : flawV ws = if chkW LF (ws.take (ws.getD 6 0)) = at3 ws then .non else vchk := by
      unfold flawV
      rw [if_neg (by omega), if_neg (by omega)]
    unfold tNoPart
    refine ⟨_, rfl, _, rfl, _, rfl, a, _, rfl, ha, fun l1 h1 => ?_⟩
    have e8 : upd H l1 (.lst (cutV (intV ws) (some 9) (some 12))) l1 = some (.lst (intV (P3.map fun i => ws.getD i 0))) := by
      rw [upd_same, show cutV (intV ws) (some 9) (some 12) = _ from cut_ints ws 9 3 (by omega)]
      rfl
    have s1 := same_new (o := .lst (cutV (intV ws) (some 9) (some 12))) h1
    generalize upd H l1 (.lst (cutV (intV ws) (some 9) (some 12))) = H1 at e8 s1 ⊢
    refine ⟨l1, _, rfl, SqL.of e8, by rw [List.length_map]; decide, ?_⟩
    have ha1 := sqL_up ha s1
    refine ⟨_, rfl, _, rfl, a, _, 6, _, rfl, rfl, ha1, atI_nat (i0 6 (by decide)), _, rfl, a, _, rfl, ha1, fun l2 h2 => ?_⟩
    have e9 : upd H1 l2 (.lst (cutV (intV ws) none (some ((ws.getD 6 0 : Nat) : Int)))) l2 = some (.lst (intV (ws.take (ws.getD 6 0)))) := by
      rw [upd_same, cutV_hi]
      unfold intV
      rw [List.map_take]
    have s2 := same_new (o := .lst (cutV (intV ws) none (some ((ws.getD 6 0 : Nat) : Int)))) h2
    generalize upd H1 l2 (.lst (cutV (intV ws) none (some ((ws.getD 6 0 : Nat) : Int)))) = H2 at e9 s2 ⊢
    refine ⟨lenOk (n := 7) rfl (by decide), fun t1 ht1 => ?_⟩
    have s3 := same_new (o := .tup [V.int 9, V.int 10, V.int 11, V.int 12, V.int 13, V.int 14, V.int 15]) ht1
    have et : upd H2 t1 (.tup [V.int 9, V.int 10, V.int 11, V.int 12, V.int 13, V.int 14, V.int 15]) t1 = some (.tup (intV LF)) := upd_same
    generalize upd H2 t1 (.tup [V.int 9, V.int 10, V.int 11, V.int 12, V.int 13, V.int 14, V.int 15]) = H3 at et s3 ⊢
    refine ⟨l2, t1, _, LF, rfl, SqL.of (s3 _ _ e9), SqT.of et, fun w h => hw w (List.mem_of_mem_take h), by rw [List.length_take]; omega, ?_⟩
    refine ⟨rfl, _, rfl, ?_⟩
    have := q _ (s1.trans (s2.trans s3))
    rw [hfl] at this
    refine ifB (fun ex => ?_) (fun ex => ?_)
    · rw [if_neg (fun z => by
        have : decide (V.int ((valN (P3.map fun i => ws.getD i 0) : Nat) : Int) = V.int ((chkW LF (ws.take (ws.getD 6 0)) : Nat) : Int)) = true := decide_eq_true (by rw [z]; rfl)
        rw [this] at ex
        cases ex)] at this
      exact this
    · have z : chkW LF (ws.take (ws.getD 6 0)) = at3 ws := Decidable.byContradiction fun z => by
        have : decide (V.int ((valN (P3.map fun i => ws.getD i 0) : Nat) : Int) = V.int ((chkW LF (ws.take (ws.getD 6 0)) : Nat) : Int)) = false := decide_eq_false fun y => z (by have := V.int.inj y; show _ = valN _; omega)
        rw [this] at ex
        cases ex
      rw [if_pos z] at this
      exact this
theorem ok_law_due (T : Txt K mg A) : FnOk P w K mg base CX0 4 A.a_law_due A.d_law_due ["_law_words", "_law_made", "_law_sign", "_law_base"] (spDue K) := by
  refine T.F_law_due.ok sc_law_due (fun vs H Q E h => ?_) (fun cdv B outer s H vs Q E hr h => ?_)
  · obtain ⟨a, ws, m, s, h, rfl, _⟩ := h
    rfl
  · obtain ⟨a, ws, m, sc, hm, rfl, ha, hw, hl, q⟩ := h
    refine ⟨_, (pss_cons (ps_set (i := 4) sc_law_due.nd rfl (.inl rfl) (pe_call (ok_law_flaw T) (hr.mono (by omega)) rfl T.g_law_flaw T.F_law_flaw.kp T.b_law_flaw .nil pass0 (pa_cons (pv 0) pa_nil)))
    (pss_cons (ps_if (pt_cmpR op_notN (pv 4) pe_non (nomark _)) (pss_one (ps_ret (pv 4))) pss_nil)
    (pss_cons (ps_if (pt_cmpR op_ne (pe_call (ok_law_number T) (hr.mono (by omega)) rfl T.g_law_number T.F_law_number.kp T.b_law_number .nil pass0 (pa_cons (pe_slice sl_list (pv 0) (po_some pe_int) (po_some pe_int)) pa_nil)) (pe_op op_add (pe_op op_mul (pe_call (ok_law_number T) (hr.mono (by omega)) rfl T.g_law_number T.F_law_number.kp T.b_law_number .nil pass0 (pa_cons (pe_slice sl_list (pv 0) (po_some pe_int) (po_some pe_int)) pa_nil)) pe_int) (pv 2)) (nomark _)) (pss_one (ps_ret pe_str)) pss_nil)
    (pss_cons (ps_if (pt_cmpR op_ne (pe_ix ix_list (pv 0) pe_int (fun _ _ => rfl)) (pv 1) (nomark _)) (pss_one (ps_ret pe_str)) pss_nil)
    (pss_cons (ps_if (pt_cmpR op_ne (pe_ix ix_list (pv 0) pe_int (fun _ _ => rfl)) (pv 3) (nomark _)) (pss_one (ps_ret pe_str)) pss_nil)
    (pss_one (ps_ret pe_non))))))), ?_⟩
    refine ⟨_, rfl, a, ws, rfl, ha, hw, hl, fun H1 s1 => ?_⟩
    have q1 := q
    unfold dueV at q1
    rcases flaw_cases ws with hf | hf | hf
    · rw [if_pos hf] at q1
      rw [hf]
      have h16 := flaw_len (ws := ws) (by rw [hf]; exact non_ne.1)
      have ha1 := sqL_up ha s1
      refine ⟨_, rfl, rfl, _, rfl, ifF (by rw [decide_eq_true rfl]; rfl) ?_⟩
      refine ⟨_, rfl, _, rfl, _, rfl, a, _, rfl, ha1, fun l1 h1 => ?_⟩
      have e8 : upd H1 l1 (.lst (cutV (intV ws) (some 12) (some 16))) l1 = some (.lst (intV (P4.map fun i => ws.getD i 0))) := by
        rw [upd_same, show cutV (intV ws) (some 12) (some 16) = _ from cut_ints ws 12 4 (by omega)]
        rfl
      have s2 := same_new (o := .lst (cutV (intV ws) (some 12) (some 16))) h1
      generalize upd H1 l1 (.lst (cutV (intV ws) (some 12) (some 16))) = H2 at e8 s2 ⊢
      refine ⟨l1, _, rfl, SqL.of e8, by rw [List.length_map]; decide, ?_⟩
      have ha2 := sqL_up ha1 s2
      refine ⟨_, rfl, _, rfl, _, rfl, a, _, rfl, ha2, fun l2 h2 => ?_⟩
      have e9 : upd H2 l2 (.lst (cutV (intV ws) (some 9) (some 12))) l2 = some (.lst (intV (P3.map fun i => ws.getD i 0))) := by
        rw [upd_same, show cutV (intV ws) (some 9) (some 12) = _ from cut_ints ws 9 3 (by omega)]
        rfl
      have s3 := same_new (o := .lst (cutV (intV ws) (some 9) (some 12))) h2
      generalize upd H2 l2 (.lst (cutV (intV ws) (some 9) (some 12))) = H3 at e9 s3 ⊢
      have ha3 := sqL_up ha2 s3
      have s13 := s1.trans (s2.trans s3)
      refine ⟨l2, _, rfl, SqL.of e9, by rw [List.length_map]; decide, _, _, rfl, rfl, .inr ⟨by decide, by decide⟩, _, rfl, _, _, rfl, rfl, rfl, _, rfl, ifB (fun e1 => ?_) (fun e1 => ?_)⟩
      · rw [if_neg (fun z => by
          have z2 : decide (V.int ((valN (P4.map fun i => ws.getD i 0) : Nat) : Int) = V.int (((valN (P3.map fun i => ws.getD i 0) : Nat) : Int) * 65521 + sc)) = true := decide_eq_true (congrArg V.int z)
          rw [z2] at e1
          cases e1)] at q1
        exact q1 _ s13
      · have z : (at4 ws : Int) = (at3 ws : Int) * 65521 + sc := Decidable.byContradiction fun z => by
          have z2 : decide (V.int ((valN (P4.map fun i => ws.getD i 0) : Nat) : Int) = V.int (((valN (P3.map fun i => ws.getD i 0) : Nat) : Int) * 65521 + sc)) = false := decide_eq_false fun y => z (V.int.inj y)
          rw [z2] at e1
          cases e1
        rw [if_pos z] at q1
        refine ⟨_, rfl, a, _, 1, _, rfl, rfl, ha3, atI_nat (intV_at (i := 1) (by omega)), _, rfl, rfl, _, rfl, ifB (fun e2 => ?_) (fun e2 => ?_)⟩
        · rw [if_neg (fun z => by
            have z2 : decide (V.int ((ws.getD 1 0 : Nat) : Int) = V.int m) = true := decide_eq_true (congrArg V.int z)
            rw [z2] at e2
            cases e2)] at q1
          exact q1 _ s13
        · have z3 : ((ws.getD 1 0 : Nat) : Int) = m := Decidable.byContradiction fun z => by
            have z2 : decide (V.int ((ws.getD 1 0 : Nat) : Int) = V.int m) = false := decide_eq_false fun y => z (V.int.inj y)
            rw [z2] at e2
            cases e2
          rw [if_pos z3] at q1
          refine ⟨_, rfl, a, _, 5, _, rfl, rfl, ha3, atI_nat (intV_at (i := 5) (by omega)), _, rfl, rfl, _, rfl, ifB (fun e3 => ?_) (fun e3 => ?_)⟩
          · rw [if_neg (fun z => by
              have z2 : decide (V.int ((ws.getD 5 0 : Nat) : Int) = V.int hm) = true := decide_eq_true (congrArg V.int z)
              rw [z2] at e3
              cases e3)] at q1
            exact q1 _ s13
          · have z4 : ((ws.getD 5 0 : Nat) : Int) = hm := Decidable.byContradiction fun z => by
              have z2 : decide (V.int ((ws.getD 5 0 : Nat) : Int) = V.int hm) = false := decide_eq_false fun y => z (V.int.inj y)
              rw [z2] at e3
              cases e3
            rw [if_pos z4] at q1
            exact q1 _ s13
    · rw [hf] at q1 ⊢
      rw [if_neg (fun z => non_ne.1 z.symm)] at q1
      exact ⟨_, rfl, rfl, _, rfl, ifT (by rw [decide_eq_false (fun z => nomatch z)]; rfl) ⟨_, rfl, q1 _ s1⟩⟩
    · rw [hf] at q1 ⊢
      rw [if_neg (fun z => non_ne.2 z.symm)] at q1
      exact ⟨_, rfl, rfl, _, rfl, ifT (by rw [decide_eq_false (fun z => nomatch z)]; rfl) ⟨_, rfl, q1 _ s1⟩⟩
theorem ok_law_end_word (T : Txt K mg A) : FnOk P w K mg base CX0 4 A.a_law_end_word A.d_law_end_word ["_law_source_here"] spWord := by
  refine T.F_law_end_word.ok sc_law_end_word (fun vs H Q E h => ?_) (fun cdv B outer s H vs Q E hr h => ?_)
  · obtain ⟨c, p, rfl, _⟩ := h
    rfl
  · obtain ⟨c, p, rfl, hs, q⟩ := h
    refine ⟨_, (pss_cons (ps_set (i := 1) sc_law_end_word.nd rfl (.inl rfl) (pe_call (ok_law_draw T) (hr.mono (by omega)) rfl T.g_law_draw T.F_law_draw.kp T.b_law_draw .nil pass0 (pa_cons (pv 0) (pa_cons pe_int pa_nil))))
    (pss_cons (ps_if (pt_cmpR op_eq (pv 1) pe_int (nomark _)) (pss_one (ps_ret pe_int)) pss_nil)
    (pss_cons (ps_if (pt_cmpR op_eq (pv 1) pe_int (nomark _)) (pss_one (ps_ret (pe_op op_sub pe_int (pe_call (ok_law_draw T) (hr.mono (by omega)) rfl T.g_law_draw T.F_law_draw.kp T.b_law_draw .nil pass0 (pa_cons (pv 0) (pa_cons pe_int pa_nil)))))) pss_nil)
    (pss_one (ps_ret (pe_call (ok_law_word T) (hr.mono (by omega)) rfl T.g_law_word T.F_law_word.kp T.b_law_word .nil pass0 (pa_cons (pv 0) pa_nil))))))), ?_⟩
    refine ⟨_, rfl, c, p, 3, rfl, hs, by decide, by decide, fun H1 way lw hs1 b1 => ?_⟩
    refine ⟨_, rfl, rfl, _, rfl, ifB (fun e => ?_) (fun e => ?_)⟩
    · exact q _ 65535 (by decide) hs1 b1
    refine ⟨_, rfl, rfl, _, rfl, ifB (fun e => ?_) (fun e => ?_)⟩
    · refine ⟨_, rfl, c, p, 4, rfl, hs1, by decide, by decide, fun H2 r l2 hs2 b2 => ?_⟩
      have := q _ (65535 - r) (by omega) hs2 (b1.trans b2)
      rw [show ((65535 - r : Nat) : Int) = 65535 - (r : Int) by omega] at this
      exact ⟨_, _, rfl, rfl, this⟩
    · exact ⟨_, rfl, c, p, rfl, hs1, fun H2 r l2 hs2 b2 => q _ r l2 hs2 (b1.trans b2)⟩
end
end R1

namespace R1
open PySem PySem.Spec PyProof.Rows L2 RK
local macro_rules | `(tactic| walk_at "sq") => `(tactic| first
  | exact SqL.of upd_same | exact upd_same | exact SqL.of (by assumption) | exact SqL.of (by rw [upd_ne (by assumption)]; assumption) | assumption)
local macro_rules | `(tactic| walk_at "sd") => `(tactic| first
  | assumption | omega | (refine Or.inl ⟨?_, ?_⟩ <;> omega) | (show _ ∧ _; constructor <;> omega) | (show _ ≠ _; simp; omega) | (exact Or.inl ⟨by decide, by decide⟩) | (exact Or.inr ⟨by decide, by decide⟩) | (show _ < _; decide) | (show _ ≤ _; decide))
local macro_rules | `(tactic| walk_at "at") => `(tactic| first | rfl | (refine atI_intV ?_ ?_ <;> omega) | assumption)
local macro_rules | `(tactic| walk_at "s1") => `(tactic| first
  | refine ⟨_, rfl, ?_⟩ | refine ⟨_, _, rfl, rfl, ?_⟩ | refine ⟨rfl, ?_⟩
  | refine ⟨_, _, _, _, rfl, rfl, by walk_at "sq", by walk_at "at", ?_⟩
  | refine Or.inl ⟨_, rfl, ?_⟩
  | refine ⟨_, _, rfl, Or.inl (by walk_at "sq"), ?_⟩
  | refine And.intro (by walk_at "sd") ?_)
local macro_rules | `(tactic| walk_at "s") => `(tactic| repeat walk_at "s1")

theorem src_bls {H : Hp} {c p D : Addr} {l : List Bool} (h : Src c H p) (e : H D = some (.lst (l.map V.bl))) : D ≠ p := fun z => by
  obtain ⟨cs, pl, dg, ct, mx, h1, _⟩ := h
  subst z
  rw [e] at h1
  have := HO.lst.inj (Option.some.inj h1)
  cases l with
  | nil => cases this
  | cons a r =>
    have := (List.cons.inj this).1
    cases this
def spPlaces : Sp := fun vs H Q _ => ∃ (c p : Addr) (cn : Nat), vs = [.ref p, .int (cn : Int)] ∧ Src c H p ∧ 16 ≤ cn ∧ cn ≤ 1024 ∧ ∀ H' l (bs : List Bool), Src c H' p → But p H H' → H' l = some (.lst (bs.map V.bl)) → bs.length = cn → Q (.ref l) H'
theorem lim {n : Nat} (h : n ≤ 100000) : n ≤ sizeLine := Nat.le_trans h (by decide)
section
variable {P : Program} {w : World} {K : PySem.W.Frag} {mg : Str → Option Value} {base : Heap} {A : Ads}
theorem ok_law_body (T : Txt K mg A) : FnOk P w K mg base CX0 5 A.a_law_body A.d_law_body ["_law_source_here"] spBody := by
  refine T.F_law_body.ok sc_law_body (fun vs H Q E h => ?_) (fun cdv B outer s H vs Q E hr h => ?_)
  · obtain ⟨c, p, rfl, _⟩ := h
    rfl
  · obtain ⟨c, p, rfl, hs, q⟩ := h
    refine ⟨_, (pss_cons (ps_if (pt_cmpR op_eq (pe_call (ok_law_draw T) (hr.mono (by omega)) rfl T.g_law_draw T.F_law_draw.kp T.b_law_draw .nil pass0 (pa_cons (pv 0) (pa_cons pe_int pa_nil))) pe_int (nomark _)) (pss_cons (ps_set (i := 2) sc_law_body.nd rfl (.inr rfl) (pe_lc (own := [("_law_place", 1)]) rfl sc_law_body.nd (pi_range1 (by rfl) T.n_range (pa_cons pe_int pa_nil)) (blkOk_by (own := [("_law_place", 1)]) (N := N_law_body) (sc := defScope s_law_body) (by decide +kernel)) (fun _ _ _ _ _ => pg_name (i := 1) sc_law_body.nd rfl (Or.inl rfl)) (fun _ _ _ _ _ => pts_nil) (fun _ _ _ _ _ => by exact (pe_call (ok_law_end_word T) (hr.mono (by omega)) rfl T.g_law_end_word T.F_law_end_word.kp T.b_law_end_word .nil pass0 (pa_cons (pv 0) pa_nil)))))
    (pss_one (ps_ret (pe_lc (own := [("_law_place", 1)]) rfl sc_law_body.nd (pi_range1 (by rfl) T.n_range (pa_cons (pe_op op_add pe_int (pe_call (ok_law_draw T) (hr.mono (by omega)) rfl T.g_law_draw T.F_law_draw.kp T.b_law_draw .nil pass0 (pa_cons (pv 0) (pa_cons pe_int pa_nil)))) pa_nil)) (blkOk_by (own := [("_law_place", 1)]) (N := N_law_body) (sc := defScope s_law_body) (by decide +kernel)) (fun _ _ _ _ _ => pg_name (i := 1) sc_law_body.nd rfl (Or.inl rfl)) (fun _ _ _ _ _ => pts_nil) (fun _ _ _ _ _ => by exact (pe_ix (r := rIxL K) ix_list (pv 2) (pe_op op_mod (pe_callTy call_int1 (by rfl) T.n_int (by decide +kernel) (pa_cons (pv 1) pa_nil)) pe_int) (fun _ _ => rfl))))))) pss_nil)
    (pss_one (ps_ret (pe_lc (own := [("_law_place", 1)]) rfl sc_law_body.nd (pi_range1 (by rfl) T.n_range (pa_cons (pe_call (ok_law_draw T) (hr.mono (by omega)) rfl T.g_law_draw T.F_law_draw.kp T.b_law_draw .nil pass0 (pa_cons (pv 0) (pa_cons pe_int pa_nil))) pa_nil)) (blkOk_by (own := [("_law_place", 1)]) (N := N_law_body) (sc := defScope s_law_body) (by decide +kernel)) (fun _ _ _ _ _ => pg_name (i := 1) sc_law_body.nd rfl (Or.inl rfl)) (fun _ _ _ _ _ => pts_nil) (fun _ _ _ _ _ => by exact (pe_call (ok_law_end_word T) (hr.mono (by omega)) rfl T.g_law_end_word T.F_law_end_word.kp T.b_law_end_word .nil pass0 (pa_cons (pv 0) pa_nil))))))), ?_⟩
    refine ⟨_, rfl, c, p, 8, rfl, hs, by decide, by decide, fun H1 way lw hs1 b1 => ⟨rfl, _, rfl, ifB (fun e => ?_) (fun e => ?_)⟩⟩
    · refine ⟨4, rfl, by decide, by decide, fun D hD => ?_⟩
      have hsb := hs1
      obtain ⟨n, hn4⟩ : ∃ n : Nat, n = 4 := ⟨4, rfl⟩
      rw [show ((4 : Int)).toNat = n by rw [hn4]; rfl]
      refine lc_inv (walk_range (lo := 0) (n := n)) (fun i v => True) (fun i acc H4 => Src c H4 p ∧ But p _ H4 ∧ ∃ ws : List Nat, acc = intV ws ∧ ∀ w ∈ ws, w ≤ 65535) (by omega) ⟨src_up hsb (same_new hD), But.of (same_new hD), [], rfl, by simp⟩ (fun _ _ _ _ => trivial) (fun i H1 v H2 hi y => ⟨y.1, trivial⟩) (fun i v acc H4 hi hl pv e5 _ Q q => ?_) (fun acc H6 hl4 pv e6 => ?_)
      · obtain ⟨hs4, b4, ws, rfl, hw⟩ := pv
        have np := src_ints hs4 e5
        refine ⟨_, rfl, c, p, rfl, hs4, fun H5 w hw5 hs5' b5 => ?_⟩
        refine q _ H5 (b5 _ _ np e5) ⟨src_put hs5' np fun z => src_cne hsb (z ▸ hD), but_new (b4.trans b5) hD, ws ++ [w], by unfold intV; rw [List.map_append]; rfl, fun x hx => ?_⟩
        rcases List.mem_append.mp hx with z | z
        · exact hw x z
        · have := List.mem_singleton.mp z
          omega
      obtain ⟨hs6, b6, ws, rfl, hw⟩ := pv
      have hn : ws.length = n := by unfold intV at hl4; rw [List.length_map] at hl4; exact hl4
      have nD := src_ints hs6 e6
      refine ⟨_, rfl, c, p, 709, rfl, hs6, by decide, by decide, fun H7 m l7 hs7 b7 => ⟨_, _, rfl, rfl, ((300 + m : Nat) : Int), congrArg (fun z => [V.int z]) (show (300 : Int) + (m : Int) = ((300 + m : Nat) : Int) by omega), by omega, by omega, fun D2 hD2 => ?_⟩⟩
      rw [Int.toNat_natCast]
      have e7 := b7 _ _ nD e6
      refine lc_vals (walk_range (lo := 0) (n := 300 + m)) (fun i v => v = .int (0 + (i : Int))) (fun i => .int ((ws.getD (i % 4) 0 : Nat) : Int)) hD2 (fun _ _ => trivial) (by omega) (fun i H1 v H2 hi y => ⟨y.1, y.2⟩) (fun i v H4 hi sm hv Q q => ?_) (fun H8 s8 e8 => ?_)
      · subst hv
        have hat : atI (intV ws) ((0 + (i : Int)) % 4) = some (.int ((ws.getD (i % 4) 0 : Nat) : Int)) := by
          rw [show (0 + (i : Int)) % 4 = ((i % 4 : Nat) : Int) by omega]
          exact atI_nat (intV_at (by omega))
        exact ⟨_, rfl, _, rfl, .inl ⟨_, rfl, _, _, rfl, rfl, (by show (0 : Int) < 4; decide), D, _, _, _, rfl, rfl, SqL.of (sm _ _ e7), hat, q _ (Same.refl _)⟩⟩
      refine q _ D2 ((List.range (300 + m)).map fun i => ws.getD (i % 4) 0) (src_up hs7 s8) (b1.trans (b6.trans (b7.trans (But.of s8)))) ?_ (by rw [List.length_map, List.length_range]; omega) (fun x hx => ?_)
      · rw [e8, intV_map]
      · obtain ⟨i, _, rfl⟩ := List.mem_map.mp hx
        have : i % 4 < ws.length := by omega
        rw [List.getD_eq_getElem?_getD, List.getElem?_eq_getElem this]
        exact hw _ (List.getElem_mem this)
    · refine ⟨_, rfl, c, p, 41, rfl, hs1, by decide, by decide, fun H2 n ln hsb b2 => ⟨(n : Int), rfl, by omega, by omega, fun D hD => ?_⟩⟩
      rw [Int.toNat_natCast]
      refine lc_inv (walk_range (lo := 0) (n := n)) (fun i v => True) (fun i acc H4 => Src c H4 p ∧ But p _ H4 ∧ ∃ ws : List Nat, acc = intV ws ∧ ∀ w ∈ ws, w ≤ 65535) (by omega) ⟨src_up hsb (same_new hD), But.of (same_new hD), [], rfl, by simp⟩ (fun _ _ _ _ => trivial) (fun i H1 v H2 hi y => ⟨y.1, trivial⟩) (fun i v acc H4 hi hl pv e5 _ Q q => ?_) (fun acc H6 hl4 pv e6 => ?_)
      · obtain ⟨hs4, b4, ws, rfl, hw⟩ := pv
        have np := src_ints hs4 e5
        refine ⟨_, rfl, c, p, rfl, hs4, fun H5 w hw5 hs5' b5 => ?_⟩
        refine q _ H5 (b5 _ _ np e5) ⟨src_put hs5' np fun z => src_cne hsb (z ▸ hD), but_new (b4.trans b5) hD, ws ++ [w], by unfold intV; rw [List.map_append]; rfl, fun x hx => ?_⟩
        rcases List.mem_append.mp hx with z | z
        · exact hw x z
        · have := List.mem_singleton.mp z
          omega
      obtain ⟨hs6, b6, ws, rfl, hw⟩ := pv
      have hn : ws.length = n := by unfold intV at hl4; rw [List.length_map] at hl4; exact hl4
      exact q _ D ws hs6 (b1.trans (b2.trans b6)) e6 (by omega) hw
theorem ok_law_places (T : Txt K mg A) : FnOk P w K mg base CX0 2 A.a_law_places A.d_law_places ["_law_source_here", "_law_count"] spPlaces := by
  refine T.F_law_places.ok sc_law_places (fun vs H Q E h => ?_) (fun cdv B outer s H vs Q E hr h => ?_)
  · obtain ⟨c, p, cn, rfl, _⟩ := h
    rfl
  · obtain ⟨c, p, cn, rfl, hs, h16, h1024, q⟩ := h
    refine ⟨_, (pss_cons (ps_set (i := 2) sc_law_places.nd rfl (.inl rfl) (pe_call (ok_law_draw T) (hr.mono (by omega)) rfl T.g_law_draw T.F_law_draw.kp T.b_law_draw .nil pass0 (pa_cons (pv 0) (pa_cons pe_int pa_nil))))
    (pss_cons (ps_set (i := 3) sc_law_places.nd rfl (.inr rfl) (pe_call (ok_law_draw T) (hr.mono (by omega)) rfl T.g_law_draw T.F_law_draw.kp T.b_law_draw .nil pass0 (pa_cons (pv 0) (pa_cons (pv 1) pa_nil))))
    (pss_cons (ps_if (pt_cmpR op_eq (pv 2) pe_int (nomark _)) (pss_one (ps_ret (pe_lc (own := [("_law_place", 4)]) rfl sc_law_places.nd (pi_range1 (by rfl) T.n_range (pa_cons (pv 1) pa_nil)) (blkOk_by (own := [("_law_place", 4)]) (N := N_law_places) (sc := defScope s_law_places) (by decide +kernel)) (fun _ _ _ _ _ => pg_name (i := 4) sc_law_places.nd rfl (Or.inl rfl)) (fun _ _ _ _ _ => pts_nil) (fun _ _ _ _ _ => by exact (pe_cmpR op_eq (pe_call (ok_law_draw T) (hr.mono (by omega)) rfl T.g_law_draw T.F_law_draw.kp T.b_law_draw .nil pass0 (pa_cons (pv 0) (pa_cons pe_int pa_nil))) pe_int (nomark _)))))) pss_nil)
    (pss_cons (ps_if (pt_cmpR op_eq (pv 2) pe_int (nomark _)) (pss_one (ps_ret (pe_lc (own := [("_law_place", 4)]) rfl sc_law_places.nd (pi_range1 (by rfl) T.n_range (pa_cons (pv 1) pa_nil)) (blkOk_by (own := [("_law_place", 4)]) (N := N_law_places) (sc := defScope s_law_places) (by decide +kernel)) (fun _ _ _ _ _ => pg_name (i := 4) sc_law_places.nd rfl (Or.inl rfl)) (fun _ _ _ _ _ => pts_nil) (fun _ _ _ _ _ => by exact (pe_cmpR op_eq (pv 4) (pv 3) (nomark _)))))) pss_nil)
    (pss_cons (ps_if (pt_cmpR op_eq (pv 2) pe_int (nomark _)) (pss_one (ps_ret (pe_lc (own := [("_law_place", 4)]) rfl sc_law_places.nd (pi_range1 (by rfl) T.n_range (pa_cons (pv 1) pa_nil)) (blkOk_by (own := [("_law_place", 4)]) (N := N_law_places) (sc := defScope s_law_places) (by decide +kernel)) (fun _ _ _ _ _ => pg_name (i := 4) sc_law_places.nd rfl (Or.inl rfl)) (fun _ _ _ _ _ => pts_nil) (fun _ _ _ _ _ => by exact (pe_cmpR op_ge (pv 4) (pv 3) (nomark _)))))) pss_nil)
    (pss_cons (ps_if (pt_cmpR op_eq (pv 2) pe_int (nomark _)) (pss_cons (ps_setLc (i := 5) (own := [("_law_place", 4)]) rfl sc_law_places.nd rfl rfl (sw_true rfl rfl rfl (by decide +kernel)) (pi_range1 (by rfl) T.n_range (pa_cons pe_int pa_nil)) (blkOk_by (own := [("_law_place", 4)]) (N := N_law_places) (sc := defScope s_law_places) (by decide +kernel)) (fun _ _ _ _ _ => pg_name (i := 4) sc_law_places.nd rfl (Or.inl rfl)) (fun _ _ _ _ _ => pts_nil) (fun _ _ _ _ _ => by exact (pe_cmpR op_eq (pe_call (ok_law_draw T) (hr.mono (by omega)) rfl T.g_law_draw T.F_law_draw.kp T.b_law_draw .nil pass0 (pa_cons (pv 0) (pa_cons pe_int pa_nil))) pe_int (nomark _))))
    (pss_one (ps_ret (pe_op op_cat (pv 5) (pe_lc (own := [("_law_place", 4)]) rfl sc_law_places.nd (pi_range2 (by rfl) T.n_range (pa_cons pe_int (pa_cons (pv 1) pa_nil))) (blkOk_by (own := [("_law_place", 4)]) (N := N_law_places) (sc := defScope s_law_places) (by decide +kernel)) (fun _ _ _ _ _ => pg_name (i := 4) sc_law_places.nd rfl (Or.inl rfl)) (fun _ _ _ _ _ => pts_nil) (fun _ _ _ _ _ => by exact pe_bl)))))) pss_nil)
    (pss_cons (ps_if (pt_cmpR op_eq (pv 2) pe_int (nomark _)) (pss_cons (ps_set (i := 7) sc_law_places.nd rfl (.inr rfl) (pe_lc (own := [("_law_page", 6)]) rfl sc_law_places.nd (pi_range1 (by rfl) T.n_range (pa_cons pe_int pa_nil)) (blkOk_by (own := [("_law_page", 6)]) (N := N_law_places) (sc := defScope s_law_places) (by decide +kernel)) (fun _ _ _ _ _ => pg_name (i := 6) sc_law_places.nd rfl (Or.inl rfl)) (fun _ _ _ _ _ => pts_nil) (fun _ _ _ _ _ => by exact (pe_cmpR op_eq (pe_call (ok_law_draw T) (hr.mono (by omega)) rfl T.g_law_draw T.F_law_draw.kp T.b_law_draw .nil pass0 (pa_cons (pv 0) (pa_cons pe_int pa_nil))) pe_int (nomark _)))))
    (pss_one (ps_ret (pe_lc (own := [("_law_place", 4)]) rfl sc_law_places.nd (pi_range1 (by rfl) T.n_range (pa_cons (pv 1) pa_nil)) (blkOk_by (own := [("_law_place", 4)]) (N := N_law_places) (sc := defScope s_law_places) (by decide +kernel)) (fun _ _ _ _ _ => pg_name (i := 4) sc_law_places.nd rfl (Or.inl rfl)) (fun _ _ _ _ _ => pts_nil) (fun _ _ _ _ _ => by exact (pe_ix (r := rIxL K) ix_list (pv 7) (pe_op op_fdiv (pv 4) pe_int) (fun _ _ => rfl))))))) pss_nil)
    (pss_cons (ps_setLc (i := 8) (own := [("_law_place", 4)]) rfl sc_law_places.nd rfl rfl (sw_true rfl rfl rfl (by decide +kernel)) (pi_range1 (by rfl) T.n_range (pa_cons pe_int pa_nil)) (blkOk_by (own := [("_law_place", 4)]) (N := N_law_places) (sc := defScope s_law_places) (by decide +kernel)) (fun _ _ _ _ _ => pg_name (i := 4) sc_law_places.nd rfl (Or.inl rfl)) (fun _ _ _ _ _ => pts_nil) (fun _ _ _ _ _ => by exact (pe_cmpR op_eq (pe_call (ok_law_draw T) (hr.mono (by omega)) rfl T.g_law_draw T.F_law_draw.kp T.b_law_draw .nil pass0 (pa_cons (pv 0) (pa_cons pe_int pa_nil))) pe_int (nomark _))))
    (pss_cons (ps_if (pt_cmpR op_eq (pe_call (ok_law_draw T) (hr.mono (by omega)) rfl T.g_law_draw T.F_law_draw.kp T.b_law_draw .nil pass0 (pa_cons (pv 0) (pa_cons pe_int pa_nil))) pe_int (nomark _)) (pss_one (ps_set (i := 8) sc_law_places.nd rfl (.inl rfl) (pe_op op_cat (pe_lst (pa_cons pe_bl (pa_cons pe_bl (pa_cons pe_bl pa_nil)))) (pe_slice sl_list (pv 8) (po_some pe_int) po_none)))) pss_nil)
    (pss_one (ps_ret (pe_op op_cat (pe_op op_cat (pe_lc (own := [("_law_place", 4)]) rfl sc_law_places.nd (pi_range1 (by rfl) T.n_range (pa_cons pe_int pa_nil)) (blkOk_by (own := [("_law_place", 4)]) (N := N_law_places) (sc := defScope s_law_places) (by decide +kernel)) (fun _ _ _ _ _ => pg_name (i := 4) sc_law_places.nd rfl (Or.inl rfl)) (fun _ _ _ _ _ => pts_nil) (fun _ _ _ _ _ => by exact pe_bl)) (pv 8)) (pe_lc (own := [("_law_place", 4)]) rfl sc_law_places.nd (pi_range2 (by rfl) T.n_range (pa_cons pe_int (pa_cons (pv 1) pa_nil))) (blkOk_by (own := [("_law_place", 4)]) (N := N_law_places) (sc := defScope s_law_places) (by decide +kernel)) (fun _ _ _ _ _ => pg_name (i := 4) sc_law_places.nd rfl (Or.inl rfl)) (fun _ _ _ _ _ => pts_nil) (fun _ _ _ _ _ => by exact pe_bl)))))))))))))), ?_⟩
    refine ⟨_, rfl, c, p, 6, rfl, hs, by decide, by decide, fun H1 way lw hs1 b1 => ?_⟩
    refine ⟨_, rfl, _, rfl, c, p, (cn : Int), rfl, hs1, by omega, by omega, fun H2 spot l2 hs2 b2 => ?_⟩
    have b12 := b1.trans b2
    refine ⟨_, rfl, rfl, _, rfl, ifB (fun e => ?_) (fun e => ?_)⟩
    · obtain ⟨n, hnn⟩ : ∃ n : Nat, n = cn := ⟨cn, rfl⟩
      refine ⟨_, rfl, (cn : Int), rfl, by omega, by omega, fun D hD => ?_⟩
      rw [Int.toNat_natCast, ← hnn]
      have hsb := hs2
      refine lc_inv (walk_range (lo := 0) (n := n)) (fun i v => True) (fun i acc H4 => Src c H4 p ∧ But p _ H4 ∧ ∃ bs : List Bool, acc = bs.map V.bl) (by omega) ⟨src_up hsb (same_new hD), But.of (same_new hD), [], rfl⟩ (fun _ _ _ _ => trivial) (fun i H1 v H2 hi y => ⟨y.1, trivial⟩) (fun i v acc H4 hi hl pv e5 _ Q q => ?_) (fun acc H6 hl4 pv e6 => ?_)
      · obtain ⟨hs4, b4, bs, rfl⟩ := pv
        have np := src_bls hs4 e5
        refine ⟨_, rfl, c, p, 2, rfl, hs4, by decide, by decide, fun H5 r lr hs5' b5 => ⟨rfl, ?_⟩⟩
        exact q _ H5 (b5 _ _ np e5) ⟨src_put hs5' np fun z => src_cne hsb (z ▸ hD), but_new (b4.trans b5) hD, bs ++ [decide (V.int (r : Int) = V.int 1)], by rw [List.map_append]; rfl⟩
      obtain ⟨hs6, b6, bs, rfl⟩ := pv
      have hbl : bs.length = n := by rw [List.length_map] at hl4; exact hl4
      exact q _ D bs hs6 (b12.trans b6) e6 (by omega)
    refine ⟨_, rfl, rfl, _, rfl, ifB (fun e => ?_) (fun e => ?_)⟩
    · refine ⟨_, rfl, (cn : Int), rfl, by omega, by omega, fun D hD => ?_⟩
      rw [Int.toNat_natCast]
      refine lc_vals (walk_range (lo := 0) (n := cn)) (fun i v => v = .int (0 + (i : Int))) (fun i => .bl (decide (V.int (0 + (i : Int)) = V.int (spot : Int)))) hD (fun _ _ => trivial) (by omega) (fun i H1 v H2 hi y => ⟨y.1, y.2⟩) (fun i v H4 hi sm hv Q q => ?_) (fun H8 s8 e8 => ?_)
      · subst hv
        exact ⟨_, rfl, _, rfl, rfl, q _ (Same.refl _)⟩
      · exact q _ D ((List.range cn).map fun i : Nat => decide (V.int (0 + (i : Int)) = V.int (spot : Int))) (src_up hs2 s8) (b12.trans (But.of s8)) (by rw [e8, List.map_map]; rfl) (by rw [List.length_map, List.length_range])
    refine ⟨_, rfl, rfl, _, rfl, ifB (fun e => ?_) (fun e => ?_)⟩
    · refine ⟨_, rfl, (cn : Int), rfl, by omega, by omega, fun D hD => ?_⟩
      rw [Int.toNat_natCast]
      refine lc_vals (walk_range (lo := 0) (n := cn)) (fun i v => v = .int (0 + (i : Int))) (fun i => .bl (decide ((spot : Int) ≤ 0 + (i : Int)))) hD (fun _ _ => trivial) (by omega) (fun i H1 v H2 hi y => ⟨y.1, y.2⟩) (fun i v H4 hi sm hv Q q => ?_) (fun H8 s8 e8 => ?_)
      · subst hv
        exact ⟨_, rfl, _, rfl, _, _, rfl, rfl, q _ (Same.refl _)⟩
      · exact q _ D ((List.range cn).map fun i : Nat => decide ((spot : Int) ≤ 0 + (i : Int))) (src_up hs2 s8) (b12.trans (But.of s8)) (by rw [e8, List.map_map]; rfl) (by rw [List.length_map, List.length_range])
    refine ⟨_, rfl, rfl, _, rfl, ifB (fun e => ?_) (fun e => ?_)⟩
    · refine ⟨16, rfl, by decide, by decide, fun D hD => ?_⟩
      have hsb := hs2
      obtain ⟨n, hnn⟩ : ∃ n : Nat, n = 16 := ⟨16, rfl⟩
      rw [show ((16 : Int)).toNat = n by rw [hnn]; rfl]
      refine lc_inv (walk_range (lo := 0) (n := n)) (fun i v => True) (fun i acc H4 => Src c H4 p ∧ But p _ H4 ∧ ∃ bs : List Bool, acc = bs.map V.bl) (by omega) ⟨src_up hsb (same_new hD), But.of (same_new hD), [], rfl⟩ (fun _ _ _ _ => trivial) (fun i H1 v H2 hi y => ⟨y.1, trivial⟩) (fun i v acc H4 hi hl pv e5 _ Q q => ?_) (fun acc H6 hl4 pv e6 => ?_)
      · obtain ⟨hs4, b4, bs, rfl⟩ := pv
        have np := src_bls hs4 e5
        refine ⟨_, rfl, c, p, 2, rfl, hs4, by decide, by decide, fun H5 r lr hs5' b5 => ⟨rfl, ?_⟩⟩
        exact q _ H5 (b5 _ _ np e5) ⟨src_put hs5' np fun z => src_cne hsb (z ▸ hD), but_new (b4.trans b5) hD, bs ++ [decide (V.int (r : Int) = V.int 1)], by rw [List.map_append]; rfl⟩
      obtain ⟨hs6, b6, bs, rfl⟩ := pv
      have hbl : bs.length = n := by rw [List.length_map] at hl4; exact hl4
      refine ⟨_, rfl, _, rfl, 16, (cn : Int), rfl, ⟨by decide, by decide, by omega, by omega⟩, fun D2 hD2 => ?_⟩
      rw [show ((cn : Int) - 16).toNat = cn - 16 by omega]
      refine lc_vals (walk_range (lo := 16) (n := cn - 16)) (fun i v => True) (fun i => .bl false) hD2 (fun _ _ => trivial) (by omega) (fun i H1 v H2 hi y => ⟨y.1, trivial⟩) (fun i v H4 hi sm hv Q q => q _ (Same.refl _)) (fun H8 s8 e8 => ?_)
      refine ⟨D, D2, _, _, rfl, rfl, s8 _ _ e6, e8, lim (by rw [List.length_map, List.length_map, List.length_range]; omega), fun l3 h3 => ?_⟩
      have s83 := s8.trans (same_new (o := .lst (bs.map V.bl ++ (List.range (cn - 16)).map fun _ => V.bl false)) h3)
      refine q _ l3 (bs ++ (List.range (cn - 16)).map fun _ => false) (src_up hs6 s83) (b12.trans (b6.trans (But.of s83))) ?_ (by rw [List.length_append, List.length_map, List.length_range]; omega)
      rw [upd_same, List.map_append, List.map_map]
      rfl
    refine ⟨_, rfl, rfl, _, rfl, ifB (fun e => ?_) (fun e => ?_)⟩
    · refine ⟨64, rfl, by decide, by decide, fun D hD => ?_⟩
      have hsb := hs2
      obtain ⟨n, hnn⟩ : ∃ n : Nat, n = 64 := ⟨64, rfl⟩
      rw [show ((64 : Int)).toNat = n by rw [hnn]; rfl]
      refine lc_inv (walk_range (lo := 0) (n := n)) (fun i v => True) (fun i acc H4 => Src c H4 p ∧ But p _ H4 ∧ ∃ bs : List Bool, acc = bs.map V.bl) (by omega) ⟨src_up hsb (same_new hD), But.of (same_new hD), [], rfl⟩ (fun _ _ _ _ => trivial) (fun i H1 v H2 hi y => ⟨y.1, trivial⟩) (fun i v acc H4 hi hl pv e5 _ Q q => ?_) (fun acc H6 hl4 pv e6 => ?_)
      · obtain ⟨hs4, b4, bs, rfl⟩ := pv
        have np := src_bls hs4 e5
        refine ⟨_, rfl, c, p, 2, rfl, hs4, by decide, by decide, fun H5 r lr hs5' b5 => ⟨rfl, ?_⟩⟩
        exact q _ H5 (b5 _ _ np e5) ⟨src_put hs5' np fun z => src_cne hsb (z ▸ hD), but_new (b4.trans b5) hD, bs ++ [decide (V.int (r : Int) = V.int 1)], by rw [List.map_append]; rfl⟩
      obtain ⟨hs6, b6, bs, rfl⟩ := pv
      have hbl : bs.length = n := by rw [List.length_map] at hl4; exact hl4
      refine ⟨_, rfl, (cn : Int), rfl, by omega, by omega, fun D2 hD2 => ?_⟩
      rw [Int.toNat_natCast]
      refine lc_vals (walk_range (lo := 0) (n := cn)) (fun i v => v = .int (0 + (i : Int))) (fun i => .bl (bs.getD (i / 16) false)) hD2 (fun _ _ => trivial) (by omega) (fun i H1 v H2 hi y => ⟨y.1, y.2⟩) (fun i v H4 hi sm hv Q q => ?_) (fun H8 s8 e8 => ?_)
      · subst hv
        have hat : atI (bs.map V.bl) ((0 + (i : Int)) / 16) = some (.bl (bs.getD (i / 16) false)) := by
          rw [show (0 + (i : Int)) / 16 = ((i / 16 : Nat) : Int) by omega]
          refine atI_nat ?_
          rw [List.getElem?_map, List.getElem?_eq_getElem (by omega), List.getD_eq_getElem?_getD, List.getElem?_eq_getElem (by omega)]
          rfl
        exact ⟨_, rfl, _, rfl, _, _, rfl, rfl, ⟨by decide, by decide⟩, D, _, _, _, rfl, rfl, SqL.of (sm _ _ e6), hat, q _ (Same.refl _)⟩
      · exact q _ D2 ((List.range cn).map fun i => bs.getD (i / 16) false) (src_up hs6 s8) (b12.trans (b6.trans (But.of s8))) (by rw [e8, List.map_map]; rfl) (by rw [List.length_map, List.length_range])
    · refine ⟨7, rfl, by decide, by decide, fun D hD => ?_⟩
      have hsb := hs2
      obtain ⟨n, hnn⟩ : ∃ n : Nat, n = 7 := ⟨7, rfl⟩
      rw [show ((7 : Int)).toNat = n by rw [hnn]; rfl]
      refine lc_inv (walk_range (lo := 0) (n := n)) (fun i v => True) (fun i acc H4 => Src c H4 p ∧ But p _ H4 ∧ ∃ bs : List Bool, acc = bs.map V.bl) (by omega) ⟨src_up hsb (same_new hD), But.of (same_new hD), [], rfl⟩ (fun _ _ _ _ => trivial) (fun i H1 v H2 hi y => ⟨y.1, trivial⟩) (fun i v acc H4 hi hl pv e5 _ Q q => ?_) (fun acc H6 hl4 pv e6 => ?_)
      · obtain ⟨hs4, b4, bs, rfl⟩ := pv
        have np := src_bls hs4 e5
        refine ⟨_, rfl, c, p, 2, rfl, hs4, by decide, by decide, fun H5 r lr hs5' b5 => ⟨rfl, ?_⟩⟩
        exact q _ H5 (b5 _ _ np e5) ⟨src_put hs5' np fun z => src_cne hsb (z ▸ hD), but_new (b4.trans b5) hD, bs ++ [decide (V.int (r : Int) = V.int 1)], by rw [List.map_append]; rfl⟩
      obtain ⟨hs6, b6, bs, rfl⟩ := pv
      have hbl : bs.length = n := by rw [List.length_map] at hl4; exact hl4
      refine ⟨_, rfl, c, p, 2, rfl, hs6, by decide, by decide, fun H7 r lr hs7 b7 => ⟨rfl, _, rfl, ifB (fun e2 => ?_) (fun e2 => ?_)⟩⟩
      · have nD := src_bls hs6 e6
        have e7 := b7 _ _ nD e6
        refine ⟨lenOk (n := 3) rfl (by decide), fun l1 h1 => ?_⟩
        have e1 : upd H7 l1 (.lst [V.bl false, V.bl false, V.bl false]) l1 = some (.lst ([false, false, false].map V.bl)) := upd_same
        have t1 := same_new (o := .lst [V.bl false, V.bl false, V.bl false]) h1
        generalize upd H7 l1 (.lst [V.bl false, V.bl false, V.bl false]) = HA at e1 t1 ⊢
        unfold tNoPart
        refine ⟨_, rfl, _, rfl, D, _, rfl, SqL.of (t1 _ _ e7), fun l2 h2 => ?_⟩
        have e2' : upd HA l2 (.lst (cutV (bs.map V.bl) (some 3) none)) l2 = some (.lst ((bs.drop 3).map V.bl)) := by
          rw [upd_same, show cutV (bs.map V.bl) (some 3) none = (bs.map V.bl).drop 3 from cutV_lo 3, List.map_drop]
        have t2 := same_new (o := .lst (cutV (bs.map V.bl) (some 3) none)) h2
        generalize upd HA l2 (.lst (cutV (bs.map V.bl) (some 3) none)) = HB at e2' t2 ⊢
        refine ⟨l1, l2, _, _, rfl, rfl, t2 _ _ e1, e2', lim (by rw [List.length_map, List.length_map, List.length_drop]; show 3 + _ ≤ _; omega), fun ld h4 => ?_⟩
        have eD : upd HB ld (.lst ([false, false, false].map V.bl ++ (bs.drop 3).map V.bl)) ld = some (.lst (([false, false, false] ++ bs.drop 3).map V.bl)) := by rw [upd_same, List.map_append]
        have t4 := same_new (o := .lst ([false, false, false].map V.bl ++ (bs.drop 3).map V.bl)) h4
        generalize upd HB ld (.lst ([false, false, false].map V.bl ++ (bs.drop 3).map V.bl)) = HD at eD t4 ⊢
        have hsd := src_up hs7 (t1.trans (t2.trans t4))
        have bd := b12.trans (b6.trans (b7.trans (But.of (t1.trans (t2.trans t4)))))
        have hdl : ([false, false, false] ++ bs.drop 3).length = 7 := by
          rw [List.length_append, List.length_drop]
          show 3 + _ = _
          omega
        generalize [false, false, false] ++ bs.drop 3 = ds at eD hdl
        refine ⟨9, rfl, by decide, by decide, fun D2 hD2 => ?_⟩
        refine lc_vals (walk_range (lo := 0) (n := 9)) (fun i v => True) (fun i => .bl false) hD2 (fun _ _ => trivial) (by decide) (fun i H1 v H2 hi y => ⟨y.1, trivial⟩) (fun i v H4 hi sm hv Q q => q _ (Same.refl _)) (fun H8 s8 e8 => ?_)
        have e8' : H8 D2 = some (.lst (((List.range 9).map fun _ => false).map V.bl)) := by rw [e8, List.map_map]; rfl
        refine ⟨_, rfl, D2, ld, _, _, rfl, rfl, e8', s8 _ _ eD, lim (by rw [List.length_map, List.length_map, List.length_map, List.length_range]; omega), fun l3 h3 => ?_⟩
        have e9 : upd H8 l3 (.lst (((List.range 9).map fun _ => false).map V.bl ++ ds.map V.bl)) l3 = some (.lst ((((List.range 9).map fun _ => false) ++ ds).map V.bl)) := by rw [upd_same, List.map_append]
        have s9 := same_new (o := .lst (((List.range 9).map fun _ => false).map V.bl ++ ds.map V.bl)) h3
        generalize upd H8 l3 (.lst (((List.range 9).map fun _ => false).map V.bl ++ ds.map V.bl)) = H9 at e9 s9 ⊢
        refine ⟨_, rfl, 16, (cn : Int), rfl, ⟨by decide, by decide, by omega, by omega⟩, fun D4 hD4 => ?_⟩
        rw [show ((cn : Int) - 16).toNat = cn - 16 by omega]
        refine lc_vals (walk_range (lo := 16) (n := cn - 16)) (fun i v => True) (fun i => .bl false) hD4 (fun _ _ => trivial) (by omega) (fun i H1 v H2 hi y => ⟨y.1, trivial⟩) (fun i v H4 hi sm hv Q q => q _ (Same.refl _)) (fun H10 s10 e10 => ?_)
        have e10' : H10 D4 = some (.lst (((List.range (cn - 16)).map fun _ => false).map V.bl)) := by rw [e10, List.map_map]; rfl
        refine ⟨l3, D4, _, _, rfl, rfl, s10 _ _ e9, e10', lim (by rw [List.length_map, List.length_append, List.length_map, List.length_map, List.length_map, List.length_range, List.length_range]; omega), fun l5 h5 => ?_⟩
        have s85 := s8.trans (s9.trans (s10.trans (same_new (o := .lst ((((List.range 9).map fun _ => false) ++ ds).map V.bl ++ ((List.range (cn - 16)).map fun _ => false).map V.bl)) h5)))
        refine q _ l5 ((((List.range 9).map fun _ => false) ++ ds) ++ (List.range (cn - 16)).map fun _ => false) (src_up hsd s85) (bd.trans (But.of s85)) ?_ (by rw [List.length_append, List.length_append, List.length_map, List.length_map, List.length_range, List.length_range]; omega)
        rw [upd_same, List.map_append (l₁ := ((List.range 9).map fun _ => false) ++ ds)]
      · have nD := src_bls hs6 e6
        have eD := b7 _ _ nD e6
        have hsd := hs7
        have bd := b12.trans (b6.trans b7)
        have hdl : bs.length = 7 := by omega
        obtain ⟨ld, hld⟩ : ∃ l, l = D := ⟨D, rfl⟩
        rw [← hld] at eD ⊢
        generalize bs = ds at eD hdl
        refine ⟨9, rfl, by decide, by decide, fun D2 hD2 => ?_⟩
        refine lc_vals (walk_range (lo := 0) (n := 9)) (fun i v => True) (fun i => .bl false) hD2 (fun _ _ => trivial) (by decide) (fun i H1 v H2 hi y => ⟨y.1, trivial⟩) (fun i v H4 hi sm hv Q q => q _ (Same.refl _)) (fun H8 s8 e8 => ?_)
        have e8' : H8 D2 = some (.lst (((List.range 9).map fun _ => false).map V.bl)) := by rw [e8, List.map_map]; rfl
        refine ⟨_, rfl, D2, ld, _, _, rfl, rfl, e8', s8 _ _ eD, lim (by rw [List.length_map, List.length_map, List.length_map, List.length_range]; omega), fun l3 h3 => ?_⟩
        have e9 : upd H8 l3 (.lst (((List.range 9).map fun _ => false).map V.bl ++ ds.map V.bl)) l3 = some (.lst ((((List.range 9).map fun _ => false) ++ ds).map V.bl)) := by rw [upd_same, List.map_append]
        have s9 := same_new (o := .lst (((List.range 9).map fun _ => false).map V.bl ++ ds.map V.bl)) h3
        generalize upd H8 l3 (.lst (((List.range 9).map fun _ => false).map V.bl ++ ds.map V.bl)) = H9 at e9 s9 ⊢
        refine ⟨_, rfl, 16, (cn : Int), rfl, ⟨by decide, by decide, by omega, by omega⟩, fun D4 hD4 => ?_⟩
        rw [show ((cn : Int) - 16).toNat = cn - 16 by omega]
        refine lc_vals (walk_range (lo := 16) (n := cn - 16)) (fun i v => True) (fun i => .bl false) hD4 (fun _ _ => trivial) (by omega) (fun i H1 v H2 hi y => ⟨y.1, trivial⟩) (fun i v H4 hi sm hv Q q => q _ (Same.refl _)) (fun H10 s10 e10 => ?_)
        have e10' : H10 D4 = some (.lst (((List.range (cn - 16)).map fun _ => false).map V.bl)) := by rw [e10, List.map_map]; rfl
        refine ⟨l3, D4, _, _, rfl, rfl, s10 _ _ e9, e10', lim (by rw [List.length_map, List.length_append, List.length_map, List.length_map, List.length_map, List.length_range, List.length_range]; omega), fun l5 h5 => ?_⟩
        have s85 := s8.trans (s9.trans (s10.trans (same_new (o := .lst ((((List.range 9).map fun _ => false) ++ ds).map V.bl ++ ((List.range (cn - 16)).map fun _ => false).map V.bl)) h5)))
        refine q _ l5 ((((List.range 9).map fun _ => false) ++ ds) ++ (List.range (cn - 16)).map fun _ => false) (src_up hsd s85) (bd.trans (But.of s85)) ?_ (by rw [List.length_append, List.length_append, List.length_map, List.length_map, List.length_range, List.length_range]; omega)
        rw [upd_same, List.map_append (l₁ := ((List.range 9).map fun _ => false) ++ ds)]
end
end R1

namespace R1
open PySem PySem.Spec PyProof.Rows L2 RK
local macro_rules | `(tactic| walk_at "sq") => `(tactic| first
  | exact SqL.of upd_same | exact upd_same | exact SqL.of (by assumption) | exact SqL.of (by rw [upd_ne (by assumption)]; assumption) | assumption)
local macro_rules | `(tactic| walk_at "sd") => `(tactic| first
  | assumption | omega | (refine Or.inl ⟨?_, ?_⟩ <;> omega) | (show _ ∧ _; constructor <;> omega) | (show _ ≠ _; simp; omega) | (exact Or.inl ⟨by decide, by decide⟩) | (exact Or.inr ⟨by decide, by decide⟩) | (show _ < _; decide) | (show _ ≤ _; decide))
local macro_rules | `(tactic| walk_at "at") => `(tactic| first | rfl | (refine atI_intV ?_ ?_ <;> omega) | assumption)
local macro_rules | `(tactic| walk_at "s1") => `(tactic| first
  | refine ⟨_, rfl, ?_⟩ | refine ⟨_, _, rfl, rfl, ?_⟩ | refine ⟨rfl, ?_⟩
  | refine ⟨_, _, _, _, rfl, rfl, by walk_at "sq", by walk_at "at", ?_⟩
  | refine Or.inl ⟨_, rfl, ?_⟩
  | refine ⟨_, _, rfl, Or.inl (by walk_at "sq"), ?_⟩
  | refine And.intro (by walk_at "sd") ?_)
local macro_rules | `(tactic| walk_at "s") => `(tactic| repeat walk_at "s1")

theorem sum_le_eq (f g : Nat → Nat) : ∀ l : List Nat, (∀ i ∈ l, f i ≤ g i) → (l.map f).sum ≤ (l.map g).sum ∧ ((l.map f).sum = (l.map g).sum → ∀ i ∈ l, f i = g i)
  | [], _ => ⟨Nat.le_refl _, fun _ i hi => by cases hi⟩
  | a :: r, h => by
    obtain ⟨h1, h2⟩ := sum_le_eq f g r fun i hi => h i (List.mem_cons_of_mem _ hi)
    have h0 := h a List.mem_cons_self
    simp only [List.map_cons, List.sum_cons]
    refine ⟨by omega, fun e i hi => ?_⟩
    rcases List.mem_cons.mp hi with z | z
    · rw [z]
      omega
    · exact h2 (by omega) i z
theorem chk_congr {ws us : List Nat} (hl : ws.length = us.length) (h : ∀ i, i < ws.length → LF.contains i = false → ws.getD i 0 = us.getD i 0) : chkW LF ws = chkW LF us := by
  unfold chkW
  rw [← hl]
  congr 1
  refine List.map_congr_left fun i hi => ?_
  obtain ⟨h1, h2⟩ := List.mem_filter.mp hi
  rw [h i (List.mem_range.mp h1) (by simpa using h2)]
theorem getD_left {a b : List Nat} {i : Nat} (h : i < a.length) : (a ++ b).getD i 0 = a.getD i 0 := by
  rw [List.getD_eq_getElem?_getD, List.getD_eq_getElem?_getD, List.getElem?_append_left h]
theorem getD_right {a b : List Nat} {i : Nat} (h : a.length ≤ i) : (a ++ b).getD i 0 = b.getD (i - a.length) 0 := by
  rw [List.getD_eq_getElem?_getD, List.getD_eq_getElem?_getD, List.getElem?_append_right h]
theorem lf_big : ∀ i, LF.contains i = false → i < 9 ∨ 16 ≤ i := fun i h => by
  apply Decidable.byContradiction
  intro z
  have : i = 9 ∨ i = 10 ∨ i = 11 ∨ i = 12 ∨ i = 13 ∨ i = 14 ∨ i = 15 := by omega
  rcases this with z | z | z | z | z | z | z <;> (rw [z] at h; exact absurd h (by decide))
def first16 (fs : List Nat) (sg : Nat) (body : List Nat) : List Nat := head9 fs body ++ digN 3 (totN fs body) ++ digN 4 (totN fs body * 65521 + sg)
theorem headN_eq (fs : List Nat) (sg : Nat) (body : List Nat) : headN fs sg body = first16 fs sg body ++ body := rfl
theorem first_len (fs : List Nat) (sg : Nat) (body : List Nat) : (first16 fs sg body).length = 16 := by
  unfold first16
  rw [List.length_append, List.length_append, digN_len, digN_len]
  rfl
theorem head_len (fs : List Nat) (sg : Nat) (body : List Nat) : (headN fs sg body).length = 16 + body.length := by
  rw [headN_eq, List.length_append, first_len]
theorem head_chk (fs : List Nat) (sg : Nat) (body : List Nat) : chkW LF (headN fs sg body) = totN fs body := by
  unfold totN
  refine chk_congr ?_ fun i hi hc => ?_
  · rw [head_len, List.length_append]
    rfl
  · rw [head_len] at hi
    rcases lf_big i hc with z | z
    · have h9 : (head9 fs body).length = 9 := rfl
      rw [headN_eq, getD_left (by rw [first_len]; omega)]
      unfold first16
      rw [getD_left (by rw [List.length_append, digN_len, h9]; omega), getD_left (by omega), getD_left (by rw [List.length_append, h9]; show i < 9 + 7; omega), getD_left (by omega)]
    · have hz : (head9 fs body ++ [0, 0, 0, 0, 0, 0, 0]).length = 16 := rfl
      rw [headN_eq, getD_right (by rw [first_len]; exact z), getD_right (by rw [hz]; exact z), first_len, hz]
theorem head_at3 (fs : List Nat) (sg : Nat) (body bh : List Nat) (ht : totN fs body ≤ 200000000000) : at3 (headN fs sg body ++ bh) = totN fs body := by
  have h9 : (head9 fs body).length = 9 := rfl
  have e : (P3.map fun i => (headN fs sg body ++ bh).getD i 0) = digN 3 (totN fs body) := by
    have h12 : (head9 fs body ++ digN 3 (totN fs body)).length = 12 := by rw [List.length_append, digN_len, h9]
    have g : ∀ j, j < 3 → (headN fs sg body ++ bh).getD (9 + j) 0 = (digN 3 (totN fs body)).getD j 0 := fun j hj => by
      rw [getD_left (by rw [head_len]; omega), headN_eq, getD_left (by rw [first_len]; omega)]
      unfold first16
      rw [getD_left (by rw [h12]; omega), getD_right (by rw [h9]; omega), h9, show 9 + j - 9 = j by omega]
    show [(headN fs sg body ++ bh).getD 9 0, (headN fs sg body ++ bh).getD 10 0, (headN fs sg body ++ bh).getD 11 0] = _
    rw [show (headN fs sg body ++ bh).getD 9 0 = _ from g 0 (by decide), show (headN fs sg body ++ bh).getD 10 0 = _ from g 1 (by decide), show (headN fs sg body ++ bh).getD 11 0 = _ from g 2 (by decide)]
    rfl
  unfold at3
  rw [e]
  exact digN_val 3 _ (by omega)
theorem head_at4 (fs : List Nat) (sg : Nat) (body bh : List Nat) (ht : totN fs body ≤ 200000000000) (hs : sg ≤ 65535) : at4 (headN fs sg body ++ bh) = totN fs body * 65521 + sg := by
  have h9 : (head9 fs body).length = 9 := rfl
  have e : (P4.map fun i => (headN fs sg body ++ bh).getD i 0) = digN 4 (totN fs body * 65521 + sg) := by
    have h12 : (head9 fs body ++ digN 3 (totN fs body)).length = 12 := by rw [List.length_append, digN_len, h9]
    have g : ∀ j, j < 4 → (headN fs sg body ++ bh).getD (12 + j) 0 = (digN 4 (totN fs body * 65521 + sg)).getD j 0 := fun j hj => by
      rw [getD_left (by rw [head_len]; omega), headN_eq, getD_left (by rw [first_len]; omega)]
      unfold first16
      rw [getD_right (by rw [h12]; omega), h12, show 12 + j - 12 = j by omega]
    show [(headN fs sg body ++ bh).getD 12 0, (headN fs sg body ++ bh).getD 13 0, (headN fs sg body ++ bh).getD 14 0, (headN fs sg body ++ bh).getD 15 0] = _
    rw [show (headN fs sg body ++ bh).getD 12 0 = _ from g 0 (by decide), show (headN fs sg body ++ bh).getD 13 0 = _ from g 1 (by decide), show (headN fs sg body ++ bh).getD 14 0 = _ from g 2 (by decide), show (headN fs sg body ++ bh).getD 15 0 = _ from g 3 (by decide)]
    rfl
  unfold at4
  rw [e]
  exact digN_val 4 _ (by omega)
theorem head_get (fs : List Nat) (sg : Nat) (body bh : List Nat) (i : Nat) (hi : i < 9) : (headN fs sg body ++ bh).getD i 0 = (head9 fs body).getD i 0 := by
  have h9 : (head9 fs body).length = 9 := rfl
  rw [getD_left (by rw [head_len]; omega), headN_eq, getD_left (by rw [first_len]; omega)]
  unfold first16
  rw [getD_left (by rw [List.length_append, digN_len, h9]; omega), getD_left (by omega)]
theorem whole_flaw {fs body bh : List Nat} {sg : Nat} (hb : body.length ≤ 1008) (h5 : 16 ≤ fs.getD 5 0 ∧ fs.getD 5 0 ≤ 16 + body.length) (ht : totN fs body ≤ 200000000000) : flawV (headN fs sg body ++ bh) = .non := by
  have hl : (headN fs sg body ++ bh).length = 16 + body.length + bh.length := by rw [List.length_append, head_len]
  have g0 : (headN fs sg body ++ bh).getD 0 0 = 1 := head_get fs sg body bh 0 (by decide)
  have g6 : (headN fs sg body ++ bh).getD 6 0 = 16 + body.length := head_get fs sg body bh 6 (by decide)
  have g8 : (headN fs sg body ++ bh).getD 8 0 = fs.getD 5 0 := head_get fs sg body bh 8 (by decide)
  unfold flawV
  rw [if_neg (by omega), g6, g8, if_neg (by omega), if_pos]
  rw [head_at3 fs sg body bh ht, List.take_append_of_le_length (by rw [head_len]; exact Nat.le_refl _), ← head_len fs sg body, List.take_length, head_chk]
theorem whole_due {fs body bh : List Nat} {sg : Nat} (hb : body.length ≤ 1008) (h5 : 16 ≤ fs.getD 5 0 ∧ fs.getD 5 0 ≤ 16 + body.length) (ht : totN fs body ≤ 200000000000) (hs : sg ≤ 65535) : dueV (headN fs sg body ++ bh) ((fs.getD 0 0 : Nat) : Int) (sg : Int) ((fs.getD 3 0 : Nat) : Int) = .non := by
  unfold dueV
  rw [if_pos (whole_flaw hb h5 ht), if_pos (by rw [head_at3 fs sg body bh ht, head_at4 fs sg body bh ht hs]; omega), if_pos, if_pos]
  · rw [show (headN fs sg body ++ bh).getD 5 0 = fs.getD 3 0 from head_get fs sg body bh 5 (by decide)]
  · rw [show (headN fs sg body ++ bh).getD 1 0 = fs.getD 0 0 from head_get fs sg body bh 1 (by decide)]
/-- a form in which words are lost and others stand is refused ahead of product and home -/
theorem torn_due {fs body bh t : List Nat} {sg : Nat} {m h : Int} (hb : body.length ≤ 1008) (ht : totN fs body ≤ 200000000000) (hs : sg ≤ 65535) (hfw : ∀ w ∈ headN fs sg body, w ≤ 65535)
    (hl : t.length = (headN fs sg body).length) (hp : ∀ i, i < t.length → t.getD i 0 = (headN fs sg body).getD i 0 ∨ t.getD i 0 = 65535) (hne : t ≠ headN fs sg body) : dueV (t ++ bh) m (sg : Int) h = vfmt ∨ dueV (t ++ bh) m (sg : Int) h = vchk ∨ dueV (t ++ bh) m (sg : Int) h = vtag := by
  have hlen := head_len fs sg body
  generalize hw : headN fs sg body = ws at *
  have hwl : ∀ i, ws.getD i 0 ≤ 65535 := fun i => by
    rw [List.getD_eq_getElem?_getD]
    cases hh : ws[i]? with
    | none => exact Nat.zero_le _
    | some z => exact hfw _ (List.mem_of_getElem? hh)
  have hge : ∀ i, i < t.length → ws.getD i 0 ≤ t.getD i 0 ∧ t.getD i 0 ≤ 65535 := fun i hi => by
    have := hwl i
    rcases hp i hi with z | z <;> omega
  have gt : ∀ i, i < t.length → (t ++ bh).getD i 0 = t.getD i 0 := fun i hi => getD_left hi
  unfold dueV
  rcases flaw_cases (t ++ bh) with hf | hf | hf
  case inr.inl =>
    rw [hf, if_neg (fun z => nomatch z)]
    exact .inl rfl
  case inr.inr =>
    rw [hf, if_neg (fun z => nomatch z)]
    exact .inr (.inl rfl)
  rw [if_pos hf]
  by_cases h4 : (at4 (t ++ bh) : Int) = (at3 (t ++ bh) : Int) * 65521 + (sg : Int)
  case neg =>
    rw [if_neg h4]
    exact .inr (.inr rfl)
  exfalso
  apply hne
  have w6 : ws.getD 6 0 = 16 + body.length := by
    have := head_get fs sg body [] 6 (by decide)
    rw [List.append_nil, hw] at this
    exact this
  have hfl := hf
  unfold flawV at hfl
  by_cases c1 : (t ++ bh).length < 16 ∨ (t ++ bh).getD 0 0 ≠ 1
  · rw [if_pos c1] at hfl
    cases hfl
  rw [if_neg c1] at hfl
  by_cases c2 : (t ++ bh).getD 6 0 < 16 ∨ 1024 < (t ++ bh).getD 6 0 ∨ (t ++ bh).length < (t ++ bh).getD 6 0 ∨ (t ++ bh).getD 8 0 < 16 ∨ (t ++ bh).getD 6 0 < (t ++ bh).getD 8 0
  · rw [if_pos c2] at hfl
    cases hfl
  rw [if_neg c2] at hfl
  rw [gt 6 (by omega)] at hfl c2
  have t6 : t.getD 6 0 = 16 + body.length := by
    rcases hp 6 (by omega) with z | z
    · rw [z, w6]
    · omega
  rw [t6, List.take_append_of_le_length (by omega), show 16 + body.length = t.length by omega, List.take_length] at hfl
  by_cases c3 : chkW LF t = at3 (t ++ bh)
  case neg =>
    rw [if_neg c3] at hfl
    cases hfl
  have hc0 : chkW LF ws = totN fs body := by rw [← hw]; exact head_chk fs sg body
  have h30 : at3 ws = totN fs body := by
    have := head_at3 fs sg body [] ht
    rw [List.append_nil, hw] at this
    exact this
  have h40 : at4 ws = totN fs body * 65521 + sg := by
    have := head_at4 fs sg body [] ht hs
    rw [List.append_nil, hw] at this
    exact this
  have hsum := sum_le_eq (fun i => (i + 1) * (65535 - t.getD i 0)) (fun i => (i + 1) * (65535 - ws.getD i 0)) ((List.range t.length).filter fun i => !LF.contains i) fun i hi => by
    have h1 := List.mem_range.mp (List.mem_filter.mp hi).1
    have := hge i h1
    exact Nat.mul_le_mul_left _ (by omega)
  have hct : chkW LF t = (((List.range t.length).filter fun i => !LF.contains i).map fun i => (i + 1) * (65535 - t.getD i 0)).sum := rfl
  have hcw : chkW LF ws = (((List.range t.length).filter fun i => !LF.contains i).map fun i => (i + 1) * (65535 - ws.getD i 0)).sum := by rw [hl]; rfl
  rw [← hct, ← hcw] at hsum
  have v3 : ∀ us : List Nat, at3 us = (us.getD 9 0 * 65536 + us.getD 10 0) * 65536 + us.getD 11 0 := fun us => by
    show (((0 * 65536 + us.getD 9 0) * 65536 + us.getD 10 0) * 65536 + us.getD 11 0) = _
    omega
  have v4 : ∀ us : List Nat, at4 us = ((us.getD 12 0 * 65536 + us.getD 13 0) * 65536 + us.getD 14 0) * 65536 + us.getD 15 0 := fun us => by
    show ((((0 * 65536 + us.getD 12 0) * 65536 + us.getD 13 0) * 65536 + us.getD 14 0) * 65536 + us.getD 15 0) = _
    omega
  have p9 := hge 9 (by omega)
  have p10 := hge 10 (by omega)
  have p11 := hge 11 (by omega)
  have p12 := hge 12 (by omega)
  have p13 := hge 13 (by omega)
  have p14 := hge 14 (by omega)
  have p15 := hge 15 (by omega)
  have a3 := v3 (t ++ bh)
  have a3w := v3 ws
  have a4 := v4 (t ++ bh)
  have a4w := v4 ws
  rw [gt 9 (by omega), gt 10 (by omega), gt 11 (by omega)] at a3
  rw [gt 12 (by omega), gt 13 (by omega), gt 14 (by omega), gt 15 (by omega)] at a4
  have heq : chkW LF t = chkW LF ws := by omega
  have hall := hsum.2 heq
  have e9 : t.getD 9 0 = ws.getD 9 0 := by omega
  have e10 : t.getD 10 0 = ws.getD 10 0 := by omega
  have e11 : t.getD 11 0 = ws.getD 11 0 := by omega
  have e12 : t.getD 12 0 = ws.getD 12 0 := by omega
  have e13 : t.getD 13 0 = ws.getD 13 0 := by omega
  have e14 : t.getD 14 0 = ws.getD 14 0 := by omega
  have e15 : t.getD 15 0 = ws.getD 15 0 := by omega
  apply List.ext_getElem hl
  intro i h1 h2
  have conv : ∀ (l : List Nat) (hi : i < l.length), l.getD i 0 = l[i] := fun l hi => by
    rw [List.getD_eq_getElem?_getD, List.getElem?_eq_getElem hi]
    rfl
  rw [← conv t h1, ← conv ws h2]
  by_cases hc : LF.contains i = true
  · have : i = 9 ∨ i = 10 ∨ i = 11 ∨ i = 12 ∨ i = 13 ∨ i = 14 ∨ i = 15 := by simpa using hc
    rcases this with z | z | z | z | z | z | z <;> (rw [z]; assumption)
  · have hc2 : LF.contains i = false := by simpa using hc
    have := hall i (List.mem_filter.mpr ⟨List.mem_range.mpr h1, by rw [hc2]; rfl⟩)
    have h3 := Nat.eq_of_mul_eq_mul_left (Nat.succ_pos i) this
    have := hge i h1
    have := hwl i
    omega
end R1

namespace R1
open PySem PySem.Spec PyProof.Rows L2 RK
local macro_rules | `(tactic| walk_at "sq") => `(tactic| first
  | exact SqL.of upd_same | exact upd_same | exact SqL.of (by assumption) | exact SqL.of (by rw [upd_ne (by assumption)]; assumption) | assumption)
local macro_rules | `(tactic| walk_at "sd") => `(tactic| first
  | assumption | omega | (refine Or.inl ⟨?_, ?_⟩ <;> omega) | (show _ ∧ _; constructor <;> omega) | (show _ ≠ _; simp; omega) | (exact Or.inl ⟨by decide, by decide⟩) | (exact Or.inr ⟨by decide, by decide⟩) | (show _ < _; decide) | (show _ ≤ _; decide))
local macro_rules | `(tactic| walk_at "at") => `(tactic| first | rfl | (refine atI_intV ?_ ?_ <;> omega) | assumption)
local macro_rules | `(tactic| walk_at "s1") => `(tactic| first
  | refine ⟨_, rfl, ?_⟩ | refine ⟨_, _, rfl, rfl, ?_⟩ | refine ⟨rfl, ?_⟩
  | refine ⟨_, _, _, _, rfl, rfl, by walk_at "sq", by walk_at "at", ?_⟩
  | refine Or.inl ⟨_, rfl, ?_⟩
  | refine ⟨_, _, rfl, Or.inl (by walk_at "sq"), ?_⟩
  | refine And.intro (by walk_at "sd") ?_)
local macro_rules | `(tactic| walk_at "s") => `(tactic| repeat walk_at "s1")

theorem ints_shaped (ws : List Nat) : SeqAt.shaped (intsD ws) = true := by
  unfold SeqAt.shaped
  rw [lay_intsD, Bool.true_and]
  have := dep_intsD ws
  exact decide_eq_true (by omega)
theorem dp_ints {K : PySem.W.Frag} {H : Hp} {t : Addr} {ws : List Nat} (h : SqT K H t (intV ws)) : Dp K H (.ref t) (intsD ws) := by
  rw [intV_ints] at h
  exact .tup h (DxAll.dp (dxAll_ints (S := noS) _))
section
variable {P : Program} {w : World} {K : PySem.W.Frag} {mg : Str → Option Value} {base : Heap} {A : Ads}
def spReason (K : PySem.W.Frag) : Sp := fun vs H Q _ => ∃ (a : Addr) (ws : List Nat), vs = [.ref a] ∧ H a = some (.lst (intV ws)) ∧ (∀ w ∈ ws, w ≤ 65535) ∧ ws.length ≤ 100000 ∧ ∀ H', Same H H' → Q (flawV ws) H'
theorem ok_law_reason (T : Txt K mg A) : FnOk P w K mg base CX0 6 A.a_law_reason A.d_law_reason ["_law_words"] (spReason K) := by
  refine T.F_law_reason.ok sc_law_reason (fun vs H Q E h => ?_) (fun cdv B outer s H vs Q E hr h => ?_)
  · obtain ⟨a, ws, rfl, _⟩ := h
    rfl
  · obtain ⟨a, ws, rfl, ha, hw, hl, q⟩ := h
    refine ⟨_, (pss_cons (ps_try_hitN (i := 2) rfl rfl sc_law_reason.nd rfl rfl ⟨rfl, by decide, .inl T.g_BadImage⟩ (fun W pn xe tk _ => (pss_one (ps_set (i := 1) sc_law_reason.nd rfl (.inl rfl) (DK.pe_makeS T.m_Image (FnOk.raw (ok_Image_init T) T.b_Image_init .nil) (hr.mono (by omega)) rfl T.g_Image (fun σ => L2N.passAt tk σ) (pa_cons (pe_callTy (r := rTupOf K) tuple_of (by rfl) T.n_tuple (by decide +kernel) (pa_cons (pv 0) pa_nil)) pa_nil)))))
      (fun a o cls d ps hz hf => (pss_one (ps_ret (pe_xf T.x_BadImage.xf T.x_BadImage.no hz.zc hf (pv 2))))))
    (pss_cons (ps_if (pt_cmpR (op_neD hr.units) (pe_fld (pv 1) rfl) (pe_callTy tuple_of (by rfl) T.n_tuple (by decide +kernel) (pa_cons (pe_slice sl_list (pv 0) po_none (po_some (pe_ix ix_list (pv 0) pe_int (fun _ _ => rfl)))) pa_nil)) (nomark _)) (pss_one (ps_ret pe_str)) pss_nil)
    (pss_one (ps_ret pe_non)))), ?_⟩
    refine ⟨_, rfl, a, _, rfl, .inl ⟨SqL.of ha, fun t ht => ?_⟩⟩
    intro x dx nx ndx ne
    have s1 : Same H (upd H t (.tup (intV ws))) := same_new ht
    have e1 : upd H t (.tup (intV ws)) t = some (.tup (intV ws)) := upd_same
    generalize upd H t (.tup (intV ws)) = H1 at s1 e1 nx ndx ⊢
    have s2 : Same H1 (upd (upd H1 dx (.own x)) x (.ins A.c_Image dx [])) := fun b o e => by
      rw [upd_ne (ne_of_none e nx), upd_ne (ne_of_none e ndx)]
      exact e
    have hx2 : upd (upd H1 dx (.own x)) x (.ins A.c_Image dx []) x = some (.ins A.c_Image dx []) := upd_same
    generalize upd (upd H1 dx (.own x)) x (.ins A.c_Image dx []) = H2 at s2 hx2 ⊢
    refine ⟨x, dx, t, ws, rfl, hx2, SqT.of (s2 _ _ e1), hw, hl, fun hf dz H3 s3 n3 e3 => ?_, fun hf H3 p fs b3 hx3 hfs hp3 => ?_⟩
    · refine ⟨T.x_BadImage.te, fun z hz => ?_⟩
      exact ⟨_, rfl, rfl, rfl, dz, _, _, rfl, e3, rfl, q _ ((s1.trans s2).trans s3)⟩
    · have s13 : Same H1 H3 := fun b o e => b3 b o (ne_of_none e nx) (s2 _ _ e)
      have ha3 := s13 _ _ (s1 _ _ ha)
      have h16 := flaw_len (ws := ws) (by rw [hf]; exact non_ne.1)
      refine ⟨rfl, _, rfl, x, A.c_Image, dx, _, _, rfl, hx3, T.cl_Image, T.na_Image_words, hfs, ?_⟩
      unfold tNoPart
      refine ⟨_, rfl, _, rfl, a, _, 6, _, rfl, rfl, SqL.of ha3, atI_nat (intV_at (i := 6) (by omega)), _, rfl, a, _, rfl, SqL.of ha3, fun l1 h1 => ?_⟩
      rw [cutV_hi, show (intV ws).take (ws.getD 6 0) = intV (ws.take (ws.getD 6 0)) from (List.map_take ..).symm]
      have s4 : Same H3 (upd H3 l1 (.lst (intV (ws.take (ws.getD 6 0))))) := same_new h1
      have e4 : upd H3 l1 (.lst (intV (ws.take (ws.getD 6 0)))) l1 = some (.lst (intV (ws.take (ws.getD 6 0)))) := upd_same
      generalize upd H3 l1 (.lst (intV (ws.take (ws.getD 6 0)))) = H4 at s4 e4 ⊢
      refine ⟨l1, _, rfl, .inl ⟨SqL.of e4, fun t2 ht2 => ?_⟩⟩
      have s5 : Same H4 (upd H4 t2 (.tup (intV (ws.take (ws.getD 6 0))))) := same_new ht2
      refine ⟨_, _, dp_ints (sqT_up hp3 (s4.trans s5)), dp_ints (SqT.of upd_same), ints_shaped _, ints_shaped _, ?_⟩
      rw [SeqAt.eqv_refl _ (lay_intsD _)]
      refine ⟨_, rfl, ifF rfl ?_⟩
      rw [hf] at q
      exact q _ ((s1.trans s13).trans (s4.trans s5))
end
end R1

namespace R1
open PySem PySem.Spec PyProof.Rows L2 RK
local macro_rules | `(tactic| walk_at "sq") => `(tactic| first
  | exact SqL.of upd_same | exact upd_same | exact SqL.of (by assumption) | exact SqL.of (by rw [upd_ne (by assumption)]; assumption) | assumption)
local macro_rules | `(tactic| walk_at "sd") => `(tactic| first
  | assumption | omega | (refine Or.inl ⟨?_, ?_⟩ <;> omega) | (show _ ∧ _; constructor <;> omega) | (show _ ≠ _; simp; omega) | (exact Or.inl ⟨by decide, by decide⟩) | (exact Or.inr ⟨by decide, by decide⟩) | (show _ < _; decide) | (show _ ≤ _; decide))
local macro_rules | `(tactic| walk_at "at") => `(tactic| first | rfl | (refine atI_intV ?_ ?_ <;> omega) | assumption)
local macro_rules | `(tactic| walk_at "s1") => `(tactic| first
  | refine ⟨_, rfl, ?_⟩ | refine ⟨_, _, rfl, rfl, ?_⟩ | refine ⟨rfl, ?_⟩
  | refine ⟨_, _, _, _, rfl, rfl, by walk_at "sq", by walk_at "at", ?_⟩
  | refine Or.inl ⟨_, rfl, ?_⟩
  | refine ⟨_, _, rfl, Or.inl (by walk_at "sq"), ?_⟩
  | refine And.intro (by walk_at "sd") ?_)
local macro_rules | `(tactic| walk_at "s") => `(tactic| repeat walk_at "s1")

theorem eqvA_ints : ∀ ws us : List Nat, PyData.eqvAll ((ws.map fun (n : Nat) => (n : Int)).map PyData.int) ((us.map fun (n : Nat) => (n : Int)).map PyData.int) = decide (ws = us)
  | [], [] => rfl
  | [], _ :: _ => rfl
  | _ :: _, [] => rfl
  | a :: r, b :: s => by
    show (PyData.eqv (.int (a : Int)) (.int (b : Int)) && PyData.eqvAll ((r.map fun (n : Nat) => (n : Int)).map PyData.int) ((s.map fun (n : Nat) => (n : Int)).map PyData.int)) = _
    rw [eqvA_ints r s]
    apply Bool.eq_iff_iff.mpr
    have : PyData.eqv (.int (a : Int)) (.int (b : Int)) = true ↔ a = b := by
      show ((a : Int) == (b : Int)) = true ↔ _
      rw [beq_iff_eq]
      omega
    rw [Bool.and_eq_true, this, decide_eq_true_eq, decide_eq_true_eq, List.cons.injEq]
def lstD (ws : List Nat) : PyData := .list ((ws.map fun (n : Nat) => (n : Int)).map PyData.int)
theorem dx_lst {K : PySem.W.Frag} {H : Hp} {p : Addr} {l : List Nat} (h : H p = some (.lst (intV l))) : Dx K H noS (.ref p) (lstD l) := by
  rw [intV_ints] at h
  exact .lst (XL.of h fun z => z.elim) (dxAll_ints _)
theorem lst_shaped (ws : List Nat) : SeqAt.shaped (lstD ws) = true := by
  unfold SeqAt.shaped
  have h1 : (lstD ws).canLay0 = true := lay_ints _
  have h2 : (lstD ws).depth ≤ 1 := by
    show PyData.depthAll _ + 1 ≤ 1
    rw [dep_ints]
    exact Nat.le_refl 1
  rw [h1, Bool.true_and]
  exact decide_eq_true (by omega)
theorem eqv_lst (ws us : List Nat) : PyData.eqv (lstD ws) (lstD us) = decide (ws = us) := eqvA_ints ws us
theorem due_cases (ws : List Nat) (m s h : Int) : dueV ws m s h = .non ∨ ∃ x : Str, dueV ws m s h = .str x ∧ (PyData.str x).canLay0 = true := by
  have f := flaw_cases ws
  unfold dueV
  by_cases hf : flawV ws = .non
  · rw [if_pos hf]
    split
    · split
      · split
        · exact .inl rfl
        · exact .inr ⟨_, rfl, by decide +kernel⟩
      · exact .inr ⟨_, rfl, by decide +kernel⟩
    · exact .inr ⟨_, rfl, by decide +kernel⟩
  · rw [if_neg hf]
    rcases f with z | z | z
    · exact absurd z hf
    · rw [z]
      exact .inr ⟨_, rfl, by decide +kernel⟩
    · rw [z]
      exact .inr ⟨_, rfl, by decide +kernel⟩
theorem due_dx (ws : List Nat) (m s h : Int) : ∃ d : PyData, d.canLay0 = true ∧ d.depth ≤ 1 ∧ wdB d = true ∧ flatV (dueV ws m s h) = true ∧ ∀ {K : PySem.W.Frag} {H : Hp}, Dx K H noS (dueV ws m s h) d := by
  rcases due_cases ws m s h with z | ⟨x, z, hx⟩
  · rw [z]
    exact ⟨.none, rfl, Nat.zero_le _, rfl, rfl, .non⟩
  · rw [z]
    exact ⟨.str x, hx, Nat.zero_le _, rfl, rfl, .str x⟩
theorem flaw_dx (ws : List Nat) : ∃ d : PyData, d.canLay0 = true ∧ d.depth ≤ 1 ∧ wdB d = true ∧ ∀ {K : PySem.W.Frag} {H : Hp}, Dx K H noS (flawV ws) d := by
  rcases flaw_cases ws with z | z | z
  · rw [z]
    exact ⟨.none, rfl, Nat.zero_le _, rfl, .non⟩
  · rw [z]
    exact ⟨.str _, by decide +kernel, Nat.zero_le _, rfl, .str _⟩
  · rw [z]
    exact ⟨.str _, by decide +kernel, Nat.zero_le _, rfl, .str _⟩
theorem pl_fin {K : PySem.W.Frag} {H H' : Hp} {S S' : ASet} {v v' : V} {d : PyData} (f : d.canLay0 = true) (f2 : d.depth ≤ 1) (h1 : Dx K H S v (plD d)) (s : Same H H') (h2 : Dx K H' S' v' (plD d)) : Dp K H' v (plD d) ∧ Dp K H' v' (plD d) ∧ SeqAt.shaped (plD d) = true ∧ PyData.eqv (plD d) (plD d) = true :=
  ⟨(Dx.up (Out.of s) h1).dp, h2.dp, plD_shaped f (Nat.le_trans f2 (by decide)), SeqAt.eqv_refl _ (plD_lay d f)⟩
theorem head_le {fs body : List Nat} {sg : Nat} (hb : body.length ≤ 1008) (hfw : ∀ w ∈ fs, w ≤ 65535) (hbw : ∀ w ∈ body, w ≤ 65535) : ∀ w ∈ headN fs sg body, w ≤ 65535 := fun w hw => by
  have hfg : ∀ i, fs.getD i 0 ≤ 65535 := fun i => by
    rw [List.getD_eq_getElem?_getD]
    cases h : fs[i]? with
    | none => exact Nat.zero_le _
    | some z => exact hfw _ (List.mem_of_getElem? h)
  unfold headN at hw
  rcases List.mem_append.mp hw with hw | hw
  · rcases List.mem_append.mp hw with hw | hw
    · rcases List.mem_append.mp hw with hw | hw
      · have a0 := hfg 0
        have a1 := hfg 1
        have a2 := hfg 2
        have a3 := hfg 3
        have a4 := hfg 4
        have a5 := hfg 5
        have : w = 1 ∨ w = fs.getD 0 0 ∨ w = fs.getD 1 0 ∨ w = fs.getD 2 0 ∨ w = 0 ∨ w = fs.getD 3 0 ∨ w = 16 + body.length ∨ w = fs.getD 4 0 ∨ w = fs.getD 5 0 := by simpa [head9] using hw
        omega
      · exact digN_le _ _ w hw
    · exact digN_le _ _ w hw
  · exact hbw w hw
theorem three_at {a0 a1 a2 : Int} {i : Nat} {x : V} (h : [V.int a0, V.int a1, V.int a2][i]? = some x) : ∃ m : Int, x = .int m := by
  match i, h with
  | 0, h => exact ⟨a0, (Option.some.inj h).symm⟩
  | 1, h => exact ⟨a1, (Option.some.inj h).symm⟩
  | 2, h => exact ⟨a2, (Option.some.inj h).symm⟩
  | n + 3, h => cases h
section
variable {P : Program} {w : World} {K : PySem.W.Frag} {mg : Str → Option Value} {base : Heap} {A : Ads}
def spLaw (K : PySem.W.Frag) : Sp := fun vs H Q _ => ∃ (a : Addr) (ns : List Int), vs = [.ref a] ∧ SqL K H a (ns.map V.int) ∧ ns.length ≤ 63 ∧ ∀ H', Q (.bl true) H'
theorem ok_law (T : Txt K mg A) : FnOk P w K mg base CX0 9 A.a_law A.d_law ["_law_script"] (spLaw K) := by
  refine T.F_law.ok sc_law (fun vs H Q E h => ?_) (fun cdv B outer s H vs Q E hr h => ?_)
  · obtain ⟨a, ns, rfl, _⟩ := h
    rfl
  · obtain ⟨a, ns, rfl, hS, hl, q⟩ := h
    refine ⟨_, (pss_cons (ps_set (i := 1) sc_law.nd rfl (.inr rfl) (pe_call (ok_law_source T) (hr.mono (by omega)) rfl T.g_law_source T.F_law_source.kp T.b_law_source .nil pass0 (pa_cons (pv 0) pa_nil)))
    (pss_cons (ps_set (i := 2) sc_law.nd rfl (.inl rfl) (pe_call (ok_law_body T) (hr.mono (by omega)) rfl T.g_law_body T.F_law_body.kp T.b_law_body .nil pass0 (pa_cons (pv 1) pa_nil)))
    (pss_cons (ps_set (i := 4) sc_law.nd rfl (.inl rfl) (pe_op op_cat (pe_lc (own := [("_law_step", 3)]) rfl sc_law.nd (pi_range1 (by rfl) T.n_range (pa_cons pe_int pa_nil)) (blkOk_by (own := [("_law_step", 3)]) (N := N_law) (sc := defScope s_law) (by decide +kernel)) (fun _ _ _ _ _ => pg_name (i := 3) sc_law.nd rfl (Or.inl rfl)) (fun _ _ _ _ _ => pts_nil) (fun _ _ _ _ _ => by exact (pe_call (ok_law_end_word T) (hr.mono (by omega)) rfl T.g_law_end_word T.F_law_end_word.kp T.b_law_end_word .nil pass0 (pa_cons (pv 1) pa_nil)))) (pe_lst (pa_cons (pe_op op_add pe_int (pe_call (ok_law_draw T) (hr.mono (by omega)) rfl T.g_law_draw T.F_law_draw.kp T.b_law_draw .nil pass0 (pa_cons (pv 1) (pa_cons pe_int pa_nil)))) (pa_cons (pe_call (ok_law_end_word T) (hr.mono (by omega)) rfl T.g_law_end_word T.F_law_end_word.kp T.b_law_end_word .nil pass0 (pa_cons (pv 1) pa_nil)) pa_nil)))))
    (pss_cons (ps_set (i := 4) sc_law.nd rfl (.inl rfl) (pe_op op_cat (pv 4) (pe_lst (pa_cons (pe_op op_add pe_int (pe_call (ok_law_draw T) (hr.mono (by omega)) rfl T.g_law_draw T.F_law_draw.kp T.b_law_draw .nil pass0 (pa_cons (pv 1) (pa_cons (pe_op op_add (pe_callB len_seq (by rfl) T.n_len (by decide +kernel) (pa_cons (pv 2) pa_nil)) pe_int) pa_nil)))) pa_nil))))
    (pss_cons (ps_set (i := 5) sc_law.nd rfl (.inl rfl) (pe_ix ix_tup (pe_tup (pa_cons pe_int (pa_cons pe_int (pa_cons (pe_call (ok_law_draw T) (hr.mono (by omega)) rfl T.g_law_draw T.F_law_draw.kp T.b_law_draw .nil pass0 (pa_cons (pv 1) (pa_cons pe_int pa_nil))) (pa_cons (pe_call (ok_law_draw T) (hr.mono (by omega)) rfl T.g_law_draw T.F_law_draw.kp T.b_law_draw .nil pass0 (pa_cons (pv 1) (pa_cons pe_int pa_nil))) pa_nil))))) (pe_call (ok_law_draw T) (hr.mono (by omega)) rfl T.g_law_draw T.F_law_draw.kp T.b_law_draw .nil pass0 (pa_cons (pv 1) (pa_cons pe_int pa_nil))) (fun _ _ => rfl)))
    (pss_cons (ps_set (i := 6) sc_law.nd rfl (.inr rfl) (pe_call (ok_law_headed T) (hr.mono (by omega)) rfl T.g_law_headed T.F_law_headed.kp T.b_law_headed .nil pass0 (pa_cons (pv 4) (pa_cons (pv 5) (pa_cons (pv 2) pa_nil)))))
    (pss_cons (ps_set (i := 7) sc_law.nd rfl (.inr rfl) (pe_call (ok_law_places T) (hr.mono (by omega)) rfl T.g_law_places T.F_law_places.kp T.b_law_places .nil pass0 (pa_cons (pv 1) (pa_cons (pe_callB len_seq (by rfl) T.n_len (by decide +kernel) (pa_cons (pv 6) pa_nil)) pa_nil))))
    (pss_cons (ps_setLc (i := 9) (own := [("_law_place", 8)]) rfl sc_law.nd rfl rfl (sw_true rfl rfl rfl (by decide +kernel)) (pi_range1 (by rfl) T.n_range (pa_cons (pe_callB len_seq (by rfl) T.n_len (by decide +kernel) (pa_cons (pv 6) pa_nil)) pa_nil)) (blkOk_by (own := [("_law_place", 8)]) (N := N_law) (sc := defScope s_law) (by decide +kernel)) (fun _ _ _ _ _ => pg_name (i := 8) sc_law.nd rfl (Or.inl rfl)) (fun _ _ _ _ _ => pts_nil) (fun _ _ _ _ _ => by exact (pe_ifExp (pt_val (pe_ix (r := rIxL K) ix_list (pv 7) (pv 8) (fun _ _ => rfl))) pe_int (pe_ix (r := rIxL K) ix_list (pv 6) (pv 8) (fun _ _ => rfl)))))
    (pss_cons (ps_setLc (i := 10) (own := [("_law_step", 3)]) rfl sc_law.nd rfl rfl (sw_true rfl rfl rfl (by decide +kernel)) (pi_range1 (by rfl) T.n_range (pa_cons (pe_call (ok_law_draw T) (hr.mono (by omega)) rfl T.g_law_draw T.F_law_draw.kp T.b_law_draw .nil pass0 (pa_cons (pv 1) (pa_cons pe_int pa_nil))) pa_nil)) (blkOk_by (own := [("_law_step", 3)]) (N := N_law) (sc := defScope s_law) (by decide +kernel)) (fun _ _ _ _ _ => pg_name (i := 3) sc_law.nd rfl (Or.inl rfl)) (fun _ _ _ _ _ => pts_nil) (fun _ _ _ _ _ => by exact (pe_call (ok_law_end_word T) (hr.mono (by omega)) rfl T.g_law_end_word T.F_law_end_word.kp T.b_law_end_word .nil pass0 (pa_cons (pv 1) pa_nil))))
    (pss_cons (ps_set (i := 11) sc_law.nd rfl (.inl rfl) (pe_lst (pa_cons (pe_op op_mod (pe_callTy call_int1 (by rfl) T.n_int (by decide +kernel) (pa_cons (pe_op op_add (pe_op op_add (pe_ix ix_list (pv 4) pe_int (fun _ _ => rfl)) pe_int) (pe_call (ok_law_draw T) (hr.mono (by omega)) rfl T.g_law_draw T.F_law_draw.kp T.b_law_draw .nil pass0 (pa_cons (pv 1) (pa_cons pe_int pa_nil)))) pa_nil)) pe_int) (pa_cons (pe_op op_mod (pe_callTy call_int1 (by rfl) T.n_int (by decide +kernel) (pa_cons (pe_op op_add (pe_op op_add (pe_ix ix_list (pv 4) pe_int (fun _ _ => rfl)) pe_int) (pe_call (ok_law_draw T) (hr.mono (by omega)) rfl T.g_law_draw T.F_law_draw.kp T.b_law_draw .nil pass0 (pa_cons (pv 1) (pa_cons pe_int pa_nil)))) pa_nil)) pe_int) pa_nil))))
    (pss_cons (ps_set (i := 12) sc_law.nd rfl (.inl rfl) (pe_op op_cat (pv 9) (pv 10)))
    (pss_cons (ps_for PassesOwn.never rfl (pi_tup (pe_tup (pa_cons (pe_ix ix_list (pv 4) pe_int (fun _ _ => rfl)) (pa_cons (pe_ix ix_list (pv 9) pe_int (fun _ _ => rfl)) (pa_cons (pe_ix ix_list (pv 11) pe_int (fun _ _ => rfl)) pa_nil))))) (pg_name (i := 13) sc_law.nd rfl (.inl rfl))
      (pss_one (ps_for PassesOwn.never rfl (pi_tup (pe_tup (pa_cons (pe_ix ix_list (pv 4) pe_int (fun _ _ => rfl)) (pa_cons (pe_ix ix_list (pv 9) pe_int (fun _ _ => rfl)) (pa_cons (pe_ix ix_list (pv 11) pe_int (fun _ _ => rfl)) pa_nil))))) (pg_name (i := 14) sc_law.nd rfl (.inl rfl))
      (pss_cons (ps_set (i := 15) sc_law.nd rfl (.inl rfl) (pe_call (ok_law_due T) (hr.mono (by omega)) rfl T.g_law_due T.F_law_due.kp T.b_law_due .nil pass0 (pa_cons (pv 12) (pa_cons (pv 13) (pa_cons (pv 5) (pa_cons (pv 14) pa_nil))))))
    (pss_cons (ps_if (PW.pt (pw_and (pt_cmpR (op_neD hr.units) (pv 9) (pv 6) (nomark _)) (pw_and1 (pt_cmpR op_notIn_seq (pv 15) (pe_tup (pa_cons pe_str (pa_cons pe_str (pa_cons pe_str pa_nil)))) (by rfl))))) (pss_one (ps_ret pe_bl)) pss_nil)
    (pss_cons (ps_set (i := 16) sc_law.nd rfl (.inl rfl) (pe_callK (ok_refusal T) (hr.mono (by omega)) rfl T.g_refusal T.F_refusal.kp T.b_refusal pass0 (pa_cons (pe_callTy tuple_of (by rfl) T.n_tuple (by decide +kernel) (pa_cons (pv 12) pa_nil)) pa_nil) (pk_cons (pv 13) (pk_cons (pv 5) (pk_cons (pv 14) pk_nil)))))
    (pss_one (ps_if (pt_cmpR (op_neD hr.units) (pe_call (ok_plain T 2) (hr.mono (by omega)) rfl T.g_law_plain T.F_law_plain.kp T.b_law_plain .nil pass0 (pa_cons (pv 16) pa_nil)) (pe_call (ok_plain T 2) (hr.mono (by omega)) rfl T.g_law_plain T.F_law_plain.kp T.b_law_plain .nil pass0 (pa_cons (pv 15) pa_nil)) (nomark _)) (pss_one (ps_ret pe_bl)) pss_nil))))))))
    (pss_cons (ps_if (PW.pt (pw_and (pt_cmpR (op_eqD hr.units) (pv 9) (pv 6) (nomark _)) (pw_and1 (pt_cmpR op_notN (pe_call (ok_law_due T) (hr.mono (by omega)) rfl T.g_law_due T.F_law_due.kp T.b_law_due .nil pass0 (pa_cons (pv 12) (pa_cons (pe_ix ix_list (pv 4) pe_int (fun _ _ => rfl)) (pa_cons (pv 5) (pa_cons (pe_ix ix_list (pv 4) pe_int (fun _ _ => rfl)) pa_nil))))) pe_non (nomark _))))) (pss_one (ps_ret pe_bl)) pss_nil)
    (pss_one (ps_ret (pe_cmpR (op_eqD hr.units) (pe_call (ok_plain T 2) (hr.mono (by omega)) rfl T.g_law_plain T.F_law_plain.kp T.b_law_plain .nil pass0 (pa_cons (pe_call (ok_law_reason T) (hr.mono (by omega)) rfl T.g_law_reason T.F_law_reason.kp T.b_law_reason .nil pass0 (pa_cons (pv 12) pa_nil)) pa_nil)) (pe_call (ok_plain T 2) (hr.mono (by omega)) rfl T.g_law_plain T.F_law_plain.kp T.b_law_plain .nil pass0 (pa_cons (pe_call (ok_law_flaw T) (hr.mono (by omega)) rfl T.g_law_flaw T.F_law_flaw.kp T.b_law_flaw .nil pass0 (pa_cons (pv 12) pa_nil)) pa_nil)) (nomark _))))))))))))))))), ?_⟩
    refine ⟨_, rfl, a, ns, rfl, hS, hl, fun H1 c p s1 nc np hs1 => ?_⟩
    refine ⟨_, rfl, c, p, rfl, hs1, fun H2 ba body hs2 b2 eb hbl hbw => ?_⟩
    have nb := src_ints hs2 eb
    refine ⟨3, rfl, by decide, by decide, fun D hD => ?_⟩
    have hsb := hs2
    obtain ⟨n, hn3⟩ : ∃ n : Nat, n = 3 := ⟨3, rfl⟩
    rw [show ((3 : Int)).toNat = n by rw [hn3]; rfl]
    refine lc_inv (walk_range (lo := 0) (n := n)) (fun i v => True) (fun i acc H4 => Src c H4 p ∧ But p _ H4 ∧ ∃ ws : List Nat, acc = intV ws ∧ ∀ w ∈ ws, w ≤ 65535) (by omega) ⟨src_up hsb (same_new hD), But.of (same_new hD), [], rfl, by simp⟩ (fun _ _ _ _ => trivial) (fun i H1 v H2 hi y => ⟨y.1, trivial⟩) (fun i v acc H4 hi hl pv e5 _ Q q => ?_) (fun acc H6 hl4 pv e6 => ?_)
    · obtain ⟨hs4, b4, ws, rfl, hw⟩ := pv
      have np := src_ints hs4 e5
      refine ⟨_, rfl, c, p, rfl, hs4, fun H5 w hw5 hs5' b5 => ?_⟩
      refine q _ H5 (b5 _ _ np e5) ⟨src_put hs5' np fun z => src_cne hsb (z ▸ hD), but_new (b4.trans b5) hD, ws ++ [w], by unfold intV; rw [List.map_append]; rfl, fun x hx => ?_⟩
      rcases List.mem_append.mp hx with z | z
      · exact hw x z
      · have := List.mem_singleton.mp z
        omega
    obtain ⟨hs6, b6, ws, rfl, hw⟩ := pv
    have hn : ws.length = n := by unfold intV at hl4; rw [List.length_map] at hl4; exact hl4
    have nD := src_ints hs6 e6
    refine ⟨_, rfl, c, p, 63487, rfl, hs6, by decide, by decide, fun H7 r7 l7 hs7 b7 => ?_⟩
    refine ⟨_, _, rfl, rfl, _, rfl, c, p, rfl, hs7, fun H8 w8 l8 hs8 b8 => ?_⟩
    have e8 := b8 _ _ nD (b7 _ _ nD e6)
    have eb8 := b8 _ _ nb (b7 _ _ nb (b6 _ _ nb eb))
    refine ⟨lenOk (n := 2) rfl (by decide), fun la hla => ?_⟩
    have ela : upd H8 la (.lst [V.int (1 + (r7 : Int)), V.int (w8 : Int)]) la = some (.lst (intV [1 + r7, w8])) := by
      rw [upd_same, show (1 : Int) + (r7 : Int) = ((1 + r7 : Nat) : Int) by omega]
      rfl
    have sa := same_new (o := .lst [V.int (1 + (r7 : Int)), V.int (w8 : Int)]) hla
    generalize upd H8 la (.lst [V.int (1 + (r7 : Int)), V.int (w8 : Int)]) = H9 at ela sa ⊢
    refine ⟨D, la, _, _, rfl, rfl, sa _ _ e8, ela, lim (by rw [intV_len, intV_len, hn, hn3]; show 3 + 2 ≤ 100000; decide), fun f1 hf1 => ?_⟩
    have ef1 : upd H9 f1 (.lst (intV ws ++ intV [1 + r7, w8])) f1 = some (.lst (intV (ws ++ [1 + r7, w8]))) := by rw [upd_same, intV_app]
    have sf1 := same_new (o := .lst (intV ws ++ intV [1 + r7, w8])) hf1
    generalize upd H9 f1 (.lst (intV ws ++ intV [1 + r7, w8])) = H10 at ef1 sf1 ⊢
    have hs10 := src_up hs8 (sa.trans sf1)
    have eb10 := (sa.trans sf1) _ _ eb8
    have nf1 := src_ints hs10 ef1
    refine ⟨_, rfl, _, rfl, _, rfl, ba, _, rfl, .inl (SqL.of eb10), _, _, rfl, rfl, c, p, ((body.length + 1 : Nat) : Int), congrArg (fun z => [V.ref p, V.int z]) (by rw [intV_len]; omega), hs10, by omega, by omega, fun H11 r11 l11 hs11 b11 => ?_⟩
    refine ⟨_, _, rfl, rfl, lenOk (n := 1) rfl (by decide), fun lb hlb => ?_⟩
    have elb : upd H11 lb (.lst [V.int (16 + (r11 : Int))]) lb = some (.lst (intV [16 + r11])) := by
      rw [upd_same, show (16 : Int) + (r11 : Int) = ((16 + r11 : Nat) : Int) by omega]
      rfl
    have sb := same_new (o := .lst [V.int (16 + (r11 : Int))]) hlb
    generalize upd H11 lb (.lst [V.int (16 + (r11 : Int))]) = H12 at elb sb ⊢
    refine ⟨f1, lb, _, _, rfl, rfl, sb _ _ (b11 _ _ nf1 ef1), elb, lim (by rw [intV_len, intV_len, List.length_append, hn, hn3]; show 3 + 2 + 1 ≤ 100000; decide), fun fa hfa => ?_⟩
    obtain ⟨fs, hfs⟩ : ∃ fs, fs = ws ++ [1 + r7, w8] ++ [16 + r11] := ⟨_, rfl⟩
    have efa : upd H12 fa (.lst (intV (ws ++ [1 + r7, w8]) ++ intV [16 + r11])) fa = some (.lst (intV fs)) := by rw [upd_same, hfs, intV_app (ws ++ [1 + r7, w8])]
    have sfa := same_new (o := .lst (intV (ws ++ [1 + r7, w8]) ++ intV [16 + r11])) hfa
    generalize upd H12 fa (.lst (intV (ws ++ [1 + r7, w8]) ++ intV [16 + r11])) = H13 at efa sfa ⊢
    have hs13 := src_up hs11 (sb.trans sfa)
    have eb13 := (sb.trans sfa) _ _ (b11 _ _ nb eb10)
    have nfa := src_ints hs13 efa
    have hfl : fs.length = 6 := by rw [hfs, List.length_append, List.length_append, hn, hn3]; rfl
    have hf5 : fs.getD 5 0 = 16 + r11 := by
      rw [hfs, getD_right (by rw [List.length_append, hn, hn3]; show 3 + 2 ≤ 5; decide), List.length_append, hn, hn3]
      rfl
    have hfw : ∀ w ∈ fs, w ≤ 65535 := fun x hx => by
      rw [hfs] at hx
      rcases List.mem_append.mp hx with hx | hx
      · rcases List.mem_append.mp hx with hx | hx
        · exact hw x hx
        · have : x = 1 + r7 ∨ x = w8 := by simpa using hx
          omega
      · have : x = 16 + r11 := by simpa using hx
        omega
    have h5 : 16 ≤ fs.getD 5 0 ∧ fs.getD 5 0 ≤ 16 + body.length := by omega
    clear hfs e8 eb8 ela ef1 elb eb10 hD hla hf1 hlb hfa hsb hs6 e6 nD hw
    -- the sign
    refine ⟨_, rfl, c, p, 65521, rfl, hs13, by decide, by decide, fun H14 z1 lz1 hs14 b14 => ?_⟩
    refine ⟨_, rfl, c, p, 65521, rfl, hs14, by decide, by decide, fun H15 z2 lz2 hs15 b15 => ?_⟩
    refine ⟨lenOk (n := 4) rfl (by decide), fun t4 ht4 => ?_⟩
    have et4 : upd H15 t4 (.tup [V.int 0, V.int 65520, V.int (z1 : Int), V.int (z2 : Int)]) t4 = some (.tup (intV [0, 65520, z1, z2])) := upd_same
    have st4 := same_new (o := .tup [V.int 0, V.int 65520, V.int (z1 : Int), V.int (z2 : Int)]) ht4
    generalize upd H15 t4 (.tup [V.int 0, V.int 65520, V.int (z1 : Int), V.int (z2 : Int)]) = H16 at et4 st4 ⊢
    have hs16 := src_up hs15 st4
    have nt4 : t4 ≠ p := fun z => by
      obtain ⟨_, _, _, _, _, h1, _⟩ := hs16
      rw [← z, et4] at h1
      cases h1
    refine ⟨_, rfl, c, p, 4, rfl, hs16, by decide, by decide, fun H17 k17 l17 hs17 b17 => ?_⟩
    obtain ⟨sg, hsg⟩ : ∃ sg, sg = [0, 65520, z1, z2].getD k17 0 := ⟨_, rfl⟩
    refine ⟨t4, _, _, _, rfl, rfl, SqT.of (b17 _ _ nt4 et4), atI_nat (intV_at (by show _ < 4; omega)), ?_⟩
    rw [← hsg]
    have hsl : sg ≤ 65520 := by
      have : k17 = 0 ∨ k17 = 1 ∨ k17 = 2 ∨ k17 = 3 := by omega
      rcases this with z | z | z | z <;> (rw [z] at hsg; rw [hsg]; show (_ : Nat) ≤ _; simp only [List.getD_cons_zero, List.getD_cons_succ]; omega)
    have b1317 : But p H13 H17 := b14.trans (b15.trans ((But.of st4).trans b17))
    have ef17 := b1317 _ _ nfa efa
    have eb17 := b1317 _ _ nb eb13
    clear hsg et4 nt4 ht4 st4 b14 b15 b17
    refine ⟨_, rfl, _, rfl, _, rfl, fa, ba, fs, body, sg, rfl, ef17, hfl, eb17, hbl, hfw, hbw, fun H18 wl s18 n18 ew => ?_⟩
    obtain ⟨W, hW⟩ : ∃ W, W = headN fs sg body := ⟨_, rfl⟩
    have hWl : W.length = 16 + body.length := by rw [hW]; exact head_len _ _ _
    have hWw : ∀ w ∈ W, w ≤ 65535 := by rw [hW]; exact head_le hbl hfw hbw
    rw [← hW] at ew
    have hil := intV_len W
    have hs18 := src_up hs17 s18
    have ef18 := s18 _ _ ef17
    have nwl := src_ints hs18 ew
    clear eb17 s18 n18 ef17 efa eb13 hs17 b1317 hs16 hs15 hs14
    refine ⟨_, rfl, _, rfl, wl, _, rfl, .inl (SqL.of ew), c, p, (intV W).length, rfl, hs18, by omega, by omega, fun H19 ls bs hs19 b19 els hbsl => ?_⟩
    have ew19 := b19 _ _ nwl ew
    have ef19 := b19 _ _ nfa ef18
    have nls := src_bls hs19 els
    refine ⟨_, rfl, wl, _, rfl, .inl (SqL.of ew19), _, rfl, by omega, by omega, fun D2 hD2 => ?_⟩
    rw [Int.toNat_natCast, hil]
    rw [hil] at hbsl
    refine lc_vals (walk_range (lo := 0) (n := W.length)) (fun i v => v = .int (0 + (i : Int))) (fun i => .int (((if bs.getD i false = true then 65535 else W.getD i 0) : Nat) : Int)) hD2 (fun _ _ => trivial) (by omega) (fun i H1 v H2 hi y => ⟨y.1, y.2⟩) (fun i v H4 hi sm hv Q q => ?_) (fun H20 s20 e20 => ?_)
    · subst hv
      have hb1 : (bs.map V.bl)[i]? = some (.bl (bs.getD i false)) := by
        rw [List.getElem?_map, List.getElem?_eq_getElem (by omega), List.getD_eq_getElem?_getD, List.getElem?_eq_getElem (by omega)]
        rfl
      have hi0 : (0 : Int) + (i : Int) = ((i : Nat) : Int) := by omega
      refine ⟨_, rfl, _, rfl, ls, _, _, _, rfl, rfl, SqL.of (sm _ _ els), by rw [hi0]; exact atI_nat hb1, _, rfl, ?_⟩
      cases hb2 : bs.getD i false with
      | true =>
        rw [hb2, if_pos rfl] at q
        exact q _ (Same.refl _)
      | false =>
        rw [hb2, if_neg Bool.false_ne_true] at q
        exact ⟨_, rfl, _, rfl, wl, _, _, _, rfl, rfl, SqL.of (sm _ _ ew19), by rw [hi0]; exact atI_nat (intV_at hi), q _ (Same.refl _)⟩
    obtain ⟨tl, htl⟩ : ∃ tl, tl = (List.range W.length).map fun i => if bs.getD i false = true then 65535 else W.getD i 0 := ⟨_, rfl⟩
    rw [← intV_map (fun i => if bs.getD i false = true then 65535 else W.getD i 0), ← htl] at e20
    have htll : tl.length = W.length := by rw [htl, List.length_map, List.length_range]
    have htp : ∀ i, i < tl.length → tl.getD i 0 = W.getD i 0 ∨ tl.getD i 0 = 65535 := fun i hi => by
      rw [htll] at hi
      have : tl.getD i 0 = if bs.getD i false = true then 65535 else W.getD i 0 := by
        rw [htl, List.getD_eq_getElem?_getD, List.getElem?_map, List.getElem?_range hi]
        rfl
      rw [this]
      split
      · exact .inr rfl
      · exact .inl rfl
    clear htl
    have hs20 := src_up hs19 s20
    have ew20 := s20 _ _ ew19
    have ef20 := s20 _ _ ef19
    have nD2 := src_ints hs20 e20
    clear ew19 ef19 els hbsl s20 hD2 b19 hs19 hs18 ef18 ew hn hn3 hs13 hs11 hs10 hs8 hs7 b7 b8 b11 sf1 sb sfa sa
    -- what stands behind
    refine ⟨_, rfl, c, p, 4, rfl, hs20, by decide, by decide, fun H21 n ln hsb b21 => ⟨(n : Int), rfl, by omega, by omega, fun D hD => ?_⟩⟩
    rw [Int.toNat_natCast]
    refine lc_inv (walk_range (lo := 0) (n := n)) (fun i v => True) (fun i acc H4 => Src c H4 p ∧ But p _ H4 ∧ ∃ ws : List Nat, acc = intV ws ∧ ∀ w ∈ ws, w ≤ 65535) (by omega) ⟨src_up hsb (same_new hD), But.of (same_new hD), [], rfl, by simp⟩ (fun _ _ _ _ => trivial) (fun i H1 v H2 hi y => ⟨y.1, trivial⟩) (fun i v acc H4 hi hl pv e5 _ Q q => ?_) (fun acc H6 hl4 pv e6 => ?_)
    · obtain ⟨hs4, b4, ws, rfl, hw⟩ := pv
      have np := src_ints hs4 e5
      refine ⟨_, rfl, c, p, rfl, hs4, fun H5 w hw5 hs5' b5 => ?_⟩
      refine q _ H5 (b5 _ _ np e5) ⟨src_put hs5' np fun z => src_cne hsb (z ▸ hD), but_new (b4.trans b5) hD, ws ++ [w], by unfold intV; rw [List.map_append]; rfl, fun x hx => ?_⟩
      rcases List.mem_append.mp hx with z | z
      · exact hw x z
      · have := List.mem_singleton.mp z
        omega
    obtain ⟨hs6, b6, ws, rfl, hw⟩ := pv
    have hn : ws.length = n := by unfold intV at hl4; rw [List.length_map] at hl4; exact hl4
    have b206 := b21.trans b6
    have ew6 := b206 _ _ nwl ew20
    have ef6 := b206 _ _ nfa ef20
    have et6 := b206 _ _ nD2 e20
    have nD := src_ints hs6 e6
    have hfi : ∀ i, i < 6 → (intV fs)[i]? = some (.int ((fs.getD i 0 : Nat) : Int)) := fun i h => intV_at (by omega)
    refine ⟨_, rfl, fa, _, 0, _, rfl, rfl, SqL.of ef6, atI_nat (hfi 0 (by decide)), _, _, rfl, rfl, _, rfl, c, p, 3, rfl, hs6, by decide, by decide, fun H22 m1 lm1 hs22 b22 => ?_⟩
    refine ⟨_, _, rfl, rfl, .inl ⟨_, rfl, _, _, rfl, rfl, (by show (0 : Int) < 65536; decide), ?_⟩⟩
    refine ⟨_, rfl, fa, _, 3, _, rfl, rfl, SqL.of (b22 _ _ nfa ef6), atI_nat (hfi 3 (by decide)), _, _, rfl, rfl, _, rfl, c, p, 3, rfl, hs22, by decide, by decide, fun H23 m2 lm2 hs23 b23 => ?_⟩
    refine ⟨_, _, rfl, rfl, .inl ⟨_, rfl, _, _, rfl, rfl, (by show (0 : Int) < 65536; decide), ?_⟩⟩
    refine ⟨lenOk (n := 2) rfl (by decide), fun lo hlo => ?_⟩
    dsimp only
    generalize (((fs.getD 0 0 : Nat) : Int) + 1 + (m1 : Int)) % 65536 = o1 at hlo ⊢
    generalize (((fs.getD 3 0 : Nat) : Int) + 1 + (m2 : Int)) % 65536 = o2 at hlo ⊢
    have elo : upd H23 lo (.lst [V.int o1, V.int o2]) lo = some (.lst [V.int o1, V.int o2]) := upd_same
    have slo := same_new (o := .lst [V.int o1, V.int o2]) hlo
    generalize upd H23 lo (.lst [V.int o1, V.int o2]) = H24 at elo slo ⊢
    have b624 : But p H6 H24 := b22.trans (b23.trans (But.of slo))
    have et24 := b624 _ _ nD2 et6
    refine ⟨_, rfl, _, rfl, D2, D, _, _, rfl, rfl, et24, b624 _ _ nD e6, lim (by rw [intV_len, intV_len]; omega), fun g hg => ?_⟩
    have eg : upd H24 g (.lst (intV tl ++ intV ws)) g = some (.lst (intV (tl ++ ws))) := by rw [upd_same, intV_app]
    have sgg := same_new (o := .lst (intV tl ++ intV ws)) hg
    generalize upd H24 g (.lst (intV tl ++ intV ws)) = H25 at eg sgg ⊢
    have et25 := sgg _ _ et24
    have ew25 := sgg _ _ (b624 _ _ nwl ew6)
    have ef25 := sgg _ _ (b624 _ _ nfa ef6)
    have elo25 := sgg _ _ elo
    have hWg : ∀ i, W.getD i 0 ≤ 65535 := fun i => by
      rw [List.getD_eq_getElem?_getD]
      cases hh : W[i]? with
      | none => exact Nat.zero_le _
      | some z => exact hWw _ (List.mem_of_getElem? hh)
    have hgw : ∀ w ∈ tl ++ ws, w ≤ 65535 := fun x hx => by
      rcases List.mem_append.mp hx with hx | hx
      · obtain ⟨i, hi, rfl⟩ := List.mem_iff_getElem.mp hx
        have h1 := htp i hi
        have h2 : tl.getD i 0 = tl[i] := by rw [List.getD_eq_getElem?_getD, List.getElem?_eq_getElem hi]; rfl
        have := hWg i
        omega
      · exact hw x hx
    have hgl : (tl ++ ws).length ≤ 100000 := by rw [List.length_append]; omega
    have htot : totN fs body ≤ 200000000000 := tot_le (fs := fs) hbl (by rw [List.length_append]; show 16 + _ ≤ _; omega)
    have hne : ∀ m h : Int, tl ≠ W → dueV (tl ++ ws) m (sg : Int) h = vfmt ∨ dueV (tl ++ ws) m (sg : Int) h = vchk ∨ dueV (tl ++ ws) m (sg : Int) h = vtag := fun m h z => torn_due hbl htot (by omega) (by rw [← hW]; exact hWw) (by rw [← hW]; exact htll) (by rw [← hW]; exact htp) (by rw [← hW]; exact z)
    have hwh : tl = W → dueV (tl ++ ws) ((fs.getD 0 0 : Nat) : Int) (sg : Int) ((fs.getD 3 0 : Nat) : Int) = .non := fun z => by
      rw [z, hW]
      exact whole_due hbl h5 htot (by omega)
    clear et24 elo sgg slo hlo hg b624 ew6 ef6 et6 b22 b23 b21 b6 b206 e6 hs6 hs22 hs23 e20 ew20 ef20 hs20 hD hsb
    have hlt : 5 < tl.length := by omega
    refine ⟨_, rfl, fa, _, 0, _, rfl, rfl, SqL.of ef25, atI_nat (hfi 0 (by decide)), _, rfl, D2, _, 1, _, rfl, rfl, SqL.of et25, atI_nat (intV_at (i := 1) (by omega)), _, rfl, lo, _, 0, _, rfl, rfl, SqL.of elo25, atI_nat (j := 0) rfl, lenOk (n := 3) rfl (by decide), fun t ht => ?_⟩
    generalize hf0 : ((fs.getD 0 0 : Nat) : Int) = f0 at ht ⊢
    generalize ((tl.getD 1 0 : Nat) : Int) = q1 at ht ⊢
    have e3 : upd H25 t (.tup [V.int f0, V.int q1, V.int o1]) t = some (.tup [V.int f0, V.int q1, V.int o1]) := upd_same
    have s3 := same_new (o := .tup [V.int f0, V.int q1, V.int o1]) ht
    generalize upd H25 t (.tup [V.int f0, V.int q1, V.int o1]) = H26 at e3 s3 ⊢
    refine ⟨t, rfl, ⟨_, SqT.of e3⟩, ?_⟩
    refine for_it (walk_tup (K := K) (a := t) (xs := [V.int f0, V.int q1, V.int o1])) (fun i σ Hc => (∃ o3 o8 o13 o14 o15 o16, σ = [some (.ref a), some (.ref p), some (.ref ba), o3, some (.ref fa), some (.int (sg : Int)), some (.ref wl), some (.ref ls), o8, some (.ref D2), some (.ref D), some (.ref lo), some (.ref g), o13, o14, o15, o16]) ∧ Same H26 Hc) ⟨⟨_, _, _, _, _, _, rfl⟩, Same.refl _⟩ (fun i σ Hc _ y => SqT.of (y.2 _ _ e3)) (fun i x σ Hc Hd hi y e => ?_) (fun σ Hc y => ?_)
    · obtain ⟨rfl, e⟩ := e
      obtain ⟨⟨o3, o8, o13, o14, o15, o16, rfl⟩, sm⟩ := y
      obtain ⟨m, rfl⟩ := three_at e
      have sm25 := s3.trans sm
      refine ⟨_, rfl, fa, _, 3, _, rfl, rfl, SqL.of (sm25 _ _ ef25), atI_nat (hfi 3 (by decide)), _, rfl, D2, _, 5, _, rfl, rfl, SqL.of (sm25 _ _ et25), atI_nat (intV_at (i := 5) (by omega)), _, rfl, lo, _, 1, _, rfl, rfl, SqL.of (sm25 _ _ elo25), atI_nat (j := 1) rfl, lenOk (n := 3) rfl (by decide), fun t2 ht2 => ?_⟩
      generalize ((fs.getD 3 0 : Nat) : Int) = f3 at ht2 ⊢
      generalize ((tl.getD 5 0 : Nat) : Int) = q5 at ht2 ⊢
      have e4 : upd Hd t2 (.tup [V.int f3, V.int q5, V.int o2]) t2 = some (.tup [V.int f3, V.int q5, V.int o2]) := upd_same
      have s4 := same_new (o := .tup [V.int f3, V.int q5, V.int o2]) ht2
      generalize upd Hd t2 (.tup [V.int f3, V.int q5, V.int o2]) = G1 at e4 s4 ⊢
      refine ⟨t2, rfl, ⟨_, SqT.of e4⟩, ?_⟩
      refine for_it (walk_tup (K := K) (a := t2) (xs := [V.int f3, V.int q5, V.int o2])) (fun i σ Hc => (∃ o3 o8 o14 o15 o16, σ = [some (.ref a), some (.ref p), some (.ref ba), o3, some (.ref fa), some (.int (sg : Int)), some (.ref wl), some (.ref ls), o8, some (.ref D2), some (.ref D), some (.ref lo), some (.ref g), some (.int m), o14, o15, o16]) ∧ Same G1 Hc) ⟨⟨_, _, _, _, _, rfl⟩, Same.refl _⟩ (fun i σ Hc _ y => SqT.of (y.2 _ _ e4)) (fun i x σ Hc Hd hi y e => ?_) (fun σ Hc y => ?_)
      · obtain ⟨rfl, e⟩ := e
        obtain ⟨⟨o3, o8, o14, o15, o16, rfl⟩, smi⟩ := y
        obtain ⟨h, rfl⟩ := three_at e
        have s5 := sm25.trans (s4.trans smi)
        refine ⟨_, rfl, _, rfl, _, rfl, _, rfl, g, tl ++ ws, m, sg, h, rfl, SqL.of (s5 _ _ eg), hgw, hgl, fun G2 sd => ?_⟩
        have s6 := s5.trans sd
        refine ⟨_, rfl, _, rfl, lstD tl, lstD W, (dx_lst (K := K) (s6 _ _ et25)).dp, (dx_lst (K := K) (s6 _ _ ew25)).dp, lst_shaped _, lst_shaped _, ?_⟩
        rw [eqv_lst]
        obtain ⟨d, hd1, hd2, hd3, hd4, hdx⟩ := due_dx (tl ++ ws) m (sg : Int) h
        by_cases z : tl = W
        · refine ⟨_, rfl, ifF (by rw [decide_eq_true z]; rfl) (ifF rfl ?_)⟩
          obtain ⟨G3, hG3, s23⟩ : ∃ G3, G3 = G2 ∧ Same G2 G3 := ⟨_, rfl, Same.refl _⟩
          rw [← hG3]
          have s7 := s6.trans s23
          refine ⟨_, rfl, g, _, rfl, .inl ⟨SqL.of (s7 _ _ eg), fun t5 ht5 => ?_⟩⟩
          have e5 : upd G3 t5 (.tup (intV (tl ++ ws))) t5 = some (.tup (intV (tl ++ ws))) := upd_same
          have s8 := same_new (o := .tup (intV (tl ++ ws))) ht5
          generalize upd G3 t5 (.tup (intV (tl ++ ws))) = G4 at e5 s8 ⊢
          refine ⟨_, rfl, _, rfl, _, rfl, t5, tl ++ ws, m, sg, h, rfl, SqT.of e5, hgw, hgl, fun G5 s9 => ?_⟩
          refine ⟨_, rfl, _, d, noS, rfl, fun _ z => z.elim, hdx, hd2, hd3, fun G6 v6 s10 d6 => ?_⟩
          refine ⟨_, rfl, _, d, noS, rfl, fun _ z => z.elim, hdx, hd2, hd3, fun G7 v7 s11 d7 => ?_⟩
          have ef := pl_fin hd1 hd2 d6 s11 d7
          refine ⟨plD d, plD d, ef.1, ef.2.1, ef.2.2.1, ef.2.2.1, ?_⟩
          rw [ef.2.2.2]
          refine ⟨_, rfl, ifF rfl ?_⟩
          exact ⟨⟨_, _, _, _, _, rfl⟩, smi.trans (sd.trans (s23.trans (s8.trans (s9.trans (s10.trans s11)))))⟩
        · refine ⟨_, rfl, ifT (by rw [decide_eq_false z]; rfl) ?_⟩
          refine ⟨_, rfl, lenOk (n := 3) rfl (by decide), fun t3 ht3 => ?_⟩
          refine ⟨t3, _, rfl, .inr (SqT.of upd_same), hd4, rfl, _, rfl, ?_⟩
          have s23 := same_new (o := .tup [V.str (Str.ofString "format"), V.str (Str.ofString "check"), V.str (Str.ofString "tag")]) ht3
          generalize upd G2 t3 (.tup [V.str (Str.ofString "format"), V.str (Str.ofString "check"), V.str (Str.ofString "tag")]) = G3 at s23 ⊢
          have s7 := s6.trans s23
          refine ifF (by rcases hne m h z with y | y | y <;> (rw [y]; decide +kernel)) ?_
          refine ⟨_, rfl, g, _, rfl, .inl ⟨SqL.of (s7 _ _ eg), fun t5 ht5 => ?_⟩⟩
          have e5 : upd G3 t5 (.tup (intV (tl ++ ws))) t5 = some (.tup (intV (tl ++ ws))) := upd_same
          have s8 := same_new (o := .tup (intV (tl ++ ws))) ht5
          generalize upd G3 t5 (.tup (intV (tl ++ ws))) = G4 at e5 s8 ⊢
          refine ⟨_, rfl, _, rfl, _, rfl, t5, tl ++ ws, m, sg, h, rfl, SqT.of e5, hgw, hgl, fun G5 s9 => ?_⟩
          refine ⟨_, rfl, _, d, noS, rfl, fun _ z => z.elim, hdx, hd2, hd3, fun G6 v6 s10 d6 => ?_⟩
          refine ⟨_, rfl, _, d, noS, rfl, fun _ z => z.elim, hdx, hd2, hd3, fun G7 v7 s11 d7 => ?_⟩
          have ef := pl_fin hd1 hd2 d6 s11 d7
          refine ⟨plD d, plD d, ef.1, ef.2.1, ef.2.2.1, ef.2.2.1, ?_⟩
          rw [ef.2.2.2]
          refine ⟨_, rfl, ifF rfl ?_⟩
          exact ⟨⟨_, _, _, _, _, rfl⟩, smi.trans (sd.trans (s23.trans (s8.trans (s9.trans (s10.trans s11)))))⟩
      · obtain ⟨⟨o3, o8, o14, o15, o16, rfl⟩, smi⟩ := y
        exact ⟨⟨_, _, _, _, _, _, rfl⟩, sm.trans (s4.trans smi)⟩
    · skip
      obtain ⟨⟨o3, o8, o13, o14, o15, o16, rfl⟩, sm⟩ := y
      have s5 := s3.trans sm
      refine ⟨_, rfl, _, rfl, lstD tl, lstD W, (dx_lst (K := K) (s5 _ _ et25)).dp, (dx_lst (K := K) (s5 _ _ ew25)).dp, lst_shaped _, lst_shaped _, ?_⟩
      rw [eqv_lst]
      obtain ⟨d, hd1, hd2, hd3, hdx⟩ := flaw_dx (tl ++ ws)
      by_cases z : tl = W
      · refine ⟨_, rfl, ifT (by rw [decide_eq_true z]) ?_⟩
        refine ⟨_, rfl, _, rfl, fa, _, 0, _, rfl, rfl, SqL.of (s5 _ _ ef25), atI_nat (hfi 0 (by decide)), _, rfl, _, rfl, fa, _, 3, _, rfl, rfl, SqL.of (s5 _ _ ef25), atI_nat (hfi 3 (by decide)), g, tl ++ ws, _, sg, _, rfl, SqL.of (s5 _ _ eg), hgw, hgl, fun G3 s6 => ?_⟩
        have s7 := s5.trans s6
        refine ⟨rfl, _, rfl, ifF (by rw [hwh z, decide_eq_true rfl]; rfl) ?_⟩
        refine ⟨_, rfl, g, tl ++ ws, rfl, s7 _ _ eg, hgw, hgl, fun G4 s8 => ?_⟩
        refine ⟨_, d, noS, rfl, fun _ z => z.elim, hdx, hd2, hd3, fun G5 v5 s9 d5 => ?_⟩
        refine ⟨_, rfl, g, tl ++ ws, rfl, SqL.of ((s7.trans (s8.trans s9)) _ _ eg), hgw, hgl, fun G6 s10 => ?_⟩
        refine ⟨_, d, noS, rfl, fun _ z => z.elim, hdx, hd2, hd3, fun G7 v7 s11 d7 => ?_⟩
        have ef := pl_fin hd1 hd2 d5 (s10.trans s11) d7
        refine ⟨plD d, plD d, ef.1, ef.2.1, ef.2.2.1, ef.2.2.1, ?_⟩
        rw [ef.2.2.2]
        exact q _
      · refine ⟨_, rfl, ifF (by rw [decide_eq_false z]) (ifF rfl ?_)⟩
        have s7 := s5
        refine ⟨_, rfl, g, tl ++ ws, rfl, s7 _ _ eg, hgw, hgl, fun G4 s8 => ?_⟩
        refine ⟨_, d, noS, rfl, fun _ z => z.elim, hdx, hd2, hd3, fun G5 v5 s9 d5 => ?_⟩
        refine ⟨_, rfl, g, tl ++ ws, rfl, SqL.of ((s7.trans (s8.trans s9)) _ _ eg), hgw, hgl, fun G6 s10 => ?_⟩
        refine ⟨_, d, noS, rfl, fun _ z => z.elim, hdx, hd2, hd3, fun G7 v7 s11 d7 => ?_⟩
        have ef := pl_fin hd1 hd2 d5 (s10.trans s11) d7
        refine ⟨plD d, plD d, ef.1, ef.2.1, ef.2.2.1, ef.2.2.1, ?_⟩
        rw [ef.2.2.2]
        exact q _
end
/-! ### what the top has left; the end -/
theorem all_mk {l : PySem.W.OpenLaw} {w : World} {K : PySem.W.Frag} {h : Heap} {mg : Str → Option Value} {fa f1 f2 f3 f4 f5 f6 f7 f8 f9 f10 f11 f12 f13 f14 f15 f16 f17 f18 f19 f20 f21 C_BadImage C_Image t_CHECK t_TAG t_UNCHECKED : Addr} (X : K.In h) (G : h.Ns mainGlobals mg) (hfa : mg "law" = some (.ref fa))
    {t_BLANK t_HEADER t_MOST_WORDS t_TAG_FACTOR : Tok}
    {od1 an1 od2 an2 od3 an3 od4 an4 od5 an5 od6 an6 od7 an7 od8 an8 od9 an9 od10 an10 od11 an11 od12 an12 od13 an13 od14 an14 od15 an15 od16 an16 od17 an17 od18 an18 od19 an19 od20 an20 od21 an21 : Option Addr} {sl1 sl2 sl3 sl4 sl5 sl6 sl7 sl8 sl9 sl10 sl11 sl12 sl13 sl14 sl15 sl16 sl17 sl18 sl19 sl20 sl21 sl_CHECK sl_TAG sl_UNCHECKED : Array (Option Value)} {oc1 kV1 dc1 pm1 cd1 ct1 oc2 kV2 dc2 pm2 cd2 ct2 oc3 kV3 dc3 pm3 cd3 ct3 oc4 kV4 dc4 pm4 cd4 ct4 oc5 kV5 dc5 pm5 cd5 ct5 oc6 kV6 dc6 pm6 cd6 ct6 oc7 kV7 dc7 pm7 cd7 ct7 oc8 kV8 dc8 pm8 cd8 ct8 oc9 kV9 dc9 pm9 cd9 ct9 oc10 kV10 dc10 pm10 cd10 ct10 oc11 kV11 dc11 pm11 cd11 ct11 oc12 kV12 dc12 pm12 cd12 ct12 oc13 kV13 dc13 pm13 cd13 ct13 oc14 kV14 dc14 pm14 cd14 ct14 oc15 kV15 dc15 pm15 cd15 ct15 oc16 kV16 dc16 pm16 cd16 ct16 oc17 kV17 dc17 pm17 cd17 ct17 oc18 kV18 dc18 pm18 cd18 ct18 oc19 kV19 dc19 pm19 cd19 ct19 oc20 kV20 dc20 pm20 cd20 ct20 oc21 kV21 dc21 pm21 cd21 ct21 : Value}
    {nm_BadImage qq_BadImage : Str} {N_BadImage : Addr} {bs_BadImage bm_BadImage : List Value} {sn_BadImage : List Str} {sub_BadImage : List Value} {ab_BadImage : Bool} {col_BadImage : Option Bool} {dd_BadImage : Option Addr} {m0_BadImage m1_BadImage m2_BadImage m3_BadImage m5_BadImage : Option Value}
    {its_CHECK : Array Value} {n_CHECK : Nat}
    {its_TAG : Array Value} {n_TAG : Nat}
    {its_UNCHECKED : Array Value} {n_UNCHECKED : Nat}
    (a1 : PySem.W.nsIn K mainGlobals "check_of" = some (some (.ref f1)))
    (l1 : K.lookup f1 = some ⟨oc1, od1, .func (PySem.W.fnOf "check_of" "check_of" (defArgs s_check_of) (defBody s_check_of) (defScope s_check_of) .none kV1 dc1 pm1 an1 cd1 ct1), sl1⟩)
    (c1 : PySem.W.codeIn K cd1 "check_of" = true)
    (k1 : PySem.W.keepIn K (.ref f1) = true)
    (a2 : PySem.W.nsIn K mainGlobals "number_at" = some (some (.ref f2)))
    (l2 : K.lookup f2 = some ⟨oc2, od2, .func (PySem.W.fnOf "number_at" "number_at" (defArgs s_number_at) (defBody s_number_at) (defScope s_number_at) .none kV2 dc2 pm2 an2 cd2 ct2), sl2⟩)
    (c2 : PySem.W.codeIn K cd2 "number_at" = true)
    (k2 : PySem.W.keepIn K (.ref f2) = true)
    (a3 : PySem.W.nsIn K mainGlobals "form_fault" = some (some (.ref f3)))
    (l3 : K.lookup f3 = some ⟨oc3, od3, .func (PySem.W.fnOf "form_fault" "form_fault" (defArgs s_form_fault) (defBody s_form_fault) (defScope s_form_fault) .none kV3 dc3 pm3 an3 cd3 ct3), sl3⟩)
    (c3 : PySem.W.codeIn K cd3 "form_fault" = true)
    (k3 : PySem.W.keepIn K (.ref f3) = true)
    (a4 : PySem.W.nsIn K mainGlobals "refusal" = some (some (.ref f4)))
    (l4 : K.lookup f4 = some ⟨oc4, od4, .func (PySem.W.fnOf "refusal" "refusal" (defArgs s_refusal) (defBody s_refusal) (defScope s_refusal) .none kV4 dc4 pm4 an4 cd4 ct4), sl4⟩)
    (c4 : PySem.W.codeIn K cd4 "refusal" = true)
    (k4 : PySem.W.keepIn K (.ref f4) = true)
    (a5 : PySem.W.nsIn K mainGlobals "_law_source" = some (some (.ref f5)))
    (l5 : K.lookup f5 = some ⟨oc5, od5, .func (PySem.W.fnOf "_law_source" "_law_source" (defArgs s_law_source) (defBody s_law_source) (defScope s_law_source) .none kV5 dc5 pm5 an5 cd5 ct5), sl5⟩)
    (c5 : PySem.W.codeIn K cd5 "_law_source" = true)
    (k5 : PySem.W.keepIn K (.ref f5) = true)
    (a6 : PySem.W.nsIn K mainGlobals "_law_draw" = some (some (.ref f6)))
    (l6 : K.lookup f6 = some ⟨oc6, od6, .func (PySem.W.fnOf "_law_draw" "_law_draw" (defArgs s_law_draw) (defBody s_law_draw) (defScope s_law_draw) .none kV6 dc6 pm6 an6 cd6 ct6), sl6⟩)
    (c6 : PySem.W.codeIn K cd6 "_law_draw" = true)
    (k6 : PySem.W.keepIn K (.ref f6) = true)
    (a7 : PySem.W.nsIn K mainGlobals "_law_word" = some (some (.ref f7)))
    (l7 : K.lookup f7 = some ⟨oc7, od7, .func (PySem.W.fnOf "_law_word" "_law_word" (defArgs s_law_word) (defBody s_law_word) (defScope s_law_word) .none kV7 dc7 pm7 an7 cd7 ct7), sl7⟩)
    (c7 : PySem.W.codeIn K cd7 "_law_word" = true)
    (k7 : PySem.W.keepIn K (.ref f7) = true)
    (a8 : PySem.W.nsIn K mainGlobals "_law_plain" = some (some (.ref f8)))
    (l8 : K.lookup f8 = some ⟨oc8, od8, .func (PySem.W.fnOf "_law_plain" "_law_plain" (defArgs s_law_plain) (defBody s_law_plain) (defScope s_law_plain) .none kV8 dc8 pm8 an8 cd8 ct8), sl8⟩)
    (c8 : PySem.W.codeIn K cd8 "_law_plain" = true)
    (k8 : PySem.W.keepIn K (.ref f8) = true)
    (a9 : PySem.W.nsIn K mainGlobals "_law_sum" = some (some (.ref f9)))
    (l9 : K.lookup f9 = some ⟨oc9, od9, .func (PySem.W.fnOf "_law_sum" "_law_sum" (defArgs s_law_sum) (defBody s_law_sum) (defScope s_law_sum) .none kV9 dc9 pm9 an9 cd9 ct9), sl9⟩)
    (c9 : PySem.W.codeIn K cd9 "_law_sum" = true)
    (k9 : PySem.W.keepIn K (.ref f9) = true)
    (a10 : PySem.W.nsIn K mainGlobals "_law_digits" = some (some (.ref f10)))
    (l10 : K.lookup f10 = some ⟨oc10, od10, .func (PySem.W.fnOf "_law_digits" "_law_digits" (defArgs s_law_digits) (defBody s_law_digits) (defScope s_law_digits) .none kV10 dc10 pm10 an10 cd10 ct10), sl10⟩)
    (c10 : PySem.W.codeIn K cd10 "_law_digits" = true)
    (k10 : PySem.W.keepIn K (.ref f10) = true)
    (a11 : PySem.W.nsIn K mainGlobals "_law_number" = some (some (.ref f11)))
    (l11 : K.lookup f11 = some ⟨oc11, od11, .func (PySem.W.fnOf "_law_number" "_law_number" (defArgs s_law_number) (defBody s_law_number) (defScope s_law_number) .none kV11 dc11 pm11 an11 cd11 ct11), sl11⟩)
    (c11 : PySem.W.codeIn K cd11 "_law_number" = true)
    (k11 : PySem.W.keepIn K (.ref f11) = true)
    (a12 : PySem.W.nsIn K mainGlobals "_law_headed" = some (some (.ref f12)))
    (l12 : K.lookup f12 = some ⟨oc12, od12, .func (PySem.W.fnOf "_law_headed" "_law_headed" (defArgs s_law_headed) (defBody s_law_headed) (defScope s_law_headed) .none kV12 dc12 pm12 an12 cd12 ct12), sl12⟩)
    (c12 : PySem.W.codeIn K cd12 "_law_headed" = true)
    (k12 : PySem.W.keepIn K (.ref f12) = true)
    (a13 : PySem.W.nsIn K mainGlobals "_law_flaw" = some (some (.ref f13)))
    (l13 : K.lookup f13 = some ⟨oc13, od13, .func (PySem.W.fnOf "_law_flaw" "_law_flaw" (defArgs s_law_flaw) (defBody s_law_flaw) (defScope s_law_flaw) .none kV13 dc13 pm13 an13 cd13 ct13), sl13⟩)
    (c13 : PySem.W.codeIn K cd13 "_law_flaw" = true)
    (k13 : PySem.W.keepIn K (.ref f13) = true)
    (a14 : PySem.W.nsIn K mainGlobals "_law_due" = some (some (.ref f14)))
    (l14 : K.lookup f14 = some ⟨oc14, od14, .func (PySem.W.fnOf "_law_due" "_law_due" (defArgs s_law_due) (defBody s_law_due) (defScope s_law_due) .none kV14 dc14 pm14 an14 cd14 ct14), sl14⟩)
    (c14 : PySem.W.codeIn K cd14 "_law_due" = true)
    (k14 : PySem.W.keepIn K (.ref f14) = true)
    (a15 : PySem.W.nsIn K mainGlobals "_law_end_word" = some (some (.ref f15)))
    (l15 : K.lookup f15 = some ⟨oc15, od15, .func (PySem.W.fnOf "_law_end_word" "_law_end_word" (defArgs s_law_end_word) (defBody s_law_end_word) (defScope s_law_end_word) .none kV15 dc15 pm15 an15 cd15 ct15), sl15⟩)
    (c15 : PySem.W.codeIn K cd15 "_law_end_word" = true)
    (k15 : PySem.W.keepIn K (.ref f15) = true)
    (a16 : PySem.W.nsIn K mainGlobals "_law_body" = some (some (.ref f16)))
    (l16 : K.lookup f16 = some ⟨oc16, od16, .func (PySem.W.fnOf "_law_body" "_law_body" (defArgs s_law_body) (defBody s_law_body) (defScope s_law_body) .none kV16 dc16 pm16 an16 cd16 ct16), sl16⟩)
    (c16 : PySem.W.codeIn K cd16 "_law_body" = true)
    (k16 : PySem.W.keepIn K (.ref f16) = true)
    (a17 : PySem.W.nsIn K mainGlobals "_law_places" = some (some (.ref f17)))
    (l17 : K.lookup f17 = some ⟨oc17, od17, .func (PySem.W.fnOf "_law_places" "_law_places" (defArgs s_law_places) (defBody s_law_places) (defScope s_law_places) .none kV17 dc17 pm17 an17 cd17 ct17), sl17⟩)
    (c17 : PySem.W.codeIn K cd17 "_law_places" = true)
    (k17 : PySem.W.keepIn K (.ref f17) = true)
    (a18 : PySem.W.nsIn K mainGlobals "_law_reason" = some (some (.ref f18)))
    (l18 : K.lookup f18 = some ⟨oc18, od18, .func (PySem.W.fnOf "_law_reason" "_law_reason" (defArgs s_law_reason) (defBody s_law_reason) (defScope s_law_reason) .none kV18 dc18 pm18 an18 cd18 ct18), sl18⟩)
    (c18 : PySem.W.codeIn K cd18 "_law_reason" = true)
    (k18 : PySem.W.keepIn K (.ref f18) = true)
    (a19 : PySem.W.nsIn K mainGlobals "law" = some (some (.ref f19)))
    (l19 : K.lookup f19 = some ⟨oc19, od19, .func (PySem.W.fnOf "law" "law" (defArgs s_law) (defBody s_law) (defScope s_law) .none kV19 dc19 pm19 an19 cd19 ct19), sl19⟩)
    (c19 : PySem.W.codeIn K cd19 "law" = true)
    (k19 : PySem.W.keepIn K (.ref f19) = true)
    (l20 : K.lookup f20 = some ⟨oc20, od20, .func (PySem.W.fnOf "__init__" "BadImage.__init__" (defArgs s_BadImage_init) (defBody s_BadImage_init) (defScope s_BadImage_init) .none kV20 dc20 pm20 an20 cd20 ct20), sl20⟩)
    (c20 : PySem.W.codeIn K cd20 "BadImage.__init__" = true)
    (k20 : PySem.W.keepIn K (.ref f20) = true)
    (l21 : K.lookup f21 = some ⟨oc21, od21, .func (PySem.W.fnOf "__init__" "Image.__init__" (defArgs s_Image_init) (defBody s_Image_init) (defScope s_Image_init) .none kV21 dc21 pm21 an21 cd21 ct21), sl21⟩)
    (c21 : PySem.W.codeIn K cd21 "Image.__init__" = true)
    (k21 : PySem.W.keepIn K (.ref f21) = true)
    (gc_BadImage : PySem.W.nsIn K mainGlobals "BadImage" = some (some (.ref C_BadImage)))
    (xl_BadImage : K.lookup C_BadImage = some (excClassObj nm_BadImage qq_BadImage C_BadImage N_BadImage bs_BadImage bm_BadImage true sn_BadImage sub_BadImage ab_BadImage col_BadImage dd_BadImage m0_BadImage m1_BadImage m2_BadImage m3_BadImage m5_BadImage "ValueError.__new__"))
    (vb_BadImage : PySem.HandSPX.refsVE bm_BadImage = true)
    (sa_BadImage : PySem.W.findIn K (.ref C_BadImage) "__setattr__" = some (some (.builtin "object.__setattr__")))
    (ec_BadImage : PySem.W.subIn K (.ref C_BadImage) (.type "BaseException") = some true)
    (tc_BadImage : PySem.W.typeIn K (.ref C_BadImage) = some (.type "type"))
    (kc_BadImage : PySem.W.keepIn K (.ref C_BadImage) = true)
    (no_BadImage : PySem.W.findIn K (.ref C_BadImage) "reason" = some none)
    (ic_BadImage : PySem.W.findIn K (.ref C_BadImage) "__init__" = some (some (.ref f20)))
    (ti_BadImage : PySem.W.typeIn K (.ref f20) = some (.type "function"))
    (ga_BadImage : PySem.W.findIn K (.ref C_BadImage) "__getattribute__" = some (some (.builtin "BaseException.__getattribute__")))
    (gg_BadImage : PySem.W.findIn K (.ref C_BadImage) "__getattr__" = some none)
    (hd_BadImage : PySem.W.hasDictIn K C_BadImage = true)
    (ha_BadImage : PySem.W.findIn K (.ref C_BadImage) "__class__" = some (some (.builtin "object.__class__")))
    (hm_BadImage : PySem.W.mroIn K C_BadImage (.type "object") = some true)
    (ss_BadImage : PySem.W.subIn K (.ref C_BadImage) (.ref C_BadImage) = some true)
    (hn0 : PySem.W.specialIn K (.builtin "object.__class__") "__get__" = some (some (.builtin "getset_descriptor.__get__")))
    (ht0 : PySem.W.takesIn K (.builtin "object.__class__") = some true)
    (gc_Image : PySem.W.nsIn K mainGlobals "Image" = some (some (.ref C_Image)))
    (ic_Image_init : PySem.W.findIn K (.ref C_Image) "__init__" = some (some (.ref f21)))
    (fn_Image_init : PySem.W.isFn K (.ref f21) = true)
    (mk_Image : PySem.W.makesIn K C_Image = true)
    (kp_Image : PySem.W.keepIn K (.ref C_Image) = true)
    (pg_Image : PySem.W.plainGet K C_Image Str.empty = true)
    (hd_Image : PySem.W.hasDictIn K C_Image = true)
    (po_Image : PySem.W.plainOver K C_Image = true)
    (sa_Image : PySem.W.findIn K (.ref C_Image) "__setattr__" = some (some (.builtin "object.__setattr__")))
    (na_Image_words : PySem.W.findIn K (.ref C_Image) "words" = some none)
    (na_Image_product : PySem.W.findIn K (.ref C_Image) "product" = some none)
    (na_Image_version : PySem.W.findIn K (.ref C_Image) "version" = some none)
    (na_Image_level : PySem.W.findIn K (.ref C_Image) "level" = some none)
    (na_Image_home : PySem.W.findIn K (.ref C_Image) "home" = some none)
    (na_Image_entry : PySem.W.findIn K (.ref C_Image) "entry" = some none)
    (na_Image_check : PySem.W.findIn K (.ref C_Image) "check" = some none)
    (na_Image_tag : PySem.W.findIn K (.ref C_Image) "tag" = some none)
    (na_Image_content : PySem.W.findIn K (.ref C_Image) "content" = some none)
    (na_Image_map : PySem.W.findIn K (.ref C_Image) "map" = some none)
    (gc_BLANK : PySem.W.nsIn K mainGlobals "BLANK" = some (some (.int 65535 t_BLANK)))
    (gc_HEADER : PySem.W.nsIn K mainGlobals "HEADER" = some (some (.int 16 t_HEADER)))
    (gc_MOST_WORDS : PySem.W.nsIn K mainGlobals "MOST_WORDS" = some (some (.int 1024 t_MOST_WORDS)))
    (gc_TAG_FACTOR : PySem.W.nsIn K mainGlobals "TAG_FACTOR" = some (some (.int 65521 t_TAG_FACTOR)))
    (gc_CHECK : PySem.W.nsIn K mainGlobals "CHECK" = some (some (.ref t_CHECK)))
    (q_CHECK : K.lookup t_CHECK = some ⟨.type "tuple", none, .seq its_CHECK n_CHECK, sl_CHECK⟩)
    (qv_CHECK : Vals [.int (9), .int (10), .int (11)] its_CHECK.toList)
    (gc_TAG : PySem.W.nsIn K mainGlobals "TAG" = some (some (.ref t_TAG)))
    (q_TAG : K.lookup t_TAG = some ⟨.type "tuple", none, .seq its_TAG n_TAG, sl_TAG⟩)
    (qv_TAG : Vals [.int (12), .int (13), .int (14), .int (15)] its_TAG.toList)
    (gc_UNCHECKED : PySem.W.nsIn K mainGlobals "UNCHECKED" = some (some (.ref t_UNCHECKED)))
    (q_UNCHECKED : K.lookup t_UNCHECKED = some ⟨.type "tuple", none, .seq its_UNCHECKED n_UNCHECKED, sl_UNCHECKED⟩)
    (qv_UNCHECKED : Vals [.int (9), .int (10), .int (11), .int (12), .int (13), .int (14), .int (15)] its_UNCHECKED.toList)
    (z_abs : PySem.W.nsIn K mainGlobals "abs" = some none)
    (z_bool : PySem.W.nsIn K mainGlobals "bool" = some none)
    (z_enumerate : PySem.W.nsIn K mainGlobals "enumerate" = some none)
    (z_int : PySem.W.nsIn K mainGlobals "int" = some none)
    (z_isinstance : PySem.W.nsIn K mainGlobals "isinstance" = some none)
    (z_len : PySem.W.nsIn K mainGlobals "len" = some none)
    (z_list : PySem.W.nsIn K mainGlobals "list" = some none)
    (z_range : PySem.W.nsIn K mainGlobals "range" = some none)
    (z_sum : PySem.W.nsIn K mainGlobals "sum" = some none)
    (z_tuple : PySem.W.nsIn K mainGlobals "tuple" = some none) :
    ∃ fd : FuncData, (∀ (s : Shared) (v : Value), BindsTo s fd ⟨[v], []⟩ [("_law_script", v)]) ∧ ∀ base : Heap, K.In base → base.Ns mainGlobals mg → FnOk l.prog w K mg base CX0 9 fa fd ["_law_script"] (spLaw K) := by
  have e : f19 = fa := Value.ref.inj (Option.some.inj ((PySem.W.mg_of X G a19).symm.trans hfa))
  subst e
  have T : Txt K mg ⟨f1, (PySem.W.fnOf "check_of" "check_of" (defArgs s_check_of) (defBody s_check_of) (defScope s_check_of) .none kV1 dc1 pm1 an1 cd1 ct1), f2, (PySem.W.fnOf "number_at" "number_at" (defArgs s_number_at) (defBody s_number_at) (defScope s_number_at) .none kV2 dc2 pm2 an2 cd2 ct2), f3, (PySem.W.fnOf "form_fault" "form_fault" (defArgs s_form_fault) (defBody s_form_fault) (defScope s_form_fault) .none kV3 dc3 pm3 an3 cd3 ct3), f4, (PySem.W.fnOf "refusal" "refusal" (defArgs s_refusal) (defBody s_refusal) (defScope s_refusal) .none kV4 dc4 pm4 an4 cd4 ct4), f5, (PySem.W.fnOf "_law_source" "_law_source" (defArgs s_law_source) (defBody s_law_source) (defScope s_law_source) .none kV5 dc5 pm5 an5 cd5 ct5), f6, (PySem.W.fnOf "_law_draw" "_law_draw" (defArgs s_law_draw) (defBody s_law_draw) (defScope s_law_draw) .none kV6 dc6 pm6 an6 cd6 ct6), f7, (PySem.W.fnOf "_law_word" "_law_word" (defArgs s_law_word) (defBody s_law_word) (defScope s_law_word) .none kV7 dc7 pm7 an7 cd7 ct7), f8, (PySem.W.fnOf "_law_plain" "_law_plain" (defArgs s_law_plain) (defBody s_law_plain) (defScope s_law_plain) .none kV8 dc8 pm8 an8 cd8 ct8), f9, (PySem.W.fnOf "_law_sum" "_law_sum" (defArgs s_law_sum) (defBody s_law_sum) (defScope s_law_sum) .none kV9 dc9 pm9 an9 cd9 ct9), f10, (PySem.W.fnOf "_law_digits" "_law_digits" (defArgs s_law_digits) (defBody s_law_digits) (defScope s_law_digits) .none kV10 dc10 pm10 an10 cd10 ct10), f11, (PySem.W.fnOf "_law_number" "_law_number" (defArgs s_law_number) (defBody s_law_number) (defScope s_law_number) .none kV11 dc11 pm11 an11 cd11 ct11), f12, (PySem.W.fnOf "_law_headed" "_law_headed" (defArgs s_law_headed) (defBody s_law_headed) (defScope s_law_headed) .none kV12 dc12 pm12 an12 cd12 ct12), f13, (PySem.W.fnOf "_law_flaw" "_law_flaw" (defArgs s_law_flaw) (defBody s_law_flaw) (defScope s_law_flaw) .none kV13 dc13 pm13 an13 cd13 ct13), f14, (PySem.W.fnOf "_law_due" "_law_due" (defArgs s_law_due) (defBody s_law_due) (defScope s_law_due) .none kV14 dc14 pm14 an14 cd14 ct14), f15, (PySem.W.fnOf "_law_end_word" "_law_end_word" (defArgs s_law_end_word) (defBody s_law_end_word) (defScope s_law_end_word) .none kV15 dc15 pm15 an15 cd15 ct15), f16, (PySem.W.fnOf "_law_body" "_law_body" (defArgs s_law_body) (defBody s_law_body) (defScope s_law_body) .none kV16 dc16 pm16 an16 cd16 ct16), f17, (PySem.W.fnOf "_law_places" "_law_places" (defArgs s_law_places) (defBody s_law_places) (defScope s_law_places) .none kV17 dc17 pm17 an17 cd17 ct17), f18, (PySem.W.fnOf "_law_reason" "_law_reason" (defArgs s_law_reason) (defBody s_law_reason) (defScope s_law_reason) .none kV18 dc18 pm18 an18 cd18 ct18), f19, (PySem.W.fnOf "law" "law" (defArgs s_law) (defBody s_law) (defScope s_law) .none kV19 dc19 pm19 an19 cd19 ct19), C_BadImage, f20, (PySem.W.fnOf "__init__" "BadImage.__init__" (defArgs s_BadImage_init) (defBody s_BadImage_init) (defScope s_BadImage_init) .none kV20 dc20 pm20 an20 cd20 ct20), C_Image, f21, (PySem.W.fnOf "__init__" "Image.__init__" (defArgs s_Image_init) (defBody s_Image_init) (defScope s_Image_init) .none kV21 dc21 pm21 an21 cd21 ct21), t_BLANK, t_HEADER, t_MOST_WORDS, t_TAG_FACTOR, t_CHECK, t_TAG, t_UNCHECKED⟩ :=
    { F_check_of := fun_mk (st := s_check_of) l1 c1 k1,
      g_check_of := PySem.W.mg_of X G a1,
      b_check_of := (fun_mk (st := s_check_of) l1 c1 k1).binds (ps := ["words", "left"]) fun _ _ _ _ _ _ us hl => match us, hl with | [_, _], _ => rfl,
      F_number_at := fun_mk (st := s_number_at) l2 c2 k2,
      g_number_at := PySem.W.mg_of X G a2,
      b_number_at := (fun_mk (st := s_number_at) l2 c2 k2).binds (ps := ["words", "places"]) fun _ _ _ _ _ _ us hl => match us, hl with | [_, _], _ => rfl,
      F_form_fault := fun_mk (st := s_form_fault) l3 c3 k3,
      g_form_fault := PySem.W.mg_of X G a3,
      b_form_fault := (fun_mk (st := s_form_fault) l3 c3 k3).binds (ps := ["words"]) fun _ _ _ _ _ _ us hl => match us, hl with | [_], _ => rfl,
      F_refusal := fun_mk (st := s_refusal) l4 c4 k4,
      g_refusal := PySem.W.mg_of X G a4,
      b_refusal := kbinds1_3 fun x0 x1 x2 x3 s => .of_eq rfl,
      F_law_source := fun_mk (st := s_law_source) l5 c5 k5,
      g_law_source := PySem.W.mg_of X G a5,
      b_law_source := (fun_mk (st := s_law_source) l5 c5 k5).binds (ps := ["_law_script"]) fun _ _ _ _ _ _ us hl => match us, hl with | [_], _ => rfl,
      F_law_draw := fun_mk (st := s_law_draw) l6 c6 k6,
      g_law_draw := PySem.W.mg_of X G a6,
      b_law_draw := (fun_mk (st := s_law_draw) l6 c6 k6).binds (ps := ["_law_source_here", "_law_below"]) fun _ _ _ _ _ _ us hl => match us, hl with | [_, _], _ => rfl,
      F_law_word := fun_mk (st := s_law_word) l7 c7 k7,
      g_law_word := PySem.W.mg_of X G a7,
      b_law_word := (fun_mk (st := s_law_word) l7 c7 k7).binds (ps := ["_law_source_here"]) fun _ _ _ _ _ _ us hl => match us, hl with | [_], _ => rfl,
      F_law_plain := fun_mk (st := s_law_plain) l8 c8 k8,
      g_law_plain := PySem.W.mg_of X G a8,
      b_law_plain := (fun_mk (st := s_law_plain) l8 c8 k8).binds (ps := ["_law_thing"]) fun _ _ _ _ _ _ us hl => match us, hl with | [_], _ => rfl,
      F_law_sum := fun_mk (st := s_law_sum) l9 c9 k9,
      g_law_sum := PySem.W.mg_of X G a9,
      b_law_sum := (fun_mk (st := s_law_sum) l9 c9 k9).binds (ps := ["_law_words", "_law_without"]) fun _ _ _ _ _ _ us hl => match us, hl with | [_, _], _ => rfl,
      F_law_digits := fun_mk (st := s_law_digits) l10 c10 k10,
      g_law_digits := PySem.W.mg_of X G a10,
      b_law_digits := (fun_mk (st := s_law_digits) l10 c10 k10).binds (ps := ["_law_number_here", "_law_count"]) fun _ _ _ _ _ _ us hl => match us, hl with | [_, _], _ => rfl,
      F_law_number := fun_mk (st := s_law_number) l11 c11 k11,
      g_law_number := PySem.W.mg_of X G a11,
      b_law_number := (fun_mk (st := s_law_number) l11 c11 k11).binds (ps := ["_law_words"]) fun _ _ _ _ _ _ us hl => match us, hl with | [_], _ => rfl,
      F_law_headed := fun_mk (st := s_law_headed) l12 c12 k12,
      g_law_headed := PySem.W.mg_of X G a12,
      b_law_headed := (fun_mk (st := s_law_headed) l12 c12 k12).binds (ps := ["_law_facts", "_law_sign", "_law_body_here"]) fun _ _ _ _ _ _ us hl => match us, hl with | [_, _, _], _ => rfl,
      F_law_flaw := fun_mk (st := s_law_flaw) l13 c13 k13,
      g_law_flaw := PySem.W.mg_of X G a13,
      b_law_flaw := (fun_mk (st := s_law_flaw) l13 c13 k13).binds (ps := ["_law_words"]) fun _ _ _ _ _ _ us hl => match us, hl with | [_], _ => rfl,
      F_law_due := fun_mk (st := s_law_due) l14 c14 k14,
      g_law_due := PySem.W.mg_of X G a14,
      b_law_due := (fun_mk (st := s_law_due) l14 c14 k14).binds (ps := ["_law_words", "_law_made", "_law_sign", "_law_base"]) fun _ _ _ _ _ _ us hl => match us, hl with | [_, _, _, _], _ => rfl,
      F_law_end_word := fun_mk (st := s_law_end_word) l15 c15 k15,
      g_law_end_word := PySem.W.mg_of X G a15,
      b_law_end_word := (fun_mk (st := s_law_end_word) l15 c15 k15).binds (ps := ["_law_source_here"]) fun _ _ _ _ _ _ us hl => match us, hl with | [_], _ => rfl,
      F_law_body := fun_mk (st := s_law_body) l16 c16 k16,
      g_law_body := PySem.W.mg_of X G a16,
      b_law_body := (fun_mk (st := s_law_body) l16 c16 k16).binds (ps := ["_law_source_here"]) fun _ _ _ _ _ _ us hl => match us, hl with | [_], _ => rfl,
      F_law_places := fun_mk (st := s_law_places) l17 c17 k17,
      g_law_places := PySem.W.mg_of X G a17,
      b_law_places := (fun_mk (st := s_law_places) l17 c17 k17).binds (ps := ["_law_source_here", "_law_count"]) fun _ _ _ _ _ _ us hl => match us, hl with | [_, _], _ => rfl,
      F_law_reason := fun_mk (st := s_law_reason) l18 c18 k18,
      g_law_reason := PySem.W.mg_of X G a18,
      b_law_reason := (fun_mk (st := s_law_reason) l18 c18 k18).binds (ps := ["_law_words"]) fun _ _ _ _ _ _ us hl => match us, hl with | [_], _ => rfl,
      F_law := fun_mk (st := s_law) l19 c19 k19,
      g_law := PySem.W.mg_of X G a19,
      b_law := (fun_mk (st := s_law) l19 c19 k19).binds (ps := ["_law_script"]) fun _ _ _ _ _ _ us hl => match us, hl with | [_], _ => rfl,
      F_BadImage_init := fun_mk (st := s_BadImage_init) l20 c20 k20,
      x_BadImage := ⟨PySem.W.mg_of X G gc_BadImage, ⟨⟨_, _, _, _, _, _, _, _, _, _, _, _, _, _, _, xl_BadImage, vb_BadImage⟩, sa_BadImage, ec_BadImage, tc_BadImage, kc_BadImage⟩, no_BadImage, ic_BadImage, ti_BadImage, (fun_mk (st := s_BadImage_init) l20 c20 k20).binds (ps := ["self", "reason"]) fun _ _ _ _ _ _ us hl => match us, hl with | [_, _], _ => rfl, ⟨ga_BadImage, gg_BadImage, ec_BadImage, hd_BadImage⟩, ⟨ga_BadImage, gg_BadImage, ec_BadImage, hd_BadImage, ha_BadImage, hn0, ht0, hm_BadImage⟩, PySem.W.exm_ref ec_BadImage hd_BadImage tc_BadImage ss_BadImage⟩,
      F_Image_init := fun_mk (st := s_Image_init) l21 c21 k21,
      b_Image_init := (fun_mk (st := s_Image_init) l21 c21 k21).binds (ps := ["self", "words"]) fun _ _ _ _ _ _ us hl => match us, hl with | [_, _], _ => rfl,
      m_Image := ⟨mk_Image, ic_Image_init, fn_Image_init, kp_Image⟩,
      cl_Image := ⟨pg_Image, hd_Image, po_Image, sa_Image⟩,
      na_Image_words := na_Image_words,
      na_Image_product := na_Image_product,
      na_Image_version := na_Image_version,
      na_Image_level := na_Image_level,
      na_Image_home := na_Image_home,
      na_Image_entry := na_Image_entry,
      na_Image_check := na_Image_check,
      na_Image_tag := na_Image_tag,
      na_Image_content := na_Image_content,
      na_Image_map := na_Image_map,
      g_BadImage := PySem.W.mg_of X G gc_BadImage,
      g_Image := PySem.W.mg_of X G gc_Image,
      g_BLANK := PySem.W.mg_of X G gc_BLANK,
      g_HEADER := PySem.W.mg_of X G gc_HEADER,
      g_MOST_WORDS := PySem.W.mg_of X G gc_MOST_WORDS,
      g_TAG_FACTOR := PySem.W.mg_of X G gc_TAG_FACTOR,
      g_CHECK := PySem.W.mg_of X G gc_CHECK,
      g_TAG := PySem.W.mg_of X G gc_TAG,
      g_UNCHECKED := PySem.W.mg_of X G gc_UNCHECKED,
      q_CHECK := .inr ⟨_, _, _, q_CHECK, rfl, rfl, by rw [← Array.length_toList, ← Vals.length qv_CHECK]; exact lenOk (n := 3) rfl (by decide), qv_CHECK⟩,
      y_CHECK := ⟨_, q_CHECK, rfl, rfl⟩,
      q_TAG := .inr ⟨_, _, _, q_TAG, rfl, rfl, by rw [← Array.length_toList, ← Vals.length qv_TAG]; exact lenOk (n := 4) rfl (by decide), qv_TAG⟩,
      y_TAG := ⟨_, q_TAG, rfl, rfl⟩,
      q_UNCHECKED := .inr ⟨_, _, _, q_UNCHECKED, rfl, rfl, by rw [← Array.length_toList, ← Vals.length qv_UNCHECKED]; exact lenOk (n := 7) rfl (by decide), qv_UNCHECKED⟩,
      y_UNCHECKED := ⟨_, q_UNCHECKED, rfl, rfl⟩,
      n_abs := PySem.W.mg_none_of X G z_abs,
      n_bool := PySem.W.mg_none_of X G z_bool,
      n_enumerate := PySem.W.mg_none_of X G z_enumerate,
      n_int := PySem.W.mg_none_of X G z_int,
      n_isinstance := PySem.W.mg_none_of X G z_isinstance,
      n_len := PySem.W.mg_none_of X G z_len,
      n_list := PySem.W.mg_none_of X G z_list,
      n_range := PySem.W.mg_none_of X G z_range,
      n_sum := PySem.W.mg_none_of X G z_sum,
      n_tuple := PySem.W.mg_none_of X G z_tuple }
  exact ⟨(PySem.W.fnOf "law" "law" (defArgs s_law) (defBody s_law) (defScope s_law) .none kV19 dc19 pm19 an19 cd19 ct19), fun s v => .of_eq rfl, fun base _ _ => ok_law T⟩
end R1
open PySem PySem.W PyProof.Rows
set_option maxHeartbeats 0 in
theorem PySem.Challenge.cw_romwright_k64_whole_torn_forms_holds : PySem.Challenge.rw_romwright_k64_whole_torn_forms.Holds := by
  w_on; o_law; k_head; (case hw => w_witness2)
  k_fill
  refine L2.walk_of (l := PySem.Challenge.rw_romwright_k64_whole_torn_forms) (n := 63) (k := 9) (x := "_law_script") (CX := fun _ => L2.CX0) (sp := fun w => R1.spLaw _) rfl (by decide) rfl ⟨rfl, by decide, by decide⟩ (fun w h Y => PySem.W.kIn_of Y) ?F (fun _ _ a ns hl _ hS => ⟨a, ns, rfl, hS, hl, fun _ => rfl⟩) (fun _ _ _ _ _ h => h)
  case F =>
    intro w mg fa h KX G hmg
    refine' R1.all_mk KX G hmg ?a1 ?l1 ?c1 ?k1 ?a2 ?l2 ?c2 ?k2 ?a3 ?l3 ?c3 ?k3 ?a4 ?l4 ?c4 ?k4 ?a5 ?l5 ?c5 ?k5 ?a6 ?l6 ?c6 ?k6 ?a7 ?l7 ?c7 ?k7 ?a8 ?l8 ?c8 ?k8 ?a9 ?l9 ?c9 ?k9 ?a10 ?l10 ?c10 ?k10 ?a11 ?l11 ?c11 ?k11 ?a12 ?l12 ?c12 ?k12 ?a13 ?l13 ?c13 ?k13 ?a14 ?l14 ?c14 ?k14 ?a15 ?l15 ?c15 ?k15 ?a16 ?l16 ?c16 ?k16 ?a17 ?l17 ?c17 ?k17 ?a18 ?l18 ?c18 ?k18 ?a19 ?l19 ?c19 ?k19 ?l20 ?c20 ?k20 ?l21 ?c21 ?k21 ?gc_BadImage ?xl_BadImage ?vb_BadImage ?sa_BadImage ?ec_BadImage ?tc_BadImage ?kc_BadImage ?no_BadImage ?ic_BadImage ?ti_BadImage ?ga_BadImage ?gg_BadImage ?hd_BadImage ?ha_BadImage ?hm_BadImage ?ss_BadImage ?hn0 ?ht0 ?gc_Image ?ic_Image_init ?fn_Image_init ?mk_Image ?kp_Image ?pg_Image ?hd_Image ?po_Image ?sa_Image ?na_Image_words ?na_Image_product ?na_Image_version ?na_Image_level ?na_Image_home ?na_Image_entry ?na_Image_check ?na_Image_tag ?na_Image_content ?na_Image_map ?gc_BLANK ?gc_HEADER ?gc_MOST_WORDS ?gc_TAG_FACTOR ?gc_CHECK ?q_CHECK ?qv_CHECK ?gc_TAG ?q_TAG ?qv_TAG ?gc_UNCHECKED ?q_UNCHECKED ?qv_UNCHECKED ?z_abs ?z_bool ?z_enumerate ?z_int ?z_isinstance ?z_len ?z_list ?z_range ?z_sum ?z_tuple
    (case a1 => k_is)
    (case a2 => k_is)
    (case a3 => k_is)
    (case a4 => k_is)
    (case a5 => k_is)
    (case a6 => k_is)
    (case a7 => k_is)
    (case a8 => k_is)
    (case a9 => k_is)
    (case a10 => k_is)
    (case a11 => k_is)
    (case a12 => k_is)
    (case a13 => k_is)
    (case a14 => k_is)
    (case a15 => k_is)
    (case a16 => k_is)
    (case a17 => k_is)
    (case a18 => k_is)
    (case a19 => k_is)
    (case gc_BadImage => k_is)
    (case gc_Image => k_is)
    (case gc_BLANK => k_is)
    (case gc_HEADER => k_is)
    (case gc_MOST_WORDS => k_is)
    (case gc_TAG_FACTOR => k_is)
    (case gc_CHECK => k_is)
    (case gc_TAG => k_is)
    (case gc_UNCHECKED => k_is)
    (case ic_BadImage => k_is)
    (case ic_Image_init => k_is)
    (case l1 => k_is)
    (case c1 => k_is)
    (case k1 => k_is)
    (case l2 => k_is)
    (case c2 => k_is)
    (case k2 => k_is)
    (case l3 => k_is)
    (case c3 => k_is)
    (case k3 => k_is)
    (case l4 => k_is)
    (case c4 => k_is)
    (case k4 => k_is)
    (case l5 => k_is)
    (case c5 => k_is)
    (case k5 => k_is)
    (case l6 => k_is)
    (case c6 => k_is)
    (case k6 => k_is)
    (case l7 => k_is)
    (case c7 => k_is)
    (case k7 => k_is)
    (case l8 => k_is)
    (case c8 => k_is)
    (case k8 => k_is)
    (case l9 => k_is)
    (case c9 => k_is)
    (case k9 => k_is)
    (case l10 => k_is)
    (case c10 => k_is)
    (case k10 => k_is)
    (case l11 => k_is)
    (case c11 => k_is)
    (case k11 => k_is)
    (case l12 => k_is)
    (case c12 => k_is)
    (case k12 => k_is)
    (case l13 => k_is)
    (case c13 => k_is)
    (case k13 => k_is)
    (case l14 => k_is)
    (case c14 => k_is)
    (case k14 => k_is)
    (case l15 => k_is)
    (case c15 => k_is)
    (case k15 => k_is)
    (case l16 => k_is)
    (case c16 => k_is)
    (case k16 => k_is)
    (case l17 => k_is)
    (case c17 => k_is)
    (case k17 => k_is)
    (case l18 => k_is)
    (case c18 => k_is)
    (case k18 => k_is)
    (case l19 => k_is)
    (case c19 => k_is)
    (case k19 => k_is)
    (case l20 => k_is)
    (case c20 => k_is)
    (case k20 => k_is)
    (case l21 => k_is)
    (case c21 => k_is)
    (case k21 => k_is)
    (case xl_BadImage => k_is)
    (case vb_BadImage => first | k_is | decide +kernel)
    (case sa_BadImage => k_is)
    (case ec_BadImage => k_is)
    (case tc_BadImage => k_is)
    (case kc_BadImage => k_is)
    (case no_BadImage => k_is)
    (case ti_BadImage => k_is)
    (case ga_BadImage => k_is)
    (case gg_BadImage => k_is)
    (case hd_BadImage => k_is)
    (case ha_BadImage => k_is)
    (case hm_BadImage => k_is)
    (case ss_BadImage => k_is)
    (case hn0 => k_is)
    (case ht0 => k_is)
    (case fn_Image_init => k_is)
    (case mk_Image => k_is)
    (case kp_Image => k_is)
    (case pg_Image => k_is)
    (case hd_Image => k_is)
    (case po_Image => k_is)
    (case sa_Image => k_is)
    (case na_Image_words => k_is)
    (case na_Image_product => k_is)
    (case na_Image_version => k_is)
    (case na_Image_level => k_is)
    (case na_Image_home => k_is)
    (case na_Image_entry => k_is)
    (case na_Image_check => k_is)
    (case na_Image_tag => k_is)
    (case na_Image_content => k_is)
    (case na_Image_map => k_is)
    (case q_CHECK => k_is)
    (case qv_CHECK => repeat (first | exact .nil | refine .cons (by first | exact ⟨_, rfl⟩ | rfl) ?_))
    (case q_TAG => k_is)
    (case qv_TAG => repeat (first | exact .nil | refine .cons (by first | exact ⟨_, rfl⟩ | rfl) ?_))
    (case q_UNCHECKED => k_is)
    (case qv_UNCHECKED => repeat (first | exact .nil | refine .cons (by first | exact ⟨_, rfl⟩ | rfl) ?_))
    (case z_abs => k_is)
    (case z_bool => k_is)
    (case z_enumerate => k_is)
    (case z_int => k_is)
    (case z_isinstance => k_is)
    (case z_len => k_is)
    (case z_list => k_is)
    (case z_range => k_is)
    (case z_sum => k_is)
    (case z_tuple => k_is)

