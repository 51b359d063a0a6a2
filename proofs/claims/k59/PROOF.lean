import PyProof.Rows.All
import Wide.All
import OpenK.AllK
import Wide.FinOn
import HandS.ForMost
import HandS.Wide
import HandS.Walk
import HandS.IsInst
import HandS.TupAny
import HandS.StrMore
import HandS.Replace
import HandS.Style
import HandS.Evl
import HandS.ForExc
import HandS.ExcInit
import HandS.ExcField
import HandS.ExcIs
import KE.KExcIs
import HandS.HotCalls
import HandS.ExcInitHot
import KE.KxField
import HandS.FStr
import HandS.Iter
import PyProof.Rows.ChunkEnd
import HandS.Star
import HandS.Strs
import HandS.WideBits
import PyProof.StrLawsFirst
import PySem.Challenge.RW_romwright_k59_difference_least
set_option Elab.async false
set_option linter.all false
set_option maxRecDepth 100000
set_option maxHeartbeats 4000000
namespace RK
open PySem PySem.Spec PyProof.Rows L2
/-! ### heaps -/
/-- all but what stands at p is as it was -/
def But (p : Addr) (H H' : Hp) : Prop := ∀ b o, b ≠ p → H b = some o → H' b = some o
theorem But.refl (p : Addr) (H : Hp) : But p H H := fun _ _ _ h => h
theorem But.upd {p : Addr} {H H' : Hp} {o : HO} (h : But p H H') : But p H (upd H' p o) := fun b u n e => by
  rw [upd_ne n]
  exact h b u n e
theorem But.trans {p : Addr} {H H1 H2 : Hp} (a : But p H H1) (b : But p H1 H2) : But p H H2 := fun c o n h => b c o n (a c o n h)
theorem but_new {p D : Addr} {H H' : Hp} {o : HO} (h : But p H H') (n : H D = none) : But p H (upd H' D o) := fun b u nb e => by
  rw [upd_ne (ne_of_none e n)]
  exact h b u nb e
theorem But.of {p : Addr} {H H' : Hp} (h : Same H H') : But p H H' := fun b o _ e => h b o e
theorem same_new {H : Hp} {p : Addr} {o : HO} (h : H p = none) : Same H (upd H p o) := fun b x e => by
  rw [upd_ne (ne_of_none e h)]
  exact e
theorem sqT_up {K : PySem.W.Frag} {H H' : Hp} {a : Addr} {xs : List V} (h : SqT K H a xs) (e : Same H H') : SqT K H' a xs := by
  rcases h with (h | ⟨o, h⟩) | h
  · exact .inl (.inl (e _ _ h))
  · exact .inl (.inr ⟨o, e _ _ h⟩)
  · exact .inr h
theorem sqL_up {K : PySem.W.Frag} {H H' : Hp} {a : Addr} {xs : List V} (h : SqL K H a xs) (e : Same H H') : SqL K H' a xs := e.seq h
/-- a new object that H did not know changes -/
theorem same_mut {H H' : Hp} {p : Addr} {o : HO} (e : Same H H') (h : H p = none) : Same H (upd H' p o) := fun a u ha => by
  rw [upd_ne (ne_of_none ha h)]
  exact e a u ha
/-- the heap without p -/
def hid (H : Hp) (p : Addr) : Hp := fun b => if b = p then none else H b
theorem hid_same {H : Hp} {p : Addr} : Same (hid H p) H := fun b o e => by
  unfold hid at e
  split at e
  · cases e
  · exact e
theorem hid_at {H : Hp} {p b : Addr} {o : HO} (h : H b = some o) (n : b ≠ p) : hid H p b = some o := by
  unfold hid
  rw [if_neg n]
  exact h
theorem hid_but {H H' : Hp} {p : Addr} (h : But p H H') : Same (hid H p) (hid H' p) := fun b o e => by
  unfold hid at e ⊢
  split at e
  · cases e
  · rename_i n
    rw [if_neg n]
    exact h b o n e
mutual
theorem dpUp {K : PySem.W.Frag} {H H' : Hp} (e : Same H H') : ∀ {v : V} {d : PyData}, Dp K H v d → Dp K H' v d
  | _, _, .non => .non
  | _, _, .bl b => .bl b
  | _, _, .int i => .int i
  | _, _, .str x => .str x
  | _, _, .lst h t => .lst (sqL_up h e) (dpAllUp e t)
  | _, _, .tup h t => .tup (sqT_up h e) (dpAllUp e t)
theorem dpAllUp {K : PySem.W.Frag} {H H' : Hp} (e : Same H H') : ∀ {vs : List V} {ds : List PyData}, DpAll K H vs ds → DpAll K H' vs ds
  | _, _, .nil => .nil
  | _, _, .cons h t => .cons (dpUp e h) (dpAllUp e t)
end
/-! ### data of any depth, none of whose changeable objects lies in S -/
abbrev ASet := Addr → Prop
def noS : ASet := fun _ => False
def inS (S : ASet) (a : Addr) : ASet := fun b => S b ∨ b = a
/-- at a: a list | a tuple that is not in S -/
def XL (K : PySem.W.Frag) (H : Hp) (S : ASet) (a : Addr) (xs : List V) : Prop := (¬ S a ∧ Rd H a (.lst xs)) ∨ SqL K (fun _ => none) a xs
def XT (K : PySem.W.Frag) (H : Hp) (S : ASet) (a : Addr) (xs : List V) : Prop := (¬ S a ∧ Rd H a (.tup xs)) ∨ SqT K (fun _ => none) a xs
/-- what stood outside of S stands -/
def Out (S : ASet) (H H' : Hp) : Prop := ∀ b o, ¬ S b → H b = some o → H' b = some o
theorem Out.of {S : ASet} {H H' : Hp} (h : Same H H') : Out S H H' := fun b o _ e => h b o e
theorem Out.refl (S : ASet) (H : Hp) : Out S H H := fun _ _ _ h => h
theorem Out.trans {S : ASet} {H H1 H2 : Hp} (a : Out S H H1) (b : Out S H1 H2) : Out S H H2 := fun c o n h => b c o n (a c o n h)
theorem Out.mono {S S' : ASet} {H H' : Hp} (h : Out S H H') (k : ∀ a, S a → S' a) : Out S' H H' := fun b o n e => h b o (fun z => n (k b z)) e
theorem Out.put {S : ASet} {H H' : Hp} {a : Addr} {o : HO} (h : Out S H H') (ha : S a) : Out S H (upd H' a o) := fun b u n e => by
  rw [upd_ne fun z => n (by rw [z]; exact ha)]
  exact h b u n e
section
variable {K : PySem.W.Frag} {H H' : Hp} {S S' : ASet} {v x : V} {a p : Addr} {xs : List V} {d : PyData} {ds : List PyData}
theorem XL.sq (h : XL K H S a xs) : SqL K H a xs := by
  rcases h with ⟨_, h⟩ | (h | ⟨_, h⟩) | h
  · exact .inl h
  · cases h
  · cases h
  · exact .inr h
theorem XT.sq (h : XT K H S a xs) : SqT K H a xs := by
  rcases h with ⟨_, h⟩ | (h | ⟨_, h⟩) | h
  · exact .inl h
  · cases h
  · cases h
  · exact .inr h
theorem XL.of (h : H a = some (.lst xs)) (n : ¬ S a) : XL K H S a xs := .inl ⟨n, .inl h⟩
theorem XT.of (h : H a = some (.tup xs)) (n : ¬ S a) : XT K H S a xs := .inl ⟨n, .inl h⟩
theorem XL.up (h : XL K H S a xs) (e : Out S H H') : XL K H' S a xs := by
  rcases h with ⟨n, h | ⟨o, h⟩⟩ | h
  · exact .inl ⟨n, .inl (e _ _ n h)⟩
  · exact .inl ⟨n, .inr ⟨o, e _ _ n h⟩⟩
  · exact .inr h
theorem XT.up (h : XT K H S a xs) (e : Out S H H') : XT K H' S a xs := by
  rcases h with ⟨n, h | ⟨o, h⟩⟩ | h
  · exact .inl ⟨n, .inl (e _ _ n h)⟩
  · exact .inl ⟨n, .inr ⟨o, e _ _ n h⟩⟩
  · exact .inr h
/-- a further address that is not in the heap is kept out -/
theorem XL.add (h : XL K H S a xs) (hp : H p = none) : XL K H (inS S p) a xs := by
  rcases h with ⟨n, h⟩ | h
  · refine .inl ⟨fun z => ?_, h⟩
    rcases z with z | z
    · exact n z
    · subst z
      rcases h with h | ⟨o, h⟩ <;> rw [hp] at h <;> cases h
  · exact .inr h
theorem XT.add (h : XT K H S a xs) (hp : H p = none) : XT K H (inS S p) a xs := by
  rcases h with ⟨n, h⟩ | h
  · refine .inl ⟨fun z => ?_, h⟩
    rcases z with z | z
    · exact n z
    · subst z
      rcases h with h | ⟨o, h⟩ <;> rw [hp] at h <;> cases h
  · exact .inr h
theorem XL.less (h : XL K H S a xs) (k : ∀ a, S' a → S a) : XL K H S' a xs := by
  rcases h with ⟨n, h⟩ | h
  · exact .inl ⟨fun z => n (k _ z), h⟩
  · exact .inr h
theorem XT.less (h : XT K H S a xs) (k : ∀ a, S' a → S a) : XT K H S' a xs := by
  rcases h with ⟨n, h⟩ | h
  · exact .inl ⟨fun z => n (k _ z), h⟩
  · exact .inr h
mutual
inductive Dx (K : PySem.W.Frag) (H : Hp) (S : ASet) : V → PyData → Prop
  | non : Dx K H S .non .none
  | bl (b : Bool) : Dx K H S (.bl b) (.bool b)
  | int (i : Int) : Dx K H S (.int i) (.int i)
  | str (x : Str) : Dx K H S (.str x) (.str x)
  | lst {a : Addr} {xs : List V} {ds : List PyData} : XL K H S a xs → DxAll K H S xs ds → Dx K H S (.ref a) (.list ds)
  | tup {a : Addr} {xs : List V} {ds : List PyData} : XT K H S a xs → DxAll K H S xs ds → Dx K H S (.ref a) (.tuple ds)
inductive DxAll (K : PySem.W.Frag) (H : Hp) (S : ASet) : List V → List PyData → Prop
  | nil : DxAll K H S [] []
  | cons {v : V} {vs : List V} {d : PyData} {ds : List PyData} : Dx K H S v d → DxAll K H S vs ds → DxAll K H S (v :: vs) (d :: ds)
end
mutual
theorem Dx.up (e : Out S H H') : ∀ {v : V} {d : PyData}, Dx K H S v d → Dx K H' S v d
  | _, _, .non => .non
  | _, _, .bl b => .bl b
  | _, _, .int i => .int i
  | _, _, .str x => .str x
  | _, _, .lst h t => .lst (h.up e) (DxAll.up e t)
  | _, _, .tup h t => .tup (h.up e) (DxAll.up e t)
theorem DxAll.up (e : Out S H H') : ∀ {vs : List V} {ds : List PyData}, DxAll K H S vs ds → DxAll K H' S vs ds
  | _, _, .nil => .nil
  | _, _, .cons h t => .cons (Dx.up e h) (DxAll.up e t)
end
mutual
theorem Dx.add (hp : H p = none) : ∀ {v : V} {d : PyData}, Dx K H S v d → Dx K H (inS S p) v d
  | _, _, .non => .non
  | _, _, .bl b => .bl b
  | _, _, .int i => .int i
  | _, _, .str x => .str x
  | _, _, .lst h t => .lst (h.add hp) (DxAll.add hp t)
  | _, _, .tup h t => .tup (h.add hp) (DxAll.add hp t)
theorem DxAll.add (hp : H p = none) : ∀ {vs : List V} {ds : List PyData}, DxAll K H S vs ds → DxAll K H (inS S p) vs ds
  | _, _, .nil => .nil
  | _, _, .cons h t => .cons (Dx.add hp h) (DxAll.add hp t)
end
mutual
theorem Dx.less (k : ∀ a, S' a → S a) : ∀ {v : V} {d : PyData}, Dx K H S v d → Dx K H S' v d
  | _, _, .non => .non
  | _, _, .bl b => .bl b
  | _, _, .int i => .int i
  | _, _, .str x => .str x
  | _, _, .lst h t => .lst (h.less k) (DxAll.less k t)
  | _, _, .tup h t => .tup (h.less k) (DxAll.less k t)
theorem DxAll.less (k : ∀ a, S' a → S a) : ∀ {vs : List V} {ds : List PyData}, DxAll K H S vs ds → DxAll K H S' vs ds
  | _, _, .nil => .nil
  | _, _, .cons h t => .cons (Dx.less k h) (DxAll.less k t)
end
mutual
theorem Dx.dp : ∀ {v : V} {d : PyData}, Dx K H S v d → Dp K H v d
  | _, _, .non => .non
  | _, _, .bl b => .bl b
  | _, _, .int i => .int i
  | _, _, .str x => .str x
  | _, _, .lst h t => .lst h.sq (DxAll.dp t)
  | _, _, .tup h t => .tup h.sq (DxAll.dp t)
theorem DxAll.dp : ∀ {vs : List V} {ds : List PyData}, DxAll K H S vs ds → DpAll K H vs ds
  | _, _, .nil => .nil
  | _, _, .cons h t => .cons (Dx.dp h) (DxAll.dp t)
end
theorem dxAll_get : ∀ {vs : List V} {ds : List PyData} {i : Nat} {x : V}, DxAll K H S vs ds → vs[i]? = some x → ∃ d, ds[i]? = some d ∧ Dx K H S x d
  | _, _, _, _, .nil, e => by simp at e
  | _, _, 0, _, .cons h _, e => by
    simp at e
    subst e
    exact ⟨_, rfl, h⟩
  | _, _, i + 1, x, .cons _ t, e => by
    obtain ⟨d, h1, h2⟩ := dxAll_get (i := i) (x := x) t (by simpa using e)
    exact ⟨d, by simpa using h1, h2⟩
theorem Dx.of_get {vs : List V} {ds : List PyData} {i : Nat} (h : DxAll K H S vs ds) (e : vs[i]? = some x) (e2 : ds[i]? = some d) : Dx K H S x d := by
  obtain ⟨d', h1, h2⟩ := dxAll_get h e
  rw [e2] at h1
  rw [Option.some.inj h1]
  exact h2
theorem dxAll_len : ∀ {vs : List V} {ds : List PyData}, DxAll K H S vs ds → vs.length = ds.length
  | _, _, .nil => rfl
  | _, _, .cons _ t => by
    rw [List.length_cons, List.length_cons, dxAll_len t]
theorem dxAll_app : ∀ {vs ws : List V} {ds es : List PyData}, DxAll K H S vs ds → DxAll K H S ws es → DxAll K H S (vs ++ ws) (ds ++ es)
  | _, _, _, _, .nil, h => h
  | _, _, _, _, .cons a t, h => .cons a (dxAll_app t h)
theorem dxAll_ints : ∀ ns : List Int, DxAll K H S (ns.map V.int) (ns.map PyData.int)
  | [] => .nil
  | n :: r => .cons (.int n) (dxAll_ints r)
theorem dxAll_strs : ∀ ns : List Str, DxAll K H S (ns.map V.str) (ns.map PyData.str)
  | [] => .nil
  | n :: r => .cons (.str n) (dxAll_strs r)
theorem dxAll_ints_inv : ∀ {vs : List V} {ns : List Int}, DxAll K H S vs (ns.map PyData.int) → vs = ns.map V.int
  | _, [], .nil => rfl
  | _, n :: r, .cons h t => by
    cases h
    rw [dxAll_ints_inv t]
    rfl
end
section
variable {K : PySem.W.Frag} {H H' : Hp} {v x : V} {a p : Addr} {xs : List V} {d : PyData} {ds : List PyData}
/-! ### isinstance -/
def tn : PyData → String
  | .none => "NoneType"
  | .bool _ => "bool"
  | .int _ => "int"
  | .str _ => "str"
  | .list _ => "list"
  | .tuple _ => "tuple"
  | .dict _ => "dict"
def isB (a c : String) : Bool := a == c || (a == "bool" && c == "int")
theorem kitT : ∀ a ∈ (["NoneType", "bool", "int", "str", "list", "tuple"] : List String), ∀ c ∈ (["int", "bool", "str", "list", "tuple"] : List String), kitB a c = some (isB a c) := by decide +kernel
theorem dp_tn (h : Dp K H v d) : tn d ∈ (["NoneType", "bool", "int", "str", "list", "tuple"] : List String) := by
  cases h <;> simp [tn]
theorem dp_ty (h : Dp K H v d) : TyX K H v (.type (tn d)) := by
  cases h with
  | non => exact .base .non
  | bl b => exact .base (.bl b)
  | int i => exact .base (.int i)
  | str x => exact .base (.str x)
  | lst h _ =>
    rcases h with (h | ⟨o, h⟩) | ⟨o, its, n, hk, hc, _⟩
    · exact .base (.lst h)
    · exact .base (.frz h)
    · exact .kList hk hc
  | tup h _ =>
    rcases h with (h | ⟨o, h⟩) | ⟨o, its, n, hk, hc, _⟩
    · exact .base (.tup h)
    · exact .fTuple h
    · exact .kTuple hk hc
theorem r_isi {c : String} {Q : VK} (h : Dp K H v d) (hc : c ∈ (["int", "bool", "str", "list", "tuple"] : List String)) (q : Q (.bl (isB (tn d) c)) H) : rIsi K [v, .ty c] H Q :=
  ⟨v, .ty c, _, _, _, rfl, .ty c, dp_ty h, kit_ty (kitT _ (dp_tn h) c hc), q⟩
theorem kit_any {t : String} (ht : t ∈ (["NoneType", "bool", "int", "str", "list", "tuple"] : List String)) : ∀ cs : List String, (∀ c ∈ cs, c ∈ (["int", "bool", "str", "list", "tuple"] : List String)) →
    PySem.W.kitAny K (.type t) (cs.map Value.type) = some (cs.any (isB t))
  | [], _ => rfl
  | c :: r, h => by
    have h1 : PySem.W.kitOne K (.type t) (.type c) = some (isB t c) := kit_ty (kitT t ht c (h c List.mem_cons_self))
    have h2 := kit_any ht r fun x hx => h x (List.mem_cons_of_mem _ hx)
    show PySem.W.kitAny K (.type t) (.type c :: r.map Value.type) = some (isB t c || r.any (isB t))
    refine kitAny_cons h1 (fun e => ?_) (fun e => ?_)
    · rw [e, Bool.false_or]
      exact h2
    · rw [e, Bool.true_or]
theorem paired_ty : ∀ cs : List String, Paired ClsV (cs.map V.ty) (cs.map Value.type)
  | [] => .nil
  | c :: r => .cons (.ty c) (paired_ty r)
theorem r_isiT {cs : List String} {Q : VK} (h : Dp K H v d) (hp : H p = some (.tup (cs.map V.ty))) (hc : ∀ c ∈ cs, c ∈ (["int", "bool", "str", "list", "tuple"] : List String)) (q : Q (.bl (cs.any (isB (tn d)))) H) : rIsiT K [v, .ref p] H Q :=
  ⟨v, p, _, _, _, _, rfl, hp, paired_ty cs, dp_ty h, kit_any (dp_tn h) cs hc, q⟩
end
theorem ifT {c : Bool} {A B : Prop} (h : c = true) (a : A) : if c = true then A else B := by
  rw [if_pos h]
  exact a
theorem ifF {c : Bool} {A B : Prop} (h : c = false) (b : B) : if c = true then A else B := by
  rw [h, if_neg Bool.false_ne_true]
  exact b
theorem ifB {c : Bool} {A B : Prop} (ht : c = true → A) (hf : c = false → B) : if c = true then A else B := by
  cases c with
  | true => exact ifT rfl (ht rfl)
  | false => exact ifF rfl (hf rfl)
theorem lenOk {α : Type} {xs : List α} {n : Nat} (h : xs.length = n) (hn : n ≤ 100000) : xs.length ≤ sizeLine := by
  rw [h]
  exact Nat.le_trans hn (by decide)
theorem range_getD {α β : Type} (g : α → β) (z : α) : ∀ l : List α, (List.range l.length).map (fun i => g (l.getD i z)) = l.map g := fun l => by
  apply List.ext_getElem?
  intro i
  by_cases h : i < l.length
  · rw [List.getElem?_map, List.getElem?_range h, List.getElem?_map, List.getElem?_eq_getElem h]
    simp [List.getD_eq_getElem?_getD, List.getElem?_eq_getElem h]
  · rw [List.getElem?_eq_none (by simp; omega), List.getElem?_eq_none (by simp; omega)]
theorem depth_get : ∀ {ds : List PyData} {i : Nat} {d : PyData}, ds[i]? = some d → d.depth ≤ PyData.depthAll ds
  | [], _, _, h => by simp at h
  | x :: r, 0, d, h => by
    simp at h
    subst h
    exact Nat.le_max_left _ _
  | x :: r, i + 1, d, h => Nat.le_trans (depth_get (ds := r) (i := i) (by simpa using h)) (Nat.le_max_right _ _)
/-! no list or tuple in it is very long -/
mutual
def wdB : PyData → Bool
  | .list xs => decide (xs.length ≤ 100000) && wdA xs
  | .tuple xs => decide (xs.length ≤ 100000) && wdA xs
  | .none => true
  | .bool _ => true
  | .int _ => true
  | .str _ => true
  | .dict _ => true
def wdA : List PyData → Bool
  | [] => true
  | x :: r => wdB x && wdA r
end
theorem wdA_get : ∀ {ds : List PyData} {i : Nat} {d : PyData}, wdA ds = true → ds[i]? = some d → wdB d = true
  | [], _, _, _, h => by simp at h
  | x :: r, 0, d, w, h => by
    simp at h
    subst h
    exact (Bool.and_eq_true_iff.mp w).1
  | x :: r, i + 1, d, w, h => wdA_get (ds := r) (i := i) (Bool.and_eq_true_iff.mp w).2 (by simpa using h)
theorem wdA_all : ∀ {ds : List PyData}, (∀ d ∈ ds, wdB d = true) → wdA ds = true
  | [], _ => rfl
  | x :: r, h => Bool.and_eq_true_iff.mpr ⟨h x List.mem_cons_self, wdA_all fun d hd => h d (List.mem_cons_of_mem _ hd)⟩
/-! ### rules whose reading has a name -/
def rTupOf (K : PySem.W.Frag) : List V → Hp → VK → Prop := fun xs H Q => ∃ p ys, xs = [.ref p] ∧ ((SqL K H p ys ∧ ∀ l, H l = none → Q (.ref l) (upd H l (.tup ys))) ∨ (SqT K H p ys ∧ Q (.ref p) H))
section
variable {X : Cx}
theorem tuple_of : CallR X (.type "tuple") (rTupOf X.K) := call_tuple_of
theorem len_seq : CallR X (.builtin "len") (Evl.rLenS X.K) := call_len_seq
theorem list_of : CallR X (.type "list") (Evl.rListS X.K) := call_list_of
end
/-! ### what a walk goes over, lists or tuples -/
theorem PI_or {X : Cx} {tg l : Expr} {w1 w2 : TI} (h1 : PI X tg l w1) (h2 : PI X tg l w2) : PI X tg l (fun σ H R => w1 σ H R ∨ w2 σ H R) :=
  ⟨fun pins s σ H R I h => h.elim (h1.run pins s σ H R I) (h2.run pins s σ H R I)⟩
/-! ### comprehensions without tests whose elements have a value each; the target is the name at k -/
section
variable {J : It} {n : Nat} {G : Hp → Prop} {Y : Nat → Hp → V → Hp → Prop}
theorem lc_vals (w : Walk J n G Y) {te : TE} {σ : L2.St} {H1 : Hp} {D : Addr} {Qd : Hp → Prop} {k : Nat} (I : Nat → V → Prop) (f : Nat → V) (hD : H1 D = none) (hG : ∀ H, Same H1 H → G H) (hn : n ≤ 1000000)
    (hY : ∀ i H x H', i < n → Y i H x H' → H' = H ∧ I i x)
    (hs : ∀ i x H, i < n → Same H1 H → I i x → ∀ Q : VK, (∀ H3, Same H H3 → Q (f i) H3) → te ((σ.set k none).set k (some x)) H Q) (hd : ∀ H, Same H1 H → H D = some (.lst ((List.range n).map f)) → Qd H) :
    ∃ W : Nat → Nat → Hp → Prop, (∃ m, W 0 m (upd H1 D (.lst []))) ∧ ∀ i m H, W i m H →
      (J.stop i H ∧ Qd H) ∨ (J.go i H ∧ ∃ Nx : Hp → Prop, (∀ H', Nx H' → ∃ m', m' < m ∧ W (i + 1) m' H') ∧ ∀ x H', J.yld i H x H' → gName k x (wipe σ [k]) H' fun σ2 H2 => wipe σ2 [k] = wipe σ [k] ∧ tYes σ2 H2 fun b H3 =>
        if b = true then te σ2 H3 fun y H4 => ∃ acc, H4 D = some (.lst acc) ∧ acc.length < sizeLine ∧ Nx (upd H4 D (.lst (acc ++ [y]))) else Nx H3) := by
  refine lc_it w (fun i H => Same H1 H ∧ H D = some (.lst ((List.range i).map f))) ⟨same_new hD, upd_same⟩ (fun i H _ h => hG H h.1) (fun i x H H' hi hp y => ?_) fun H h => hd H h.1 h.2
  obtain ⟨sm, e⟩ := hp
  obtain ⟨rfl, hx⟩ := hY i H x H' hi y
  refine ⟨?_, ?_⟩
  · show ((σ.set k none).set k (some x)).set k none = σ.set k none
    rw [List.set_set, List.set_set]
  show te ((σ.set k none).set k (some x)) H' _
  refine hs i x H' hi sm hx _ fun H3 s3 => ?_
  have e3 : H3 D = some (.lst ((List.range i).map f)) := s3 _ _ e
  refine ⟨_, e3, ?_, same_mut (sm.trans s3) hD, ?_⟩
  · rw [List.length_map, List.length_range]
    exact Nat.lt_of_lt_of_le (Nat.lt_of_lt_of_le hi hn) (by decide)
  · rw [upd_same, List.range_succ, List.map_append]
    rfl
/-- a comprehension whose elements may change what stands; Pv speaks of the turn, the list so far and the heap -/
theorem lc_inv (w : Walk J n G Y) {te : TE} {σ : L2.St} {H1 : Hp} {D : Addr} {Qd : Hp → Prop} {k : Nat} (I : Nat → V → Prop) (Pv : Nat → List V → Hp → Prop) (hn : n ≤ 1000000) (h0 : Pv 0 [] (upd H1 D (.lst [])))
    (hG : ∀ i acc H, Pv i acc H → G H) (hY : ∀ i H x H', i < n → Y i H x H' → H' = H ∧ I i x)
    (hs : ∀ i x acc H, i < n → acc.length = i → Pv i acc H → H D = some (.lst acc) → I i x → ∀ Q : VK, (∀ v H3, H3 D = some (.lst acc) → Pv (i + 1) (acc ++ [v]) (upd H3 D (.lst (acc ++ [v]))) → Q v H3) → te ((σ.set k none).set k (some x)) H Q)
    (hd : ∀ acc H, acc.length = n → Pv n acc H → H D = some (.lst acc) → Qd H) :
    ∃ W : Nat → Nat → Hp → Prop, (∃ m, W 0 m (upd H1 D (.lst []))) ∧ ∀ i m H, W i m H →
      (J.stop i H ∧ Qd H) ∨ (J.go i H ∧ ∃ Nx : Hp → Prop, (∀ H', Nx H' → ∃ m', m' < m ∧ W (i + 1) m' H') ∧ ∀ x H', J.yld i H x H' → gName k x (wipe σ [k]) H' fun σ2 H2 => wipe σ2 [k] = wipe σ [k] ∧ tYes σ2 H2 fun b H3 =>
        if b = true then te σ2 H3 fun y H4 => ∃ acc, H4 D = some (.lst acc) ∧ acc.length < sizeLine ∧ Nx (upd H4 D (.lst (acc ++ [y]))) else Nx H3) := by
  refine lc_it w (fun i H => ∃ acc, acc.length = i ∧ H D = some (.lst acc) ∧ Pv i acc H) ⟨[], rfl, upd_same, h0⟩ (fun i H _ h => ?_) (fun i x H H' hi hp y => ?_) fun H h => ?_
  · obtain ⟨acc, _, _, p⟩ := h
    exact hG i acc H p
  · obtain ⟨acc, hl, e, p⟩ := hp
    obtain ⟨rfl, hx⟩ := hY i H x H' hi y
    refine ⟨?_, ?_⟩
    · show ((σ.set k none).set k (some x)).set k none = σ.set k none
      rw [List.set_set, List.set_set]
    show te ((σ.set k none).set k (some x)) H' _
    refine hs i x acc H' hi hl p e hx _ fun v H3 e3 p3 => ⟨acc, e3, ?_, acc ++ [v], ?_, upd_same, p3⟩
    · rw [hl]
      exact Nat.lt_of_lt_of_le (Nat.lt_of_lt_of_le hi hn) (by decide)
    · rw [List.length_append, hl]
      rfl
  · obtain ⟨acc, hl, e, p⟩ := h
    exact hd acc H hl p e
theorem lc_data {K : PySem.W.Frag} {S : ASet} (w : Walk J n G Y) {te : TE} {σ : L2.St} {H1 : Hp} {D : Addr} {Qd : Hp → Prop} {k : Nat} (I : Nat → V → Prop) (f : Nat → PyData) (hS : ∀ a, S a → H1 a ≠ none) (hD : H1 D = none) (hG : ∀ H, Same H1 H → G H) (hn : n ≤ 1000000)
    (hY : ∀ i H x H', i < n → Y i H x H' → H' = H ∧ I i x)
    (hs : ∀ i x H, i < n → Same H1 H → H D ≠ none → I i x → ∀ Q : VK, (∀ v H3, Same H H3 → Dx K H3 (inS S D) v (f i) → Q v H3) → te ((σ.set k none).set k (some x)) H Q)
    (hd : ∀ H, Same H1 H → Dx K H S (.ref D) (.list ((List.range n).map f)) → Qd H) :
    ∃ W : Nat → Nat → Hp → Prop, (∃ m, W 0 m (upd H1 D (.lst []))) ∧ ∀ i m H, W i m H →
      (J.stop i H ∧ Qd H) ∨ (J.go i H ∧ ∃ Nx : Hp → Prop, (∀ H', Nx H' → ∃ m', m' < m ∧ W (i + 1) m' H') ∧ ∀ x H', J.yld i H x H' → gName k x (wipe σ [k]) H' fun σ2 H2 => wipe σ2 [k] = wipe σ [k] ∧ tYes σ2 H2 fun b H3 =>
        if b = true then te σ2 H3 fun y H4 => ∃ acc, H4 D = some (.lst acc) ∧ acc.length < sizeLine ∧ Nx (upd H4 D (.lst (acc ++ [y]))) else Nx H3) := by
  have hnS : ¬ S D := fun z => hS D z hD
  refine lc_it w (fun i H => Same H1 H ∧ ∃ acc, H D = some (.lst acc) ∧ DxAll K H (inS S D) acc ((List.range i).map f)) ⟨same_new hD, [], upd_same, .nil⟩ (fun i H _ h => hG H h.1) (fun i x H H' hi hp y => ?_) fun H h => ?_
  · obtain ⟨sm, acc, e, da⟩ := hp
    obtain ⟨rfl, hx⟩ := hY i H x H' hi y
    refine ⟨?_, ?_⟩
    · show ((σ.set k none).set k (some x)).set k none = σ.set k none
      rw [List.set_set, List.set_set]
    show te ((σ.set k none).set k (some x)) H' _
    refine hs i x H' hi sm (by rw [e]; exact fun z => nomatch z) hx _ fun v H3 s3 dv => ?_
    have hl : acc.length = i := by rw [dxAll_len da, List.length_map, List.length_range]
    refine ⟨acc, s3 _ _ e, ?_, same_mut (sm.trans s3) hD, acc ++ [v], upd_same, ?_⟩
    · rw [hl]
      exact Nat.lt_of_lt_of_le (Nat.lt_of_lt_of_le hi hn) (by decide)
    · rw [List.range_succ, List.map_append]
      have o : Out (inS S D) H3 (upd H3 D (.lst (acc ++ [v]))) := (Out.refl _ _).put (.inr rfl)
      exact dxAll_app (DxAll.up o (DxAll.up (Out.of s3) da)) (.cons (Dx.up o dv) .nil)
  · obtain ⟨sm, acc, e, da⟩ := h
    exact hd H sm (.lst (XL.of e hnS) (DxAll.less (fun a z => .inl z) da))
end
end RK

namespace RK
open PySem PySem.Spec PyProof.Rows L2 PySem.Builtin.Str
/-! ### texts as lists of code points -/
def sO (l : List Nat) : Str := ⟨l.toArray⟩
theorem sO_eta (x : Str) : sO x.cps.toList = x := rfl
theorem sO_list (l : List Nat) : (sO l).cps.toList = l := rfl
theorem sO_len (l : List Nat) : (sO l).length = l.length := rfl
theorem sO_inj {a b : List Nat} (h : sO a = sO b) : a = b := by
  have := congrArg (fun s : Str => s.cps.toList) h
  exact this
theorem sO_app (a b : List Nat) : sO a ++ sO b = sO (a ++ b) := by
  show (⟨a.toArray ++ b.toArray⟩ : Str) = ⟨(a ++ b).toArray⟩
  rw [List.append_toArray]
theorem sO_at {l : List Nat} {i : Nat} {c : Nat} (h : l[i]? = some c) : atI (sO l).cps.toList (i : Int) = some c := atI_nat h
theorem join_fold (l : List Str) : ∀ (acc : Array Nat), (l.foldl (fun acc p => acc ++ (sO []).cps ++ p.cps) acc) = (acc.toList ++ (l.map fun s => s.cps.toList).flatten).toArray := by
  induction l with
  | nil => intro acc; simp
  | cons p r ih =>
    intro acc
    rw [List.foldl_cons, ih]
    simp [sO]
theorem join_nil (l : List Str) : Txt.join (sO []) l = sO (l.map fun s => s.cps.toList).flatten := by
  cases l with
  | nil => rfl
  | cons p r =>
    show (⟨(r.foldl (fun acc p => acc ++ (sO []).cps ++ p.cps) p.cps)⟩ : Str) = _
    rw [join_fold]
    simp [sO]
theorem strip_take (goes : Nat → Bool) : ∀ l : List Nat, l.take (l.length - (l.reverse.takeWhile goes).length) = (l.reverse.dropWhile goes).reverse := fun l => by
  have h : l.reverse = l.reverse.takeWhile goes ++ l.reverse.dropWhile goes := (List.takeWhile_append_dropWhile).symm
  have h2 : l = (l.reverse.dropWhile goes).reverse ++ (l.reverse.takeWhile goes).reverse := by
    rw [← List.reverse_append, List.takeWhile_append_dropWhile, List.reverse_reverse]
  have h3 : l.length = (l.reverse.dropWhile goes).length + (l.reverse.takeWhile goes).length := by
    have := congrArg List.length h2
    rw [List.length_append, List.length_reverse, List.length_reverse] at this
    exact this
  have h4 : l.length - (l.reverse.takeWhile goes).length = (l.reverse.dropWhile goes).reverse.length := by
    rw [List.length_reverse]
    omega
  rw [h4]
  conv => lhs; arg 2; rw [h2]
  rw [List.take_left]
theorem rstrip_sO (l : List Nat) : Txt.rstrip (sO l) = sO (l.reverse.dropWhile Unicode.isSpace).reverse := by
  have hi : stripHi Unicode.isSpace true (sO l) 0 = l.length - (l.reverse.takeWhile Unicode.isSpace).length := rfl
  show (if (stripSame Unicode.isSpace false true (sO l)) = true then sO l else stripped Unicode.isSpace false true (sO l)) = _
  have e : stripped Unicode.isSpace false true (sO l) = sO (l.reverse.dropWhile Unicode.isSpace).reverse := by
    show (⟨l.toArray.extract 0 (l.length - (l.reverse.takeWhile Unicode.isSpace).length)⟩ : Str) = _
    rw [List.extract_toArray, List.extract_eq_take_drop, List.drop_zero, Nat.sub_zero, strip_take]
    rfl
  split
  · rename_i h
    have h1 : (l.length - (l.reverse.takeWhile Unicode.isSpace).length == l.length) = true := (Bool.and_eq_true_iff.mp h).2
    have h2 : l.length - (l.reverse.takeWhile Unicode.isSpace).length = l.length := by simpa using h1
    have h3 := strip_take Unicode.isSpace l
    rw [h2, List.take_length] at h3
    rw [← h3]
  · exact e
theorem ljust_sO (l : List Nat) (n : Nat) (h : l.length ≤ n) : Txt.ljust (sO l) (n : Int) = sO (l ++ List.replicate (n - l.length) 32) := by
  show (if (n : Int) ≤ (l.length : Nat) then sO l else padded (sO l) 0 ((n : Int).toNat - l.length) 32) = _
  split
  · rename_i h2
    have : n - l.length = 0 := by omega
    rw [this]
    simp [sO]
  · show (⟨Array.replicate 0 32 ++ l.toArray ++ Array.replicate ((n : Int).toNat - l.length) 32⟩ : Str) = _
    rw [Int.toNat_natCast]
    simp [sO]
/-- parts of a text -/
theorem cut_lo (l : List Nat) (k : Nat) : cutS (sO l) (some (k : Int)) none = sO (l.drop k) := by
  show (⟨((l.drop (HT.sIx l.length 0 (some (k : Int)))).take (HT.sIx l.length l.length none - HT.sIx l.length 0 (some (k : Int)))).toArray⟩ : Str) = _
  rw [HT.sIx_nat, HT.sIx_none]
  have e : (l.drop (min k l.length)).take (l.length - min k l.length) = l.drop k := by
    rw [List.take_of_length_le (by rw [List.length_drop]; omega)]
    by_cases h : k ≤ l.length
    · rw [Nat.min_eq_left h]
    · rw [Nat.min_eq_right (by omega), List.drop_length, List.drop_of_length_le (by omega)]
  rw [e]
  rfl
theorem cut_hi (l : List Nat) (k : Nat) : cutS (sO l) none (some (k : Int)) = sO (l.take k) := by
  show (⟨((l.drop (HT.sIx l.length 0 none)).take (HT.sIx l.length l.length (some (k : Int)) - HT.sIx l.length 0 none)).toArray⟩ : Str) = _
  rw [HT.sIx_nat, HT.sIx_none, List.drop_zero, Nat.sub_zero]
  have e : l.take (min k l.length) = l.take k := by
    by_cases h : k ≤ l.length
    · rw [Nat.min_eq_left h]
    · rw [Nat.min_eq_right (by omega), List.take_length, List.take_of_length_le (by omega)]
  rw [e]
  rfl
theorem rep_fold (a : Array Nat) : ∀ (n : Nat) (acc : Array Nat), (List.replicate n a).foldl (· ++ ·) acc = (acc.toList ++ (List.replicate n a.toList).flatten).toArray
  | 0, acc => by simp
  | n + 1, acc => by
    rw [List.replicate_succ, List.foldl_cons, rep_fold a n, List.replicate_succ]
    simp
section
variable {X : Cx}
/-- a text times a small number -/
theorem op_rep_str : OpR X (binaryOp .Mult) (fun x y H Q => ∃ (l : List Nat) (n : Nat), x = .str (sO l) ∧ y = .int (n : Int) ∧ l.length ≤ 1000 ∧ n ≤ 1000 ∧ Q (.str (sO (List.replicate n l).flatten)) H) := by
  intro pins s σ H x y v u Q I rx ry h
  obtain ⟨l, n, rfl, rfl, hl, hn, q⟩ := h
  obtain ⟨t, rfl⟩ := rx
  obtain ⟨t2, rfl⟩ := ry
  have big : l.length * n ≤ 1000000 := Nat.mul_le_mul hl hn
  refine P.mul_str ?_ (fun _ _ => ?_) (fun _ _ => ?_) ?_
  · rw [decide_eq_false (show ¬ (n : Int) < -(2 ^ 63) by omega), decide_eq_false (show ¬ (n : Int) ≥ 2 ^ 63 by omega)]
    rfl
  · show ¬ ((l.length : Nat) : Int) > (2 ^ 63 - 1) / (n : Int)
    have h1 : (0 : Int) < n := by omega
    have h2 : (1000 : Int) ≤ (2 ^ 63 - 1) / (n : Int) := (Int.le_ediv_iff_mul_le h1).mpr (by omega)
    omega
  · show tooLong (l.length * (n : Int).toNat) = false
    rw [Int.toNat_natCast]
    exact decide_eq_false (by show ¬ _; have : (1000000 : Nat) ≤ sizeLine := by decide
                              omega)
  · have fin : ∀ (z : Str) tk tok, z = sO (List.replicate n l).flatten → EP X pins σ Q (Value.str z tok) { s with toks := tk } := fun z tk tok e => by subst e; exact ⟨.str _, H, I.tok _, ⟨_, rfl⟩, q⟩
    have hsz : ∀ z : Str, z = sO (List.replicate n l).flatten → z.length ≤ sizeLine := fun z e => by
      rw [e, sO_len]
      have e2 : (List.replicate n l).flatten.length = n * l.length := by simp
      rw [e2, Nat.mul_comm]
      exact Nat.le_trans big (by decide)
    split
    · have : n = 0 := by omega
      subst this
      exact ⟨by decide, fin _ _ _ rfl⟩
    · split
      · rename_i h2
        rcases Bool.or_eq_true_iff.mp h2 with h3 | h3
        · have h4 : (n : Int) = 1 := by simpa using h3
          have h5 : n = 1 := by omega
          subst h5
          refine fin _ s.toks _ ?_
          simp
        · have h4 : l.length = 0 := (eq_of_beq h3 : (sO l).length = 0)
          have h5 : l = [] := List.eq_nil_of_length_eq_zero h4
          subst h5
          refine fin _ s.toks _ ?_
          have : (List.replicate n ([] : List Nat)).flatten = [] := by simp
          rw [this]
      · have e : (⟨(List.replicate (n : Int).toNat (sO l).cps).foldl (· ++ ·) #[]⟩ : Str) = sO (List.replicate n l).flatten := by
          rw [rep_fold, Int.toNat_natCast]
          simp [sO]
        exact ⟨hsz _ e, fin _ _ _ e⟩
end
end RK

namespace RK
open PySem PySem.Spec PyProof.Rows L2 PySem.Builtin.Str
/-! ### names and the words that pack them -/
def sg (k : Nat) : Nat := if k = 0 then 32 else if k ≤ 26 then 96 + k else 21 + k
abbrev LTR : List Nat := (Str.ofString "abcdefghijklmnopqrstuvwxyz").cps.toList
abbrev SGN : List Nat := (Str.ofString " abcdefghijklmnopqrstuvwxyz0123456789").cps.toList
theorem SGN_eq : SGN = (List.range 37).map sg := by decide +kernel
theorem LTR_eq : LTR = (List.range 26).map fun k => sg (k + 1) := by decide +kernel
def isN (l : List Nat) : Bool := (decide (1 ≤ l.length) && decide (l.length ≤ 9) && decide (l.headD 0 ∈ LTR)) && l.all fun c => decide (c ∈ SGN) && !decide (c = 32)
theorem dec_blank (c : Nat) : decide (V.str (sO [c]) = V.str (Str.ofString " ")) = decide (c = 32) := by
  have e : Str.ofString " " = sO [32] := by decide +kernel
  rw [e, decide_eq_decide]
  constructor
  · intro h
    have := sO_inj (V.str.inj h)
    exact (List.cons.inj this).1
  · intro h
    rw [h]
/-- the codes of a name -/
structure Nk (ks : List Nat) : Prop where
  pos : 1 ≤ ks.length
  le : ks.length ≤ 9
  head : 1 ≤ ks.headD 0 ∧ ks.headD 0 ≤ 26
  all : ∀ k ∈ ks, 1 ≤ k ∧ k ≤ 36
theorem sg_mem {k : Nat} (h : k ≤ 36) : sg k ∈ SGN := by
  rw [SGN_eq]
  exact List.mem_map.mpr ⟨k, List.mem_range.mpr (by omega), rfl⟩
theorem sg_ne {k : Nat} (h : 1 ≤ k) : sg k ≠ 32 := by
  unfold sg
  split
  · omega
  · split <;> omega
theorem sg_inj {a b : Nat} (ha : a ≤ 36) (hb : b ≤ 36) (h : sg a = sg b) : a = b := by
  unfold sg at h
  split at h <;> split at h <;> (try split at h) <;> (try split at h) <;> omega
theorem sg_lt {k : Nat} (h : k ≤ 36) : sg k ∈ LTR ↔ 1 ≤ k ∧ k ≤ 26 := by
  rw [LTR_eq, List.mem_map]
  constructor
  · rintro ⟨j, hj, e⟩
    have hj := List.mem_range.mp hj
    have := sg_inj (by omega) h e
    omega
  · rintro ⟨h1, h2⟩
    exact ⟨k - 1, List.mem_range.mpr (by omega), by rw [Nat.sub_add_cancel h1]⟩
theorem isN_codes {ks : List Nat} (h36 : ∀ k ∈ ks, k ≤ 36) : isN (ks.map sg) = (decide (1 ≤ ks.length) && decide (ks.length ≤ 9) && decide (1 ≤ ks.headD 0 ∧ ks.headD 0 ≤ 26) && ks.all fun k => decide (1 ≤ k)) := by
  unfold isN
  rw [List.length_map]
  have e1 : decide ((ks.map sg).headD 0 ∈ LTR) = decide (1 ≤ ks.headD 0 ∧ ks.headD 0 ≤ 26) := by
    cases ks with
    | nil => decide +kernel
    | cons k r =>
      show decide (sg k ∈ LTR) = decide (1 ≤ k ∧ k ≤ 26)
      rw [decide_eq_decide]
      exact sg_lt (h36 k List.mem_cons_self)
  have e2 : ((ks.map sg).all fun c => decide (c ∈ SGN) && !decide (c = 32)) = ks.all fun k => decide (1 ≤ k) := by
    rw [List.all_map]
    apply Bool.eq_iff_iff.mpr
    rw [List.all_eq_true, List.all_eq_true]
    constructor
    · intro h k hk
      have := h k hk
      apply decide_eq_true
      rcases Nat.eq_zero_or_pos k with z | z
      · subst z
        exact absurd this (by decide +kernel)
      · exact z
    · intro h k hk
      have hk1 : 1 ≤ k := of_decide_eq_true (h k hk)
      show (decide (sg k ∈ SGN) && !decide (sg k = 32)) = true
      rw [decide_eq_true (sg_mem (h36 k hk)), decide_eq_false (sg_ne hk1)]
      rfl
  rw [e1, e2]
theorem isN_of {ks : List Nat} (h : Nk ks) : isN (ks.map sg) = true := by
  rw [isN_codes fun k hk => (h.all k hk).2, decide_eq_true h.pos, decide_eq_true h.le, decide_eq_true h.head]
  rw [List.all_eq_true.mpr fun k hk => decide_eq_true (h.all k hk).1]
  rfl
theorem isN_long {l : List Nat} (h : 10 ≤ l.length) : isN l = false := by
  unfold isN
  rw [decide_eq_false (show ¬ l.length ≤ 9 by omega), Bool.and_false]
  rfl
theorem isN_head {l : List Nat} (h : l.headD 0 ∉ LTR) : isN l = false := by
  unfold isN
  rw [decide_eq_false h, Bool.and_false]
  rfl
theorem isN_mem {l : List Nat} {c : Nat} (h : c ∈ l) (hc : (decide (c ∈ SGN) && !decide (c = 32)) = false) : isN l = false := by
  unfold isN
  rw [show (l.all fun c => decide (c ∈ SGN) && !decide (c = 32)) = false from ?_, Bool.and_false]
  apply Bool.eq_false_iff.mpr
  intro z
  have := List.all_eq_true.mp z c h
  rw [hc] at this
  cases this
/-! words -/
def cds (w : Nat) : List Nat := [w / 1600, w / 40 % 40, w % 40]
def rtrim (ks : List Nat) : List Nat := (ks.reverse.dropWhile (· == 0)).reverse
theorem rtrim_app (l : List Nat) (x : Nat) : rtrim (l ++ [x]) = if x = 0 then rtrim l else l ++ [x] := by
  unfold rtrim
  rw [List.reverse_append]
  show ((x :: l.reverse).dropWhile (· == 0)).reverse = _
  rw [List.dropWhile_cons]
  by_cases h : x = 0
  · rw [if_pos h, if_pos (by rw [h]; rfl)]
  · rw [if_neg h, if_neg (by simpa using h)]
    simp
theorem rtrim_pre (l : List Nat) : rtrim l = l.take (rtrim l).length := by
  have h : l.reverse = l.reverse.takeWhile (· == 0) ++ l.reverse.dropWhile (· == 0) := (List.takeWhile_append_dropWhile).symm
  have h2 : l = rtrim l ++ (l.reverse.takeWhile (· == 0)).reverse := by
    unfold rtrim
    rw [← List.reverse_append, List.takeWhile_append_dropWhile, List.reverse_reverse]
  conv => rhs; arg 2; rw [h2]
  rw [List.take_left]
theorem rtrim_big {l : List Nat} {x : Nat} (h : x ∈ l) (hx : x ≠ 0) : x ∈ rtrim l := by
  have h2 : l = rtrim l ++ (l.reverse.takeWhile (· == 0)).reverse := by
    unfold rtrim
    rw [← List.reverse_append, List.takeWhile_append_dropWhile, List.reverse_reverse]
  rw [h2] at h
  rcases List.mem_append.mp h with h | h
  · exact h
  · have := List.mem_reverse.mp h
    have h3 : ∀ (r : List Nat), x ∈ r.takeWhile (· == 0) → x = 0 := fun r => by
      induction r with
      | nil => intro z; cases z
      | cons y r ih =>
        rw [List.takeWhile_cons]
        split
        · rename_i hy
          intro z
          rcases List.mem_cons.mp z with z | z
          · rw [z]; simpa using hy
          · exact ih z
        · intro z; cases z
    exact absurd (h3 _ this) hx
theorem rtrim_sub {l : List Nat} {x : Nat} (h : x ∈ rtrim l) : x ∈ l := by
  rw [rtrim_pre] at h
  exact List.mem_of_mem_take h
theorem rtrim_len (l : List Nat) : (rtrim l).length ≤ l.length := by
  rw [rtrim_pre, List.length_take]
  omega
theorem rtrim_head {l : List Nat} (h : rtrim l ≠ []) : (rtrim l).headD 0 = l.headD 0 := by
  rw [rtrim_pre] at h ⊢
  cases l with
  | nil => simp at h
  | cons x r =>
    cases e : (rtrim (x :: r)).length with
    | zero => rw [e] at h; exact absurd rfl h
    | succ n => rfl
/-- the program's way -/
def wn (ks : List Nat) : Option (List Nat) := if ks.any (fun k => decide (37 ≤ k)) then none else if isN ((rtrim ks).map sg) then some ((rtrim ks).map sg) else none
/-- the law's way -/
def un (ks : List Nat) : Option (List Nat) := if (rtrim ks).all (fun k => decide (1 ≤ k ∧ k ≤ 36)) && (decide ((rtrim ks).length ≠ 0) && decide (ks.headD 0 ≤ 26)) then some ((rtrim ks).map sg) else none
theorem wn_un (ks : List Nat) (h9 : ks.length ≤ 9) : wn ks = un ks := by
  unfold wn un
  by_cases hb : ks.any (fun k => decide (37 ≤ k)) = true
  · rw [if_pos hb]
    obtain ⟨k, hk, hk2⟩ := List.any_eq_true.mp hb
    have hk3 : 37 ≤ k := of_decide_eq_true hk2
    have : (rtrim ks).all (fun k => decide (1 ≤ k ∧ k ≤ 36)) = false := by
      apply Bool.eq_false_iff.mpr
      intro z
      have := of_decide_eq_true (List.all_eq_true.mp z k (rtrim_big hk (by omega)))
      omega
    rw [this]
    rfl
  · rw [if_neg hb]
    have h36 : ∀ k ∈ ks, k ≤ 36 := fun k hk => by
      apply Decidable.byContradiction
      intro z
      exact hb (List.any_eq_true.mpr ⟨k, hk, decide_eq_true (by omega)⟩)
    have h36' : ∀ k ∈ rtrim ks, k ≤ 36 := fun k hk => h36 k (rtrim_sub hk)
    have hl := rtrim_len ks
    have e : isN ((rtrim ks).map sg) = ((rtrim ks).all (fun k => decide (1 ≤ k ∧ k ≤ 36)) && (decide ((rtrim ks).length ≠ 0) && decide (ks.headD 0 ≤ 26))) := by
      rw [isN_codes h36']
      apply Bool.eq_iff_iff.mpr
      simp only [Bool.and_eq_true, decide_eq_true_eq, List.all_eq_true]
      constructor
      · rintro ⟨⟨⟨h1, _⟩, h3, h4⟩, h5⟩
        have hne : rtrim ks ≠ [] := fun z => by rw [z] at h1; exact absurd h1 (by decide)
        rw [rtrim_head hne] at h3 h4
        exact ⟨fun k hk => ⟨h5 k hk, h36' k hk⟩, by omega, h4⟩
      · rintro ⟨h1, h2, h3⟩
        have hne : rtrim ks ≠ [] := fun z => by rw [z] at h2; exact h2 rfl
        refine ⟨⟨⟨by omega, by omega⟩, ?_⟩, fun k hk => (h1 k hk).1⟩
        have hm : (rtrim ks).headD 0 ∈ rtrim ks := by
          cases hr : rtrim ks with
          | nil => exact absurd hr hne
          | cons x r => exact List.mem_cons_self
        have := h1 _ hm
        rw [rtrim_head hne] at this ⊢
        exact ⟨this.1, h3⟩
    rw [e]
def pad (ks : List Nat) : List Nat := ks ++ List.replicate (9 - ks.length) 0
theorem pad_len {ks : List Nat} (h : ks.length ≤ 9) : (pad ks).length = 9 := by
  unfold pad
  rw [List.length_append, List.length_replicate]
  omega
def pk1 (cs : List Nat) (k : Nat) : Nat := (cs.getD k 0 * 40 + cs.getD (k + 1) 0) * 40 + cs.getD (k + 2) 0
def pk3 (cs : List Nat) : List Nat := [pk1 cs 0, pk1 cs 3, pk1 cs 6]
theorem cds_pk1 {cs : List Nat} {k : Nat} (h : ∀ x ∈ cs, x ≤ 39) : cds (pk1 cs k) = [cs.getD k 0, cs.getD (k + 1) 0, cs.getD (k + 2) 0] := by
  have g : ∀ i, cs.getD i 0 ≤ 39 := fun i => by
    rw [List.getD_eq_getElem?_getD]
    cases e : cs[i]? with
    | none => exact Nat.zero_le _
    | some x => exact h x (List.mem_of_getElem? e)
  have a := g k
  have b := g (k + 1)
  have c := g (k + 2)
  unfold cds pk1
  congr 1
  · omega
  · congr 1
    · omega
    · congr 1
      omega
theorem cds_pk3 {cs : List Nat} (h : ∀ x ∈ cs, x ≤ 39) (h9 : cs.length = 9) : (pk3 cs).flatMap cds = cs := by
  match cs, h9 with
  | [a, b, c, d, e, f, g, i, j], _ =>
    show cds _ ++ (cds _ ++ (cds _ ++ [])) = _
    rw [cds_pk1 h, cds_pk1 h, cds_pk1 h]
    rfl
theorem rtrim_pad {ks : List Nat} (h : Nk ks) : rtrim (pad ks) = ks := by
  unfold pad
  generalize 9 - ks.length = n
  induction n with
  | zero =>
    rw [List.replicate_zero, List.append_nil]
    cases e : ks.reverse with
    | nil =>
      have := congrArg List.reverse e
      rw [List.reverse_reverse] at this
      rw [this]
      rfl
    | cons x r =>
      have e2 : ks = r.reverse ++ [x] := by
        have := congrArg List.reverse e
        rw [List.reverse_reverse, List.reverse_cons] at this
        exact this
      rw [e2, rtrim_app, if_neg]
      have := h.all x (by rw [e2]; simp)
      omega
  | succ n ih =>
    rw [List.replicate_succ', ← List.append_assoc, rtrim_app, if_pos rfl]
    exact ih
theorem pad_le {ks : List Nat} (h : Nk ks) : ∀ x ∈ pad ks, x ≤ 39 := fun x hx => by
  unfold pad at hx
  rcases List.mem_append.mp hx with hx | hx
  · have := h.all x hx
    omega
  · have := List.eq_of_mem_replicate hx
    omega
theorem wn_pad {ks : List Nat} (h : Nk ks) : wn (pad ks) = some (ks.map sg) := by
  unfold wn
  rw [rtrim_pad h, isN_of h, if_neg, if_pos rfl]
  intro z
  obtain ⟨k, hk, hk2⟩ := List.any_eq_true.mp z
  have hk3 : 37 ≤ k := of_decide_eq_true hk2
  unfold pad at hk
  rcases List.mem_append.mp hk with hx | hx
  · have := h.all k hx
    omega
  · have := List.eq_of_mem_replicate hx
    omega
/-- signs found in the tables -/
theorem find_sg : ∀ k : _root_.Fin 37, Txt.find (Str.ofString " abcdefghijklmnopqrstuvwxyz0123456789") (sO [sg k.val]) = (k.val : Int) := by decide +kernel
theorem occ_sg : ∀ k : _root_.Fin 37, occurrences (Str.ofString " abcdefghijklmnopqrstuvwxyz0123456789") (sO [sg k.val]) 0 (Str.ofString " abcdefghijklmnopqrstuvwxyz0123456789").length 1 = [k.val] := by decide +kernel
theorem space_sg : ∀ k : _root_.Fin 37, Unicode.isSpace (sg k.val) = (k.val == 0) := by decide +kernel
theorem rstrip_sg {ks : List Nat} (h : ∀ k ∈ ks, k ≤ 36) : Txt.rstrip (sO (ks.map sg)) = sO ((rtrim ks).map sg) := by
  rw [rstrip_sO]
  unfold rtrim
  rw [← List.map_reverse]
  have e : ∀ r : List Nat, (∀ k ∈ r, k ≤ 36) → (r.map sg).dropWhile Unicode.isSpace = (r.dropWhile (· == 0)).map sg := fun r => by
    induction r with
    | nil => intro _; rfl
    | cons x r ih =>
      intro hr
      rw [List.map_cons, List.dropWhile_cons, List.dropWhile_cons]
      have hx : Unicode.isSpace (sg x) = (x == 0) := space_sg ⟨x, by have := hr x List.mem_cons_self; omega⟩
      rw [hx]
      split
      · exact ih fun k hk => hr k (List.mem_cons_of_mem _ hk)
      · rfl
  rw [e _ fun k hk => h k (List.mem_reverse.mp hk), ← List.map_reverse]
/-! lists of small numbers as they stand in the program -/
def intV (l : List Nat) : List V := l.map fun (n : Nat) => V.int (n : Int)
theorem atI_intV {cs : List Nat} {k : Int} (h0 : 0 ≤ k) (h1 : k < (cs.length : Int)) : atI (intV cs) k = some (.int ((cs.getD k.toNat 0 : Nat) : Int)) := by
  obtain ⟨j, rfl⟩ : ∃ j : Nat, k = (j : Int) := ⟨k.toNat, by omega⟩
  have hj : j < cs.length := by omega
  refine atI_nat ?_
  unfold intV
  rw [List.getElem?_map, List.getElem?_eq_getElem hj, Int.toNat_natCast, List.getD_eq_getElem?_getD, List.getElem?_eq_getElem hj]
  rfl
theorem intV_map {α : Type} (g : α → Nat) (l : List α) : intV (l.map g) = l.map fun x => V.int ((g x : Nat) : Int) := by
  unfold intV
  rw [List.map_map]
  rfl
theorem intV_ints (l : List Nat) : intV l = (l.map fun (n : Nat) => (n : Int)).map V.int := by
  unfold intV
  rw [List.map_map]
  rfl
theorem intV_range (cs : List Nat) : (List.range cs.length).map (fun i => V.int ((cs.getD i 0 : Nat) : Int)) = intV cs := range_getD (fun n : Nat => V.int (n : Int)) 0 cs
theorem ljust_pad {ks : List Nat} (h : ks.length ≤ 9) : Txt.ljust (sO (ks.map sg)) 9 = sO ((pad ks).map sg) := by
  have e := ljust_sO (ks.map sg) 9 (by rw [List.length_map]; exact h)
  rw [List.length_map] at e
  unfold pad
  rw [List.map_append, List.map_replicate]
  exact e
/-! numbers as data -/
def intsD (l : List Nat) : PyData := .tuple ((l.map fun (n : Nat) => (n : Int)).map PyData.int)
theorem lay_ints : ∀ l : List Int, PyData.canLayAll0 (l.map PyData.int) = true
  | [] => rfl
  | _ :: r => lay_ints r
theorem lay_intsD (l : List Nat) : (intsD l).canLay0 = true := lay_ints _
theorem dep_ints : ∀ l : List Int, PyData.depthAll (l.map PyData.int) = 0
  | [] => rfl
  | x :: r => by
    show max 0 (PyData.depthAll (r.map PyData.int)) = 0
    rw [dep_ints r]
    rfl
theorem dep_intsD (l : List Nat) : (intsD l).depth ≤ 1 := by
  show PyData.depthAll _ + 1 ≤ 1
  rw [dep_ints]
  exact Nat.le_refl 1
theorem wd_ints : ∀ l : List Int, wdA (l.map PyData.int) = true
  | [] => rfl
  | _ :: r => wd_ints r
theorem wd_intsD {l : List Nat} (h : l.length ≤ 100000) : wdB (intsD l) = true := by
  show (decide (_ ≤ 100000) && wdA _) = true
  rw [wd_ints, List.length_map, List.length_map, decide_eq_true h]
  rfl
theorem dx_intsD {K : PySem.W.Frag} {H : Hp} {p : Addr} {l : List Nat} (h : H p = some (.tup (intV l))) : Dx K H noS (.ref p) (intsD l) := by
  rw [intV_ints] at h
  exact .tup (XT.of h fun z => z.elim) (dxAll_ints _)
/-! parts of a tuple -/
theorem cutV_lo {xs : List V} (k : Nat) : cutV xs (some (k : Int)) none = xs.drop k := by
  show (xs.drop (HT.sIx xs.length 0 (some (k : Int)))).take (HT.sIx xs.length xs.length none - HT.sIx xs.length 0 (some (k : Int))) = _
  rw [HT.sIx_nat, HT.sIx_none, List.take_of_length_le (by rw [List.length_drop]; omega)]
  by_cases h : k ≤ xs.length
  · rw [Nat.min_eq_left h]
  · rw [Nat.min_eq_right (by omega), List.drop_length, List.drop_of_length_le (by omega)]
theorem cutV_hi {xs : List V} (k : Nat) : cutV xs none (some (k : Int)) = xs.take k := by
  show (xs.drop (HT.sIx xs.length 0 none)).take (HT.sIx xs.length xs.length (some (k : Int)) - HT.sIx xs.length 0 none) = _
  rw [HT.sIx_nat, HT.sIx_none, List.drop_zero, Nat.sub_zero]
  by_cases h : k ≤ xs.length
  · rw [Nat.min_eq_left h]
  · rw [Nat.min_eq_right (by omega), List.take_length, List.take_of_length_le (by omega)]
theorem slA_of {K : PySem.W.Frag} {H : Hp} {a : Addr} {xs : List V} {lo hi : Option Int} {Q : VK} (h : SqT K H a xs) (q : ∀ p H', Same H H' → SqT K H' p (cutV xs lo hi) → Q (.ref p) H') : rSlA K (.ref a) lo hi H Q := by
  refine ⟨a, xs, rfl, h, fun e => q a H (Same.refl _) ?_, fun _ p hp => q p _ (same_new hp) (SqT.of upd_same)⟩
  have : cutV xs lo hi = xs := by
    show (xs.drop (HT.sIx xs.length 0 lo)).take (HT.sIx xs.length xs.length hi - HT.sIx xs.length 0 lo) = _
    rw [e.1, e.2, List.drop_zero, Nat.sub_zero, List.take_length]
  rw [this]
  exact h
end RK

namespace RK
open PySem PySem.Spec PyProof.Rows L2
/-! ### an own error that keeps one thing, and a try whose first clause names it -/
/-- what the first clause wishes: the error is its own -/
def wHit (K : PySem.W.Frag) (c : Value) (i : Nat) (ts : Addr → Value → Option Addr → TS) (D : Ends) : WX := fun cls d σ H => PySem.W.exmOne K cls c = some true ∧
  ∀ a, H a = none → ts a cls d ⟨fun σ' H' => D.nx (σ'.set i none) H', D.rt, fun σ' H' => D.bk (σ'.set i none) H', fun σ' H' => D.ct (σ'.set i none) H'⟩ (σ.set i (some (.ref a))) H
section
variable {X : Cx} {x n : Str} {c : Value} {i : Nat} {body suite : List Stmt} {hds : List ExceptHandler} {b₀ : Stmt} {np pos pos' : Pos} {tb : WX → TS} {ts : Addr → Value → Option Addr → TS} {pins : List (Addr × Obj)}
/-- what the body leaves, seen from outside the try -/
theorem flow_out {D : Ends} {xe : Value → Shared → Prop} (ok : X.Ok) {f : Flow} {s1 : Shared} (h : SP (X.tr (X.pn ++ pins) xe) [] D f s1) : SP X pins D f s1 := by
  cases f with
  | ret u => exact let ⟨v, σ', H', J, r, q⟩ := h; ⟨v, σ', H', J.ofTry ok, r, q⟩
  | next => exact let ⟨σ', H', J, q⟩ := h; ⟨σ', H', J.ofTry ok, q⟩
  | brk => exact let ⟨σ', H', J, q⟩ := h; ⟨σ', H', J.ofTry ok, q⟩
  | cont => exact let ⟨σ', H', J, q⟩ := h; ⟨σ', H', J.ofTry ok, q⟩
/-- an error that flies stands in no frame -/
theorem no_frame {B h : Heap} {l : List Env} {a : Addr} {o : Obj} {vs : Array Value} (ff : h.FunFrames B l) (e : h.get? a = some o) (hd : o.data = .fields vs) : a ∉ frs l := fun hm => by
  obtain ⟨_, o2, e2, no⟩ := ff.mem hm
  have : o2 = o := Option.some.inj (e2.symm.trans e)
  exact no vs (this ▸ hd)
/-- the first clause's test -/
theorem names_it {a : Addr} {o : Obj} {σ : L2.St} {H : Hp} {s : Shared} {Q : Value → Shared → Prop} {E : Value → Shared → Prop} (hc : Names X x c) (S : Inv (X.suite a ((a, o) :: (X.pn ++ pins))) [] σ H s) (q : Q c s) :
    wpAny (model X.prog X.w) (X.A.mark (some (.ref a))) (eval (.Name x np) X.env) Q E s := by
  rcases hc with ⟨hg, hd, h | ⟨h1, h2, h3⟩⟩
  · exact ld_glob (X := Cx.suite X a ((a, o) :: (X.pn ++ pins))) S hg h q hd
  · exact ld_blt (X := Cx.suite X a ((a, o) :: (X.pn ++ pins))) S hg h1 h2 q h3 hd
end

/-! ### an own error class C: __init__(self, f): self.f = f -/
/-- what __init__ does of a fresh error -/
def spKeep (f : Str) (C : Addr) : Sp := fun vs H Q _ => ∃ (a : Addr) (v : V), vs = [.ref a, v] ∧ H a = some (exo a C none) ∧ ∀ dx, H dx = none → dx ≠ a → Q .non (upd (upd H dx (exd dx [(f, v)])) a (exo a C (some dx)))
structure ErrC (K : PySem.W.Frag) (mg : Str → Option Value) (x f : Str) (C fI : Addr) (fd : FuncData) : Prop where
  g : mg x = some (.ref C)
  ox : OexC K C
  no : PySem.W.findIn K (.ref C) f = some none
  iC : PySem.W.findIn K (.ref C) "__init__" = some (some (.ref fI))
  tI : PySem.W.typeIn K (.ref fI) = some (.type "function")
  b : Binds K fd ["self", f] []
  xf : XfC K C
  ex : ExcC K C
  te : PySem.W.exmOne K (.ref C) (.ref C) = some true
section
variable {X : Cx} {x f : Str} {C fI : Addr} {fd : FuncData} {k : Nat} {e : Expr} {es : List Expr} {ta : TA} {p pos : Pos}
/-- C(e), to be raised -/
theorem pmk_err (T : ErrC X.K X.mg x f C fI fd) (F1 : FnOk X.prog X.w X.K X.mg X.base CX0 k fI fd ["self", f] (spKeep f C)) (hr : Room (k + 1) X.A) (ha : PA X (e :: es) ta) (hg : Gl X x := by rfl) (hdb : (x == ("__debug__" : Str)) = false := by decide)
    (he : starEach (e :: es) X.env = (false, eval e X.env) :: starEach es X.env := by rfl) (hpl : (backTo pos (starEach es X.env)).any (·.1) = false := by rfl) : PMk X (.Call (.Name x p) (e :: es) [] pos) (tMkO C (spKeep f C) [] ta) :=
  pmk_oex T.ox T.iC T.tI F1 hr T.b .nil (fun _ _ _ _ _ _ _ z => z.elim) hg T.g ha hdb he hpl
/-- the end of its reading -/
theorem keep_end {H1 : Hp} {v : V} {Q : XK} (q : ∀ d H2, Same H1 H2 → H1 d = none → H2 d = some (.xd [(f, v)]) → Q (.ref C) (some d) H2) : ([v] : List V).length ≤ 1000 ∧ ∀ a, H1 a = none → spKeep f C (.ref a :: ([v] ++ [])) (upd H1 a (exo a C none))
    (fun v H2 => v = .non ∧ ∃ (d : Addr) (fs : List (Str × V)), H2 a = some (exo a C (some d)) ∧ H2 d = some (exd d fs) ∧ H1 d = none ∧ Q (.ref C) (some d) (upd (del H2 a) d (.xd fs))) (fun _ _ _ => False) := by
  refine ⟨by show 1 ≤ 1000; decide, fun a na => ⟨a, v, rfl, upd_same, fun dx nd ne => ⟨rfl, dx, [(f, v)], upd_same, ?_, ?_, ?_⟩⟩⟩
  · rw [upd_ne ne, upd_same]
  · rw [upd_ne ne] at nd
    exact nd
  · rw [upd_ne ne] at nd
    refine q dx _ (fun b o eb => ?_) nd upd_same
    have b1 : b ≠ dx := ne_of_none eb nd
    have b2 : b ≠ a := ne_of_none eb na
    rw [upd_ne b1, del_ne b2, upd_ne b2, upd_ne b1, upd_ne b2]
    exact eb
/-- isinstance(e, c), e the error in hand whose own dict is dd -/
def rIsEx (K : PySem.W.Frag) (D a dd : Addr) : List V → Hp → VK → Prop := fun xs H Q => ∃ (c : V) (cv : Value) (b : Bool) (fs : List (Str × V)), xs = [.ref a, c] ∧ (∀ u, RelV c u → u = cv) ∧ PySem.W.kitOne K (.ref D) cv = some b ∧ H dd = some (.xd fs) ∧ Q (.bl b) H
theorem call_isEx {a D : Addr} {o : Obj} {cls : Value} {d : Option Addr} {ps : List (Addr × Obj)} (T : ExcC X.K D) (hz : Zc cls d o) (hf : ∃ vs, o.data = .fields vs) :
    CallR (X.suite a ((a, o) :: ps)) (.builtin "isinstance") (fun xs H Q => ∃ dd, cls = .ref D ∧ d = some dd ∧ rIsEx X.K D a dd xs H Q) := by
  intro pins s σ H xs us Q I r h
  obtain ⟨dd, rfl, rfl, c, cv, b, fs, rfl, hcv, hk, hd, q⟩ := h
  obtain ⟨u1, u2, rfl, r1, r2⟩ := vals2 r
  obtain rfl := hcv u2 r2
  cases r1
  obtain ⟨ga, _⟩ := I.pin (a, o) (List.mem_append_left _ List.mem_cons_self)
  obtain ⟨vs, ef⟩ := hf
  obtain ⟨mA, hns, _⟩ := (show ObjOk X.prog X.w H s.heap dd (.xd fs) from I.hok dd _ hd)
  obtain ⟨od, ho, _⟩ := lookIn_ns hns
  have J : PySem.W.InstAt s.heap a o D (some od) := ⟨ga, hz.1, by unfold PySem.W.notCls; rw [ef], by rw [hz.2]; exact ho⟩
  have hc : (PySem.W.clsIn X.K D).isSome = true := by
    have := T.hd
    unfold PySem.W.hasDictIn at this
    cases e : PySem.W.clsIn X.K D with
    | none => rw [e] at this; cases this
    | some => rfl
  exact PySem.W.kia_one (PySem.W.kitx_exc hc T.hg T.hk T.hs T.ha T.hn T.ht T.hm) I.kIn J hk (fun z => nomatch z) fun tk => ⟨.bl b, H, I.kept (t' := tk) fun _ _ z => z, rfl, q⟩
end
end RK

namespace RK
open PySem PySem.Spec PyProof.Rows L2 HotX
/-! ### the end of a walk over a list or a tuple while an error is handled -/
section
variable {prog : Program} {w : World} {A : Around} {E : Value → Shared → Prop} {s : Shared}
theorem next_list_hot {it l x1 : Addr} {i : Nat} {items : Array Value} {Q : Option Value → Shared → Prop} (hot : HotAt A x1 s.heap) (ne : x1 ≠ it) (hit : s.heap.IsListIter it l i) (hl : s.heap.IsList l items) (hx : items[i]? = none)
    (hQ : ∀ h', (∀ b o, b ≠ it → s.heap.get? b = some o → h'.get? b = some o) → Q none { s with heap := h' }) : wpAny (model prog w) A (pyNext (.ref it)) Q E s := by
  obtain ⟨hh, o1, vs1, h1, d1, c1⟩ := hot
  obtain ⟨oi, gi, ci, di⟩ := id hit
  obtain ⟨ol, gl, _, nl, dl⟩ := hl
  unfold pyNext
  refine wpAny_bind (wpAny_attempt (wpAny_callSpecial?_slot (name := "__next__") hit.typeIs slot_listiter_next (wpAny_call_entry slot_listiter_next hit.typeIs entry_listiter_next ?_ (args_listiter_next _))))
  refine wpAny_bind (m := field (.ref it) 0) (wpAny_field gi di (x := .ref l) rfl ?_)
  refine (if_neg (Bool.false_ne_true : ¬ ((Value.ref l == Value.none) = true))).symm ▸ ?_
  refine wpAny_bind (m := field (.ref it) 1) (wpAny_field gi di (x := .int i 0) rfl (wpAny_bind (m := seqItems? (.ref l)) (wpAny_seqItems gl dl ?_)))
  simp only [Int.toNat_natCast, hx]
  refine wpAny_bind (wpAny_rule (wpAny_bind (wpAny_setField gi di (by simp) (wpAny_bind (m := newExc (.type "StopIteration") []) ?_))))
  simp only [newExc, newTuple]
  refine wpAny_bind (wpAny_newObj_type (wpAny_bind (m := firstArgMember _ _) (wpAny_of_eq (a := Value.none) (by first | rfl | (simp only [firstArgMember]; rfl)) (wpAny_newObj_type ?_ (by size_fits)))) (by size_fits))
  have k0 : ∀ b o, b ≠ it → s.heap.get? b = some o → (s.heap.update it (Obj.mapFields (·.setIfInBounds 0 Value.none))).get? b = some o := fun b o n e => by
    rw [Heap.get?_update_other _ _ (Ne.symm n)]; exact e
  have u1 := Heap.get?_push_of_some { cls := .type "tuple", data := .seq #[] } (k0 _ _ ne h1)
  refine raiseNew_hot ⟨hh, o1, vs1, Heap.get?_push_of_some _ u1, d1, c1⟩ (Nat.ne_of_lt (Heap.lt_size u1)) (Heap.get?_push_size _ rfl) rfl (by first | (simp; done) | (simp; omega)) (wpAny_bind (wpAny_isInstance (T := "StopIteration") (b := true) ⟨_, Heap.get?_update_self _ (Heap.get?_push_size _ rfl) rfl, rfl⟩ isSubtype_stop (wpAny_pure (hQ _ fun b o n e => ?_))))
  have u2 := Heap.get?_push_of_some { cls := .type "tuple", data := .seq #[] } (k0 _ _ n e)
  rw [Heap.get?_update_other _ _ (Nat.ne_of_gt (Heap.lt_size u2))]; exact Heap.get?_push_of_some _ u2
theorem next_tuple_hot {it l x1 : Addr} {i : Nat} {items : Array Value} {Q : Option Value → Shared → Prop} (hot : HotAt A x1 s.heap) (ne : x1 ≠ it) (hit : s.heap.IsTupleIter it l i) (hl : s.heap.IsTuple l items) (hx : items[i]? = none)
    (hQ : ∀ h', (∀ b o, b ≠ it → s.heap.get? b = some o → h'.get? b = some o) → Q none { s with heap := h' }) : wpAny (model prog w) A (pyNext (.ref it)) Q E s := by
  obtain ⟨hh, o1, vs1, h1, d1, c1⟩ := hot
  obtain ⟨oi, gi, ci, di⟩ := id hit
  obtain ⟨ol, gl, _, nl, dl⟩ := hl
  unfold pyNext
  refine wpAny_bind (wpAny_attempt (wpAny_callSpecial?_slot (name := "__next__") hit.typeIs F.slot_tuple_iterator_next (wpAny_call_entry F.slot_tuple_iterator_next hit.typeIs F.entry_tuple_iterator_next ?_ (F.args_tuple_iterator_next_1 _))))
  refine wpAny_bind (m := field (.ref it) 0) (wpAny_field gi di (x := .ref l) rfl ?_)
  refine (if_neg (Bool.false_ne_true : ¬ ((Value.ref l == Value.none) = true))).symm ▸ ?_
  refine wpAny_bind (m := field (.ref it) 1) (wpAny_field gi di (x := .int i 0) rfl (wpAny_bind (m := seqItems? (.ref l)) (wpAny_seqItems gl dl ?_)))
  simp only [Int.toNat_natCast, hx]
  refine wpAny_bind (wpAny_rule (wpAny_bind (wpAny_setField gi di (by simp) (wpAny_bind (m := newExc (.type "StopIteration") []) ?_))))
  simp only [newExc, newTuple]
  refine wpAny_bind (wpAny_newObj_type (wpAny_bind (m := firstArgMember _ _) (wpAny_of_eq (a := Value.none) (by first | rfl | (simp only [firstArgMember]; rfl)) (wpAny_newObj_type ?_ (by size_fits)))) (by size_fits))
  have k0 : ∀ b o, b ≠ it → s.heap.get? b = some o → (s.heap.update it (Obj.mapFields (·.setIfInBounds 0 Value.none))).get? b = some o := fun b o n e => by
    rw [Heap.get?_update_other _ _ (Ne.symm n)]; exact e
  have u1 := Heap.get?_push_of_some { cls := .type "tuple", data := .seq #[] } (k0 _ _ ne h1)
  refine raiseNew_hot ⟨hh, o1, vs1, Heap.get?_push_of_some _ u1, d1, c1⟩ (Nat.ne_of_lt (Heap.lt_size u1)) (Heap.get?_push_size _ rfl) rfl (by first | (simp; done) | (simp; omega)) (wpAny_bind (wpAny_isInstance (T := "StopIteration") (b := true) ⟨_, Heap.get?_update_self _ (Heap.get?_push_size _ rfl) rfl, rfl⟩ isSubtype_stop (wpAny_pure (hQ _ fun b o n e => ?_))))
  have u2 := Heap.get?_push_of_some { cls := .type "tuple", data := .seq #[] } (k0 _ _ n e)
  rw [Heap.get?_update_other _ _ (Nat.ne_of_gt (Heap.lt_size u2))]; exact Heap.get?_push_of_some _ u2
end
/-! ### walks over lists and tuples there -/
section
variable {P : Program} {w : World} {K : PySem.W.Frag} {tg : Expr} (a it : Addr)
theorem turn_listH : L2H.TurnH P w K tg (Itl K a) [it] it (fun i h => h.IsListIter it a i) := by
  have T : Turn P w K tg (Itl K a) [it] it (fun i h => h.IsListIter it a i) := turn_list a it
  refine ⟨T.mem, T.obj, T.keep, ?_, ?_, T.self⟩
  · rintro X rfl rfl rfl - i pins s σ H E I hf st ⟨xs, x, hq, hx⟩
    obtain ⟨its, rv, pl, _⟩ := I.list hq
    obtain ⟨u, hu, ru⟩ := rv.get hx
    obtain ⟨g0, g1, g2, g3, g4, g5⟩ := hf it T.mem
    refine wpAny_pyNext_list_item st pl.isList (x := u) (by simpa using hu) fun h2 st2 sb => ⟨u, rfl, ?_⟩
    obtain ⟨o, eo, co, dd⟩ := id st2
    refine go_of (s := { s with heap := h2 }) eo co dd (by decide) ⟨x, H, I.turned (t' := s.toks) (fun b ob hb e => (sb.2 b hb).trans e) g0 g1 g3 g4 g5, ru, ⟨rfl, fun ys hy => ?_⟩, st2, fun b hb => (hf b hb).1⟩
    rw [I.list_inj hy hq, hx]
  · rintro X rfl rfl rfl hc i pins s σ H E I hf st ⟨xs, hq, hx⟩
    obtain ⟨its, rv, pl, _⟩ := I.list hq
    obtain ⟨g0, g1, g2, g3, g4, g5⟩ := hf it T.mem
    obtain ⟨p, ⟨hh, vs1, d1, c1⟩, hp⟩ := hc
    have P1 := I.pin p (List.mem_append_left _ hp)
    have hl := rv.length
    exact next_list_hot ⟨hh, p.2, vs1, P1.1, d1, c1⟩ (g5 p (List.mem_append_left _ hp)) st pl.isList (by simp; omega) fun h2 eb => ⟨rfl, I.turned (t' := s.toks) (fun b ob hb e => eb b ob hb e) g0 g1 g3 g4 g5⟩
theorem turn_tupleH : L2H.TurnH P w K tg (Itt K a) [it] it (fun i h => h.IsTupleIter it a i) := by
  have T : Turn P w K tg (Itt K a) [it] it (fun i h => h.IsTupleIter it a i) := turn_tuple a it
  refine ⟨T.mem, T.obj, T.keep, ?_, ?_, T.self⟩
  · rintro X rfl rfl rfl - i pins s σ H E I hf st ⟨xs, x, hq, hx⟩
    obtain ⟨its, rv, pl, _⟩ := I.tuple hq
    obtain ⟨u, hu, ru⟩ := rv.get hx
    obtain ⟨g0, g1, g2, g3, g4, g5⟩ := hf it T.mem
    refine wpAny_pyNext_tuple_item st (show s.heap.IsTuple a its.toArray from pl) (x := u) (by simpa using hu) fun h2 st2 sb => ⟨u, rfl, ?_⟩
    obtain ⟨o, eo, co, dd⟩ := id st2
    refine go_of (s := { s with heap := h2 }) eo co dd (by decide) ⟨x, H, I.turned (t' := s.toks) (fun b ob hb e => (sb.2 b hb).trans e) g0 g1 g3 g4 g5, ru, ⟨rfl, fun ys hy => ?_⟩, st2, fun b hb => (hf b hb).1⟩
    rw [I.tuple_inj hy hq, hx]
  · rintro X rfl rfl rfl hc i pins s σ H E I hf st ⟨xs, hq, hx⟩
    obtain ⟨its, rv, pl, _⟩ := I.tuple hq
    obtain ⟨g0, g1, g2, g3, g4, g5⟩ := hf it T.mem
    obtain ⟨p, ⟨hh, vs1, d1, c1⟩, hp⟩ := hc
    have P1 := I.pin p (List.mem_append_left _ hp)
    have hl := rv.length
    exact next_tuple_hot ⟨hh, p.2, vs1, P1.1, d1, c1⟩ (g5 p (List.mem_append_left _ hp)) st (show s.heap.IsTuple a its.toArray from pl) (by simp; omega) fun h2 eb => ⟨rfl, I.turned (t' := s.toks) (fun b ob hb e => eb b ob hb e) g0 g1 g3 g4 g5⟩
end
section
variable {X : Cx} {tg l : Expr} {tl : TE}
theorem pi_listH (hl : PE X l tl) : L2H.PIH X tg l (iList X.K tl) := by
  refine ⟨fun pins s σ H R I h => thn (hl.run pins s σ H _ I h) fun v s1 ⟨x, H1, I1, r1, a, ex, ⟨xs, hq⟩, q⟩ => ?_⟩
  subst ex; cases r1
  obtain ⟨its, rv, pl, _⟩ := I1.list hq
  refine wpAny_pyIter_list pl.isList ⟨s1.heap.objs.size, [s1.heap.objs.size], _, _, H1, rfl, I1.kept (t' := s1.toks) fun b o e => Heap.get?_push_of_some _ e, turn_listH a _, ⟨_, Heap.get?_push_size _ rfl, rfl, rfl⟩, fun b hb => ?_, q⟩
  rw [List.mem_singleton.mp hb]
  exact I1.fpOk (Nat.le_refl _) (I1.hok.fresh (Nat.le_refl _))
theorem pi_tupH (hl : PE X l tl) : L2H.PIH X tg l (iTup X.K tl) := by
  refine ⟨fun pins s σ H R I h => thn (hl.run pins s σ H _ I h) fun v s1 ⟨x, H1, I1, r1, a, ex, ⟨xs, hq⟩, q⟩ => ?_⟩
  subst ex; cases r1
  obtain ⟨its, rv, pl, _⟩ := I1.tuple hq
  refine wpAny_pyIter_tuple (show s1.heap.IsTuple a its.toArray from pl) ⟨s1.heap.objs.size, [s1.heap.objs.size], _, _, H1, rfl, I1.kept (t' := s1.toks) fun b o e => Heap.get?_push_of_some _ e, turn_tupleH a _, ⟨_, Heap.get?_push_size _ rfl, rfl, rfl⟩, fun b hb => ?_, q⟩
  rw [List.mem_singleton.mp hb]
  exact I1.fpOk (Nat.le_refl _) (I1.hok.fresh (Nat.le_refl _))
theorem PIH_or {w1 w2 : TI} (h1 : L2H.PIH X tg l w1) (h2 : L2H.PIH X tg l w2) : L2H.PIH X tg l (fun σ H R => w1 σ H R ∨ w2 σ H R) :=
  ⟨fun pins s σ H R I h => h.elim (h1.run pins s σ H R I) (h2.run pins s σ H R I)⟩
end
/-! ### list comprehensions there: the block keeps the error that is handled among its pins -/
abbrev blkH (X : Cx) (s : Shared) (H : Hp) (scope : Scope) (ce : Env) (fp : List Addr) (p : Addr × Obj) : Cx := { X.blk s H scope ce fp with pn := [p] }
section
variable {X : Cx} {pins : List (Addr × Obj)} {s : Shared} {σ : L2.St} {H : Hp} {Q : VK} {elt tg iter : Expr} {ifs : List Expr} {scope : Scope} {own : List (Str × Nat)} {pos pos2 : Pos} {wi : TI} {g : TG} {tt : TT} {te : TE}
theorem okH {s3 : Shared} {ce : Env} {fp : List Addr} {p : Addr × Obj} (nc : X.calm = false) (ok : (X.blk s3 H scope ce fp).Ok) : (blkH X s3 H scope ce fp p).Ok :=
  ⟨ok.mod, ok.kind, ok.glob, ok.blt, ok.above, ok.inj, ok.has, ok.cab, fun z => absurd (nc.symm.trans z) Bool.false_ne_true, ok.frames, ok.stk, ok.exf, ok.bs, ok.bsz, ok.noex, ok.exfs, ok.funs, ok.frf⟩
theorem comp_hot {Qf : Value → Shared → Prop} (nc : X.calm = false) {p : Addr × Obj} (hot : L2H.Hot1 X.A p) (hp : p ∈ X.pn) (hN : X.N.Nodup) (I : Inv X pins σ H s) (hi : L2H.PIH X tg iter wi) (ok : BlkOk X.N X.env.scope scope own)
    (hg : ∀ s H C cl fp, PG (blkH X s H scope (compEnvC scope cl C X.env) fp p) tg g) (ht : ∀ s H C cl fp, PTs (blkH X s H scope (compEnvC scope cl C X.env) fp p) ifs tt)
    (he : ∀ s H C cl fp, PE (blkH X s H scope (compEnvC scope cl C X.env) fp p) elt te) (hs : ∀ x, foldedSetIterable iter X.env x = pure x) (h : tLc wi g tt te (own.map (·.2)) σ H Q)
    (hR : ∀ D C s' m H', Inv X pins σ H' s' → Q (.ref D) H' → s'.heap.Ns C m → FpOk X pins H' C → compPost (model X.prog X.w) X.A X.xe none Qf (.ref D) C (.ok .next) s') :
    wpAny (model X.prog X.w) X.A (comprehension (.ListComp elt [⟨tg, iter, ifs, 0⟩] scope pos) scope X.env pos2 (newList []) false (eval iter X.env) none) Qf X.xe s := by
  have free : ∀ y ∈ scope.names, y.2 = .free → ∃ c, X.env.cells.lookup y.1 = some c := fun y hy e => I.ok.has _ (ok.free y hy e)
  refine wpAny_comprehension_free (use := none) rfl hs (closure_ok free) ok.kind (fun y hy e => (ok.uniq y hy).trans (congrArg some e)) (thn (hi.run pins s σ H _ I h) fun _ t1 hx => thn hx fun _ t2 ⟨it, fp, tn, J, H2, ei, I2, T, st2, f2, q⟩ => ?_)
  subst ei
  refine wpAny_newObj_type (newEnv_comp ?_) (Nat.zero_le _)
  have nD : H2 t2.heap.objs.size = none := I2.hok.fresh (Nat.le_refl _)
  obtain ⟨W, ⟨m0, w0⟩, turn⟩ := q _ nD
  generalize eD : t2.heap.objs.size = D at nD w0 turn ⊢
  generalize e3 : ({ t2 with heap := t2.heap.push { cls := .type "list", data := .seq ([] : List Value).toArray } } : Shared) = t3
  have hp3 : t3.heap = t2.heap.push { cls := .type "list", data := .seq ([] : List Value).toArray } := by rw [← e3]
  have I3 : Inv X pins σ (upd H2 D (.lst [])) t3 := by
    rw [← e3]
    exact I2.laid (t' := t2.toks) (fun b o e => Heap.get?_push_of_some _ e) (Nat.le_of_eq eD) ⟨Nat.zero_le _, [], 0, .nil, by rw [← eD]; exact Heap.get?_push_size _ rfl⟩
  have f3 : ∀ b ∈ fp, FpOk X pins (upd H2 D (.lst [])) b ∧ b < t3.heap.objs.size := fun b hb => by
    obtain ⟨o, eo, _⟩ := T.obj _ _ st2 b hb
    have lt : b < D := by rw [← eD]; exact Heap.lt_size eo
    exact ⟨⟨(upd_ne (Nat.ne_of_lt lt)).trans (f2 b hb).1, (f2 b hb).2⟩, by rw [hp3, Heap.size_push, eD]; exact Nat.lt_succ_of_lt lt⟩
  have I4 := block_start I3 ok hN f3
  have P3 := I3.pin p (List.mem_append_left _ hp)
  have pS : p.1 ∉ frs X.stack := fun hm => (List.mem_cons.mp (I3.stkSub p.1 hm)).elim P3.2.2.1 P3.2.2.2.1
  have pg := hg t3 (upd H2 D (.lst [])) t3.heap.objs.size (cellsFrom (t3.heap.objs.size + 1) scope.names (cloFrom X.env.cells scope.names [])) fp
  have pt := ht t3 (upd H2 D (.lst [])) t3.heap.objs.size (cellsFrom (t3.heap.objs.size + 1) scope.names (cloFrom X.env.cells scope.names [])) fp
  have pe := he t3 (upd H2 D (.lst [])) t3.heap.objs.size (cellsFrom (t3.heap.objs.size + 1) scope.names (cloFrom X.env.cells scope.names [])) fp
  show codeAny _ _ (.compStart _ 0 (.ref it) (.ref D) (compEnvC scope (cellsFrom (t3.heap.objs.size + 1) scope.names (cloFrom X.env.cells scope.names [])) t3.heap.objs.size X.env)) (compPost _ X.A X.xe none Qf (.ref D) t3.heap.objs.size) { t3 with heap := pushCells (t3.heap.push { cls := .type "dict", data := .dict #[] }) scope.names }
  have nfp : ∀ b ∈ fp, (upd H2 D (.lst [])) b = none := fun b hb => (f3 b hb).1.1
  generalize hce : compEnvC scope (cellsFrom (t3.heap.objs.size + 1) scope.names (cloFrom X.env.cells scope.names [])) t3.heap.objs.size X.env = ce at I4 pg pt pe ⊢
  have cL : ce.locals = t3.heap.objs.size := by rw [← hce]; rfl
  generalize hH3 : upd H2 D (.lst []) = H3 at I3 I4 P3 pg pt pe w0 nfp f3
  generalize hs4 : ({ t3 with heap := pushCells (t3.heap.push { cls := .type "dict", data := .dict #[] }) scope.names } : Shared) = t4 at I4 ⊢
  have k4 : ∀ b o, t3.heap.get? b = some o → t4.heap.get? b = some o := fun b o e => by rw [← hs4]; exact pushCells_keeps _ _ _ _ (Heap.get?_push_of_some _ e)
  have k3 : ∀ b o, t2.heap.get? b = some o → t4.heap.get? b = some o := fun b o e => k4 b o (by rw [hp3]; exact Heap.get?_push_of_some _ e)
  have st4 : tn 0 t4.heap := T.keep _ _ _ st2 fun b _ o e => k3 b o e
  have J4 : Inv (blkH X t3 H3 scope ce fp p) [] (wipe σ (own.map (·.2))) H3 t4 := ⟨okH nc I4.ok, I4.os, I4.bare, I4.base, I4.loc, I4.cell, I4.free, I4.freeC, fun r hr => by
    have er : r = p := by simpa using hr
    subst er
    exact ⟨k4 _ _ P3.1, P3.2.1, by rw [show (blkH X t3 H3 scope ce fp r).env.locals = t3.heap.objs.size from cL]; exact Nat.ne_of_lt (Heap.lt_size P3.1), pS, P3.2.2.2.2⟩, I4.hok, I4.len⟩
  have hc : L2H.HotC (blkH X t3 H3 scope ce fp p) := ⟨p, hot, List.mem_cons_self⟩
  have stat : ∀ {σ' : L2.St} {H' : Hp} {s' : Shared}, Inv (blkH X t3 H3 scope ce fp p) [] σ' H' s' → (∀ b ∈ fp, H' b = none) → ∀ b ∈ fp, FpOk (blkH X t3 H3 scope ce fp p) [] H' b := fun I' hn b hb =>
    ⟨hn b hb, (I'.ok.exf b hb).1, I'.ok.exfs b hb, .inl hb, (I'.ok.exf b hb).2, fun r hr => by
      have er : r = p := by simpa using hr
      rw [er]
      exact (f2 b hb).2.2.2.2.2 p (List.mem_append_left _ hp)⟩
  have loop : codeAny (model X.prog X.w) X.A (.compLoop (.ListComp elt [⟨tg, iter, ifs, 0⟩] scope pos) 0 (.ref it) (.ref D) ce) (compPost (model X.prog X.w) X.A X.xe none Qf (.ref D) t3.heap.objs.size) t4 := by
    refine compLoop_any (fun n s' => ∃ i H', Inv (blkH X t3 H3 scope ce fp p) [] (wipe σ (own.map (·.2))) H' s' ∧ tn i s'.heap ∧ (∀ b ∈ fp, H' b = none) ∧ W i n H') (fun n t5 ⟨i, H5, I5, st5, n5, w5⟩ => ?_) m0 ⟨0, H3, J4, st4, nfp, w0⟩
    rcases turn i n H5 w5 with ⟨stop, qq⟩ | ⟨go, Nx, hNx, step⟩
    · refine thnF (T.done (blkH X t3 H3 scope ce fp p) rfl rfl rfl hc i [] t5 _ H5 (fun _ _ => False) I5 (stat I5 n5) st5 stop) fun r t6 ⟨er, I6⟩ => ?_
      subst er
      have I7 : Inv X pins σ H5 t6 := I3.call' (ch := fp) I6.os I6.base I6.hok I6.bare fun b hb => ⟨(f3 b hb).1.2.2.2.1, (f3 b hb).1.2.1, (f3 b hb).1.2.2.2.2.1, (f3 b hb).1.2.2.2.2.2⟩
      have nC : H5 t3.heap.objs.size = none := cL ▸ (I6.free : H5 ce.locals = none)
      obtain ⟨m, hn, _⟩ := I6.loc
      exact hR D _ t6 m H5 I7 qq (cL ▸ (hn : t6.heap.Ns ce.locals m)) (I3.fpOk (Nat.le_refl _) nC)
    · refine thnF (T.item (blkH X t3 H3 scope ce fp p) rfl rfl rfl hc i [] t5 _ H5 (fun _ _ => False) I5 (stat I5 n5) st5 go) fun r t6 ⟨u, er, h6⟩ => ?_
      subst er
      refine thnF h6 fun _ t7 ⟨x, H7, I7, r7, y7, st7, n7⟩ => thnF (pg.run _ t7 _ H7 x u _ (I7.pinned (stat I7 n7) (T.obj _ _ st7)) r7 (step x H7 y7)) fun _ t8 ⟨σ8, H8, I8, hw8, q8⟩ => thnF (pt.run _ t8 σ8 H8 _ I8 q8) fun b t9 ⟨H9, I9, q9⟩ => ?_
      have back : ∀ {s' : Shared} {H' : Hp}, Inv (blkH X t3 H3 scope ce fp p) ([] ++ pinsAt fp t7.heap) σ8 H' s' → Nx H' → ∃ m, m < n ∧ ∃ i H', Inv (blkH X t3 H3 scope ce fp p) [] (wipe σ (own.map (·.2))) H' s' ∧ tn i s'.heap ∧ (∀ b ∈ fp, H' b = none) ∧ W i m H' := fun {s' H'} I' nx => by
        obtain ⟨m', lt, w'⟩ := hNx H' nx
        have at_ : ∀ b ∈ fp, ∀ o, t7.heap.get? b = some o → s'.heap.get? b = some o ∧ H' b = none := fun b hb o e => ⟨(I'.pin (b, o) (.tail _ (mem_pinsAt hb e))).1, (I'.pin (b, o) (.tail _ (mem_pinsAt hb e))).2.1⟩
        refine ⟨m', lt, i + 1, H', (I'.unpinned (pins := [])).weak (by rw [← hw8, wipe_length]) (fun j v e => (wipe_some (hw8 ▸ e)).1), T.keep _ _ _ st7 fun b hb o e => (at_ b hb o e).1, fun b hb => ?_, w'⟩
        exact let ⟨o, e, _⟩ := T.obj _ _ st7 b hb; (at_ b hb o e).2
      cases b with
      | false => exact back I9 q9
      | true => exact thnF (pe.run _ t9 σ8 H9 _ I9 q9) fun z t10 ⟨yv, H10, I10, r10, acc, d10, z10, nx⟩ => app_ok (X := blkH X t3 H3 scope ce fp p) I10 d10 z10 r10 fun t11 I11 => back I11 nx
  exact codeAny_compStart_list loop (T.self X.A 0 _ _ _ st4 loop)
theorem pe_lcH (nc : X.calm = false) {p : Addr × Obj} (hot : L2H.Hot1 X.A p) (hp : p ∈ X.pn) (hN : X.N.Nodup) (hi : L2H.PIH X tg iter wi) (ok : BlkOk X.N X.env.scope scope own)
    (hg : ∀ s H C cl fp, PG (blkH X s H scope (compEnvC scope cl C X.env) fp p) tg g) (ht : ∀ s H C cl fp, PTs (blkH X s H scope (compEnvC scope cl C X.env) fp p) ifs tt)
    (he : ∀ s H C cl fp, PE (blkH X s H scope (compEnvC scope cl C X.env) fp p) elt te) (hs : ∀ x, foldedSetIterable iter X.env x = pure x := by intro _; rfl) : PE X (.ListComp elt [⟨tg, iter, ifs, 0⟩] scope pos) (tLc wi g tt te (own.map (·.2))) := by
  refine ⟨fun pins s σ H Q I h => ?_⟩
  rw [eval_ListComp]
  exact comp_hot nc hot hp hN I hi ok hg ht he hs h fun D C s2 m H2 I2 q hn f => ⟨m, hn, fun h2 sb => ⟨.ref D, H2, I2.turned (t' := s2.toks) (fun b o hb e => (sb.2 b hb).trans e) f.1 f.2.1 f.2.2.2.1 f.2.2.2.2.1 f.2.2.2.2.2, rfl, q⟩⟩
end
/-! ### errors raised where nothing is handled, their context None -/
section
variable {X : Cx} {x f : Str} {C fI : Addr} {fd : FuncData} {k : Nat} {e : Expr} {ta : TA} {p pos : Pos}
theorem pmk_errN (T : ErrC X.K X.mg x f C fI fd) (F1 : FnOk X.prog X.w X.K X.mg X.base CX0 k fI fd ["self", f] (spKeep f C)) (hr : Room (k + 1) X.A) (ha : PA X [e] ta) (hg : Gl X x := by rfl) (hdb : (x == ("__debug__" : Str)) = false := by decide)
    (he : starEach [e] X.env = (false, eval e X.env) :: starEach [] X.env := by rfl) (hpl : (backTo pos (starEach [] X.env)).any (·.1) = false := by rfl) : L2N.PMk X (.Call (.Name x p) [e] [] pos) (tMkO C (spKeep f C) [] ta) := by
  intro pins s σ H Q I h
  obtain ⟨nm, q, N, bs, bm, sn, sub, ab, col, dd, k0, k1, k2, k3, k5, lkC, vbm⟩ := T.ox.cls
  refine wpAny_Call_Name_kw (ld_glob I hg T.g (PySem.W.callWith_K (h₀ := X.base) I.ok.mod.kin T.ox.kC (thn (ha.run pos pins s σ H _ I h) fun us s1 ⟨vs, H1, I1, r1, lv, q1⟩ => ⟨I1.kIn, ?_⟩) he hpl) hdb)
  obtain ⟨hp, g, dr, tk, os⟩ := s1
  generalize ea : hp.objs.size + 1 = a
  have ge : hp.objs.size ≤ a := by omega
  have hq := q1 a (I1.hok.fresh ge)
  have kk : ∀ b o, hp.get? b = some o → ((hp.push (PySem.W.kdv_tup us)).push (PySem.HandSPX.excO C hp.objs.size)).get? b = some o := fun b o z => Heap.get?_push_of_some _ (Heap.get?_push_of_some _ z)
  have ga : ((hp.push (PySem.W.kdv_tup us)).push (PySem.HandSPX.excO C hp.objs.size)).get? a = some (PySem.HandSPX.excO C hp.objs.size) := by rw [← ea]; heap_get
  have I2 : Inv X pins σ (upd H1 a (exo a C none)) ⟨(hp.push (PySem.W.kdv_tup us)).push (PySem.HandSPX.excO C hp.objs.size), g, dr, tk, os⟩ := I1.laid (t' := tk) (o := exo a C none) kk ge (exo_ok ga)
  have r2 : Vals (V.ref a :: (vs ++ [])) (Value.ref a :: (us ++ [])) := .cons rfl (r1.append .nil)
  have lu : us.length ≤ sizeLine := by
    have := Paired.length r1; have : (1000 : Nat) ≤ sizeLine := by decide
    omega
  have ll : (Value.ref a :: us ++ []).length = (["self", f] : List Str).length := (r2.length).symm.trans (F1.len _ _ _ _ hq)
  have bb := T.b ⟨(hp.push (PySem.W.kdv_tup us)).push (PySem.HandSPX.excO C hp.objs.size), g, dr, tk, os⟩ (Value.ref a :: us) I2.kIn ll
  subst ea
  refine wpAny_call (PySem.HandSPX.call_own F.excBase_ValueError (fun Y => PySem.HandSPX.refsVE_contains Y bm vbm) (I1.kIn _ _ lkC) (PySem.W.looks_findIn I1.kIn T.iC) (fun self => PySem.W.bind_fn I1.kIn self T.tI) lu
    (codeAny_mono (F1.run _ X.stack _ _ ⟨Value.ref _ :: us, []⟩ _ _ _ (fun _ _ _ => False) (hr.make C us []) (I2.env0.make C us []) bb r2 hq) fun r s2 z => ?_))
  match r, z with
  | .error _, z => exact False.elim z
  | .ok .next, z => exact False.elim z
  | .ok .brk, z => exact False.elim z
  | .ok .cont, z => exact False.elim z
  | .ok (.ret u), ⟨v, H2, os2, bare2, un2, hok2, rv, ev, d, fs, e1, e2, e3, q2⟩ =>
    subst ev
    obtain ⟨h2, g2, d2, t2, os3⟩ := s2
    obtain ⟨t0, G, J, kG, gn, go, na⟩ := mk_end0 (d2 := d2) (t2 := t2) I1 ge kk un2 hok2 os2 bare2 e1 e2 e3
    exact ⟨rv, _, _, _, ⟨G, g2, d2, t2, os3⟩, _, .ref C, some d, rfl, J, kG, gn, go, ⟨rfl, rfl, fun vs z => by cases z; rfl⟩, rfl, rfl, na, rfl, bare2, raises_own T.ox.exC T.ox.tyC, q2⟩
/-- a def that may raise so -/
theorem Fun.okN {P : Program} {w : World} {K : PySem.W.Frag} {mg : Str → Option Value} {base : Heap} {x qual : Str} {st : Stmt} {f : Addr} {fd : FuncData} {N ps : List Str} {k : Nat} {sp : Sp} (F : Fun K x qual st f fd) (S : FnScope N ps (defScope st))
    (len : ∀ vs H Q E, sp vs H Q E → vs.length = ps.length) (body : ∀ (cdv : Value) (A : Around) (outer : List Env) (s : Shared) (H : Hp) (vs : List V) (Q : VK) (E : XK), Room k (A.deeper (envOfC qual (defScope st) s.heap.objs.size f cdv)) → sp vs H Q E →
      ∃ t, PSs (cxOf (L2N.CX P w) P w K mg base N qual (defScope st) f cdv A outer s H E) (defBody st) t ∧ t { nx := fun _ H' => Q .non H', rt := Q } (start N vs) H) : FnOk P w K mg base (L2N.CX P w) (k + 1) f fd ps sp := by
  obtain ⟨oc, od, kV, doc, pm, an, cdv, ct, osl, rfl, lk, hcd⟩ := F.ex
  exact fn_of lk hcd S len fun A outer s H vs Q E hr z => body cdv A outer s H vs Q E hr z
/-- a def called while an error is handled -/
theorem Fun.okH {P : Program} {w : World} {K : PySem.W.Frag} {mg : Str → Option Value} {base : Heap} {x qual : Str} {st : Stmt} {f : Addr} {fd : FuncData} {N ps : List Str} {k : Nat} {sp : Sp} (F : Fun K x qual st f fd) (S : FnScope N ps (defScope st))
    (len : ∀ vs H Q E, sp vs H Q E → vs.length = ps.length) (body : ∀ (cdv : Value) (A : Around) (outer : List Env) (s : Shared) (H : Hp) (vs : List V) (Q : VK) (E : XK) (p : Addr × Obj), L2H.Hot1 A p → L2H.RoomH k (A.deeper (envOfC qual (defScope st) s.heap.objs.size f cdv)) → sp vs H Q E →
      ∃ t, PSs (L2H.cxH CX0 P w K mg base N qual (defScope st) f cdv A outer s H E p).nox (defBody st) t ∧ t { nx := fun _ H' => Q .non H', rt := Q } (start N vs) H) : L2H.FnH P w K mg base CX0 (k + 1) f fd ps sp := by
  obtain ⟨oc, od, kV, doc, pm, an, cdv, ct, osl, rfl, lk, hcd⟩ := F.ex
  refine L2H.fn_ofH lk hcd S len fun A outer s H vs Q E p hot hr z => ?_
  obtain ⟨t, h1, h2⟩ := body cdv A outer s H vs Q E p hot hr z
  exact ⟨t, h1.nox, h2⟩
end
section
variable {X : Cx} {x n : Str} {c : Value} {i : Nat} {body suite : List Stmt} {hds : List ExceptHandler} {b₀ : Stmt} {np pos pos' : Pos} {tb : WX → TS} {ts : Addr → Value → Option Addr → TS} {pins : List (Addr × Obj)}
theorem ps_try_hitN (st : X.stack = X.env :: X.outer) (fr : X.env.frame = some X.env.locals) (ndN : X.N.Nodup) (ni : X.N[i]? = some n) (nl : X.env.kindOf n = some .local) (nc : Names X x c)
    (hB : ∀ (W : WX) (ps : List (Addr × Obj)) (xe : Value → Shared → Prop), L2N.Takes (X.tr ps xe) W → PassesOwn (model X.prog X.w) X.A X.env xe → PSs (X.tr ps xe) body (tb W))
    (hS : ∀ (a : Addr) (o : Obj) (cls : Value) (d : Option Addr) (ps : List (Addr × Obj)), L2N.Zn cls d o → (∃ vs, o.data = .fields vs) → PSs (X.suite a ((a, o) :: ps)) (b₀ :: suite) (ts a cls d)) :
    PS X (.Try body (.ExceptHandler (some (.Name x np)) (some n) (b₀ :: suite) pos' :: hds) [] [] pos) (fun D σ H => tb (wHit X.K c i ts D) D σ H) := by
  refine ⟨fun pins s σ H D I h => wpAny_Try_except ?_⟩
  have fr2 : X.A.frames = some (X.env :: X.outer) := I.ok.frames.trans (congrArg some st)
  refine wpAny_mono ((hB _ (X.pn ++ pins) (fun e s₁ => wpAny (model X.prog X.w) X.A (noteFrame e X.env) (fun _ s₂ => wpAny (model X.prog X.w) X.A (setFlight e none) (fun _ s₃ => wpAny (model X.prog X.w) X.A
    (handleBy e X.env (.ExceptHandler (some (.Name x np)) (some n) (b₀ :: suite) pos' :: hds)) (SP X pins D) X.xe s₃) X.xe s₂) X.xe s₁) (fun u t xx => ?_) PassesOwn.looking).run [] s σ H D (I.toTry _) h) (fun f t q => ?_) (fun _ _ z => z)
  case refine_2 =>
    have q' := flow_out (pins := pins) I.ok q
    cases f with
    | next => exact wpAny_execs_nil q'
    | _ => exact q'
  obtain ⟨a, B, t0, ps, σ1, H1, cls, d, eu, J0, nB, u1, sk, na, eo, bare, hit, go⟩ := xx
  subst eu
  have J := J0.ofTry I.ok
  rw [show (X.tr (X.pn ++ pins) _).stack = X.env :: X.outer from st] at sk
  refine L2N.Sky.land L2N.Zn.steady fr2 fr sk fun h3 f3 u3 => ?_
  have J3 : Inv X pins σ1 H1 { t with heap := h3 } := J.landed nB f3.1 (u1.trans u3) eo bare
  obtain ⟨o3, v3, g3, z3, d3⟩ := f3.there
  have out := no_frame f3.2.2.1 g3 d3
  have aL : a ≠ X.env.locals := fun e => out (List.mem_filterMap.mpr ⟨X.env, .head _, by rw [e]; exact fr⟩)
  have aF : a ∉ X.fs := fun m => out (by rw [show frs (X.env :: X.outer) = X.env.locals :: frs X.outer from List.filterMap_cons_some fr]; exact .tail _ m)
  refine wpAny_handleBy_cons (codeAny_handlers_test (names_it nc (J3.suite g3 d3 na aL aF) ?_)) (by intro z; cases z)
  refine (PySem.W.exm_one (M := model X.prog X.w) J3.kIn (fun _ _ _ _ k z => wpAny_typeOf_ref (k _ _ g3) (by rw [z3.1]; exact z)) hit).here ?_
  refine codeAny_handlers_suite_as (HandSPX.lands_againZ f3 fun h4 f4 u4 => ?_)
  have J4 : Inv X pins σ1 H1 { t with heap := h4 } := J.landed nB f4.1 ((u1.trans u3).trans u4) eo bare
  obtain ⟨o4, v4, g4, z4, d4⟩ := f4.there
  refine store_ok (X := Cx.suite X a ((a, o4) :: (X.pn ++ pins))) (v := .ref a) (J4.suite g4 d4 na aL aF) ndN ni (.inl nl) rfl (fun t5 S5 => ?_) (.inr nl)
  refine wpAny_mono ((hS a o4 cls d (X.pn ++ pins) z4 ⟨_, d4⟩).run [] t5 _ H1 _ S5 (go a na)) (fun f t6 q => ?_) (fun _ _ z => z.elim)
  cases f with
  | ret u => exact let ⟨v6, σ6, H6, S6, r6, q6⟩ := q; gone_ok (S6.unsuite I.ok) ndN ni nl fun t7 J7 => ⟨v6, _, H6, J7, r6, q6⟩
  | next => exact let ⟨σ6, H6, S6, q6⟩ := q; gone_ok (S6.unsuite I.ok) ndN ni nl fun t7 J7 => ⟨_, H6, J7, q6⟩
  | brk => exact let ⟨σ6, H6, S6, q6⟩ := q; gone_ok (S6.unsuite I.ok) ndN ni nl fun t7 J7 => ⟨_, H6, J7, q6⟩
  | cont => exact let ⟨σ6, H6, S6, q6⟩ := q; gone_ok (S6.unsuite I.ok) ndN ni nl fun t7 J7 => ⟨_, H6, J7, q6⟩
/-- the suite's context bears the error -/
theorem hot_suite {a : Addr} {o : Obj} {cls : Value} {d : Option Addr} {ps : List (Addr × Obj)} (z : L2N.Zn cls d o) (h : ∃ vs, o.data = .fields vs) : L2H.HotC (X.suite a ((a, o) :: ps)) :=
  let ⟨vs, e⟩ := h
  ⟨(a, o), ⟨rfl, vs, e, z.2.2 vs e⟩, List.mem_cons_self⟩
theorem passN : Passes (L2N.CX X.prog X.w) X E0 := fun _ _ _ _ _ _ _ h => let ⟨_, _, _, _, _, _, _, _, _, _, _, _, z⟩ := h; z.elim
/-- nothing leaves a suite -/
theorem pass_at0 {σ : L2.St} : PassesAt CX0 X σ (fun _ _ _ => False) := fun _ _ _ _ _ _ h => h.elim
end
theorem unitsH {k : Nat} {A : Around} (r : L2H.RoomH k A) : A.units + 64 < cLine := by
  have := r.un
  omega
end RK

namespace RK
open PySem PySem.Spec PyProof.Rows L2 PySem.Builtin.Str
/-! ### {n:04x} of a word -/
def hx (k : Nat) : Nat := if k < 10 then 48 + k else 87 + k
def hexd (n : Nat) : List Nat := [hx (n / 4096), hx (n / 256 % 16), hx (n / 16 % 16), hx (n % 16)]
theorem hx_char : ∀ k : _root_.Fin 16, (Nat.digitChar k.val).toNat = hx k.val := by decide +kernel
theorem tod16 {n : Nat} (h : n < 65536) : (Nat.toDigits 16 n).length ≤ 4 ∧ List.replicate (4 - (Nat.toDigits 16 n).length) 48 ++ (Nat.toDigits 16 n).map Char.toNat = hexd n := by
  have hc : ∀ k, k < 16 → (Nat.digitChar k).toNat = hx k := fun k hk => hx_char ⟨k, hk⟩
  have z : hx 0 = 48 := rfl
  have base : ∀ k, k < 16 → Nat.toDigits 16 k = [Nat.digitChar k] := fun k hk => Nat.toDigits_of_lt_base hk
  have step : ∀ k, 16 ≤ k → Nat.toDigits 16 k = Nat.toDigits 16 (k / 16) ++ [Nat.digitChar (k % 16)] := fun k hk => Nat.toDigits_of_base_le (by decide) hk
  unfold hexd
  by_cases h1 : n < 16
  · rw [base n h1, show n / 4096 = 0 by omega, show n / 256 % 16 = 0 by omega, show n / 16 % 16 = 0 by omega, show n % 16 = n by omega]
    refine ⟨show 1 ≤ 4 by decide, ?_⟩
    show List.replicate 3 48 ++ [(Nat.digitChar n).toNat] = _
    rw [hc n h1]
    rfl
  rw [step n (by omega)]
  by_cases h2 : n / 16 < 16
  · rw [base (n / 16) h2, show n / 4096 = 0 by omega, show n / 256 % 16 = 0 by omega, show n / 16 % 16 = n / 16 by omega]
    refine ⟨show 2 ≤ 4 by decide, ?_⟩
    show List.replicate 2 48 ++ [(Nat.digitChar (n / 16)).toNat, (Nat.digitChar (n % 16)).toNat] = _
    rw [hc _ h2, hc _ (Nat.mod_lt _ (by decide))]
    rfl
  rw [step (n / 16) (by omega)]
  by_cases h3 : n / 16 / 16 < 16
  · rw [base (n / 16 / 16) h3, show n / 4096 = 0 by omega, show n / 256 % 16 = n / 16 / 16 by omega]
    refine ⟨show 3 ≤ 4 by decide, ?_⟩
    show List.replicate 1 48 ++ [(Nat.digitChar (n / 16 / 16)).toNat, (Nat.digitChar (n / 16 % 16)).toNat, (Nat.digitChar (n % 16)).toNat] = _
    rw [hc _ h3, hc _ (Nat.mod_lt _ (by decide)), hc _ (Nat.mod_lt _ (by decide))]
    rfl
  rw [step (n / 16 / 16) (by omega), base (n / 16 / 16 / 16) (by omega), show n / 4096 = n / 16 / 16 / 16 by omega, show n / 256 = n / 16 / 16 by omega]
  refine ⟨show 4 ≤ 4 by decide, ?_⟩
  show List.replicate 0 48 ++ [(Nat.digitChar (n / 16 / 16 / 16)).toNat, (Nat.digitChar (n / 16 / 16 % 16)).toNat, (Nat.digitChar (n / 16 % 16)).toNat, (Nat.digitChar (n % 16)).toNat] = _
  rw [hc _ (by omega), hc _ (Nat.mod_lt _ (by decide)), hc _ (Nat.mod_lt _ (by decide)), hc _ (Nat.mod_lt _ (by decide))]
  rfl
section
variable {X : Cx}
open Builtin PySem.W Builtin.Float
abbrev sp4 : Str := ⟨#[48, 52, 120]⟩
theorem ret_text2 {M : Model} {A : Around} {E : Value → Shared → Prop} {s : Shared} {X T : PySem.Str} {Q : Fin → Shared → Prop} (e : X = T) (hL : T.length ≤ sizeLine) (h : ∀ t k, Q (.done (.ret (.str T t))) { s with toks := k }) : wpAny M A (retStr X) Q E s := by
  subst e
  exact KXf.ret_text rfl hL h
def f4 : Builtin.Float.FormatSpec := { fill := 48, align := 61, width := some 4, type := some 120 }
theorem fmt4_meets {n : Nat} (h : n < 65536) (t u : Tok) : Meets («int.__format__» ⟨[.int (n : Int) t, .str sp4 u], []⟩) (fun _ R s => ∀ t' k, R (.ok (.ret (.str (sO (hexd n)) t'))) { s with toks := k }) := by
  apply KPc.meets_of
  intro prog w A s Q E hq
  unfold Builtin.«int.__format__»
  refine wpAny_bind (wpAny_of_eq (a := (_, _)) rfl ?_)
  refine wpAny_bind (wpAny_of_eq (a := _) rfl ?_)
  refine wpAny_ite (KPc.ite_no Bool.false_ne_true ?_)
  refine wpAny_bind (wpAny_typeNameOf (T := "str") (typeIs_str _ _ _) (by decide) fun _ => ?_)
  refine wpAny_bind (wpAny_of_eq (a := some _) rfl ?_)
  refine wpAny_ite (KPc.ite_no (by decide) ?_)
  refine wpAny_ite (KPc.ite_no (by decide) ?_)
  refine wpAny_bind (wpAny_typeNameOfCut_int ?_)
  have hp : parseFormatSpec sp4.cps.toList "int" 62 = .ok f4 := rfl
  have hty : f4.type.getD (if (sp4.cps.back? == some 0) = true then 0 else 100) = 120 := rfl
  have h1 : f4.precision = none := rfl
  have h2 : f4.noNeg0 = false := rfl
  have h3 : f4.alt = false := rfl
  have h4 : f4.width = some 4 := rfl
  have h5 : f4.grouping = none := rfl
  have h6 : f4.sign = none := rfl
  have h7 : f4.fill = 48 := rfl
  have h8 : f4.align = 61 := rfl
  obtain ⟨f, hf⟩ : ∃ f, f = f4 := ⟨_, rfl⟩
  rw [← hf] at hp hty h1 h2 h3 h4
  simp only [hp, hty]
  rw [if_pos (by decide)]
  show wpAny _ _ (if _ then _ else _) _ _ _
  rw [if_neg (by simp [h1])]
  show wpAny _ _ (if _ then _ else _) _ _ _
  rw [if_neg (by simp [h2])]
  show wpAny _ _ (if _ then _ else _) _ _ _
  rw [if_neg (by decide)]
  show wpAny _ _ (if _ then _ else _) _ _ _
  rw [if_neg (by decide)]
  show wpAny _ _ (if _ then _ else _) _ _ _
  rw [if_neg (by simp [h4])]
  refine ret_text2 (T := sO (hexd n)) ?_ ?_ hq
  case refine_1 =>
    obtain ⟨hl, ht⟩ := tod16 h
    simp only [h3, Bool.false_eq_true, if_false, Int.natAbs_natCast, decide_eq_false (by omega : ¬ (n : Int) < 0), show ((120 : Nat) == 88) = false by decide, show ((16 : Nat) == 10) = false by decide]
    generalize Nat.toDigits 16 n = ds at hl ht
    subst hf
    conv => lhs; whnf
    simp only [h4, h5, h6, h7, h8, List.length_nil, Bool.false_eq_true, if_false, beq_self_eq_true, Bool.and_self, if_true]
    have e4 : ((4 : Nat) : Int) - (((0 : Nat) : Int) + ((0 : Nat) : Int) + ((0 : Nat) : Int)) = 4 := by decide
    rw [e4]
    clear h1 h2 h3 h4 h5 h6 h7 h8 hty hp hq
    cases ds with
    | nil =>
      show _ = sO (hexd n)
      rw [← ht]
      rfl
    | cons c r =>
      have hm : ((c :: r).map Char.toNat).length = (c :: r).length := List.length_map ..
      show (⟨(([] ++ [] ++ [] ++ List.replicate (4 - ((List.replicate (4 - ((c :: r).map Char.toNat).length) 48 ++ (c :: r).map Char.toNat).length : Int)).toNat 48 ++ (List.replicate (4 - ((c :: r).map Char.toNat).length) 48 ++ (c :: r).map Char.toNat)) ++ [] ++ []).toArray⟩ : Str) = _
      rw [hm, ht]
      rfl
  case refine_2 => exact Nat.le_trans (show 4 ≤ 100 by decide) (by decide)
/-- {e:04x} of a word -/
def tF4 (te : TE) : TE := fun σ H Q => te σ H fun x H1 => ∃ n : Nat, x = .int (n : Int) ∧ n < 65536 ∧ Q (.str (sO (hexd n))) H1
theorem pe_fmt4 {e spec : Expr} {te : TE} {pos : Pos} (he : PE X e te) (hs : PE X spec (tC (.str (Str.ofString "04x")))) : PE X (.FormattedValue e (-1) (some spec) pos) (tF4 te) := by
  refine ⟨fun pins s σ H Q I h => ?_⟩
  refine wpAny_FormattedValue_spec (thn (he.run pins s σ H _ I h) fun v s1 ⟨x, H1, I1, r1, q⟩ => ?_)
  obtain ⟨n, rfl, hn, q⟩ := q
  obtain ⟨t, rfl⟩ := r1
  refine thn (hs.run pins s1 σ H1 (fun x H2 => x = .str (Str.ofString "04x") ∧ Q (.str (sO (hexd n))) H2) I1 ⟨rfl, q⟩) fun u s2 ⟨y, H2, I2, r2, ey, q2⟩ => ?_
  subst ey
  obtain ⟨t2, rfl⟩ := r2
  refine ⟨_, _, rfl, KXf.field_int (spec' := sp4) (by decide +kernel) rfl (by decide) (fun u => fmt4_meets hn _ u) fun t' k => ⟨.str _, H2, I2.tok _, ⟨_, rfl⟩, q2⟩⟩
end
/-! digits -/
abbrev HXD : List Nat := (Str.ofString "0123456789abcdef").cps.toList
/-- a digit's value -/
def dv (c : Nat) : Nat := if c ≤ 57 then c - 48 else c - 87
theorem HXD_eq : HXD = (List.range 16).map hx := by decide +kernel
theorem hx_mem {k : Nat} (h : k < 16) : hx k ∈ HXD := by
  rw [HXD_eq]
  exact List.mem_map.mpr ⟨k, List.mem_range.mpr h, rfl⟩
theorem hxd_of {c : Nat} (h : c ∈ HXD) : ∃ k, k < 16 ∧ c = hx k := by
  rw [HXD_eq] at h
  obtain ⟨k, h1, h2⟩ := List.mem_map.mp h
  exact ⟨k, List.mem_range.mp h1, h2.symm⟩
theorem hx_dv : ∀ k : _root_.Fin 16, dv (hx k.val) = k.val := by decide +kernel
theorem hx_find : ∀ k : _root_.Fin 16, Txt.find (Str.ofString "0123456789abcdef") (sO [hx k.val]) = (k.val : Int) := by decide +kernel
theorem hx_occ : ∀ k : _root_.Fin 16, occurrences (Str.ofString "0123456789abcdef") (sO [hx k.val]) 0 (Str.ofString "0123456789abcdef").length 1 = [k.val] := by decide +kernel
theorem hx_at : ∀ k : _root_.Fin 16, (Str.ofString "0123456789abcdef").cps.toList[k.val]? = some (hx k.val) := by decide +kernel
theorem find_dv {c : Nat} (h : c ∈ HXD) : Txt.find (Str.ofString "0123456789abcdef") (sO [c]) = (dv c : Int) := by
  obtain ⟨k, hk, rfl⟩ := hxd_of h
  rw [hx_find ⟨k, hk⟩, hx_dv ⟨k, hk⟩]
theorem occ_dv {c : Nat} (h : c ∈ HXD) : occurrences (Str.ofString "0123456789abcdef") (sO [c]) 0 (Str.ofString "0123456789abcdef").length 1 = [dv c] := by
  obtain ⟨k, hk, rfl⟩ := hxd_of h
  rw [hx_occ ⟨k, hk⟩, hx_dv ⟨k, hk⟩]
/-- the first place that is no digit | the length, if it is no multiple of four -/
def fbad (l : List Nat) : Option Nat := match l.findIdx? (fun c => !decide (c ∈ HXD)) with
  | some i => some i
  | none => if l.length % 4 = 0 then none else some l.length
theorem fbad_at {l : List Nat} {i : Nat} (hi : i < l.length) (h : l.getD i 0 ∉ HXD) (hp : ∀ j, j < i → l.getD j 0 ∈ HXD) : fbad l = some i := by
  have e : l.findIdx? (fun c => !decide (c ∈ HXD)) = some i := by
    rw [List.findIdx?_eq_some_iff_getElem]
    refine ⟨hi, ?_, fun j hj => ?_⟩
    · rw [List.getD_eq_getElem?_getD, List.getElem?_eq_getElem hi] at h
      have h2 : l[i] ∉ HXD := h
      rw [decide_eq_false h2]
      rfl
    · have := hp j hj
      rw [List.getD_eq_getElem?_getD, List.getElem?_eq_getElem (by omega)] at this
      have h2 : l[j] ∈ HXD := this
      rw [decide_eq_true h2]
      decide
  unfold fbad
  rw [e]
theorem fbad_all {l : List Nat} (h : ∀ j, j < l.length → l.getD j 0 ∈ HXD) : fbad l = if l.length % 4 = 0 then none else some l.length := by
  have e : l.findIdx? (fun c => !decide (c ∈ HXD)) = none := by
    rw [List.findIdx?_eq_none_iff]
    intro c hc
    obtain ⟨j, hj, rfl⟩ := List.mem_iff_getElem.mp hc
    have := h j hj
    rw [List.getD_eq_getElem?_getD, List.getElem?_eq_getElem hj] at this
    have h2 : l[j] ∈ HXD := this
    rw [decide_eq_true h2]
    rfl
  unfold fbad
  rw [e]
theorem fbad_none {l : List Nat} (h : fbad l = none) : (∀ c ∈ l, c ∈ HXD) ∧ l.length % 4 = 0 := by
  unfold fbad at h
  cases e : l.findIdx? (fun c => !decide (c ∈ HXD)) with
  | some i => rw [e] at h; cases h
  | none =>
    rw [e] at h
    have h2 : (if l.length % 4 = 0 then none else some l.length) = none := h
    refine ⟨fun c hc => ?_, ?_⟩
    · have := List.findIdx?_eq_none_iff.mp e c hc
      apply Decidable.byContradiction
      intro z
      rw [decide_eq_false z] at this
      cases this
    · apply Decidable.byContradiction
      intro z
      rw [if_neg z] at h2
      cases h2
def val4 (l : List Nat) : Nat := l.foldl (fun a c => a * 16 + dv c) 0
theorem val4_app (l : List Nat) (c : Nat) : val4 (l ++ [c]) = val4 l * 16 + dv c := by
  unfold val4
  rw [List.foldl_append]
  rfl
/-- the words of a text of digits -/
def rdw (l : List Nat) : List Nat := (List.range (l.length / 4)).map fun k => val4 ((l.drop (4 * k)).take 4)
theorem val4_hexd {w : Nat} (h : w ≤ 65535) : val4 (hexd w) = w := by
  have e : ∀ k, k < 16 → dv (hx k) = k := fun k hk => hx_dv ⟨k, hk⟩
  show (((0 * 16 + dv (hx (w / 4096))) * 16 + dv (hx (w / 256 % 16))) * 16 + dv (hx (w / 16 % 16))) * 16 + dv (hx (w % 16)) = w
  rw [e _ (by omega), e _ (by omega), e _ (by omega), e _ (by omega)]
  omega
theorem flat_hexd (ws : List Nat) : (ws.flatMap hexd).length = 4 * ws.length := by
  induction ws with
  | nil => rfl
  | cons x r ih =>
    rw [List.flatMap_cons, List.length_append, ih, List.length_cons]
    show 4 + _ = _
    omega
theorem rdw_flat {ws : List Nat} (h : ∀ w ∈ ws, w ≤ 65535) : rdw (ws.flatMap hexd) = ws := by
  unfold rdw
  rw [flat_hexd, show 4 * ws.length / 4 = ws.length by omega]
  apply List.ext_getElem?
  intro i
  by_cases hi : i < ws.length
  · rw [List.getElem?_map, List.getElem?_range hi]
    have e : ∀ (ws : List Nat) (i : Nat), i < ws.length → ((ws.flatMap hexd).drop (4 * i)).take 4 = hexd (ws.getD i 0) := fun ws => by
      induction ws with
      | nil => intro i hi; exact absurd hi (Nat.not_lt_zero _)
      | cons x r ih =>
        intro i hi
        cases i with
        | zero => rfl
        | succ i =>
          rw [List.flatMap_cons, show 4 * (i + 1) = 4 * i + 4 by omega]
          have := ih i (by simpa using hi)
          show ((hexd x ++ _).drop (4 * i + 4)).take 4 = _
          rw [show 4 * i + 4 = (hexd x).length + 4 * i from by show _ = 4 + 4 * i; omega, List.drop_length_add_append]
          exact this
    show some (val4 _) = _
    rw [e ws i hi, List.getD_eq_getElem?_getD, List.getElem?_eq_getElem hi]
    exact congrArg some (val4_hexd (h _ (List.getElem_mem hi)))
  · rw [List.getElem?_eq_none (by simp; omega), List.getElem?_eq_none (by omega)]
theorem fbad_flat {ws : List Nat} (hw : ∀ w ∈ ws, w ≤ 65535) : fbad (ws.flatMap hexd) = none := by
  have hm : ∀ c ∈ ws.flatMap hexd, c ∈ HXD := fun c hc => by
    obtain ⟨w, h1, h⟩ := List.mem_flatMap.mp hc
    have := hw w h1
    unfold hexd at h
    rcases List.mem_cons.mp h with z | h
    · rw [z]; exact hx_mem (by omega)
    rcases List.mem_cons.mp h with z | h
    · rw [z]; exact hx_mem (by omega)
    rcases List.mem_cons.mp h with z | h
    · rw [z]; exact hx_mem (by omega)
    rw [List.mem_singleton.mp h]
    exact hx_mem (by omega)
  rw [fbad_all fun j hj => by rw [List.getD_eq_getElem?_getD, List.getElem?_eq_getElem hj]; exact hm _ (List.getElem_mem hj), flat_hexd, if_pos (by omega)]
theorem cut_mid (l : List Nat) (a b : Nat) (h : a ≤ b) : cutS (sO l) (some (a : Int)) (some (b : Int)) = sO ((l.drop a).take (b - a)) := by
  show (⟨((l.drop (HT.sIx l.length 0 (some (a : Int)))).take (HT.sIx l.length l.length (some (b : Int)) - HT.sIx l.length 0 (some (a : Int)))).toArray⟩ : Str) = _
  rw [HT.sIx_nat, HT.sIx_nat]
  have e : (l.drop (min a l.length)).take (min b l.length - min a l.length) = (l.drop a).take (b - a) := by
    by_cases h1 : a ≤ l.length
    · rw [Nat.min_eq_left h1]
      by_cases h2 : b ≤ l.length
      · rw [Nat.min_eq_left h2]
      · rw [Nat.min_eq_right (by omega), List.take_of_length_le (by rw [List.length_drop]; omega), List.take_of_length_le (by rw [List.length_drop]; omega)]
    · have h3 : min a l.length = l.length := by omega
      rw [h3, List.drop_length, List.drop_of_length_le (by omega)]
      simp
  rw [e]
  rfl
end RK

namespace RK
open PySem PySem.Spec PyProof.Rows L2 PySem.Builtin.Str
/-! ### enumerate(text) -/
def Itse (x : Str) : It := ⟨fun i _ => i < x.cps.size, fun i H v H' => ∃ T c, v = .ref T ∧ H T = none ∧ H' = upd H T (.tup [.int (i : Nat), .str ⟨#[c]⟩]) ∧ x.cps[i]? = some c, fun i _ => x.cps.size ≤ i⟩
theorem draws_str {prog : Program} {w : World} {A : Around} (hh : A.handled = none) (it : Addr) (x : Str) (t : Tok) :
    Draws prog w A it [it] x.cps.size (fun i v => ∃ c u, x.cps[i]? = some c ∧ v = .str ⟨#[c]⟩ u) (fun i h => h.IsStrIter it (strIterType x) x t i) := by
  unfold strIterType
  cases x.cps.all (· < 128)
  · exact Draws.strWide hh it x t
  · exact Draws.strAscii hh it x t
theorem turn_enumS {P : Program} {w : World} {K : PySem.W.Frag} {elts : List Expr} {kk : Nat} {tpos : Pos} (x : Str) (t : Tok) (e it : Addr) :
    Turn P w K (.Tuple elts kk tpos) (Itse x) [e, it] e (fun i h => (∃ old, IsEnum h e it ((i : Nat) : Int) old) ∧ h.IsStrIter it (strIterType x) x t i ∧ e ≠ it ∧ i ≤ x.cps.size) where
  mem := by simp
  obj := fun i h st b hb => by
    obtain ⟨⟨old, he⟩, ⟨o, ho, hc, hd⟩, _⟩ := st
    have e' : b = e ∨ b = it := by simpa using hb
    rcases e' with z | z
    · rw [z]; exact ⟨_, he, fun v q => nomatch q⟩
    · rw [z]; exact ⟨o, ho, fun v q => by rw [hd] at q; cases q⟩
  keep := fun i h h' st k => let ⟨⟨old, he⟩, ⟨o, ho, r⟩, hne, hle⟩ := st; ⟨⟨old, k e (by simp) _ he⟩, ⟨o, k it (by simp) o ho, r⟩, hne, hle⟩
  item := by
    intro X hP hw hK hc i pins s σ H E I hf st hg
    subst hP hw hK
    obtain ⟨⟨old, he⟩, hit, hne, hle⟩ := st
    have hel : e < s.heap.objs.size := Heap.lt_size he
    have hil : it < s.heap.objs.size := by obtain ⟨_, q, _⟩ := hit; exact Heap.lt_size q
    have D := draws_str (A := X.A.in1) (prog := X.prog) (w := X.w) (show X.A.in1.handled = none from I.ok.hd hc) it x t
    refine wpAny_pyNext_enum_itemD D he hit hg hne (by simpa using hne) fun u h' tk hu ho hit' hT hsz hk => ?_
    obtain ⟨c, tc, hcx, rfl⟩ := hu
    refine ⟨_, rfl, wpAny_letOwnedTupleGo_enum (s := { s with heap := h', toks := tk + 1 }) ho fun h'' he' sb => ?_⟩
    have hT2 : h''.get? s.heap.objs.size = some { cls := .type "tuple", data := .seq #[.int i tk, .str ⟨#[c]⟩ tc] } := (sb.2 _ (Nat.ne_of_gt hel)).trans hT
    have new : ObjOk X.prog X.w (upd H s.heap.objs.size (.tup [.int (i : Nat), .str ⟨#[c]⟩])) h'' s.heap.objs.size (.tup [.int (i : Nat), .str ⟨#[c]⟩]) :=
      ⟨by show 2 ≤ sizeLine; decide, [.int i tk, .str ⟨#[c]⟩ tc], .cons ⟨_, rfl⟩ (.cons ⟨_, rfl⟩ .nil), ⟨_, hT2, rfl, _, rfl⟩⟩
    have I1 : Inv X pins σ (upd H s.heap.objs.size (.tup [.int (i : Nat), .str ⟨#[c]⟩])) { s with heap := h'', toks := tk + 1 } :=
      I.turnedNew (ch := [e, it]) (fun b ob hb q => (sb.2 b (fun z => hb (by simp [z]))).trans (hk b ob (fun z => hb (by simp [z])) (fun z => hb (by simp [z])) q)) hf (Nat.le_refl _) new
    refine ⟨.ref s.heap.objs.size, _, I1, rfl, ⟨_, c, rfl, I.hok.fresh (Nat.le_refl _), rfl, hcx⟩, ⟨⟨.str ⟨#[c]⟩ tc, ?_⟩, ?_, hne, hg⟩, fun b hb => ?_⟩
    · have e1 : ((i + 1 : Nat) : Int) = (i : Int) + 1 := by omega
      rw [e1]; exact he'
    · obtain ⟨o, ho2, r⟩ := hit'
      exact ⟨o, (sb.2 it (Ne.symm hne)).trans ho2, r⟩
    · have hb' : b < s.heap.objs.size := by
        have e' : b = e ∨ b = it := by simpa using hb
        rcases e' with z | z
        · rw [z]; exact hel
        · rw [z]; exact hil
      rw [upd_ne (Nat.ne_of_lt hb')]
      exact (hf b hb).1
  done := by
    intro X hP hw hK hc i pins s σ H E I hf st hg
    subst hP hw hK
    obtain ⟨⟨old, he⟩, hit, hne, hle⟩ := st
    obtain ⟨f0, f1, f2, f3, f4, f5⟩ := hf it (by simp)
    have ei : i = x.cps.size := Nat.le_antisymm hle hg
    have D := draws_str (A := X.A.in1) (prog := X.prog) (w := X.w) (show X.A.in1.handled = none from I.ok.hd hc) it x t
    subst ei
    exact wpAny_pyNext_enum_endD D he hit fun h' eb => ⟨rfl, I.turned (t' := s.toks) (fun b o hb q => eb b o hb q) f0 f1 f3 f4 f5⟩
  self := fun A i s Q E st h => let ⟨⟨_, he⟩, _⟩ := st; wpAny_pyIter_enum he h
/-- the text at each turn, each sign in a new pair -/
def iEnS (ta : TA) : TI := fun σ H R => ta σ H fun vs H1 => ∃ x, vs = [.str x] ∧ R (Itse x) H1
theorem pi_enumS {X : Cx} {e : Expr} {ta : TA} {p pos tpos : Pos} {elts : List Expr} {kk : Nat} (hg : Gl X "enumerate") (hm : X.mg "enumerate" = none) (ha : PA X [e] ta) (hs : starEach [e] X.env = [(false, eval e X.env)] := by rfl) :
    PI X (.Tuple elts kk tpos) (.Call (.Name "enumerate" p) [e] [] pos) (iEnS ta) := by
  refine ⟨fun pins s σ H R I h => ?_⟩
  refine Call_ (ld_blt I hg hm boot_enumerate (PyProof.Rows.callWith_type1 (thn (ha.run pos pins s σ H _ I h) fun us s1 ⟨vs, H1, I1, r1, q1⟩ => ?_) hs rfl))
  obtain ⟨x, ex, q⟩ := q1
  subst ex
  cases r1 with
  | cons r rr =>
    cases rr
    obtain ⟨t, rfl⟩ := r
    refine call_enumerate_str fun h' he hit hsz hk => wpAny_pyIter_enum he ?_
    have I2 : Inv X pins σ H1 { s1 with heap := h' } := I1.kept (t' := s1.toks) hk
    refine ⟨s1.heap.objs.size + 1, [s1.heap.objs.size + 1, s1.heap.objs.size], _, _, H1, rfl, I2, turn_enumS x t (s1.heap.objs.size + 1) s1.heap.objs.size, ⟨⟨.none, he⟩, hit, Nat.succ_ne_self _, Nat.zero_le _⟩, fun b hb => ?_, q⟩
    have e' : b = s1.heap.objs.size + 1 ∨ b = s1.heap.objs.size := by simpa using hb
    have hge : s1.heap.objs.size ≤ b := by
      rcases e' with z | z
      · rw [z]; omega
      · rw [z]; omega
    exact I1.fpOk hge (I1.hok.fresh hge)
theorem walk_enumS {x : Str} : Walk (Itse x) x.cps.size (fun _ => True) (fun i H v H' => ∃ T c, v = .ref T ∧ H T = none ∧ H' = upd H T (.tup [.int (i : Nat), .str ⟨#[c]⟩]) ∧ x.cps[i]? = some c) :=
  ⟨fun i H hi _ => hi, fun H _ => Nat.le_refl _, fun i H v H' _ _ y => y⟩
theorem rg4 {n : Nat} (h : n ≤ 10000) (hm : n % 4 = 0) : RgC 0 (n : Int) 4 (n / 4) := by
  have e : Builtin.Range.rangeSize 0 (n : Int) 4 = ((n / 4 : Nat) : Int) := by
    rw [rangeSize_pos (by decide) (by omega)]
    omega
  have fl : ∀ i : Int, -100000 ≤ i → i ≤ 100000 → Builtin.Range.rangeFitsLong i = true := fun i h1 h2 => by
    unfold Builtin.Range.rangeFitsLong
    rw [decide_eq_true (show -(2 ^ 63) ≤ i by omega), decide_eq_true (show i < 2 ^ 63 by omega)]
    rfl
  refine ⟨by decide, by decide, ?_, e⟩
  unfold Builtin.Range.small
  rw [e, fl 0 (by decide) (by decide), fl (n : Int) (by omega) (by omega), fl 4 (by decide) (by decide), fl _ (by omega) (by omega)]
  rw [if_pos (by decide), fl _ (by omega) (by omega), Bool.or_true]
  rfl
end RK

namespace RK
open PySem PySem.Spec PyProof.Rows L2 StX
/-! ### defs with *rest that may raise where nothing is handled -/
theorem cxUpN {P : Program} {w : World} : CXUp (L2N.CX P w) := by
  rintro outer s H s2 H2 E e s' un kp ho ⟨a, B, H', cls, d, ea, fl, hok, ub, na, os, ag, he⟩
  refine ⟨a, B, H', cls, d, ea, fl, hok, ⟨fun b o q n hb => ub.keep b o (kp b o q) (un.free b o q n (by simp)) hb, fun b o q hb => ub.slot b o (kp b o q) hb, fun b o q n => ub.free b o (kp b o q) (un.free b o q n (by simp)),
    fun b o q hb => ub.there b o (kp b o q) hb, fun b xs q => ub.tups b xs (un.tups b xs q), fun b o xs q => ub.frzs b o xs (un.frzs b o xs q), fun b ps q => ?_⟩, na, os.trans ho, ag, he⟩
  obtain ⟨m1, e1⟩ := un.tbls b ps q
  obtain ⟨m2, e2⟩ := ub.tbls b _ e1
  exact ⟨m1 ++ m2, by rw [e2, Array.append_assoc]⟩
section
variable {X : Cx} {CX : CXT} {k : Nat} {f : Addr} {sp : Sp} {x : Str} {e : Expr} {es : List Expr} {t : TA} {p pos : Pos} {E : L2.St → XK}
theorem run_fnRS {pins : List (Addr × Obj)} {σ : L2.St} {H : Hp} {s : Shared} {Q : VK} {us : List Value} {vs : List V} (F : FnR X.prog X.w X.K X.mg X.base CX k f sp) (hr : Room k X.A) (hx : PassesAt CX X σ (E σ))
    (I : Inv X pins σ H s) (r : Vals vs us) (h : sp vs H Q (E σ)) : wpAny (model X.prog X.w) X.A (call (.ref f) us) (EP X pins σ Q) X.xe s := by
  refine wpAny_call (codeAny_mono (F X.A X.stack s H us vs Q (E σ) hr I.env0 r h) fun r s' hq => ?_)
  cases r with
  | error e => exact hx pins H s e s' I hq
  | ok fl =>
    cases fl with
    | ret u => exact I.after hq
    | next => exact False.elim hq
    | brk => exact False.elim hq
    | cont => exact False.elim hq
theorem pe_callRS (F : FnR X.prog X.w X.K X.mg X.base CX k f sp) (hr : Room k X.A) (hg : Gl X x) (hm : X.mg x = some (.ref f)) (hk : PySem.W.keepIn X.K (.ref f) = true) (hx : ∀ σ, PassesAt CX X σ (E σ))
    (ha : PA X (e :: es) t) (hdb : (x == ("__debug__" : Str)) = false := by decide) (he : starEach (e :: es) X.env = (false, eval e X.env) :: starEach es X.env := by rfl) (hpl : (backTo pos (starEach es X.env)).any (·.1) = false := by rfl) :
    PE X (.Call (.Name x p) (e :: es) [] pos) (tCallS sp E t) := by
  refine ⟨fun pins s σ H Q I h => ?_⟩
  refine wpAny_Call_Name_kw (ld_glob I hg hm ?_ hdb)
  refine PySem.W.callWith_K (h₀ := X.base) I.ok.mod.kin hk (thn (ha.run pos pins s σ H _ I h) fun us s1 ⟨vs, H1, I1, r, q⟩ => ⟨I1.kIn, ?_⟩) he hpl
  exact run_fnRS F hr (hx σ) I1 r q
theorem passAtN {σ : L2.St} : PassesAt (L2N.CX X.prog X.w) X σ (fun _ _ _ => False) := fun _ _ _ _ _ _ h => let ⟨_, _, _, _, _, _, _, _, _, _, _, _, z⟩ := h; z.elim
end
/-- a def with *rest: its promise speaks of the bound names, the call's of all that is handed on -/
def spStar (n : Nat) (sp : Sp) : Sp := fun vs H Q E => ∃ ws rest, vs = ws ++ rest ∧ ws.length = n ∧ rest.length ≤ sizeLine ∧ ∀ p, H p = none → sp (ws ++ [V.ref p]) (upd H p (.tup rest)) Q E
theorem Fun.starN {P : Program} {w : World} {K : PySem.W.Frag} {mg : Str → Option Value} {base : Heap} {x qual pv : Str} {st : Stmt} {f : Addr} {fd : FuncData} {N ps : List Str} {k : Nat} {sp : Sp} (F : Fun K x qual st f fd) (S : FnScope N (ps ++ [pv]) (defScope st))
    (hb : ∀ us rest : List Value, us.length = ps.length → bindArgs fd ⟨us ++ rest, []⟩ = (newTuple rest >>= fun t => pure (ps.zip us ++ [(pv, t)])))
    (body : ∀ (cdv : Value) (A : Around) (outer : List Env) (s : Shared) (H : Hp) (vs : List V) (Q : VK) (E : XK), Room k (A.deeper (envOfC qual (defScope st) s.heap.objs.size f cdv)) → sp vs H Q E →
      ∃ t, PSs (cxOf (L2N.CX P w) P w K mg base N qual (defScope st) f cdv A outer s H E) (defBody st) t ∧ t { nx := fun _ H' => Q .non H', rt := Q } (start N vs) H) : FnR P w K mg base (L2N.CX P w) (k + 1) f (spStar ps.length sp) := by
  obtain ⟨oc, od, kV, doc, pm, an, cdv, ct, osl, rfl, lk, hcd⟩ := F.ex
  exact fn_star lk hcd S cxUpN hb fun A outer s H vs Q E hr z => body cdv A outer s H vs Q E hr z
section
variable {X : Cx}
/-- t.index(x), x a text, ahead of it texts and None -/
theorem mt_tupIdx : MtR X "tuple.index" (fun x xs H Q => ∃ p, ∃ ys : List V, ∃ z j, x = .ref p ∧ xs = [.str z] ∧ SqT X.K H p ys ∧ (∀ v ∈ ys, v = .non ∨ ∃ y, v = .str y) ∧ ys[j]? = some (.str z) ∧ (∀ m, m < j → ys[m]? ≠ some (.str z)) ∧ Q (.int (j : Nat)) H) := by
  intro pins s σ H x xs v us Q I rx rs h
  obtain ⟨p, ys, z, j, rfl, rfl, hq, hfl, hy, hno, q⟩ := h
  cases rx
  obtain ⟨u, rfl, t, rfl⟩ := vals1 rs
  obtain ⟨its, r, pl, hz⟩ := I.tuple hq
  obtain ⟨⟨cls, dd, dt, sl⟩, ho, hc, n, hd⟩ := pl
  simp only at hc hd
  subst hc
  subst hd
  have hl : its.toArray.size = ys.length := by rw [List.size_toArray, ← r.length]
  have hj : j < its.toArray.size := by rw [hl]; exact (List.getElem?_eq_some_iff.mp hy).1
  have at' : ∀ (m : Nat) (hm : m < its.toArray.size), (∃ y t', ys[m]? = some (.str y) ∧ its.toArray[m] = Value.str y t') ∨ (ys[m]? = some .non ∧ its.toArray[m] = Value.none) := fun m hm => by
    have hm' : m < ys.length := by rw [← hl]; exact hm
    have hg : ys[m]? = some ys[m] := List.getElem?_eq_getElem hm'
    obtain ⟨w, hw, hr⟩ := r.get hg
    have e := (List.getElem?_eq_some_iff.mp hw).2
    rcases hfl ys[m] (List.getElem_mem hm') with e2 | ⟨y, e2⟩
    · rw [e2] at hr hg
      refine .inr ⟨hg, ?_⟩
      have : w = Value.none := hr
      rw [← this, ← e]
      simp
    · rw [e2] at hr hg
      obtain ⟨t', hw'⟩ := hr
      refine .inl ⟨y, t', hg, ?_⟩
      rw [← hw', ← e]
      simp
  refine call_meets PySem.F.slot_tuple_index ⟨_, ho, rfl⟩ PySem.F.entry_tuple_index (PySem.F.args_tuple_index_2 _ _) (TI.tuple_indexAt p its.toArray n dd sl (.str z t) (eqU (.str z)) j hj ?_ ?_)
    ⟨ho, fun w hw => mem_eqAt (x := .str z) ⟨t, rfl⟩ rfl r ?_ w (by simpa using hw), ⟨.int (j : Nat), H, I.tok _, ⟨_, rfl⟩, q⟩⟩
  · rcases at' j hj with ⟨y, t', h1, h2⟩ | ⟨h1, h2⟩
    · rw [hy] at h1
      cases h1
      rw [h2]
      show (z == z) = true
      exact beq_self_eq_true z
    · rw [hy] at h1
      cases h1
  · intro m hm hmj
    rcases at' m hm with ⟨y, t', h1, h2⟩ | ⟨h1, h2⟩
    · rw [h2]
      show (y == z) = false
      exact beq_eq_false_iff_ne.mpr fun e => hno m hmj (by rw [h1, e])
    · rw [h2]
      rfl
  · rw [List.all_eq_true]
    intro v hv
    rcases hfl v hv with e | ⟨y, e⟩
    · rw [e]; rfl
    · rw [e]; rfl
end
/-- a tuple behind a tuple, whatever the two are -/
theorem catA_of {K : PySem.W.Frag} {H : Hp} {a b : Addr} {xs ys : List V} {Q : VK} (ha : SqT K H a xs) (hb : SqT K H b ys) (hl : xs.length + ys.length ≤ 100000) (q : ∀ p H', Same H H' → SqT K H' p (xs ++ ys) → Q (.ref p) H') : rCatA K (.ref a) (.ref b) H Q := by
  refine ⟨a, b, xs, ys, rfl, rfl, ha, hb, Nat.le_trans hl (lenOk (xs := List.replicate 100000 ()) (n := 100000) (List.length_replicate ..) (Nat.le_refl _) |> fun h => by rw [List.length_replicate] at h; exact h), fun e => q b H (Same.refl _) (by rw [e]; exact hb), fun _ e => q a H (Same.refl _) (by rw [e, List.append_nil]; exact ha), fun _ _ p hp => q p _ (same_new hp) (SqT.of upd_same)⟩
end RK

namespace RK
open PySem PySem.Spec PyProof.Rows L2
section
variable {J : It} {n : Nat} {G : Hp → Prop} {Y : Nat → Hp → V → Hp → Prop}
/-- a comprehension with one test, whose elements have a value each; the target is the name at k -/
theorem lc_filt (w : Walk J n G Y) {tt : TT} {te : TE} {σ : L2.St} {H1 : Hp} {D : Addr} {Qd : Hp → Prop} {k : Nat} (I : Nat → V → Prop) (c : Nat → Bool) (f : Nat → V) (hD : H1 D = none) (hG : ∀ H, Same H1 H → G H) (hn : n ≤ 1000000)
    (hY : ∀ i H x H', i < n → Y i H x H' → H' = H ∧ I i x)
    (ht : ∀ i x H, i < n → Same H1 H → I i x → ∀ Q : Bool → Hp → Prop, Q (c i) H → tt ((σ.set k none).set k (some x)) H Q)
    (hs : ∀ i x H, i < n → c i = true → Same H1 H → I i x → ∀ Q : VK, (∀ H3, Same H H3 → Q (f i) H3) → te ((σ.set k none).set k (some x)) H Q) (hd : ∀ H, Same H1 H → H D = some (.lst (((List.range n).filter c).map f)) → Qd H) :
    ∃ W : Nat → Nat → Hp → Prop, (∃ m, W 0 m (upd H1 D (.lst []))) ∧ ∀ i m H, W i m H →
      (J.stop i H ∧ Qd H) ∨ (J.go i H ∧ ∃ Nx : Hp → Prop, (∀ H', Nx H' → ∃ m', m' < m ∧ W (i + 1) m' H') ∧ ∀ x H', J.yld i H x H' → gName k x (wipe σ [k]) H' fun σ2 H2 => wipe σ2 [k] = wipe σ [k] ∧ tt σ2 H2 fun b H3 =>
        if b = true then te σ2 H3 fun y H4 => ∃ acc, H4 D = some (.lst acc) ∧ acc.length < sizeLine ∧ Nx (upd H4 D (.lst (acc ++ [y]))) else Nx H3) := by
  refine lc_it w (fun i H => Same H1 H ∧ H D = some (.lst (((List.range i).filter c).map f))) ⟨same_new hD, upd_same⟩ (fun i H _ h => hG H h.1) (fun i x H H' hi hp y => ?_) fun H h => hd H h.1 h.2
  obtain ⟨sm, e⟩ := hp
  obtain ⟨rfl, hx⟩ := hY i H x H' hi y
  refine ⟨?_, ?_⟩
  · show ((σ.set k none).set k (some x)).set k none = σ.set k none
    rw [List.set_set, List.set_set]
  show tt ((σ.set k none).set k (some x)) H' _
  refine ht i x H' hi sm hx _ ?_
  by_cases hc : c i = true
  · rw [if_pos hc]
    refine hs i x H' hi hc sm hx _ fun H3 s3 => ?_
    have e3 := s3 _ _ e
    refine ⟨_, e3, ?_, same_mut (sm.trans s3) hD, ?_⟩
    · rw [List.length_map]
      refine Nat.lt_of_le_of_lt (List.length_filter_le _ _) ?_
      rw [List.length_range]
      exact Nat.lt_of_lt_of_le (Nat.lt_of_lt_of_le hi hn) (by decide)
    · rw [upd_same, List.range_succ, List.filter_append, List.map_append]
      rw [show [i].filter c = [i] by simp only [List.filter, hc]]
      rfl
  · rw [if_neg hc]
    refine ⟨sm, ?_⟩
    rw [e, List.range_succ, List.filter_append, List.map_append]
    rw [show [i].filter c = [] by simp only [List.filter, hc]]
    rw [List.map_nil, List.append_nil]
end
end RK

namespace RK
open PySem PySem.Spec PyProof.Rows L2
/-! ### tuples where the rules know lists alone: xs.extend(t), sum(t), enumerate(t) -/
theorem meets_extendT (l b : Addr) (items items2 : Array Value) (n n2 : Nat) (dd : Option Addr) (sl : Array (Option Value)) (hz : items.size + items2.size ≤ sizeLine) :
    Meets (Builtin.«list.extend» ⟨[Value.ref l, Value.ref b], []⟩) fun x R s => s.heap.get? l = some { cls := Value.type "list", data := Data.seq items n } ∧
      s.heap.get? b = some { cls := Value.type "tuple", dict := dd, data := Data.seq items2 n2, slots := sl } ∧
      R (Except.ok (Flow.ret Value.none)) { s with heap := s.heap.update l (Obj.mapSeq fun x => x ++ items2) } := by
  refine Meets.of_wp fun prog w A R s h => ?_
  obtain ⟨hl, hb, h⟩ := h
  show wpAny _ _ (Builtin.List.listExtendWith (.ref l) (.ref b) .none) _ _ _
  unfold Builtin.List.listExtendWith
  refine wpAny_bind (wpAny_typeOf_ref hb ?_)
  refine wpAny_ite_true (by simp) ?_
  refine wpAny_bind ?_
  unfold Builtin.List.listItems
  refine wpAny_bind (wpAny_seqItems hb rfl (wpAny_pure ?_))
  refine wpAny_bind (wpAny_bind (wpAny_seqItems hl rfl (wpAny_pure ?_)))
  have hbig : Builtin.List.listTooLong (items.size + items2.size) = false := notLongL hz
  refine wpAny_ite_false (by rw [hbig, Bool.and_false]; rfl) ?_
  refine wpAny_bind ?_
  show wpAny _ _ (updateSeq l (fun x => x ++ items2)) _ _ _
  refine wpAny_updateSeq hl rfl (wpAny_pure ⟨_, rfl, h⟩) (by omega) (by rw [Array.size_append]; omega)
/-! enumerate over a tuple -/
theorem meets_enumerate_newT (l : Addr) (items : Array Value) (n : Nat) (dct : Option Addr) (sl : Array (Option Value)) :
    Meets (Builtin.«enumerate.__new__» ⟨[Value.type "enumerate", Value.ref l], []⟩) fun x R s => s.heap.get? l = some { cls := Value.type "tuple", dict := dct, data := Data.seq items n, slots := sl } ∧
      R (Except.ok (Flow.ret (Value.ref (s.heap.push { cls := Value.type "tuple_iterator", data := Data.fields #[Value.ref l, Value.int 0 0] }).objs.size)))
        { s with heap := (s.heap.push { cls := Value.type "tuple_iterator", data := Data.fields #[Value.ref l, Value.int 0 0] }).push { cls := Value.type "enumerate", data := Data.fields #[Value.none, Value.bool false, Value.ref s.heap.objs.size, rawInt 0, Value.none, Value.none] } } := by
  refine Meets.of_wp fun prog w A R s h => ?_
  obtain ⟨hl, h⟩ := h
  have hsub := sub_enumerate
  have hL : s.heap.IsTuple l items := ⟨_, hl, rfl, n, rfl⟩
  unfold Builtin.«enumerate.__new__»
  refine wpAny_bind ?_
  unfold Builtin.SmallTypes.newClass
  refine wpAny_bind (wpAny_pure (wpAny_ite_false rfl (wpAny_bind (wpAny_of_eq hsub (wpAny_ite_false rfl (wpAny_pure ?_))))))
  refine wpAny_ite_true rfl (wpAny_bind ?_)
  unfold Builtin.SmallTypes.calledThroughType
  refine wpAny_bind (wpAny_stack_any fun st => wpAny_pure ?_)
  have fin : wpAny (model prog w) A.in1 (pyIter (Value.ref l) >>= fun it => Builtin.SmallTypes.newRecord (Value.type "enumerate") (Builtin.SmallTypes.ownedTupleFields ++ [it, rawInt 0, Value.none, Value.none]) >>= fun v => ret v) (fun fin s' => ∃ v, fin = Fin.done (Flow.ret v) ∧ R (Except.ok (Flow.ret v)) s') (fun e s' => R (Except.error e) s') s := by
    refine wpAny_bind (wpAny_pyIter_tuple hL ?_)
    refine wpAny_bind ?_
    unfold Builtin.SmallTypes.newRecord
    show wpAny _ _ (newObj (Value.type "enumerate") (Data.fields #[Value.none, Value.bool false, Value.ref s.heap.objs.size, rawInt 0, Value.none, Value.none])) _ _ _
    exact wpAny_newObj_type (wpAny_pure ⟨_, rfl, h⟩) (by show 6 ≤ sizeLine + 2; decide)
  split
  · rename_i c tail kw snd tl heq
    generalize (c == Value.type "enumerate") = short
    cases short with
    | false =>
      refine wpAny_ite_false rfl (wpAny_bind (wpAny_of_eq (a := (Value.ref l, none)) rfl ?_))
      exact fin
    | true =>
      refine wpAny_ite_true rfl (wpAny_bind (wpAny_of_eq (a := (Value.ref l, none)) rfl ?_))
      exact fin
  · refine wpAny_ite_false rfl (wpAny_bind (wpAny_of_eq (a := (Value.ref l, none)) rfl ?_))
    exact fin
section
variable {prog : Program} {w : World} {A : Around} {E : Value → Shared → Prop} {s : Shared}
theorem nextOf_tup_item {it l : Addr} {i : Nat} {items : Array Value} {x : Value} {Q : Value → Shared → Prop} (hit : s.heap.IsTupleIter it l i) (hl : s.heap.IsTuple l items) (hx : items[i]? = some x)
    (hQ : ∀ h', h'.IsTupleIter it l (i + 1) → Heap.SameBut it s.heap h' → Q x { s with heap := h' }) : wpAny (model prog w) A (Builtin.SmallTypes.nextOf (Value.ref it)) Q E s := by
  obtain ⟨⟨oc, od, odt, osl⟩, gi, ci, di⟩ := id hit
  simp only at ci di
  subst ci
  subst di
  obtain ⟨ol, gl, _, nl, dl⟩ := hl
  unfold Builtin.SmallTypes.nextOf
  refine wpAny_bind (wpAny_callSpecial?_slot (name := "__next__") hit.typeIs F.slot_tuple_iterator_next (wpAny_call_entry F.slot_tuple_iterator_next hit.typeIs F.entry_tuple_iterator_next ?_ (F.args_tuple_iterator_next_1 _)))
  refine wpAny_bind (m := field (.ref it) 0) (wpAny_field gi rfl (x := .ref l) rfl ?_)
  refine (if_neg (Bool.false_ne_true : ¬ ((Value.ref l == Value.none) = true))).symm ▸ ?_
  refine wpAny_bind (m := field (.ref it) 1) (wpAny_field gi rfl (x := .int i 0) rfl (wpAny_bind (m := seqItems? (.ref l)) (wpAny_seqItems gl dl ?_)))
  simp only [Int.toNat_natCast, hx]
  refine wpAny_bind (wpAny_setField gi rfl (by simp) (wpAny_pure ⟨x, rfl, wpAny_pure (hQ _ ⟨_, Heap.get?_update_self _ gi rfl, rfl, rfl⟩ ⟨?_, fun b n => Heap.get?_update_other _ _ (Ne.symm n)⟩)⟩))
  exact Heap.size_update _ _ _
theorem nextOf_tup_end {it l : Addr} {i : Nat} {items : Array Value} {Q : Value → Shared → Prop} (hh : A.handled = none) (hit : s.heap.IsTupleIter it l i) (hl : s.heap.IsTuple l items) (hx : items[i]? = none)
    (hQ : ∀ (h' : Heap) (e : Addr), Heap.ExtBut it s.heap h' → (∃ o, h'.get? e = some o ∧ o.cls = Value.type "StopIteration") → E (Value.ref e) { s with heap := h' }) : wpAny (model prog w) A (Builtin.SmallTypes.nextOf (Value.ref it)) Q E s := by
  obtain ⟨oi, gi, ci, di⟩ := id hit
  obtain ⟨ol, gl, _, nl, dl⟩ := hl
  unfold Builtin.SmallTypes.nextOf
  refine wpAny_bind (wpAny_callSpecial?_slot (name := "__next__") hit.typeIs F.slot_tuple_iterator_next (wpAny_call_entry F.slot_tuple_iterator_next hit.typeIs F.entry_tuple_iterator_next ?_ (F.args_tuple_iterator_next_1 _)))
  refine wpAny_bind (m := field (.ref it) 0) (wpAny_field gi di (x := .ref l) rfl ?_)
  refine (if_neg (Bool.false_ne_true : ¬ ((Value.ref l == Value.none) = true))).symm ▸ ?_
  refine wpAny_bind (m := field (.ref it) 1) (wpAny_field gi di (x := .int i 0) rfl (wpAny_bind (m := seqItems? (.ref l)) (wpAny_seqItems gl dl ?_)))
  simp only [Int.toNat_natCast, hx]
  refine wpAny_bind (wpAny_rule (wpAny_bind (wpAny_setField gi di (by simp) ?_)))
  unfold Builtin.SmallTypes.stopIteration
  refine wpAny_bind (m := newExc (.type "StopIteration") []) ?_
  simp only [newExc, newTuple]
  refine wpAny_bind (wpAny_newObj_type (wpAny_bind (m := firstArgMember _ _) (wpAny_of_eq (a := Value.none) (by first | rfl | (simp only [firstArgMember]; rfl)) (wpAny_newObj_type ?_ (by size_fits)))) (by size_fits))
  unfold raiseNew
  refine wpAny_bind (wpAny_handled ?_)
  rw [show A.in1.handled = none from hh]
  refine wpAny_throw (hQ _ _ (fun b o n e => ?_) ⟨_, Heap.get?_push_size _ rfl, rfl⟩)
  refine Heap.get?_push_of_some _ (Heap.get?_push_of_some _ ?_)
  rw [Heap.get?_update_other _ _ (Ne.symm n)]
  exact e
theorem draws_tup (hh : A.handled = none) (it l : Addr) (ne : l ≠ it) (items : Array Value) :
    Draws prog w A it [it, l] items.size (fun i v => items[i]? = some v) fun i h => h.IsTupleIter it l i ∧ h.IsTuple l items := by
  refine ⟨fun i h st => let ⟨⟨o, g, _⟩, _⟩ := st; ⟨o, g⟩, fun i h h' st k => let ⟨⟨o, g, r⟩, ⟨o2, g2, r2⟩⟩ := st; ⟨⟨o, k it (by simp) o g, r⟩, ⟨o2, k l (by simp) o2 g2, r2⟩⟩, fun i s Q E hi st h => ?_, fun s Q E st h => ?_⟩
  · obtain ⟨h1, h2⟩ := st
    have hx : items[i]? = some items[i] := Array.getElem?_eq_getElem hi
    refine nextOf_tup_item h1 h2 hx fun h' st' sb => ?_
    obtain ⟨o2, g2, r2⟩ := h2
    exact h _ _ s.toks hx ⟨st', ⟨o2, (sb.2 l ne).trans g2, r2⟩⟩ sb
  · obtain ⟨h1, h2⟩ := st
    exact nextOf_tup_end hh h1 h2 (by simp) fun h' e eb he => h h' e eb he
theorem call_enumerate_tup {l : Addr} {items : Array Value} {Q : Value → Shared → Prop} (hL : s.heap.IsTuple l items)
    (h : ∀ h', IsEnum h' (s.heap.objs.size + 1) s.heap.objs.size 0 Value.none → h'.IsTupleIter s.heap.objs.size l 0 → h'.objs.size = s.heap.objs.size + 2 → (∀ b o, s.heap.get? b = some o → h'.get? b = some o) → Q (Value.ref (s.heap.objs.size + 1)) { s with heap := h' }) :
    wpAny (model prog w) A (call (Value.type "enumerate") [Value.ref l]) Q E s := by
  obtain ⟨⟨c, dct, dt, sl⟩, hl, hc, n, hd⟩ := hL
  simp only at hc hd
  subst hc
  subst hd
  have hz := Heap.size_push s.heap { cls := .type "tuple_iterator", data := Data.fields #[Value.ref l, Value.int 0 0] }
  refine callType_new F.called_enumerate (by decide) (F.typeCall_enumerate_1 (Value.ref l)) (F.newCall_enumerate_1 (Value.ref l)) (fun obj => F.args_object_init_2 obj (Value.ref l)) F.entry_enumerate_new (meets_enumerate_newT l items n dct sl) ⟨hl, ?_⟩
  have he := Heap.get?_push_size (s.heap.push { cls := Value.type "tuple_iterator", data := Data.fields #[Value.ref l, Value.int 0 0] }) (o := { cls := Value.type "enumerate", data := Data.fields #[Value.none, Value.bool false, Value.ref s.heap.objs.size, rawInt 0, Value.none, Value.none] }) rfl
  rw [hz] at he
  show Shared.TypeIs _ (Value.ref (Heap.objs _).size) "enumerate" ∧ Q (Value.ref (Heap.objs _).size) _
  rw [hz]
  refine ⟨⟨_, he, rfl⟩, h _ he ⟨_, Heap.get?_push_of_some _ (Heap.get?_push_size _ rfl), rfl, rfl⟩ ?_ fun b o e => Heap.get?_push_of_some _ (Heap.get?_push_of_some _ e)⟩
  rw [Heap.size_push, hz]
theorem draws_tup_end (hh : A.handled = none) (it l : Addr) (ne : l ≠ it) (items : Array Value) (i0 : Nat) (hx : items[i0]? = none) :
    Draws prog w A it [it, l] i0 (fun _ _ => False) fun i h => i = i0 ∧ h.IsTupleIter it l i ∧ h.IsTuple l items := by
  refine ⟨fun i h st => let ⟨_, ⟨o, g, _⟩, _⟩ := st; ⟨o, g⟩, fun i h h' st k => let ⟨e, ⟨o, g, r⟩, ⟨o2, g2, r2⟩⟩ := st; ⟨e, ⟨o, k it (by simp) o g, r⟩, ⟨o2, k l (by simp) o2 g2, r2⟩⟩, fun i s Q E hi st h => ?_, fun s Q E st h => ?_⟩
  · exact absurd st.1 (Nat.ne_of_lt hi)
  · obtain ⟨_, h1, h2⟩ := st
    exact nextOf_tup_end hh h1 h2 hx fun h' e eb he => h h' e eb he
end
def IteT (K : PySem.W.Frag) (a : Addr) : It := ⟨fun i H => ∃ xs x, SqT K H a xs ∧ xs[i]? = some x, fun i H v H' => ∃ T x, v = V.ref T ∧ H T = none ∧ H' = upd H T (.tup [.int (i : Nat), x]) ∧ ∀ xs, SqT K H a xs → xs[i]? = some x, fun i H => ∃ xs, SqT K H a xs ∧ xs.length ≤ i⟩
theorem tup_ne {h : Heap} {a it : Addr} {i : Nat} {items : Array Value} (hit : h.IsTupleIter it a i) (pl : h.IsTuple a items) : a ≠ it := fun z => by
  subst z
  obtain ⟨o, h1, c1, _⟩ := hit
  obtain ⟨o2, h2, c2, _⟩ := pl
  rw [h1] at h2
  cases h2
  rw [c1] at c2
  exact absurd c2 (by decide)
theorem enum_ne {h : Heap} {a e it : Addr} {i : Int} {old : Value} {items : Array Value} (he : IsEnum h e it i old) (pl : h.IsTuple a items) : e ≠ a := fun z => by
  subst z
  obtain ⟨o2, h2, c2, _⟩ := pl
  rw [show h.get? e = _ from he] at h2
  cases h2
  exact absurd (show Value.type "enumerate" = Value.type "tuple" from c2) (by decide)
theorem turn_enumT {P : Program} {w : World} {K : PySem.W.Frag} {elts : List Expr} {kk : Nat} {tpos : Pos} (a e it : Addr) :
    Turn P w K (.Tuple elts kk tpos) (IteT K a) [e, it] e (fun i h => (∃ old, IsEnum h e it ((i : Nat) : Int) old) ∧ h.IsTupleIter it a i ∧ e ≠ it) where
  mem := by simp
  obj := fun i h st b hb => by
    obtain ⟨⟨old, he⟩, ⟨o, ho, hc, hd⟩, _⟩ := st
    have e' : b = e ∨ b = it := by simpa using hb
    rcases e' with z | z
    · rw [z]; exact ⟨_, he, fun v q => nomatch q⟩
    · rw [z]; exact ⟨o, ho, fun v q => by rw [hd] at q; cases q⟩
  keep := fun i h h' st k => let ⟨⟨old, he⟩, ⟨o, ho, r⟩, hne⟩ := st; ⟨⟨old, k e (by simp) _ he⟩, ⟨o, k it (by simp) o ho, r⟩, hne⟩
  item := by
    intro X hP hw hK hc i pins s σ H E I hf st hg
    subst hP hw hK
    obtain ⟨⟨old, he⟩, hit, hne⟩ := st
    obtain ⟨xs, x, hq, hx⟩ := hg
    obtain ⟨its, rv, pl, _⟩ := I.tuple hq
    have pl' : s.heap.IsTuple a its.toArray := pl
    have hel : e < s.heap.objs.size := Heap.lt_size he
    have hil : it < s.heap.objs.size := by obtain ⟨_, q, _⟩ := hit; exact Heap.lt_size q
    have ne := tup_ne hit pl'
    have ne2 := enum_ne he pl'
    have D := draws_tup (A := X.A.in1) (prog := X.prog) (w := X.w) (show X.A.in1.handled = none from I.ok.hd hc) it a ne its.toArray
    have hlt : i < its.toArray.size := by
      rw [List.size_toArray, ← rv.length]
      exact (List.getElem?_eq_some_iff.mp hx).1
    obtain ⟨u0, hu0, ru⟩ := rv.get hx
    refine wpAny_pyNext_enum_itemD D he ⟨hit, pl'⟩ hlt hne (by simp [hne, ne2]) fun u h' tk hu ho hst hT hsz hk => ?_
    have eu : u = u0 := by
      have h1 : its[i]? = some u := by simpa using hu
      rw [hu0] at h1
      exact (Option.some.inj h1).symm
    subst eu
    obtain ⟨hit', pl2⟩ := hst
    refine ⟨_, rfl, wpAny_letOwnedTupleGo_enum (s := { s with heap := h', toks := tk + 1 }) ho fun h'' he' sb => ?_⟩
    have hT2 : h''.get? s.heap.objs.size = some { cls := .type "tuple", data := .seq #[.int i tk, u] } := (sb.2 _ (Nat.ne_of_gt hel)).trans hT
    have new : ObjOk X.prog X.w (upd H s.heap.objs.size (.tup [.int (i : Nat), x])) h'' s.heap.objs.size (.tup [.int (i : Nat), x]) :=
      ⟨by show 2 ≤ sizeLine; decide, [.int i tk, u], .cons ⟨_, rfl⟩ (.cons ru .nil), ⟨_, hT2, rfl, _, rfl⟩⟩
    have I1 : Inv X pins σ (upd H s.heap.objs.size (.tup [.int (i : Nat), x])) { s with heap := h'', toks := tk + 1 } :=
      I.turnedNew (ch := [e, it]) (fun b ob hb q => (sb.2 b (fun z => hb (by simp [z]))).trans (hk b ob (fun z => hb (by simp [z])) (fun z => hb (by simp [z])) q)) hf (Nat.le_refl _) new
    refine ⟨.ref s.heap.objs.size, _, I1, rfl, ⟨_, x, rfl, I.hok.fresh (Nat.le_refl _), rfl, fun ys hy => by rw [I.tuple_inj hy hq, hx]⟩, ⟨⟨u, ?_⟩, ?_, hne⟩, fun b hb => ?_⟩
    · have e1 : ((i + 1 : Nat) : Int) = (i : Int) + 1 := by omega
      rw [e1]; exact he'
    · obtain ⟨o, ho2, r⟩ := hit'
      exact ⟨o, (sb.2 it (Ne.symm hne)).trans ho2, r⟩
    · have hb' : b < s.heap.objs.size := by
        have e' : b = e ∨ b = it := by simpa using hb
        rcases e' with z | z
        · rw [z]; exact hel
        · rw [z]; exact hil
      rw [upd_ne (Nat.ne_of_lt hb')]
      exact (hf b hb).1
  done := by
    intro X hP hw hK hc i pins s σ H E I hf st hg
    subst hP hw hK
    obtain ⟨⟨old, he⟩, hit, hne⟩ := st
    obtain ⟨xs, hq, hx⟩ := hg
    obtain ⟨its, rv, pl, _⟩ := I.tuple hq
    have pl' : s.heap.IsTuple a its.toArray := pl
    obtain ⟨f0, f1, f2, f3, f4, f5⟩ := hf it (by simp)
    have D := draws_tup_end (A := X.A.in1) (prog := X.prog) (w := X.w) (show X.A.in1.handled = none from I.ok.hd hc) it a (tup_ne hit pl') its.toArray i (by
      have := rv.length
      simp
      omega)
    exact wpAny_pyNext_enum_endD D he ⟨rfl, hit, pl'⟩ fun h' eb => ⟨rfl, I.turned (t' := s.toks) (fun b o hb q => eb b o hb q) f0 f1 f3 f4 f5⟩
  self := fun A i s Q E st h => let ⟨⟨_, he⟩, _⟩ := st; wpAny_pyIter_enum he h
def iEnumT (K : PySem.W.Frag) (ta : TA) : TI := fun σ H R => ta σ H fun vs H1 => ∃ a xs, vs = [V.ref a] ∧ SqT K H1 a xs ∧ R (IteT K a) H1
theorem pi_enumT {X : Cx} {e : Expr} {ta : TA} {p pos tpos : Pos} {elts : List Expr} {kk : Nat} (hg : Gl X "enumerate") (hm : X.mg "enumerate" = none) (ha : PA X [e] ta) (hs : starEach [e] X.env = [(false, eval e X.env)] := by rfl) :
    PI X (.Tuple elts kk tpos) (.Call (.Name "enumerate" p) [e] [] pos) (iEnumT X.K ta) := by
  refine ⟨fun pins s σ H R I h => ?_⟩
  refine Call_ (ld_blt I hg hm boot_enumerate (PyProof.Rows.callWith_type1 (thn (ha.run pos pins s σ H _ I h) fun us s1 ⟨vs, H1, I1, r1, q1⟩ => ?_) hs rfl))
  obtain ⟨a, xs, ex, hq, q⟩ := q1
  subst ex
  cases r1 with
  | cons r rr =>
    cases rr
    cases r
    obtain ⟨its, rv, pl, _⟩ := I1.tuple hq
    refine call_enumerate_tup (show s1.heap.IsTuple a its.toArray from pl) fun h' he hit hsz hk => wpAny_pyIter_enum he ?_
    have I2 : Inv X pins σ H1 { s1 with heap := h' } := I1.kept (t' := s1.toks) hk
    refine ⟨s1.heap.objs.size + 1, [s1.heap.objs.size + 1, s1.heap.objs.size], _, _, H1, rfl, I2, turn_enumT a (s1.heap.objs.size + 1) s1.heap.objs.size, ⟨⟨.none, he⟩, hit, Nat.succ_ne_self _⟩, fun b hb => ?_, q⟩
    have e' : b = s1.heap.objs.size + 1 ∨ b = s1.heap.objs.size := by simpa using hb
    have hge : s1.heap.objs.size ≤ b := by
      rcases e' with z | z
      · rw [z]; omega
      · rw [z]; omega
    exact I1.fpOk hge (I1.hok.fresh hge)
theorem walk_enumT {K : PySem.W.Frag} {a : Addr} {xs : List V} : Walk (IteT K a) xs.length (fun H => SqT K H a xs) (fun i H v H' => ∃ T x, v = V.ref T ∧ H T = none ∧ H' = upd H T (.tup [.int (i : Nat), x]) ∧ xs[i]? = some x) :=
  ⟨fun i H hi h => ⟨xs, xs[i], h, List.getElem?_eq_getElem hi⟩, fun H h => ⟨xs, h, Nat.le_refl _⟩, fun i H v H' _ h y => let ⟨T, x, a, b, c, d⟩ := y; ⟨T, x, a, b, c, d xs h⟩⟩
section
variable {X : Cx}
def rExtendT (K : PySem.W.Frag) : V → List V → Hp → VK → Prop := fun x vs H Q => ∃ l b xs zs, x = .ref l ∧ vs = [.ref b] ∧ H l = some (.lst xs) ∧ SqT K H b zs ∧ xs.length + zs.length ≤ sizeLine ∧ Q .non (upd H l (.lst (xs ++ zs)))
theorem mt_extendT : MtR X "list.extend" (rExtendT X.K) := by
  intro pins s σ H x xs v us Q I rx rs h
  obtain ⟨l, b, ys, zs, rfl, rfl, hl, hb, hz, q⟩ := h
  cases rx
  obtain ⟨u, rfl, ru⟩ := rs.one
  cases ru
  obtain ⟨z1, its, n, r1, l1, e1⟩ := I.lstM hl
  obtain ⟨its2, r2, pl2, _⟩ := I.tuple hb
  obtain ⟨⟨cls, dd, dt, sl⟩, ho, hc, n2, hd⟩ := pl2
  simp only at hc hd
  subst hc
  subst hd
  have l2 := r2.length
  refine call_meets PySem.F.slot_list_extend ⟨_, e1, rfl⟩ PySem.F.entry_list_extend (PySem.F.args_list_extend_2 _ _) (meets_extendT l b its.toArray its2.toArray n n2 dd sl (by rw [List.size_toArray, List.size_toArray]; omega)) ⟨e1, ho, ?_⟩
  refine ⟨.non, upd H l (.lst (ys ++ zs)), ?_, rfl, q⟩
  exact I.lset (t' := s.toks) hl e1 (by simp) (r1.append r2) (by rw [List.length_append]; omega)
theorem ints_get : ∀ {vs : List Value} {ns : List Int} {i : Nat} {v : Value}, IntsAre vs ns → vs[i]? = some v → ∃ t, v = .int (ns.getD i 0) t
  | _, _, _, _, .nil, e => by simp at e
  | _, _, 0, _, .cons n t _, e => by
    simp at e
    exact ⟨t, e.symm⟩
  | _, _, i + 1, v, .cons n t r, e => by
    obtain ⟨t', e'⟩ := ints_get (i := i) (v := v) r (by simpa using e)
    exact ⟨t', by simpa using e'⟩
theorem preSum_getD : ∀ (ns : List Int) (m : Nat), m ≤ ns.length → preSum (fun i => ns.getD i 0) m = (ns.take m).sum := fun ns m => by
  induction m with
  | zero => intro _; rfl
  | succ m ih =>
    intro h
    show preSum _ m + ns.getD m 0 = _
    rw [ih (by omega), List.take_add_one, List.getElem?_eq_getElem (by omega), List.sum_append, List.getD_eq_getElem?_getD, List.getElem?_eq_getElem (by omega)]
    simp
def rSumT (K : PySem.W.Frag) : List V → Hp → VK → Prop := fun vs H Q => ∃ (a : Addr) (ns : List Int), vs = [V.ref a] ∧ SqT K H a (ns.map V.int) ∧ Q (.int ns.sum) H
theorem cr_sumT (hc : X.calm = true) : CallR X (.builtin "sum") (rSumT X.K) := by
  intro pins s σ H vs us Q I rv h
  obtain ⟨a, ns, rfl, ha, q⟩ := h
  obtain ⟨u, rfl, ru⟩ := rv.one
  cases ru
  obtain ⟨its, r, pl, _⟩ := I.tuple ha
  have hi := ints_of_vals r
  have hlen := r.length
  rw [List.length_map] at hlen
  have pl' : s.heap.IsTuple a its.toArray := pl
  have la : a < s.heap.objs.size := by obtain ⟨o, ho, _⟩ := pl'; exact Heap.lt_size ho
  refine call_sum_walkG (wpAny_pyIter_tuple pl' ?_)
  refine ⟨s.heap.objs.size, [s.heap.objs.size, a], [s.heap.objs.size], its.toArray.size, _, _, fun i => ns.getD i 0, rfl, Walks.tuple (by exact I.ok.hd hc) _ a (Nat.ne_of_lt la) its.toArray, ⟨⟨_, Heap.get?_push_size _ rfl, rfl, rfl⟩, ?_⟩, fun b hb => ?_, fun i v hv => ints_get (i := i) hi (by simpa using hv), fun h' tk t' k => ?_⟩
  · obtain ⟨o, ho, r⟩ := pl'
    exact ⟨o, Heap.get?_push_of_some _ ho, r⟩
  · rw [Heap.size_push]
    have e' : b = s.heap.objs.size ∨ b = a := by simpa using hb
    rcases e' with z | z
    · rw [z]; exact Nat.lt_succ_self _
    · rw [z]; exact Nat.lt_succ_of_lt la
  · refine ⟨.int ns.sum, H, ?_, ?_, q⟩
    · refine I.kept (t' := tk) fun b o e => k b o ?_ (Heap.get?_push_of_some _ e)
      have := Heap.lt_size e
      intro z
      have e' : b = s.heap.objs.size := by simpa using z
      exact absurd e' (Nat.ne_of_lt this)
    · rw [preSum_getD _ _ (by rw [List.size_toArray]; omega), List.size_toArray, ← hlen, List.take_length]
      exact ⟨_, rfl⟩
end
end RK

namespace PT
/-! things laid from an address, in natural numbers -/
def alN (e a : Nat) : Nat := (e + a - 1) / a * a
def lb (e : Nat) (t : Nat × Nat) : Nat := alN e t.2 + t.1
def numsN (m n : Nat) : List Nat := (List.range n).filter fun k => m / 2 ^ k % 2 == 1
theorem alN_mono {e e' a : Nat} (h : e ≤ e') : alN e a ≤ alN e' a := Nat.mul_le_mul_right _ (Nat.div_le_div_right (by omega))
theorem lb_mono {e e' : Nat} {t : Nat × Nat} (h : e ≤ e') : lb e t ≤ lb e' t := Nat.add_le_add_right (alN_mono h) _
/-! the least of a list -/
def minL : List Nat → Nat
  | [] => 0
  | [x] => x
  | x :: y :: r => min x (minL (y :: r))
theorem minL_le : ∀ {l : List Nat} {x : Nat}, x ∈ l → minL l ≤ x
  | [y], x, h => by rw [List.mem_singleton.mp h]; exact Nat.le_refl _
  | y :: z :: r, x, h => by
    show min y (minL (z :: r)) ≤ x
    rcases List.mem_cons.mp h with e | e
    · rw [e]; exact Nat.min_le_left _ _
    · exact Nat.le_trans (Nat.min_le_right _ _) (minL_le e)
theorem minL_mem : ∀ {l : List Nat}, l ≠ [] → minL l ∈ l
  | [], h => absurd rfl h
  | [y], _ => List.mem_cons_self
  | y :: z :: r, _ => by
    show min y (minL (z :: r)) ∈ _
    rcases Nat.le_total y (minL (z :: r)) with e | e
    · rw [Nat.min_eq_left e]; exact List.mem_cons_self
    · rw [Nat.min_eq_right e]; exact List.mem_cons_of_mem _ (minL_mem (by simp))
def th (ths : List (Nat × Nat)) (k : Nat) : Nat × Nat := ths.getD k (0, 1)
def endf (ths : List (Nat × Nat)) (s : Nat) (o : List Nat) : Nat := o.foldl (fun e k => lb e (th ths k)) s
/-- the least end of a set by its last thing -/
def Tn (ths : List (Nat × Nat)) (s : Nat) : Nat → List Nat → Nat
  | 0, _ => s
  | f + 1, ns => minL (ns.map fun k => lb (Tn ths s f (ns.erase k)) (th ths k))
def TT (ths : List (Nat × Nat)) (s : Nat) (ns : List Nat) : Nat := Tn ths s ns.length ns
section
variable {ths : List (Nat × Nat)} {s : Nat}
theorem endf_snoc {o : List Nat} {x : Nat} : endf ths s (o ++ [x]) = lb (endf ths s o) (th ths x) := by
  unfold endf
  rw [List.foldl_append]
  rfl
theorem TT_nil : TT ths s [] = s := rfl
theorem TT_ne {ns : List Nat} (h : ns ≠ []) : TT ths s ns = minL (ns.map fun k => lb (TT ths s (ns.erase k)) (th ths k)) := by
  unfold TT
  obtain ⟨f, hf⟩ : ∃ f, ns.length = f + 1 := ⟨ns.length - 1, by have := List.length_pos_iff.mpr h; omega⟩
  rw [hf]
  show minL _ = _
  congr 1
  apply List.map_congr_left
  intro k hk
  rw [List.length_erase_of_mem hk, hf]
  rfl
theorem TT_le0 : ∀ (f : Nat) {o ns : List Nat}, o.length = f → o.Perm ns → TT ths s ns ≤ endf ths s o
  | 0, o, ns, hl, h => by
    rw [List.length_eq_zero_iff.mp hl] at h ⊢
    rw [List.nil_perm.mp h]
    exact Nat.le_refl _
  | f + 1, o, ns, hl, h => by
    have ho : o ≠ [] := fun z => by rw [z] at hl; cases hl
    have hd := List.dropLast_concat_getLast ho
    have hdl : o.dropLast.length = f := by rw [List.length_dropLast, hl]; rfl
    rw [← hd] at h ⊢
    generalize o.dropLast = o' at h hdl ⊢
    generalize o.getLast ho = x at h ⊢
    have hx : x ∈ ns := h.mem_iff.mp (by simp)
    have hne : ns ≠ [] := fun z => by rw [z] at hx; cases hx
    rw [TT_ne hne, endf_snoc]
    have h2 : o'.Perm (ns.erase x) := by
      have h3 : (x :: o').Perm ns := (List.perm_append_singleton x o').symm.trans h
      have h4 := h3.erase x
      rwa [List.erase_cons_head] at h4
    exact Nat.le_trans (minL_le (List.mem_map.mpr ⟨x, hx, rfl⟩)) (lb_mono (TT_le0 f hdl h2))
theorem TT_le {o ns : List Nat} (h : o.Perm ns) : TT ths s ns ≤ endf ths s o := TT_le0 _ rfl h
theorem flat_congr {α β : Type} {f g : α → List β} {l : List α} (h : ∀ x ∈ l, f x = g x) : l.flatMap f = l.flatMap g := by
  rw [List.flatMap_def, List.flatMap_def, List.map_congr_left h]
theorem TT_ach : ∀ (f : Nat) (ns : List Nat), ns.length = f → ∃ o : List Nat, o.Perm ns ∧ endf ths s o = TT ths s ns
  | 0, ns, h => ⟨[], by rw [List.length_eq_zero_iff.mp h], by rw [List.length_eq_zero_iff.mp h]; rfl⟩
  | f + 1, ns, h => by
    have hne : ns ≠ [] := fun z => by rw [z] at h; cases h
    have hm := minL_mem (l := ns.map fun k => lb (TT ths s (ns.erase k)) (th ths k)) (by simpa using hne)
    obtain ⟨x, hx, e⟩ := List.mem_map.mp hm
    obtain ⟨o, ho, e2⟩ := TT_ach f (ns.erase x) (by rw [List.length_erase_of_mem hx, h]; rfl)
    refine ⟨o ++ [x], ?_, ?_⟩
    · exact ((List.perm_append_singleton x o).trans (ho.cons x)).trans (List.perm_cons_erase hx).symm
    · rw [endf_snoc, e2, TT_ne hne]
      exact e
/-! the orders of a set, the least first -/
def kp : Nat → List Nat → List (List Nat)
  | 0, _ => [[]]
  | f + 1, ns => ns.flatMap fun x => (kp f (ns.erase x)).map (x :: ·)
theorem kp_perm : ∀ (f : Nat) {ns o : List Nat}, ns.length = f → (o ∈ kp f ns ↔ o.Perm ns)
  | 0, ns, o, h => by
    rw [List.length_eq_zero_iff.mp h]
    show o ∈ [[]] ↔ _
    rw [List.mem_singleton, List.perm_nil]
  | f + 1, ns, o, h => by
    show o ∈ ns.flatMap _ ↔ _
    rw [List.mem_flatMap]
    constructor
    · rintro ⟨x, hx, ho⟩
      obtain ⟨o', ho', rfl⟩ := List.mem_map.mp ho
      have := (kp_perm f (by rw [List.length_erase_of_mem hx, h]; rfl)).mp ho'
      exact (this.cons x).trans (List.perm_cons_erase hx).symm
    · intro hp
      cases o with
      | nil => rw [List.nil_perm.mp hp] at h; cases h
      | cons x o' =>
        have hx : x ∈ ns := hp.mem_iff.mp List.mem_cons_self
        refine ⟨x, hx, List.mem_map.mpr ⟨o', (kp_perm f (by rw [List.length_erase_of_mem hx, h]; rfl)).mpr ?_, rfl⟩⟩
        have h4 := hp.erase x
        rwa [List.erase_cons_head] at h4
/-- the first of the least orders -/
def fo (ths : List (Nat × Nat)) : Nat → Nat → List Nat → List Nat
  | 0, _, _ => []
  | f + 1, s, ns => match ns.find? fun x => TT ths (lb s (th ths x)) (ns.erase x) == TT ths s ns with
    | some x => x :: fo ths f (lb s (th ths x)) (ns.erase x)
    | none => []
theorem find_flat {α : Type} {β : Type} {p : β → Bool} {g : α → List β} : ∀ l : List α, (l.flatMap g).find? p = l.findSome? fun x => (g x).find? p
  | [] => rfl
  | x :: r => by
    rw [List.flatMap_cons, List.find?_append, find_flat r]
    show _ = (match (g x).find? p with | some b => some b | none => _)
    cases (g x).find? p <;> rfl
theorem TT_first {ns : List Nat} (hne : ns ≠ []) : ∃ x ∈ ns, TT ths (lb s (th ths x)) (ns.erase x) = TT ths s ns := by
  obtain ⟨o, ho, e⟩ := TT_ach (ths := ths) (s := s) ns.length ns rfl
  cases o with
  | nil => exact absurd (List.nil_perm.mp ho) hne
  | cons x o' =>
    have hx : x ∈ ns := ho.mem_iff.mp List.mem_cons_self
    have h4 := ho.erase x
    rw [List.erase_cons_head] at h4
    have h5 : TT ths (lb s (th ths x)) (ns.erase x) ≤ endf ths (lb s (th ths x)) o' := TT_le h4
    obtain ⟨o2, ho2, e2⟩ := TT_ach (ths := ths) (s := lb s (th ths x)) _ (ns.erase x) rfl
    have h6 : TT ths s ns ≤ endf ths s (x :: o2) := TT_le ((ho2.cons x).trans (List.perm_cons_erase hx).symm)
    refine ⟨x, hx, ?_⟩
    have h7 : endf ths s (x :: o2) = endf ths (lb s (th ths x)) o2 := rfl
    have h8 : endf ths s (x :: o') = endf ths (lb s (th ths x)) o' := rfl
    omega
theorem fo_first : ∀ (f : Nat) (s : Nat) (ns : List Nat), ns.length = f → (kp f ns).find? (fun o => endf ths s o == TT ths s ns) = some (fo ths f s ns)
  | 0, s, ns, h => by
    rw [List.length_eq_zero_iff.mp h]
    simp [kp, endf, TT, Tn, fo]
  | f + 1, s, ns, h => by
    have hne : ns ≠ [] := fun z => by rw [z] at h; cases h
    show (ns.flatMap _).find? _ = _
    rw [find_flat]
    have blk : ∀ x ∈ ns, ((kp f (ns.erase x)).map (x :: ·)).find? (fun o => endf ths s o == TT ths s ns) = if TT ths (lb s (th ths x)) (ns.erase x) == TT ths s ns then some (x :: fo ths f (lb s (th ths x)) (ns.erase x)) else none := fun x hx => by
      have hl : (ns.erase x).length = f := by rw [List.length_erase_of_mem hx, h]; rfl
      rw [List.find?_map]
      have e0 : ((fun o => endf ths s o == TT ths s ns) ∘ fun o => x :: o) = fun o => endf ths (lb s (th ths x)) o == TT ths s ns := rfl
      rw [e0]
      by_cases c : TT ths (lb s (th ths x)) (ns.erase x) = TT ths s ns
      · rw [← c, fo_first f _ _ hl, if_pos (beq_self_eq_true _)]
        rfl
      · rw [if_neg (fun z => c (eq_of_beq z))]
        rw [List.find?_eq_none.mpr]
        · rfl
        · intro o ho z
          have hp := (kp_perm f hl).mp ho
          have h1 : TT ths (lb s (th ths x)) (ns.erase x) ≤ endf ths (lb s (th ths x)) o := TT_le hp
          obtain ⟨o2, ho2, e2⟩ := TT_ach (ths := ths) (s := lb s (th ths x)) _ (ns.erase x) rfl
          have h6 : TT ths s ns ≤ endf ths s (x :: o2) := TT_le ((ho2.cons x).trans (List.perm_cons_erase hx).symm)
          have h7 : endf ths s (x :: o2) = endf ths (lb s (th ths x)) o2 := rfl
          have := eq_of_beq z
          omega
    obtain ⟨x0, hx0, hc0⟩ := TT_first (ths := ths) (s := s) hne
    have gen : ∀ l : List Nat, (∀ x ∈ l, x ∈ ns) → (l.findSome? fun x => ((kp f (ns.erase x)).map (x :: ·)).find? (fun o => endf ths s o == TT ths s ns)) = (l.find? fun x => TT ths (lb s (th ths x)) (ns.erase x) == TT ths s ns).map fun x => x :: fo ths f (lb s (th ths x)) (ns.erase x) := fun l => by
      induction l with
      | nil => intro _; rfl
      | cons x r ih =>
        intro hl
        rw [List.findSome?_cons, blk x (hl x List.mem_cons_self), List.find?_cons]
        cases c : (TT ths (lb s (th ths x)) (ns.erase x) == TT ths s ns) with
        | true => rfl
        | false => exact ih fun y hy => hl y (List.mem_cons_of_mem _ hy)
    rw [gen ns fun _ z => z]
    show _ = some (match ns.find? fun x => TT ths (lb s (th ths x)) (ns.erase x) == TT ths s ns with
      | some x => x :: fo ths f (lb s (th ths x)) (ns.erase x)
      | none => [])
    cases hfd : ns.find? fun x => TT ths (lb s (th ths x)) (ns.erase x) == TT ths s ns with
    | some x => rfl
    | none =>
      have := List.find?_eq_none.mp hfd x0 hx0
      rw [hc0] at this
      exact absurd (beq_self_eq_true _) this
/-! the law's orders, place by place -/
def ext (ns o : List Nat) : List (List Nat) := (ns.filter fun y => !(o.contains y)).map fun y => o ++ [y]
theorem kp_ext : ∀ (f : Nat) {ns : List Nat}, ns.Nodup → (kp f ns).flatMap (ext ns) = kp (f + 1) ns
  | 0, ns, h => by
    show ext ns [] ++ [] = ns.flatMap fun x => [[x]]
    rw [List.append_nil]
    unfold ext
    have e : ns.filter (fun y => !(([] : List Nat).contains y)) = ns := List.filter_eq_self.mpr fun a _ => rfl
    rw [e]
    clear e
    induction ns with
    | nil => rfl
    | cons x r ih =>
      rw [List.map_cons, List.flatMap_cons, ih (List.nodup_cons.mp h).2]
      rfl
  | f + 1, ns, h => by
    show (ns.flatMap fun x => (kp f (ns.erase x)).map (x :: ·)).flatMap (ext ns) = ns.flatMap fun x => (kp (f + 1) (ns.erase x)).map (x :: ·)
    rw [List.flatMap_assoc]
    apply flat_congr
    intro x hx
    rw [← kp_ext f (h.erase x), List.flatMap_map, List.map_flatMap]
    apply flat_congr
    intro o _
    unfold ext
    rw [List.map_map, h.erase_eq_filter, List.filter_filter]
    have e1 : (ns.filter fun y => !((x :: o).contains y)) = ns.filter fun y => (!(o.contains y) && (y != x)) := by
      apply List.filter_congr
      intro y _
      rw [List.contains_cons, Bool.not_or, Bool.and_comm]
      rfl
    rw [e1]
    rfl
/-! the law's choice among the orders -/
def stepO (ths : List (Nat × Nat)) (s : Nat) (b : Int × List Nat) (o : List Nat) : Int × List Nat := if b.1 < 0 ∨ (endf ths s o : Int) < b.1 then ((endf ths s o : Int), o) else b
theorem fold_stay {t : Nat} {o0 : List Nat} : ∀ l : List (List Nat), (∀ o ∈ l, t ≤ endf ths s o) → l.foldl (stepO ths s) ((t : Int), o0) = ((t : Int), o0)
  | [], _ => rfl
  | x :: r, h => by
    have hx := h x List.mem_cons_self
    rw [List.foldl_cons]
    unfold stepO
    rw [if_neg (by show ¬ ((t : Int) < 0 ∨ ((endf ths s x : Nat) : Int) < (t : Int)); omega)]
    exact fold_stay r fun o ho => h o (List.mem_cons_of_mem _ ho)
theorem fold_first {t : Nat} {o0 : List Nat} : ∀ (l : List (List Nat)) (b : Int) (a : List Nat), (∀ o ∈ l, t ≤ endf ths s o) → l.find? (fun o => endf ths s o == t) = some o0 → (b < 0 ∨ (t : Int) < b) → l.foldl (stepO ths s) (b, a) = ((t : Int), o0)
  | [], _, _, _, h, _ => by cases h
  | x :: r, b, a, h, hf, hb => by
    have hx := h x List.mem_cons_self
    rw [List.find?_cons] at hf
    rw [List.foldl_cons]
    by_cases c : endf ths s x = t
    · rw [c, beq_self_eq_true] at hf
      cases hf
      unfold stepO
      rw [if_pos (by show b < 0 ∨ ((endf ths s o0 : Nat) : Int) < b; omega), c]
      exact fold_stay r fun o ho => h o (List.mem_cons_of_mem _ ho)
    · rw [beq_false_of_ne c] at hf
      unfold stepO
      by_cases d : b < 0 ∨ ((endf ths s x : Nat) : Int) < b
      · rw [if_pos d]
        exact fold_first r _ _ (fun o ho => h o (List.mem_cons_of_mem _ ho)) hf (.inr (by omega))
      · rw [if_neg d]
        exact fold_first r _ _ (fun o ho => h o (List.mem_cons_of_mem _ ho)) hf hb
theorem fold_due {ns : List Nat} : (kp ns.length ns).foldl (stepO ths s) ((-1 : Int), []) = ((TT ths s ns : Int), fo ths ns.length s ns) :=
  fold_first _ _ _ (fun o ho => TT_le ((kp_perm ns.length rfl).mp ho)) (fo_first ns.length s ns rfl) (.inl (by decide))
end
/-! sets as numbers -/
theorem bit_off {m k j : Nat} (h : m / 2 ^ k % 2 = 1) : (m - 2 ^ k) / 2 ^ j % 2 = if j = k then 0 else m / 2 ^ j % 2 := by
  have pk : 0 < 2 ^ k := Nat.two_pow_pos k
  have pj : 0 < 2 ^ j := Nat.two_pow_pos j
  have base : ∀ a : Nat, (m - 2 ^ k) / 2 ^ k = m / 2 ^ k - 1 := fun _ => by
    have := Nat.sub_mul_div m (2 ^ k) 1
    rwa [Nat.mul_one] at this
  rcases Nat.lt_trichotomy j k with z | z | z
  · rw [if_neg (by omega)]
    obtain ⟨d, rfl⟩ : ∃ d, k = j + (d + 1) := ⟨k - j - 1, by omega⟩
    have e1 : (m - 2 ^ (j + (d + 1))) / 2 ^ j = m / 2 ^ j - 2 ^ (d + 1) := by
      rw [Nat.pow_add]
      exact Nat.sub_mul_div m (2 ^ j) (2 ^ (d + 1))
    have e2 : m / 2 ^ (j + (d + 1)) = m / 2 ^ j / 2 ^ (d + 1) := by rw [Nat.pow_add, Nat.div_div_eq_div_mul]
    rw [e2] at h
    rw [e1]
    have e3 : 2 ^ (d + 1) = 2 * 2 ^ d := by rw [Nat.pow_succ, Nat.mul_comm]
    have e4 : 2 ^ (d + 1) ≤ m / 2 ^ j := by
      rcases Nat.lt_or_ge (m / 2 ^ j) (2 ^ (d + 1)) with y | y
      · rw [Nat.div_eq_of_lt y] at h
        cases h
      · exact y
    rw [e3] at e4 ⊢
    omega
  · subst z
    rw [if_pos rfl, base 0]
    omega
  · rw [if_neg (by omega)]
    obtain ⟨d, rfl⟩ : ∃ d, j = k + (d + 1) := ⟨j - k - 1, by omega⟩
    have e1 : ∀ x : Nat, x / 2 ^ (k + (d + 1)) = x / 2 ^ k / 2 / 2 ^ d := fun x => by rw [Nat.pow_add, ← Nat.div_div_eq_div_mul, Nat.pow_succ, Nat.mul_comm, ← Nat.div_div_eq_div_mul]
    rw [e1, e1, base 0]
    have odd : ∀ a : Nat, a % 2 = 1 → (a - 1) / 2 = a / 2 := fun a y => by omega
    rw [odd _ h]
theorem numsN_off {m k n : Nat} (hk : k ∈ numsN m n) : numsN (m - 2 ^ k) n = (numsN m n).erase k := by
  have hb := (List.mem_filter.mp hk).2
  have hb : m / 2 ^ k % 2 = 1 := eq_of_beq hb
  have hnd : (numsN m n).Nodup := List.nodup_range.filter _
  rw [hnd.erase_eq_filter]
  unfold numsN
  rw [List.filter_filter]
  apply List.filter_congr
  intro j _
  rw [bit_off hb]
  by_cases z : j = k
  · rw [if_pos z, z]
    simp
  · rw [if_neg z]
    simp [z]
theorem numsN_zero (n : Nat) : numsN 0 n = [] := by
  unfold numsN
  rw [List.filter_eq_nil_iff]
  intro k _
  rw [Nat.zero_div]
  decide
theorem pow_le_of {m k n : Nat} (hk : k ∈ numsN m n) : 2 ^ k ≤ m := by
  have hb := (List.mem_filter.mp hk).2
  have hb : m / 2 ^ k % 2 = 1 := eq_of_beq hb
  rcases Nat.lt_or_ge m (2 ^ k) with y | y
  · rw [Nat.div_eq_of_lt y] at hb
    cases hb
  · exact y
theorem numsN_ne {n : Nat} : ∀ {m : Nat}, 0 < m → m < 2 ^ n → numsN m n ≠ [] := fun {m} h0 h1 z => by
  have hz : ∀ k, k < n → m / 2 ^ k % 2 = 0 := fun k hk => by
    have := List.filter_eq_nil_iff.mp z k (List.mem_range.mpr hk)
    have h3 : ¬ m / 2 ^ k % 2 = 1 := fun y => this (by rw [y]; rfl)
    omega
  have : ∀ j, j ≤ n → m % 2 ^ j = 0 := fun j => by
    induction j with
    | zero => intro _; rw [Nat.pow_zero, Nat.mod_one]
    | succ j ih =>
      intro hj
      have h2 := ih (by omega)
      have h3 := hz j (by omega)
      rw [Nat.pow_succ, Nat.mod_mul, h2, h3, Nat.mul_zero]
  have h2 := this n (Nat.le_refl _)
  rw [Nat.mod_eq_of_lt h1] at h2
  omega
/-- the table of ends as a list -/
def lbm (ths : List (Nat × Nat)) (es : List Nat) (m : Nat) : Nat := minL ((numsN m ths.length).map fun k => lb (es.getD (m - 2 ^ k) 0) (th ths k))
def tabT (ths : List (Nat × Nat)) (s j : Nat) : List Nat := (List.range (j + 1)).map fun m => TT ths s (numsN m ths.length)
theorem tab_get {ths : List (Nat × Nat)} {s j m : Nat} (h : m ≤ j) : (tabT ths s j).getD m 0 = TT ths s (numsN m ths.length) := by
  unfold tabT
  rw [List.getD_eq_getElem?_getD, List.getElem?_map, List.getElem?_range (by omega)]
  rfl
theorem tab_next {ths : List (Nat × Nat)} {s j : Nat} {es : List Nat} (he : ∀ m, m ≤ j → es.getD m 0 = TT ths s (numsN m ths.length)) (h : j + 1 < 2 ^ ths.length) : lbm ths es (j + 1) = TT ths s (numsN (j + 1) ths.length) := by
  rw [TT_ne (numsN_ne (Nat.succ_pos j) h)]
  unfold lbm
  congr 1
  apply List.map_congr_left
  intro k hk
  have h2 := pow_le_of hk
  have h3 : 0 < 2 ^ k := Nat.two_pow_pos k
  rw [he _ (by omega), numsN_off hk]
theorem tab_snoc (ths : List (Nat × Nat)) (s j : Nat) : tabT ths s (j + 1) = tabT ths s j ++ [TT ths s (numsN (j + 1) ths.length)] := by
  unfold tabT
  rw [List.range_succ, List.map_append]
  rfl
theorem tab_zero (ths : List (Nat × Nat)) (s : Nat) : tabT ths s 0 = [s] := by
  unfold tabT
  show [TT ths s (numsN 0 ths.length)] = [s]
  rw [numsN_zero]
  rfl
end PT

namespace PT
/-! ### the first of the cheapest -/
def lsB {α : Type} (c : α → Nat) (x : α) : Option α → Prop
  | none => True
  | some y => c x < c y
instance {α : Type} (c : α → Nat) (x : α) (b : Option α) : Decidable (lsB c x b) := by cases b <;> (unfold lsB; infer_instance)
def stepS {α : Type} (p : α → Bool) (c : α → Nat) (b : Option α) (x : α) : Option α := if p x = true ∧ lsB c x b then some x else b
theorem gL {α : Type} {a b : List α} {i : Nat} {d : α} (h : i < a.length) : (a ++ b).getD i d = a.getD i d := by
  rw [List.getD_eq_getElem?_getD, List.getD_eq_getElem?_getD, List.getElem?_append_left h]
theorem gR {α : Type} {a b : List α} {i : Nat} {d : α} (h : a.length ≤ i) : (a ++ b).getD i d = b.getD (i - a.length) d := by
  rw [List.getD_eq_getElem?_getD, List.getD_eq_getElem?_getD, List.getElem?_append_right h]
structure Fst {α : Type} (l : List α) (x : α) (c : α → Nat) : Prop where
  split : ∃ pre post, l = pre ++ x :: post ∧ ∀ y ∈ pre, c x < c y
  least : ∀ y ∈ l, c x ≤ c y
theorem fold_keep {α : Type} {p : α → Bool} {c : α → Nat} : ∀ (l : List α) (b : Option α), (∀ y ∈ l, p y = true → ∃ z, b = some z ∧ c z ≤ c y) → l.foldl (stepS p c) b = b
  | [], _, _ => rfl
  | y :: r, b, h => by
    have e : stepS p c b y = b := by
      unfold stepS
      by_cases hp : p y = true
      · obtain ⟨z, rfl, hz⟩ := h y List.mem_cons_self hp
        rw [if_neg (fun q => absurd (show c y < c z from q.2) (by omega))]
      · rw [if_neg (fun q => hp q.1)]
    rw [List.foldl_cons, e]
    exact fold_keep r b fun y hy => h y (List.mem_cons_of_mem _ hy)
/-- what stands ahead of the first one is dearer -/
theorem fold_pre {α : Type} {p : α → Bool} {c : α → Nat} {x : α} : ∀ (l : List α) (b : Option α), (∀ y ∈ l, c x < c y) → lsB c x b → lsB c x (l.foldl (stepS p c) b)
  | [], _, _, hb => hb
  | y :: r, b, h, hb => by
    rw [List.foldl_cons]
    refine fold_pre r _ (fun z hz => h z (List.mem_cons_of_mem _ hz)) ?_
    unfold stepS
    split
    · exact h y List.mem_cons_self
    · exact hb
theorem fold_group {α : Type} {p : α → Bool} {c : α → Nat} {l : List α} {x : α} (f : Fst l x c) (hp : ∀ y ∈ l, p y = true → p x = true) (b : Option α) : l.foldl (stepS p c) b = stepS p c b x := by
  by_cases hx : p x = true
  · by_cases hb : lsB c x b
    · obtain ⟨pre, post, e, hpre⟩ := f.split
      have h1 := fold_pre (p := p) pre b hpre hb
      have e1 : stepS p c b x = some x := by
        unfold stepS
        rw [if_pos ⟨hx, hb⟩]
      rw [e, List.foldl_append, List.foldl_cons, e1]
      have e2 : stepS p c (pre.foldl (stepS p c) b) x = some x := by
        unfold stepS
        rw [if_pos ⟨hx, h1⟩]
      rw [e2]
      refine fold_keep _ _ fun y hy _ => ⟨x, rfl, f.least y ?_⟩
      rw [e]
      exact List.mem_append_right _ (List.mem_cons_of_mem _ hy)
    · cases b with
      | none => exact absurd trivial hb
      | some z =>
        have hz : c z ≤ c x := Nat.le_of_not_lt hb
        have e1 : stepS p c (some z) x = some z := by
          unfold stepS
          rw [if_neg (fun q => hb q.2)]
        rw [e1]
        exact fold_keep _ _ fun y hy _ => ⟨z, rfl, Nat.le_trans hz (f.least y hy)⟩
  · have e1 : stepS p c b x = b := by
      unfold stepS
      rw [if_neg (fun q => hx q.1)]
    rw [e1]
    exact fold_keep _ _ fun y hy h => absurd (hp y hy h) hx
theorem foldl_flat {α β γ : Type} (f : γ → β → γ) (g : α → List β) : ∀ (l : List α) (b : γ), (l.flatMap g).foldl f b = l.foldl (fun b x => (g x).foldl f b) b
  | [], _ => rfl
  | x :: r, b => by
    rw [List.flatMap_cons, List.foldl_append, List.foldl_cons]
    exact foldl_flat f g r _
/-- of all groups the first of the cheapest: that of the groups' first ones -/
theorem fold_groups {α β : Type} {p : β → Bool} {c : β → Nat} {g : α → List β} {h : α → β} : ∀ (l : List α) (b : Option β), (∀ x ∈ l, Fst (g x) (h x) c ∧ ∀ y ∈ g x, p y = true → p (h x) = true) → (l.flatMap g).foldl (stepS p c) b = (l.map h).foldl (stepS p c) b
  | [], _, _ => rfl
  | x :: r, b, hh => by
    rw [List.flatMap_cons, List.foldl_append, List.map_cons, List.foldl_cons, fold_group (hh x List.mem_cons_self).1 (hh x List.mem_cons_self).2 b]
    exact fold_groups r _ fun y hy => hh y (List.mem_cons_of_mem _ hy)
/-- products: a row and one more -/
theorem Fst.prod {α β : Type} {rows : List (List α)} {r : List α} {c c2 : List α → Nat} {os : List α} {o : α} {e : α → Nat} (f1 : Fst rows r c) (f2 : Fst os o e) (hc : ∀ r ∈ rows, ∀ o ∈ os, c2 (r ++ [o]) = c r + e o) : Fst (rows.flatMap fun r => os.map fun o => r ++ [o]) (r ++ [o]) c2 := by
  obtain ⟨p1, q1, e1, h1⟩ := f1.split
  obtain ⟨p2, q2, e2, h2⟩ := f2.split
  have hr : r ∈ rows := by rw [e1]; exact List.mem_append_right _ List.mem_cons_self
  have ho : o ∈ os := by rw [e2]; exact List.mem_append_right _ List.mem_cons_self
  refine ⟨⟨(p1.flatMap fun r => os.map fun o => r ++ [o]) ++ p2.map (fun o => r ++ [o]), q2.map (fun o => r ++ [o]) ++ q1.flatMap fun r => os.map fun o => r ++ [o], ?_, fun y hy => ?_⟩, fun y hy => ?_⟩
  · conv => lhs; rw [e1]
    rw [List.flatMap_append, List.flatMap_cons]
    conv => lhs; rhs; lhs; rw [e2]
    rw [List.map_append, List.map_cons]
    simp only [List.append_assoc, List.cons_append]
  · rw [hc r hr o ho]
    rcases List.mem_append.mp hy with hy | hy
    · obtain ⟨r', hr', hy⟩ := List.mem_flatMap.mp hy
      obtain ⟨o', ho', rfl⟩ := List.mem_map.mp hy
      rw [hc r' (by rw [e1]; exact List.mem_append_left _ hr') o' ho']
      have := h1 r' hr'
      have := f2.least o' ho'
      omega
    · obtain ⟨o', ho', rfl⟩ := List.mem_map.mp hy
      rw [hc r hr o' (by rw [e2]; exact List.mem_append_left _ ho')]
      have := h2 o' ho'
      omega
  · obtain ⟨r', hr', hy⟩ := List.mem_flatMap.mp hy
    obtain ⟨o', ho', rfl⟩ := List.mem_map.mp hy
    rw [hc r hr o ho, hc r' hr' o' ho']
    have := f1.least r' hr'
    have := f2.least o' ho'
    omega
/-! ### dealings, orders of rooms -/
def dls (chs : List (List Nat)) : List (List Nat) := chs.foldl (fun rows ch => rows.flatMap fun r => ch.map fun x => r ++ [x]) [[]]
def grp (dl : List Nat) (r : Nat) : List Nat := (List.range dl.length).filter fun k => dl.getD k 0 == r
def rwP (dl : List Nat) : Nat → List (List (List Nat))
  | 0 => [[]]
  | i + 1 => (rwP dl i).flatMap fun row => (kp (grp dl i).length (grp dl i)).map fun o => row ++ [o]
def enP (ths : List (Nat × Nat)) (ss : List Nat) (os : List (List Nat)) : List Nat := (List.range os.length).map fun r => endf ths (ss.getD r 0) (os.getD r [])
def loP (ths : List (Nat × Nat)) (ss dl : List Nat) (i : Nat) : List (List Nat) := (List.range i).map fun r => fo ths (grp dl r).length (ss.getD r 0) (grp dl r)
theorem grp_nodup (dl : List Nat) (r : Nat) : (grp dl r).Nodup := List.Nodup.sublist List.filter_sublist List.nodup_range
theorem kp_first (ths : List (Nat × Nat)) (s : Nat) (ns : List Nat) : Fst (kp ns.length ns) (fo ths ns.length s ns) (endf ths s) := by
  have hf := fo_first (ths := ths) ns.length s ns rfl
  obtain ⟨hp, pre, post, e, hpre⟩ := List.find?_eq_some_iff_append.mp hf
  have he : endf ths s (fo ths ns.length s ns) = TT ths s ns := by simpa using hp
  have hle : ∀ y ∈ kp ns.length ns, TT ths s ns ≤ endf ths s y := fun y hy => TT_le ((kp_perm _ rfl).mp hy)
  refine ⟨⟨pre, post, e, fun y hy => ?_⟩, fun y hy => ?_⟩
  · have h1 := hpre y hy
    have h2 := hle y (by rw [e]; exact List.mem_append_left _ hy)
    have h3 : endf ths s y ≠ TT ths s ns := by simpa using h1
    omega
  · rw [he]
    exact hle y hy
theorem rwP_len {dl : List Nat} : ∀ (i : Nat) {os : List (List Nat)}, os ∈ rwP dl i → os.length = i
  | 0, os, h => by rw [List.mem_singleton.mp h]; rfl
  | i + 1, os, h => by
    obtain ⟨r, hr, h⟩ := List.mem_flatMap.mp h
    obtain ⟨o, _, rfl⟩ := List.mem_map.mp h
    rw [List.length_append, rwP_len i hr]
    rfl
theorem enP_snoc (ths : List (Nat × Nat)) (ss : List Nat) (os : List (List Nat)) (o : List Nat) : enP ths ss (os ++ [o]) = enP ths ss os ++ [endf ths (ss.getD os.length 0) o] := by
  unfold enP
  rw [List.length_append]
  show (List.range (os.length + 1)).map _ = _
  rw [List.range_succ, List.map_append]
  congr 1
  · refine List.map_congr_left fun i hi => ?_
    have := List.mem_range.mp hi
    rw [gL this]
  · show [endf ths (ss.getD os.length 0) ((os ++ [o]).getD os.length [])] = _
    rw [gR (Nat.le_refl _), Nat.sub_self]
    rfl
theorem loP_succ (ths : List (Nat × Nat)) (ss dl : List Nat) (i : Nat) : loP ths ss dl (i + 1) = loP ths ss dl i ++ [fo ths (grp dl i).length (ss.getD i 0) (grp dl i)] := by
  unfold loP
  rw [List.range_succ, List.map_append]
  rfl
theorem loP_len (ths : List (Nat × Nat)) (ss dl : List Nat) (i : Nat) : (loP ths ss dl i).length = i := by unfold loP; rw [List.length_map, List.length_range]
theorem rwP_first (ths : List (Nat × Nat)) (ss dl : List Nat) : ∀ i, Fst (rwP dl i) (loP ths ss dl i) fun os => (enP ths ss os).sum
  | 0 => ⟨⟨[], [], rfl, fun y h => by cases h⟩, fun y h => by rw [List.mem_singleton.mp h]; exact Nat.le_refl _⟩
  | i + 1 => by
    rw [loP_succ]
    refine Fst.prod (β := Nat) (rwP_first ths ss dl i) (kp_first ths (ss.getD i 0) (grp dl i)) fun r hr o _ => ?_
    rw [enP_snoc, List.sum_append, rwP_len i hr]
    simp
theorem rwP_ends {ths : List (Nat × Nat)} {ss dl : List Nat} : ∀ (i : Nat) {os : List (List Nat)}, os ∈ rwP dl i → ∀ r, r < i → (enP ths ss (loP ths ss dl i)).getD r 0 ≤ (enP ths ss os).getD r 0
  | 0, _, _, r, h => by omega
  | i + 1, os, h, r, hr => by
    obtain ⟨row, hrow, h⟩ := List.mem_flatMap.mp h
    obtain ⟨o, ho, rfl⟩ := List.mem_map.mp h
    have l1 := rwP_len i hrow
    have l2 := loP_len ths ss dl i
    have e1 : (enP ths ss (loP ths ss dl i)).length = i := by unfold enP; rw [List.length_map, List.length_range, l2]
    have e2 : (enP ths ss row).length = i := by unfold enP; rw [List.length_map, List.length_range, l1]
    rw [loP_succ, enP_snoc, enP_snoc, l1, l2]
    rcases Nat.lt_or_ge r i with z | z
    · rw [gL (by omega), gL (by omega)]
      exact rwP_ends i hrow r z
    · have : r = i := by omega
      subst this
      rw [gR (by omega), gR (by omega), e1, e2, Nat.sub_self]
      exact (kp_first ths (ss.getD r 0) (grp dl r)).least o ho
/-! sets as numbers -/
def smN (q : Nat → Bool) : Nat → Nat
  | 0 => 0
  | n + 1 => smN q n + if q n = true then 2 ^ n else 0
theorem smN_lt (q : Nat → Bool) : ∀ n, smN q n < 2 ^ n
  | 0 => Nat.one_pos
  | n + 1 => by
    have := smN_lt q n
    have e : 2 ^ (n + 1) = 2 ^ n + 2 ^ n := by rw [Nat.pow_succ]; omega
    show smN q n + _ < _
    split <;> omega
theorem smN_bit (q : Nat → Bool) : ∀ n k, k < n → smN q n / 2 ^ k % 2 = if q k = true then 1 else 0
  | 0, k, h => by omega
  | n + 1, k, h => by
    have hl := smN_lt q n
    have hp : 0 < 2 ^ k := Nat.two_pow_pos k
    show (smN q n + _) / 2 ^ k % 2 = _
    rcases Nat.lt_or_ge k n with z | z
    · rw [← smN_bit q n k z]
      split
      · obtain ⟨j, hj⟩ : ∃ j, n = k + 1 + j := ⟨n - k - 1, by omega⟩
        have e : 2 ^ n = 2 ^ k * (2 * 2 ^ j) := by rw [hj, Nat.pow_add, Nat.pow_succ, Nat.mul_assoc]
        rw [e, Nat.add_mul_div_left _ _ hp]
        omega
      · rfl
    · have : k = n := by omega
      subst this
      split
      · rw [Nat.add_div_right _ hp, Nat.div_eq_of_lt hl]
      · rw [Nat.add_zero, Nat.div_eq_of_lt hl]
theorem sum_pow (q : Nat → Bool) : ∀ n, (((List.range n).filter q).map fun k => 2 ^ k).sum = smN q n
  | 0 => rfl
  | n + 1 => by
    rw [List.range_succ, List.filter_append, List.map_append, List.sum_append, sum_pow q n]
    show _ = smN q n + _
    congr 1
    by_cases h : q n = true
    · rw [if_pos h, List.filter_cons_of_pos h]
      rfl
    · rw [if_neg h, List.filter_cons_of_neg h]
      rfl
theorem nums_smN (q : Nat → Bool) (n : Nat) : numsN (smN q n) n = (List.range n).filter q := by
  unfold numsN
  refine List.filter_congr fun k hk => ?_
  rw [smN_bit q n k (List.mem_range.mp hk)]
  cases q k <;> rfl
def chN (dl : List Nat) (r : Nat) : Nat := ((grp dl r).map fun k => 2 ^ k).sum
theorem chN_lt (dl : List Nat) (r : Nat) : chN dl r < 2 ^ dl.length := by
  unfold chN grp
  rw [sum_pow]
  exact smN_lt _ _
theorem nums_chN (dl : List Nat) (r : Nat) : numsN (chN dl r) dl.length = grp dl r := by
  unfold chN grp
  rw [sum_pow, nums_smN]
theorem Fst.map {α β : Type} {l : List α} {x : α} {c : α → Nat} {c2 : β → Nat} {g : α → β} (f : Fst l x c) (h : ∀ y, c2 (g y) = c y) : Fst (l.map g) (g x) c2 := by
  obtain ⟨pre, post, e, hp⟩ := f.split
  refine ⟨⟨pre.map g, post.map g, by rw [e, List.map_append, List.map_cons], fun y hy => ?_⟩, fun y hy => ?_⟩
  · obtain ⟨z, hz, rfl⟩ := List.mem_map.mp hy
    rw [h, h]
    exact hp z hz
  · obtain ⟨z, hz, rfl⟩ := List.mem_map.mp hy
    rw [h, h]
    exact f.least z hz
abbrev Pk := List Nat × List (List Nat)
def coP (ths : List (Nat × Nat)) (ss : List Nat) (q : Pk) : Nat := (enP ths ss q.2).sum
def wiP (ths : List (Nat × Nat)) (ss : List Nat) (ls : List Int) (q : Pk) : Bool := (List.range ls.length).all fun r => decide ((((enP ths ss q.2).getD r 0 : Nat) : Int) ≤ ls.getD r 0)
def allP (chs : List (List Nat)) (nr : Nat) : List Pk := (dls chs).flatMap fun dl => (rwP dl nr).map fun os => (dl, os)
def leaP (ths : List (Nat × Nat)) (ss : List Nat) (chs : List (List Nat)) (nr : Nat) : List Pk := (dls chs).map fun dl => (dl, loP ths ss dl nr)
theorem pack_same (ths : List (Nat × Nat)) (ss : List Nat) (ls : List Int) (chs : List (List Nat)) : (allP chs ls.length).foldl (stepS (wiP ths ss ls) (coP ths ss)) none = (leaP ths ss chs ls.length).foldl (stepS (wiP ths ss ls) (coP ths ss)) none := by
  refine fold_groups _ _ fun dl _ => ⟨(rwP_first ths ss dl ls.length).map fun _ => rfl, fun y hy hp => ?_⟩
  obtain ⟨os, hos, rfl⟩ := List.mem_map.mp hy
  refine List.all_eq_true.mpr fun r hr => ?_
  have h1 := of_decide_eq_true (List.all_eq_true.mp hp r hr)
  have h2 := rwP_ends (ths := ths) (ss := ss) ls.length hos r (List.mem_range.mp hr)
  exact decide_eq_true (Int.le_trans (Int.ofNat_le.mpr h2) h1)
end PT

namespace RK
open PySem PySem.Spec PyProof.Rows L2
/-! words as text: each a comma and four digits -/
def txW (ws : List Nat) : List Nat := ws.flatMap fun w => 44 :: hexd w
theorem txW_nil : txW [] = [] := rfl
theorem txW_cons (w : Nat) (ws : List Nat) : txW (w :: ws) = 44 :: (hexd w ++ txW ws) := by
  unfold txW
  rw [List.flatMap_cons]
  rfl
theorem hexd_len (w : Nat) : (hexd w).length = 4 := rfl
theorem txW_len : ∀ ws : List Nat, (txW ws).length = 5 * ws.length
  | [] => rfl
  | w :: r => by
    rw [txW_cons, List.length_cons, List.length_append, hexd_len, txW_len r, List.length_cons]
    omega
theorem txW_app (a b : List Nat) : txW (a ++ b) = txW a ++ txW b := by
  unfold txW
  rw [List.flatMap_append]
theorem txW_drop (ws : List Nat) (k : Nat) : (txW ws).drop (5 * k) = txW (ws.drop k) := by
  by_cases h : k ≤ ws.length
  · have e : txW ws = txW (ws.take k) ++ txW (ws.drop k) := by rw [← txW_app, List.take_append_drop]
    have l : (txW (ws.take k)).length = 5 * k := by rw [txW_len, List.length_take, Nat.min_eq_left h]
    rw [e, List.drop_append_of_le_length (by omega), List.drop_of_length_le (by omega)]
    rfl
  · rw [List.drop_of_length_le (by rw [txW_len]; omega), List.drop_of_length_le (by omega)]
    rfl
theorem txW_take (ws : List Nat) (k : Nat) : (txW ws).take (5 * k) = txW (ws.take k) := by
  by_cases h : k ≤ ws.length
  · have e : txW ws = txW (ws.take k) ++ txW (ws.drop k) := by rw [← txW_app, List.take_append_drop]
    have l : (txW (ws.take k)).length = 5 * k := by rw [txW_len, List.length_take, Nat.min_eq_left h]
    rw [e, List.take_append_of_le_length (by omega), List.take_of_length_le (by omega)]
  · rw [List.take_of_length_le (by rw [txW_len]; omega), List.take_of_length_le (by omega)]
theorem hexd_inj {a b : Nat} (ha : a ≤ 65535) (hb : b ≤ 65535) (h : hexd a = hexd b) : a = b := by
  rw [← val4_hexd ha, ← val4_hexd hb, h]
theorem txW_inj : ∀ {a b : List Nat}, (∀ w ∈ a, w ≤ 65535) → (∀ w ∈ b, w ≤ 65535) → txW a = txW b → a = b
  | [], [], _, _, _ => rfl
  | [], b :: r, _, _, h => by rw [txW_cons] at h; cases h
  | a :: r, [], _, _, h => by rw [txW_cons] at h; cases h
  | a :: r, b :: t, ha, hb, h => by
    rw [txW_cons, txW_cons] at h
    have h1 := List.cons.inj h
    have h2 := List.append_inj h1.2 rfl
    rw [hexd_inj (ha _ List.mem_cons_self) (hb _ List.mem_cons_self) h2.1, txW_inj (fun w hw => ha w (List.mem_cons_of_mem _ hw)) (fun w hw => hb w (List.mem_cons_of_mem _ hw)) h2.2]
theorem hx_no (k : Nat) : hx k ≠ 44 := by
  unfold hx
  split <;> omega
theorem txW_comma : ∀ (ws : List Nat) (j : Nat), (txW ws)[j]? = some 44 → j % 5 = 0
  | [], j, h => by cases h
  | w :: r, j, h => by
    rw [txW_cons] at h
    match j, h with
    | 0, _ => rfl
    | 1, h => exact absurd (Option.some.inj h) (hx_no _)
    | 2, h => exact absurd (Option.some.inj h) (hx_no _)
    | 3, h => exact absurd (Option.some.inj h) (hx_no _)
    | 4, h => exact absurd (Option.some.inj h) (hx_no _)
    | j + 5, h =>
      have := txW_comma r j h
      omega
/-- the words stand at a place -/
def occW (E w : List Nat) (a : Nat) : Prop := (E.drop a).take w.length = w
instance (E w : List Nat) (a : Nat) : Decidable (occW E w a) := by unfold occW; infer_instance
theorem subAt_txW {E w : List Nat} {i : Nat} : Builtin.Str.subAt (sO (txW E)) (sO (txW w)) i = true ↔ ((txW E).drop i).take (5 * w.length) = txW w := by
  rw [StrLaws.subAt_eq]
  show (((txW E).drop i).take (txW w).length == txW w) = true ↔ _
  rw [beq_iff_eq, txW_len]
theorem at_txW {E w : List Nat} {i : Nat} (hE : ∀ x ∈ E, x ≤ 65535) (hw : ∀ x ∈ w, x ≤ 65535) (hne : w ≠ []) : StrLaws.At (sO (txW E)) (sO (txW w)) (sO (txW E)).length i ↔ ∃ a, i = 5 * a ∧ occW E w a := by
  constructor
  · rintro ⟨_, h2⟩
    have h := subAt_txW.mp h2
    obtain ⟨x, r, rfl⟩ := List.exists_cons_of_ne_nil hne
    have hc : (txW E)[i]? = some 44 := by
      have e1 : (((txW E).drop i).take (5 * (x :: r).length))[0]? = some 44 := by rw [h, txW_cons]; rfl
      rw [List.getElem?_take_of_lt (by rw [List.length_cons]; omega), List.getElem?_drop] at e1
      exact e1
    have h5 := txW_comma _ _ hc
    obtain ⟨a, rfl⟩ : ∃ a, i = 5 * a := ⟨i / 5, by omega⟩
    refine ⟨a, rfl, ?_⟩
    rw [txW_drop, txW_take] at h
    exact txW_inj (fun y hy => hE y (List.mem_of_mem_drop (List.mem_of_mem_take hy))) hw h
  · rintro ⟨a, rfl, h⟩
    unfold occW at h
    refine ⟨?_, subAt_txW.mpr ?_⟩
    · rw [sO_len, sO_len, txW_len, txW_len]
      have := congrArg List.length h
      rw [List.length_take, List.length_drop] at this
      have : 0 < w.length := List.length_pos_iff.mpr hne
      omega
    · rw [txW_drop, txW_take, h]
theorem find_none {E w : List Nat} (hE : ∀ x ∈ E, x ≤ 65535) (hw : ∀ x ∈ w, x ≤ 65535) (hne : w ≠ []) (h : ∀ a, ¬ occW E w a) : Txt.find (sO (txW E)) (sO (txW w)) = -1 := by
  unfold Txt.find
  rcases StrLaws.occ_head (sO (txW E)) (sO (txW w)) 1 (Nat.le_refl _) with ⟨h0, _⟩ | ⟨i, r, _, h1, _⟩
  · rw [h0]
  · obtain ⟨a, _, ha⟩ := (at_txW hE hw hne).mp h1
    exact absurd ha (h a)
theorem find_some {E w : List Nat} {a : Nat} (hE : ∀ x ∈ E, x ≤ 65535) (hw : ∀ x ∈ w, x ≤ 65535) (hne : w ≠ []) (h : occW E w a) (hb : ∀ b, b < a → ¬ occW E w b) : Txt.find (sO (txW E)) (sO (txW w)) = ((5 * a : Nat) : Int) := by
  unfold Txt.find
  rcases StrLaws.occ_head (sO (txW E)) (sO (txW w)) 1 (Nat.le_refl _) with ⟨_, h0⟩ | ⟨i, r, e, h1, h2⟩
  · exact absurd ((at_txW hE hw hne).mpr ⟨a, rfl, h⟩) (h0 _)
  · rw [e]
    obtain ⟨b, rfl, hb2⟩ := (at_txW hE hw hne).mp h1
    have h3 : ¬ b < a := fun z => hb b z hb2
    have h4 : ¬ a < b := fun z => h2 (5 * a) (by omega) ((at_txW hE hw hne).mpr ⟨a, rfl, h⟩)
    show ((5 * b : Nat) : Int) = _
    rw [show a = b by omega]
theorem find_nil (E : List Nat) : Txt.find (sO E) (sO []) = 0 := by
  unfold Txt.find
  rcases StrLaws.occ_head (sO E) (sO []) 1 (Nat.le_refl _) with ⟨_, h0⟩ | ⟨i, r, e, h1, h2⟩
  · refine absurd ⟨Nat.zero_le _, ?_⟩ (h0 0)
    rw [StrLaws.subAt_eq]
    rfl
  · rw [e]
    have : ¬ 0 < i := fun z => h2 0 z ⟨Nat.zero_le _, by rw [StrLaws.subAt_eq]; rfl⟩
    show ((i : Nat) : Int) = 0
    omega
end RK

namespace DL
open PT
/-! ### the longest copies -/
def lcp : List Nat → List Nat → Nat
  | a :: r, b :: t => if a = b then lcp r t + 1 else 0
  | _, _ => 0
def lcn : List Nat → List Nat → Nat
  | [], _ => 0
  | e :: E, X => max (lcp (e :: E) X) (lcn E X)
def fat : List Nat → List Nat → Nat
  | [], _ => 0
  | e :: E, X => if lcn E X ≤ lcp (e :: E) X then 0 else fat E X + 1
theorem lcp_le : ∀ (a b : List Nat), lcp a b ≤ a.length ∧ lcp a b ≤ b.length
  | [], _ => ⟨Nat.le_refl _, Nat.zero_le _⟩
  | _ :: _, [] => ⟨Nat.zero_le _, Nat.le_refl _⟩
  | a :: r, b :: t => by
    have := lcp_le r t
    unfold lcp
    split
    · exact ⟨Nat.succ_le_succ this.1, Nat.succ_le_succ this.2⟩
    · exact ⟨Nat.zero_le _, Nat.zero_le _⟩
theorem lcp_iff : ∀ (c : Nat) (a b : List Nat), c ≤ b.length → (a.take c = b.take c ↔ c ≤ lcp a b)
  | 0, a, b, _ => by rw [List.take_zero, List.take_zero]; exact ⟨fun _ => Nat.zero_le _, fun _ => rfl⟩
  | c + 1, a, [], h => by cases h
  | c + 1, [], b :: t, h => by
    constructor
    · intro z
      rw [List.take_nil, List.take_succ_cons] at z
      cases z
    · intro z
      exact absurd z (Nat.not_succ_le_zero _)
  | c + 1, a :: r, b :: t, h => by
    rw [List.take_succ_cons, List.take_succ_cons]
    have ih := lcp_iff c r t (Nat.le_of_succ_le_succ h)
    unfold lcp
    split
    · rename_i e
      subst e
      constructor
      · intro z
        exact Nat.succ_le_succ (ih.mp (List.cons.inj z).2)
      · intro z
        rw [ih.mpr (Nat.le_of_succ_le_succ z)]
    · rename_i e
      constructor
      · intro z
        exact absurd (List.cons.inj z).1 e
      · intro z
        exact absurd z (Nat.not_succ_le_zero _)
theorem lcp_nil (X : List Nat) : lcp [] X = 0 := by unfold lcp; rfl
theorem lcn_le : ∀ (E X : List Nat), lcn E X ≤ X.length
  | [], _ => Nat.zero_le _
  | e :: E, X => Nat.max_le.mpr ⟨(lcp_le _ _).2, lcn_le E X⟩
theorem lcp_lcn : ∀ (E X : List Nat) (a : Nat), lcp (E.drop a) X ≤ lcn E X
  | [], X, a => by rw [List.drop_nil, lcp_nil]; exact Nat.zero_le _
  | e :: E, X, 0 => Nat.le_max_left _ _
  | e :: E, X, a + 1 => Nat.le_trans (lcp_lcn E X a) (Nat.le_max_right _ _)
theorem fat_at : ∀ (E X : List Nat), lcp (E.drop (fat E X)) X = lcn E X
  | [], X => lcp_nil X
  | e :: E, X => by
    show lcp ((e :: E).drop (if lcn E X ≤ lcp (e :: E) X then 0 else fat E X + 1)) X = max (lcp (e :: E) X) (lcn E X)
    by_cases h : lcn E X ≤ lcp (e :: E) X
    · rw [if_pos h, List.drop_zero]
      omega
    · rw [if_neg h, List.drop_succ_cons, fat_at E X]
      omega
theorem fat_first : ∀ (E X : List Nat) (b : Nat), b < fat E X → lcp (E.drop b) X < lcn E X
  | [], X, b, h => by cases h
  | e :: E, X, b, h => by
    unfold fat at h
    unfold lcn
    split at h
    · cases h
    · rename_i h2
      cases b with
      | zero =>
        rw [List.drop_zero]
        omega
      | succ b =>
        rw [List.drop_succ_cons]
        have := fat_first E X b (by omega)
        omega
theorem fat_len (E X : List Nat) : fat E X + lcn E X ≤ E.length := by
  have h1 := fat_at E X
  have h2 := (lcp_le (E.drop (fat E X)) X).1
  rw [h1, List.length_drop] at h2
  by_cases z : lcn E X = 0
  · have : ∀ b, b < fat E X → False := fun b hb => by
      have := fat_first E X b hb
      omega
    have : fat E X = 0 := by
      rcases Nat.eq_zero_or_pos (fat E X) with h | h
      · exact h
      · exact (this 0 h).elim
    omega
  · omega
theorem lcp_cons_le (a X : List Nat) (x : Nat) : lcp a (x :: X) ≤ lcp (a.drop 1) X + 1 := by
  cases a with
  | nil => rw [lcp_nil]; exact Nat.zero_le _
  | cons e r =>
    rw [List.drop_succ_cons, List.drop_zero]
    show (if e = x then lcp r X + 1 else 0) ≤ _
    split
    · exact Nat.le_refl _
    · exact Nat.zero_le _
theorem lcn_slide (E X : List Nat) (x : Nat) : lcn E (x :: X) ≤ lcn E X + 1 := by
  have h1 := fat_at E (x :: X)
  have h2 := lcp_cons_le (E.drop (fat E (x :: X))) X x
  rw [List.drop_drop] at h2
  have h3 := lcp_lcn E X (fat E (x :: X) + 1)
  omega
/-! ### prices -/
def mm : List Nat → Nat
  | [] => 0
  | [x] => 2 + x
  | x :: y :: r => min (2 + x) (1 + mm (y :: r))
def bp : List Nat → Nat
  | [] => 0
  | [_] => 1
  | x :: y :: r => if 1 + mm (y :: r) ≤ 2 + x then 1 + bp (y :: r) else 1
theorem mm_le : ∀ (R : List Nat) (c : Nat), c < R.length → mm R ≤ 2 + c + R.getD c 0
  | [], c, h => by cases h
  | [x], c, h => by
    have : c = 0 := by simp at h; exact h
    subst this
    exact Nat.le_refl _
  | x :: y :: r, 0, h => by
    show min _ _ ≤ 2 + 0 + x
    omega
  | x :: y :: r, c + 1, h => by
    have := mm_le (y :: r) c (Nat.lt_of_succ_lt_succ h)
    show min _ _ ≤ 2 + (c + 1) + (y :: r).getD c 0
    omega
theorem bp_at : ∀ (R : List Nat), R ≠ [] → 1 ≤ bp R ∧ bp R ≤ R.length ∧ mm R = 1 + bp R + R.getD (bp R - 1) 0
  | [], h => absurd rfl h
  | [x], _ => ⟨Nat.le_refl _, Nat.le_refl _, rfl⟩
  | x :: y :: r, _ => by
    obtain ⟨h1, h2, h3⟩ := bp_at (y :: r) (by simp)
    show 1 ≤ (if 1 + mm (y :: r) ≤ 2 + x then 1 + bp (y :: r) else 1) ∧ (if 1 + mm (y :: r) ≤ 2 + x then 1 + bp (y :: r) else 1) ≤ _ ∧ min (2 + x) (1 + mm (y :: r)) = 1 + (if 1 + mm (y :: r) ≤ 2 + x then 1 + bp (y :: r) else 1) + (x :: y :: r).getD ((if 1 + mm (y :: r) ≤ 2 + x then 1 + bp (y :: r) else 1) - 1) 0
    by_cases h : 1 + mm (y :: r) ≤ 2 + x
    · rw [if_pos h]
      refine ⟨by omega, ?_, ?_⟩
      · rw [List.length_cons]
        omega
      · have e : (x :: y :: r).getD (1 + bp (y :: r) - 1) 0 = (y :: r).getD (bp (y :: r) - 1) 0 := by
          rw [show 1 + bp (y :: r) - 1 = (bp (y :: r) - 1) + 1 by omega]
          rfl
        rw [e]
        omega
    · rw [if_neg h]
      refine ⟨Nat.le_refl _, by rw [List.length_cons]; omega, ?_⟩
      show min _ _ = 1 + 1 + x
      omega
theorem bp_last : ∀ (R : List Nat) (c : Nat), bp R ≤ c → c < R.length → mm R < 2 + c + R.getD c 0
  | [], c, _, h => by cases h
  | [x], c, h1, h2 => by
    have : c = 0 := by simp at h2; exact h2
    subst this
    exact absurd h1 (by unfold bp; omega)
  | x :: y :: r, 0, h1, h2 => by
    have := (bp_at (x :: y :: r) (by simp)).1
    omega
  | x :: y :: r, c + 1, h1, h2 => by
    have ih := bp_last (y :: r) c
    show min _ _ < 2 + (c + 1) + (y :: r).getD c 0
    unfold bp at h1
    split at h1
    · have := ih (by omega) (Nat.lt_of_succ_lt_succ h2)
      omega
    · have := mm_le (y :: r) c (Nat.lt_of_succ_lt_succ h2)
      omega
def nx (R : List Nat) (c0 : Nat) : Nat := if 0 < c0 ∧ 2 + R.getD (c0 - 1) 0 < mm R then 2 + R.getD (c0 - 1) 0 else mm R
def RP (E : List Nat) : List Nat → List Nat
  | [] => [0]
  | x :: X => nx (RP E X) (lcn E (x :: X)) :: RP E X
theorem RP_len (E : List Nat) : ∀ X, (RP E X).length = X.length + 1
  | [] => rfl
  | x :: X => by
    show (RP E X).length + 1 = _
    rw [RP_len E X]
    rfl
theorem RP_ne (E X : List Nat) : RP E X ≠ [] := fun h => by
  have := RP_len E X
  rw [h] at this
  cases this
theorem RP_drop (E : List Nat) : ∀ (X : List Nat) (k : Nat), k ≤ X.length → (RP E X).drop k = RP E (X.drop k)
  | X, 0, _ => rfl
  | [], k + 1, h => by cases h
  | x :: X, k + 1, h => by
    show (RP E X).drop k = RP E (X.drop k)
    exact RP_drop E X k (Nat.le_of_succ_le_succ h)
theorem RP_get (E X : List Nat) (k : Nat) (h : k ≤ X.length) : (RP E X).getD k 0 = (RP E (X.drop k)).getD 0 0 := by
  rw [← RP_drop E X k h, List.getD_eq_getElem?_getD, List.getD_eq_getElem?_getD, List.getElem?_drop]
  rfl
/-- prices never rise -/
theorem RP_mono (E : List Nat) : ∀ X : List Nat, (RP E X).Pairwise (· ≥ ·)
  | [] => List.pairwise_singleton ..
  | x :: X => by
    have ih := RP_mono E X
    refine List.pairwise_cons.mpr ⟨fun z hz => ?_, ih⟩
    have key : (RP E X).getD 0 0 ≤ nx (RP E X) (lcn E (x :: X)) := by
      cases X with
      | nil => exact Nat.zero_le _
      | cons y Y =>
        have ih2 := (List.pairwise_cons.mp ih).2
        have hy : (RP E (y :: Y)).getD 0 0 = nx (RP E Y) (lcn E (y :: Y)) := rfl
        have hyl : nx (RP E Y) (lcn E (y :: Y)) ≤ mm (RP E Y) := by unfold nx; split <;> omega
        have hput : ∀ c, c < (RP E (y :: Y)).length → (RP E (y :: Y)).getD 0 0 ≤ 2 + c + (RP E (y :: Y)).getD c 0 := fun c hc => by
          cases c with
          | zero => omega
          | succ c =>
            have h1 := mm_le (RP E Y) c (Nat.lt_of_succ_lt_succ hc)
            have e : (RP E (y :: Y)).getD (c + 1) 0 = (RP E Y).getD c 0 := rfl
            omega
        have hm : (RP E (y :: Y)).getD 0 0 ≤ mm (RP E (y :: Y)) := by
          obtain ⟨h1, h2, h3⟩ := bp_at _ (RP_ne E (y :: Y))
          have := hput (bp (RP E (y :: Y)) - 1) (by omega)
          omega
        have hc : 0 < lcn E (x :: y :: Y) → (RP E (y :: Y)).getD 0 0 ≤ 2 + (RP E (y :: Y)).getD (lcn E (x :: y :: Y) - 1) 0 := fun h0 => by
          have hs := lcn_slide E (y :: Y) x
          have hle := lcn_le E (x :: y :: Y)
          rw [List.length_cons, List.length_cons] at hle
          generalize lcn E (x :: y :: Y) = c0 at *
          have hgt : ∀ i j, i < j → j < (RP E (y :: Y)).length → (RP E (y :: Y)).getD j 0 ≤ (RP E (y :: Y)).getD i 0 := fun i j hij hj => by
            rw [List.getD_eq_getElem?_getD, List.getD_eq_getElem?_getD, List.getElem?_eq_getElem hj, List.getElem?_eq_getElem (show i < _ by omega)]
            exact List.pairwise_iff_getElem.mp ih i j (by omega) hj hij
          have hl := RP_len E (y :: Y)
          rw [List.length_cons] at hl
          rcases Nat.lt_or_ge 1 c0 with z | z
          · have hd : 0 < lcn E (y :: Y) := by omega
            have hdl := lcn_le E (y :: Y)
            rw [List.length_cons] at hdl
            have e1 : nx (RP E Y) (lcn E (y :: Y)) ≤ 2 + (RP E Y).getD (lcn E (y :: Y) - 1) 0 := by
              unfold nx
              split
              · omega
              · rename_i h
                have : ¬ 2 + (RP E Y).getD (lcn E (y :: Y) - 1) 0 < mm (RP E Y) := fun q => h ⟨hd, q⟩
                omega
            have e2 : (RP E Y).getD (lcn E (y :: Y) - 1) 0 = (RP E (y :: Y)).getD (lcn E (y :: Y)) 0 := by
              rw [show lcn E (y :: Y) = (lcn E (y :: Y) - 1) + 1 by omega]
              rfl
            have e3 : (RP E (y :: Y)).getD (lcn E (y :: Y)) 0 ≤ (RP E (y :: Y)).getD (c0 - 1) 0 := by
              rcases Nat.lt_or_ge (c0 - 1) (lcn E (y :: Y)) with q | q
              · exact hgt _ _ q (by omega)
              · rw [show c0 - 1 = lcn E (y :: Y) by omega]
                exact Nat.le_refl _
            omega
          · rw [show c0 - 1 = 0 by omega]
            omega
        unfold nx at hm hc ⊢
        split
        · rename_i h
          exact hc h.1
        · exact hm
    obtain ⟨i, hi, rfl⟩ := List.mem_iff_getElem.mp hz
    show (RP E X)[i] ≤ _
    have h0 : (RP E X)[i] ≤ (RP E X).getD 0 0 := by
      rcases Nat.eq_zero_or_pos i with q | q
      · subst q
        rw [List.getD_eq_getElem?_getD, List.getElem?_eq_getElem hi]
        exact Nat.le_refl _
      · rw [List.getD_eq_getElem?_getD, List.getElem?_eq_getElem (show 0 < _ by omega)]
        exact List.pairwise_iff_getElem.mp ih 0 i (by omega) hi q
    omega
theorem RP_anti (E X : List Nat) {i j : Nat} (h : i ≤ j) (hj : j ≤ X.length) : (RP E X).getD j 0 ≤ (RP E X).getD i 0 := by
  have hl := RP_len E X
  rcases Nat.lt_or_ge i j with z | z
  · rw [List.getD_eq_getElem?_getD, List.getD_eq_getElem?_getD, List.getElem?_eq_getElem (show j < _ by omega), List.getElem?_eq_getElem (show i < _ by omega)]
    exact List.pairwise_iff_getElem.mp (RP_mono E X) i j (by omega) (by omega) z
  · rw [show i = j by omega]
    exact Nat.le_refl _
/-! ### pieces -/
inductive Pc where
  | cp (a n : Nat)
  | pt (ws : List Nat)
def isCopy (R : List Nat) (c0 : Nat) : Prop := 0 < c0 ∧ 2 + R.getD (c0 - 1) 0 ≤ mm R
instance (R : List Nat) (c0 : Nat) : Decidable (isCopy R c0) := by unfold isCopy; infer_instance
/-- what stands first: the piece and its words -/
def fstP (E : List Nat) (R : List Nat) (X : List Nat) : Pc × Nat := if isCopy R (lcn E X) then (.cp (fat E X) (lcn E X), lcn E X) else (.pt (X.take (bp R)), bp R)
def PP (E : List Nat) : List Nat → List (List Pc)
  | [] => [[]]
  | x :: X => ((fstP E (RP E X) (x :: X)).1 :: (PP E X).getD ((fstP E (RP E X) (x :: X)).2 - 1) []) :: PP E X
def pcs (E X : List Nat) : List Pc := (PP E X).getD 0 []
theorem PP_len (E : List Nat) : ∀ X, (PP E X).length = X.length + 1
  | [] => rfl
  | x :: X => by
    show (PP E X).length + 1 = _
    rw [PP_len E X]
    rfl
theorem PP_get (E : List Nat) : ∀ (X : List Nat) (k : Nat), k ≤ X.length → (PP E X).getD k [] = pcs E (X.drop k)
  | X, 0, _ => rfl
  | [], k + 1, h => by cases h
  | x :: X, k + 1, h => by
    show (PP E X).getD k [] = pcs E (X.drop k)
    exact PP_get E X k (Nat.le_of_succ_le_succ h)
theorem fstP_le (E X : List Nat) (x : Nat) : 1 ≤ (fstP E (RP E X) (x :: X)).2 ∧ (fstP E (RP E X) (x :: X)).2 ≤ X.length + 1 := by
  unfold fstP
  split
  · rename_i h
    exact ⟨h.1, lcn_le E (x :: X)⟩
  · obtain ⟨h1, h2, _⟩ := bp_at _ (RP_ne E X)
    rw [RP_len] at h2
    exact ⟨h1, h2⟩
theorem pcs_cons (E X : List Nat) (x : Nat) : pcs E (x :: X) = (fstP E (RP E X) (x :: X)).1 :: pcs E ((x :: X).drop (fstP E (RP E X) (x :: X)).2) := by
  obtain ⟨h1, h2⟩ := fstP_le E X x
  show _ :: (PP E X).getD _ [] = _
  rw [PP_get E X _ (by omega)]
  congr 1
  rw [show (x :: X).drop (fstP E (RP E X) (x :: X)).2 = X.drop ((fstP E (RP E X) (x :: X)).2 - 1) from by
    conv => lhs; rw [show (fstP E (RP E X) (x :: X)).2 = ((fstP E (RP E X) (x :: X)).2 - 1) + 1 by omega]
    rfl]
theorem pcs_nil (E : List Nat) : pcs E [] = [] := rfl
/-- the price tells it -/
theorem nx_copy (R : List Nat) (c0 : Nat) : (0 < c0 ∧ nx R c0 = 2 + R.getD (c0 - 1) 0) ↔ isCopy R c0 := by
  unfold nx isCopy
  constructor
  · rintro ⟨h0, h⟩
    refine ⟨h0, ?_⟩
    split at h
    · rename_i h2
      omega
    · omega
  · rintro ⟨h0, h⟩
    refine ⟨h0, ?_⟩
    split
    · rfl
    · rename_i h2
      have : ¬ 2 + R.getD (c0 - 1) 0 < mm R := fun z => h2 ⟨h0, z⟩
      omega
theorem nx_put {R : List Nat} {c0 : Nat} (h : ¬ isCopy R c0) : nx R c0 = mm R := by
  unfold nx
  split
  · rename_i h2
    exact absurd ⟨h2.1, Nat.le_of_lt h2.2⟩ h
  · rfl
def Pc.cost : Pc → Nat
  | .cp _ _ => 2
  | .pt ws => 1 + ws.length
def putAt (el : List Nat) : Nat → List Pc → List Nat → Nat ⊕ List Nat
  | _, [], acc => .inr acc
  | k, .pt ws :: r, acc => putAt el (k + 1) r (acc ++ ws)
  | k, .cp a n :: r, acc => if a + n > el.length then .inl k else putAt el (k + 1) r (acc ++ (el.drop a).take n)
theorem fstP_put (E X : List Nat) (x k : Nat) (r : List Pc) (acc : List Nat) : putAt E k ((fstP E (RP E X) (x :: X)).1 :: r) acc = putAt E (k + 1) r (acc ++ (x :: X).take (fstP E (RP E X) (x :: X)).2) := by
  unfold fstP
  split
  · rename_i h
    show (if fat E (x :: X) + lcn E (x :: X) > E.length then _ else _) = _
    rw [if_neg (by have := fat_len E (x :: X); omega)]
    have h1 : ((E.drop (fat E (x :: X))).take (lcn E (x :: X))) = (x :: X).take (lcn E (x :: X)) := (lcp_iff _ _ _ (lcn_le E (x :: X))).mpr (by rw [fat_at]; exact Nat.le_refl _)
    rw [h1]
  · rfl
theorem put_pcs (E : List Nat) : ∀ (n : Nat) (X : List Nat), X.length ≤ n → ∀ (k : Nat) (acc : List Nat), putAt E k (pcs E X) acc = .inr (acc ++ X)
  | n, [], _, k, acc => by
    rw [pcs_nil, List.append_nil]
    rfl
  | 0, x :: X, h, _, _ => by cases h
  | n + 1, x :: X, h, k, acc => by
    obtain ⟨h1, h2⟩ := fstP_le E X x
    rw [List.length_cons] at h
    rw [pcs_cons, fstP_put, put_pcs E n _ (by rw [List.length_drop, List.length_cons]; omega), List.append_assoc, List.take_append_drop]
theorem cost_pcs (E : List Nat) : ∀ (n : Nat) (X : List Nat), X.length ≤ n → ((pcs E X).map Pc.cost).sum = (RP E X).getD 0 0
  | n, [], _ => rfl
  | 0, x :: X, h => by cases h
  | n + 1, x :: X, h => by
    obtain ⟨h1, h2⟩ := fstP_le E X x
    rw [List.length_cons] at h
    rw [pcs_cons, List.map_cons, List.sum_cons, cost_pcs E n _ (by rw [List.length_drop, List.length_cons]; omega), ← RP_get E (x :: X) _ (by rw [List.length_cons]; omega)]
    show _ = nx (RP E X) (lcn E (x :: X))
    have e : (RP E (x :: X)).getD (fstP E (RP E X) (x :: X)).2 0 = (RP E X).getD ((fstP E (RP E X) (x :: X)).2 - 1) 0 := by
      rw [show (fstP E (RP E X) (x :: X)).2 = ((fstP E (RP E X) (x :: X)).2 - 1) + 1 by omega]
      rfl
    rw [e]
    unfold fstP at h1 h2 ⊢
    by_cases hc : isCopy (RP E X) (lcn E (x :: X))
    · rw [if_pos hc]
      exact ((nx_copy _ _).mpr hc).2.symm
    · rw [if_neg hc] at h1 h2 ⊢
      rw [nx_put hc]
      obtain ⟨b1, b2, b3⟩ := bp_at _ (RP_ne E X)
      show 1 + ((x :: X).take (bp (RP E X))).length + (RP E X).getD (bp (RP E X) - 1) 0 = _
      rw [List.length_take, List.length_cons, Nat.min_eq_left (by rw [RP_len] at b2; exact b2), b3]
theorem pcs_len (E : List Nat) : ∀ (n : Nat) (X : List Nat), X.length ≤ n → (pcs E X).length ≤ X.length ∧ ∀ ws, Pc.pt ws ∈ pcs E X → ws.length ≤ X.length
  | n, [], _ => ⟨Nat.le_refl _, fun ws h => by cases h⟩
  | 0, x :: X, h => by cases h
  | n + 1, x :: X, h => by
    obtain ⟨h1, h2⟩ := fstP_le E X x
    rw [List.length_cons] at h
    obtain ⟨i1, i2⟩ := pcs_len E n ((x :: X).drop (fstP E (RP E X) (x :: X)).2) (by rw [List.length_drop, List.length_cons]; omega)
    rw [List.length_drop, List.length_cons] at i1
    rw [pcs_cons]
    refine ⟨by rw [List.length_cons, List.length_cons]; omega, fun ws hw => ?_⟩
    rcases List.mem_cons.mp hw with z | z
    · unfold fstP at z
      split at z
      · cases z
      · have := Pc.pt.inj z
        rw [this, List.length_take]
        omega
    · have := i2 ws z
      rw [List.length_drop] at this
      omega
/-! ### the law's choices -/
structure Ch where
  pc : Pc
  n : Nat
  c : Nat
def chC (R : List Nat) (ch : Ch) : Nat := ch.c + R.getD (ch.n - 1) 0
def cpsL (E X : List Nat) (c : Nat) : List Ch := ((List.range (E.length + 1 - c)).filter fun a => decide ((E.drop a).take c = X.take c)).map fun a => ⟨.cp a c, c, 2⟩
def cps (E X : List Nat) : List Ch := (List.range X.length).flatMap fun less => cpsL E X (X.length - less)
def ptL (X : List Nat) (c : Nat) : Ch := ⟨.pt (X.take c), c, 1 + c⟩
def pts (X : List Nat) : List Ch := (List.range X.length).map fun less => ptL X (X.length - less)
theorem head_flat {β : Type} {g : Nat → List β} {m k : Nat} {y : β} {ys : List β} (hk : k < m) (e : g k = y :: ys) (h : ∀ j, j < k → g j = []) : ∃ t, (List.range m).flatMap g = y :: t := by
  obtain ⟨d, rfl⟩ : ∃ d, m = k + (d + 1) := ⟨m - k - 1, by omega⟩
  rw [List.range_add, List.flatMap_append]
  have h0 : (List.range k).flatMap g = [] := List.flatMap_eq_nil_iff.mpr fun j hj => h j (List.mem_range.mp hj)
  rw [h0, List.nil_append, List.range_succ_eq_map, List.map_cons, List.flatMap_cons, Nat.add_zero, e]
  exact ⟨_, rfl⟩
theorem head_filt {p : Nat → Bool} {m k : Nat} (hk : k < m) (e : p k = true) (h : ∀ j, j < k → p j = false) : ∃ t, (List.range m).filter p = k :: t := by
  obtain ⟨d, rfl⟩ : ∃ d, m = k + (d + 1) := ⟨m - k - 1, by omega⟩
  rw [List.range_add, List.filter_append]
  have h0 : (List.range k).filter p = [] := List.filter_eq_nil_iff.mpr fun j hj => by rw [h j (List.mem_range.mp hj)]; decide
  rw [h0, List.nil_append, List.range_succ_eq_map, List.map_cons, Nat.add_zero, List.filter_cons_of_pos e]
  exact ⟨_, rfl⟩
theorem cpsL_mem {E X : List Nat} {c : Nat} {ch : Ch} (hc : c ≤ X.length) (h : ch ∈ cpsL E X c) : ch.n = c ∧ ch.c = 2 ∧ c ≤ lcn E X := by
  obtain ⟨a, ha, rfl⟩ := List.mem_map.mp h
  have := of_decide_eq_true (List.mem_filter.mp ha).2
  exact ⟨rfl, rfl, Nat.le_trans ((lcp_iff _ _ _ hc).mp this) (lcp_lcn E X a)⟩
theorem cps_nil {E X : List Nat} (h : lcn E X = 0) : cps E X = [] := by
  refine List.flatMap_eq_nil_iff.mpr fun j hj => ?_
  have hj := List.mem_range.mp hj
  rcases hl : cpsL E X (X.length - j) with _ | ⟨y, ys⟩
  · rfl
  · have := cpsL_mem (show X.length - j ≤ X.length by omega) (show y ∈ cpsL E X (X.length - j) by rw [hl]; exact List.mem_cons_self)
    omega
theorem cps_first (E X : List Nat) (x : Nat) (h : 0 < lcn E (x :: X)) : Fst (cps E (x :: X)) ⟨.cp (fat E (x :: X)) (lcn E (x :: X)), lcn E (x :: X), 2⟩ (chC (RP E X)) := by
  have hle := lcn_le E (x :: X)
  have hfl := fat_len E (x :: X)
  have hx : (x :: X).length - ((x :: X).length - lcn E (x :: X)) = lcn E (x :: X) := by omega
  obtain ⟨t1, e1⟩ := head_filt (p := fun a => decide ((E.drop a).take (lcn E (x :: X)) = (x :: X).take (lcn E (x :: X)))) (m := E.length + 1 - lcn E (x :: X)) (k := fat E (x :: X)) (by omega) (decide_eq_true ((lcp_iff _ _ _ hle).mpr (by rw [fat_at]; exact Nat.le_refl _))) fun j hj => decide_eq_false fun z => by
    have h1 := (lcp_iff _ _ _ hle).mp z
    have h2 := fat_first E (x :: X) j hj
    omega
  have e2 : cpsL E (x :: X) (lcn E (x :: X)) = ⟨.cp (fat E (x :: X)) (lcn E (x :: X)), lcn E (x :: X), 2⟩ :: t1.map fun a => ⟨.cp a (lcn E (x :: X)), lcn E (x :: X), 2⟩ := by
    unfold cpsL
    rw [e1, List.map_cons]
  obtain ⟨t, e3⟩ := head_flat (g := fun less => cpsL E (x :: X) ((x :: X).length - less)) (m := (x :: X).length) (k := (x :: X).length - lcn E (x :: X)) (by omega) (by rw [hx]; exact e2) fun j hj => by
    rcases hl : cpsL E (x :: X) ((x :: X).length - j) with _ | ⟨y, ys⟩
    · rfl
    · have := cpsL_mem (show (x :: X).length - j ≤ (x :: X).length by omega) (show y ∈ cpsL E (x :: X) ((x :: X).length - j) by rw [hl]; exact List.mem_cons_self)
      omega
  refine ⟨⟨[], t, e3, fun y hy => by cases hy⟩, fun y hy => ?_⟩
  obtain ⟨j, hj, hy⟩ := List.mem_flatMap.mp hy
  have hj := List.mem_range.mp hj
  obtain ⟨h1, h2, h3⟩ := cpsL_mem (show (x :: X).length - j ≤ (x :: X).length by omega) hy
  show 2 + (RP E X).getD (lcn E (x :: X) - 1) 0 ≤ y.c + (RP E X).getD (y.n - 1) 0
  rw [List.length_cons] at hle
  have := RP_anti E X (i := y.n - 1) (j := lcn E (x :: X) - 1) (by omega) (by omega)
  omega
theorem pts_first (E X : List Nat) (x : Nat) : Fst (pts (x :: X)) (ptL (x :: X) (bp (RP E X))) (chC (RP E X)) := by
  obtain ⟨b1, b2, b3⟩ := bp_at _ (RP_ne E X)
  have hl := RP_len E X
  have hcost : ∀ c, 1 ≤ c → chC (RP E X) (ptL (x :: X) c) = 2 + (c - 1) + (RP E X).getD (c - 1) 0 := fun c hc => by
    show 1 + c + (RP E X).getD (c - 1) 0 = _
    omega
  have hb : chC (RP E X) (ptL (x :: X) (bp (RP E X))) = mm (RP E X) := by rw [hcost _ b1]; omega
  obtain ⟨d, hd⟩ : ∃ d, (x :: X).length = ((x :: X).length - bp (RP E X)) + (d + 1) := ⟨bp (RP E X) - 1, by rw [List.length_cons]; omega⟩
  have hxl : (x :: X).length = X.length + 1 := rfl
  refine ⟨⟨(List.range ((x :: X).length - bp (RP E X))).map fun less => ptL (x :: X) ((x :: X).length - less), ((List.range d).map fun k => (x :: X).length - bp (RP E X) + (k + 1)).map fun less => ptL (x :: X) ((x :: X).length - less), ?_, fun y hy => ?_⟩, fun y hy => ?_⟩
  · unfold pts
    conv => lhs; rw [show List.range (x :: X).length = List.range (((x :: X).length - bp (RP E X)) + (d + 1)) from by rw [← hd], List.range_add, List.map_append, List.range_succ_eq_map, List.map_cons, List.map_cons, Nat.add_zero]
    congr 1
    rw [show (x :: X).length - ((x :: X).length - bp (RP E X)) = bp (RP E X) by omega, List.map_map, List.map_map, List.map_map]
    rfl
  · obtain ⟨j, hj, rfl⟩ := List.mem_map.mp hy
    have hj := List.mem_range.mp hj
    rw [hb, hcost _ (by omega)]
    exact bp_last _ _ (by omega) (by omega)
  · obtain ⟨j, hj, rfl⟩ := List.mem_map.mp hy
    have hj := List.mem_range.mp hj
    rw [hb, hcost _ (by omega)]
    exact mm_le _ _ (by omega)
abbrev stC (R : List Nat) := stepS (fun (_ : Ch) => true) (chC R)
/-- a first copy, if there is one -/
def cp0 (E X : List Nat) : Option Ch := if 0 < lcn E X then some ⟨.cp (fat E X) (lcn E X), lcn E X, 2⟩ else none
def best (E X : List Nat) (R : List Nat) : Ch := ⟨(fstP E R X).1, (fstP E R X).2, (fstP E R X).1.cost⟩
theorem best_puts (E X : List Nat) (x : Nat) : (pts (x :: X)).foldl (stC (RP E X)) (cp0 E (x :: X)) = some (best E (x :: X) (RP E X)) := by
  rw [fold_group (pts_first E X x) (fun _ _ _ => rfl)]
  obtain ⟨b1, b2, b3⟩ := bp_at _ (RP_ne E X)
  have hl := RP_len E X
  have hp : chC (RP E X) (ptL (x :: X) (bp (RP E X))) = mm (RP E X) := by
    show 1 + bp (RP E X) + (RP E X).getD (bp (RP E X) - 1) 0 = _
    omega
  have hw : (⟨Pc.pt ((x :: X).take (bp (RP E X))), bp (RP E X), (Pc.pt ((x :: X).take (bp (RP E X)))).cost⟩ : Ch) = ptL (x :: X) (bp (RP E X)) := by
    unfold ptL Pc.cost
    have : ((x :: X).take (bp (RP E X))).length = bp (RP E X) := by
      rw [List.length_take, List.length_cons]
      omega
    simp only [this]
  unfold stepS best fstP cp0
  by_cases hc : isCopy (RP E X) (lcn E (x :: X))
  · rw [if_pos hc.1, if_pos hc, if_neg]
    · rfl
    · rintro ⟨_, h⟩
      have h : chC (RP E X) (ptL (x :: X) (bp (RP E X))) < 2 + (RP E X).getD (lcn E (x :: X) - 1) 0 := h
      have := hc.2
      omega
  · rw [if_neg hc, if_pos]
    · rw [hw]
    · refine ⟨rfl, ?_⟩
      by_cases h0 : 0 < lcn E (x :: X)
      · rw [if_pos h0]
        show chC (RP E X) (ptL (x :: X) (bp (RP E X))) < 2 + (RP E X).getD (lcn E (x :: X) - 1) 0
        have : ¬ 2 + (RP E X).getD (lcn E (x :: X) - 1) 0 ≤ mm (RP E X) := fun z => hc ⟨h0, z⟩
        omega
      · rw [if_neg h0]
        exact trivial
theorem best_all (E X : List Nat) (x : Nat) : (cps E (x :: X) ++ pts (x :: X)).foldl (stC (RP E X)) none = some (best E (x :: X) (RP E X)) := by
  rw [List.foldl_append, ← best_puts]
  congr 1
  unfold cp0
  by_cases h0 : 0 < lcn E (x :: X)
  · rw [if_pos h0, fold_group (cps_first E X x h0) (fun _ _ _ => rfl)]
    unfold stepS
    rw [if_pos ⟨rfl, trivial⟩]
  · rw [if_neg h0, cps_nil (by omega)]
    rfl
theorem best_cost (E X : List Nat) (x : Nat) : chC (RP E X) (best E (x :: X) (RP E X)) = nx (RP E X) (lcn E (x :: X)) := by
  unfold best chC fstP
  by_cases hc : isCopy (RP E X) (lcn E (x :: X))
  · rw [if_pos hc]
    exact ((nx_copy _ _).mpr hc).2.symm
  · rw [if_neg hc, nx_put hc]
    obtain ⟨b1, b2, b3⟩ := bp_at _ (RP_ne E X)
    have hl := RP_len E X
    show 1 + ((x :: X).take (bp (RP E X))).length + (RP E X).getD (bp (RP E X) - 1) 0 = _
    rw [List.length_take, List.length_cons, Nat.min_eq_left (by omega), b3]
end DL

namespace R1
open PySem PySem.Spec PyProof.Rows L2 RK
local macro_rules | `(tactic| walk_at "sq") => `(tactic| first
  | exact SqL.of upd_same | exact upd_same | exact SqL.of (by assumption) | exact SqL.of (by rw [upd_ne (by assumption)]; assumption) | assumption)
local macro_rules | `(tactic| walk_at "sd") => `(tactic| first
  | assumption | omega | (refine Or.inl ⟨?_, ?_⟩ <;> omega) | (show _ ∧ _; constructor <;> omega) | (show _ ≠ _; simp; omega) | (exact Or.inl ⟨by decide, by decide⟩) | (exact Or.inr ⟨by decide, by decide⟩) | (show _ < _; decide) | (show _ ≤ _; decide))
local macro_rules | `(tactic| walk_at "at") => `(tactic| first | rfl | (refine atI_intV ?_ ?_ <;> omega) | assumption)
local macro_rules | `(tactic| walk_at "s1") => `(tactic| first
  | refine ⟨_, rfl, ?_⟩ | refine ⟨_, _, rfl, rfl, ?_⟩ | refine ⟨rfl, ?_⟩
  | refine ⟨_, _, _, _, rfl, rfl, by walk_at "sq", by walk_at "at", ?_⟩
  | refine Or.inl ⟨_, rfl, ?_⟩
  | refine ⟨_, _, rfl, Or.inl (by walk_at "sq"), ?_⟩
  | refine And.intro (by walk_at "sd") ?_)
local macro_rules | `(tactic| walk_at "s") => `(tactic| repeat walk_at "s1")

def topS (i : Nat) : Stmt := PySem.Challenge.pw_romwright_k59_difference_least.main.body.getD i (.Pass ⟨0, 0, 0, 0⟩)
abbrev s_text_to_find : Stmt := topS 2
abbrev N_text_to_find : List Str := ["words", "word"]
theorem sc_text_to_find : FnScope N_text_to_find ["words"] (defScope s_text_to_find) := ⟨rfl, rfl, rfl, by decide +kernel, rfl, by decide +kernel, by decide +kernel⟩
abbrev s_part_of_text : Stmt := topS 3
abbrev N_part_of_text : List Str := ["text", "place", "count"]
theorem sc_part_of_text : FnScope N_part_of_text ["text", "place", "count"] (defScope s_part_of_text) := ⟨rfl, rfl, rfl, by decide +kernel, rfl, by decide +kernel, by decide +kernel⟩
abbrev s_TooMany_init : Stmt := inClass (topS 6) 0
abbrev N_TooMany_init : List Str := ["self", "limit"]
theorem sc_TooMany_init : FnScope N_TooMany_init ["self", "limit"] (defScope s_TooMany_init) := ⟨rfl, rfl, rfl, by decide +kernel, rfl, by decide +kernel, by decide +kernel⟩
abbrev s_BadPiece_init : Stmt := inClass (topS 7) 0
abbrev N_BadPiece_init : List Str := ["self", "number"]
theorem sc_BadPiece_init : FnScope N_BadPiece_init ["self", "number"] (defScope s_BadPiece_init) := ⟨rfl, rfl, rfl, by decide +kernel, rfl, by decide +kernel, by decide +kernel⟩
abbrev s_difference : Stmt := topS 11
abbrev N_difference : List Str := ["elder", "newer", "copies", "prices", "pieces", "place", "at", "count"]
theorem sc_difference : FnScope N_difference ["elder", "newer"] (defScope s_difference) := ⟨rfl, rfl, rfl, by decide +kernel, rfl, by decide +kernel, by decide +kernel⟩
abbrev s_longest_copies : Stmt := topS 12
abbrev N_longest_copies : List Str := ["elder", "newer", "there", "wanted", "rows", "count", "place"]
theorem sc_longest_copies : FnScope N_longest_copies ["elder", "newer"] (defScope s_longest_copies) := ⟨rfl, rfl, rfl, by decide +kernel, rfl, by decide +kernel, by decide +kernel⟩
abbrev s_prices_from : Stmt := topS 13
abbrev N_prices_from : List Str := ["copies", "prices", "least", "place", "price_here", "count"]
theorem sc_prices_from : FnScope N_prices_from ["copies"] (defScope s_prices_from) := ⟨rfl, rfl, rfl, by decide +kernel, rfl, by decide +kernel, by decide +kernel⟩
abbrev s_longest_put : Stmt := topS 14
abbrev N_longest_put : List Str := ["prices", "place", "count"]
theorem sc_longest_put : FnScope N_longest_put ["prices", "place"] (defScope s_longest_put) := ⟨rfl, rfl, rfl, by decide +kernel, rfl, by decide +kernel, by decide +kernel⟩
abbrev s_least_prices : Stmt := topS 15
abbrev N_least_prices : List Str := ["elder", "newer"]
theorem sc_least_prices : FnScope N_least_prices ["elder", "newer"] (defScope s_least_prices) := ⟨rfl, rfl, rfl, by decide +kernel, rfl, by decide +kernel, by decide +kernel⟩
abbrev s_price : Stmt := topS 16
abbrev N_price : List Str := ["pieces", "piece"]
theorem sc_price : FnScope N_price ["pieces"] (defScope s_price) := ⟨rfl, rfl, rfl, by decide +kernel, rfl, by decide +kernel, by decide +kernel⟩
abbrev s_put_on : Stmt := topS 17
abbrev N_put_on : List Str := ["elder", "pieces", "words", "number", "piece", "at", "count"]
theorem sc_put_on : FnScope N_put_on ["elder", "pieces"] (defScope s_put_on) := ⟨rfl, rfl, rfl, by decide +kernel, rfl, by decide +kernel, by decide +kernel⟩
abbrev s_law_source : Stmt := topS 19
abbrev N_law_source : List Str := ["_law_script", "_law_cell", "_law_cells", "_law_mixed"]
theorem sc_law_source : FnScope N_law_source ["_law_script"] (defScope s_law_source) := ⟨rfl, rfl, rfl, by decide +kernel, rfl, by decide +kernel, by decide +kernel⟩
abbrev s_law_draw : Stmt := topS 20
abbrev N_law_draw : List Str := ["_law_source_here", "_law_below", "_law_cells", "_law_place", "_law_digits", "_law_count", "_law_seed", "_law_number"]
theorem sc_law_draw : FnScope N_law_draw ["_law_source_here", "_law_below"] (defScope s_law_draw) := ⟨rfl, rfl, rfl, by decide +kernel, rfl, by decide +kernel, by decide +kernel⟩
abbrev s_law_word : Stmt := topS 21
abbrev N_law_word : List Str := ["_law_source_here", "_law_way"]
theorem sc_law_word : FnScope N_law_word ["_law_source_here"] (defScope s_law_word) := ⟨rfl, rfl, rfl, by decide +kernel, rfl, by decide +kernel, by decide +kernel⟩
abbrev s_law_plain : Stmt := topS 22
abbrev N_law_plain : List Str := ["_law_thing", "_law_one"]
theorem sc_law_plain : FnScope N_law_plain ["_law_thing"] (defScope s_law_plain) := ⟨rfl, rfl, rfl, by decide +kernel, rfl, by decide +kernel, by decide +kernel⟩
abbrev s_law_pool : Stmt := topS 23
abbrev N_law_pool : List Str := ["_law_source_here", "_law_count", "_law_step", "_law_pool_here"]
theorem sc_law_pool : FnScope N_law_pool ["_law_source_here", "_law_count"] (defScope s_law_pool) := ⟨rfl, rfl, rfl, by decide +kernel, rfl, by decide +kernel, by decide +kernel⟩
abbrev s_law_newer : Stmt := topS 24
abbrev N_law_newer : List Str := ["_law_source_here", "_law_pool_here", "_law_elder", "_law_newer_here", "_law_step", "_law_at", "_law_more"]
theorem sc_law_newer : FnScope N_law_newer ["_law_source_here", "_law_pool_here", "_law_elder"] (defScope s_law_newer) := ⟨rfl, rfl, rfl, by decide +kernel, rfl, by decide +kernel, by decide +kernel⟩
abbrev s_law_choices : Stmt := topS 25
abbrev N_law_choices : List Str := ["_law_elder", "_law_newer_here", "_law_place", "_law_found", "_law_left", "_law_less", "_law_count", "_law_at"]
theorem sc_law_choices : FnScope N_law_choices ["_law_elder", "_law_newer_here", "_law_place"] (defScope s_law_choices) := ⟨rfl, rfl, rfl, by decide +kernel, rfl, by decide +kernel, by decide +kernel⟩
abbrev s_law_table : Stmt := topS 26
abbrev N_law_table : List Str := ["_law_elder", "_law_newer_here", "_law_prices", "_law_rows", "_law_step", "_law_place", "_law_least", "_law_row", "_law_piece", "_law_count", "_law_cost"]
theorem sc_law_table : FnScope N_law_table ["_law_elder", "_law_newer_here"] (defScope s_law_table) := ⟨rfl, rfl, rfl, by decide +kernel, rfl, by decide +kernel, by decide +kernel⟩
abbrev s_law_quick : Stmt := topS 27
abbrev N_law_quick : List Str := ["_law_elder", "_law_newer_here", "_law_spots", "_law_at", "_law_prices", "_law_rows", "_law_ahead", "_law_step", "_law_place", "_law_row", "_law_longest", "_law_first", "_law_least", "_law_pieces", "_law_less", "_law_count"]
theorem sc_law_quick : FnScope N_law_quick ["_law_elder", "_law_newer_here"] (defScope s_law_quick) := ⟨rfl, rfl, rfl, by decide +kernel, rfl, by decide +kernel, by decide +kernel⟩
abbrev s_law_longer : Stmt := topS 28
abbrev N_law_longer : List Str := ["_law_source_here", "_law_elder", "_law_newer_here", "_law_step", "_law_at", "_law_more"]
theorem sc_law_longer : FnScope N_law_longer ["_law_source_here", "_law_elder"] (defScope s_law_longer) := ⟨rfl, rfl, rfl, by decide +kernel, rfl, by decide +kernel, by decide +kernel⟩
abbrev s_law_right : Stmt := topS 29
abbrev N_law_right : List Str := ["_law_elder", "_law_newer_here", "_law_table_here", "_law_prices", "_law_due", "_law_told"]
theorem sc_law_right : FnScope N_law_right ["_law_elder", "_law_newer_here", "_law_table_here"] (defScope s_law_right) := ⟨rfl, rfl, rfl, by decide +kernel, rfl, by decide +kernel, by decide +kernel⟩
abbrev s_law_refused : Stmt := topS 30
abbrev N_law_refused : List Str := ["_law_elder", "_law_newer_here", "e"]
theorem sc_law_refused : FnScope N_law_refused ["_law_elder", "_law_newer_here"] (defScope s_law_refused) := ⟨rfl, rfl, rfl, by decide +kernel, rfl, by decide +kernel, by decide +kernel⟩
abbrev s_law : Stmt := topS 31
abbrev N_law : List Str := ["_law_script", "_law_source_here", "_law_large", "_law_pool_here", "_law_step", "_law_elder", "_law_newer_here", "_law_first", "_law_second", "_law_k", "_law_words", "_law_tail", "_law_long"]
theorem sc_law : FnScope N_law ["_law_script"] (defScope s_law) := ⟨rfl, rfl, rfl, by decide +kernel, rfl, by decide +kernel, by decide +kernel⟩
/-- where things stand -/
structure Ads where
  a_text_to_find : Addr
  d_text_to_find : FuncData
  a_part_of_text : Addr
  d_part_of_text : FuncData
  a_difference : Addr
  d_difference : FuncData
  a_longest_copies : Addr
  d_longest_copies : FuncData
  a_prices_from : Addr
  d_prices_from : FuncData
  a_longest_put : Addr
  d_longest_put : FuncData
  a_least_prices : Addr
  d_least_prices : FuncData
  a_price : Addr
  d_price : FuncData
  a_put_on : Addr
  d_put_on : FuncData
  a_law_source : Addr
  d_law_source : FuncData
  a_law_draw : Addr
  d_law_draw : FuncData
  a_law_word : Addr
  d_law_word : FuncData
  a_law_plain : Addr
  d_law_plain : FuncData
  a_law_pool : Addr
  d_law_pool : FuncData
  a_law_newer : Addr
  d_law_newer : FuncData
  a_law_choices : Addr
  d_law_choices : FuncData
  a_law_table : Addr
  d_law_table : FuncData
  a_law_quick : Addr
  d_law_quick : FuncData
  a_law_longer : Addr
  d_law_longer : FuncData
  a_law_right : Addr
  d_law_right : FuncData
  a_law_refused : Addr
  d_law_refused : FuncData
  a_law : Addr
  d_law : FuncData
  c_TooMany : Addr
  a_TooMany_init : Addr
  d_TooMany_init : FuncData
  c_BadPiece : Addr
  a_BadPiece_init : Addr
  d_BadPiece_init : FuncData
  c_RomError : Addr
  t_WIDTH : Tok
  t_MOST_WORDS : Tok
  t_MOST_COUNT : Tok
structure Txt (K : PySem.W.Frag) (mg : Str → Option Value) (A : Ads) : Prop where
  F_text_to_find : Fun K "text_to_find" "text_to_find" s_text_to_find A.a_text_to_find A.d_text_to_find
  g_text_to_find : mg "text_to_find" = some (.ref A.a_text_to_find)
  b_text_to_find : Binds K A.d_text_to_find ["words"] []
  F_part_of_text : Fun K "part_of_text" "part_of_text" s_part_of_text A.a_part_of_text A.d_part_of_text
  g_part_of_text : mg "part_of_text" = some (.ref A.a_part_of_text)
  b_part_of_text : Binds K A.d_part_of_text ["text", "place", "count"] []
  F_difference : Fun K "difference" "difference" s_difference A.a_difference A.d_difference
  g_difference : mg "difference" = some (.ref A.a_difference)
  b_difference : Binds K A.d_difference ["elder", "newer"] []
  F_longest_copies : Fun K "longest_copies" "longest_copies" s_longest_copies A.a_longest_copies A.d_longest_copies
  g_longest_copies : mg "longest_copies" = some (.ref A.a_longest_copies)
  b_longest_copies : Binds K A.d_longest_copies ["elder", "newer"] []
  F_prices_from : Fun K "prices_from" "prices_from" s_prices_from A.a_prices_from A.d_prices_from
  g_prices_from : mg "prices_from" = some (.ref A.a_prices_from)
  b_prices_from : Binds K A.d_prices_from ["copies"] []
  F_longest_put : Fun K "longest_put" "longest_put" s_longest_put A.a_longest_put A.d_longest_put
  g_longest_put : mg "longest_put" = some (.ref A.a_longest_put)
  b_longest_put : Binds K A.d_longest_put ["prices", "place"] []
  F_least_prices : Fun K "least_prices" "least_prices" s_least_prices A.a_least_prices A.d_least_prices
  g_least_prices : mg "least_prices" = some (.ref A.a_least_prices)
  b_least_prices : Binds K A.d_least_prices ["elder", "newer"] []
  F_price : Fun K "price" "price" s_price A.a_price A.d_price
  g_price : mg "price" = some (.ref A.a_price)
  b_price : Binds K A.d_price ["pieces"] []
  F_put_on : Fun K "put_on" "put_on" s_put_on A.a_put_on A.d_put_on
  g_put_on : mg "put_on" = some (.ref A.a_put_on)
  b_put_on : Binds K A.d_put_on ["elder", "pieces"] []
  F_law_source : Fun K "_law_source" "_law_source" s_law_source A.a_law_source A.d_law_source
  g_law_source : mg "_law_source" = some (.ref A.a_law_source)
  b_law_source : Binds K A.d_law_source ["_law_script"] []
  F_law_draw : Fun K "_law_draw" "_law_draw" s_law_draw A.a_law_draw A.d_law_draw
  g_law_draw : mg "_law_draw" = some (.ref A.a_law_draw)
  b_law_draw : Binds K A.d_law_draw ["_law_source_here", "_law_below"] []
  F_law_word : Fun K "_law_word" "_law_word" s_law_word A.a_law_word A.d_law_word
  g_law_word : mg "_law_word" = some (.ref A.a_law_word)
  b_law_word : Binds K A.d_law_word ["_law_source_here"] []
  F_law_plain : Fun K "_law_plain" "_law_plain" s_law_plain A.a_law_plain A.d_law_plain
  g_law_plain : mg "_law_plain" = some (.ref A.a_law_plain)
  b_law_plain : Binds K A.d_law_plain ["_law_thing"] []
  F_law_pool : Fun K "_law_pool" "_law_pool" s_law_pool A.a_law_pool A.d_law_pool
  g_law_pool : mg "_law_pool" = some (.ref A.a_law_pool)
  b_law_pool : Binds K A.d_law_pool ["_law_source_here", "_law_count"] []
  F_law_newer : Fun K "_law_newer" "_law_newer" s_law_newer A.a_law_newer A.d_law_newer
  g_law_newer : mg "_law_newer" = some (.ref A.a_law_newer)
  b_law_newer : Binds K A.d_law_newer ["_law_source_here", "_law_pool_here", "_law_elder"] []
  F_law_choices : Fun K "_law_choices" "_law_choices" s_law_choices A.a_law_choices A.d_law_choices
  g_law_choices : mg "_law_choices" = some (.ref A.a_law_choices)
  b_law_choices : Binds K A.d_law_choices ["_law_elder", "_law_newer_here", "_law_place"] []
  F_law_table : Fun K "_law_table" "_law_table" s_law_table A.a_law_table A.d_law_table
  g_law_table : mg "_law_table" = some (.ref A.a_law_table)
  b_law_table : Binds K A.d_law_table ["_law_elder", "_law_newer_here"] []
  F_law_quick : Fun K "_law_quick" "_law_quick" s_law_quick A.a_law_quick A.d_law_quick
  g_law_quick : mg "_law_quick" = some (.ref A.a_law_quick)
  b_law_quick : Binds K A.d_law_quick ["_law_elder", "_law_newer_here"] []
  F_law_longer : Fun K "_law_longer" "_law_longer" s_law_longer A.a_law_longer A.d_law_longer
  g_law_longer : mg "_law_longer" = some (.ref A.a_law_longer)
  b_law_longer : Binds K A.d_law_longer ["_law_source_here", "_law_elder"] []
  F_law_right : Fun K "_law_right" "_law_right" s_law_right A.a_law_right A.d_law_right
  g_law_right : mg "_law_right" = some (.ref A.a_law_right)
  b_law_right : Binds K A.d_law_right ["_law_elder", "_law_newer_here", "_law_table_here"] []
  F_law_refused : Fun K "_law_refused" "_law_refused" s_law_refused A.a_law_refused A.d_law_refused
  g_law_refused : mg "_law_refused" = some (.ref A.a_law_refused)
  b_law_refused : Binds K A.d_law_refused ["_law_elder", "_law_newer_here"] []
  F_law : Fun K "law" "law" s_law A.a_law A.d_law
  g_law : mg "law" = some (.ref A.a_law)
  b_law : Binds K A.d_law ["_law_script"] []
  F_TooMany_init : Fun K "__init__" "TooMany.__init__" s_TooMany_init A.a_TooMany_init A.d_TooMany_init
  x_TooMany : ErrC K mg "TooMany" "limit" A.c_TooMany A.a_TooMany_init A.d_TooMany_init
  F_BadPiece_init : Fun K "__init__" "BadPiece.__init__" s_BadPiece_init A.a_BadPiece_init A.d_BadPiece_init
  x_BadPiece : ErrC K mg "BadPiece" "number" A.c_BadPiece A.a_BadPiece_init A.d_BadPiece_init
  g_TooMany : mg "TooMany" = some (.ref A.c_TooMany)
  g_BadPiece : mg "BadPiece" = some (.ref A.c_BadPiece)
  g_RomError : mg "RomError" = some (.ref A.c_RomError)
  g_WIDTH : mg "WIDTH" = some (.int 5 A.t_WIDTH)
  g_MOST_WORDS : mg "MOST_WORDS" = some (.int 2048 A.t_MOST_WORDS)
  g_MOST_COUNT : mg "MOST_COUNT" = some (.int 32767 A.t_MOST_COUNT)
  k_TooMany_RomError : PySem.W.kitOne K (.ref A.c_TooMany) (.ref A.c_RomError) = some true
  k_TooMany_ValueError : PySem.W.kitOne K (.ref A.c_TooMany) (.type "ValueError") = some true
  n_ValueError : mg "ValueError" = none
  n_abs : mg "abs" = none
  n_bool : mg "bool" = none
  n_enumerate : mg "enumerate" = none
  n_int : mg "int" = none
  n_isinstance : mg "isinstance" = none
  n_len : mg "len" = none
  n_list : mg "list" = none
  n_max : mg "max" = none
  n_range : mg "range" = none
  n_sum : mg "sum" = none
  n_tuple : mg "tuple" = none
theorem ok_TooMany_init {P : Program} {w : World} {K : PySem.W.Frag} {mg : Str → Option Value} {base : Heap} {A : Ads} (T : Txt K mg A) : FnOk P w K mg base CX0 1 A.a_TooMany_init A.d_TooMany_init ["self", "limit"] (spKeep "limit" A.c_TooMany) := by
  refine T.F_TooMany_init.ok sc_TooMany_init (fun vs H Q E h => ?_) (fun cdv B outer s H vs Q E hr h => ?_)
  · obtain ⟨a, v, rfl, _⟩ := h
    rfl
  · obtain ⟨a, v, rfl, e, q⟩ := h
    refine ⟨_, pss_one (ps_ost (pv 0) (pv 1)), ?_⟩
    exact ⟨_, rfl, _, rfl, a, A.c_TooMany, rfl, T.x_TooMany.ox, T.x_TooMany.no, .inl ⟨e, q⟩⟩
theorem ok_BadPiece_init {P : Program} {w : World} {K : PySem.W.Frag} {mg : Str → Option Value} {base : Heap} {A : Ads} (T : Txt K mg A) : FnOk P w K mg base CX0 1 A.a_BadPiece_init A.d_BadPiece_init ["self", "number"] (spKeep "number" A.c_BadPiece) := by
  refine T.F_BadPiece_init.ok sc_BadPiece_init (fun vs H Q E h => ?_) (fun cdv B outer s H vs Q E hr h => ?_)
  · obtain ⟨a, v, rfl, _⟩ := h
    rfl
  · obtain ⟨a, v, rfl, e, q⟩ := h
    refine ⟨_, pss_one (ps_ost (pv 0) (pv 1)), ?_⟩
    exact ⟨_, rfl, _, rfl, a, A.c_BadPiece, rfl, T.x_BadPiece.ox, T.x_BadPiece.no, .inl ⟨e, q⟩⟩

/-! ### the law's source of draws -/
def Src (c : Addr) (H : Hp) (p : Addr) : Prop := ∃ (cs : List Int) (pl dg ct mx : Int), H p = some (.lst [.ref c, .int pl, .int dg, .int ct, .int mx]) ∧ H c = some (.lst (cs.map V.int)) ∧ 0 < cs.length ∧ 0 ≤ pl
theorem src_ne {H : Hp} {c p : Addr} (h : Src c H p) : H p ≠ none := by
  obtain ⟨cs, pl, dg, ct, mx, e, _⟩ := h
  rw [e]
  exact fun z => nomatch z
theorem src_cne {H : Hp} {c p : Addr} (h : Src c H p) : H c ≠ none := by
  obtain ⟨cs, pl, dg, ct, mx, _, e, _⟩ := h
  rw [e]
  exact fun z => nomatch z
theorem src_up {H H' : Hp} {c p : Addr} (h : Src c H p) (e : Same H H') : Src c H' p := by
  obtain ⟨cs, pl, dg, ct, mx, h1, h2, h3⟩ := h
  exact ⟨cs, pl, dg, ct, mx, e _ _ h1, e _ _ h2, h3⟩
/-- what is neither of its two lists may change -/
theorem src_put {H : Hp} {c p D : Addr} {o : HO} (h : Src c H p) (hp : D ≠ p) (hc : D ≠ c) : Src c (upd H D o) p := by
  obtain ⟨cs, pl, dg, ct, mx, h1, h2, h3⟩ := h
  exact ⟨cs, pl, dg, ct, mx, by rw [upd_ne (Ne.symm hp)]; exact h1, by rw [upd_ne (Ne.symm hc)]; exact h2, h3⟩
/-- a list of numbers is not the source -/
theorem src_ints {H : Hp} {c p D : Addr} {l : List Nat} (h : Src c H p) (e : H D = some (.lst (intV l))) : D ≠ p := fun z => by
  obtain ⟨cs, pl, dg, ct, mx, h1, _⟩ := h
  subst z
  rw [e] at h1
  have := HO.lst.inj (Option.some.inj h1)
  cases l with
  | nil => cases this
  | cons a r =>
    have := (List.cons.inj this).1
    cases this
def spDraw : Sp := fun vs H Q _ => ∃ (c p : Addr) (b : Int), vs = [.ref p, .int b] ∧ Src c H p ∧ 0 < b ∧ b < 1000000 ∧ ∀ H' (r : Nat), (r : Int) < b → Src c H' p → But p H H' → Q (.int (r : Int)) H'
def spSource (K : PySem.W.Frag) : Sp := fun vs H Q _ => ∃ (a : Addr) (ns : List Int), vs = [.ref a] ∧ SqL K H a (ns.map V.int) ∧ ns.length ≤ 63 ∧ ∀ H' c p, Same H H' → H c = none → H p = none → Src c H' p → Q (.ref p) H'
theorem get_int {cs : List Int} {i : Int} (h0 : 0 ≤ i) (h1 : i < cs.length) : ∃ z, atI (cs.map V.int) i = some (.int z) := by
  obtain ⟨j, rfl⟩ : ∃ j : Nat, i = (j : Int) := ⟨i.toNat, by omega⟩
  have hj : j < cs.length := by omega
  exact ⟨cs[j], atI_nat (by rw [List.getElem?_map, List.getElem?_eq_getElem hj]; rfl)⟩
/-! plain: a value with what tells its kind -/
mutual
def plD : PyData → PyData
  | .list xs => .tuple [.bool true, .list (plA xs)]
  | .tuple xs => .tuple [.bool false, .list (plA xs)]
  | .bool b => .tuple [.bool true, .bool b]
  | .none => .tuple [.bool false, .none]
  | .int i => .tuple [.bool false, .int i]
  | .str x => .tuple [.bool false, .str x]
  | .dict kvs => .tuple [.bool false, .dict kvs]
def plA : List PyData → List PyData
  | [] => []
  | x :: r => plD x :: plA r
end
theorem plA_map : ∀ xs : List PyData, plA xs = xs.map plD
  | [] => rfl
  | x :: r => by
    show plD x :: plA r = plD x :: r.map plD
    rw [plA_map r]
mutual
theorem plD_depth : ∀ d : PyData, (plD d).depth ≤ 2 * d.depth + 1
  | .list xs => by
    have h := plA_depth xs
    show max 0 (max (PyData.depthAll (plA xs) + 1) 0) + 1 ≤ 2 * (PyData.depthAll xs + 1) + 1
    omega
  | .tuple xs => by
    have h := plA_depth xs
    show max 0 (max (PyData.depthAll (plA xs) + 1) 0) + 1 ≤ 2 * (PyData.depthAll xs + 1) + 1
    omega
  | .bool b => by show 1 ≤ 1; omega
  | .none => by show 1 ≤ 1; omega
  | .int i => by show 1 ≤ 1; omega
  | .str x => by show 1 ≤ 1; omega
  | .dict kvs => by
    show max 0 (max (PyData.depthKv kvs + 1) 0) + 1 ≤ 2 * (PyData.depthKv kvs + 1) + 1
    omega
theorem plA_depth : ∀ ds : List PyData, (PyData.depthAll (plA ds)) ≤ 2 * (PyData.depthAll ds) + 1
  | [] => Nat.zero_le _
  | x :: r => by
    have h1 := plD_depth x
    have h2 := plA_depth r
    show max (plD x).depth (PyData.depthAll (plA r)) ≤ 2 * (max x.depth (PyData.depthAll r)) + 1
    omega
end
mutual
theorem plD_lay : ∀ d : PyData, d.canLay0 = true → (plD d).canLay0 = true
  | .list xs, h => by
    show (true && (PyData.canLayAll0 (plA xs) && true)) = true
    rw [plA_lay xs h]
    rfl
  | .tuple xs, h => by
    show (true && (PyData.canLayAll0 (plA xs) && true)) = true
    rw [plA_lay xs h]
    rfl
  | .bool b, h => rfl
  | .none, h => rfl
  | .int i, h => rfl
  | .str x, h => by
    show (true && ((PyData.str x).canLay0 && true)) = true
    rw [h]
    rfl
  | .dict kvs, h => by cases h
theorem plA_lay : ∀ ds : List PyData, PyData.canLayAll0 ds = true → PyData.canLayAll0 (plA ds) = true
  | [], _ => rfl
  | x :: r, h => by
    have h' := Bool.and_eq_true_iff.mp h
    show ((plD x).canLay0 && PyData.canLayAll0 (plA r)) = true
    rw [plD_lay x h'.1, plA_lay r h'.2]
    rfl
end
theorem plD_shaped {d : PyData} (h : d.canLay0 = true) (hd : d.depth ≤ 20) : SeqAt.shaped (plD d) = true := by
  have h2 := plD_depth d
  unfold SeqAt.shaped
  rw [plD_lay d h, Bool.true_and]
  exact decide_eq_true (by omega)
def spPlain (K : PySem.W.Frag) : Nat → Sp
  | 0 => fun _ _ _ _ => False
  | n + 1 => fun vs H Q _ => ∃ (v : V) (d : PyData) (S : ASet), vs = [v] ∧ (∀ a, S a → H a ≠ none) ∧ Dx K H S v d ∧ d.depth ≤ n ∧ wdB d = true ∧ ∀ H' v', Same H H' → Dx K H' S v' (plD d) → Q v' H'

section
variable {P : Program} {w : World} {K : PySem.W.Frag} {mg : Str → Option Value} {base : Heap} {A : Ads}
theorem ok_law_draw (T : Txt K mg A) : FnOk P w K mg base CX0 1 A.a_law_draw A.d_law_draw ["_law_source_here", "_law_below"] spDraw := by
  refine T.F_law_draw.ok sc_law_draw (fun vs H Q E h => ?_) (fun cdv B outer s H vs Q E hr h => ?_)
  · obtain ⟨c, p, b, rfl, _⟩ := h
    rfl
  · obtain ⟨c, p, b, rfl, ⟨cs, pl, dg, ct, mx, hp, hc, hn, hpl⟩, hb, hb2, q⟩ := h
    refine ⟨_, (pss_cons (ps_set (i := 2) sc_law_draw.nd rfl (.inl rfl) (pe_ix ix_list (pv 0) pe_int (fun _ _ => rfl)))
    (pss_cons (ps_set (i := 3) sc_law_draw.nd rfl (.inl rfl) (pe_ix ix_list (pv 0) pe_int (fun _ _ => rfl)))
    (pss_cons (ps_set (i := 4) sc_law_draw.nd rfl (.inl rfl) (pe_ix ix_list (pv 0) pe_int (fun _ _ => rfl)))
    (pss_cons (ps_set (i := 5) sc_law_draw.nd rfl (.inl rfl) (pe_ix ix_list (pv 0) pe_int (fun _ _ => rfl)))
    (pss_cons (ps_asg (pe_op op_add (pv 5) pe_int) (pg_sub (pv 0) pe_int set_list))
    (pss_cons (ps_if (PW.pt (pw_and (pt_cmpR op_eq (pe_ix ix_list (pv 0) pe_int (fun _ _ => rfl)) pe_int (nomark _)) (pw_and1 (pt_cmpR op_lt (pv 3) (pe_callB len_seq (by rfl) T.n_len (by decide +kernel) (pa_cons (pv 2) pa_nil)) (nomark _))))) (pss_cons (ps_asg (pe_op op_fdivN (pv 4) (pv 1)) (pg_sub (pv 0) pe_int set_list))
    (pss_cons (ps_if (pt_cmpR op_eq (pe_ix ix_list (pv 0) pe_int (fun _ _ => rfl)) pe_int (nomark _)) (pss_cons (ps_asg (pe_op op_add (pv 3) pe_int) (pg_sub (pv 0) pe_int set_list))
    (pss_one (ps_if (pt_cmpR op_lt (pe_op op_add (pv 3) pe_int) (pe_callB len_seq (by rfl) T.n_len (by decide +kernel) (pa_cons (pv 2) pa_nil)) (nomark _)) (pss_one (ps_asg (pe_ix ix_list (pv 2) (pe_op op_add (pv 3) pe_int) (fun _ _ => rfl)) (pg_sub (pv 0) pe_int set_list))) pss_nil))) pss_nil)
    (pss_one (ps_ret (pe_op op_modN (pe_callTy call_int1 (by rfl) T.n_int (by decide +kernel) (pa_cons (pv 4) pa_nil)) (pv 1)))))) pss_nil)
    (pss_cons (ps_set (i := 6) sc_law_draw.nd rfl (.inl rfl) (pe_op op_add (pe_op op_add (pe_ix ix_list (pv 2) (pe_op op_modN (pe_callTy call_int1 (by rfl) T.n_int (by decide +kernel) (pa_cons (pv 5) pa_nil)) (pe_callB len_seq (by rfl) T.n_len (by decide +kernel) (pa_cons (pv 2) pa_nil))) (fun _ _ => rfl)) (pe_op op_mul pe_int (pv 5))) pe_int))
    (pss_cons (ps_set (i := 7) sc_law_draw.nd rfl (.inl rfl) (pe_op op_mod (pe_callTy call_int1 (by rfl) T.n_int (by decide +kernel) (pa_cons (pe_op op_add (pe_op op_mul (pv 6) pe_int) (pe_op op_mul (pe_op op_add (pv 5) pe_int) pe_int)) pa_nil)) pe_int))
    (pss_cons (ps_set (i := 7) sc_law_draw.nd rfl (.inl rfl) (pe_op op_mod (pe_callTy call_int1 (by rfl) T.n_int (by decide +kernel) (pa_cons (pe_op op_add (pe_op op_mul (pv 7) (pe_op op_add (pe_op op_add (pe_op op_mod (pe_callTy call_int1 (by rfl) T.n_int (by decide +kernel) (pa_cons (pv 7) pa_nil)) pe_int) (pv 5)) pe_int)) (pv 6)) pa_nil)) pe_int))
    (pss_one (ps_ret (pe_op op_modN (pe_callTy call_int1 (by rfl) T.n_int (by decide +kernel) (pa_cons (pe_op op_fdiv (pv 7) pe_int) pa_nil)) (pv 1))))))))))))), ?_⟩
    have nc : c ≠ p := ne_of hc hp (by intro z; have := HO.lst.inj z; cases cs with | nil => cases hn | cons a r => cases this)
    have hmod : ∀ i : Int, 0 ≤ i.fmod b ∧ i.fmod b < b := fun i => ⟨Int.fmod_nonneg_of_pos _ hb, Int.fmod_lt_of_pos _ hb⟩
    have cat : ∀ {H1}, But p H H1 → H1 c = some (.lst (cs.map V.int)) := fun h => h c _ nc hc
    have fin : ∀ {H1} {x1 x2 x3 x4 : Int} (i : Int), But p H H1 → 0 ≤ x1 → H1 p = some (.lst [.ref c, .int x1, .int x2, .int x3, .int x4]) → Q (.int (i.fmod b)) H1 := fun i bt h e => by
      have := q _ (i.fmod b).toNat (by have := hmod i; omega) ⟨cs, _, _, _, _, e, cat bt, hn, h⟩ bt
      rw [Int.toNat_of_nonneg (hmod i).1] at this
      exact this
    have hb3 : b ≠ 0 ∧ b.natAbs < 1073741824 := ⟨by omega, by omega⟩
    have hl : 0 < (cs.map V.int).length := by rw [List.length_map]; exact hn
    have tail : ∀ i : Int, 0 ≤ i.fmod ((cs.map V.int).length : Int) ∧ i.fmod ((cs.map V.int).length : Int) < cs.length := fun i => by
      rw [List.length_map]
      exact ⟨Int.fmod_nonneg_of_pos _ (by omega), Int.fmod_lt_of_pos _ (by omega)⟩
    obtain ⟨z, hz⟩ := get_int (cs := cs) (tail ct).1 (tail ct).2
    walk_at "s"
    have b1 : ∀ o, But p H (upd H p o) := fun o => (But.refl p H).upd
    have c1 : ∀ o, SqL K (upd H p o) c (cs.map V.int) := fun o => SqL.of (cat (b1 o))
    refine ite2 (fun e => ?_) (fun e => ?_)
    · refine ⟨_, rfl, .ref c, rfl, c, _, rfl, .inl (c1 _), ?_⟩
      walk_at "s"
      refine ite2 (fun e => ?_) (fun e => ?_)
      · walk_at "s"
        refine ite2 (fun e => ?_) (fun e => ?_)
        · walk_at "s"
          refine ⟨c, _, rfl, .inl (SqL.of (cat (b1 _).upd.upd)), ?_⟩
          walk_at "s"
          refine ite2 (fun e3 => ?_) (fun e3 => ?_)
          · have e4 : pl + 1 < ((cs.map V.int).length : Int) := of_decide_eq_true e3
            obtain ⟨z2, hz2⟩ := get_int (cs := cs) (i := pl + 1) (by omega) (by rw [List.length_map] at e4; exact e4)
            walk_at "s"
            refine ⟨_, _, _, _, rfl, rfl, SqL.of (cat (b1 _).upd.upd), hz2, ?_⟩
            walk_at "s"
            exact fin _ (b1 _).upd.upd.upd (by omega) upd_same
          · walk_at "s"
            exact fin _ (b1 _).upd.upd (by omega) upd_same
        · walk_at "s"
          exact fin _ (b1 _).upd hpl upd_same
      · walk_at "s"
        try (refine ⟨_, _, _, _, rfl, rfl, c1 _, hz, ?_⟩)
        walk_at "s"
        exact fin _ (b1 _) hpl upd_same
    · walk_at "s"
      try (refine ⟨_, _, _, _, rfl, rfl, c1 _, hz, ?_⟩)
      walk_at "s"
      exact fin _ (b1 _) hpl upd_same

theorem ok_law_source (T : Txt K mg A) : FnOk P w K mg base CX0 1 A.a_law_source A.d_law_source ["_law_script"] (spSource K) := by
  refine T.F_law_source.ok sc_law_source (fun vs H Q E h => ?_) (fun cdv A outer s H vs Q E hr h => ?_)
  · obtain ⟨a, ns, rfl, _⟩ := h
    rfl
  · obtain ⟨a, ns, rfl, hS, hl, q⟩ := h
    refine ⟨_, (pss_cons (ps_setLc (i := 2) (own := [("_law_cell", 1)]) rfl sc_law_source.nd rfl rfl (sw_true rfl rfl rfl (by decide +kernel)) (pi_list (pv 0)) (blkOk_by (own := [("_law_cell", 1)]) (N := N_law_source) (sc := defScope s_law_source) (by decide +kernel)) (fun _ _ _ _ _ => pg_name (i := 1) sc_law_source.nd rfl (Or.inl rfl)) (fun _ _ _ _ _ => pts_nil) (fun _ _ _ _ _ => by exact (pe_callB call_abs (by rfl) T.n_abs (by decide +kernel) (pa_cons (pe_callTy call_int1 (by rfl) T.n_int (by decide +kernel) (pa_cons (pv 1) pa_nil)) pa_nil))))
    (pss_cons (ps_if (pt_cmpR op_eq (pe_callB len_seq (by rfl) T.n_len (by decide +kernel) (pa_cons (pv 2) pa_nil)) pe_int (nomark _)) (pss_one (ps_set (i := 2) sc_law_source.nd rfl (.inl rfl) (pe_lst (pa_cons pe_int pa_nil)))) pss_nil)
    (pss_cons (ps_set (i := 3) sc_law_source.nd rfl (.inl rfl) pe_int)
    (pss_cons (ps_if (pt_cmpR op_lt (pe_ix ix_list (pv 2) pe_int (fun _ _ => rfl)) (pe_op op_pow pe_int pe_int) (nomark _)) (pss_one (ps_set (i := 3) sc_law_source.nd rfl (.inl rfl) (pe_op op_mod (pe_callTy call_int1 (by rfl) T.n_int (by decide +kernel) (pa_cons (pe_ix ix_list (pv 2) pe_int (fun _ _ => rfl)) pa_nil)) pe_int))) pss_nil)
    (pss_one (ps_ret (pe_lst (pa_cons (pv 2) (pa_cons pe_int (pa_cons (pe_ix ix_list (pv 2) pe_int (fun _ _ => rfl)) (pa_cons pe_int (pa_cons (pv 3) pa_nil)))))))))))), ?_⟩
    have w := walk_list (K := K) (a := a) (xs := ns.map V.int)
    refine ⟨_, rfl, a, rfl, ⟨_, hS⟩, fun D hD => ?_⟩
    have hx : ∀ {i : Nat} {x : V}, (ns.map V.int)[i]? = some x → x = .int (ns.getD i 0) := fun {i x} e => by
      rw [List.getElem?_map] at e
      cases h : ns[i]? with
      | none => rw [h] at e; cases e
      | some z =>
        rw [h] at e
        rw [List.getD_eq_getElem?_getD, h]
        exact (Option.some.inj e).symm
    refine lc_vals w (fun i x => (ns.map V.int)[i]? = some x) (fun i => .int (if ns.getD i 0 < 0 then -ns.getD i 0 else ns.getD i 0)) hD (fun H' e => e.seq hS) (by rw [List.length_map]; omega) (fun i H x H' _ y => y) (fun i x H' hi sm e Q q => ?_) (fun H1 s1 e1 => ?_)
    · rw [hx e]
      exact ⟨_, rfl, .inl ⟨_, rfl, _, rfl, q _ (Same.refl _)⟩⟩
    have e2 : H1 D = some (.lst (((List.range ns.length).map fun i => if ns.getD i 0 < 0 then -ns.getD i 0 else ns.getD i 0).map V.int)) := by
      rw [e1, List.map_map, List.length_map]
      rfl
    generalize hcs : ((List.range ns.length).map fun i => if ns.getD i 0 < 0 then -ns.getD i 0 else ns.getD i 0) = cs at e2
    clear hcs e1
    refine ⟨_, rfl, D, _, rfl, .inl (SqL.of e2), rfl, _, rfl, ite2 (fun e => ?_) (fun e => ?_)⟩
    · refine ⟨by decide, fun c hc => ?_⟩
      generalize hH : upd H1 c (.lst [V.int 5]) = H2
      have fc : H c = none := s1.free hc
      have ec : H2 c = some (.lst (([5] : List Int).map V.int)) := by rw [← hH]; exact upd_same
      have s2 : Same H1 H2 := by rw [← hH]; exact same_new hc
      have sm : Same H H2 := s1.trans s2
      have hl : 0 < ([5] : List Int).length := by decide
      generalize ([5] : List Int) = cs at ec hl
      clear hH hc
      obtain ⟨z, h0⟩ := get_int (cs := cs) (i := 0) (Int.le_refl 0) (by omega)
      have fin : ∀ (x1 x2 x3 x4 : Int) {H3 : Hp}, 0 ≤ x1 → Same H1 H3 → H3 = H2 → ∀ p, H3 p = none → Q (.ref p) (upd H3 p (.lst [.ref c, .int x1, .int x2, .int x3, .int x4])) := fun x1 x2 x3 x4 H3 h1 s3 e3 p hp => by
        subst e3
        exact q _ c _ (sm.trans (same_new hp)) fc (sm.free hp) ⟨cs, x1, x2, x3, x4, upd_same, by rw [upd_ne (ne_of_none ec hp)]; exact ec, hl, h1⟩
      refine ⟨.ref c, rfl, c, _, _, _, rfl, rfl, SqL.of ec, h0, _, _, rfl, rfl, ⟨by decide, by decide, by decide⟩, _, _, rfl, rfl, _, rfl, ite2 (fun e => ?_) (fun e => ?_)⟩
      · refine ⟨.ref c, rfl, c, _, _, _, rfl, rfl, SqL.of ec, h0, .inl ⟨_, rfl, _, _, rfl, rfl, (by show (0 : Int) < 2; decide), ?_⟩⟩
        refine ⟨.ref c, rfl, .ref c, rfl, c, _, _, _, rfl, rfl, SqL.of ec, h0, _, rfl, lenOk (n := 5) rfl (by decide), fun p hp => ?_⟩
        exact fin _ _ _ _ (Int.le_refl 0) s2 rfl p hp
      · refine ⟨.ref c, rfl, .ref c, rfl, c, _, _, _, rfl, rfl, SqL.of ec, h0, _, rfl, lenOk (n := 5) rfl (by decide), fun p hp => ?_⟩
        exact fin _ _ _ _ (Int.le_refl 0) s2 rfl p hp
    · have hl : 0 < cs.length := by
        cases cs with
        | nil => exact absurd (decide_eq_true rfl) e
        | cons => exact Nat.succ_pos _
      have ec := e2
      have fc : H D = none := hD
      generalize D = c at ec fc
      generalize hH : H1 = H2 at ec
      have s2 : Same H1 H2 := by rw [← hH]; exact Same.refl _
      have sm : Same H H2 := s1.trans s2
      obtain ⟨z, h0⟩ := get_int (cs := cs) (i := 0) (Int.le_refl 0) (by omega)
      have fin : ∀ (x1 x2 x3 x4 : Int) {H3 : Hp}, 0 ≤ x1 → Same H1 H3 → H3 = H2 → ∀ p, H3 p = none → Q (.ref p) (upd H3 p (.lst [.ref c, .int x1, .int x2, .int x3, .int x4])) := fun x1 x2 x3 x4 H3 h1 s3 e3 p hp => by
        subst e3
        exact q _ c _ (sm.trans (same_new hp)) fc (sm.free hp) ⟨cs, x1, x2, x3, x4, upd_same, by rw [upd_ne (ne_of_none ec hp)]; exact ec, hl, h1⟩
      refine ⟨.ref c, rfl, c, _, _, _, rfl, rfl, SqL.of ec, h0, _, _, rfl, rfl, ⟨by decide, by decide, by decide⟩, _, _, rfl, rfl, _, rfl, ite2 (fun e => ?_) (fun e => ?_)⟩
      · refine ⟨.ref c, rfl, c, _, _, _, rfl, rfl, SqL.of ec, h0, .inl ⟨_, rfl, _, _, rfl, rfl, (by show (0 : Int) < 2; decide), ?_⟩⟩
        refine ⟨.ref c, rfl, .ref c, rfl, c, _, _, _, rfl, rfl, SqL.of ec, h0, _, rfl, lenOk (n := 5) rfl (by decide), fun p hp => ?_⟩
        exact fin _ _ _ _ (Int.le_refl 0) s2 rfl p hp
      · refine ⟨.ref c, rfl, .ref c, rfl, c, _, _, _, rfl, rfl, SqL.of ec, h0, _, rfl, lenOk (n := 5) rfl (by decide), fun p hp => ?_⟩
        exact fin _ _ _ _ (Int.le_refl 0) s2 rfl p hp
def spNone : Sp := fun _ _ _ _ => False
theorem ok_plain (T : Txt K mg A) : ∀ n : Nat, FnOk P w K mg base CX0 n A.a_law_plain A.d_law_plain ["_law_thing"] (spPlain K n)
  | 0 => ⟨fun _ _ _ _ h => h.elim, fun _ _ _ _ _ _ _ _ _ _ _ _ _ h => h.elim⟩
  | n + 1 => by
    have G0 : FnOk P w K mg base CX0 n A.a_law_plain A.d_law_plain ["_law_thing"] (spPlain K n) := ok_plain T n
    refine T.F_law_plain.ok sc_law_plain (fun vs H Q E h => ?_) (fun cdv A outer s H vs Q E hr h => ?_)
    · obtain ⟨v, d, S, rfl, _⟩ := h
      rfl
    · obtain ⟨v, d, S, rfl, hS, hd, hn, hw, q⟩ := h
      refine ⟨_, (pss_cons (ps_if (pt_val (pe_callB call_isiT (by rfl) T.n_isinstance (by decide +kernel) (pa_cons (pv 0) (pa_cons (pe_tup (pa_cons (pe_bltn (v := .ty "list") (u := .type "list") (by rfl) T.n_list (by decide +kernel) rfl) (pa_cons (pe_bltn (v := .ty "tuple") (u := .type "tuple") (by rfl) T.n_tuple (by decide +kernel) rfl) pa_nil))) pa_nil)))) (pss_one (ps_ret (pe_tup (pa_cons (pe_callB call_isi (by rfl) T.n_isinstance (by decide +kernel) (pa_cons (pv 0) (pa_cons (pe_bltn (v := .ty "list") (u := .type "list") (by rfl) T.n_list (by decide +kernel) rfl) pa_nil))) (pa_cons (pe_lc (own := [("_law_one", 1)]) rfl sc_law_plain.nd (PI_or (pi_list (pv 0)) (pi_tup (pv 0))) (blkOk_by (own := [("_law_one", 1)]) (N := N_law_plain) (sc := defScope s_law_plain) (by decide +kernel)) (fun _ _ _ _ _ => pg_name (i := 1) sc_law_plain.nd rfl (Or.inl rfl)) (fun _ _ _ _ _ => pts_nil) (fun _ _ _ _ _ => by exact (pe_call G0 (hr.mono (by omega)) rfl T.g_law_plain T.F_law_plain.kp T.b_law_plain .nil pass0 (pa_cons (pv 1) pa_nil)))) pa_nil))))) pss_nil)
    (pss_one (ps_ret (pe_tup (pa_cons (pe_callB call_isi (by rfl) T.n_isinstance (by decide +kernel) (pa_cons (pv 0) (pa_cons (pe_bltn (v := .ty "bool") (u := .type "bool") (by rfl) T.n_bool (by decide +kernel) rfl) pa_nil))) (pa_cons (pv 0) pa_nil)))))), ?_⟩
      have out : ∀ (b : Bool), tn d ≠ "list" → tn d ≠ "tuple" → b = isB (tn d) "bool" → plD d = .tuple [.bool b, d] := fun b h1 h2 h3 => by
        subst h3
        cases hd with
        | non => rfl
        | bl => rfl
        | int => rfl
        | str => rfl
        | lst _ _ => exact absurd rfl h1
        | tup _ _ => exact absurd rfl h2
      refine ⟨_, rfl, lenOk rfl (by decide), fun tp htp => ?_⟩
      have hd1 : Dx K _ S v d := Dx.up (Out.of (same_new (o := .tup (["list", "tuple"].map V.ty)) htp)) hd
      refine ⟨v, tp, _, _, _, _, rfl, upd_same, paired_ty ["list", "tuple"], dp_ty hd1.dp, kit_any (dp_tn hd1.dp) ["list", "tuple"] (by decide), ?_⟩
      have sm0 : Same H (upd H tp (.tup [V.ty "list", V.ty "tuple"])) := same_new htp
      refine ⟨_, rfl, ite2 (fun e => ?_) (fun e => ?_)⟩
      · refine ⟨_, rfl, v, .ty "list", _, _, _, rfl, .ty "list", dp_ty hd1.dp, kit_ty (kitT _ (dp_tn hd1.dp) "list" (by decide)), ?_⟩
        have htt : tn d = "list" ∨ tn d = "tuple" := by
          have hb := dp_tn hd.dp
          rcases List.mem_cons.mp hb with h | hb
          · rw [h] at e; exact absurd e (by decide)
          rcases List.mem_cons.mp hb with h | hb
          · rw [h] at e; exact absurd e (by decide)
          rcases List.mem_cons.mp hb with h | hb
          · rw [h] at e; exact absurd e (by decide)
          rcases List.mem_cons.mp hb with h | hb
          · rw [h] at e; exact absurd e (by decide)
          rcases List.mem_cons.mp hb with h | hb
          · exact .inl h
          · exact .inr (List.mem_singleton.mp hb)
        generalize hH1 : upd H tp (.tup (["list", "tuple"].map V.ty)) = H1 at hd1
        have hH2 : upd H tp (.tup [V.ty "list", V.ty "tuple"]) = H1 := hH1
        rw [hH2] at sm0 ⊢
        have hS1 : ∀ a, S a → H1 a ≠ none := fun a z y => hS a z (sm0.free y)
        cases n with
        | zero =>
          cases hd with
          | lst h t => exact absurd hn (Nat.not_succ_le_zero _)
          | tup h t => exact absurd hn (Nat.not_succ_le_zero _)
          | non => rcases htt with z | z <;> exact absurd z (by show ¬ "NoneType" = _; decide)
          | bl => rcases htt with z | z <;> exact absurd z (by show ¬ "bool" = _; decide)
          | int => rcases htt with z | z <;> exact absurd z (by show ¬ "int" = _; decide)
          | str => rcases htt with z | z <;> exact absurd z (by show ¬ "str" = _; decide)
        | succ n =>
          cases hd1 with
          | non => rcases htt with z | z <;> exact absurd z (by show ¬ "NoneType" = _; decide)
          | bl => rcases htt with z | z <;> exact absurd z (by show ¬ "bool" = _; decide)
          | int => rcases htt with z | z <;> exact absurd z (by show ¬ "int" = _; decide)
          | str => rcases htt with z | z <;> exact absurd z (by show ¬ "str" = _; decide)
          | @lst a xs ds h t =>
            have hw' : wdA ds = true := (Bool.and_eq_true_iff.mp hw).2
            have hl : xs.length ≤ 1000000 := by
              have := of_decide_eq_true (Bool.and_eq_true_iff.mp hw).1
              rw [dxAll_len t]
              omega
            refine .inl ⟨_, rfl, a, rfl, ⟨_, h.sq⟩, fun D hD => ?_⟩
            refine lc_data (S := S) (K := K) (walk_list (K := K) (a := a) (xs := xs)) (fun i x => xs[i]? = some x) (fun i => plD (ds.getD i .none)) hS1 hD (fun H' e => (h.up (Out.of e)).sq) hl (fun i H x H' _ y => y) (fun i x H' hi sm hDn e Q q => ?_) (fun H2 s2 d2 => ?_)
            · obtain ⟨di, h1, h2⟩ := dxAll_get (DxAll.up (Out.of sm) t) e
              have h3 : di.depth ≤ n := by
                have := depth_get h1
                have hn' : PyData.depthAll ds + 1 ≤ n + 1 := hn
                omega
              refine ⟨_, rfl, x, di, inS S D, rfl, fun a z => ?_, ?_, h3, wdA_get hw' h1, fun H' v' s3 d3 => ?_⟩
              · rcases z with z | z
                · exact fun y => hS1 a z (sm.free y)
                · rw [z]; exact hDn
              · exact Dx.up (Out.of sm) (Dx.add hD (Dx.of_get t e h1))
              · refine q _ _ s3 ?_
                rw [List.getD_eq_getElem?_getD, h1]
                exact d3
            refine ⟨lenOk (n := 2) rfl (by decide), fun l hl2 => ?_⟩
            have hSl : ¬ S l := fun z => hS l z (((sm0.trans s2)).free hl2)
            refine q _ _ ((sm0.trans s2).trans (same_new hl2)) ?_
            have e3 : (List.range xs.length).map (fun i => plD (ds.getD i .none)) = plA ds := by
              rw [dxAll_len t, range_getD plD .none ds, plA_map]
            rw [e3] at d2
            exact .tup (XT.of upd_same hSl) (.cons (.bl _) (.cons (Dx.up (Out.of (same_new hl2)) d2) .nil))
          | @tup a xs ds h t =>
            have hw' : wdA ds = true := (Bool.and_eq_true_iff.mp hw).2
            have hl : xs.length ≤ 1000000 := by
              have := of_decide_eq_true (Bool.and_eq_true_iff.mp hw).1
              rw [dxAll_len t]
              omega
            refine .inr ⟨_, rfl, a, rfl, ⟨_, h.sq⟩, fun D hD => ?_⟩
            refine lc_data (S := S) (K := K) (walk_tup (K := K) (a := a) (xs := xs)) (fun i x => xs[i]? = some x) (fun i => plD (ds.getD i .none)) hS1 hD (fun H' e => (h.up (Out.of e)).sq) hl (fun i H x H' _ y => y) (fun i x H' hi sm hDn e Q q => ?_) (fun H2 s2 d2 => ?_)
            · obtain ⟨di, h1, h2⟩ := dxAll_get (DxAll.up (Out.of sm) t) e
              have h3 : di.depth ≤ n := by
                have := depth_get h1
                have hn' : PyData.depthAll ds + 1 ≤ n + 1 := hn
                omega
              refine ⟨_, rfl, x, di, inS S D, rfl, fun a z => ?_, ?_, h3, wdA_get hw' h1, fun H' v' s3 d3 => ?_⟩
              · rcases z with z | z
                · exact fun y => hS1 a z (sm.free y)
                · rw [z]; exact hDn
              · exact Dx.up (Out.of sm) (Dx.add hD (Dx.of_get t e h1))
              · refine q _ _ s3 ?_
                rw [List.getD_eq_getElem?_getD, h1]
                exact d3
            refine ⟨lenOk (n := 2) rfl (by decide), fun l hl2 => ?_⟩
            have hSl : ¬ S l := fun z => hS l z (((sm0.trans s2)).free hl2)
            refine q _ _ ((sm0.trans s2).trans (same_new hl2)) ?_
            have e3 : (List.range xs.length).map (fun i => plD (ds.getD i .none)) = plA ds := by
              rw [dxAll_len t, range_getD plD .none ds, plA_map]
            rw [e3] at d2
            exact .tup (XT.of upd_same hSl) (.cons (.bl _) (.cons (Dx.up (Out.of (same_new hl2)) d2) .nil))
      · refine ⟨_, rfl, v, .ty "bool", _, _, _, rfl, .ty "bool", dp_ty hd1.dp, kit_ty (kitT _ (dp_tn hd1.dp) "bool" (by decide)), _, rfl, lenOk (n := 2) rfl (by decide), fun l hl => ?_⟩
        have n1 : tn d ≠ "list" := fun z => e (by rw [z]; decide)
        have n2 : tn d ≠ "tuple" := fun z => e (by rw [z]; decide)
        have hS2 : ¬ S l := fun z => hS l z (sm0.free hl)
        refine q _ _ (sm0.trans (same_new hl)) ?_
        rw [out _ n1 n2 rfl]
        exact .tup (XT.of upd_same hS2) (.cons (.bl _) (.cons (Dx.up (Out.of (same_new hl)) hd1) .nil))
theorem okH_plain (T : Txt K mg A) : ∀ n : Nat, L2H.FnH P w K mg base CX0 n A.a_law_plain A.d_law_plain ["_law_thing"] (spPlain K n)
  | 0 => ⟨fun _ _ _ _ h => h.elim, fun _ _ _ _ _ _ _ _ _ _ _ _ _ _ _ _ h => h.elim⟩
  | n + 1 => by
    have G0 : L2H.FnH P w K mg base CX0 n A.a_law_plain A.d_law_plain ["_law_thing"] (spPlain K n) := okH_plain T n
    refine Fun.okH T.F_law_plain sc_law_plain (fun vs H Q E h => ?_) (fun cdv A outer s H vs Q E p hot hr h => ?_)
    · obtain ⟨v, d, S, rfl, _⟩ := h
      rfl
    · obtain ⟨v, d, S, rfl, hS, hd, hn, hw, q⟩ := h
      refine ⟨_, (pss_cons (ps_if (pt_val (pe_callB (r := rIsiT K) call_isiT (by rfl) T.n_isinstance (by decide +kernel) (pa_cons (pv 0) (pa_cons (pe_tup (pa_cons (pe_bltn (v := .ty "list") (u := .type "list") (by rfl) T.n_list (by decide +kernel) rfl) (pa_cons (pe_bltn (v := .ty "tuple") (u := .type "tuple") (by rfl) T.n_tuple (by decide +kernel) rfl) pa_nil))) pa_nil)))) (pss_one (ps_ret (pe_tup (pa_cons (pe_callB (r := rIsi K) call_isi (by rfl) T.n_isinstance (by decide +kernel) (pa_cons (pv 0) (pa_cons (pe_bltn (v := .ty "list") (u := .type "list") (by rfl) T.n_list (by decide +kernel) rfl) pa_nil))) (pa_cons (pe_lcH (own := [("_law_one", 1)]) rfl hot List.mem_cons_self sc_law_plain.nd (PIH_or (pi_listH (pv 0)) (pi_tupH (pv 0))) (blkOk_by (own := [("_law_one", 1)]) (N := N_law_plain) (sc := defScope s_law_plain) (by decide +kernel)) (fun _ _ _ _ _ => pg_name (i := 1) sc_law_plain.nd rfl (Or.inl rfl)) (fun _ _ _ _ _ => pts_nil) (fun _ _ _ _ _ => by exact (L2H.pe_callH G0 (hr.mono (by omega)) ⟨p, hot, List.mem_cons_self⟩ rfl T.g_law_plain T.F_law_plain.kp T.b_law_plain (fun _ => pass_at0) (pa_cons (pv 1) pa_nil)))) pa_nil))))) pss_nil)
    (pss_one (ps_ret (pe_tup (pa_cons (pe_callB (r := rIsi K) call_isi (by rfl) T.n_isinstance (by decide +kernel) (pa_cons (pv 0) (pa_cons (pe_bltn (v := .ty "bool") (u := .type "bool") (by rfl) T.n_bool (by decide +kernel) rfl) pa_nil))) (pa_cons (pv 0) pa_nil)))))), ?_⟩
      have out : ∀ (b : Bool), tn d ≠ "list" → tn d ≠ "tuple" → b = isB (tn d) "bool" → plD d = .tuple [.bool b, d] := fun b h1 h2 h3 => by
        subst h3
        cases hd with
        | non => rfl
        | bl => rfl
        | int => rfl
        | str => rfl
        | lst _ _ => exact absurd rfl h1
        | tup _ _ => exact absurd rfl h2
      refine ⟨_, rfl, lenOk rfl (by decide), fun tp htp => ?_⟩
      have hd1 : Dx K _ S v d := Dx.up (Out.of (same_new (o := .tup (["list", "tuple"].map V.ty)) htp)) hd
      refine ⟨v, tp, _, _, _, _, rfl, upd_same, paired_ty ["list", "tuple"], dp_ty hd1.dp, kit_any (dp_tn hd1.dp) ["list", "tuple"] (by decide), ?_⟩
      have sm0 : Same H (upd H tp (.tup [V.ty "list", V.ty "tuple"])) := same_new htp
      refine ⟨_, rfl, ite2 (fun e => ?_) (fun e => ?_)⟩
      · refine ⟨_, rfl, v, .ty "list", _, _, _, rfl, .ty "list", dp_ty hd1.dp, kit_ty (kitT _ (dp_tn hd1.dp) "list" (by decide)), ?_⟩
        have htt : tn d = "list" ∨ tn d = "tuple" := by
          have hb := dp_tn hd.dp
          rcases List.mem_cons.mp hb with h | hb
          · rw [h] at e; exact absurd e (by decide)
          rcases List.mem_cons.mp hb with h | hb
          · rw [h] at e; exact absurd e (by decide)
          rcases List.mem_cons.mp hb with h | hb
          · rw [h] at e; exact absurd e (by decide)
          rcases List.mem_cons.mp hb with h | hb
          · rw [h] at e; exact absurd e (by decide)
          rcases List.mem_cons.mp hb with h | hb
          · exact .inl h
          · exact .inr (List.mem_singleton.mp hb)
        generalize hH1 : upd H tp (.tup (["list", "tuple"].map V.ty)) = H1 at hd1
        have hH2 : upd H tp (.tup [V.ty "list", V.ty "tuple"]) = H1 := hH1
        rw [hH2] at sm0 ⊢
        have hS1 : ∀ a, S a → H1 a ≠ none := fun a z y => hS a z (sm0.free y)
        cases n with
        | zero =>
          cases hd with
          | lst h t => exact absurd hn (Nat.not_succ_le_zero _)
          | tup h t => exact absurd hn (Nat.not_succ_le_zero _)
          | non => rcases htt with z | z <;> exact absurd z (by show ¬ "NoneType" = _; decide)
          | bl => rcases htt with z | z <;> exact absurd z (by show ¬ "bool" = _; decide)
          | int => rcases htt with z | z <;> exact absurd z (by show ¬ "int" = _; decide)
          | str => rcases htt with z | z <;> exact absurd z (by show ¬ "str" = _; decide)
        | succ n =>
          cases hd1 with
          | non => rcases htt with z | z <;> exact absurd z (by show ¬ "NoneType" = _; decide)
          | bl => rcases htt with z | z <;> exact absurd z (by show ¬ "bool" = _; decide)
          | int => rcases htt with z | z <;> exact absurd z (by show ¬ "int" = _; decide)
          | str => rcases htt with z | z <;> exact absurd z (by show ¬ "str" = _; decide)
          | @lst a xs ds h t =>
            have hw' : wdA ds = true := (Bool.and_eq_true_iff.mp hw).2
            have hl : xs.length ≤ 1000000 := by
              have := of_decide_eq_true (Bool.and_eq_true_iff.mp hw).1
              rw [dxAll_len t]
              omega
            refine .inl ⟨_, rfl, a, rfl, ⟨_, h.sq⟩, fun D hD => ?_⟩
            refine lc_data (S := S) (K := K) (walk_list (K := K) (a := a) (xs := xs)) (fun i x => xs[i]? = some x) (fun i => plD (ds.getD i .none)) hS1 hD (fun H' e => (h.up (Out.of e)).sq) hl (fun i H x H' _ y => y) (fun i x H' hi sm hDn e Q q => ?_) (fun H2 s2 d2 => ?_)
            · obtain ⟨di, h1, h2⟩ := dxAll_get (DxAll.up (Out.of sm) t) e
              have h3 : di.depth ≤ n := by
                have := depth_get h1
                have hn' : PyData.depthAll ds + 1 ≤ n + 1 := hn
                omega
              refine ⟨_, rfl, x, di, inS S D, rfl, fun a z => ?_, ?_, h3, wdA_get hw' h1, fun H' v' s3 d3 => ?_⟩
              · rcases z with z | z
                · exact fun y => hS1 a z (sm.free y)
                · rw [z]; exact hDn
              · exact Dx.up (Out.of sm) (Dx.add hD (Dx.of_get t e h1))
              · refine q _ _ s3 ?_
                rw [List.getD_eq_getElem?_getD, h1]
                exact d3
            refine ⟨lenOk (n := 2) rfl (by decide), fun l hl2 => ?_⟩
            have hSl : ¬ S l := fun z => hS l z (((sm0.trans s2)).free hl2)
            refine q _ _ ((sm0.trans s2).trans (same_new hl2)) ?_
            have e3 : (List.range xs.length).map (fun i => plD (ds.getD i .none)) = plA ds := by
              rw [dxAll_len t, range_getD plD .none ds, plA_map]
            rw [e3] at d2
            exact .tup (XT.of upd_same hSl) (.cons (.bl _) (.cons (Dx.up (Out.of (same_new hl2)) d2) .nil))
          | @tup a xs ds h t =>
            have hw' : wdA ds = true := (Bool.and_eq_true_iff.mp hw).2
            have hl : xs.length ≤ 1000000 := by
              have := of_decide_eq_true (Bool.and_eq_true_iff.mp hw).1
              rw [dxAll_len t]
              omega
            refine .inr ⟨_, rfl, a, rfl, ⟨_, h.sq⟩, fun D hD => ?_⟩
            refine lc_data (S := S) (K := K) (walk_tup (K := K) (a := a) (xs := xs)) (fun i x => xs[i]? = some x) (fun i => plD (ds.getD i .none)) hS1 hD (fun H' e => (h.up (Out.of e)).sq) hl (fun i H x H' _ y => y) (fun i x H' hi sm hDn e Q q => ?_) (fun H2 s2 d2 => ?_)
            · obtain ⟨di, h1, h2⟩ := dxAll_get (DxAll.up (Out.of sm) t) e
              have h3 : di.depth ≤ n := by
                have := depth_get h1
                have hn' : PyData.depthAll ds + 1 ≤ n + 1 := hn
                omega
              refine ⟨_, rfl, x, di, inS S D, rfl, fun a z => ?_, ?_, h3, wdA_get hw' h1, fun H' v' s3 d3 => ?_⟩
              · rcases z with z | z
                · exact fun y => hS1 a z (sm.free y)
                · rw [z]; exact hDn
              · exact Dx.up (Out.of sm) (Dx.add hD (Dx.of_get t e h1))
              · refine q _ _ s3 ?_
                rw [List.getD_eq_getElem?_getD, h1]
                exact d3
            refine ⟨lenOk (n := 2) rfl (by decide), fun l hl2 => ?_⟩
            have hSl : ¬ S l := fun z => hS l z (((sm0.trans s2)).free hl2)
            refine q _ _ ((sm0.trans s2).trans (same_new hl2)) ?_
            have e3 : (List.range xs.length).map (fun i => plD (ds.getD i .none)) = plA ds := by
              rw [dxAll_len t, range_getD plD .none ds, plA_map]
            rw [e3] at d2
            exact .tup (XT.of upd_same hSl) (.cons (.bl _) (.cons (Dx.up (Out.of (same_new hl2)) d2) .nil))
      · refine ⟨_, rfl, v, .ty "bool", _, _, _, rfl, .ty "bool", dp_ty hd1.dp, kit_ty (kitT _ (dp_tn hd1.dp) "bool" (by decide)), _, rfl, lenOk (n := 2) rfl (by decide), fun l hl => ?_⟩
        have n1 : tn d ≠ "list" := fun z => e (by rw [z]; decide)
        have n2 : tn d ≠ "tuple" := fun z => e (by rw [z]; decide)
        have hS2 : ¬ S l := fun z => hS l z (sm0.free hl)
        refine q _ _ (sm0.trans (same_new hl)) ?_
        rw [out _ n1 n2 rfl]
        exact .tup (XT.of upd_same hS2) (.cons (.bl _) (.cons (Dx.up (Out.of (same_new hl)) hd1) .nil))
end
end R1

namespace R1
open PySem PySem.Spec PyProof.Rows L2 RK DL
local macro_rules | `(tactic| walk_at "sq") => `(tactic| first
  | exact SqL.of upd_same | exact upd_same | exact SqL.of (by assumption) | exact SqL.of (by rw [upd_ne (by assumption)]; assumption) | assumption)
local macro_rules | `(tactic| walk_at "sd") => `(tactic| first
  | assumption | omega | (refine Or.inl ⟨?_, ?_⟩ <;> omega) | (show _ ∧ _; constructor <;> omega) | (show _ ≠ _; simp; omega) | (exact Or.inl ⟨by decide, by decide⟩) | (exact Or.inr ⟨by decide, by decide⟩) | (show _ < _; decide) | (show _ ≤ _; decide))
local macro_rules | `(tactic| walk_at "at") => `(tactic| first | rfl | (refine atI_intV ?_ ?_ <;> omega) | assumption)
local macro_rules | `(tactic| walk_at "s1") => `(tactic| first
  | refine ⟨_, rfl, ?_⟩ | refine ⟨_, _, rfl, rfl, ?_⟩ | refine ⟨rfl, ?_⟩
  | refine ⟨_, _, _, _, rfl, rfl, by walk_at "sq", by walk_at "at", ?_⟩
  | refine Or.inl ⟨_, rfl, ?_⟩
  | refine ⟨_, _, rfl, Or.inl (by walk_at "sq"), ?_⟩
  | refine And.intro (by walk_at "sd") ?_)
local macro_rules | `(tactic| walk_at "s") => `(tactic| repeat walk_at "s1")

theorem intV_app (a b : List Nat) : intV (a ++ b) = intV a ++ intV b := List.map_append ..
theorem intV_len (a : List Nat) : (intV a).length = a.length := List.length_map ..
theorem intV_at {ws : List Nat} {i : Nat} (h : i < ws.length) : (intV ws)[i]? = some (.int ((ws.getD i 0 : Nat) : Int)) := by
  unfold intV
  rw [List.getElem?_map, List.getElem?_eq_getElem h, List.getD_eq_getElem?_getD, List.getElem?_eq_getElem h]
  rfl
theorem lt_line {n : Nat} (h : n ≤ 1000000) : n < sizeLine := Nat.lt_of_le_of_lt h (by decide)
theorem le_line {n : Nat} (h : n ≤ 1000000) : n ≤ sizeLine := Nat.le_of_lt (lt_line h)
/-! ### finding -/
theorem occ_lcp {E X : List Nat} {c a : Nat} (hc : c ≤ X.length) : occW E (X.take c) a ↔ c ≤ lcp (E.drop a) X := by
  unfold occW
  rw [List.length_take, Nat.min_eq_left hc]
  exact lcp_iff _ _ _ hc
theorem least_ex {p : Nat → Prop} (h : ∃ n, p n) : ∃ n, p n ∧ ∀ m, m < n → ¬ p m := by
  apply Classical.byContradiction
  intro z
  have : ∀ n, ∀ m, m < n → ¬ p m := fun n => by
    induction n with
    | zero => exact fun m h => by cases h
    | succ n ih =>
      intro m hm hp
      rcases Nat.lt_succ_iff_lt_or_eq.mp hm with q | q
      · exact ih m q hp
      · subst q
        exact z ⟨m, hp, ih⟩
  obtain ⟨n, hn⟩ := h
  exact this (n + 1) n (Nat.lt_succ_self n) hn
section
variable {E X : List Nat} (hE : ∀ x ∈ E, x ≤ 65535) (hX : ∀ x ∈ X, x ≤ 65535)
include hE hX
theorem find_lt {c : Nat} (hc : c ≤ X.length) (h : lcn E X < c) : Txt.find (sO (txW E)) (sO (txW (X.take c))) = -1 :=
  find_none hE (fun x hx => hX x (List.mem_of_mem_take hx)) (fun z => by have := congrArg List.length z; rw [List.length_take, Nat.min_eq_left hc] at this; simp at this; omega) fun a ha => by
    have h1 := (occ_lcp hc).mp ha
    have h2 := lcp_lcn E X a
    omega
theorem find_ge {c : Nat} (h : c ≤ lcn E X) : 0 ≤ Txt.find (sO (txW E)) (sO (txW (X.take c))) := by
  have hc := Nat.le_trans h (lcn_le E X)
  rcases Nat.eq_zero_or_pos c with z | z
  · subst z
    rw [List.take_zero, txW_nil, find_nil]
    exact Int.le_refl _
  · obtain ⟨a, h1, h2⟩ := least_ex (p := fun a => occW E (X.take c) a) ⟨fat E X, (occ_lcp hc).mpr (by rw [fat_at]; exact h)⟩
    rw [find_some hE (fun x hx => hX x (List.mem_of_mem_take hx)) (fun z => by have := congrArg List.length z; rw [List.length_take, Nat.min_eq_left hc] at this; simp at this; omega) h1 h2]
    omega
theorem find_lcn : Txt.find (sO (txW E)) (sO (txW (X.take (lcn E X)))) = ((5 * fat E X : Nat) : Int) := by
  have hc := lcn_le E X
  rcases Nat.eq_zero_or_pos (lcn E X) with z | z
  · rw [z, List.take_zero, txW_nil, find_nil]
    have : fat E X = 0 := by
      rcases Nat.eq_zero_or_pos (fat E X) with q | q
      · exact q
      · have := fat_first E X 0 q
        omega
    rw [this]
    rfl
  · refine find_some hE (fun x hx => hX x (List.mem_of_mem_take hx)) (fun z => by have := congrArg List.length z; rw [List.length_take, Nat.min_eq_left hc] at this; simp at this; omega) ((occ_lcp hc).mpr (by rw [fat_at]; exact Nat.le_refl _)) fun b hb h => ?_
    have h1 := (occ_lcp hc).mp h
    have h2 := fat_first E X b hb
    omega
end
def PrK (H : Hp) (xs : List V) (L : List (Nat × Nat)) : Prop := xs.length = L.length ∧ ∀ (k : Nat) (t : Nat × Nat), L[k]? = some t → ∃ p : Addr, xs[k]? = some (V.ref p) ∧ H p = some (.tup [.int (t.1 : Int), .int (t.2 : Int)])
theorem PrK.up {H H' : Hp} {xs : List V} {L : List (Nat × Nat)} (h : PrK H xs L) (e : ∀ p o, H p = some (.tup o) → H' p = some (.tup o)) : PrK H' xs L := ⟨h.1, fun k t ht => let ⟨p, a, b⟩ := h.2 k t ht; ⟨p, a, e _ _ b⟩⟩
theorem PrK.snoc {H : Hp} {xs : List V} {L : List (Nat × Nat)} {p : Addr} {t : Nat × Nat} (h : PrK H xs L) (e : H p = some (.tup [.int (t.1 : Int), .int (t.2 : Int)])) : PrK H (xs ++ [.ref p]) (L ++ [t]) := by
  refine ⟨by rw [List.length_append, List.length_append, h.1]; rfl, fun k u hu => ?_⟩
  rcases Nat.lt_or_ge k L.length with z | z
  · rw [List.getElem?_append_left z] at hu
    obtain ⟨y, a, b⟩ := h.2 k u hu
    exact ⟨y, by rw [List.getElem?_append_left (by rw [h.1]; exact z)]; exact a, b⟩
  · have hk : k = L.length := by
      have := (List.getElem?_eq_some_iff.mp hu).1
      rw [List.length_append] at this
      simp at this
      omega
    subst hk
    rw [List.getElem?_append_right (Nat.le_refl _), Nat.sub_self] at hu
    cases hu
    exact ⟨p, by rw [← h.1, List.getElem?_append_right (Nat.le_refl _), Nat.sub_self]; rfl, e⟩
def cpyL (E N : List Nat) (n : Nat) : List (Nat × Nat) := (List.range n).map fun p => (fat E (N.drop p), lcn E (N.drop p))
theorem cpyL_succ (E N : List Nat) (n : Nat) : cpyL E N (n + 1) = cpyL E N n ++ [(fat E (N.drop n), lcn E (N.drop n))] := by
  unfold cpyL
  rw [List.range_succ, List.map_append]
  rfl
theorem cpyL_at (E N : List Nat) {n p : Nat} (h : p < n) : (cpyL E N n)[p]? = some (fat E (N.drop p), lcn E (N.drop p)) := by
  unfold cpyL
  rw [List.getElem?_map, List.getElem?_range h]
  rfl
def spText (K : PySem.W.Frag) : Sp := fun vs H Q _ => ∃ (a : Addr) (ws : List Nat), vs = [.ref a] ∧ SqT K H a (intV ws) ∧ (∀ w ∈ ws, w ≤ 65535) ∧ ws.length ≤ 3000 ∧ ∀ H', Same H H' → Q (.str (sO (txW ws))) H'
def spPart : Sp := fun vs H Q _ => ∃ (ws : List Nat) (p c : Nat), vs = [.str (sO (txW ws)), .int (p : Int), .int (c : Int)] ∧ ws.length ≤ 3000 ∧ Q (.str (sO (txW ((ws.drop p).take c)))) H
def spCopies (K : PySem.W.Frag) : Sp := fun vs H Q _ => ∃ (a b : Addr) (E N : List Nat), vs = [.ref a, .ref b] ∧ SqT K H a (intV E) ∧ SqT K H b (intV N) ∧ (∀ w ∈ E, w ≤ 65535) ∧ (∀ w ∈ N, w ≤ 65535) ∧ E.length ≤ 3000 ∧ N.length ≤ 3000 ∧ ∀ H' l xs, Same H H' → H' l = some (.lst xs) → PrK H' xs (cpyL E N N.length) → Q (.ref l) H'
def spPrices : Sp := fun vs H Q _ => ∃ (l : Addr) (xs : List V) (E N : List Nat), vs = [.ref l] ∧ H l = some (.lst xs) ∧ PrK H xs (cpyL E N N.length) ∧ N.length ≤ 3000 ∧ ∀ H' p, Same H H' → H' p = some (.lst (intV (RP E N))) → Q (.ref p) H'
def spLeast (K : PySem.W.Frag) : Sp := fun vs H Q _ => ∃ (a b : Addr) (E N : List Nat), vs = [.ref a, .ref b] ∧ SqT K H a (intV E) ∧ SqT K H b (intV N) ∧ (∀ w ∈ E, w ≤ 65535) ∧ (∀ w ∈ N, w ≤ 65535) ∧ E.length ≤ 3000 ∧ N.length ≤ 3000 ∧ ∀ H' p, Same H H' → H' p = some (.lst (intV (RP E N))) → Q (.ref p) H'
def spPut : Sp := fun vs H Q _ => ∃ (l : Addr) (p : Nat) (E N : List Nat), vs = [.ref l, .int (p : Int)] ∧ H l = some (.lst (intV (RP E N))) ∧ p < N.length ∧ N.length ≤ 3000 ∧ (RP E N).getD p 0 = mm (RP E (N.drop (p + 1))) ∧ Q (.int ((bp (RP E (N.drop (p + 1))) : Nat) : Int)) H
section
variable {P : Program} {w : World} {K : PySem.W.Frag} {mg : Str → Option Value} {base : Heap} {A : Ads}
theorem ok_text_to_find (T : Txt K mg A) : FnOk P w K mg base CX0 1 A.a_text_to_find A.d_text_to_find ["words"] (spText K) := by
  refine T.F_text_to_find.ok sc_text_to_find (fun vs H Q E h => ?_) (fun cdv B outer s H vs Q E hr h => ?_)
  · obtain ⟨a, ws, rfl, _⟩ := h
    rfl
  · obtain ⟨a, ws, rfl, ha, hw, hl, q⟩ := h
    refine ⟨_, (pss_one (ps_ret (pe_bm PySem.F.plainAttrs_str PySem.F.slot_str_join PySem.F.type_str_join mt_join pe_str (pa_cons (pe_lc (own := [("word", 1)]) rfl sc_text_to_find.nd (pi_tup (pv 0)) (blkOk_by (own := [("word", 1)]) (N := N_text_to_find) (sc := defScope s_text_to_find) (by decide +kernel)) (fun _ _ _ _ _ => pg_name (i := 1) sc_text_to_find.nd rfl (Or.inl rfl)) (fun _ _ _ _ _ => pts_nil) (fun _ _ _ _ _ => by exact (pe_joined (.cons pe_str (.cons (pe_fmt4 (pv 1) (pe_joined1 pe_str)) .nil))))) pa_nil)))), ?_⟩
    have hil := intV_len ws
    refine ⟨rfl, _, rfl, a, rfl, ⟨_, ha⟩, fun D hD => ?_⟩
    refine lc_vals (walk_tup (K := K) (a := a) (xs := intV ws)) (te := fun σ H Q => tJs [tC (V.str (Str.ofString ",")), tF4 (tVar 1)] Str.empty σ H fun out H1 => Q (.str out) H1) (fun i v => (intV ws)[i]? = some v) (fun i => .str (sO (44 :: hexd (ws.getD i 0)))) hD (fun H4 s4 => sqT_up ha s4) (by omega) (fun i H1 v H2 hi y => y) (fun i v H4 hi sm hv Q q => ?_) (fun H4 s4 e4 => ?_)
    · rw [hil] at hi
      rw [intV_at hi] at hv
      cases hv
      have hwi : ws.getD i 0 ≤ 65535 := by
        rw [List.getD_eq_getElem?_getD, List.getElem?_eq_getElem hi]
        exact hw _ (List.getElem_mem hi)
      refine ⟨_, rfl, le_line (by decide +kernel), _, rfl, ws.getD i 0, rfl, by omega, _, rfl, ?_, ?_⟩
      · rw [show Str.empty ++ Str.ofString "," = sO [44] by decide +kernel, sO_app, sO_len]
        exact le_line (n := 5) (by decide)
      · rw [show Str.empty ++ Str.ofString "," = sO [44] by decide +kernel, sO_app]
        exact q _ (Same.refl _)
    · have e4' : H4 D = some (.lst ((ws.map fun w => sO (44 :: hexd w)).map V.str)) := by
        rw [e4, hil, List.map_map]
        exact congrArg (fun z => some (HO.lst z)) (range_getD (fun w : Nat => V.str (sO (44 :: hexd w))) 0 ws)
      have hj : Txt.join (Str.ofString "") (ws.map fun w => sO (44 :: hexd w)) = sO (txW ws) := by
        rw [show Str.ofString "" = sO [] by decide +kernel, RK.join_nil, List.map_map]
        unfold txW
        rw [List.flatMap_def]
        rfl
      refine ⟨_, _, _, rfl, rfl, .inl (SqL.of e4'), ?_, ?_⟩
      · rw [show (Str.ofString "").length = 0 by decide +kernel, Nat.mul_zero, List.map_map]
        have : ∀ l : List Nat, (l.map ((fun x : Str => x.length) ∘ fun w => sO (44 :: hexd w))).sum = 5 * l.length := fun l => by
          induction l with
          | nil => rfl
          | cons x r ih =>
            rw [List.map_cons, List.sum_cons, ih, List.length_cons]
            show 5 + _ = _
            omega
        rw [this]
        omega
      · rw [hj]
        exact q _ s4
theorem ok_part_of_text (T : Txt K mg A) : FnOk P w K mg base CX0 1 A.a_part_of_text A.d_part_of_text ["text", "place", "count"] spPart := by
  refine T.F_part_of_text.ok sc_part_of_text (fun vs H Q E h => ?_) (fun cdv B outer s H vs Q E hr h => ?_)
  · obtain ⟨a, p, c, rfl, _⟩ := h
    rfl
  · obtain ⟨ws, p, c, rfl, hl, q⟩ := h
    refine ⟨_, (pss_one (ps_ret (pe_slice sl_str (pv 0) (po_some (pe_op op_mul (pe_glob (v := .int 5) rfl T.g_WIDTH ⟨_, rfl⟩) (pv 1))) (po_some (pe_op op_mul (pe_glob (v := .int 5) rfl T.g_WIDTH ⟨_, rfl⟩) (pe_op op_add (pv 1) (pv 2))))))), ?_⟩
    walk_at "s"
    refine ⟨by rw [sO_len, txW_len]; exact le_line (by omega), ?_⟩
    rw [show (5 : Int) * (p : Int) = ((5 * p : Nat) : Int) by omega, show (5 : Int) * ((p : Int) + (c : Int)) = ((5 * (p + c) : Nat) : Int) by omega, cut_mid _ _ _ (by omega), txW_drop, show 5 * (p + c) - 5 * p = 5 * c by omega, txW_take]
    exact q
theorem ok_longest_put (T : Txt K mg A) : FnOk P w K mg base CX0 1 A.a_longest_put A.d_longest_put ["prices", "place"] spPut := by
  refine T.F_longest_put.ok sc_longest_put (fun vs H Q E h => ?_) (fun cdv B outer s H vs Q E hr h => ?_)
  · obtain ⟨l, p, E, N, rfl, _⟩ := h
    rfl
  · obtain ⟨l, p, E, N, rfl, hl, hp, hn, hm, q⟩ := h
    refine ⟨_, (pss_cons (ps_set (i := 2) sc_longest_put.nd rfl (.inl rfl) (pe_op op_sub (pe_op op_sub (pe_callB len_seq (by rfl) T.n_len (by decide +kernel) (pa_cons (pv 0) pa_nil)) pe_int) (pv 1)))
    (pss_cons (ps_while PassesOwn.never (pt_cmpR op_ne (pe_op op_add (pe_op op_add pe_int (pv 2)) (pe_ix ix_list (pv 0) (pe_op op_add (pv 1) (pv 2)) (fun _ _ => rfl))) (pe_ix ix_list (pv 0) (pv 1) (fun _ _ => rfl)) (nomark _)) (pss_one (ps_aug (i := 2) sc_longest_put.nd rfl (.inl rfl) pe_int ip_sub)))
    (pss_one (ps_ret (pv 2))))), ?_⟩
    have hRl := RP_len E N
    have hil := intV_len (RP E N)
    have hat : ∀ i, i ≤ N.length → atI (intV (RP E N)) (i : Int) = some (.int (((RP E N).getD i 0 : Nat) : Int)) := fun i hi => atI_nat (intV_at (by omega))
    have hl1 : (N.drop (p + 1)).length = N.length - (p + 1) := List.length_drop ..
    have hR1 := RP_len E (N.drop (p + 1))
    have hgt : ∀ c, 1 ≤ c → p + c ≤ N.length → (RP E N).getD (p + c) 0 = (RP E (N.drop (p + 1))).getD (c - 1) 0 := fun c h1 h2 => by
      rw [RP_get E N _ h2, RP_get E (N.drop (p + 1)) (c - 1) (by omega), List.drop_drop, show p + 1 + (c - 1) = p + c by omega]
    obtain ⟨b1, b2, b3⟩ := bp_at _ (RP_ne E (N.drop (p + 1)))
    have bl := bp_last (RP E (N.drop (p + 1)))
    generalize hRR : RP E (N.drop (p + 1)) = R at *
    refine ⟨_, rfl, l, _, rfl, .inl (SqL.of hl), _, _, rfl, rfl, _, rfl, _, _, rfl, rfl, ?_⟩
    rw [hil, hRl]
    refine ⟨fun m σ Hc => ∃ c : Nat, σ = [some (.ref l), some (.int (p : Int)), some (.int (c : Int))] ∧ Hc = H ∧ bp R ≤ c ∧ c ≤ R.length ∧ m = c, ⟨R.length, R.length, ?_, rfl, b2, Nat.le_refl _, rfl⟩, fun m σ Hc y => ?_⟩
    · exact congrArg (fun z => [some (V.ref l), some (V.int (p : Int)), some (V.int z)]) (show ((N.length + 1 : Nat) : Int) - 1 - (p : Int) = ((R.length : Nat) : Int) by omega)
    · obtain ⟨c, rfl, rfl, hc1, hc2, rfl⟩ := y
      refine ⟨_, rfl, _, _, rfl, rfl, _, rfl, _, rfl, _, rfl, _, _, rfl, rfl, l, _, _, _, rfl, rfl, SqL.of hl, by rw [show (p : Int) + (m : Int) = ((p + m : Nat) : Int) by omega]; exact hat (p + m) (by omega), _, _, rfl, rfl, _, rfl, _, rfl, l, _, _, _, rfl, rfl, SqL.of hl, hat p (by omega), ?_⟩
      rw [hgt m (by omega) (by omega), hm]
      refine ⟨rfl, ?_⟩
      by_cases hb : m = bp R
      · have e : decide (V.int (1 + (m : Int) + ((R.getD (m - 1) 0 : Nat) : Int)) = V.int ((mm R : Nat) : Int)) = true := decide_eq_true (congrArg V.int (by rw [b3, hb]; omega))
        rw [e]
        refine ⟨_, rfl, ifF rfl ?_⟩
        exact ⟨_, rfl, by rw [hb]; exact q⟩
      · have h1 := bl (m - 1) (by omega) (by omega)
        have e : decide (V.int (1 + (m : Int) + ((R.getD (m - 1) 0 : Nat) : Int)) = V.int ((mm R : Nat) : Int)) = false := decide_eq_false fun z => by
          have := V.int.inj z
          omega
        rw [e]
        refine ⟨_, rfl, ifT rfl ⟨_, fun _ _ h => h, _, rfl, _, _, rfl, rfl, ?_⟩⟩
        exact ⟨m - 1, by omega, m - 1, congrArg (fun z => [some (V.ref l), some (V.int (p : Int)), some (V.int z)]) (show (m : Int) - 1 = ((m - 1 : Nat) : Int) by omega), rfl, by omega, by omega, rfl⟩
theorem ok_prices_from (T : Txt K mg A) : FnOk P w K mg base CX0 1 A.a_prices_from A.d_prices_from ["copies"] spPrices := by
  refine T.F_prices_from.ok sc_prices_from (fun vs H Q E h => ?_) (fun cdv B outer s H vs Q E hr h => ?_)
  · obtain ⟨l, xs, E, N, rfl, _⟩ := h
    rfl
  · obtain ⟨l, xs, E, N, rfl, hl, hk, hn, q⟩ := h
    refine ⟨_, (pss_cons (ps_set (i := 1) sc_prices_from.nd rfl (.inl rfl) (pe_lst (pa_cons pe_int pa_nil)))
    (pss_cons (ps_set (i := 2) sc_prices_from.nd rfl (.inl rfl) (pe_callB len_seq (by rfl) T.n_len (by decide +kernel) (pa_cons (pv 0) pa_nil)))
    (pss_cons (ps_for PassesOwn.never rfl (pi_range3 (by rfl) T.n_range (pa_cons (pe_op op_sub (pe_callB len_seq (by rfl) T.n_len (by decide +kernel) (pa_cons (pv 0) pa_nil)) pe_int) (pa_cons (pe_un un_neg pe_int) (pa_cons (pe_un un_neg pe_int) pa_nil)))) (pg_name (i := 3) sc_prices_from.nd rfl (.inl rfl))
      (pss_cons (ps_set (i := 4) sc_prices_from.nd rfl (.inl rfl) (pe_op op_sub (pe_op op_add pe_int (pv 2)) (pv 3)))
    (pss_cons (ps_set (i := 5) sc_prices_from.nd rfl (.inl rfl) (pe_ix ix_tup (pe_ix ix_list (pv 0) (pv 3) (fun _ _ => rfl)) pe_int (fun _ _ => rfl)))
    (pss_cons (ps_if (PW.pt (pw_and (pt_cmpR op_gt (pv 5) pe_int (nomark _)) (pw_and1 (pt_cmpR op_lt (pe_op op_add pe_int (pe_ix ix_list (pv 1) (pe_op op_sub (pe_callB len_seq (by rfl) T.n_len (by decide +kernel) (pa_cons (pv 1) pa_nil)) (pv 5)) (fun _ _ => rfl))) (pv 4) (nomark _))))) (pss_one (ps_set (i := 4) sc_prices_from.nd rfl (.inl rfl) (pe_op op_add pe_int (pe_ix ix_list (pv 1) (pe_op op_sub (pe_callB len_seq (by rfl) T.n_len (by decide +kernel) (pa_cons (pv 1) pa_nil)) (pv 5)) (fun _ _ => rfl))))) pss_nil)
    (pss_cons (ps_expr (pe_bm PySem.F.plainAttrs_list PySem.F.slot_list_append PySem.F.type_list_append mt_append (pv 1) (pa_cons (pv 4) pa_nil)))
    (pss_one (ps_if (pt_cmpR op_lt (pe_op op_add (pv 3) (pv 4)) (pv 2) (nomark _)) (pss_one (ps_set (i := 2) sc_prices_from.nd rfl (.inl rfl) (pe_op op_add (pv 3) (pv 4)))) pss_nil)))))))
    (pss_one (ps_ret (pe_revL (pv 1))))))), ?_⟩
    have hxl : xs.length = N.length := by rw [hk.1]; unfold cpyL; rw [List.length_map, List.length_range]
    refine ⟨lenOk (n := 1) rfl (by decide), fun pr hpr => ?_⟩
    have s1 := same_new (o := .lst [V.int 0]) hpr
    have e1 : upd H pr (.lst [V.int 0]) pr = some (.lst (intV (RP E []).reverse)) := upd_same
    generalize upd H pr (.lst [V.int 0]) = H1 at s1 e1 ⊢
    have npl : l ≠ pr := ne_of_none hl hpr
    have hl1 := s1 _ _ hl
    refine ⟨_, rfl, l, _, rfl, .inl (SqL.of hl1), _, rfl, l, _, rfl, .inl (SqL.of hl1), _, _, rfl, rfl, _, rfl, _, rfl, _, _, _, _, rfl, RgC.neg (by omega) (by omega) (by decide) (by decide), ?_⟩
    rw [hxl, show ((N.length : Nat) : Int) - 1 - -1 = ((N.length : Nat) : Int) by omega, Int.toNat_natCast]
    refine for_it (walk_rangeC (lo := ((N.length : Nat) : Int) - 1) (c := -1) (n := N.length)) (fun i σ Hc => ∃ (le : Int) (o3 o4 o5 : Option V), σ = [some (.ref l), some (.ref pr), some (.int le), o3, o4, o5] ∧ Same H Hc ∧ Hc pr = some (.lst (intV (RP E (N.drop (N.length - i))).reverse)) ∧ le = (mm (RP E (N.drop (N.length - i))) : Nat) + (N.length : Int) - 2 - i)
      ⟨_, _, _, _, rfl, s1, ?_, ?_⟩ (fun _ _ _ _ _ => trivial) (fun i x σ Hc Hd hi y e => ?_) (fun σ Hc y => ?_)
    · rw [Nat.sub_zero, List.drop_length]
      exact e1
    · rw [Nat.sub_zero, List.drop_length]
      show (N.length : Int) = ((2 : Nat) : Int) + (N.length : Int) - 2 - ((0 : Nat) : Int)
      omega
    · obtain ⟨rfl, ex⟩ := e
      obtain ⟨le, o3, o4, o5, rfl, sm, ep, hle⟩ := y
      have hlc := sm _ _ hl
      obtain ⟨pl, hpl⟩ : ∃ pl, pl = N.length - 1 - i := ⟨_, rfl⟩
      have hplt : pl < N.length := by omega
      have epl : ((N.length : Nat) : Int) - 1 + (i : Int) * -1 = (pl : Int) := by omega
      have ex : x = .int (pl : Int) := by rw [ex]; exact congrArg V.int epl
      subst ex
      have ed : N.drop (N.length - (i + 1)) = N[pl] :: N.drop (N.length - i) := by
        rw [show N.length - (i + 1) = pl by omega, List.drop_eq_getElem_cons hplt, show pl + 1 = N.length - i by omega]
      have eR : RP E (N.drop (N.length - (i + 1))) = nx (RP E (N.drop (N.length - i))) (lcn E (N.drop pl)) :: RP E (N.drop (N.length - i)) := by
        have : N.drop pl = N[pl] :: N.drop (N.length - i) := by rw [← ed]; congr 1; omega
        rw [ed, this]
        rfl
      obtain ⟨pk, pk1, pk2⟩ := (hk.up fun p o h => sm _ _ h).2 pl _ (cpyL_at E N hplt)
      have hcl := lcn_le E (N.drop pl)
      rw [List.length_drop] at hcl
      have hRl := RP_len E (N.drop (N.length - i))
      rw [List.length_drop] at hRl
      have hRne := RP_ne E (N.drop (N.length - i))
      rw [eR]
      clear eR ed
      generalize RP E (N.drop (N.length - i)) = R at *
      generalize fat E (N.drop pl) = ft at *
      generalize lcn E (N.drop pl) = c0 at *
      have hrl : (intV R.reverse).length = R.length := by rw [intV_len, List.length_reverse]
      have hatR : 0 < c0 → atI (intV R.reverse) ((R.length : Int) - (c0 : Int)) = some (.int ((R.getD (c0 - 1) 0 : Nat) : Int)) := fun h0 => by
        rw [show (R.length : Int) - (c0 : Int) = ((R.length - c0 : Nat) : Int) by omega]
        refine atI_nat ?_
        rw [intV_at (by rw [List.length_reverse]; omega)]
        congr 3
        rw [List.getD_eq_getElem?_getD, List.getElem?_reverse (by omega), List.getD_eq_getElem?_getD]
        congr 2
        omega
      refine ⟨_, rfl, _, _, rfl, rfl, _, rfl, _, _, rfl, rfl, ?_⟩
      refine ⟨_, rfl, _, rfl, l, _, _, _, rfl, rfl, SqL.of hlc, atI_nat pk1, pk, _, 1, _, rfl, rfl, SqT.of pk2, atI_nat (j := 1) rfl, ?_⟩
      have enl : ∀ z : Int, z = ((nx R c0 : Nat) : Int) → upd Hd pr (.lst (intV R.reverse ++ [V.int z])) pr = some (.lst (intV (nx R c0 :: R).reverse)) := fun z hz => by
        rw [upd_same, List.reverse_cons, intV_app, hz]
        rfl
      have emm : mm (nx R c0 :: R) = min (2 + nx R c0) (1 + mm R) := by
        cases R with
        | nil => exact absurd rfl hRne
        | cons a r => rfl
      refine ⟨_, rfl, _, _, rfl, rfl, _, rfl, ifB (fun e1 => ?_) (fun e1 => ?_)⟩
      · have e1 : 0 < c0 := by have := of_decide_eq_true e1; omega
        refine ⟨_, rfl, _, rfl, pr, _, rfl, .inl (SqL.of ep), _, rfl, _, _, rfl, rfl, pr, _, _, _, rfl, rfl, SqL.of ep, by rw [hrl]; exact hatR e1, _, _, rfl, rfl, _, rfl, _, _, rfl, rfl, _, rfl, ifB (fun e2 => ?_) (fun e2 => ?_)⟩
        · have e2 := of_decide_eq_true e2
          have hzz : (2 : Int) + ((R.getD (c0 - 1) 0 : Nat) : Int) = ((nx R c0 : Nat) : Int) := by
            unfold nx
            rw [if_pos ⟨e1, by omega⟩]
            omega
          refine ⟨_, rfl, _, rfl, pr, _, rfl, .inl (SqL.of ep), _, rfl, _, _, rfl, rfl, pr, _, _, _, rfl, rfl, SqL.of ep, by rw [hrl]; exact hatR e1, _, _, rfl, rfl, ?_⟩
          refine ⟨_, rfl, .inl ⟨rfl, _, SqL.of ep⟩, _, rfl, pr, _, _, rfl, rfl, ep, lt_line (by omega), ?_⟩
          refine ⟨_, rfl, _, rfl, _, _, rfl, rfl, _, rfl, _, _, rfl, rfl, _, rfl, ?_⟩
          refine ifB (fun e => ?_) (fun e => ?_)
          · have e := of_decide_eq_true e
            refine ⟨_, rfl, _, rfl, _, _, rfl, rfl, _, _, _, _, rfl, same_mut sm hpr, enl _ hzz, ?_⟩
            rw [emm]
            omega
          · have e := of_decide_eq_false e
            refine ⟨_, _, _, _, rfl, same_mut sm hpr, enl _ hzz, ?_⟩
            rw [emm]
            omega
        · have e2 := of_decide_eq_false e2
          have hzz : (1 : Int) + le - (pl : Int) = ((nx R c0 : Nat) : Int) := by
            unfold nx
            rw [if_neg (fun z => by omega)]
            omega
          refine ⟨_, rfl, .inl ⟨rfl, _, SqL.of ep⟩, _, rfl, pr, _, _, rfl, rfl, ep, lt_line (by omega), ?_⟩
          refine ⟨_, rfl, _, rfl, _, _, rfl, rfl, _, rfl, _, _, rfl, rfl, _, rfl, ?_⟩
          refine ifB (fun e => ?_) (fun e => ?_)
          · have e := of_decide_eq_true e
            refine ⟨_, rfl, _, rfl, _, _, rfl, rfl, _, _, _, _, rfl, same_mut sm hpr, enl _ hzz, ?_⟩
            rw [emm]
            omega
          · have e := of_decide_eq_false e
            refine ⟨_, _, _, _, rfl, same_mut sm hpr, enl _ hzz, ?_⟩
            rw [emm]
            omega
      · have e1 : ¬ 0 < c0 := by have := of_decide_eq_false e1; omega
        have en : nx R c0 = mm R := by
          unfold nx
          rw [if_neg (fun z => e1 z.1)]
        have hzz : (1 : Int) + le - (pl : Int) = ((nx R c0 : Nat) : Int) := by
          rw [en]
          omega
        refine ⟨_, rfl, .inl ⟨rfl, _, SqL.of ep⟩, _, rfl, pr, _, _, rfl, rfl, ep, lt_line (by omega), ?_⟩
        refine ⟨_, rfl, _, rfl, _, _, rfl, rfl, _, rfl, _, _, rfl, rfl, _, rfl, ?_⟩
        refine ifB (fun e => ?_) (fun e => ?_)
        · have e := of_decide_eq_true e
          refine ⟨_, rfl, _, rfl, _, _, rfl, rfl, _, _, _, _, rfl, same_mut sm hpr, enl _ hzz, ?_⟩
          rw [emm]
          omega
        · have e := of_decide_eq_false e
          refine ⟨_, _, _, _, rfl, same_mut sm hpr, enl _ hzz, ?_⟩
          rw [emm]
          omega
    · obtain ⟨le, o3, o4, o5, rfl, sm, ep, hle⟩ := y
      refine ⟨_, rfl, pr, _, rfl, SqL.of ep, fun p9 hp9 => ?_⟩
      refine q _ p9 (sm.trans (same_new hp9)) ?_
      rw [upd_same, Nat.sub_self, List.drop_zero]
      unfold intV
      rw [← List.map_reverse, List.reverse_reverse]
theorem ok_longest_copies (T : Txt K mg A) : FnOk P w K mg base CX0 2 A.a_longest_copies A.d_longest_copies ["elder", "newer"] (spCopies K) := by
  refine T.F_longest_copies.ok sc_longest_copies (fun vs H Q E h => ?_) (fun cdv B outer s H vs Q E' hr h => ?_)
  · obtain ⟨a, b, E, N, rfl, _⟩ := h
    rfl
  · obtain ⟨a, b, E, N, rfl, ha, hb, hE, hN, hEl, hNl, q⟩ := h
    refine ⟨_, (pss_cons (ps_par (i := 2) (j := 3) rfl sc_longest_copies.nd rfl rfl (by decide) rfl rfl (pa_cons (pe_call (ok_text_to_find T) (hr.mono (by omega)) rfl T.g_text_to_find T.F_text_to_find.kp T.b_text_to_find .nil pass0 (pa_cons (pv 0) pa_nil)) (pa_cons (pe_call (ok_text_to_find T) (hr.mono (by omega)) rfl T.g_text_to_find T.F_text_to_find.kp T.b_text_to_find .nil pass0 (pa_cons (pv 1) pa_nil)) pa_nil)) (by rfl))
    (pss_cons (ps_set (i := 4) sc_longest_copies.nd rfl (.inl rfl) (pe_lst pa_nil))
    (pss_cons (ps_set (i := 5) sc_longest_copies.nd rfl (.inl rfl) pe_int)
    (pss_cons (ps_for PassesOwn.never rfl (pi_range1 (by rfl) T.n_range (pa_cons (pe_callB len_seq (by rfl) T.n_len (by decide +kernel) (pa_cons (pv 1) pa_nil)) pa_nil)) (pg_name (i := 6) sc_longest_copies.nd rfl (.inl rfl))
      (pss_cons (ps_set (i := 5) sc_longest_copies.nd rfl (.inl rfl) (pe_callB (call_max2 rfl) (by rfl) T.n_max (by decide +kernel) (pa_cons pe_int (pa_cons (pe_op op_sub (pv 5) pe_int) pa_nil))))
    (pss_cons (ps_while PassesOwn.never (PW.pt (pw_and (pt_cmpR op_lt (pv 5) (pe_glob (v := .int 32767) rfl T.g_MOST_COUNT ⟨_, rfl⟩) (nomark _)) (pw_and1 (pt_cmpR op_lt (pe_op op_add (pv 6) (pv 5)) (pe_callB len_seq (by rfl) T.n_len (by decide +kernel) (pa_cons (pv 1) pa_nil)) (nomark _))))) (pss_cons (ps_if (pt_cmpR op_lt (pe_bm PySem.F.plainAttrs_str PySem.F.slot_str_find PySem.F.type_str_find mt_find (pv 2) (pa_cons (pe_call (ok_part_of_text T) (hr.mono (by omega)) rfl T.g_part_of_text T.F_part_of_text.kp T.b_part_of_text .nil pass0 (pa_cons (pv 3) (pa_cons (pv 6) (pa_cons (pe_op op_add (pv 5) pe_int) pa_nil)))) pa_nil)) pe_int (nomark _)) (pss_one ps_break) pss_nil)
    (pss_one (ps_aug (i := 5) sc_longest_copies.nd rfl (.inl rfl) pe_int ip_add))))
    (pss_one (ps_expr (pe_bm PySem.F.plainAttrs_list PySem.F.slot_list_append PySem.F.type_list_append mt_append (pv 4) (pa_cons (pe_tup (pa_cons (pe_op op_fdivN (pe_bm PySem.F.plainAttrs_str PySem.F.slot_str_find PySem.F.type_str_find mt_find (pv 2) (pa_cons (pe_call (ok_part_of_text T) (hr.mono (by omega)) rfl T.g_part_of_text T.F_part_of_text.kp T.b_part_of_text .nil pass0 (pa_cons (pv 3) (pa_cons (pv 6) (pa_cons (pv 5) pa_nil)))) pa_nil)) (pe_glob (v := .int 5) rfl T.g_WIDTH ⟨_, rfl⟩)) (pa_cons (pv 5) pa_nil))) pa_nil)))))))
    (pss_one (ps_ret (pv 4))))))), ?_⟩
    have hil := intV_len N
    refine ⟨_, rfl, a, E, rfl, ha, hE, hEl, fun H1 s1 => ⟨_, rfl, b, N, rfl, sqT_up hb s1, hN, hNl, fun H2 s2 => ⟨_, _, rfl, ?_⟩⟩⟩
    have s12 := s1.trans s2
    refine ⟨lenOk (n := 0) rfl (by decide), fun rw hrw => ?_⟩
    have s3 := same_new (o := .lst []) hrw
    have e3 : upd H2 rw (.lst []) rw = some (.lst []) := upd_same
    generalize upd H2 rw (.lst []) = H3 at s3 e3 ⊢
    have s13 := s12.trans s3
    have hrH := s12.free hrw
    refine ⟨_, rfl, b, _, rfl, .inr (sqT_up hb s13), _, rfl, by omega, by omega, ?_⟩
    rw [Int.toNat_natCast, hil]
    have hNd : ∀ p, ∀ x ∈ N.drop p, x ≤ 65535 := fun p x hx => hN x (List.mem_of_mem_drop hx)
    refine for_it (walk_range (lo := 0) (n := N.length)) (fun i σ Hc => ∃ (c : Nat) (o6 : Option V) (xs : List V), σ = [some (.ref a), some (.ref b), some (.str (sO (txW E))), some (.str (sO (txW N))), some (.ref rw), some (.int (c : Int)), o6] ∧ Same H Hc ∧ Hc rw = some (.lst xs) ∧ PrK Hc xs (cpyL E N i) ∧ c ≤ lcn E (N.drop i) + 1)
      ⟨0, _, [], rfl, s13, e3, ⟨rfl, fun k t h => by cases h⟩, Nat.zero_le _⟩ (fun _ _ _ _ _ => trivial) (fun i x σ Hc Hd hi y e => ?_) (fun σ Hc y => ?_)
    · obtain ⟨rfl, ex⟩ := e
      obtain ⟨c, o6, xs, rfl, sm, er, hk, hc⟩ := y
      have ex : x = .int (i : Int) := by rw [ex]; exact congrArg V.int (by omega)
      subst ex
      have hdl : (N.drop i).length = N.length - i := List.length_drop ..
      have hX := hNd i
      have hcl := lcn_le E (N.drop i)
      have hsl : lcn E (N.drop i) ≤ lcn E (N.drop (i + 1)) + 1 := by
        rw [List.drop_eq_getElem_cons hi]
        exact lcn_slide E _ _
      have hge := fun c => find_ge (c := c) hE hX
      have hlt := fun c => find_lt (c := c) hE hX
      have heq := find_lcn hE hX
      have hNs := cpyL_succ E N i
      rw [hNs]
      refine ⟨_, rfl, _, _, rfl, rfl, 0, (c : Int) - 1, rfl, ?_⟩
      obtain ⟨c1, hc1, ec1⟩ : ∃ c1 : Nat, c1 ≤ lcn E (N.drop i) ∧ (if (c : Int) - 1 > 0 then (c : Int) - 1 else 0) = (c1 : Int) := by
        by_cases z : (c : Int) - 1 > 0
        · exact ⟨c - 1, by omega, by rw [if_pos z]; omega⟩
        · exact ⟨0, Nat.zero_le _, by rw [if_neg z]; rfl⟩
      rw [ec1]
      generalize hLL : lcn E (N.drop i) = L at *
      refine ⟨fun m σ Hz => ∃ c1 : Nat, σ = [some (.ref a), some (.ref b), some (.str (sO (txW E))), some (.str (sO (txW N))), some (.ref rw), some (.int (c1 : Int)), some (.int (i : Int))] ∧ Hz = Hd ∧ c1 ≤ L ∧ m = N.length - c1, ⟨_, c1, rfl, rfl, hc1, rfl⟩, fun m σ Hz y => ?_⟩
      obtain ⟨c1, rfl, rfl, hc1, rfl⟩ := y
      refine ⟨_, rfl, _, _, rfl, rfl, true, congrArg V.bl (decide_eq_true (show (c1 : Int) < 32767 by omega)), ifT rfl ?_⟩
      refine ⟨_, rfl, _, rfl, _, _, rfl, rfl, _, rfl, b, _, rfl, .inr (sqT_up hb sm), _, _, rfl, rfl, _, rfl, ?_⟩
      rw [hil]
      refine ifB (fun e => ?_) (fun e => ?_)
      · have e := of_decide_eq_true e
        refine ⟨_, fun _ _ h => h, ?_⟩
        refine ⟨_, rfl, rfl, _, rfl, _, rfl, _, rfl, _, _, rfl, rfl, N, i, c1 + 1, rfl, hNl, _, _, rfl, rfl, _, _, rfl, rfl, _, rfl, ifB (fun e1 => ?_) (fun e1 => ?_)⟩
        · have e1 := of_decide_eq_true e1
          have : c1 = L := by
            apply Decidable.byContradiction
            intro z
            have := hge (c1 + 1) (by omega)
            omega
          subst this
          refine ⟨_, rfl, .inl ⟨rfl, _, SqL.of er⟩, _, rfl, rfl, _, rfl, _, rfl, _, rfl, N, i, c1, rfl, hNl, _, _, rfl, rfl, _, _, rfl, rfl, ⟨by decide, by decide⟩, _, rfl, lenOk (n := 2) rfl (by decide), fun pt hpt => ?_⟩
          have sp := same_new (o := .tup [V.int ((Txt.find (sO (txW E)) (sO (txW ((N.drop i).take c1)))).fdiv 5), V.int (c1 : Int)]) hpt
          have er2 := sp _ _ er
          have hxl : xs.length = i := by rw [hk.1]; unfold cpyL; rw [List.length_map, List.length_range]
          refine ⟨rw, _, _, rfl, rfl, er2, lt_line (by omega), ?_⟩
          refine ⟨c1, _, _, rfl, same_mut (sm.trans sp) hrH, upd_same, ?_, by omega⟩
          have nrp : ∀ (p : Addr) (o : List V), (upd Hz pt (.tup [V.int ((Txt.find (sO (txW E)) (sO (txW ((N.drop i).take c1)))).fdiv 5), V.int (c1 : Int)])) p = some (.tup o) → p ≠ rw := fun p o z y => by
            rw [y, er2] at z
            cases z
          have keep : ∀ (p : Addr) (o : List V), (upd Hz pt (.tup [V.int ((Txt.find (sO (txW E)) (sO (txW ((N.drop i).take c1)))).fdiv 5), V.int (c1 : Int)])) p = some (.tup o) → (upd (upd Hz pt (.tup [V.int ((Txt.find (sO (txW E)) (sO (txW ((N.drop i).take c1)))).fdiv 5), V.int (c1 : Int)])) rw (.lst (xs ++ [V.ref pt]))) p = some (.tup o) := fun p o z => by
            rw [upd_ne (nrp p o z)]
            exact z
          refine (hk.up fun p o z => keep p o (sp _ _ z)).snoc (keep _ _ ?_)
          rw [upd_same]
          have e5 : (Txt.find (sO (txW E)) (sO (txW ((N.drop i).take c1)))).fdiv 5 = ((fat E (N.drop i) : Nat) : Int) := by
            rw [heq, Int.fdiv_eq_ediv_of_nonneg _ (by decide)]
            omega
          rw [e5]
        · have e1 := of_decide_eq_false e1
          have : c1 < L := by
            apply Decidable.byContradiction
            intro z
            have := hlt (c1 + 1) (by omega) (by omega)
            rw [this] at e1
            exact e1 (by decide)
          refine ⟨_, rfl, _, _, rfl, rfl, N.length - (c1 + 1), by omega, c1 + 1, rfl, rfl, by omega, rfl⟩
      · have e := of_decide_eq_false e
        have : c1 = L := by omega
        subst this
        refine ⟨_, rfl, .inl ⟨rfl, _, SqL.of er⟩, _, rfl, rfl, _, rfl, _, rfl, _, rfl, N, i, c1, rfl, hNl, _, _, rfl, rfl, _, _, rfl, rfl, ⟨by decide, by decide⟩, _, rfl, lenOk (n := 2) rfl (by decide), fun pt hpt => ?_⟩
        have sp := same_new (o := .tup [V.int ((Txt.find (sO (txW E)) (sO (txW ((N.drop i).take c1)))).fdiv 5), V.int (c1 : Int)]) hpt
        have er2 := sp _ _ er
        have hxl : xs.length = i := by rw [hk.1]; unfold cpyL; rw [List.length_map, List.length_range]
        refine ⟨rw, _, _, rfl, rfl, er2, lt_line (by omega), ?_⟩
        refine ⟨c1, _, _, rfl, same_mut (sm.trans sp) hrH, upd_same, ?_, by omega⟩
        have nrp : ∀ (p : Addr) (o : List V), (upd Hz pt (.tup [V.int ((Txt.find (sO (txW E)) (sO (txW ((N.drop i).take c1)))).fdiv 5), V.int (c1 : Int)])) p = some (.tup o) → p ≠ rw := fun p o z y => by
          rw [y, er2] at z
          cases z
        have keep : ∀ (p : Addr) (o : List V), (upd Hz pt (.tup [V.int ((Txt.find (sO (txW E)) (sO (txW ((N.drop i).take c1)))).fdiv 5), V.int (c1 : Int)])) p = some (.tup o) → (upd (upd Hz pt (.tup [V.int ((Txt.find (sO (txW E)) (sO (txW ((N.drop i).take c1)))).fdiv 5), V.int (c1 : Int)])) rw (.lst (xs ++ [V.ref pt]))) p = some (.tup o) := fun p o z => by
          rw [upd_ne (nrp p o z)]
          exact z
        refine (hk.up fun p o z => keep p o (sp _ _ z)).snoc (keep _ _ ?_)
        rw [upd_same]
        have e5 : (Txt.find (sO (txW E)) (sO (txW ((N.drop i).take c1)))).fdiv 5 = ((fat E (N.drop i) : Nat) : Int) := by
          rw [heq, Int.fdiv_eq_ediv_of_nonneg _ (by decide)]
          omega
        rw [e5]
    · obtain ⟨c, o6, xs, rfl, sm, er, hk, hc⟩ := y
      exact ⟨_, rfl, q _ rw xs sm er hk⟩
theorem ok_least_prices (T : Txt K mg A) : FnOk P w K mg base CX0 3 A.a_least_prices A.d_least_prices ["elder", "newer"] (spLeast K) := by
  refine T.F_least_prices.ok sc_least_prices (fun vs H Q E h => ?_) (fun cdv B outer s H vs Q E' hr h => ?_)
  · obtain ⟨a, b, E, N, rfl, _⟩ := h
    rfl
  · obtain ⟨a, b, E, N, rfl, ha, hb, hE, hN, hEl, hNl, q⟩ := h
    refine ⟨_, (pss_one (ps_ret (pe_call (ok_prices_from T) (hr.mono (by omega)) rfl T.g_prices_from T.F_prices_from.kp T.b_prices_from .nil pass0 (pa_cons (pe_call (ok_longest_copies T) (hr.mono (by omega)) rfl T.g_longest_copies T.F_longest_copies.kp T.b_longest_copies .nil pass0 (pa_cons (pv 0) (pa_cons (pv 1) pa_nil))) pa_nil)))), ?_⟩
    refine ⟨_, rfl, _, rfl, a, b, E, N, rfl, ha, hb, hE, hN, hEl, hNl, fun H1 l xs s1 e1 k1 => ?_⟩
    exact ⟨l, xs, E, N, rfl, e1, k1, hNl, fun H2 p s2 e2 => q _ p (s1.trans s2) e2⟩
end
end R1

namespace R1
open PySem PySem.Spec PyProof.Rows L2 RK DL
local macro_rules | `(tactic| walk_at "sq") => `(tactic| first
  | exact SqL.of upd_same | exact upd_same | exact SqL.of (by assumption) | exact SqL.of (by rw [upd_ne (by assumption)]; assumption) | assumption)
local macro_rules | `(tactic| walk_at "sd") => `(tactic| first
  | assumption | omega | (refine Or.inl ⟨?_, ?_⟩ <;> omega) | (show _ ∧ _; constructor <;> omega) | (show _ ≠ _; simp; omega) | (exact Or.inl ⟨by decide, by decide⟩) | (exact Or.inr ⟨by decide, by decide⟩) | (show _ < _; decide) | (show _ ≤ _; decide))
local macro_rules | `(tactic| walk_at "at") => `(tactic| first | rfl | (refine atI_intV ?_ ?_ <;> omega) | assumption)
local macro_rules | `(tactic| walk_at "s1") => `(tactic| first
  | refine ⟨_, rfl, ?_⟩ | refine ⟨_, _, rfl, rfl, ?_⟩ | refine ⟨rfl, ?_⟩
  | refine ⟨_, _, _, _, rfl, rfl, by walk_at "sq", by walk_at "at", ?_⟩
  | refine Or.inl ⟨_, rfl, ?_⟩
  | refine ⟨_, _, rfl, Or.inl (by walk_at "sq"), ?_⟩
  | refine And.intro (by walk_at "sd") ?_)
local macro_rules | `(tactic| walk_at "s") => `(tactic| repeat walk_at "s1")

def pcD : Pc → PyData
  | .cp a n => .tuple [.str (Str.ofString "copy"), .int (a : Int), .int (n : Int)]
  | .pt ws => .tuple [.str (Str.ofString "put"), intsD ws]
def pcsD (ps : List Pc) : PyData := .tuple (ps.map pcD)
section
variable {K : PySem.W.Frag} {H H' : Hp} {S : ASet} {v : V} {a p : Addr}
theorem dx_pcs (h : Dx K H S v (pcsD ps)) : ∃ a xs, v = .ref a ∧ XT K H S a xs ∧ xs.length = ps.length ∧ ∀ k (hk : k < ps.length), ∃ x, xs[k]? = some x ∧ Dx K H S x (pcD ps[k]) := by
  cases h with
  | tup h1 h2 =>
    refine ⟨_, _, rfl, h1, by have := dxAll_len h2; rw [List.length_map] at this; exact this, fun k hk => ?_⟩
    have hl := dxAll_len h2
    rw [List.length_map] at hl
    refine ⟨_, List.getElem?_eq_getElem (by omega), Dx.of_get h2 (List.getElem?_eq_getElem (by omega)) ?_⟩
    rw [List.getElem?_map, List.getElem?_eq_getElem hk]
    rfl
theorem dx_ints {ws : List Nat} (h : Dx K H S v (intsD ws)) : ∃ a, v = .ref a ∧ XT K H S a (intV ws) := by
  cases h with
  | tup h1 h2 =>
    rw [dxAll_ints_inv h2] at h1
    rw [← intV_ints] at h1
    exact ⟨_, rfl, h1⟩
theorem dx_cp {a n : Nat} (h : Dx K H S v (pcD (.cp a n))) : ∃ q, v = .ref q ∧ SqT K H q [.str (Str.ofString "copy"), .int (a : Int), .int (n : Int)] := by
  cases h with
  | tup h1 h2 =>
    cases h2 with
    | cons x1 h2 =>
      cases h2 with
      | cons x2 h2 =>
        cases h2 with
        | cons x3 h2 =>
          cases h2
          cases x1
          cases x2
          cases x3
          exact ⟨_, rfl, h1.sq⟩
theorem dx_pt {ws : List Nat} (h : Dx K H S v (pcD (.pt ws))) : ∃ q r, v = .ref q ∧ SqT K H q [.str (Str.ofString "put"), .ref r] ∧ SqT K H r (intV ws) := by
  cases h with
  | tup h1 h2 =>
    cases h2 with
    | cons x1 h2 =>
      cases h2 with
      | cons x2 h2 =>
        cases h2
        cases x1
        obtain ⟨r, rfl, hr⟩ := dx_ints x2
        exact ⟨_, r, rfl, h1.sq, hr.sq⟩
theorem mk_cp {q : Addr} {a n : Nat} (h : H q = some (.tup [.str (Str.ofString "copy"), .int (a : Int), .int (n : Int)])) (nS : ¬ S q) : Dx K H S (.ref q) (pcD (.cp a n)) :=
  .tup (XT.of h nS) (.cons (.str _) (.cons (.int _) (.cons (.int _) .nil)))
theorem mk_pt {q r : Addr} {ws : List Nat} (h : H q = some (.tup [.str (Str.ofString "put"), .ref r])) (nS : ¬ S q) (hr : XT K H S r (intV ws)) : Dx K H S (.ref q) (pcD (.pt ws)) := by
  refine .tup (XT.of h nS) (.cons (.str _) (.cons (.tup hr ?_) .nil))
  rw [intV_ints]
  exact dxAll_ints _
end
theorem sum_cast (l : List Nat) : (l.map fun (n : Nat) => (n : Int)).sum = ((l.sum : Nat) : Int) := by
  induction l with
  | nil => rfl
  | cons a r ih =>
    rw [List.map_cons, List.sum_cons, List.sum_cons, ih]
    omega
theorem take_map_succ {α β : Type} (f : α → β) (l : List α) (i : Nat) (h : i < l.length) : (l.take (i + 1)).map f = (l.take i).map f ++ [f l[i]] := by
  rw [List.take_add_one, List.getElem?_eq_getElem h, List.map_append]
  rfl
theorem cutV_mid {xs : List V} {a b : Nat} (hb : b ≤ xs.length) : cutV xs (some (a : Int)) (some (b : Int)) = (xs.drop a).take (b - a) := by
  show (xs.drop (HT.sIx xs.length 0 (some (a : Int)))).take (HT.sIx xs.length xs.length (some (b : Int)) - HT.sIx xs.length 0 (some (a : Int))) = _
  have e1 : HT.sIx xs.length xs.length (some (b : Int)) = b := by
    unfold HT.sIx
    simp only []
    rw [if_neg (by omega)]
    omega
  by_cases h : a ≤ xs.length
  · have e2 : HT.sIx xs.length 0 (some (a : Int)) = a := by
      unfold HT.sIx
      simp only []
      rw [if_neg (by omega)]
      omega
    rw [e1, e2]
  · have e2 : HT.sIx xs.length 0 (some (a : Int)) = xs.length := by
      unfold HT.sIx
      simp only []
      rw [if_neg (by omega)]
      omega
    rw [e1, e2, List.drop_length, List.drop_eq_nil_of_le (by omega), List.take_nil, List.take_nil]
theorem drop_at {α : Type} {l : List α} {i : Nat} (h : i < l.length) : l.drop i = l[i] :: l.drop (i + 1) := List.drop_eq_getElem_cons h
theorem intV_cut (a : List Nat) (i n : Nat) : ((intV a).drop i).take n = intV ((a.drop i).take n) := by
  unfold intV
  rw [List.map_take, List.map_drop]
def spPrice (K : PySem.W.Frag) : Sp := fun vs H Q _ => ∃ (S : ASet) (v : V) (ps : List Pc), vs = [v] ∧ Dx K H S v (pcsD ps) ∧ ps.length ≤ 1000 ∧ ∀ H', Same H H' → Q (.int ((((ps.map Pc.cost).sum : Nat)) : Int)) H'
def spPutOn (K : PySem.W.Frag) (C : Addr) : Sp := fun vs H Q E => ∃ (e : Addr) (el : List Nat) (S : ASet) (v : V) (ps : List Pc), vs = [.ref e, v] ∧ SqT K H e (intV el) ∧ Dx K H S v (pcsD ps) ∧ ps.length ≤ 1000 ∧ el.length ≤ 3000 ∧ (∀ ws, Pc.pt ws ∈ ps → ws.length ≤ 3000) ∧
  (∀ n, putAt el 0 ps [] = .inl n → ∀ dx H', Same H H' → H dx = none → H' dx = some (.xd [("number", .int (n : Int))]) → E (.ref C) (some dx) H') ∧
  (∀ out, putAt el 0 ps [] = .inr out → ∀ H' q, Same H H' → H q = none → H' q = some (.tup (intV out)) → Q (.ref q) H')
theorem copy_eq : decide (V.str (Str.ofString "copy") = V.str (Str.ofString "copy")) = true := by decide +kernel
theorem put_eq : decide (V.str (Str.ofString "put") = V.str (Str.ofString "copy")) = false := by decide +kernel
theorem copy_put : decide (V.str (Str.ofString "copy") = V.str (Str.ofString "put")) = false := by decide +kernel
theorem put_put : decide (V.str (Str.ofString "put") = V.str (Str.ofString "put")) = true := by decide +kernel
section
variable {P : Program} {w : World} {K : PySem.W.Frag} {mg : Str → Option Value} {base : Heap} {A : Ads}
theorem ok_price (T : Txt K mg A) : FnOk P w K mg base CX0 1 A.a_price A.d_price ["pieces"] (spPrice K) := by
  refine T.F_price.ok sc_price (fun vs H Q E h => ?_) (fun cdv B outer s H vs Q E hr h => ?_)
  · obtain ⟨S, v, ps, rfl, _⟩ := h
    rfl
  · obtain ⟨S, v, ps, rfl, hd, hl, q⟩ := h
    obtain ⟨a, xs, rfl, hx, hxl, hxe⟩ := dx_pcs hd
    refine ⟨_, (pss_one (ps_ret (pe_callB (cr_sum rfl) (by rfl) T.n_sum (by decide +kernel) (pa_cons (pe_lc (own := [("piece", 1)]) rfl sc_price.nd (pi_tup (pv 0)) (blkOk_by (own := [("piece", 1)]) (N := N_price) (sc := defScope s_price) (by decide +kernel)) (fun _ _ _ _ _ => pg_name (i := 1) sc_price.nd rfl (Or.inl rfl)) (fun _ _ _ _ _ => pts_nil) (fun _ _ _ _ _ => by exact (pe_ifExp (pt_cmpR op_eq (pe_ix (r := rIxT K) ix_tup (pv 1) pe_int (fun _ _ => rfl)) pe_str (nomark _)) pe_int (pe_op op_add pe_int (pe_callB (r := Evl.rLenS K) len_seq (by rfl) T.n_len (by decide +kernel) (pa_cons (pe_ix (r := rIxT K) ix_tup (pv 1) pe_int (fun _ _ => rfl)) pa_nil)))))) pa_nil)))), ?_⟩
    refine ⟨_, rfl, a, rfl, ⟨_, hx.sq⟩, fun D hD => ?_⟩
    refine lc_vals (walk_tup (K := K) (a := a) (xs := xs)) (fun i v => xs[i]? = some v) (fun i => .int (((ps.getD i (.pt [])).cost : Nat) : Int)) hD (fun H4 s4 => sqT_up hx.sq s4) (by omega) (fun i H1 v H2 hi y => y) (fun i v H4 hi sm hv Q q => ?_) (fun H4 s4 e4 => ?_)
    · rw [hxl] at hi
      obtain ⟨x, hx1, hx2⟩ := hxe i hi
      rw [hx1] at hv
      cases hv
      have hg : ps.getD i (.pt []) = ps[i] := by rw [List.getD_eq_getElem?_getD, List.getElem?_eq_getElem hi]; rfl
      rw [hg] at q
      generalize ps[i] = pc at hx2 q
      have hx2 := Dx.up (Out.of sm) hx2
      cases pc with
      | cp u n =>
        obtain ⟨r, rfl, hr⟩ := dx_cp hx2
        refine ⟨_, rfl, r, _, 0, _, rfl, rfl, hr, atI_nat (j := 0) rfl, rfl, _, rfl, ifT copy_eq ?_⟩
        exact q _ (Same.refl _)
      | pt ws =>
        obtain ⟨r, t, rfl, hr, ht⟩ := dx_pt hx2
        refine ⟨_, rfl, r, _, 0, _, rfl, rfl, hr, atI_nat (j := 0) rfl, rfl, _, rfl, ifF put_eq ?_⟩
        refine ⟨_, rfl, r, _, 1, _, rfl, rfl, hr, atI_nat (j := 1) rfl, t, _, rfl, .inr ht, _, _, rfl, rfl, ?_⟩
        have := q _ (Same.refl _)
        have e : (((Pc.pt ws).cost : Nat) : Int) = 1 + ((intV ws).length : Int) := by
          rw [intV_len]
          show ((1 + ws.length : Nat) : Int) = _
          omega
        rw [e] at this
        exact this
    · refine ⟨D, (ps.map Pc.cost).map fun (n : Nat) => (n : Int), rfl, SqL.of ?_, ?_⟩
      · rw [e4, hxl, List.map_map, List.map_map]
        exact congrArg (fun z => some (HO.lst z)) (range_getD (fun pc : Pc => V.int ((pc.cost : Nat) : Int)) (.pt []) ps)
      · rw [sum_cast]
        exact q _ s4
theorem ok_put_on (T : Txt K mg A) : FnOk P w K mg base (L2N.CX P w) 3 A.a_put_on A.d_put_on ["elder", "pieces"] (spPutOn K A.c_BadPiece) := by
  refine Fun.okN T.F_put_on sc_put_on (fun vs H Q E h => ?_) (fun cdv B outer s H vs Q E hr h => ?_)
  · obtain ⟨e, el, S, v, ps, rfl, _⟩ := h
    rfl
  · obtain ⟨e, el, S, v, ps, rfl, he, hd, hl, hel, hpl, bad, good⟩ := h
    obtain ⟨a, xs, rfl, hx, hxl, hxe⟩ := dx_pcs hd
    have raise : ∀ n, putAt el 0 ps [] = .inl n → ∀ Hc, Same H Hc → ∀ Q' : XK, Q' = E → ∀ dx H2, Same Hc H2 → Hc dx = none → H2 dx = some (.xd [("number", .int (n : Int))]) → Q' (.ref A.c_BadPiece) (some dx) H2 := fun n h Hc s1 Q' eQ dx H2 s2 n2 e2 => by
      rw [eQ]
      exact bad n h dx H2 (s1.trans s2) (s1.free n2) e2
    refine ⟨_, (pss_cons (ps_set (i := 2) sc_put_on.nd rfl (.inl rfl) (pe_lst pa_nil))
    (pss_cons (ps_for (passes_of rfl) rfl (pi_enumT (by rfl) T.n_enumerate (pa_cons (pv 1) pa_nil)) (pg_tup (by rfl) (pgs_cons (pg_name (i := 3) sc_put_on.nd rfl (.inl rfl)) (pgs_cons (pg_name (i := 4) sc_put_on.nd rfl (.inl rfl)) pgs_nil)))
      (pss_cons (ps_if (pt_cmpR op_eq (pe_ix ix_tup (pv 4) pe_int (fun _ _ => rfl)) pe_str (nomark _)) (pss_cons (ps_expr (pe_bm PySem.F.plainAttrs_list PySem.F.slot_list_extend PySem.F.type_list_extend mt_extendT (pv 2) (pa_cons (pe_ix ix_tup (pv 4) pe_int (fun _ _ => rfl)) pa_nil)))
    (pss_one ps_continue)) pss_nil)
    (pss_cons (ps_par (i := 5) (j := 6) rfl sc_put_on.nd rfl rfl (by decide) rfl rfl (pa_cons (pe_ix ix_tup (pv 4) pe_int (fun _ _ => rfl)) (pa_cons (pe_ix ix_tup (pv 4) pe_int (fun _ _ => rfl)) pa_nil)) (by rfl))
    (pss_cons (ps_if (PW.pt (pw_or (pt_cmpR op_lt (pv 5) pe_int (nomark _)) (pw_or1 (pt_cmpR op_gt (pe_op op_add (pv 5) (pv 6)) (pe_callB len_seq (by rfl) T.n_len (by decide +kernel) (pa_cons (pv 0) pa_nil)) (nomark _))))) (pss_one (L2N.ps_raise rfl (L2N.takes_of rfl rfl rfl rfl) (pmk_errN T.x_BadPiece (ok_BadPiece_init T) (hr.mono (by omega)) (pa_cons (pv 3) pa_nil)))) pss_nil)
    (pss_one (ps_expr (pe_bm PySem.F.plainAttrs_list PySem.F.slot_list_extend PySem.F.type_list_extend mt_extendT (pv 2) (pa_cons (pe_slice sl_tupA (pv 0) (po_some (pv 5)) (po_some (pe_op op_add (pv 5) (pv 6)))) pa_nil))))))))
    (pss_one (ps_ret (pe_callTy tuple_of (by rfl) T.n_tuple (by decide +kernel) (pa_cons (pv 2) pa_nil)))))), ?_⟩
    refine ⟨lenOk (n := 0) rfl (by decide), fun D hD => ?_⟩
    generalize hH1 : upd H D _ = H1
    have s1 : Same H H1 := by rw [← hH1]; exact same_new hD
    have e1 : H1 D = some (.lst (intV [])) := by rw [← hH1]; exact upd_same
    clear hH1
    refine ⟨_, rfl, a, xs, rfl, sqT_up hx.sq s1, ?_⟩
    refine for_it (walk_enumT (K := K) (a := a) (xs := xs)) (fun i σ Hc => ∃ o3 o4 o5 o6 acc, σ = [some (.ref e), some (.ref a), some (.ref D), o3, o4, o5, o6] ∧ Same H Hc ∧ Hc D = some (.lst (intV acc)) ∧ acc.length ≤ 3000 * i ∧ putAt el i (ps.drop i) acc = putAt el 0 ps []) ⟨_, _, _, _, [], rfl, s1, e1, Nat.zero_le _, rfl⟩ (fun i σ Hc _ y => ?_) (fun i x σ H7 H8 hi y e => ?_) (fun σ H7 y => ?_)
    · obtain ⟨_, _, _, _, _, _, sm, _⟩ := y
      exact sqT_up hx.sq sm
    · obtain ⟨o3, o4, o5, o6, acc, rfl, sm, hw, hal, hpa⟩ := y
      obtain ⟨Tp, x, rfl, hT, rfl, hxi⟩ := e
      rw [hxl] at hi
      obtain ⟨x', hx1, hx2⟩ := hxe i hi
      rw [hx1] at hxi
      cases hxi
      have st : Same H7 (upd H7 Tp (.tup [.int (i : Nat), x])) := same_new hT
      have nT : D ≠ Tp := ne_of_none hw hT
      refine ⟨Tp, _, rfl, SqT.of upd_same, rfl, _, _, rfl, _, _, rfl, rfl, ?_⟩
      generalize hH8 : upd H7 Tp _ = H9 at st ⊢
      have s9 := sm.trans st
      have hw9 : H9 D = some (.lst (intV acc)) := st _ _ hw
      have hx2 := Dx.up (Out.of s9) hx2
      have he9 := sqT_up he s9
      rw [drop_at hi] at hpa
      have hpl := hpl
      have hmem : ps[i] ∈ ps := List.getElem_mem hi
      generalize ps[i] = pc at hx2 hpa hmem
      cases pc with
      | pt ws =>
        obtain ⟨r, t, rfl, hr, ht⟩ := dx_pt hx2
        have hwl := hpl ws hmem
        refine ⟨_, rfl, r, _, 0, _, rfl, rfl, hr, atI_nat (j := 0) rfl, rfl, _, rfl, ifT put_put ?_⟩
        refine ⟨_, rfl, .inl ⟨rfl, _, SqL.of hw9⟩, _, rfl, r, _, 1, _, rfl, rfl, hr, atI_nat (j := 1) rfl, D, t, _, _, rfl, rfl, hw9, ht, ?_, ?_⟩
        · rw [intV_len, intV_len]
          exact Nat.le_trans (show _ ≤ 16000000 by omega) (by decide)
        · refine ⟨_, _, _, _, acc ++ ws, rfl, same_mut s9 hD, by rw [intV_app]; exact upd_same, by rw [List.length_append]; omega, hpa⟩
      | cp u n =>
        obtain ⟨r, rfl, hr⟩ := dx_cp hx2
        refine ⟨_, rfl, r, _, 0, _, rfl, rfl, hr, atI_nat (j := 0) rfl, rfl, _, rfl, ifF copy_put ?_⟩
        refine ⟨_, rfl, r, _, 1, _, rfl, rfl, hr, atI_nat (j := 1) rfl, _, rfl, r, _, 2, _, rfl, rfl, hr, atI_nat (j := 2) rfl, _, _, rfl, ?_⟩
        refine ⟨_, rfl, _, _, rfl, rfl, _, rfl, ifF (decide_eq_false (by omega)) ?_⟩
        refine ⟨_, rfl, _, rfl, _, _, rfl, rfl, _, rfl, e, _, rfl, .inr he9, _, _, rfl, rfl, _, rfl, ?_⟩
        rw [intV_len]
        refine ifB (fun ee => ?_) (fun ee => ?_)
        · have ee := of_decide_eq_true ee
          have hh : putAt el 0 ps [] = .inl i := by
            rw [← hpa]
            show (if u + n > el.length then _ else _) = _
            rw [if_pos (by omega)]
          exact ⟨_, rfl, keep_end fun dx H2 s2 n2 e2 => raise i hh _ s9 _ rfl dx H2 s2 n2 e2⟩
        · have ee := of_decide_eq_false ee
          have hh : putAt el (i + 1) (ps.drop (i + 1)) (acc ++ (el.drop u).take n) = putAt el 0 ps [] := by
            rw [← hpa]
            show _ = (if u + n > el.length then _ else _)
            rw [if_neg (by omega)]
          refine ⟨_, rfl, .inl ⟨rfl, _, SqL.of hw9⟩, _, rfl, _, rfl, _, rfl, _, rfl, _, rfl, _, _, rfl, rfl, _, rfl, slA_of he9 fun p H10 s10 hp => ?_⟩
          rw [show (u : Int) + (n : Int) = ((u + n : Nat) : Int) by omega, cutV_mid (by rw [intV_len]; omega), intV_cut, show u + n - u = n by omega] at hp
          refine ⟨D, p, _, _, rfl, rfl, s10 _ _ hw9, hp, ?_, ?_⟩
          · rw [intV_len, intV_len, List.length_take, List.length_drop]
            exact Nat.le_trans (show _ ≤ 16000000 by omega) (by decide)
          · refine ⟨_, _, _, _, acc ++ (el.drop u).take n, rfl, same_mut (s9.trans s10) hD, by rw [intV_app]; exact upd_same, by rw [List.length_append, List.length_take, List.length_drop]; omega, hh⟩
    · obtain ⟨o3, o4, o5, o6, acc, rfl, sm, hw, hal, hpa⟩ := y
      rw [hxl, List.drop_length] at hpa
      refine ⟨_, rfl, D, _, rfl, .inl ⟨SqL.of hw, fun l hl => ?_⟩⟩
      exact good acc hpa.symm _ l (sm.trans (same_new hl)) (sm.free hl) upd_same
end
theorem xt_sq {K : PySem.W.Frag} {H : Hp} {S : ASet} {r : Addr} {xs : List V} (h : SqT K H r xs) (n : ∀ a, S a → ∃ ys, H a = some (.lst ys)) : XT K H S r xs := by
  rcases h with h | h
  · refine .inl ⟨fun z => ?_, h⟩
    obtain ⟨ys, e⟩ := n r z
    rcases h with h | ⟨o, h⟩ <;> rw [e] at h <;> cases h
  · exact .inr (.inr h)
def spDiff (K : PySem.W.Frag) (C : Addr) : Sp := fun vs H Q F => ∃ (a b : Addr) (E N : List Nat), vs = [.ref a, .ref b] ∧ SqT K H a (intV E) ∧ SqT K H b (intV N) ∧ (∀ w ∈ E, w ≤ 65535) ∧ (∀ w ∈ N, w ≤ 65535) ∧ E.length ≤ 3000 ∧ N.length ≤ 3000 ∧
  ((2048 < E.length ∨ 2048 < N.length) → ∀ dz H', Same H H' → H dz = none → H' dz = some (.xd [("limit", .int 2048)]) → F (.ref C) (some dz) H') ∧
  (E.length ≤ 2048 → N.length ≤ 2048 → ∀ H' q, Same H H' → Dx K H' noS (.ref q) (pcsD (pcs E N)) → Q (.ref q) H')
section
variable {P : Program} {w : World} {K : PySem.W.Frag} {mg : Str → Option Value} {base : Heap} {A : Ads}
theorem ok_difference (T : Txt K mg A) : FnOk P w K mg base (L2N.CX P w) 3 A.a_difference A.d_difference ["elder", "newer"] (spDiff K A.c_TooMany) := by
  refine Fun.okN T.F_difference sc_difference (fun vs H Q E h => ?_) (fun cdv B outer s H vs Q F hr h => ?_)
  · obtain ⟨a, b, E, N, rfl, _⟩ := h
    rfl
  · obtain ⟨a, b, E, N, rfl, ha, hb, hE, hN, hEl, hNl, bad, good⟩ := h
    refine ⟨_, (pss_cons (ps_if (PW.pt (pw_or (pt_cmpR op_gt (pe_callB len_seq (by rfl) T.n_len (by decide +kernel) (pa_cons (pv 0) pa_nil)) (pe_glob (v := .int 2048) rfl T.g_MOST_WORDS ⟨_, rfl⟩) (nomark _)) (pw_or1 (pt_cmpR op_gt (pe_callB len_seq (by rfl) T.n_len (by decide +kernel) (pa_cons (pv 1) pa_nil)) (pe_glob (v := .int 2048) rfl T.g_MOST_WORDS ⟨_, rfl⟩) (nomark _))))) (pss_one (L2N.ps_raise rfl (L2N.takes_of rfl rfl rfl rfl) (pmk_errN T.x_TooMany (ok_TooMany_init T) (hr.mono (by omega)) (pa_cons (pe_glob (v := .int 2048) rfl T.g_MOST_WORDS ⟨_, rfl⟩) pa_nil)))) pss_nil)
    (pss_cons (ps_set (i := 2) sc_difference.nd rfl (.inl rfl) (pe_call (ok_longest_copies T) (hr.mono (by omega)) rfl T.g_longest_copies T.F_longest_copies.kp T.b_longest_copies .nil pass0 (pa_cons (pv 0) (pa_cons (pv 1) pa_nil))))
    (pss_cons (ps_set (i := 3) sc_difference.nd rfl (.inl rfl) (pe_call (ok_prices_from T) (hr.mono (by omega)) rfl T.g_prices_from T.F_prices_from.kp T.b_prices_from .nil pass0 (pa_cons (pv 2) pa_nil)))
    (pss_cons (ps_set (i := 4) sc_difference.nd rfl (.inl rfl) (pe_lst pa_nil))
    (pss_cons (ps_set (i := 5) sc_difference.nd rfl (.inl rfl) pe_int)
    (pss_cons (ps_while (passes_of rfl) (pt_cmpR op_lt (pv 5) (pe_callB len_seq (by rfl) T.n_len (by decide +kernel) (pa_cons (pv 1) pa_nil)) (nomark _)) (pss_cons (ps_asg (pe_ix ix_list (pv 2) (pv 5) (fun _ _ => rfl)) (pg_tup (by rfl) (pgs_cons (pg_name (i := 6) sc_difference.nd rfl (.inl rfl)) (pgs_cons (pg_name (i := 7) sc_difference.nd rfl (.inl rfl)) pgs_nil))))
    (pss_cons (ps_if (PW.pt (pw_and (pt_cmpR op_gt (pv 7) pe_int (nomark _)) (pw_and1 (pt_cmpR op_eq (pe_ix ix_list (pv 3) (pv 5) (fun _ _ => rfl)) (pe_op op_add pe_int (pe_ix ix_list (pv 3) (pe_op op_add (pv 5) (pv 7)) (fun _ _ => rfl))) (nomark _))))) (pss_one (ps_expr (pe_bm PySem.F.plainAttrs_list PySem.F.slot_list_append PySem.F.type_list_append mt_append (pv 4) (pa_cons (pe_tup (pa_cons pe_str (pa_cons (pv 6) (pa_cons (pv 7) pa_nil)))) pa_nil)))) (pss_cons (ps_set (i := 7) sc_difference.nd rfl (.inl rfl) (pe_call (ok_longest_put T) (hr.mono (by omega)) rfl T.g_longest_put T.F_longest_put.kp T.b_longest_put .nil pass0 (pa_cons (pv 3) (pa_cons (pv 5) pa_nil))))
    (pss_one (ps_expr (pe_bm PySem.F.plainAttrs_list PySem.F.slot_list_append PySem.F.type_list_append mt_append (pv 4) (pa_cons (pe_tup (pa_cons pe_str (pa_cons (pe_callTy call_tupleT (by rfl) T.n_tuple (by decide +kernel) (pa_cons (pe_slice sl_tupA (pv 1) (po_some (pv 5)) (po_some (pe_op op_add (pv 5) (pv 7)))) pa_nil)) pa_nil))) pa_nil))))))
    (pss_one (ps_aug (i := 5) sc_difference.nd rfl (.inl rfl) (pv 7) ip_add)))))
    (pss_one (ps_ret (pe_callTy tuple_of (by rfl) T.n_tuple (by decide +kernel) (pa_cons (pv 4) pa_nil)))))))))), ?_⟩
    have hil := intV_len N
    have hie := intV_len E
    refine ⟨_, rfl, a, _, rfl, .inr ha, _, _, rfl, rfl, ?_⟩
    rw [hie]
    by_cases z1 : 2048 < E.length
    · refine ⟨true, congrArg V.bl (decide_eq_true (show (2048 : Int) < (E.length : Int) by omega)), ?_⟩
      refine ifT rfl ?_
      exact keep_end fun dz H2 s2 n2 e2 => bad (.inl z1) dz H2 s2 n2 e2
    refine ⟨false, congrArg V.bl (decide_eq_false (show ¬ (2048 : Int) < (E.length : Int) by omega)), ifF rfl ?_⟩
    refine ⟨_, rfl, b, _, rfl, .inr hb, _, _, rfl, rfl, ?_⟩
    rw [hil]
    by_cases z2 : 2048 < N.length
    · refine ⟨true, congrArg V.bl (decide_eq_true (show (2048 : Int) < (N.length : Int) by omega)), ?_⟩
      refine ifT rfl ?_
      exact keep_end fun dz H2 s2 n2 e2 => bad (.inr z2) dz H2 s2 n2 e2
    refine ⟨false, congrArg V.bl (decide_eq_false (show ¬ (2048 : Int) < (N.length : Int) by omega)), ifF rfl ?_⟩
    have good := good (by omega) (by omega)
    clear bad
    refine ⟨_, rfl, _, rfl, a, b, E, N, rfl, ha, hb, hE, hN, hEl, hNl, fun H1 l xs s1 e1 k1 => ?_⟩
    refine ⟨_, rfl, l, xs, E, N, rfl, e1, k1, hNl, fun H2 pr s2 e2 => ?_⟩
    have s12 := s1.trans s2
    have el2 := s2 _ _ e1
    have k2 := k1.up fun p o h => s2 _ _ h
    refine ⟨lenOk (n := 0) rfl (by decide), fun D hD => ?_⟩
    have s3 := same_new (o := .lst []) hD
    have e3 : upd H2 D (.lst []) D = some (.lst []) := upd_same
    have hDH := s12.free hD
    have nDl : l ≠ D := ne_of_none el2 hD
    have nDp : pr ≠ D := ne_of_none e2 hD
    generalize upd H2 D (.lst []) = H3 at s3 e3 ⊢
    have el3 := s3 _ _ el2
    have ep3 := s3 _ _ e2
    have k3 := k2.up fun p o h => s3 _ _ h
    have s13 := s12.trans s3
    have hRl := RP_len E N
    refine ⟨fun m σ Hz => ∃ (i : Nat) (o6 o7 : Option V) (acc : List V) (done : List Pc), σ = [some (.ref a), some (.ref b), some (.ref l), some (.ref pr), some (.ref D), some (.int (i : Int)), o6, o7] ∧ Same H Hz ∧ Hz l = some (.lst xs) ∧ Hz pr = some (.lst (intV (RP E N))) ∧ PrK Hz xs (cpyL E N N.length) ∧ Hz D = some (.lst acc) ∧ acc.length ≤ i ∧ DxAll K Hz (inS noS D) acc (done.map pcD) ∧ i ≤ N.length ∧ done ++ pcs E (N.drop i) = pcs E N ∧ m = N.length - i, ⟨_, 0, _, _, [], [], rfl, s13, el3, ep3, k3, e3, Nat.le_refl _, .nil, Nat.zero_le _, rfl, rfl⟩, fun m σ Hz y => ?_⟩
    obtain ⟨i, o6, o7, acc, done, rfl, sm, el, ep, kk, eD, hal, hda, hi, hdn, rfl⟩ := y
    refine ⟨_, rfl, _, rfl, b, _, rfl, .inr (sqT_up hb sm), _, _, rfl, rfl, _, rfl, ?_⟩
    rw [hil]
    refine ifB (fun e => ?_) (fun e => ?_)
    · have e := of_decide_eq_true e
      have hi' : i < N.length := by omega
      refine ⟨_, fun _ _ h => h, ?_⟩
      obtain ⟨pk, pk1, pk2⟩ := kk.2 i _ (cpyL_at E N hi')
      have ed : N.drop i = N[i] :: N.drop (i + 1) := List.drop_eq_getElem_cons hi'
      have hR0 : (RP E N).getD i 0 = nx (RP E (N.drop (i + 1))) (lcn E (N.drop i)) := by
        rw [RP_get E N i hi, ed]
        rfl
      have hcl := lcn_le E (N.drop i)
      rw [List.length_drop] at hcl
      have hRc : ∀ c, 1 ≤ c → i + c ≤ N.length → (RP E N).getD (i + c) 0 = (RP E (N.drop (i + 1))).getD (c - 1) 0 := fun c h1 h2 => by
        rw [RP_get E N _ h2, RP_get E (N.drop (i + 1)) (c - 1) (by rw [List.length_drop]; omega), List.drop_drop, show i + 1 + (c - 1) = i + c by omega]
      have hpc := pcs_cons E (N.drop (i + 1)) N[i]
      rw [← ed] at hpc
      have hfl := fstP_le E (N.drop (i + 1)) N[i]
      rw [← ed, List.length_drop] at hfl
      have hat : ∀ j, j ≤ N.length → atI (intV (RP E N)) (j : Int) = some (.int (((RP E N).getD j 0 : Nat) : Int)) := fun j hj => atI_nat (intV_at (by omega))
      have step : ∀ (pc : Pc) (G : Hp) (q : Addr), Same Hz G → Dx K G (inS noS D) (.ref q) (pcD pc) → Same H (upd G D (.lst (acc ++ [V.ref q]))) ∧ DxAll K (upd G D (.lst (acc ++ [V.ref q]))) (inS noS D) (acc ++ [V.ref q]) ((done ++ [pc]).map pcD) := fun pc G q s2 d2 => by
        refine ⟨same_mut (sm.trans s2) hDH, ?_⟩
        have o : Out (inS noS D) G (upd G D (.lst (acc ++ [V.ref q]))) := (Out.refl _ _).put (.inr rfl)
        rw [List.map_append]
        exact dxAll_app (DxAll.up o (DxAll.up (Out.of s2) hda)) (.cons (Dx.up o d2) .nil)
      have fin : ∀ (pc : Pc) (c : Nat) (G : Hp) (q : Addr), Same Hz G → Dx K G (inS noS D) (.ref q) (pcD pc) → fstP E (RP E (N.drop (i + 1))) (N.drop i) = (pc, c) → ∀ (o6 o7 : Option V) (z : Int), z = (i : Int) + (c : Int) → ∃ m' : Nat, m' < N.length - i ∧ ∃ (i : Nat) (p6 p7 : Option V) (acc' : List V) (done : List Pc), [some (V.ref a), some (.ref b), some (.ref l), some (.ref pr), some (.ref D), some (.int z), o6, o7] = [some (.ref a), some (.ref b), some (.ref l), some (.ref pr), some (.ref D), some (.int (i : Int)), p6, p7] ∧ Same H (upd G D (.lst (acc ++ [V.ref q]))) ∧ upd G D (.lst (acc ++ [V.ref q])) l = some (.lst xs) ∧ upd G D (.lst (acc ++ [V.ref q])) pr = some (.lst (intV (RP E N))) ∧ PrK (upd G D (.lst (acc ++ [V.ref q]))) xs (cpyL E N N.length) ∧ upd G D (.lst (acc ++ [V.ref q])) D = some (.lst acc') ∧ acc'.length ≤ i ∧ DxAll K (upd G D (.lst (acc ++ [V.ref q]))) (inS noS D) acc' (done.map pcD) ∧ i ≤ N.length ∧ done ++ pcs E (N.drop i) = pcs E N ∧ m' = N.length - i := fun pc c G q s2 d2 hf o6 o7 z hz => by
        obtain ⟨t1, t2⟩ := step pc G q s2 d2
        rw [hf] at hfl hpc
        refine ⟨N.length - (i + c), by omega, i + c, o6, o7, acc ++ [V.ref q], done ++ [pc], by rw [hz, Int.natCast_add], t1, ?_, ?_, kk.up fun p o h => ?_, upd_same, ?_, t2, by omega, ?_, rfl⟩
        · rw [upd_ne nDl]
          exact s2 _ _ el
        · rw [upd_ne nDp]
          exact s2 _ _ ep
        · rw [upd_ne (fun y => by rw [y, eD] at h; cases h)]
          exact s2 _ _ h
        · rw [List.length_append]
          show _ + 1 ≤ _
          omega
        · rw [List.append_assoc, ← hdn, hpc, List.drop_drop]
          rfl
      refine ⟨_, rfl, _, rfl, l, _, _, _, rfl, rfl, SqL.of el, atI_nat pk1, pk, _, rfl, SqT.of pk2, rfl, _, _, rfl, _, _, rfl, rfl, ?_⟩
      refine ⟨_, rfl, _, _, rfl, rfl, _, rfl, ifB (fun e1 => ?_) (fun e1 => ?_)⟩
      · have e1 : 0 < lcn E (N.drop i) := by
          have : (0 : Int) < ((lcn E (N.drop i) : Nat) : Int) := of_decide_eq_true e1
          omega
        refine ⟨_, rfl, _, rfl, pr, _, _, _, rfl, rfl, SqL.of ep, hat i hi, _, rfl, _, rfl, _, rfl, _, _, rfl, rfl, pr, _, _, _, rfl, rfl, SqL.of ep, (by have := hat (i + lcn E (N.drop i)) (by omega); rw [Int.natCast_add] at this; exact this), _, _, rfl, rfl, rfl, _, rfl, ?_⟩
        rw [hRc _ e1 (by omega)]
        by_cases hc : isCopy (RP E (N.drop (i + 1))) (lcn E (N.drop i))
        · have h2 := ((nx_copy _ _).mpr hc).2
          refine ifT (decide_eq_true (congrArg V.int ?_)) ?_
          · rw [hR0, h2]
            omega
          · refine ⟨_, rfl, .inl ⟨rfl, _, SqL.of eD⟩, _, rfl, _, rfl, lenOk (n := 3) rfl (by decide), fun q hq => ?_⟩
            have nq : D ≠ q := ne_of_none eD hq
            refine ⟨D, _, _, rfl, rfl, by rw [upd_ne nq]; exact eD, lt_line (by omega), _, rfl, _, rfl, _, _, rfl, rfl, ?_⟩
            refine fin (.cp (fat E (N.drop i)) (lcn E (N.drop i))) (lcn E (N.drop i)) _ q (same_new hq) (mk_cp upd_same fun z => z.elim (fun z => z) fun z => nq z.symm) ?_ _ _ _ rfl
            unfold fstP
            rw [if_pos hc]
        · have hnc := hc
          have h2 : ¬ nx (RP E (N.drop (i + 1))) (lcn E (N.drop i)) = 2 + (RP E (N.drop (i + 1))).getD (lcn E (N.drop i) - 1) 0 := fun z => hc ((nx_copy _ _).mp ⟨e1, z⟩)
          refine ifF (decide_eq_false fun z => ?_) ?_
          · have := V.int.inj z
            rw [hR0] at this
            omega
          have hf : fstP E (RP E (N.drop (i + 1))) (N.drop i) = (.pt ((N.drop i).take (bp (RP E (N.drop (i + 1))))), bp (RP E (N.drop (i + 1)))) := by
            unfold fstP
            rw [if_neg hnc]
          have hmm : (RP E N).getD i 0 = mm (RP E (N.drop (i + 1))) := by rw [hR0, nx_put hnc]
          have hfl2 := hfl
          rw [hf] at hfl2
          refine ⟨_, rfl, _, rfl, pr, i, E, N, rfl, ep, hi', hNl, hmm, ?_⟩
          refine ⟨_, rfl, .inl ⟨rfl, _, SqL.of eD⟩, _, rfl, _, rfl, _, rfl, _, rfl, _, rfl, _, _, rfl, rfl, _, rfl, slA_of (sqT_up hb sm) fun p7 H7 s7 hp7 => ?_⟩
          rw [show (i : Int) + ((bp (RP E (N.drop (i + 1))) : Nat) : Int) = ((i + bp (RP E (N.drop (i + 1))) : Nat) : Int) by omega, cutV_mid (by rw [intV_len]; omega), intV_cut, show i + bp (RP E (N.drop (i + 1))) - i = bp (RP E (N.drop (i + 1))) by omega] at hp7
          refine ⟨p7, _, rfl, hp7, lenOk (n := 2) rfl (by decide), fun q hq => ?_⟩
          have eD7 := s7 _ _ eD
          have nq : D ≠ q := ne_of_none eD7 hq
          have s8 := same_new (o := .tup [V.str (Str.ofString "put"), V.ref p7]) hq
          refine ⟨D, _, _, rfl, rfl, by rw [upd_ne nq]; exact eD7, lt_line (by omega), _, rfl, _, rfl, _, _, rfl, rfl, ?_⟩
          exact fin (.pt ((N.drop i).take (bp (RP E (N.drop (i + 1)))))) (bp (RP E (N.drop (i + 1)))) _ q (s7.trans s8) (mk_pt upd_same (fun z => z.elim (fun z => z) fun z => nq z.symm) (xt_sq (sqT_up hp7 s8) fun z hz => hz.elim (fun z => z.elim) fun hz => ⟨acc, by rw [hz]; exact s8 _ _ eD7⟩)) hf _ _ _ rfl
      · have hnc : ¬ isCopy (RP E (N.drop (i + 1))) (lcn E (N.drop i)) := fun z => by
          have : ¬ (0 : Int) < ((lcn E (N.drop i) : Nat) : Int) := of_decide_eq_false e1
          have := z.1
          omega
        have hf : fstP E (RP E (N.drop (i + 1))) (N.drop i) = (.pt ((N.drop i).take (bp (RP E (N.drop (i + 1))))), bp (RP E (N.drop (i + 1)))) := by
          unfold fstP
          rw [if_neg hnc]
        have hmm : (RP E N).getD i 0 = mm (RP E (N.drop (i + 1))) := by rw [hR0, nx_put hnc]
        have hfl2 := hfl
        rw [hf] at hfl2
        refine ⟨_, rfl, _, rfl, pr, i, E, N, rfl, ep, hi', hNl, hmm, ?_⟩
        refine ⟨_, rfl, .inl ⟨rfl, _, SqL.of eD⟩, _, rfl, _, rfl, _, rfl, _, rfl, _, rfl, _, _, rfl, rfl, _, rfl, slA_of (sqT_up hb sm) fun p7 H7 s7 hp7 => ?_⟩
        rw [show (i : Int) + ((bp (RP E (N.drop (i + 1))) : Nat) : Int) = ((i + bp (RP E (N.drop (i + 1))) : Nat) : Int) by omega, cutV_mid (by rw [intV_len]; omega), intV_cut, show i + bp (RP E (N.drop (i + 1))) - i = bp (RP E (N.drop (i + 1))) by omega] at hp7
        refine ⟨p7, _, rfl, hp7, lenOk (n := 2) rfl (by decide), fun q hq => ?_⟩
        have eD7 := s7 _ _ eD
        have nq : D ≠ q := ne_of_none eD7 hq
        have s8 := same_new (o := .tup [V.str (Str.ofString "put"), V.ref p7]) hq
        refine ⟨D, _, _, rfl, rfl, by rw [upd_ne nq]; exact eD7, lt_line (by omega), _, rfl, _, rfl, _, _, rfl, rfl, ?_⟩
        exact fin (.pt ((N.drop i).take (bp (RP E (N.drop (i + 1)))))) (bp (RP E (N.drop (i + 1)))) _ q (s7.trans s8) (mk_pt upd_same (fun z => z.elim (fun z => z) fun z => nq z.symm) (xt_sq (sqT_up hp7 s8) fun z hz => hz.elim (fun z => z.elim) fun hz => ⟨acc, by rw [hz]; exact s8 _ _ eD7⟩)) hf _ _ _ rfl
    · have e := of_decide_eq_false e
      have : i = N.length := by omega
      subst this
      rw [List.drop_length, pcs_nil, List.append_nil] at hdn
      subst hdn
      refine ⟨_, rfl, D, _, rfl, .inl ⟨SqL.of eD, fun t ht => ?_⟩⟩
      refine good _ t (sm.trans (same_new ht)) (.tup (XT.of upd_same (fun z => z.elim)) ?_)
      exact DxAll.less (fun _ z => z.elim) (DxAll.up (Out.of (same_new ht)) hda)
end
end R1

namespace R1
open PySem PySem.Spec PyProof.Rows L2 RK DL PT
local macro_rules | `(tactic| walk_at "sq") => `(tactic| first
  | exact SqL.of upd_same | exact upd_same | exact SqL.of (by assumption) | exact SqL.of (by rw [upd_ne (by assumption)]; assumption) | assumption)
local macro_rules | `(tactic| walk_at "sd") => `(tactic| first
  | assumption | omega | (refine Or.inl ⟨?_, ?_⟩ <;> omega) | (show _ ∧ _; constructor <;> omega) | (show _ ≠ _; simp; omega) | (exact Or.inl ⟨by decide, by decide⟩) | (exact Or.inr ⟨by decide, by decide⟩) | (show _ < _; decide) | (show _ ≤ _; decide))
local macro_rules | `(tactic| walk_at "at") => `(tactic| first | rfl | (refine atI_intV ?_ ?_ <;> omega) | assumption)
local macro_rules | `(tactic| walk_at "s1") => `(tactic| first
  | refine ⟨_, rfl, ?_⟩ | refine ⟨_, _, rfl, rfl, ?_⟩ | refine ⟨rfl, ?_⟩
  | refine ⟨_, _, _, _, rfl, rfl, by walk_at "sq", by walk_at "at", ?_⟩
  | refine Or.inl ⟨_, rfl, ?_⟩
  | refine ⟨_, _, rfl, Or.inl (by walk_at "sq"), ?_⟩
  | refine And.intro (by walk_at "sd") ?_)
local macro_rules | `(tactic| walk_at "s") => `(tactic| repeat walk_at "s1")

def spWord : Sp := fun vs H Q _ => ∃ (c p : Addr), vs = [.ref p] ∧ Src c H p ∧ ∀ H' (w : Nat), w ≤ 65535 → Src c H' p → But p H H' → Q (.int (w : Int)) H'
def natD (l : List Nat) : List PyData := l.map fun (n : Nat) => PyData.int (n : Int)
theorem eqv_nats : ∀ a b : List Nat, PyData.eqvAll (natD a) (natD b) = decide (a = b)
  | [], [] => rfl
  | [], _ :: _ => rfl
  | _ :: _, [] => rfl
  | x :: a, y :: b => by
    show (PyData.eqv (.int (x : Int)) (.int (y : Int)) && PyData.eqvAll (natD a) (natD b)) = _
    rw [eqv_nats a b]
    show (decide ((x : Int) = (y : Int)) && decide (a = b)) = _
    rw [Bool.eq_iff_iff, Bool.and_eq_true, decide_eq_true_eq, decide_eq_true_eq, decide_eq_true_eq, List.cons.injEq]
    constructor
    · rintro ⟨h1, h2⟩
      exact ⟨by omega, h2⟩
    · rintro ⟨h1, h2⟩
      exact ⟨by omega, h2⟩
theorem shaped_nats (a : List Nat) : SeqAt.shaped (.list (natD a)) = true := by
  unfold SeqAt.shaped
  have e : natD a = (a.map fun (n : Nat) => (n : Int)).map PyData.int := by
    unfold natD
    rw [List.map_map]
    rfl
  rw [show (PyData.list (natD a)).canLay0 = PyData.canLayAll0 (natD a) from rfl, show (PyData.list (natD a)).depth = PyData.depthAll (natD a) + 1 from rfl, e, lay_ints, dep_ints]
  rfl
theorem dxAll_nats {K : PySem.W.Frag} {H : Hp} {S : ASet} (a : List Nat) : DxAll K H S (intV a) (natD a) := by
  rw [intV_ints]
  have e : natD a = (a.map fun (n : Nat) => (n : Int)).map PyData.int := by
    unfold natD
    rw [List.map_map]
    rfl
  rw [e]
  exact dxAll_ints _
theorem dp_nats {K : PySem.W.Frag} {H : Hp} {p : Addr} {a : List Nat} (h : H p = some (.lst (intV a))) : Dp K H (.ref p) (.list (natD a)) :=
  Dx.dp (S := noS) (.lst (XL.of h fun z => z) (dxAll_nats a))
theorem cutV_ints (ws : List Nat) {a b : Nat} (hb : b ≤ ws.length) : cutV (intV ws) (some (a : Int)) (some (b : Int)) = intV ((ws.drop a).take (b - a)) := by
  rw [cutV_mid (by rw [intV_len]; exact hb), intV_cut]
/-- the parts of a list, beyond its end too -/
theorem cutV_any (ws : List Nat) (a b : Nat) : cutV (intV ws) (some (a : Int)) (some (b : Int)) = intV ((ws.drop a).take (b - a)) := by
  by_cases h : b ≤ ws.length
  · exact cutV_ints ws h
  · show ((intV ws).drop (HT.sIx (intV ws).length 0 (some (a : Int)))).take (HT.sIx (intV ws).length (intV ws).length (some (b : Int)) - HT.sIx (intV ws).length 0 (some (a : Int))) = _
    rw [HT.sIx_nat, HT.sIx_nat, intV_len, intV_cut, Nat.min_eq_right (show ws.length ≤ b by omega)]
    refine congrArg intV ?_
    by_cases h2 : a ≤ ws.length
    · rw [Nat.min_eq_left h2, List.take_of_length_le (by rw [List.length_drop]; omega), List.take_of_length_le (by rw [List.length_drop]; omega)]
    · rw [Nat.min_eq_right (by omega), List.drop_length, List.drop_of_length_le (show ws.length ≤ a by omega), List.take_nil, List.take_nil]
def ChE (K : PySem.W.Frag) (S : ASet) (H : Hp) (p : Addr) (ch : Ch) : Prop := ∃ r : Addr, ¬ S p ∧ H p = some (.tup [.ref r, .int (ch.n : Int), .int (ch.c : Int)]) ∧ Dx K H S (.ref r) (pcD ch.pc)
/-- lists and dicts aside all stays -/
def notL : HO → Bool
  | .lst _ => false
  | .dT _ => false
  | .dK _ => false
  | _ => true
def LsK {α : Type} (E : Hp → Addr → α → Prop) (H : Hp) (xs : List V) (as : List α) : Prop := xs.length = as.length ∧ ∀ (k : Nat) (a : α), as[k]? = some a → ∃ p : Addr, xs[k]? = some (V.ref p) ∧ E H p a
theorem LsK.up {α : Type} {E : Hp → Addr → α → Prop} {H H' : Hp} {xs : List V} {as : List α} (h : LsK E H xs as) (st : ∀ p a, E H p a → E H' p a) : LsK E H' xs as := ⟨h.1, fun k a ha => let ⟨p, e, f⟩ := h.2 k a ha; ⟨p, e, st _ _ f⟩⟩
theorem LsK.nil {α : Type} {E : Hp → Addr → α → Prop} {H : Hp} : LsK E H [] ([] : List α) := ⟨rfl, fun k a h => by cases h⟩
theorem LsK.snoc {α : Type} {E : Hp → Addr → α → Prop} {H : Hp} {xs : List V} {as : List α} {p : Addr} {a : α} (h : LsK E H xs as) (e : E H p a) : LsK E H (xs ++ [.ref p]) (as ++ [a]) := by
  refine ⟨by rw [List.length_append, List.length_append, h.1]; rfl, fun k t ht => ?_⟩
  rcases Nat.lt_or_ge k as.length with z | z
  · rw [List.getElem?_append_left z] at ht
    obtain ⟨y, a, b⟩ := h.2 k t ht
    exact ⟨y, by rw [List.getElem?_append_left (by rw [h.1]; exact z)]; exact a, b⟩
  · have hk : k = as.length := by
      have := (List.getElem?_eq_some_iff.mp ht).1
      rw [List.length_append] at this
      simp at this
      omega
    subst hk
    rw [List.getElem?_append_right (Nat.le_refl _), Nat.sub_self] at ht
    cases ht
    exact ⟨p, by rw [← h.1, List.getElem?_append_right (Nat.le_refl _), Nat.sub_self]; rfl, e⟩
theorem LsK.cons {α : Type} {E : Hp → Addr → α → Prop} {H : Hp} {xs : List V} {as : List α} {p : Addr} {a : α} (h : LsK E H xs as) (e : E H p a) : LsK E H (.ref p :: xs) (a :: as) := by
  refine ⟨congrArg (· + 1) h.1, fun k t ht => ?_⟩
  cases k with
  | zero =>
    cases ht
    exact ⟨p, rfl, e⟩
  | succ k => exact h.2 k t ht
theorem LsK.get {α : Type} {E : Hp → Addr → α → Prop} {H : Hp} {xs : List V} {as : List α} {i : Nat} {v : V} (h : LsK E H xs as) (hi : i < as.length) (e : xs[i]? = some v) : ∃ p, v = .ref p ∧ E H p as[i] := by
  obtain ⟨p, a, b⟩ := h.2 i as[i] (List.getElem?_eq_getElem hi)
  rw [a] at e
  exact ⟨p, (Option.some.inj e).symm, b⟩
theorem ChE.up {K : PySem.W.Frag} {S : ASet} {H H' : Hp} (s : Out S H H') {p : Addr} {ch : Ch} (h : ChE K S H p ch) : ChE K S H' p ch := let ⟨r, n, a, b⟩ := h; ⟨r, n, s _ _ n a, Dx.up s b⟩
theorem ChE.less {K : PySem.W.Frag} {S : ASet} {H : Hp} {p : Addr} {ch : Ch} (h : ChE K S H p ch) : ChE K noS H p ch := let ⟨r, n, a, b⟩ := h; ⟨r, fun z => z, a, Dx.less (fun _ z => z.elim) b⟩
def spPool : Sp := fun vs H Q _ => ∃ (c p : Addr) (n : Nat), vs = [.ref p, .int (n : Int)] ∧ Src c H p ∧ 1 ≤ n ∧ n ≤ 4 ∧ ∀ H' l (ws : List Nat), Src c H' p → But p H H' → H l = none → H' l = some (.lst (intV ws)) → 1 ≤ ws.length → ws.length ≤ 5 → (∀ w ∈ ws, w ≤ 65535) → Q (.ref l) H'
def spNewer : Sp := fun vs H Q _ => ∃ (c p a b : Addr) (pl el : List Nat), vs = [.ref p, .ref a, .ref b] ∧ Src c H p ∧ H a = some (.lst (intV pl)) ∧ H b = some (.lst (intV el)) ∧ a ≠ p ∧ b ≠ p ∧ 1 ≤ pl.length ∧ pl.length ≤ 100 ∧ el.length ≤ 100 ∧ (∀ w ∈ pl, w ≤ 65535) ∧ (∀ w ∈ el, w ≤ 65535) ∧ ∀ H' l (ws : List Nat), Src c H' p → But p H H' → H l = none → H' l = some (.lst (intV ws)) → ws.length ≤ 40 → (∀ w ∈ ws, w ≤ 65535) → Q (.ref l) H'
def spChoices (K : PySem.W.Frag) : Sp := fun vs H Q _ => ∃ (a b : Addr) (E N : List Nat) (pl : Nat), vs = [.ref a, .ref b, .int (pl : Int)] ∧ H a = some (.lst (intV E)) ∧ H b = some (.lst (intV N)) ∧ pl ≤ N.length ∧ E.length ≤ 3000 ∧ N.length ≤ 200 ∧ ∀ H' l xs, Same H H' → H' l = some (.lst xs) → LsK (ChE K noS) H' xs (cps E (N.drop pl) ++ pts (N.drop pl)) → Q (.ref l) H'
section
variable {P : Program} {w : World} {K : PySem.W.Frag} {mg : Str → Option Value} {base : Heap} {A : Ads}
theorem ok_law_word (T : Txt K mg A) : FnOk P w K mg base CX0 3 A.a_law_word A.d_law_word ["_law_source_here"] spWord := by
  refine T.F_law_word.ok sc_law_word (fun vs H Q E h => ?_) (fun cdv B outer s H vs Q E hr h => ?_)
  · obtain ⟨c, p, rfl, _⟩ := h
    rfl
  · obtain ⟨c, p, rfl, hs, q⟩ := h
    refine ⟨_, (pss_cons (ps_set (i := 1) sc_law_word.nd rfl (.inl rfl) (pe_call (ok_law_draw T) (hr.mono (by omega)) rfl T.g_law_draw T.F_law_draw.kp T.b_law_draw .nil pass0 (pa_cons (pv 0) (pa_cons pe_int pa_nil))))
    (pss_cons (ps_if (pt_cmpR op_lt (pv 1) pe_int (nomark _)) (pss_one (ps_ret (pe_call (ok_law_draw T) (hr.mono (by omega)) rfl T.g_law_draw T.F_law_draw.kp T.b_law_draw .nil pass0 (pa_cons (pv 0) (pa_cons pe_int pa_nil))))) pss_nil)
    (pss_cons (ps_if (pt_cmpR op_eq (pv 1) pe_int (nomark _)) (pss_one (ps_ret (pe_call (ok_law_draw T) (hr.mono (by omega)) rfl T.g_law_draw T.F_law_draw.kp T.b_law_draw .nil pass0 (pa_cons (pv 0) (pa_cons pe_int pa_nil))))) pss_nil)
    (pss_one (ps_ret (pe_op op_sub pe_int (pe_call (ok_law_draw T) (hr.mono (by omega)) rfl T.g_law_draw T.F_law_draw.kp T.b_law_draw .nil pass0 (pa_cons (pv 0) (pa_cons pe_int pa_nil))))))))), ?_⟩
    walk_at "s"
    refine ⟨c, p, 4, rfl, hs, by decide, by decide, fun H1 way lw hs1 b1 => ?_⟩
    walk_at "s"
    refine ite2 (fun e => ?_) (fun e => ?_)
    · walk_at "s"
      exact ⟨c, p, 10, rfl, hs1, by decide, by decide, fun H2 r l2 hs2 b2 => q _ r (by omega) hs2 (b1.trans b2)⟩
    walk_at "s"
    refine ite2 (fun e => ?_) (fun e => ?_)
    · walk_at "s"
      exact ⟨c, p, 65536, rfl, hs1, by decide, by decide, fun H2 r l2 hs2 b2 => q _ r (by omega) hs2 (b1.trans b2)⟩
    walk_at "s"
    refine ⟨c, p, 3, rfl, hs1, by decide, by decide, fun H2 r l2 hs2 b2 => ?_⟩
    have := q _ (65535 - r) (by omega) hs2 (b1.trans b2)
    rw [show ((65535 - r : Nat) : Int) = 65535 - (r : Int) by omega] at this
    exact ⟨_, _, rfl, rfl, this⟩
theorem ok_law_pool (T : Txt K mg A) : FnOk P w K mg base CX0 4 A.a_law_pool A.d_law_pool ["_law_source_here", "_law_count"] spPool := by
  refine T.F_law_pool.ok sc_law_pool (fun vs H Q E h => ?_) (fun cdv B outer s H vs Q E hr h => ?_)
  · obtain ⟨c, p, n, rfl, _⟩ := h
    rfl
  · obtain ⟨c, p, n, rfl, hs, hn1, hn4, q⟩ := h
    refine ⟨_, (pss_cons (ps_setLc (i := 3) (own := [("_law_step", 2)]) rfl sc_law_pool.nd rfl rfl (sw_true rfl rfl rfl (by decide +kernel)) (pi_range1 (by rfl) T.n_range (pa_cons (pv 1) pa_nil)) (blkOk_by (own := [("_law_step", 2)]) (N := N_law_pool) (sc := defScope s_law_pool) (by decide +kernel)) (fun _ _ _ _ _ => pg_name (i := 2) sc_law_pool.nd rfl (Or.inl rfl)) (fun _ _ _ _ _ => pts_nil) (fun _ _ _ _ _ => by exact (pe_call (ok_law_word T) (hr.mono (by omega)) rfl T.g_law_word T.F_law_word.kp T.b_law_word .nil pass0 (pa_cons (pv 0) pa_nil))))
    (pss_one (ps_ret (pe_op op_cat (pv 3) (pe_lst (pa_cons (pe_ix ix_list (pv 3) pe_int (fun _ _ => rfl)) pa_nil)))))), ?_⟩
    refine ⟨_, rfl, (n : Int), rfl, by omega, by omega, fun D hD => ?_⟩
    rw [Int.toNat_natCast]
    have nD : D ≠ p := fun z => src_ne hs (z ▸ hD)
    have ncD : D ≠ c := fun z => src_cne hs (z ▸ hD)
    refine lc_inv (walk_range (lo := 0) (n := n)) (fun i v => True) (fun i acc H4 => Src c H4 p ∧ But p H H4 ∧ ∃ ws : List Nat, acc = intV ws ∧ ∀ w ∈ ws, w ≤ 65535) (by omega) ⟨src_up hs (same_new hD), But.of (same_new hD), [], rfl, fun w h => by cases h⟩ (fun _ _ _ _ => trivial) (fun i H1 v H2 hi y => ⟨y.1, trivial⟩) (fun i v acc H4 hi hl pv e5 _ Q q => ?_) (fun acc H6 hl4 pv e6 => ?_)
    · obtain ⟨hs4, b4, ws, rfl, hw⟩ := pv
      refine ⟨_, rfl, c, p, rfl, hs4, fun H7 x hx hs7 b7 => ?_⟩
      refine q _ _ (b7 _ _ nD e5) ⟨src_put hs7 nD ncD, but_new (b4.trans b7) hD, ws ++ [x], by rw [intV_app]; rfl, fun w h => ?_⟩
      rcases List.mem_append.mp h with z | z
      · exact hw w z
      · rw [List.mem_singleton.mp z]
        exact hx
    · obtain ⟨hs6, b6, ws, rfl, hw⟩ := pv
      rw [intV_len] at hl4
      refine ⟨_, rfl, _, rfl, D, _, 0, _, rfl, rfl, SqL.of e6, atI_nat (j := 0) (intV_at (by omega)), lenOk (n := 1) rfl (by decide), fun l1 h1 => ?_⟩
      have n1 : D ≠ l1 := ne_of_none e6 h1
      refine ⟨D, l1, _, _, rfl, rfl, by rw [upd_ne n1]; exact e6, upd_same, le_line (by rw [intV_len]; show _ + 1 ≤ _; omega), fun l2 h2 => ?_⟩
      have s1 := same_new (o := .lst [V.int ((ws.getD 0 0 : Nat) : Int)]) h1
      have s2 := same_new (o := .lst (intV ws ++ [V.int ((ws.getD 0 0 : Nat) : Int)])) h2
      refine q _ l2 (ws ++ [ws.getD 0 0]) (src_up hs6 (s1.trans s2)) (b6.trans (But.of (s1.trans s2))) ?_ (by rw [upd_same, intV_app]; rfl) (by rw [List.length_append]; show 1 ≤ _ + 1; omega) (by rw [List.length_append]; show _ + 1 ≤ _; omega) fun w h => ?_
      · cases hh : H l2 with
        | none => rfl
        | some o =>
          have := b6 l2 o (fun z => src_ne (src_up hs6 s1) (z ▸ h2)) hh
          rw [s1 _ _ this] at h2
          cases h2
      · rcases List.mem_append.mp h with z | z
        · exact hw w z
        · rw [List.mem_singleton.mp z, List.getD_eq_getElem?_getD, List.getElem?_eq_getElem (by omega)]
          exact hw _ (List.getElem_mem _)
theorem ok_law_newer (T : Txt K mg A) : FnOk P w K mg base CX0 3 A.a_law_newer A.d_law_newer ["_law_source_here", "_law_pool_here", "_law_elder"] spNewer := by
  refine T.F_law_newer.ok sc_law_newer (fun vs H Q E h => ?_) (fun cdv B outer s H vs Q E hr h => ?_)
  · obtain ⟨c, p, a, b, pl, el, rfl, _⟩ := h
    rfl
  · obtain ⟨c, p, a, b, pl, el, rfl, hs, ha, hb, nap, nbp, hp1, hpl, hel, hpw, hew, q⟩ := h
    refine ⟨_, (pss_cons (ps_set (i := 3) sc_law_newer.nd rfl (.inl rfl) (pe_lst pa_nil))
    (pss_cons (ps_for PassesOwn.never rfl (pi_range1 (by rfl) T.n_range (pa_cons (pe_call (ok_law_draw T) (hr.mono (by omega)) rfl T.g_law_draw T.F_law_draw.kp T.b_law_draw .nil pass0 (pa_cons (pv 0) (pa_cons pe_int pa_nil))) pa_nil)) (pg_name (i := 4) sc_law_newer.nd rfl (.inl rfl))
      (pss_one (ps_if (PW.pt (pw_and (pt_cmpR op_gt (pe_callB len_seq (by rfl) T.n_len (by decide +kernel) (pa_cons (pv 2) pa_nil)) pe_int (nomark _)) (pw_and1 (pt_cmpR op_gt (pe_call (ok_law_draw T) (hr.mono (by omega)) rfl T.g_law_draw T.F_law_draw.kp T.b_law_draw .nil pass0 (pa_cons (pv 0) (pa_cons pe_int pa_nil))) pe_int (nomark _))))) (pss_cons (ps_set (i := 5) sc_law_newer.nd rfl (.inl rfl) (pe_call (ok_law_draw T) (hr.mono (by omega)) rfl T.g_law_draw T.F_law_draw.kp T.b_law_draw .nil pass0 (pa_cons (pv 0) (pa_cons (pe_callB len_seq (by rfl) T.n_len (by decide +kernel) (pa_cons (pv 2) pa_nil)) pa_nil))))
    (pss_one (ps_set (i := 3) sc_law_newer.nd rfl (.inl rfl) (pe_op op_cat (pv 3) (pe_slice sl_list (pv 2) (po_some (pv 5)) (po_some (pe_op op_add (pe_op op_add (pv 5) pe_int) (pe_call (ok_law_draw T) (hr.mono (by omega)) rfl T.g_law_draw T.F_law_draw.kp T.b_law_draw .nil pass0 (pa_cons (pv 0) (pa_cons pe_int pa_nil)))))))))) (pss_one (ps_set (i := 3) sc_law_newer.nd rfl (.inl rfl) (pe_op op_cat (pv 3) (pe_lc (own := [("_law_more", 6)]) rfl sc_law_newer.nd (pi_range1 (by rfl) T.n_range (pa_cons (pe_op op_add pe_int (pe_call (ok_law_draw T) (hr.mono (by omega)) rfl T.g_law_draw T.F_law_draw.kp T.b_law_draw .nil pass0 (pa_cons (pv 0) (pa_cons pe_int pa_nil)))) pa_nil)) (blkOk_by (own := [("_law_more", 6)]) (N := N_law_newer) (sc := defScope s_law_newer) (by decide +kernel)) (fun _ _ _ _ _ => pg_name (i := 6) sc_law_newer.nd rfl (Or.inl rfl)) (fun _ _ _ _ _ => pts_nil) (fun _ _ _ _ _ => by exact (pe_ix (r := rIxL K) ix_list (pv 1) (pe_call (ok_law_draw T) (hr.mono (by omega)) rfl T.g_law_draw T.F_law_draw.kp T.b_law_draw .nil pass0 (pa_cons (pv 0) (pa_cons (pe_callB (r := Evl.rLenS K) len_seq (by rfl) T.n_len (by decide +kernel) (pa_cons (pv 1) pa_nil)) pa_nil))) (fun _ _ => rfl))))))))))
    (pss_one (ps_ret (pv 3))))), ?_⟩
    refine ⟨lenOk (n := 0) rfl (by decide), fun D hD => ?_⟩
    have s1 := same_new (o := .lst []) hD
    have e1 : upd H D (.lst []) D = some (.lst (intV [])) := upd_same
    have nD : D ≠ p := fun z => src_ne hs (z ▸ hD)
    generalize upd H D (.lst []) = H1 at s1 e1 ⊢
    have hs1 := src_up hs s1
    refine ⟨_, rfl, c, p, 5, rfl, hs1, by decide, by decide, fun H2 n ln hs2 b2 => ⟨(n : Int), rfl, by omega, by omega, ?_⟩⟩
    rw [Int.toNat_natCast]
    refine for_it (walk_range (lo := 0) (n := n)) (fun i σ Hc => ∃ (l : Addr) (o4 o5 o6 : Option V) (ws : List Nat), σ = [some (.ref p), some (.ref a), some (.ref b), some (.ref l), o4, o5, o6] ∧ Src c Hc p ∧ But p H Hc ∧ H l = none ∧ Hc l = some (.lst (intV ws)) ∧ ws.length ≤ 10 * i ∧ ∀ w ∈ ws, w ≤ 65535)
      ⟨D, _, _, _, [], rfl, hs2, (But.of s1).trans b2, hD, b2 _ _ nD e1, Nat.zero_le _, fun w h => by cases h⟩ (fun _ _ _ _ _ => trivial) (fun i x σ Hc Hd hi y e => ?_) (fun σ Hc y => ?_)
    · obtain ⟨rfl, rfl⟩ := e
      obtain ⟨l, o4, o5, o6, ws, rfl, hs3, b3, hl, el3, hwl, hww⟩ := y
      have nl : l ≠ p := fun z => src_ne hs (z ▸ hl)
      have hbc := b3 _ _ nbp hb
      have hac := b3 _ _ nap ha
      have fr : ∀ {G : Hp} {z : Addr}, But p H G → Src c G p → G z = none → H z = none := fun {G z} bb ss hz => by
        cases hh : H z with
        | none => rfl
        | some o => rw [bb z o (fun y => src_ne ss (y ▸ hz)) hh] at hz; cases hz
      have hel2 := intV_len el
      have hpl2 := intV_len pl
      refine ⟨_, rfl, b, _, rfl, .inl (SqL.of hbc), _, _, rfl, rfl, _, rfl, ifB (fun e1 => ?_) (fun e1 => ?_)⟩
      · have e1 := of_decide_eq_true e1
        refine ⟨_, rfl, c, p, 3, rfl, hs3, by decide, by decide, fun H4 r lr hs4 b4 => ⟨_, _, rfl, rfl, _, rfl, ifB (fun e2 => ?_) (fun e2 => ?_)⟩⟩
        · have el4 := b4 _ _ nl el3
          have hb4 := b4 _ _ nbp hbc
          refine ⟨_, rfl, _, rfl, b, _, rfl, .inl (SqL.of hb4), c, p, ((intV el).length : Int), rfl, hs4, by omega, by omega, fun H5 k lk hs5 b5 => ?_⟩
          refine ⟨_, rfl, _, rfl, _, rfl, _, rfl, _, rfl, _, _, rfl, rfl, _, rfl, c, p, 6, rfl, hs5, by decide, by decide, fun H6 r6 lr6 hs6' b6 => ?_⟩
          have hb6 := b6 _ _ nbp (b5 _ _ nbp hb4)
          have el6' := b6 _ _ nl (b5 _ _ nl el4)
          refine ⟨_, _, rfl, rfl, _, rfl, b, _, rfl, SqL.of hb6, fun l1 h1 => ?_⟩
          rw [show (k : Int) + 1 + (r6 : Int) = ((k + 1 + r6 : Nat) : Int) by omega, cutV_any]
          obtain ⟨zs, hzs0⟩ : ∃ zs, zs = (el.drop k).take (k + 1 + r6 - k) := ⟨_, rfl⟩
          rw [← hzs0]
          have hzl : zs.length ≤ 7 := by rw [hzs0, List.length_take]; omega
          have hzs : ∀ w ∈ zs, w ≤ 65535 := fun w hw => hew w (List.mem_of_mem_drop (List.mem_of_mem_take (hzs0 ▸ hw)))
          have st1 := same_new (o := .lst (intV zs)) h1
          have el1 : upd H6 l1 (.lst (intV zs)) l1 = some (.lst (intV zs)) := upd_same
          have el6 := st1 _ _ el6'
          have hs6 := src_up hs6' st1
          have b36 : But p Hd (upd H6 l1 (.lst (intV zs))) := b4.trans (b5.trans (b6.trans (But.of st1)))
          generalize upd H6 l1 (.lst (intV zs)) = H7 at st1 el1 el6 hs6 b36 ⊢
          refine ⟨l, l1, _, _, rfl, rfl, el6, el1, le_line (by rw [intV_len, intV_len]; omega), fun l2 h2 => ?_⟩
          have st2 := same_new (o := .lst (intV ws ++ intV zs)) h2
          exact ⟨l2, _, _, _, ws ++ zs, rfl, src_up hs6 st2, (b3.trans b36).trans (But.of st2), fr (b3.trans b36) hs6 h2, by rw [upd_same, intV_app], by rw [List.length_append]; omega, fun w hw => (List.mem_append.mp hw).elim (hww w) (hzs w)⟩
        · skip
          have el4 := b4 _ _ nl el3
          have hac4 := b4 _ _ nap hac
          refine ⟨_, rfl, _, rfl, c, p, 4, rfl, hs4, by decide, by decide, fun H5 n5 l5 hs5 b5 => ⟨_, _, rfl, rfl, 1 + (n5 : Int), rfl, by omega, by omega, fun D2 hD2 => ?_⟩⟩
          have nD2 : D2 ≠ p := fun z => src_ne hs5 (z ▸ hD2)
          have ncD2 : D2 ≠ c := fun z => src_cne hs5 (z ▸ hD2)
          have hac5 := b5 _ _ nap hac4
          have el5 := b5 _ _ nl el4
          rw [show (1 + (n5 : Int)).toNat = 1 + n5 by omega]
          refine lc_inv (walk_range (lo := 0) (n := 1 + n5)) (fun i v => True) (fun i acc H4 => Src c H4 p ∧ But p H5 H4 ∧ ∃ zs : List Nat, acc = intV zs ∧ ∀ w ∈ zs, w ≤ 65535) (by omega) ⟨src_up hs5 (same_new hD2), But.of (same_new hD2), [], rfl, fun w h => by cases h⟩ (fun _ _ _ _ => trivial) (fun i H1 v H2 hi y => ⟨y.1, trivial⟩) (fun i v acc H6 hi hl pv e5 _ Q q => ?_) (fun acc H6 hl6 pv el1 => ?_)
          · obtain ⟨hs6, b6, zs, rfl, hz⟩ := pv
            have ha6 := b6 _ _ nap hac5
            refine ⟨_, rfl, _, rfl, _, rfl, a, _, rfl, .inl (SqL.of ha6), c, p, ((intV pl).length : Int), rfl, hs6, by omega, by omega, fun H7 x hx hs7 b7 => ?_⟩
            refine ⟨a, _, _, _, rfl, rfl, SqL.of (b7 _ _ nap ha6), atI_nat (intV_at (by omega)), ?_⟩
            refine q _ _ (b7 _ _ nD2 e5) ⟨src_put hs7 nD2 ncD2, but_new (b6.trans b7) hD2, zs ++ [pl.getD x 0], by rw [intV_app]; rfl, fun w h => ?_⟩
            rcases List.mem_append.mp h with z | z
            · exact hz w z
            · rw [List.mem_singleton.mp z, List.getD_eq_getElem?_getD, List.getElem?_eq_getElem (by omega)]
              exact hpw _ (List.getElem_mem _)
          · obtain ⟨hs6, b6, zs, rfl, hzs⟩ := pv
            rw [intV_len] at hl6
            have el6 := b6 _ _ nl el5
            have b36 := b4.trans (b5.trans b6)
            have nl1 : l ≠ D2 := ne_of_none el5 hD2
            refine ⟨l, D2, _, _, rfl, rfl, el6, el1, le_line (by rw [intV_len, intV_len]; omega), fun l2 h2 => ?_⟩
            have st2 := same_new (o := .lst (intV ws ++ intV zs)) h2
            exact ⟨l2, _, _, _, ws ++ zs, rfl, src_up hs6 st2, (b3.trans b36).trans (But.of st2), fr (b3.trans b36) hs6 h2, by rw [upd_same, intV_app], by rw [List.length_append]; omega, fun w hw => (List.mem_append.mp hw).elim (hww w) (hzs w)⟩
      · have H4e : But p Hd Hd := But.refl _ _
        obtain ⟨H4, hH4⟩ : ∃ H4, H4 = Hd := ⟨_, rfl⟩
        have hs4 : Src c H4 p := hH4 ▸ hs3
        have b4 : But p Hd H4 := hH4 ▸ But.refl _ _
        rw [← hH4]
        have el4 := b4 _ _ nl el3
        have hac4 := b4 _ _ nap hac
        refine ⟨_, rfl, _, rfl, c, p, 4, rfl, hs4, by decide, by decide, fun H5 n5 l5 hs5 b5 => ⟨_, _, rfl, rfl, 1 + (n5 : Int), rfl, by omega, by omega, fun D2 hD2 => ?_⟩⟩
        have nD2 : D2 ≠ p := fun z => src_ne hs5 (z ▸ hD2)
        have ncD2 : D2 ≠ c := fun z => src_cne hs5 (z ▸ hD2)
        have hac5 := b5 _ _ nap hac4
        have el5 := b5 _ _ nl el4
        rw [show (1 + (n5 : Int)).toNat = 1 + n5 by omega]
        refine lc_inv (walk_range (lo := 0) (n := 1 + n5)) (fun i v => True) (fun i acc H4 => Src c H4 p ∧ But p H5 H4 ∧ ∃ zs : List Nat, acc = intV zs ∧ ∀ w ∈ zs, w ≤ 65535) (by omega) ⟨src_up hs5 (same_new hD2), But.of (same_new hD2), [], rfl, fun w h => by cases h⟩ (fun _ _ _ _ => trivial) (fun i H1 v H2 hi y => ⟨y.1, trivial⟩) (fun i v acc H6 hi hl pv e5 _ Q q => ?_) (fun acc H6 hl6 pv el1 => ?_)
        · obtain ⟨hs6, b6, zs, rfl, hz⟩ := pv
          have ha6 := b6 _ _ nap hac5
          refine ⟨_, rfl, _, rfl, _, rfl, a, _, rfl, .inl (SqL.of ha6), c, p, ((intV pl).length : Int), rfl, hs6, by omega, by omega, fun H7 x hx hs7 b7 => ?_⟩
          refine ⟨a, _, _, _, rfl, rfl, SqL.of (b7 _ _ nap ha6), atI_nat (intV_at (by omega)), ?_⟩
          refine q _ _ (b7 _ _ nD2 e5) ⟨src_put hs7 nD2 ncD2, but_new (b6.trans b7) hD2, zs ++ [pl.getD x 0], by rw [intV_app]; rfl, fun w h => ?_⟩
          rcases List.mem_append.mp h with z | z
          · exact hz w z
          · rw [List.mem_singleton.mp z, List.getD_eq_getElem?_getD, List.getElem?_eq_getElem (by omega)]
            exact hpw _ (List.getElem_mem _)
        · obtain ⟨hs6, b6, zs, rfl, hzs⟩ := pv
          rw [intV_len] at hl6
          have el6 := b6 _ _ nl el5
          have b36 := b4.trans (b5.trans b6)
          have nl1 : l ≠ D2 := ne_of_none el5 hD2
          refine ⟨l, D2, _, _, rfl, rfl, el6, el1, le_line (by rw [intV_len, intV_len]; omega), fun l2 h2 => ?_⟩
          have st2 := same_new (o := .lst (intV ws ++ intV zs)) h2
          exact ⟨l2, _, _, _, ws ++ zs, rfl, src_up hs6 st2, (b3.trans b36).trans (But.of st2), fr (b3.trans b36) hs6 h2, by rw [upd_same, intV_app], by rw [List.length_append]; omega, fun w hw => (List.mem_append.mp hw).elim (hww w) (hzs w)⟩
    · obtain ⟨l, o4, o5, o6, ws, rfl, hs3, b3, hl, el3, hwl, hww⟩ := y
      exact ⟨_, rfl, q _ l ws hs3 b3 hl el3 (by omega) hww⟩
end
end R1

namespace R1
open PySem PySem.Spec PyProof.Rows L2 RK DL PT
local macro_rules | `(tactic| walk_at "sq") => `(tactic| first
  | exact SqL.of upd_same | exact upd_same | exact SqL.of (by assumption) | exact SqL.of (by rw [upd_ne (by assumption)]; assumption) | assumption)
local macro_rules | `(tactic| walk_at "sd") => `(tactic| first
  | assumption | omega | (refine Or.inl ⟨?_, ?_⟩ <;> omega) | (show _ ∧ _; constructor <;> omega) | (show _ ≠ _; simp; omega) | (exact Or.inl ⟨by decide, by decide⟩) | (exact Or.inr ⟨by decide, by decide⟩) | (show _ < _; decide) | (show _ ≤ _; decide))
local macro_rules | `(tactic| walk_at "at") => `(tactic| first | rfl | (refine atI_intV ?_ ?_ <;> omega) | assumption)
local macro_rules | `(tactic| walk_at "s1") => `(tactic| first
  | refine ⟨_, rfl, ?_⟩ | refine ⟨_, _, rfl, rfl, ?_⟩ | refine ⟨rfl, ?_⟩
  | refine ⟨_, _, _, _, rfl, rfl, by walk_at "sq", by walk_at "at", ?_⟩
  | refine Or.inl ⟨_, rfl, ?_⟩
  | refine ⟨_, _, rfl, Or.inl (by walk_at "sq"), ?_⟩
  | refine And.intro (by walk_at "sd") ?_)
local macro_rules | `(tactic| walk_at "s") => `(tactic| repeat walk_at "s1")

theorem take_flatR {β : Type} (g : Nat → List β) (i : Nat) : (List.range (i + 1)).flatMap g = (List.range i).flatMap g ++ g i := by
  rw [List.range_succ, List.flatMap_append]
  simp
def cpsJ (E X : List Nat) (c j : Nat) : List Ch := ((List.range j).filter fun a => decide ((E.drop a).take c = X.take c)).map fun a => ⟨.cp a c, c, 2⟩
theorem cpsJ_succ (E X : List Nat) (c j : Nat) : cpsJ E X c (j + 1) = cpsJ E X c j ++ (if (E.drop j).take c = X.take c then [⟨.cp j c, c, 2⟩] else []) := by
  unfold cpsJ
  rw [List.range_succ, List.filter_append, List.map_append]
  congr 1
  by_cases h : (E.drop j).take c = X.take c
  · rw [if_pos h, List.filter_cons_of_pos (by simpa using h)]
    rfl
  · rw [if_neg h, List.filter_cons_of_neg (by simpa using h)]
    rfl
theorem cpsJ_len (E X : List Nat) (c j : Nat) : (cpsJ E X c j).length ≤ j := by
  unfold cpsJ
  rw [List.length_map]
  exact Nat.le_trans (List.length_filter_le _ _) (by rw [List.length_range]; exact Nat.le_refl _)
theorem flat_le {β : Type} (g : Nat → List β) (m : Nat) (h : ∀ i, (g i).length ≤ m) : ∀ n, ((List.range n).flatMap g).length ≤ n * m
  | 0 => Nat.zero_le _
  | n + 1 => by
    rw [take_flatR, List.length_append, Nat.succ_mul]
    have := flat_le g m h n
    have := h n
    omega
section
variable {P : Program} {w : World} {K : PySem.W.Frag} {mg : Str → Option Value} {base : Heap} {A : Ads}
theorem ok_law_choices (T : Txt K mg A) : FnOk P w K mg base CX0 1 A.a_law_choices A.d_law_choices ["_law_elder", "_law_newer_here", "_law_place"] (spChoices K) := by
  refine T.F_law_choices.ok sc_law_choices (fun vs H Q E h => ?_) (fun cdv B outer s H vs Q F hr h => ?_)
  · obtain ⟨a, b, E, N, pl, rfl, _⟩ := h
    rfl
  · obtain ⟨a, b, E, N, pl, rfl, ha, hb, hpl, hEl, hNl, q⟩ := h
    refine ⟨_, (pss_cons (ps_set (i := 3) sc_law_choices.nd rfl (.inl rfl) (pe_lst pa_nil))
    (pss_cons (ps_set (i := 4) sc_law_choices.nd rfl (.inl rfl) (pe_op op_sub (pe_callB len_seq (by rfl) T.n_len (by decide +kernel) (pa_cons (pv 1) pa_nil)) (pv 2)))
    (pss_cons (ps_for PassesOwn.never rfl (pi_range1 (by rfl) T.n_range (pa_cons (pv 4) pa_nil)) (pg_name (i := 5) sc_law_choices.nd rfl (.inl rfl))
      (pss_cons (ps_set (i := 6) sc_law_choices.nd rfl (.inl rfl) (pe_op op_sub (pv 4) (pv 5)))
    (pss_one (ps_for PassesOwn.never rfl (pi_range1 (by rfl) T.n_range (pa_cons (pe_op op_add (pe_op op_sub (pe_callB len_seq (by rfl) T.n_len (by decide +kernel) (pa_cons (pv 0) pa_nil)) (pv 6)) pe_int) pa_nil)) (pg_name (i := 7) sc_law_choices.nd rfl (.inl rfl))
      (pss_one (ps_if (pt_cmpR (op_eqD hr.units) (pe_slice sl_list (pv 0) (po_some (pv 7)) (po_some (pe_op op_add (pv 7) (pv 6)))) (pe_slice sl_list (pv 1) (po_some (pv 2)) (po_some (pe_op op_add (pv 2) (pv 6)))) (nomark _)) (pss_one (ps_expr (pe_bm PySem.F.plainAttrs_list PySem.F.slot_list_append PySem.F.type_list_append mt_append (pv 3) (pa_cons (pe_tup (pa_cons (pe_tup (pa_cons pe_str (pa_cons (pv 7) (pa_cons (pv 6) pa_nil)))) (pa_cons (pv 6) (pa_cons pe_int pa_nil)))) pa_nil)))) pss_nil))))))
    (pss_cons (ps_for PassesOwn.never rfl (pi_range1 (by rfl) T.n_range (pa_cons (pv 4) pa_nil)) (pg_name (i := 5) sc_law_choices.nd rfl (.inl rfl))
      (pss_cons (ps_set (i := 6) sc_law_choices.nd rfl (.inl rfl) (pe_op op_sub (pv 4) (pv 5)))
    (pss_one (ps_expr (pe_bm PySem.F.plainAttrs_list PySem.F.slot_list_append PySem.F.type_list_append mt_append (pv 3) (pa_cons (pe_tup (pa_cons (pe_tup (pa_cons pe_str (pa_cons (pe_callTy tuple_of (by rfl) T.n_tuple (by decide +kernel) (pa_cons (pe_slice sl_list (pv 1) (po_some (pv 2)) (po_some (pe_op op_add (pv 2) (pv 6)))) pa_nil)) pa_nil))) (pa_cons (pv 6) (pa_cons (pe_op op_add pe_int (pv 6)) pa_nil)))) pa_nil))))))
    (pss_one (ps_ret (pv 3))))))), ?_⟩
    have hie := intV_len E
    have hin := intV_len N
    have hXl : (N.drop pl).length = N.length - pl := List.length_drop ..
    refine ⟨lenOk (n := 0) rfl (by decide), fun D hD => ?_⟩
    have s1 := same_new (o := .lst []) hD
    have e1 : upd H D (.lst []) D = some (.lst []) := upd_same
    have nDa : a ≠ D := ne_of_none ha hD
    have nDb : b ≠ D := ne_of_none hb hD
    generalize upd H D (.lst []) = H1 at s1 e1 ⊢
    refine ⟨_, rfl, b, _, rfl, .inl (SqL.of (s1 _ _ hb)), _, rfl, _, _, rfl, rfl, ?_⟩
    dsimp only
    rw [hin, show (N.length : Int) - (pl : Int) = ((N.length - pl : Nat) : Int) by omega]
    obtain ⟨X, hX⟩ : ∃ X, X = N.drop pl := ⟨_, rfl⟩
    rw [← hX] at hXl q
    rw [← hXl]
    have hXN : X.length ≤ 200 := by omega
    refine ⟨_, rfl, (X.length : Int), rfl, by omega, by omega, ?_⟩
    rw [Int.toNat_natCast]
    have o0 : ∀ {G G' : Hp}, Same G G' → Out (inS noS D) G G' := fun h => Out.of h
    have app : ∀ (G : Hp) (acc : List V) (L : List Ch) (r : Addr) (ch : Ch), G D = some (.lst acc) → LsK (ChE K (inS noS D)) G acc L → ChE K (inS noS D) G r ch → LsK (ChE K (inS noS D)) (upd G D (.lst (acc ++ [V.ref r]))) (acc ++ [V.ref r]) (L ++ [ch]) := fun G acc L r ch eD hk hc => by
      have o : Out (inS noS D) G (upd G D (.lst (acc ++ [V.ref r]))) := (Out.refl _ _).put (.inr rfl)
      exact (hk.up fun p a h => h.up o).snoc (hc.up o)
    refine for_it (walk_range (lo := 0) (n := X.length)) (fun i σ Hc => ∃ (o5 o6 o7 : Option V) (acc : List V), σ = [some (.ref a), some (.ref b), some (.int (pl : Int)), some (.ref D), some (.int (X.length : Int)), o5, o6, o7] ∧ Same H Hc ∧ Hc D = some (.lst acc) ∧ LsK (ChE K (inS noS D)) Hc acc ((List.range i).flatMap fun less => cpsL E X (X.length - less)))
      ⟨_, _, _, [], rfl, s1, e1, LsK.nil⟩ (fun _ _ _ _ _ => trivial) (fun i x σ Hc Hd hi y e => ?_) (fun σ Hc y => ?_)
    · obtain ⟨rfl, ex⟩ := e
      have ex : x = .int (i : Int) := by rw [ex]; exact congrArg V.int (by omega)
      subst ex
      obtain ⟨o5, o6, o7, acc, rfl, sm, eD, hk⟩ := y
      rw [take_flatR]
      have hpre : ((List.range i).flatMap fun less => cpsL E X (X.length - less)).length ≤ i * 3001 := flat_le _ _ (fun k => Nat.le_trans (cpsJ_len E X (X.length - k) (E.length + 1 - (X.length - k))) (by omega)) i
      have hi200 : i * 3001 ≤ 200 * 3001 := Nat.mul_le_mul_right _ (by omega)
      have hcL : cpsL E X (X.length - i) = cpsJ E X (X.length - i) (E.length + 1 - (X.length - i)) := rfl
      rw [hcL]
      generalize (List.range i).flatMap (fun less => cpsL E X (X.length - less)) = pre at *
      refine ⟨_, rfl, _, rfl, _, _, rfl, rfl, ?_⟩
      dsimp only
      rw [show (X.length : Int) - (i : Int) = ((X.length - i : Nat) : Int) by omega]
      obtain ⟨c, hc⟩ : ∃ c, c = X.length - i := ⟨_, rfl⟩
      rw [← hc]
      refine ⟨_, rfl, a, _, rfl, .inl (SqL.of (sm _ _ ha)), _, rfl, _, _, rfl, rfl, _, _, rfl, rfl, _, rfl, by omega, by omega, ?_⟩
      rw [hie, show ((E.length : Int) - (c : Int) + 1).toNat = E.length + 1 - c by omega]
      refine for_it (walk_range (lo := 0) (n := E.length + 1 - c)) (fun j σ Hc => ∃ (o7 : Option V) (acc : List V), σ = [some (.ref a), some (.ref b), some (.int (pl : Int)), some (.ref D), some (.int (X.length : Int)), some (.int (i : Int)), some (.int (c : Int)), o7] ∧ Same H Hc ∧ Hc D = some (.lst acc) ∧ LsK (ChE K (inS noS D)) Hc acc (pre ++ cpsJ E X c j))
        ⟨_, acc, rfl, sm, eD, by rw [show cpsJ E X c 0 = [] from rfl, List.append_nil]; exact hk⟩ (fun _ _ _ _ _ => trivial) (fun j x σ Hc He hj y e => ?_) (fun σ Hc y => ?_)
      · obtain ⟨rfl, ex⟩ := e
        have ex : x = .int (j : Int) := by rw [ex]; exact congrArg V.int (by omega)
        subst ex
        obtain ⟨o7, acc, rfl, smj, eDj, hkj⟩ := y
        rw [cpsJ_succ, ← List.append_assoc]
        have hjl := cpsJ_len E X c j
        have hacl : acc.length ≤ 900000 := by rw [hkj.1, List.length_append]; omega
        generalize pre ++ cpsJ E X c j = L at *
        have haj := smj _ _ ha
        have hbj := smj _ _ hb
        refine ⟨_, rfl, _, rfl, _, rfl, _, rfl, _, rfl, _, _, rfl, rfl, _, rfl, a, _, rfl, SqL.of haj, fun l1 h1 => ?_⟩
        rw [show (j : Int) + (c : Int) = ((j + c : Nat) : Int) by omega, cutV_any, show j + c - j = c by omega]
        have st1 := same_new (o := .lst (intV ((E.drop j).take c))) h1
        have el1 : upd He l1 (.lst (intV ((E.drop j).take c))) l1 = some (.lst (intV ((E.drop j).take c))) := upd_same
        generalize upd He l1 (.lst (intV ((E.drop j).take c))) = G1 at st1 el1 ⊢
        refine ⟨_, rfl, _, rfl, _, rfl, _, rfl, _, rfl, _, _, rfl, rfl, _, rfl, b, _, rfl, SqL.of (st1 _ _ hbj), fun l2 h2 => ?_⟩
        rw [show (pl : Int) + (c : Int) = ((pl + c : Nat) : Int) by omega, cutV_any, show pl + c - pl = c by omega, ← hX]
        have st2 := same_new (o := .lst (intV (X.take c))) h2
        have el2 : upd G1 l2 (.lst (intV (X.take c))) l2 = some (.lst (intV (X.take c))) := upd_same
        generalize upd G1 l2 (.lst (intV (X.take c))) = G2 at st2 el2 ⊢
        have st := st1.trans st2
        refine ⟨_, _, dp_nats (st2 _ _ el1), dp_nats el2, shaped_nats _, shaped_nats _, ?_⟩
        rw [show PyData.eqv (.list (natD ((E.drop j).take c))) (.list (natD (X.take c))) = PyData.eqvAll (natD ((E.drop j).take c)) (natD (X.take c)) from rfl, eqv_nats]
        have eD2 := st _ _ eDj
        have hk2 := hkj.up fun p a h => h.up (o0 st)
        by_cases hcc : (E.drop j).take c = X.take c
        · rw [if_pos hcc]
          refine ⟨_, rfl, ifT (decide_eq_true hcc) ?_⟩
          refine ⟨_, rfl, .inl ⟨rfl, _, SqL.of eD2⟩, _, rfl, _, rfl, lenOk (n := 3) rfl (by decide), fun q1 hq1 => ?_⟩
          have s4 := same_new (o := .tup [V.str (Str.ofString "copy"), V.int (j : Int), V.int (c : Int)]) hq1
          have e4 : upd G2 q1 (.tup [V.str (Str.ofString "copy"), V.int (j : Int), V.int (c : Int)]) q1 = some (.tup [V.str (Str.ofString "copy"), V.int (j : Int), V.int (c : Int)]) := upd_same
          have nq1 : D ≠ q1 := ne_of_none eD2 hq1
          generalize upd G2 q1 (.tup [V.str (Str.ofString "copy"), V.int (j : Int), V.int (c : Int)]) = G3 at s4 e4 ⊢
          refine ⟨_, rfl, lenOk (n := 3) rfl (by decide), fun q2 hq2 => ?_⟩
          have s5 := same_new (o := .tup [V.ref q1, V.int (c : Int), V.int 2]) hq2
          have e5 : upd G3 q2 (.tup [V.ref q1, V.int (c : Int), V.int 2]) q2 = some (.tup [V.ref q1, V.int (c : Int), V.int 2]) := upd_same
          have eD3 := s4 _ _ eD2
          have nq2 : D ≠ q2 := ne_of_none eD3 hq2
          generalize upd G3 q2 (.tup [V.ref q1, V.int (c : Int), V.int 2]) = G4 at s5 e5 ⊢
          have eD4 := s5 _ _ eD3
          refine ⟨D, _, _, rfl, rfl, eD4, lt_line (by omega), ?_⟩
          refine ⟨_, _, rfl, same_mut (smj.trans (st.trans (s4.trans s5))) hD, upd_same, ?_⟩
          refine app G4 acc L q2 ⟨.cp j c, c, 2⟩ eD4 (hk2.up fun p a h => h.up (o0 (s4.trans s5))) ⟨q1, fun z => z.elim (fun z => z) fun z => nq2 z.symm, e5, ?_⟩
          exact mk_cp (s5 _ _ e4) fun z => z.elim (fun z => z) fun z => nq1 z.symm
        · rw [if_neg hcc, List.append_nil]
          refine ⟨_, rfl, ifF (decide_eq_false hcc) ?_⟩
          exact ⟨_, acc, rfl, smj.trans st, eD2, hk2⟩
      · obtain ⟨o7, acc, rfl, smj, eDj, hkj⟩ := y
        exact ⟨_, _, _, acc, rfl, smj, eDj, hkj⟩
    · obtain ⟨o5, o6, o7, acc, rfl, sm, eD, hk⟩ := y
      have hcp : (List.range X.length).flatMap (fun less => cpsL E X (X.length - less)) = cps E X := rfl
      rw [hcp] at hk
      have hcl : (cps E X).length ≤ 700000 := by
        refine Nat.le_trans (flat_le _ 3001 (fun k => Nat.le_trans (cpsJ_len E X (X.length - k) (E.length + 1 - (X.length - k))) (by omega)) X.length) ?_
        exact Nat.le_trans (Nat.mul_le_mul_right _ (show X.length ≤ 200 by omega)) (by decide)
      refine ⟨_, rfl, (X.length : Int), rfl, by omega, by omega, ?_⟩
      rw [Int.toNat_natCast]
      refine for_it (walk_range (lo := 0) (n := X.length)) (fun i σ Hc => ∃ (o5 o6 o7 : Option V) (acc : List V), σ = [some (.ref a), some (.ref b), some (.int (pl : Int)), some (.ref D), some (.int (X.length : Int)), o5, o6, o7] ∧ Same H Hc ∧ Hc D = some (.lst acc) ∧ LsK (ChE K (inS noS D)) Hc acc (cps E X ++ (List.range i).map fun less => ptL X (X.length - less)))
        ⟨_, _, _, acc, rfl, sm, eD, by rw [List.range_zero, List.map_nil, List.append_nil]; exact hk⟩ (fun _ _ _ _ _ => trivial) (fun i x σ Hc Hd hi y e => ?_) (fun σ Hc y => ?_)
      · obtain ⟨rfl, ex⟩ := e
        have ex : x = .int (i : Int) := by rw [ex]; exact congrArg V.int (by omega)
        subst ex
        obtain ⟨o5, o6, o7, acc, rfl, sm, eD, hk⟩ := y
        rw [List.range_succ, List.map_append, ← List.append_assoc]
        have hacl : acc.length ≤ 900000 := by rw [hk.1, List.length_append, List.length_map, List.length_range]; omega
        generalize cps E X ++ (List.range i).map (fun less => ptL X (X.length - less)) = L at *
        have hbc := sm _ _ hb
        refine ⟨_, rfl, _, rfl, _, _, rfl, rfl, ?_⟩
        dsimp only
        rw [show (X.length : Int) - (i : Int) = ((X.length - i : Nat) : Int) by omega]
        obtain ⟨c, hc⟩ : ∃ c, c = X.length - i := ⟨_, rfl⟩
        have hm : ([i].map fun less => ptL X (X.length - less)) = [ptL X c] := by rw [hc]; rfl
        rw [hm, ← hc]
        refine ⟨_, rfl, .inl ⟨rfl, _, SqL.of eD⟩, _, rfl, _, rfl, _, rfl, _, rfl, _, rfl, _, _, rfl, rfl, _, rfl, b, _, rfl, SqL.of hbc, fun l1 h1 => ?_⟩
        rw [show (pl : Int) + (c : Int) = ((pl + c : Nat) : Int) by omega, cutV_any, show pl + c - pl = c by omega, ← hX]
        have st1 := same_new (o := .lst (intV (X.take c))) h1
        have el1 : upd Hd l1 (.lst (intV (X.take c))) l1 = some (.lst (intV (X.take c))) := upd_same
        generalize upd Hd l1 (.lst (intV (X.take c))) = G1 at st1 el1 ⊢
        refine ⟨l1, _, rfl, .inl ⟨SqL.of el1, fun t1 ht1 => ?_⟩⟩
        have st2 := same_new (o := .tup (intV (X.take c))) ht1
        have et1 : upd G1 t1 (.tup (intV (X.take c))) t1 = some (.tup (intV (X.take c))) := upd_same
        have nt1 : D ≠ t1 := ne_of_none (st1 _ _ eD) ht1
        generalize upd G1 t1 (.tup (intV (X.take c))) = G2 at st2 et1 ⊢
        have eD2 := st2 _ _ (st1 _ _ eD)
        refine ⟨lenOk (n := 2) rfl (by decide), fun q1 hq1 => ?_⟩
        have s4 := same_new (o := .tup [V.str (Str.ofString "put"), V.ref t1]) hq1
        have e4 : upd G2 q1 (.tup [V.str (Str.ofString "put"), V.ref t1]) q1 = some (.tup [V.str (Str.ofString "put"), V.ref t1]) := upd_same
        have nq1 : D ≠ q1 := ne_of_none eD2 hq1
        generalize upd G2 q1 (.tup [V.str (Str.ofString "put"), V.ref t1]) = G3 at s4 e4 ⊢
        refine ⟨_, rfl, _, rfl, _, _, rfl, rfl, lenOk (n := 3) rfl (by decide), fun q2 hq2 => ?_⟩
        have s5 := same_new (o := .tup [V.ref q1, V.int (c : Int), V.int (1 + (c : Int))]) hq2
        have e5 : upd G3 q2 (.tup [V.ref q1, V.int (c : Int), V.int (1 + (c : Int))]) q2 = some (.tup [V.ref q1, V.int (c : Int), V.int ((1 + c : Nat) : Int)]) := by
          rw [upd_same, show ((1 + c : Nat) : Int) = 1 + (c : Int) by omega]
        have eD3 := s4 _ _ eD2
        have nq2 : D ≠ q2 := ne_of_none eD3 hq2
        generalize upd G3 q2 (.tup [V.ref q1, V.int (c : Int), V.int (1 + (c : Int))]) = G4 at s5 e5 ⊢
        have eD4 := s5 _ _ eD3
        refine ⟨D, _, _, rfl, rfl, eD4, lt_line (by omega), ?_⟩
        have sA := st1.trans (st2.trans (s4.trans s5))
        refine ⟨_, _, _, _, rfl, same_mut (sm.trans sA) hD, upd_same, ?_⟩
        refine app G4 acc L q2 (ptL X c) eD4 (hk.up fun p a h => h.up (o0 sA)) ⟨q1, fun z => z.elim (fun z => z) fun z => nq2 z.symm, e5, ?_⟩
        exact mk_pt (s5 _ _ e4) (fun z => z.elim (fun z => z) fun z => nq1 z.symm) (XT.of (s5 _ _ (s4 _ _ et1)) fun z => z.elim (fun z => z) fun z => nt1 z.symm)
      · obtain ⟨o5, o6, o7, acc, rfl, sm, eD, hk⟩ := y
        exact ⟨_, rfl, q _ D acc sm eD ⟨hk.1, fun k a ha => let ⟨p, e, f⟩ := hk.2 k a ha; ⟨p, e, f.less⟩⟩⟩
end
end R1

namespace R1
open PySem PySem.Spec PyProof.Rows L2 RK DL PT
local macro_rules | `(tactic| walk_at "sq") => `(tactic| first
  | exact SqL.of upd_same | exact upd_same | exact SqL.of (by assumption) | exact SqL.of (by rw [upd_ne (by assumption)]; assumption) | assumption)
local macro_rules | `(tactic| walk_at "sd") => `(tactic| first
  | assumption | omega | (refine Or.inl ⟨?_, ?_⟩ <;> omega) | (show _ ∧ _; constructor <;> omega) | (show _ ≠ _; simp; omega) | (exact Or.inl ⟨by decide, by decide⟩) | (exact Or.inr ⟨by decide, by decide⟩) | (show _ < _; decide) | (show _ ≤ _; decide))
local macro_rules | `(tactic| walk_at "at") => `(tactic| first | rfl | (refine atI_intV ?_ ?_ <;> omega) | assumption)
local macro_rules | `(tactic| walk_at "s1") => `(tactic| first
  | refine ⟨_, rfl, ?_⟩ | refine ⟨_, _, rfl, rfl, ?_⟩ | refine ⟨rfl, ?_⟩
  | refine ⟨_, _, _, _, rfl, rfl, by walk_at "sq", by walk_at "at", ?_⟩
  | refine Or.inl ⟨_, rfl, ?_⟩
  | refine ⟨_, _, rfl, Or.inl (by walk_at "sq"), ?_⟩
  | refine And.intro (by walk_at "sd") ?_)
local macro_rules | `(tactic| walk_at "s") => `(tactic| repeat walk_at "s1")

def PsE (K : PySem.W.Frag) (H : Hp) (p : Addr) (ps : List Pc) : Prop := Dx K H noS (.ref p) (pcsD ps)
theorem PsE.up {K : PySem.W.Frag} {H H' : Hp} (s : Same H H') {p : Addr} {ps : List Pc} (h : PsE K H p ps) : PsE K H' p ps := Dx.up (Out.of s) h
theorem ne_noS {K : PySem.W.Frag} {H : Hp} {r : Addr} {xs : List V} (h : SqT K H r xs) : XT K H noS r xs := xt_sq h fun _ z => z.elim
/-- one piece more ahead -/
theorem ps_cons {K : PySem.W.Frag} {H : Hp} {t1 q : Addr} {v : V} {pc : Pc} {ps : List Pc} {Q : VK} (e1 : H t1 = some (.tup [v])) (hv : Dx K H noS v (pcD pc)) (hq : PsE K H q ps) (hl : ps.length ≤ 1000) (k : ∀ p H', Same H H' → PsE K H' p (pc :: ps) → Q (.ref p) H') : rCatA K (.ref t1) (.ref q) H Q := by
  obtain ⟨a, xs, ea, h1, h2, h3⟩ := dx_pcs hq
  cases ea
  have hq' : Dx K H noS (.ref q) (pcsD ps) := hq
  cases hq' with
  | tup g1 g2 =>
    have hgl := dxAll_len g2
    rw [List.length_map] at hgl
    refine catA_of (SqT.of e1) g1.sq (by show 1 + _ ≤ _; omega) fun p H' s hp => k p H' s ?_
    refine .tup (ne_noS hp) ?_
    exact .cons (Dx.up (Out.of s) hv) (DxAll.up (Out.of s) g2)
def lsV (R : List Nat) : Option Ch → V
  | none => .non
  | some ch => .int ((chC R ch : Nat) : Int)
def rwP (P' : List (List Pc)) : Option Ch → List Pc
  | none => []
  | some ch => ch.pc :: P'.getD (ch.n - 1) []
theorem ch_n {E X : List Nat} : ∀ ch ∈ cps E X ++ pts X, 1 ≤ ch.n ∧ ch.n ≤ X.length := fun ch h => by
  rcases List.mem_append.mp h with h | h
  · obtain ⟨j, hj, h⟩ := List.mem_flatMap.mp h
    have hj := List.mem_range.mp hj
    have := (cpsL_mem (show X.length - j ≤ X.length by omega) h).1
    omega
  · obtain ⟨j, hj, rfl⟩ := List.mem_map.mp h
    have hj := List.mem_range.mp hj
    show 1 ≤ X.length - j ∧ X.length - j ≤ X.length
    omega
theorem LsK.getD {α : Type} {E : Hp → Addr → α → Prop} {H : Hp} {xs : List V} {as : List α} {i : Nat} {d : α} (h : LsK E H xs as) (hi : i < as.length) : ∃ p, xs[i]? = some (.ref p) ∧ E H p (as.getD i d) := by
  obtain ⟨p, a, b⟩ := h.2 i as[i] (List.getElem?_eq_getElem hi)
  rw [List.getD_eq_getElem?_getD, List.getElem?_eq_getElem hi]
  exact ⟨p, a, b⟩
theorem take_foldG {α β : Type} (f : β → α → β) (b : β) (l : List α) (i : Nat) (h : i < l.length) : (l.take (i + 1)).foldl f b = f ((l.take i).foldl f b) l[i] := by
  rw [List.take_add_one, List.getElem?_eq_getElem h, List.foldl_append]
  rfl
def spTable (K : PySem.W.Frag) : Sp := fun vs H Q _ => ∃ (a b : Addr) (E N : List Nat), vs = [.ref a, .ref b] ∧ H a = some (.lst (intV E)) ∧ H b = some (.lst (intV N)) ∧ E.length ≤ 3000 ∧ N.length ≤ 200 ∧ ∀ H' t l r, Same H H' → H' t = some (.tup [.ref l, .ref r]) → H' l = some (.lst (intV (RP E N))) → PsE K H' r (pcs E N) → Q (.ref t) H'
section
variable {P : Program} {w : World} {K : PySem.W.Frag} {mg : Str → Option Value} {base : Heap} {A : Ads}
theorem ok_law_table (T : Txt K mg A) : FnOk P w K mg base CX0 2 A.a_law_table A.d_law_table ["_law_elder", "_law_newer_here"] (spTable K) := by
  refine T.F_law_table.ok sc_law_table (fun vs H Q E h => ?_) (fun cdv B outer s H vs Q F hr h => ?_)
  · obtain ⟨a, b, E, N, rfl, _⟩ := h
    rfl
  · obtain ⟨a, b, E, N, rfl, ha, hb, hEl, hNl, q⟩ := h
    refine ⟨_, (pss_cons (ps_set (i := 2) sc_law_table.nd rfl (.inl rfl) (pe_lst (pa_cons pe_int pa_nil)))
    (pss_cons (ps_set (i := 3) sc_law_table.nd rfl (.inl rfl) (pe_lst (pa_cons (pe_tup pa_nil) pa_nil)))
    (pss_cons (ps_for PassesOwn.never rfl (pi_range1 (by rfl) T.n_range (pa_cons (pe_callB len_seq (by rfl) T.n_len (by decide +kernel) (pa_cons (pv 1) pa_nil)) pa_nil)) (pg_name (i := 4) sc_law_table.nd rfl (.inl rfl))
      (pss_cons (ps_set (i := 5) sc_law_table.nd rfl (.inl rfl) (pe_op op_sub (pe_op op_sub (pe_callB len_seq (by rfl) T.n_len (by decide +kernel) (pa_cons (pv 1) pa_nil)) pe_int) (pv 4)))
    (pss_cons (ps_set (i := 6) sc_law_table.nd rfl (.inl rfl) pe_non)
    (pss_cons (ps_set (i := 7) sc_law_table.nd rfl (.inl rfl) (pe_tup pa_nil))
    (pss_cons (ps_for PassesOwn.never rfl (pi_list (pe_call (ok_law_choices T) (hr.mono (by omega)) rfl T.g_law_choices T.F_law_choices.kp T.b_law_choices .nil pass0 (pa_cons (pv 0) (pa_cons (pv 1) (pa_cons (pv 5) pa_nil))))) (pg_tup (by rfl) (pgs_cons (pg_name (i := 8) sc_law_table.nd rfl (.inl rfl)) (pgs_cons (pg_name (i := 9) sc_law_table.nd rfl (.inl rfl)) (pgs_cons (pg_name (i := 10) sc_law_table.nd rfl (.inl rfl)) pgs_nil))))
      (pss_one (ps_if (PW.pt (pw_or (pt_cmpR op_isN (pv 6) pe_non (nomark _)) (pw_or1 (pt_cmpR op_lt (pe_op op_add (pv 10) (pe_ix ix_list (pv 2) (pe_op op_sub (pv 9) pe_int) (fun _ _ => rfl))) (pv 6) (nomark _))))) (pss_cons (ps_set (i := 6) sc_law_table.nd rfl (.inl rfl) (pe_op op_add (pv 10) (pe_ix ix_list (pv 2) (pe_op op_sub (pv 9) pe_int) (fun _ _ => rfl))))
    (pss_one (ps_set (i := 7) sc_law_table.nd rfl (.inl rfl) (pe_op op_catA (pe_tup (pa_cons (pv 8) pa_nil)) (pe_ix ix_list (pv 3) (pe_op op_sub (pv 9) pe_int) (fun _ _ => rfl)))))) pss_nil)))
    (pss_cons (ps_set (i := 2) sc_law_table.nd rfl (.inl rfl) (pe_op op_cat (pe_lst (pa_cons (pv 6) pa_nil)) (pv 2)))
    (pss_one (ps_set (i := 3) sc_law_table.nd rfl (.inl rfl) (pe_op op_cat (pe_lst (pa_cons (pv 7) pa_nil)) (pv 3))))))))))
    (pss_one (ps_ret (pe_tup (pa_cons (pv 2) (pa_cons (pe_ix ix_list (pv 3) pe_int (fun _ _ => rfl)) pa_nil)))))))), ?_⟩
    have hin := intV_len N
    refine ⟨lenOk (n := 1) rfl (by decide), fun pr0 hpr0 => ?_⟩
    have s1 := same_new (o := .lst [V.int 0]) hpr0
    have e1 : upd H pr0 (.lst [V.int 0]) pr0 = some (.lst (intV (RP E []))) := upd_same
    generalize upd H pr0 (.lst [V.int 0]) = H1 at s1 e1 ⊢
    refine ⟨lenOk (n := 0) rfl (by decide), fun t0 ht0 => ⟨lenOk (n := 1) rfl (by decide), fun rl0 hrl0 => ?_⟩⟩
    have s2 := same_new (o := .tup []) ht0
    have e2 : upd H1 t0 (.tup []) t0 = some (.tup []) := upd_same
    generalize upd H1 t0 (.tup []) = H2 at s2 e2 hrl0 ⊢
    have s3 := same_new (o := .lst [V.ref t0]) hrl0
    have e3 : upd H2 rl0 (.lst [V.ref t0]) rl0 = some (.lst [V.ref t0]) := upd_same
    generalize upd H2 rl0 (.lst [V.ref t0]) = H3 at s3 e3 ⊢
    have s13 := s1.trans (s2.trans s3)
    have ps0 : LsK (PsE K) H3 [V.ref t0] (PP E []) := LsK.nil.snoc (.tup (XT.of (s3 _ _ e2) fun z => z) .nil)
    refine ⟨_, rfl, b, _, rfl, .inl (SqL.of (s13 _ _ hb)), _, rfl, by omega, by omega, ?_⟩
    rw [Int.toNat_natCast, hin]
    refine for_it (walk_range (lo := 0) (n := N.length)) (fun i σ Hc => ∃ (pr rl : Addr) (o4 o5 o6 o7 o8 o9 o10 : Option V) (xs : List V), σ = [some (.ref a), some (.ref b), some (.ref pr), some (.ref rl), o4, o5, o6, o7, o8, o9, o10] ∧ Same H Hc ∧ Hc pr = some (.lst (intV (RP E (N.drop (N.length - i))))) ∧ Hc rl = some (.lst xs) ∧ LsK (PsE K) Hc xs (PP E (N.drop (N.length - i))))
      ⟨pr0, rl0, _, _, _, _, _, _, _, _, rfl, s13, by rw [Nat.sub_zero, List.drop_length]; exact s3 _ _ (s2 _ _ e1), e3, by rw [Nat.sub_zero, List.drop_length]; exact ps0⟩ (fun _ _ _ _ _ => trivial) (fun i x σ Hc Hd hi y e => ?_) (fun σ Hc y => ?_)
    · obtain ⟨rfl, ex⟩ := e
      have ex : x = .int (i : Int) := by rw [ex]; exact congrArg V.int (by omega)
      subst ex
      obtain ⟨pr, rl, o4, o5, o6, o7, o8, o9, o10, xs, rfl, sm, ep, er, hk⟩ := y
      obtain ⟨pl, hpl⟩ : ∃ pl, pl = N.length - 1 - i := ⟨_, rfl⟩
      have hplt : pl < N.length := by omega
      have ed : N.drop pl = N[pl] :: N.drop (N.length - i) := by
        rw [List.drop_eq_getElem_cons hplt, show pl + 1 = N.length - i by omega]
      have ed1 : N.drop (N.length - (i + 1)) = N.drop pl := by rw [show N.length - (i + 1) = pl by omega]
      have hXl : (N.drop (N.length - i)).length = i := by rw [List.length_drop]; omega
      rw [ed1]
      refine ⟨_, rfl, b, _, rfl, .inl (SqL.of (sm _ _ hb)), _, _, rfl, rfl, _, rfl, _, _, rfl, rfl, ?_⟩
      dsimp only
      rw [hin, show (N.length : Int) - 1 - (i : Int) = (pl : Int) by omega]
      refine ⟨lenOk (n := 0) rfl (by decide), fun te hte => ?_⟩
      have s4 := same_new (o := .tup []) hte
      have e4 : upd Hd te (.tup []) te = some (.tup []) := upd_same
      generalize upd Hd te (.tup []) = G0 at s4 e4 ⊢
      have sm4 := sm.trans s4
      refine ⟨_, rfl, _, rfl, _, rfl, a, b, E, N, pl, rfl, sm4 _ _ ha, sm4 _ _ hb, by omega, hEl, hNl, fun G1 cl cxs s5 ec hck => ⟨cl, rfl, ⟨_, SqL.of ec⟩, ?_⟩⟩
      have s45 := s4.trans s5
      rw [ed] at hck ⊢
      have hall := best_all E (N.drop (N.length - i)) N[pl]
      have hcost := best_cost E (N.drop (N.length - i)) N[pl]
      have hn := ch_n (E := E) (X := N[pl] :: N.drop (N.length - i))
      rw [List.length_cons, hXl] at hn
      have hRl := RP_len E (N.drop (N.length - i))
      have hPl := PP_len E (N.drop (N.length - i))
      have hPg := PP_get E (N.drop (N.length - i))
      have hPP : PP E (N[pl] :: N.drop (N.length - i)) = rwP (PP E (N.drop (N.length - i))) (some (best E (N[pl] :: N.drop (N.length - i)) (RP E (N.drop (N.length - i))))) :: PP E (N.drop (N.length - i)) := rfl
      have hRP : RP E (N[pl] :: N.drop (N.length - i)) = nx (RP E (N.drop (N.length - i))) (lcn E (N[pl] :: N.drop (N.length - i))) :: RP E (N.drop (N.length - i)) := rfl
      rw [hPP, hRP, ← hcost]
      clear hPP hRP hcost
      have hpcl : ∀ k, k ≤ i → ((PP E (N.drop (N.length - i))).getD k []).length ≤ 200 := fun k hk => by
        rw [hPg k (by omega)]
        have := (pcs_len E ((N.drop (N.length - i)).drop k).length ((N.drop (N.length - i)).drop k) (Nat.le_refl _)).1
        rw [List.length_drop] at this
        omega
      clear hPg
      rw [hXl] at hRl hPl
      have hclen := hck.1
      generalize cps E (N[pl] :: N.drop (N.length - i)) ++ pts (N[pl] :: N.drop (N.length - i)) = L at *
      generalize best E (N[pl] :: N.drop (N.length - i)) (RP E (N.drop (N.length - i))) = bst at *
      generalize RP E (N.drop (N.length - i)) = R at *
      generalize PP E (N.drop (N.length - i)) = P' at *
      have ep1 := s45 _ _ ep
      have er1 := s45 _ _ er
      have hk1 := hk.up fun p a h => h.up s45
      refine for_it (walk_list (K := K) (a := cl) (xs := cxs)) (fun k σ Hc => ∃ (q : Addr) (o8 o9 o10 : Option V), σ = [some (.ref a), some (.ref b), some (.ref pr), some (.ref rl), some (.int (i : Int)), some (.int (pl : Int)), some (lsV R ((L.take k).foldl (DL.stC R) none)), some (.ref q), o8, o9, o10] ∧ Same G1 Hc ∧ PsE K Hc q (rwP P' ((L.take k).foldl (DL.stC R) none)))
        ⟨te, _, _, _, rfl, Same.refl _, .tup (XT.of (s5 _ _ e4) fun z => z) .nil⟩ (fun k σ Hc _ y => ?_) (fun k x σ Hc He hkk y e => ?_) (fun σ Hc y => ?_)
      · obtain ⟨_, _, _, _, _, s, _⟩ := y
        exact SqL.of (s _ _ ec)
      · obtain ⟨rfl, e⟩ := e
        obtain ⟨q1, o8, o9, o10, rfl, sk, hps⟩ := y
        rw [hclen] at hkk
        obtain ⟨pq, rfl, hch⟩ := hck.get hkk e
        have hnn := hn _ (List.getElem_mem hkk)
        rw [take_foldG _ _ _ _ hkk]
        generalize (L.take k).foldl (DL.stC R) none = bb at *
        generalize L[k] = ch at *
        obtain ⟨rr, _, hpq, hrr⟩ := hch.up (Out.of sk)
        have epk := sk _ _ ep1
        have erk := sk _ _ er1
        have hkk1 := hk1.up fun p a h => h.up sk
        have hat : atI (intV R) ((ch.n : Int) - 1) = some (.int ((R.getD (ch.n - 1) 0 : Nat) : Int)) := by
          rw [show (ch.n : Int) - 1 = ((ch.n - 1 : Nat) : Int) by omega]
          exact atI_nat (intV_at (by omega))
        obtain ⟨rp, hrp1, hrp2⟩ := hkk1.getD (i := ch.n - 1) (d := []) (by omega)
        have hatr : atI xs ((ch.n : Int) - 1) = some (.ref rp) := by
          rw [show (ch.n : Int) - 1 = ((ch.n - 1 : Nat) : Int) by omega]
          exact atI_nat hrp1
        have hpl200 := hpcl (ch.n - 1) (by omega)
        have hcc : ((ch.c : Int)) + ((R.getD (ch.n - 1) 0 : Nat) : Int) = ((chC R ch : Nat) : Int) := by
          unfold chC
          omega
        refine ⟨pq, _, rfl, SqT.of hpq, rfl, _, _, rfl, _, _, rfl, _, _, rfl, rfl, ?_⟩
        cases bb with
        | none =>
          have est : DL.stC R none ch = some ch := by
            unfold DL.stC stepS
            rw [if_pos ⟨rfl, trivial⟩]
          refine ⟨_, rfl, rfl, _, rfl, ifT (decide_eq_true rfl) ?_⟩
          refine ⟨_, rfl, _, rfl, _, rfl, _, _, rfl, rfl, pr, _, _, _, rfl, rfl, SqL.of epk, hat, _, _, rfl, rfl, ?_⟩
          refine ⟨_, rfl, lenOk (n := 1) rfl (by decide), fun t1 ht1 => ?_⟩
          have s7 := same_new (o := .tup [V.ref rr]) ht1
          refine ⟨_, rfl, _, rfl, _, _, rfl, rfl, rl, _, _, _, rfl, rfl, SqL.of (s7 _ _ erk), hatr, ?_⟩
          refine ps_cons upd_same (Dx.up (Out.of s7) hrr) (hrp2.up s7) (by omega) fun p H9 s9 hp9 => ?_
          refine ⟨p, some (.ref rr), some (.int (ch.n : Int)), some (.int (ch.c : Int)), ?_, sk.trans (s7.trans s9), ?_⟩
          · rw [est]
            exact congrArg (fun z => [some (V.ref a), some (V.ref b), some (V.ref pr), some (V.ref rl), some (V.int (i : Int)), some (V.int (pl : Int)), some (V.int z), some (V.ref p), _, _, _]) hcc
          · rw [est]
            exact hp9
        | some b0 =>
          refine ⟨_, rfl, rfl, _, rfl, ifF (decide_eq_false fun w => nomatch w) ?_⟩
          refine ⟨_, rfl, _, rfl, _, rfl, _, _, rfl, rfl, pr, _, _, _, rfl, rfl, SqL.of epk, hat, _, _, rfl, rfl, _, rfl, _, _, rfl, rfl, _, rfl, ifB (fun e => ?_) (fun e => ?_)⟩
          · have e := of_decide_eq_true e
            have est : DL.stC R (some b0) ch = some ch := by
              unfold DL.stC stepS
              rw [if_pos ⟨rfl, show chC R ch < chC R b0 by omega⟩]
            refine ⟨_, rfl, _, rfl, _, rfl, _, _, rfl, rfl, pr, _, _, _, rfl, rfl, SqL.of epk, hat, _, _, rfl, rfl, ?_⟩
            refine ⟨_, rfl, lenOk (n := 1) rfl (by decide), fun t1 ht1 => ?_⟩
            have s7 := same_new (o := .tup [V.ref rr]) ht1
            refine ⟨_, rfl, _, rfl, _, _, rfl, rfl, rl, _, _, _, rfl, rfl, SqL.of (s7 _ _ erk), hatr, ?_⟩
            refine ps_cons upd_same (Dx.up (Out.of s7) hrr) (hrp2.up s7) (by omega) fun p H9 s9 hp9 => ?_
            refine ⟨p, some (.ref rr), some (.int (ch.n : Int)), some (.int (ch.c : Int)), ?_, sk.trans (s7.trans s9), ?_⟩
            · rw [est]
              exact congrArg (fun z => [some (V.ref a), some (V.ref b), some (V.ref pr), some (V.ref rl), some (V.int (i : Int)), some (V.int (pl : Int)), some (V.int z), some (V.ref p), _, _, _]) hcc
            · rw [est]
              exact hp9
          · have e := of_decide_eq_false e
            have est : DL.stC R (some b0) ch = some b0 := by
              unfold DL.stC stepS
              rw [if_neg fun z => by
                have : chC R ch < chC R b0 := z.2
                omega]
            rw [est]
            exact ⟨q1, _, _, _, rfl, sk, hps⟩
      · obtain ⟨q1, o8, o9, o10, rfl, sk, hps⟩ := y
        rw [hclen, List.take_length, hall] at hps ⊢
        have epk := sk _ _ ep1
        have erk := sk _ _ er1
        have hkk1 := hk1.up fun p a h => h.up sk
        have smk := sm.trans (s45.trans sk)
        have hxl := hk.1
        refine ⟨_, rfl, lenOk (n := 1) rfl (by decide), fun l1 h1 => ?_⟩
        have t1 := same_new (o := .lst [lsV R (some bst)]) h1
        have u1 : upd Hc l1 (.lst [lsV R (some bst)]) l1 = some (.lst [lsV R (some bst)]) := upd_same
        generalize upd Hc l1 (.lst [lsV R (some bst)]) = J1 at t1 u1 ⊢
        refine ⟨_, rfl, l1, pr, _, _, rfl, rfl, u1, t1 _ _ epk, le_line (by rw [intV_len]; show 1 + _ ≤ _; omega), fun l2 h2 => ?_⟩
        have t2 := same_new (o := .lst ([lsV R (some bst)] ++ intV R)) h2
        have u2 : upd J1 l2 (.lst ([lsV R (some bst)] ++ intV R)) l2 = some (.lst (intV (chC R bst :: R))) := upd_same
        generalize upd J1 l2 (.lst ([lsV R (some bst)] ++ intV R)) = J2 at t2 u2 ⊢
        refine ⟨_, rfl, lenOk (n := 1) rfl (by decide), fun l3 h3 => ?_⟩
        have t3 := same_new (o := .lst [V.ref q1]) h3
        have u3 : upd J2 l3 (.lst [V.ref q1]) l3 = some (.lst [V.ref q1]) := upd_same
        generalize upd J2 l3 (.lst [V.ref q1]) = J3 at t3 u3 ⊢
        refine ⟨_, rfl, l3, rl, _, _, rfl, rfl, u3, t3 _ _ (t2 _ _ (t1 _ _ erk)), le_line (by show 1 + _ ≤ _; omega), fun l4 h4 => ?_⟩
        have t4 := same_new (o := .lst ([V.ref q1] ++ xs)) h4
        have tA := t1.trans (t2.trans (t3.trans t4))
        exact ⟨l2, l4, _, _, _, _, _, _, _, _, rfl, smk.trans tA, t4 _ _ (t3 _ _ u2), upd_same, (hkk1.cons hps).up fun p a h => h.up tA⟩
    · obtain ⟨pr, rl, o4, o5, o6, o7, o8, o9, o10, xs, rfl, sm, ep, er, hk⟩ := y
      rw [Nat.sub_self, List.drop_zero] at ep hk
      obtain ⟨r, hr1, hr2⟩ := hk.getD (i := 0) (d := []) (by rw [PP_len]; omega)
      refine ⟨_, rfl, _, rfl, rl, _, _, _, rfl, rfl, SqL.of er, atI_nat (j := 0) hr1, lenOk (n := 2) rfl (by decide), fun t ht => ?_⟩
      have s9 := same_new (o := .tup [V.ref pr, V.ref r]) ht
      exact q _ t pr r (sm.trans s9) upd_same (s9 _ _ ep) (hr2.up s9)
end
end R1

namespace R1
open PySem PySem.Spec PyProof.Rows L2 RK DL PT
local macro_rules | `(tactic| walk_at "sq") => `(tactic| first
  | exact SqL.of upd_same | exact upd_same | exact SqL.of (by assumption) | exact SqL.of (by rw [upd_ne (by assumption)]; assumption) | assumption)
local macro_rules | `(tactic| walk_at "sd") => `(tactic| first
  | assumption | omega | (refine Or.inl ⟨?_, ?_⟩ <;> omega) | (show _ ∧ _; constructor <;> omega) | (show _ ≠ _; simp; omega) | (exact Or.inl ⟨by decide, by decide⟩) | (exact Or.inr ⟨by decide, by decide⟩) | (show _ < _; decide) | (show _ ≤ _; decide))
local macro_rules | `(tactic| walk_at "at") => `(tactic| first | rfl | (refine atI_intV ?_ ?_ <;> omega) | assumption)
local macro_rules | `(tactic| walk_at "s1") => `(tactic| first
  | refine ⟨_, rfl, ?_⟩ | refine ⟨_, _, rfl, rfl, ?_⟩ | refine ⟨rfl, ?_⟩
  | refine ⟨_, _, _, _, rfl, rfl, by walk_at "sq", by walk_at "at", ?_⟩
  | refine Or.inl ⟨_, rfl, ?_⟩
  | refine ⟨_, _, rfl, Or.inl (by walk_at "sq"), ?_⟩
  | refine And.intro (by walk_at "sd") ?_)
local macro_rules | `(tactic| walk_at "s") => `(tactic| repeat walk_at "s1")

def posL (E : List Nat) (m w : Nat) : List Nat := (List.range m).filter fun i => E.getD i 0 == w
theorem posL_succ (E : List Nat) (m w : Nat) : posL E (m + 1) w = posL E m w ++ (if E.getD m 0 = w then [m] else []) := by
  unfold posL
  rw [List.range_succ, List.filter_append]
  congr 1
  by_cases h : E.getD m 0 = w
  · rw [if_pos h, List.filter_cons_of_pos (by simpa using h)]
    rfl
  · rw [if_neg h, List.filter_cons_of_neg (by simpa using h)]
    rfl
theorem posL_len (E : List Nat) (m w : Nat) : (posL E m w).length ≤ m := Nat.le_trans (List.length_filter_le _ _) (by rw [List.length_range]; exact Nat.le_refl _)
theorem posL_mem {E : List Nat} {m w i : Nat} : i ∈ posL E m w ↔ i < m ∧ E.getD i 0 = w := by
  unfold posL
  rw [List.mem_filter, List.mem_range, beq_iff_eq]
theorem posL_lt {E : List Nat} {m w k : Nat} (hk : k < (posL E m w).length) : ∀ j ∈ (posL E m w).take k, j < (posL E m w)[k] := fun j hj => by
  have hp : (posL E m w).Pairwise (· < ·) := List.Pairwise.filter _ List.pairwise_lt_range
  obtain ⟨i, hi, rfl⟩ := List.mem_iff_getElem.mp hj
  rw [List.length_take] at hi
  rw [List.getElem_take]
  exact List.pairwise_iff_getElem.mp hp i k (by omega) hk (by omega)
def SpK (E : List Nat) (H : Hp) (kvs : List (Key × V)) (m : Nat) : Prop := ∀ w : Nat, (valV kvs (.inl (w : Int)) = none ∧ posL E m w = []) ∨ ∃ l, valV kvs (.inl (w : Int)) = some (.ref l) ∧ H l = some (.lst (intV (posL E m w)))
def AhK (E : List Nat) (kvs : List (Key × V)) (X : List Nat) : Prop := ∀ at' : Nat, (valV kvs (.inl (at' : Int))).getD (.int 0) = .int ((lcp (E.drop at') X : Nat) : Int)
theorem lcp_pos {E X : List Nat} {x i : Nat} (h : 0 < lcp (E.drop i) (x :: X)) : i < E.length ∧ E.getD i 0 = x := by
  have hi : i < E.length := by
    apply Decidable.byContradiction
    intro z
    rw [List.drop_of_length_le (by omega), lcp_nil] at h
    omega
  refine ⟨hi, ?_⟩
  rw [List.drop_eq_getElem_cons hi] at h
  rw [List.getD_eq_getElem?_getD, List.getElem?_eq_getElem hi]
  show E[i] = x
  apply Decidable.byContradiction
  intro z
  have : lcp (E[i] :: E.drop (i + 1)) (x :: X) = if E[i] = x then lcp (E.drop (i + 1)) X + 1 else 0 := rfl
  rw [this, if_neg z] at h
  omega
theorem lcp_at {E X : List Nat} {x i : Nat} (hi : i < E.length) (h : E.getD i 0 = x) : lcp (E.drop i) (x :: X) = lcp (E.drop (i + 1)) X + 1 := by
  rw [List.drop_eq_getElem_cons hi]
  rw [List.getD_eq_getElem?_getD, List.getElem?_eq_getElem hi] at h
  have h : E[i] = x := h
  have : lcp (E[i] :: E.drop (i + 1)) (x :: X) = if E[i] = x then lcp (E.drop (i + 1)) X + 1 else 0 := rfl
  rw [this, if_pos h]
/-- the longest so far -/
def LoK (E X : List Nat) (ps : List Nat) (lo fi : Nat) : Prop := (∀ i ∈ ps, lcp (E.drop i) X ≤ lo) ∧ ((lo = 0 ∧ fi = 0) ∨ (0 < lo ∧ fi ∈ ps ∧ lcp (E.drop fi) X = lo ∧ ∀ i ∈ ps, i < fi → lcp (E.drop i) X < lo))
theorem LoK.fin {E X : List Nat} {x lo fi : Nat} (h : LoK E (x :: X) (posL E E.length x) lo fi) : lo = lcn E (x :: X) ∧ fi = fat E (x :: X) := by
  obtain ⟨h1, h2⟩ := h
  have ha := fat_at E (x :: X)
  have hf := fat_first E (x :: X)
  have hm : 0 < lcn E (x :: X) → fat E (x :: X) ∈ posL E E.length x := fun z => by
    have := lcp_pos (E := E) (X := X) (x := x) (i := fat E (x :: X)) (by omega)
    exact posL_mem.mpr this
  have hge : lcn E (x :: X) ≤ lo := by
    rcases Nat.eq_zero_or_pos (lcn E (x :: X)) with z | z
    · omega
    · have := h1 _ (hm z)
      omega
  rcases h2 with ⟨e1, e2⟩ | ⟨e1, _, e2, e3⟩
  · subst e1 e2
    refine ⟨by omega, ?_⟩
    rcases Nat.eq_zero_or_pos (fat E (x :: X)) with z | z
    · exact z.symm
    · have := hf 0 z
      omega
  · have hle := lcp_lcn E (x :: X) fi
    have hlo : lo = lcn E (x :: X) := by omega
    refine ⟨hlo, ?_⟩
    rcases Nat.lt_trichotomy fi (fat E (x :: X)) with z | z | z
    · have := hf fi z
      omega
    · exact z
    · have := e3 _ (hm (by omega)) z
      omega
section
variable {P : Program} {w : World} {K : PySem.W.Frag} {mg : Str → Option Value} {base : Heap} {A : Ads}
theorem ok_law_quick (T : Txt K mg A) : FnOk P w K mg base CX0 2 A.a_law_quick A.d_law_quick ["_law_elder", "_law_newer_here"] (spTable K) := by
  refine T.F_law_quick.ok sc_law_quick (fun vs H Q E h => ?_) (fun cdv B outer s H vs Q F hr h => ?_)
  · obtain ⟨a, b, E, N, rfl, _⟩ := h
    rfl
  · obtain ⟨a, b, E, N, rfl, ha, hb, hEl, hNl, q⟩ := h
    refine ⟨_, (pss_cons (ps_set (i := 2) sc_law_quick.nd rfl (.inl rfl) pe_dnewK)
    (pss_cons (ps_for PassesOwn.never rfl (pi_range1 (by rfl) T.n_range (pa_cons (pe_callB len_seq (by rfl) T.n_len (by decide +kernel) (pa_cons (pv 0) pa_nil)) pa_nil)) (pg_name (i := 3) sc_law_quick.nd rfl (.inl rfl))
      (pss_one (ps_dput (hu_of hr) (pv 2) (pe_ix ix_list (pv 0) (pv 3) (fun _ _ => rfl)) (pe_op op_cat (pe_dget2 (hu_of hr) (pv 2) (pe_ix ix_list (pv 0) (pv 3) (fun _ _ => rfl)) (pe_lst pa_nil) ⟨rfl, rfl, rfl, rfl⟩) (pe_lst (pa_cons (pv 3) pa_nil))) rfl)))
    (pss_cons (ps_set (i := 4) sc_law_quick.nd rfl (.inl rfl) (pe_lst (pa_cons pe_int pa_nil)))
    (pss_cons (ps_set (i := 5) sc_law_quick.nd rfl (.inl rfl) (pe_lst (pa_cons (pe_tup pa_nil) pa_nil)))
    (pss_cons (ps_set (i := 6) sc_law_quick.nd rfl (.inl rfl) pe_dnewK)
    (pss_cons (ps_for PassesOwn.never rfl (pi_range1 (by rfl) T.n_range (pa_cons (pe_callB len_seq (by rfl) T.n_len (by decide +kernel) (pa_cons (pv 1) pa_nil)) pa_nil)) (pg_name (i := 7) sc_law_quick.nd rfl (.inl rfl))
      (pss_cons (ps_set (i := 8) sc_law_quick.nd rfl (.inl rfl) (pe_op op_sub (pe_op op_sub (pe_callB len_seq (by rfl) T.n_len (by decide +kernel) (pa_cons (pv 1) pa_nil)) pe_int) (pv 7)))
    (pss_cons (ps_set (i := 9) sc_law_quick.nd rfl (.inl rfl) pe_dnewK)
    (pss_cons (ps_set (i := 10) sc_law_quick.nd rfl (.inl rfl) pe_int)
    (pss_cons (ps_set (i := 11) sc_law_quick.nd rfl (.inl rfl) pe_int)
    (pss_cons (ps_for PassesOwn.never rfl (pi_list (pe_dget2 (hu_of hr) (pv 2) (pe_ix ix_list (pv 1) (pv 8) (fun _ _ => rfl)) (pe_lst pa_nil) ⟨rfl, rfl, rfl, rfl⟩)) (pg_name (i := 3) sc_law_quick.nd rfl (.inl rfl))
      (pss_cons (ps_dput (hu_of hr) (pv 9) (pv 3) (pe_op op_add pe_int (pe_dget2 (hu_of hr) (pv 6) (pe_op op_add (pv 3) pe_int) pe_int ⟨rfl, rfl, rfl, rfl⟩)) rfl)
    (pss_one (ps_if (pt_cmpR op_gt (pe_dget (hu_of hr) (pv 9) (pv 3) (fun _ _ => rfl)) (pv 10) (nomark _)) (pss_cons (ps_set (i := 10) sc_law_quick.nd rfl (.inl rfl) (pe_dget (hu_of hr) (pv 9) (pv 3) (fun _ _ => rfl)))
    (pss_one (ps_set (i := 11) sc_law_quick.nd rfl (.inl rfl) (pv 3)))) pss_nil))))
    (pss_cons (ps_set (i := 6) sc_law_quick.nd rfl (.inl rfl) (pv 9))
    (pss_cons (ps_set (i := 12) sc_law_quick.nd rfl (.inl rfl) pe_non)
    (pss_cons (ps_set (i := 13) sc_law_quick.nd rfl (.inl rfl) (pe_tup pa_nil))
    (pss_cons (ps_if (pt_cmpR op_gt (pv 10) pe_int (nomark _)) (pss_cons (ps_set (i := 12) sc_law_quick.nd rfl (.inl rfl) (pe_op op_add pe_int (pe_ix ix_list (pv 4) (pe_op op_sub (pv 10) pe_int) (fun _ _ => rfl))))
    (pss_one (ps_set (i := 13) sc_law_quick.nd rfl (.inl rfl) (pe_op op_catA (pe_tup (pa_cons (pe_tup (pa_cons pe_str (pa_cons (pv 11) (pa_cons (pv 10) pa_nil)))) pa_nil)) (pe_ix ix_list (pv 5) (pe_op op_sub (pv 10) pe_int) (fun _ _ => rfl)))))) pss_nil)
    (pss_cons (ps_for PassesOwn.never rfl (pi_range1 (by rfl) T.n_range (pa_cons (pe_op op_add (pv 7) pe_int) pa_nil)) (pg_name (i := 14) sc_law_quick.nd rfl (.inl rfl))
      (pss_cons (ps_set (i := 15) sc_law_quick.nd rfl (.inl rfl) (pe_op op_sub (pe_op op_add (pv 7) pe_int) (pv 14)))
    (pss_one (ps_if (PW.pt (pw_or (pt_cmpR op_isN (pv 12) pe_non (nomark _)) (pw_or1 (pt_cmpR op_lt (pe_op op_add (pe_op op_add pe_int (pv 15)) (pe_ix ix_list (pv 4) (pe_op op_sub (pv 15) pe_int) (fun _ _ => rfl))) (pv 12) (nomark _))))) (pss_cons (ps_set (i := 12) sc_law_quick.nd rfl (.inl rfl) (pe_op op_add (pe_op op_add pe_int (pv 15)) (pe_ix ix_list (pv 4) (pe_op op_sub (pv 15) pe_int) (fun _ _ => rfl))))
    (pss_one (ps_set (i := 13) sc_law_quick.nd rfl (.inl rfl) (pe_op op_catA (pe_tup (pa_cons (pe_tup (pa_cons pe_str (pa_cons (pe_callTy tuple_of (by rfl) T.n_tuple (by decide +kernel) (pa_cons (pe_slice sl_list (pv 1) (po_some (pv 8)) (po_some (pe_op op_add (pv 8) (pv 15)))) pa_nil)) pa_nil))) pa_nil)) (pe_ix ix_list (pv 5) (pe_op op_sub (pv 15) pe_int) (fun _ _ => rfl)))))) pss_nil))))
    (pss_cons (ps_set (i := 4) sc_law_quick.nd rfl (.inl rfl) (pe_op op_cat (pe_lst (pa_cons (pv 12) pa_nil)) (pv 4)))
    (pss_one (ps_set (i := 5) sc_law_quick.nd rfl (.inl rfl) (pe_op op_cat (pe_lst (pa_cons (pv 13) pa_nil)) (pv 5))))))))))))))))
    (pss_one (ps_ret (pe_tup (pa_cons (pv 4) (pa_cons (pe_ix ix_list (pv 5) pe_int (fun _ _ => rfl)) pa_nil))))))))))), ?_⟩
    have hie := intV_len E
    have hin := intV_len N
    intro sd hsd
    have s1 := same_new (o := .dK []) hsd
    have e1 : upd H sd (.dK []) sd = some (.dK []) := upd_same
    have nsa : a ≠ sd := ne_of_none ha hsd
    have nsb : b ≠ sd := ne_of_none hb hsd
    generalize upd H sd (.dK []) = H1 at s1 e1 ⊢
    refine ⟨_, rfl, a, _, rfl, .inl (SqL.of (s1 _ _ ha)), _, rfl, by omega, by omega, ?_⟩
    rw [Int.toNat_natCast, hie]
    refine for_it (walk_range (lo := 0) (n := E.length)) (fun i σ Hc => ∃ (o3 : Option V) (kvs : List (Key × V)), σ = [some (.ref a), some (.ref b), some (.ref sd), o3, none, none, none, none, none, none, none, none, none, none, none, none] ∧ Same H Hc ∧ Hc sd = some (.dK kvs) ∧ kvs.length ≤ i ∧ SpK E Hc kvs i)
      ⟨_, [], rfl, s1, e1, Nat.le_refl _, fun w => .inl ⟨rfl, rfl⟩⟩ (fun _ _ _ _ _ => trivial) (fun i x σ Hc Hd hi y e => ?_) (fun σ Hc y => ?_)
    · obtain ⟨rfl, ex⟩ := e
      have ex : x = .int (i : Int) := by rw [ex]; exact congrArg V.int (by omega)
      subst ex
      obtain ⟨o3, kvs, rfl, sm, ed, hkl, hsp⟩ := y
      have hac := sm _ _ ha
      have hat := atI_nat (intV_at (ws := E) hi)
      obtain ⟨w0, hw0⟩ : ∃ w0, w0 = E.getD i 0 := ⟨_, rfl⟩
      rw [← hw0] at hat
      refine ⟨_, rfl, sd, rfl, .inl ⟨_, .inl ed⟩, _, rfl, _, rfl, a, _, _, _, rfl, rfl, SqL.of hac, hat, lenOk (n := 0) rfl (by decide), fun l0 h0 => ?_⟩
      have t1 := same_new (o := .lst []) h0
      have u1 : upd Hd l0 (.lst []) l0 = some (.lst (intV [])) := upd_same
      generalize upd Hd l0 (.lst []) = G1 at t1 u1 ⊢
      refine ⟨valV kvs (.inl (w0 : Int)), DGet.k (k := .inl (w0 : Int)) (t1 _ _ ed), ?_⟩
      obtain ⟨lx, hlx, elx⟩ : ∃ lx, (valV kvs (.inl (w0 : Int))).getD (V.ref l0) = V.ref lx ∧ G1 lx = some (.lst (intV (posL E i w0))) := by
        rcases hsp w0 with ⟨h1, h2⟩ | ⟨l, h1, h2⟩
        · exact ⟨l0, by rw [h1]; rfl, by rw [h2]; exact u1⟩
        · exact ⟨l, by rw [h1]; rfl, t1 _ _ h2⟩
      rw [hlx]
      refine ⟨_, rfl, lenOk (n := 1) rfl (by decide), fun l1 h1 => ?_⟩
      have t2 := same_new (o := .lst [V.int (i : Int)]) h1
      have u2 : upd G1 l1 (.lst [V.int (i : Int)]) l1 = some (.lst [V.int (i : Int)]) := upd_same
      generalize upd G1 l1 (.lst [V.int (i : Int)]) = G2 at t2 u2 ⊢
      have hpl := posL_len E i w0
      refine ⟨lx, l1, _, _, rfl, rfl, t2 _ _ elx, u2, le_line (by rw [intV_len]; show _ + 1 ≤ _; omega), fun l2 h2 => ?_⟩
      have t3 := same_new (o := .lst (intV (posL E i w0) ++ [V.int (i : Int)])) h2
      have u3 : upd G2 l2 (.lst (intV (posL E i w0) ++ [V.int (i : Int)])) l2 = some (.lst (intV (posL E (i + 1) w0))) := by
        rw [upd_same, posL_succ, if_pos hw0.symm, intV_app]
        rfl
      generalize upd G2 l2 (.lst (intV (posL E i w0) ++ [V.int (i : Int)])) = G3 at t3 u3 ⊢
      have tA := t1.trans (t2.trans t3)
      have ed3 := tA _ _ ed
      refine ⟨_, rfl, _, rfl, _, rfl, a, _, _, _, rfl, rfl, SqL.of (tA _ _ hac), hat, sd, _, rfl, DPut.k (k := .inl (w0 : Int)) ed3 (lt_line (by omega)), ?_⟩
      refine ⟨_, _, rfl, same_mut (sm.trans tA) hsd, upd_same, ?_, fun w' => ?_⟩
      · have := length_putK kvs (.inl (w0 : Int)) (V.ref l2)
        omega
      · rw [valV_put]
        by_cases hw : w' = w0
        · subst hw
          rw [if_pos rfl]
          refine .inr ⟨l2, rfl, ?_⟩
          rw [upd_ne (fun z => by rw [z, ed3] at u3; cases u3)]
          exact u3
        · rw [if_neg (fun z => hw (by have := Sum.inl.inj z; omega)), posL_succ, if_neg (fun z => hw (by omega)), List.append_nil]
          rcases hsp w' with ⟨h1, h2⟩ | ⟨l, h1, h2⟩
          · exact .inl ⟨h1, h2⟩
          · refine .inr ⟨l, h1, ?_⟩
            rw [upd_ne (fun z => by rw [z, ed] at h2; cases h2)]
            exact tA _ _ h2
    · obtain ⟨o3, kvs, rfl, sm0, ed, hkl, hsp⟩ := y
      -- the second walk
      refine ⟨lenOk (n := 1) rfl (by decide), fun pr0 hpr0 => ?_⟩
      have s1 := same_new (o := .lst [V.int 0]) hpr0
      have e1 : upd Hc pr0 (.lst [V.int 0]) pr0 = some (.lst (intV (RP E []))) := upd_same
      generalize upd Hc pr0 (.lst [V.int 0]) = H1 at s1 e1 ⊢
      refine ⟨lenOk (n := 0) rfl (by decide), fun t0 ht0 => ⟨lenOk (n := 1) rfl (by decide), fun rl0 hrl0 => ?_⟩⟩
      have s2 := same_new (o := .tup []) ht0
      have e2 : upd H1 t0 (.tup []) t0 = some (.tup []) := upd_same
      generalize upd H1 t0 (.tup []) = H2 at s2 e2 hrl0 ⊢
      have s3 := same_new (o := .lst [V.ref t0]) hrl0
      have e3 : upd H2 rl0 (.lst [V.ref t0]) rl0 = some (.lst [V.ref t0]) := upd_same
      generalize upd H2 rl0 (.lst [V.ref t0]) = H3 at s3 e3 ⊢
      intro ad0 had0
      have s4 := same_new (o := .dK []) had0
      have e4 : upd H3 ad0 (.dK []) ad0 = some (.dK []) := upd_same
      generalize upd H3 ad0 (.dK []) = H4 at s4 e4 ⊢
      have s14 := s1.trans (s2.trans (s3.trans s4))
      have ps0 : LsK (PsE K) H4 [V.ref t0] (PP E []) := LsK.nil.snoc (.tup (XT.of (s4 _ _ (s3 _ _ e2)) fun z => z) .nil)
      have sH4 := sm0.trans s14
      refine ⟨_, rfl, b, _, rfl, .inl (SqL.of (sH4 _ _ hb)), _, rfl, by omega, by omega, ?_⟩
      rw [Int.toNat_natCast, hin]
      have ed4 := s14 _ _ ed
      have hsp4 : SpK E H4 kvs E.length := fun w => (hsp w).elim .inl fun ⟨l, h1, h2⟩ => .inr ⟨l, h1, s14 _ _ h2⟩
      have lcp0 : ∀ L : List Nat, lcp L [] = 0 := fun L => by cases L <;> rfl
      refine for_it (walk_range (lo := 0) (n := N.length)) (fun i σ Hc => ∃ (pr rl ad : Addr) (o3 o7 o8 o9 o10 o11 o12 o13 o14 o15 : Option V) (xs : List V) (kv : List (Key × V)), σ = [some (.ref a), some (.ref b), some (.ref sd), o3, some (.ref pr), some (.ref rl), some (.ref ad), o7, o8, o9, o10, o11, o12, o13, o14, o15] ∧ Same H4 Hc ∧ Hc pr = some (.lst (intV (RP E (N.drop (N.length - i))))) ∧ Hc rl = some (.lst xs) ∧ LsK (PsE K) Hc xs (PP E (N.drop (N.length - i))) ∧ Hc ad = some (.dK kv) ∧ AhK E kv (N.drop (N.length - i)))
        ⟨pr0, rl0, ad0, _, _, _, _, _, _, _, _, _, _, _, [], rfl, Same.refl _, by rw [Nat.sub_zero, List.drop_length]; exact s4 _ _ (s3 _ _ (s2 _ _ e1)), s4 _ _ e3, by rw [Nat.sub_zero, List.drop_length]; exact ps0, e4, fun at' => by rw [Nat.sub_zero, List.drop_length, lcp0]; rfl⟩ (fun _ _ _ _ _ => trivial) (fun i x σ Hc Hd hi y e => ?_) (fun σ Hc y => ?_)
      · obtain ⟨rfl, ex⟩ := e
        have ex : x = .int (i : Int) := by rw [ex]; exact congrArg V.int (by omega)
        subst ex
        obtain ⟨pr, rl, ad, o3, o7, o8, o9, o10, o11, o12, o13, o14, o15, xs, kv, rfl, sm, ep, er, hk, ea, hah⟩ := y
        obtain ⟨pl, hpl⟩ : ∃ pl, pl = N.length - 1 - i := ⟨_, rfl⟩
        have hplt : pl < N.length := by omega
        have edr : N.drop pl = N[pl] :: N.drop (N.length - i) := by
          rw [List.drop_eq_getElem_cons hplt, show pl + 1 = N.length - i by omega]
        have ed1 : N.drop (N.length - (i + 1)) = N.drop pl := by rw [show N.length - (i + 1) = pl by omega]
        have hXl : (N.drop (N.length - i)).length = i := by rw [List.length_drop]; omega
        have hNp : N.getD pl 0 = N[pl] := by rw [List.getD_eq_getElem?_getD, List.getElem?_eq_getElem hplt]; rfl
        rw [ed1]
        have sHd := sH4.trans sm
        have hbd := sHd _ _ hb
        refine ⟨_, rfl, b, _, rfl, .inl (SqL.of hbd), _, _, rfl, rfl, _, rfl, _, _, rfl, rfl, ?_⟩
        dsimp only
        rw [hin, show (N.length : Int) - 1 - (i : Int) = (pl : Int) by omega]
        intro rd hrd
        have r1 := same_new (o := .dK []) hrd
        have er1 : upd Hd rd (.dK []) rd = some (.dK []) := upd_same
        generalize upd Hd rd (.dK []) = G0 at r1 er1 ⊢
        refine ⟨_, rfl, sd, rfl, .inl ⟨_, .inl (r1 _ _ (sm _ _ ed4))⟩, _, rfl, _, rfl, b, _, _, _, rfl, rfl, SqL.of (r1 _ _ hbd), atI_nat (intV_at hplt), lenOk (n := 0) rfl (by decide), fun l0 h0 => ?_⟩
        have r2 := same_new (o := .lst []) h0
        have u2 : upd G0 l0 (.lst []) l0 = some (.lst (intV [])) := upd_same
        have er2 := r2 _ _ er1
        generalize upd G0 l0 (.lst []) = G1 at r2 u2 er2 ⊢
        have r12 := r1.trans r2
        rw [hNp]
        refine ⟨valV kvs (.inl (N[pl] : Int)), DGet.k (k := .inl (N[pl] : Int)) (r12 _ _ (sm _ _ ed4)), ?_⟩
        obtain ⟨lx, hlx, elx⟩ : ∃ lx, (valV kvs (.inl (N[pl] : Int))).getD (V.ref l0) = V.ref lx ∧ G1 lx = some (.lst (intV (posL E E.length N[pl]))) := by
          rcases hsp4 N[pl] with ⟨h1, h2⟩ | ⟨l, h1, h2⟩
          · exact ⟨l0, by rw [h1]; rfl, by rw [h2]; exact u2⟩
          · exact ⟨l, by rw [h1]; rfl, r12 _ _ (sm _ _ h2)⟩
        rw [hlx]
        refine ⟨lx, rfl, ⟨_, SqL.of elx⟩, ?_⟩
        rw [edr]
        generalize N[pl] = x0 at *
        generalize hX' : N.drop (N.length - i) = X' at *
        have hplen := posL_len E E.length x0
        have hpll := intV_len (posL E E.length x0)
        have nrl : lx ≠ rd := fun z => by rw [z, er2] at elx; cases elx
        have nad : ad ≠ rd := fun z => by rw [z, hrd] at ea; cases ea
        refine for_it (walk_list (K := K) (a := lx) (xs := intV (posL E E.length x0))) (fun k σ Hc => ∃ (o3 : Option V) (lo fi : Nat) (rv : List (Key × V)), σ = [some (.ref a), some (.ref b), some (.ref sd), o3, some (.ref pr), some (.ref rl), some (.ref ad), some (.int (i : Int)), some (.int (pl : Int)), some (.ref rd), some (.int (lo : Int)), some (.int (fi : Int)), o12, o13, o14, o15] ∧ Same Hd Hc ∧ Hc lx = some (.lst (intV (posL E E.length x0))) ∧ Hc rd = some (.dK rv) ∧ rv.length ≤ k ∧ LoK E (x0 :: X') ((posL E E.length x0).take k) lo fi ∧ ∀ j : Nat, valV rv (.inl (j : Int)) = if j ∈ (posL E E.length x0).take k then some (.int ((lcp (E.drop j) (x0 :: X') : Nat) : Int)) else none)
          ⟨_, 0, 0, [], rfl, r12, elx, er2, Nat.le_refl _, ⟨fun i h => (by cases h), .inl ⟨rfl, rfl⟩⟩, fun j => rfl⟩ (fun k σ Hc _ y => ?_) (fun k x σ Hc He hkk y e => ?_) (fun σ Hc y => ?_)
        · obtain ⟨_, _, _, _, _, _, h, _⟩ := y
          exact SqL.of h
        · obtain ⟨rfl, e⟩ := e
          obtain ⟨o3, lo, fi, rv, rfl, sk, elk, erk, hrl, hlo, hrv⟩ := y
          rw [hpll] at hkk
          rw [intV_at hkk] at e
          cases e
          have hgp : (posL E E.length x0).getD k 0 = (posL E E.length x0)[k] := by rw [List.getD_eq_getElem?_getD, List.getElem?_eq_getElem hkk]; rfl
          have hmem := posL_mem.mp (List.getElem_mem hkk)
          have hlt := posL_lt hkk
          have htk : (posL E E.length x0).take (k + 1) = (posL E E.length x0).take k ++ [(posL E E.length x0)[k]] := by
            rw [List.take_add_one, List.getElem?_eq_getElem hkk]
            rfl
          rw [htk, hgp]
          have hnm : (posL E E.length x0)[k] ∉ (posL E E.length x0).take k := fun z => absurd (hlt _ z) (Nat.lt_irrefl _)
          generalize (posL E E.length x0)[k] = j at *
          generalize (posL E E.length x0).take k = ps at *
          have hlc := lcp_at (X := X') hmem.1 hmem.2
          have hj1 : (valV kv (.inl ((j : Int) + 1))).getD (.int 0) = .int ((lcp (E.drop (j + 1)) X' : Nat) : Int) := by
            have := hah (j + 1)
            rw [Int.natCast_add] at this
            exact this
          refine ⟨_, rfl, ad, rfl, .inl ⟨_, .inl (sk _ _ ea)⟩, _, rfl, _, _, rfl, rfl, valV kv (.inl ((j : Int) + 1)), DGet.k (k := .inl ((j : Int) + 1)) (sk _ _ ea), _, _, rfl, hj1, ?_⟩
          dsimp only
          rw [show (1 : Int) + ((lcp (E.drop (j + 1)) X' : Nat) : Int) = ((lcp (E.drop j) (x0 :: X') : Nat) : Int) by omega]
          have hel1 : 1 ≤ lcp (E.drop j) (x0 :: X') := by omega
          obtain ⟨el, hel⟩ : ∃ el, el = lcp (E.drop j) (x0 :: X') := ⟨_, rfl⟩
          rw [← hel] at hel1 ⊢
          refine ⟨_, rfl, _, rfl, rd, _, rfl, DPut.k (k := .inl (j : Int)) erk (lt_line (by omega)), ?_⟩
          have hps : ∀ j' : Nat, valV (putK rv (.inl (j : Int)) (.int (el : Int))) (.inl (j' : Int)) = if j' ∈ ps ++ [j] then some (.int ((lcp (E.drop j') (x0 :: X') : Nat) : Int)) else none := fun j' => by
            rw [valV_put]
            by_cases hjj : j' = j
            · subst hjj
              rw [if_pos rfl, if_pos (List.mem_append_right _ List.mem_cons_self), hel]
            · rw [if_neg (fun z => hjj (by have := Sum.inl.inj z; omega)), hrv]
              by_cases hm : j' ∈ ps
              · rw [if_pos hm, if_pos (List.mem_append_left _ hm)]
              · rw [if_neg hm, if_neg (fun z => (List.mem_append.mp z).elim hm fun z => hjj (List.mem_singleton.mp z))]
          have hpl2 := length_putK rv (.inl (j : Int)) (V.int (el : Int))
          have hget : valV (putK rv (.inl (j : Int)) (.int (el : Int))) (.inl (j : Int)) = some (.int (el : Int)) := by rw [valV_put, if_pos rfl]
          have sk2 : Same Hd (upd He rd (.dK (putK rv (.inl (j : Int)) (.int (el : Int))))) := same_mut sk hrd
          have elk2 : upd He rd (.dK (putK rv (.inl (j : Int)) (.int (el : Int)))) lx = some (.lst (intV (posL E E.length x0))) := by rw [upd_ne nrl]; exact elk
          have erk2 : upd He rd (.dK (putK rv (.inl (j : Int)) (.int (el : Int)))) rd = some (.dK (putK rv (.inl (j : Int)) (.int (el : Int)))) := upd_same
          generalize upd He rd (.dK (putK rv (.inl (j : Int)) (.int (el : Int)))) = G2 at sk2 elk2 erk2 ⊢
          generalize putK rv (.inl (j : Int)) (.int (el : Int)) = rv2 at *
          have hdg : DGet G2 rd (.int (j : Int)) (some (.int (el : Int))) := by
            have := DGet.k (k := .inl (j : Int)) erk2
            rw [hget] at this
            exact this
          refine ⟨_, rfl, _, rfl, rd, _, rfl, hdg, _, rfl, _, _, rfl, rfl, _, rfl, ifB (fun e => ?_) (fun e => ?_)⟩
          · have e := of_decide_eq_true e
            refine ⟨_, rfl, _, rfl, rd, _, rfl, hdg, _, rfl, ?_⟩
            refine ⟨_, el, j, rv2, rfl, sk2, elk2, erk2, by omega, ⟨fun i' hi' => ?_, .inr ⟨by omega, List.mem_append_right _ List.mem_cons_self, hel.symm, fun i' hi' hlt' => ?_⟩⟩, hps⟩
            · rcases List.mem_append.mp hi' with z | z
              · have := hlo.1 i' z
                omega
              · rw [List.mem_singleton.mp z]
                omega
            · rcases List.mem_append.mp hi' with z | z
              · have := hlo.1 i' z
                omega
              · rw [List.mem_singleton.mp z] at hlt'
                omega
          · have e := of_decide_eq_false e
            refine ⟨_, lo, fi, rv2, rfl, sk2, elk2, erk2, by omega, ⟨fun i' hi' => ?_, hlo.2.imp id fun ⟨z1, z0, z2, z3⟩ => ⟨z1, List.mem_append_left _ z0, z2, fun i' hi' hlt' => ?_⟩⟩, hps⟩
            · rcases List.mem_append.mp hi' with z | z
              · exact hlo.1 i' z
              · rw [List.mem_singleton.mp z]
                omega
            · rcases List.mem_append.mp hi' with z | z
              · exact z3 i' z hlt'
              · rw [List.mem_singleton.mp z] at hlt' ⊢
                have := hlt fi z0
                omega
        · obtain ⟨o3, lo, fi, rv, rfl, sk, elk, erk, hrl, hlo, hrv⟩ := y
          rw [hpll, List.take_length] at hlo hrv
          obtain ⟨rfl, rfl⟩ := hlo.fin
          have hah2 : AhK E rv (x0 :: X') := fun j => by
            rw [hrv j]
            by_cases hm : j ∈ posL E E.length x0
            · rw [if_pos hm]
              rfl
            · rw [if_neg hm]
              have : lcp (E.drop j) (x0 :: X') = 0 := by
                rcases Nat.eq_zero_or_pos (lcp (E.drop j) (x0 :: X')) with z | z
                · exact z
                · exact absurd (posL_mem.mpr (lcp_pos z)) hm
              rw [this]
              rfl
          refine ⟨_, rfl, lenOk (n := 0) rfl (by decide), fun te hte => ?_⟩
          have k1 := same_new (o := .tup []) hte
          have ute : upd Hc te (.tup []) te = some (.tup []) := upd_same
          generalize upd Hc te (.tup []) = J0 at k1 ute ⊢
          have sJ := sk.trans k1
          have erJ := k1 _ _ erk
          have hXX : (x0 :: X').length = i + 1 := by rw [List.length_cons, hXl]
          have hputs := best_puts E X' x0
          have hcost := best_cost E X' x0
          have hRl := RP_len E X'
          have hPl := PP_len E X'
          have hPg := PP_get E X'
          have hPP : PP E (x0 :: X') = rwP (PP E X') (some (best E (x0 :: X') (RP E X'))) :: PP E X' := rfl
          have hRP : RP E (x0 :: X') = nx (RP E X') (lcn E (x0 :: X')) :: RP E X' := rfl
          have hcle := lcn_le E (x0 :: X')
          have hpcl : ∀ k, k ≤ i → ((PP E X').getD k []).length ≤ 200 := fun k hk => by
            rw [hPg k (by omega)]
            have := (pcs_len E (X'.drop k).length (X'.drop k) (Nat.le_refl _)).1
            rw [List.length_drop] at this
            omega
          have hptsd : pts (x0 :: X') = (List.range (i + 1)).map fun less => ptL (x0 :: X') (i + 1 - less) := by
            unfold pts
            rw [hXX]
          rw [hptsd] at hputs
          rw [hPP, hRP, ← hcost]
          clear hPP hRP hcost hPg hptsd
          rw [hXl] at hRl hPl
          rw [hXX] at hcle
          generalize best E (x0 :: X') (RP E X') = bst at *
          have epJ := sJ _ _ ep
          have elJ := sJ _ _ er
          have hkJ := hk.up fun p a h => h.up sJ
          generalize RP E X' = R at *
          generalize PP E X' = P' at *
          have hatR : ∀ (c : Nat) (G : Hp), 1 ≤ c → c ≤ i + 1 → atI (intV R) ((c : Int) - 1) = some (.int ((R.getD (c - 1) 0 : Nat) : Int)) := fun c G h1 h2 => by
            rw [show (c : Int) - 1 = ((c - 1 : Nat) : Int) by omega]
            exact atI_nat (intV_at (by omega))
          have hatX : ∀ (c : Nat) (G : Hp), Same J0 G → 1 ≤ c → c ≤ i + 1 → ∃ rp, atI xs ((c : Int) - 1) = some (.ref rp) ∧ PsE K G rp (P'.getD (c - 1) []) := fun c G sG h1 h2 => by
            obtain ⟨rp, g1, g2⟩ := (hkJ.up fun p a h => h.up sG).getD (i := c - 1) (d := []) (by omega)
            refine ⟨rp, ?_, g2⟩
            rw [show (c : Int) - 1 = ((c - 1 : Nat) : Int) by omega]
            exact atI_nat g1
          refine ⟨_, rfl, _, _, rfl, rfl, _, rfl, ifB (fun e => ?_) (fun e => ?_)⟩
          · have e : 0 < lcn E (x0 :: X') := by
              have : (0 : Int) < ((lcn E (x0 :: X') : Nat) : Int) := of_decide_eq_true e
              omega
            have hcp : cp0 E (x0 :: X') = some ⟨.cp (fat E (x0 :: X')) (lcn E (x0 :: X')), lcn E (x0 :: X'), 2⟩ := by
              unfold cp0
              rw [if_pos e]
            refine ⟨_, rfl, _, rfl, _, _, rfl, rfl, pr, _, _, _, rfl, rfl, SqL.of epJ, hatR _ J0 e hcle, _, _, rfl, rfl, ?_⟩
            refine ⟨_, rfl, _, rfl, lenOk (n := 3) rfl (by decide), fun q3 hq3 => ?_⟩
            have w3 := same_new (o := .tup [V.str (Str.ofString "copy"), V.int ((fat E (x0 :: X') : Nat) : Int), V.int ((lcn E (x0 :: X') : Nat) : Int)]) hq3
            have v3 : upd J0 q3 (.tup [V.str (Str.ofString "copy"), V.int ((fat E (x0 :: X') : Nat) : Int), V.int ((lcn E (x0 :: X') : Nat) : Int)]) q3 = some (.tup [V.str (Str.ofString "copy"), V.int ((fat E (x0 :: X') : Nat) : Int), V.int ((lcn E (x0 :: X') : Nat) : Int)]) := upd_same
            generalize upd J0 q3 (.tup [V.str (Str.ofString "copy"), V.int ((fat E (x0 :: X') : Nat) : Int), V.int ((lcn E (x0 :: X') : Nat) : Int)]) = M3 at w3 v3 ⊢
            refine ⟨lenOk (n := 1) rfl (by decide), fun q4 hq4 => ?_⟩
            have w4 := same_new (o := .tup [V.ref q3]) hq4
            have v4 : upd M3 q4 (.tup [V.ref q3]) q4 = some (.tup [V.ref q3]) := upd_same
            generalize upd M3 q4 (.tup [V.ref q3]) = M4 at w4 v4 ⊢
            have wA := w3.trans w4
            obtain ⟨rp, hrp1, hrp2⟩ := hatX _ M4 wA e hcle
            refine ⟨_, rfl, _, rfl, _, _, rfl, rfl, rl, _, _, _, rfl, rfl, SqL.of (wA _ _ elJ), hrp1, ?_⟩
            refine ps_cons v4 (mk_cp (w4 _ _ v3) fun z => z) hrp2 (Nat.le_trans (hpcl _ (by omega)) (by decide)) fun q0 J1 s9 hq0 => ?_
            have sJ1 := wA.trans s9
            have hq0 : PsE K J1 q0 (rwP P' ((((List.range 0).map fun less => ptL (x0 :: X') (i + 1 - less))).foldl (DL.stC R) (cp0 E (x0 :: X')))) := by
              rw [hcp]
              exact hq0
            have hst : ∀ z : Int, z = 2 + ((R.getD (lcn E (x0 :: X') - 1) 0 : Nat) : Int) → [some (V.ref a), some (V.ref b), some (V.ref sd), o3, some (.ref pr), some (.ref rl), some (.ref rd), some (.int (i : Int)), some (.int (pl : Int)), some (.ref rd), some (.int ((lcn E (x0 :: X') : Nat) : Int)), some (.int ((fat E (x0 :: X') : Nat) : Int)), some (V.int z), some (.ref q0), o14, o15] = [some (V.ref a), some (V.ref b), some (V.ref sd), o3, some (.ref pr), some (.ref rl), some (.ref rd), some (.int (i : Int)), some (.int (pl : Int)), some (.ref rd), some (.int ((lcn E (x0 :: X') : Nat) : Int)), some (.int ((fat E (x0 :: X') : Nat) : Int)), some (lsV R ((((List.range 0).map fun less => ptL (x0 :: X') (i + 1 - less))).foldl (DL.stC R) (cp0 E (x0 :: X')))), some (.ref q0), o14, o15] := fun z hz => by
              rw [hcp]
              exact congrArg (fun z => [some (V.ref a), some (V.ref b), some (V.ref sd), o3, some (.ref pr), some (.ref rl), some (.ref rd), some (.int (i : Int)), some (.int (pl : Int)), some (.ref rd), some (.int ((lcn E (x0 :: X') : Nat) : Int)), some (.int ((fat E (x0 :: X') : Nat) : Int)), some (V.int z), some (.ref q0), o14, o15]) (by rw [hz]; show _ = ((2 + R.getD (lcn E (x0 :: X') - 1) 0 : Nat) : Int); omega)
            have hst := hst _ rfl
            refine ⟨_, rfl, _, _, rfl, rfl, (i : Int) + 1, rfl, by omega, by omega, ?_⟩
            rw [show ((i : Int) + 1).toNat = i + 1 by omega]
            refine for_it (walk_range (lo := 0) (n := i + 1)) (fun k σ Hc => ∃ (q : Addr) (o14 o15 : Option V), σ = [some (.ref a), some (.ref b), some (.ref sd), o3, some (.ref pr), some (.ref rl), some (.ref rd), some (.int (i : Int)), some (.int (pl : Int)), some (.ref rd), some (.int ((lcn E (x0 :: X') : Nat) : Int)), some (.int ((fat E (x0 :: X') : Nat) : Int)), some (lsV R ((((List.range k).map fun less => ptL (x0 :: X') (i + 1 - less))).foldl (DL.stC R) (cp0 E (x0 :: X')))), some (.ref q), o14, o15] ∧ Same J1 Hc ∧ PsE K Hc q (rwP P' ((((List.range k).map fun less => ptL (x0 :: X') (i + 1 - less))).foldl (DL.stC R) (cp0 E (x0 :: X')))))
              ⟨q0, _, _, hst, Same.refl _, hq0⟩ (fun _ _ _ _ _ => trivial) (fun k x σ Hc He hkk y e => ?_) (fun σ Hc y => ?_)
            · obtain ⟨rfl, ex⟩ := e
              have ex : x = .int (k : Int) := by rw [ex]; exact congrArg V.int (by omega)
              subst ex
              obtain ⟨q1, o14, o15, rfl, sL, hps⟩ := y
              have sJL := sJ1.trans sL
              rw [List.range_succ, List.map_append, List.foldl_append]
              generalize ((List.range k).map fun less => ptL (x0 :: X') (i + 1 - less)).foldl (DL.stC R) (cp0 E (x0 :: X')) = bb at *
              refine ⟨_, rfl, _, _, rfl, rfl, _, rfl, _, _, rfl, rfl, ?_⟩
              dsimp only
              obtain ⟨c, hc⟩ : ∃ c, c = i + 1 - k := ⟨_, rfl⟩
              rw [show (i : Int) + 1 - (k : Int) = (c : Int) by omega]
              have hm : ([k].map fun less => ptL (x0 :: X') (i + 1 - less)).foldl (DL.stC R) bb = DL.stC R bb (ptL (x0 :: X') c) := by rw [hc]; rfl
              rw [hm]
              have epL := sJL _ _ epJ
              have elL := sJL _ _ elJ
              have hat := hatR c He (by omega) (by omega)
              have hcc : (1 : Int) + (c : Int) + ((R.getD (c - 1) 0 : Nat) : Int) = ((chC R (ptL (x0 :: X') c) : Nat) : Int) := by
                show _ = ((1 + c + R.getD (c - 1) 0 : Nat) : Int)
                omega
              cases bb with
              | none =>
                have est : DL.stC R none (ptL (x0 :: X') c) = some (ptL (x0 :: X') c) := by
                  unfold DL.stC stepS
                  rw [if_pos ⟨rfl, trivial⟩]
                refine ⟨_, rfl, rfl, _, rfl, ifT (decide_eq_true rfl) ?_⟩
                refine ⟨_, rfl, _, _, rfl, rfl, _, rfl, _, rfl, _, _, rfl, rfl, pr, _, _, _, rfl, rfl, SqL.of epL, hat, _, _, rfl, rfl, ?_⟩
                refine ⟨_, rfl, _, rfl, _, rfl, _, rfl, _, rfl, _, _, rfl, rfl, _, rfl, b, _, rfl, SqL.of ((sHd.trans (sJ.trans sJL)) _ _ hb), fun l1 h1 => ?_⟩
                rw [show (pl : Int) + (c : Int) = ((pl + c : Nat) : Int) by omega, cutV_any, show pl + c - pl = c by omega, edr]
                have w1 := same_new (o := .lst (intV ((x0 :: X').take c))) h1
                have v1 : upd He l1 (.lst (intV ((x0 :: X').take c))) l1 = some (.lst (intV ((x0 :: X').take c))) := upd_same
                generalize upd He l1 (.lst (intV ((x0 :: X').take c))) = M1 at w1 v1 ⊢
                refine ⟨l1, _, rfl, .inl ⟨SqL.of v1, fun t1 ht1 => ?_⟩⟩
                have w2 := same_new (o := .tup (intV ((x0 :: X').take c))) ht1
                have v2 : upd M1 t1 (.tup (intV ((x0 :: X').take c))) t1 = some (.tup (intV ((x0 :: X').take c))) := upd_same
                generalize upd M1 t1 (.tup (intV ((x0 :: X').take c))) = M2 at w2 v2 ⊢
                refine ⟨lenOk (n := 2) rfl (by decide), fun q3 hq3 => ?_⟩
                have w3 := same_new (o := .tup [V.str (Str.ofString "put"), V.ref t1]) hq3
                have v3 : upd M2 q3 (.tup [V.str (Str.ofString "put"), V.ref t1]) q3 = some (.tup [V.str (Str.ofString "put"), V.ref t1]) := upd_same
                generalize upd M2 q3 (.tup [V.str (Str.ofString "put"), V.ref t1]) = M3 at w3 v3 ⊢
                refine ⟨lenOk (n := 1) rfl (by decide), fun q4 hq4 => ?_⟩
                have w4 := same_new (o := .tup [V.ref q3]) hq4
                have v4 : upd M3 q4 (.tup [V.ref q3]) q4 = some (.tup [V.ref q3]) := upd_same
                generalize upd M3 q4 (.tup [V.ref q3]) = M4 at w4 v4 ⊢
                have wA := w1.trans (w2.trans (w3.trans w4))
                obtain ⟨rp, hrp1, hrp2⟩ := hatX c M4 (sJL.trans wA) (by omega) (by omega)
                refine ⟨_, rfl, _, rfl, _, _, rfl, rfl, rl, _, _, _, rfl, rfl, SqL.of (wA _ _ elL), hrp1, ?_⟩
                refine ps_cons v4 (mk_pt (w4 _ _ v3) (fun z => z) (XT.of (w4 _ _ (w3 _ _ v2)) fun z => z)) hrp2 (Nat.le_trans (hpcl (c - 1) (by omega)) (by decide)) fun p H9 s9 hp9 => ?_
                refine ⟨p, some (.int (k : Int)), some (.int (c : Int)), ?_, sL.trans (wA.trans s9), ?_⟩
                · rw [est]
                  exact congrArg (fun z => [some (V.ref a), some (.ref b), some (.ref sd), o3, some (.ref pr), some (.ref rl), some (.ref rd), some (.int (i : Int)), some (.int (pl : Int)), some (.ref rd), some (.int ((lcn E (x0 :: X') : Nat) : Int)), some (.int ((fat E (x0 :: X') : Nat) : Int)), some (V.int z), some (.ref p), _, _]) hcc
                · rw [est]
                  exact hp9
              | some b0 =>
                refine ⟨_, rfl, rfl, _, rfl, ifF (decide_eq_false fun w => nomatch w) ?_⟩
                refine ⟨_, rfl, _, _, rfl, rfl, _, rfl, _, rfl, _, _, rfl, rfl, pr, _, _, _, rfl, rfl, SqL.of epL, hat, _, _, rfl, rfl, _, rfl, _, _, rfl, rfl, _, rfl, ifB (fun e => ?_) (fun e => ?_)⟩
                · have e := of_decide_eq_true e
                  have est : DL.stC R (some b0) (ptL (x0 :: X') c) = some (ptL (x0 :: X') c) := by
                    unfold DL.stC stepS
                    rw [if_pos ⟨rfl, show chC R (ptL (x0 :: X') c) < chC R b0 by omega⟩]
                  refine ⟨_, rfl, _, _, rfl, rfl, _, rfl, _, rfl, _, _, rfl, rfl, pr, _, _, _, rfl, rfl, SqL.of epL, hat, _, _, rfl, rfl, ?_⟩
                  refine ⟨_, rfl, _, rfl, _, rfl, _, rfl, _, rfl, _, _, rfl, rfl, _, rfl, b, _, rfl, SqL.of ((sHd.trans (sJ.trans sJL)) _ _ hb), fun l1 h1 => ?_⟩
                  rw [show (pl : Int) + (c : Int) = ((pl + c : Nat) : Int) by omega, cutV_any, show pl + c - pl = c by omega, edr]
                  have w1 := same_new (o := .lst (intV ((x0 :: X').take c))) h1
                  have v1 : upd He l1 (.lst (intV ((x0 :: X').take c))) l1 = some (.lst (intV ((x0 :: X').take c))) := upd_same
                  generalize upd He l1 (.lst (intV ((x0 :: X').take c))) = M1 at w1 v1 ⊢
                  refine ⟨l1, _, rfl, .inl ⟨SqL.of v1, fun t1 ht1 => ?_⟩⟩
                  have w2 := same_new (o := .tup (intV ((x0 :: X').take c))) ht1
                  have v2 : upd M1 t1 (.tup (intV ((x0 :: X').take c))) t1 = some (.tup (intV ((x0 :: X').take c))) := upd_same
                  generalize upd M1 t1 (.tup (intV ((x0 :: X').take c))) = M2 at w2 v2 ⊢
                  refine ⟨lenOk (n := 2) rfl (by decide), fun q3 hq3 => ?_⟩
                  have w3 := same_new (o := .tup [V.str (Str.ofString "put"), V.ref t1]) hq3
                  have v3 : upd M2 q3 (.tup [V.str (Str.ofString "put"), V.ref t1]) q3 = some (.tup [V.str (Str.ofString "put"), V.ref t1]) := upd_same
                  generalize upd M2 q3 (.tup [V.str (Str.ofString "put"), V.ref t1]) = M3 at w3 v3 ⊢
                  refine ⟨lenOk (n := 1) rfl (by decide), fun q4 hq4 => ?_⟩
                  have w4 := same_new (o := .tup [V.ref q3]) hq4
                  have v4 : upd M3 q4 (.tup [V.ref q3]) q4 = some (.tup [V.ref q3]) := upd_same
                  generalize upd M3 q4 (.tup [V.ref q3]) = M4 at w4 v4 ⊢
                  have wA := w1.trans (w2.trans (w3.trans w4))
                  obtain ⟨rp, hrp1, hrp2⟩ := hatX c M4 (sJL.trans wA) (by omega) (by omega)
                  refine ⟨_, rfl, _, rfl, _, _, rfl, rfl, rl, _, _, _, rfl, rfl, SqL.of (wA _ _ elL), hrp1, ?_⟩
                  refine ps_cons v4 (mk_pt (w4 _ _ v3) (fun z => z) (XT.of (w4 _ _ (w3 _ _ v2)) fun z => z)) hrp2 (Nat.le_trans (hpcl (c - 1) (by omega)) (by decide)) fun p H9 s9 hp9 => ?_
                  refine ⟨p, some (.int (k : Int)), some (.int (c : Int)), ?_, sL.trans (wA.trans s9), ?_⟩
                  · rw [est]
                    exact congrArg (fun z => [some (V.ref a), some (.ref b), some (.ref sd), o3, some (.ref pr), some (.ref rl), some (.ref rd), some (.int (i : Int)), some (.int (pl : Int)), some (.ref rd), some (.int ((lcn E (x0 :: X') : Nat) : Int)), some (.int ((fat E (x0 :: X') : Nat) : Int)), some (V.int z), some (.ref p), _, _]) hcc
                  · rw [est]
                    exact hp9
                · have e := of_decide_eq_false e
                  have est : DL.stC R (some b0) (ptL (x0 :: X') c) = some b0 := by
                    unfold DL.stC stepS
                    rw [if_neg fun z => by
                      have : chC R (ptL (x0 :: X') c) < chC R b0 := z.2
                      omega]
                  rw [est]
                  exact ⟨q1, _, _, rfl, sL, hps⟩
            · obtain ⟨q1, o14, o15, rfl, sL, hps⟩ := y
              rw [hputs] at hps ⊢
              have sJL := sJ1.trans sL
              have epk := sJL _ _ epJ
              have elk := sJL _ _ elJ
              have hkk1 := hkJ.up fun p a h => h.up sJL
              have hxl := hk.1
              refine ⟨_, rfl, lenOk (n := 1) rfl (by decide), fun l1 h1 => ?_⟩
              have t1 := same_new (o := .lst [lsV R (some bst)]) h1
              have u1 : upd Hc l1 (.lst [lsV R (some bst)]) l1 = some (.lst [lsV R (some bst)]) := upd_same
              generalize upd Hc l1 (.lst [lsV R (some bst)]) = M1 at t1 u1 ⊢
              refine ⟨_, rfl, l1, pr, _, _, rfl, rfl, u1, t1 _ _ epk, le_line (by rw [intV_len]; show 1 + _ ≤ _; omega), fun l2 h2 => ?_⟩
              have t2 := same_new (o := .lst ([lsV R (some bst)] ++ intV R)) h2
              have u2 : upd M1 l2 (.lst ([lsV R (some bst)] ++ intV R)) l2 = some (.lst (intV (chC R bst :: R))) := upd_same
              generalize upd M1 l2 (.lst ([lsV R (some bst)] ++ intV R)) = M2 at t2 u2 ⊢
              refine ⟨_, rfl, lenOk (n := 1) rfl (by decide), fun l3 h3 => ?_⟩
              have t3 := same_new (o := .lst [V.ref q1]) h3
              have u3 : upd M2 l3 (.lst [V.ref q1]) l3 = some (.lst [V.ref q1]) := upd_same
              generalize upd M2 l3 (.lst [V.ref q1]) = M3 at t3 u3 ⊢
              refine ⟨_, rfl, l3, rl, _, _, rfl, rfl, u3, t3 _ _ (t2 _ _ (t1 _ _ elk)), le_line (by show 1 + _ ≤ _; omega), fun l4 h4 => ?_⟩
              have t4 := same_new (o := .lst ([V.ref q1] ++ xs)) h4
              have tA := t1.trans (t2.trans (t3.trans t4))
              exact ⟨l2, l4, rd, _, _, _, _, _, _, _, _, _, _, _, rv, rfl, sm.trans (sJ.trans (sJL.trans tA)), t4 _ _ (t3 _ _ u2), upd_same, (hkk1.cons hps).up fun p a h => h.up tA, (sJL.trans tA) _ _ erJ, hah2⟩
          · have e : ¬ 0 < lcn E (x0 :: X') := by
              have : ¬ (0 : Int) < ((lcn E (x0 :: X') : Nat) : Int) := of_decide_eq_false e
              omega
            have hcp : cp0 E (x0 :: X') = none := by
              unfold cp0
              rw [if_neg e]
            obtain ⟨J1, hJ1⟩ : ∃ J1, J1 = J0 := ⟨_, rfl⟩
            have sJ1 : Same J0 J1 := by rw [hJ1]; exact Same.refl _
            obtain ⟨q0, hq00⟩ : ∃ q0, q0 = te := ⟨_, rfl⟩
            have hq0 : PsE K J1 q0 (rwP P' ((((List.range 0).map fun less => ptL (x0 :: X') (i + 1 - less))).foldl (DL.stC R) (cp0 E (x0 :: X')))) := by
              rw [hcp, hJ1, hq00]
              exact .tup (XT.of ute fun z => z) .nil
            have hst : [some (V.ref a), some (V.ref b), some (V.ref sd), o3, some (.ref pr), some (.ref rl), some (.ref rd), some (.int (i : Int)), some (.int (pl : Int)), some (.ref rd), some (.int ((lcn E (x0 :: X') : Nat) : Int)), some (.int ((fat E (x0 :: X') : Nat) : Int)), some V.non, some (.ref q0), o14, o15] = [some (V.ref a), some (V.ref b), some (V.ref sd), o3, some (.ref pr), some (.ref rl), some (.ref rd), some (.int (i : Int)), some (.int (pl : Int)), some (.ref rd), some (.int ((lcn E (x0 :: X') : Nat) : Int)), some (.int ((fat E (x0 :: X') : Nat) : Int)), some (lsV R ((((List.range 0).map fun less => ptL (x0 :: X') (i + 1 - less))).foldl (DL.stC R) (cp0 E (x0 :: X')))), some (.ref q0), o14, o15] := by
              rw [hcp]
              rfl
            rw [← hJ1, ← hq00]
            refine ⟨_, rfl, _, _, rfl, rfl, (i : Int) + 1, rfl, by omega, by omega, ?_⟩
            rw [show ((i : Int) + 1).toNat = i + 1 by omega]
            refine for_it (walk_range (lo := 0) (n := i + 1)) (fun k σ Hc => ∃ (q : Addr) (o14 o15 : Option V), σ = [some (.ref a), some (.ref b), some (.ref sd), o3, some (.ref pr), some (.ref rl), some (.ref rd), some (.int (i : Int)), some (.int (pl : Int)), some (.ref rd), some (.int ((lcn E (x0 :: X') : Nat) : Int)), some (.int ((fat E (x0 :: X') : Nat) : Int)), some (lsV R ((((List.range k).map fun less => ptL (x0 :: X') (i + 1 - less))).foldl (DL.stC R) (cp0 E (x0 :: X')))), some (.ref q), o14, o15] ∧ Same J1 Hc ∧ PsE K Hc q (rwP P' ((((List.range k).map fun less => ptL (x0 :: X') (i + 1 - less))).foldl (DL.stC R) (cp0 E (x0 :: X')))))
              ⟨q0, _, _, hst, Same.refl _, hq0⟩ (fun _ _ _ _ _ => trivial) (fun k x σ Hc He hkk y e => ?_) (fun σ Hc y => ?_)
            · obtain ⟨rfl, ex⟩ := e
              have ex : x = .int (k : Int) := by rw [ex]; exact congrArg V.int (by omega)
              subst ex
              obtain ⟨q1, o14, o15, rfl, sL, hps⟩ := y
              have sJL := sJ1.trans sL
              rw [List.range_succ, List.map_append, List.foldl_append]
              generalize ((List.range k).map fun less => ptL (x0 :: X') (i + 1 - less)).foldl (DL.stC R) (cp0 E (x0 :: X')) = bb at *
              refine ⟨_, rfl, _, _, rfl, rfl, _, rfl, _, _, rfl, rfl, ?_⟩
              dsimp only
              obtain ⟨c, hc⟩ : ∃ c, c = i + 1 - k := ⟨_, rfl⟩
              rw [show (i : Int) + 1 - (k : Int) = (c : Int) by omega]
              have hm : ([k].map fun less => ptL (x0 :: X') (i + 1 - less)).foldl (DL.stC R) bb = DL.stC R bb (ptL (x0 :: X') c) := by rw [hc]; rfl
              rw [hm]
              have epL := sJL _ _ epJ
              have elL := sJL _ _ elJ
              have hat := hatR c He (by omega) (by omega)
              have hcc : (1 : Int) + (c : Int) + ((R.getD (c - 1) 0 : Nat) : Int) = ((chC R (ptL (x0 :: X') c) : Nat) : Int) := by
                show _ = ((1 + c + R.getD (c - 1) 0 : Nat) : Int)
                omega
              cases bb with
              | none =>
                have est : DL.stC R none (ptL (x0 :: X') c) = some (ptL (x0 :: X') c) := by
                  unfold DL.stC stepS
                  rw [if_pos ⟨rfl, trivial⟩]
                refine ⟨_, rfl, rfl, _, rfl, ifT (decide_eq_true rfl) ?_⟩
                refine ⟨_, rfl, _, _, rfl, rfl, _, rfl, _, rfl, _, _, rfl, rfl, pr, _, _, _, rfl, rfl, SqL.of epL, hat, _, _, rfl, rfl, ?_⟩
                refine ⟨_, rfl, _, rfl, _, rfl, _, rfl, _, rfl, _, _, rfl, rfl, _, rfl, b, _, rfl, SqL.of ((sHd.trans (sJ.trans sJL)) _ _ hb), fun l1 h1 => ?_⟩
                rw [show (pl : Int) + (c : Int) = ((pl + c : Nat) : Int) by omega, cutV_any, show pl + c - pl = c by omega, edr]
                have w1 := same_new (o := .lst (intV ((x0 :: X').take c))) h1
                have v1 : upd He l1 (.lst (intV ((x0 :: X').take c))) l1 = some (.lst (intV ((x0 :: X').take c))) := upd_same
                generalize upd He l1 (.lst (intV ((x0 :: X').take c))) = M1 at w1 v1 ⊢
                refine ⟨l1, _, rfl, .inl ⟨SqL.of v1, fun t1 ht1 => ?_⟩⟩
                have w2 := same_new (o := .tup (intV ((x0 :: X').take c))) ht1
                have v2 : upd M1 t1 (.tup (intV ((x0 :: X').take c))) t1 = some (.tup (intV ((x0 :: X').take c))) := upd_same
                generalize upd M1 t1 (.tup (intV ((x0 :: X').take c))) = M2 at w2 v2 ⊢
                refine ⟨lenOk (n := 2) rfl (by decide), fun q3 hq3 => ?_⟩
                have w3 := same_new (o := .tup [V.str (Str.ofString "put"), V.ref t1]) hq3
                have v3 : upd M2 q3 (.tup [V.str (Str.ofString "put"), V.ref t1]) q3 = some (.tup [V.str (Str.ofString "put"), V.ref t1]) := upd_same
                generalize upd M2 q3 (.tup [V.str (Str.ofString "put"), V.ref t1]) = M3 at w3 v3 ⊢
                refine ⟨lenOk (n := 1) rfl (by decide), fun q4 hq4 => ?_⟩
                have w4 := same_new (o := .tup [V.ref q3]) hq4
                have v4 : upd M3 q4 (.tup [V.ref q3]) q4 = some (.tup [V.ref q3]) := upd_same
                generalize upd M3 q4 (.tup [V.ref q3]) = M4 at w4 v4 ⊢
                have wA := w1.trans (w2.trans (w3.trans w4))
                obtain ⟨rp, hrp1, hrp2⟩ := hatX c M4 (sJL.trans wA) (by omega) (by omega)
                refine ⟨_, rfl, _, rfl, _, _, rfl, rfl, rl, _, _, _, rfl, rfl, SqL.of (wA _ _ elL), hrp1, ?_⟩
                refine ps_cons v4 (mk_pt (w4 _ _ v3) (fun z => z) (XT.of (w4 _ _ (w3 _ _ v2)) fun z => z)) hrp2 (Nat.le_trans (hpcl (c - 1) (by omega)) (by decide)) fun p H9 s9 hp9 => ?_
                refine ⟨p, some (.int (k : Int)), some (.int (c : Int)), ?_, sL.trans (wA.trans s9), ?_⟩
                · rw [est]
                  exact congrArg (fun z => [some (V.ref a), some (.ref b), some (.ref sd), o3, some (.ref pr), some (.ref rl), some (.ref rd), some (.int (i : Int)), some (.int (pl : Int)), some (.ref rd), some (.int ((lcn E (x0 :: X') : Nat) : Int)), some (.int ((fat E (x0 :: X') : Nat) : Int)), some (V.int z), some (.ref p), _, _]) hcc
                · rw [est]
                  exact hp9
              | some b0 =>
                refine ⟨_, rfl, rfl, _, rfl, ifF (decide_eq_false fun w => nomatch w) ?_⟩
                refine ⟨_, rfl, _, _, rfl, rfl, _, rfl, _, rfl, _, _, rfl, rfl, pr, _, _, _, rfl, rfl, SqL.of epL, hat, _, _, rfl, rfl, _, rfl, _, _, rfl, rfl, _, rfl, ifB (fun e => ?_) (fun e => ?_)⟩
                · have e := of_decide_eq_true e
                  have est : DL.stC R (some b0) (ptL (x0 :: X') c) = some (ptL (x0 :: X') c) := by
                    unfold DL.stC stepS
                    rw [if_pos ⟨rfl, show chC R (ptL (x0 :: X') c) < chC R b0 by omega⟩]
                  refine ⟨_, rfl, _, _, rfl, rfl, _, rfl, _, rfl, _, _, rfl, rfl, pr, _, _, _, rfl, rfl, SqL.of epL, hat, _, _, rfl, rfl, ?_⟩
                  refine ⟨_, rfl, _, rfl, _, rfl, _, rfl, _, rfl, _, _, rfl, rfl, _, rfl, b, _, rfl, SqL.of ((sHd.trans (sJ.trans sJL)) _ _ hb), fun l1 h1 => ?_⟩
                  rw [show (pl : Int) + (c : Int) = ((pl + c : Nat) : Int) by omega, cutV_any, show pl + c - pl = c by omega, edr]
                  have w1 := same_new (o := .lst (intV ((x0 :: X').take c))) h1
                  have v1 : upd He l1 (.lst (intV ((x0 :: X').take c))) l1 = some (.lst (intV ((x0 :: X').take c))) := upd_same
                  generalize upd He l1 (.lst (intV ((x0 :: X').take c))) = M1 at w1 v1 ⊢
                  refine ⟨l1, _, rfl, .inl ⟨SqL.of v1, fun t1 ht1 => ?_⟩⟩
                  have w2 := same_new (o := .tup (intV ((x0 :: X').take c))) ht1
                  have v2 : upd M1 t1 (.tup (intV ((x0 :: X').take c))) t1 = some (.tup (intV ((x0 :: X').take c))) := upd_same
                  generalize upd M1 t1 (.tup (intV ((x0 :: X').take c))) = M2 at w2 v2 ⊢
                  refine ⟨lenOk (n := 2) rfl (by decide), fun q3 hq3 => ?_⟩
                  have w3 := same_new (o := .tup [V.str (Str.ofString "put"), V.ref t1]) hq3
                  have v3 : upd M2 q3 (.tup [V.str (Str.ofString "put"), V.ref t1]) q3 = some (.tup [V.str (Str.ofString "put"), V.ref t1]) := upd_same
                  generalize upd M2 q3 (.tup [V.str (Str.ofString "put"), V.ref t1]) = M3 at w3 v3 ⊢
                  refine ⟨lenOk (n := 1) rfl (by decide), fun q4 hq4 => ?_⟩
                  have w4 := same_new (o := .tup [V.ref q3]) hq4
                  have v4 : upd M3 q4 (.tup [V.ref q3]) q4 = some (.tup [V.ref q3]) := upd_same
                  generalize upd M3 q4 (.tup [V.ref q3]) = M4 at w4 v4 ⊢
                  have wA := w1.trans (w2.trans (w3.trans w4))
                  obtain ⟨rp, hrp1, hrp2⟩ := hatX c M4 (sJL.trans wA) (by omega) (by omega)
                  refine ⟨_, rfl, _, rfl, _, _, rfl, rfl, rl, _, _, _, rfl, rfl, SqL.of (wA _ _ elL), hrp1, ?_⟩
                  refine ps_cons v4 (mk_pt (w4 _ _ v3) (fun z => z) (XT.of (w4 _ _ (w3 _ _ v2)) fun z => z)) hrp2 (Nat.le_trans (hpcl (c - 1) (by omega)) (by decide)) fun p H9 s9 hp9 => ?_
                  refine ⟨p, some (.int (k : Int)), some (.int (c : Int)), ?_, sL.trans (wA.trans s9), ?_⟩
                  · rw [est]
                    exact congrArg (fun z => [some (V.ref a), some (.ref b), some (.ref sd), o3, some (.ref pr), some (.ref rl), some (.ref rd), some (.int (i : Int)), some (.int (pl : Int)), some (.ref rd), some (.int ((lcn E (x0 :: X') : Nat) : Int)), some (.int ((fat E (x0 :: X') : Nat) : Int)), some (V.int z), some (.ref p), _, _]) hcc
                  · rw [est]
                    exact hp9
                · have e := of_decide_eq_false e
                  have est : DL.stC R (some b0) (ptL (x0 :: X') c) = some b0 := by
                    unfold DL.stC stepS
                    rw [if_neg fun z => by
                      have : chC R (ptL (x0 :: X') c) < chC R b0 := z.2
                      omega]
                  rw [est]
                  exact ⟨q1, _, _, rfl, sL, hps⟩
            · obtain ⟨q1, o14, o15, rfl, sL, hps⟩ := y
              rw [hputs] at hps ⊢
              have sJL := sJ1.trans sL
              have epk := sJL _ _ epJ
              have elk := sJL _ _ elJ
              have hkk1 := hkJ.up fun p a h => h.up sJL
              have hxl := hk.1
              refine ⟨_, rfl, lenOk (n := 1) rfl (by decide), fun l1 h1 => ?_⟩
              have t1 := same_new (o := .lst [lsV R (some bst)]) h1
              have u1 : upd Hc l1 (.lst [lsV R (some bst)]) l1 = some (.lst [lsV R (some bst)]) := upd_same
              generalize upd Hc l1 (.lst [lsV R (some bst)]) = M1 at t1 u1 ⊢
              refine ⟨_, rfl, l1, pr, _, _, rfl, rfl, u1, t1 _ _ epk, le_line (by rw [intV_len]; show 1 + _ ≤ _; omega), fun l2 h2 => ?_⟩
              have t2 := same_new (o := .lst ([lsV R (some bst)] ++ intV R)) h2
              have u2 : upd M1 l2 (.lst ([lsV R (some bst)] ++ intV R)) l2 = some (.lst (intV (chC R bst :: R))) := upd_same
              generalize upd M1 l2 (.lst ([lsV R (some bst)] ++ intV R)) = M2 at t2 u2 ⊢
              refine ⟨_, rfl, lenOk (n := 1) rfl (by decide), fun l3 h3 => ?_⟩
              have t3 := same_new (o := .lst [V.ref q1]) h3
              have u3 : upd M2 l3 (.lst [V.ref q1]) l3 = some (.lst [V.ref q1]) := upd_same
              generalize upd M2 l3 (.lst [V.ref q1]) = M3 at t3 u3 ⊢
              refine ⟨_, rfl, l3, rl, _, _, rfl, rfl, u3, t3 _ _ (t2 _ _ (t1 _ _ elk)), le_line (by show 1 + _ ≤ _; omega), fun l4 h4 => ?_⟩
              have t4 := same_new (o := .lst ([V.ref q1] ++ xs)) h4
              have tA := t1.trans (t2.trans (t3.trans t4))
              exact ⟨l2, l4, rd, _, _, _, _, _, _, _, _, _, _, _, rv, rfl, sm.trans (sJ.trans (sJL.trans tA)), t4 _ _ (t3 _ _ u2), upd_same, (hkk1.cons hps).up fun p a h => h.up tA, (sJL.trans tA) _ _ erJ, hah2⟩
      · obtain ⟨pr, rl, ad, o3, o7, o8, o9, o10, o11, o12, o13, o14, o15, xs, kv, rfl, sm, ep, er, hk, ea, hah⟩ := y
        rw [Nat.sub_self, List.drop_zero] at ep hk
        obtain ⟨r, hr1, hr2⟩ := hk.getD (i := 0) (d := []) (by rw [PP_len]; omega)
        refine ⟨_, rfl, _, rfl, rl, _, _, _, rfl, rfl, SqL.of er, atI_nat (j := 0) hr1, lenOk (n := 2) rfl (by decide), fun t ht => ?_⟩
        have s9 := same_new (o := .tup [V.ref pr, V.ref r]) ht
        exact q _ t pr r (sH4.trans (sm.trans s9)) upd_same (s9 _ _ ep) (hr2.up s9)
end
end R1

namespace R1
open PySem PySem.Spec PyProof.Rows L2 RK DL PT
local macro_rules | `(tactic| walk_at "sq") => `(tactic| first
  | exact SqL.of upd_same | exact upd_same | exact SqL.of (by assumption) | exact SqL.of (by rw [upd_ne (by assumption)]; assumption) | assumption)
local macro_rules | `(tactic| walk_at "sd") => `(tactic| first
  | assumption | omega | (refine Or.inl ⟨?_, ?_⟩ <;> omega) | (show _ ∧ _; constructor <;> omega) | (show _ ≠ _; simp; omega) | (exact Or.inl ⟨by decide, by decide⟩) | (exact Or.inr ⟨by decide, by decide⟩) | (show _ < _; decide) | (show _ ≤ _; decide))
local macro_rules | `(tactic| walk_at "at") => `(tactic| first | rfl | (refine atI_intV ?_ ?_ <;> omega) | assumption)
local macro_rules | `(tactic| walk_at "s1") => `(tactic| first
  | refine ⟨_, rfl, ?_⟩ | refine ⟨_, _, rfl, rfl, ?_⟩ | refine ⟨rfl, ?_⟩
  | refine ⟨_, _, _, _, rfl, rfl, by walk_at "sq", by walk_at "at", ?_⟩
  | refine Or.inl ⟨_, rfl, ?_⟩
  | refine ⟨_, _, rfl, Or.inl (by walk_at "sq"), ?_⟩
  | refine And.intro (by walk_at "sd") ?_)
local macro_rules | `(tactic| walk_at "s") => `(tactic| repeat walk_at "s1")

theorem lay_pcA : ∀ ps : List Pc, PyData.canLayAll0 (ps.map pcD) = true
  | [] => rfl
  | pc :: r => by
    show ((pcD pc).canLay0 && PyData.canLayAll0 (r.map pcD)) = true
    rw [lay_pcA r, Bool.and_true]
    cases pc with
    | cp a n =>
      show (PyData.canLay0 (.str _) && (true && (true && true))) = true
      rw [show PyData.canLay0 (.str (Str.ofString "copy")) = true by decide +kernel]
      rfl
    | pt ws =>
      show (PyData.canLay0 (.str _) && ((intsD ws).canLay0 && true)) = true
      rw [lay_intsD, show PyData.canLay0 (.str (Str.ofString "put")) = true by decide +kernel]
      rfl
theorem lay_pcs (ps : List Pc) : (pcsD ps).canLay0 = true := lay_pcA ps
theorem dep_pcA : ∀ ps : List Pc, PyData.depthAll (ps.map pcD) ≤ 2
  | [] => Nat.zero_le _
  | pc :: r => by
    have h := dep_pcA r
    show max (pcD pc).depth (PyData.depthAll (r.map pcD)) ≤ 2
    have : (pcD pc).depth ≤ 2 := by
      cases pc with
      | cp a n => show max 0 (max 0 (max 0 0)) + 1 ≤ 2; decide
      | pt ws =>
        have := dep_intsD ws
        show max 0 (max (intsD ws).depth 0) + 1 ≤ 2
        omega
    omega
theorem dep_pcs (ps : List Pc) : (pcsD ps).depth ≤ 3 := Nat.succ_le_succ (dep_pcA ps)
theorem wd_pcA : ∀ ps : List Pc, (∀ ws, Pc.pt ws ∈ ps → ws.length ≤ 3000) → wdA (ps.map pcD) = true
  | [], _ => rfl
  | pc :: r, h => by
    show (wdB (pcD pc) && wdA (r.map pcD)) = true
    rw [wd_pcA r fun x hx => h x (List.mem_cons_of_mem _ hx), Bool.and_true]
    cases pc with
    | cp a n => rfl
    | pt ws =>
      show (true && (true && (wdB (intsD ws) && true))) = true
      rw [wd_intsD (Nat.le_trans (h ws List.mem_cons_self) (by decide))]
      rfl
def fitD (d : PyData) : Prop := d.canLay0 = true ∧ d.depth ≤ 3 ∧ wdB d = true
theorem fit_int (i : Int) : fitD (.int i) := ⟨rfl, Nat.zero_le _, rfl⟩
theorem fit_ints {ws : List Nat} (h : ws.length ≤ 100000) : fitD (intsD ws) := ⟨lay_intsD _, Nat.le_trans (dep_intsD _) (by decide), wd_intsD h⟩
theorem fit_pcs {ps : List Pc} (h : ∀ ws, Pc.pt ws ∈ ps → ws.length ≤ 3000) (hl : ps.length ≤ 1000) : fitD (pcsD ps) := ⟨lay_pcs _, dep_pcs _, by
  show (decide ((ps.map pcD).length ≤ 100000) && wdA (ps.map pcD)) = true
  rw [wd_pcA ps h, List.length_map, decide_eq_true (by omega)]
  rfl⟩
theorem fit_list {ws : List Nat} (h : ws.length ≤ 100000) : fitD (.list (natD ws)) := by
  have e : natD ws = (ws.map fun (n : Nat) => (n : Int)).map PyData.int := by
    unfold natD
    rw [List.map_map]
    rfl
  have f := fit_ints h
  unfold intsD at f
  rw [← e] at f
  exact f
/-- two plain forms are the same -/
theorem eq_fin {K : PySem.W.Frag} {H H' : Hp} {S S' : ASet} {v v' : V} {d : PyData} (f : fitD d) (h1 : Dx K H S v (plD d)) (s : Same H H') (h2 : Dx K H' S' v' (plD d)) : Dp K H' v (plD d) ∧ Dp K H' v' (plD d) ∧ SeqAt.shaped (plD d) = true ∧ PyData.eqv (plD d) (plD d) = true :=
  ⟨(Dx.up (Out.of s) h1).dp, h2.dp, plD_shaped f.1 (Nat.le_trans f.2.1 (by decide)), SeqAt.eqv_refl _ (plD_lay d f.1)⟩
theorem dx_tupN {K : PySem.W.Frag} {H : Hp} {q : Addr} {ws : List Nat} (h : H q = some (.tup (intV ws))) : Dx K H noS (.ref q) (intsD ws) := by
  rw [intV_ints] at h
  exact .tup (XT.of h fun z => z) (dxAll_ints _)
theorem dx_lstN {K : PySem.W.Frag} {H : Hp} {q : Addr} {ws : List Nat} (h : H q = some (.lst (intV ws))) : Dx K H noS (.ref q) (.list (natD ws)) := .lst (XL.of h fun z => z) (dxAll_nats ws)
def spLonger : Sp := fun vs H Q _ => ∃ (c p a : Addr) (el : List Nat), vs = [.ref p, .ref a] ∧ Src c H p ∧ H a = some (.lst (intV el)) ∧ a ≠ p ∧ 1 ≤ el.length ∧ el.length ≤ 1000 ∧ (∀ w ∈ el, w ≤ 65535) ∧ ∀ H' l (ws : List Nat), Src c H' p → But p H H' → H' l = some (.lst (intV ws)) → ws.length ≤ 160 → (∀ w ∈ ws, w ≤ 65535) → Q (.ref l) H'
def spRight (K : PySem.W.Frag) : Sp := fun vs H Q _ => ∃ (a b t l r : Addr) (E N : List Nat), vs = [.ref a, .ref b, .ref t] ∧ H a = some (.lst (intV E)) ∧ H b = some (.lst (intV N)) ∧ (∀ w ∈ E, w ≤ 65535) ∧ (∀ w ∈ N, w ≤ 65535) ∧ E.length ≤ 2048 ∧ N.length ≤ 200 ∧ H t = some (.tup [.ref l, .ref r]) ∧ H l = some (.lst (intV (RP E N))) ∧ PsE K H r (pcs E N) ∧ ∀ H', Same H H' → Q (.bl true) H'
def spRefused : Sp := fun vs H Q _ => ∃ (a b : Addr) (E N : List Nat), vs = [.ref a, .ref b] ∧ H a = some (.lst (intV E)) ∧ H b = some (.lst (intV N)) ∧ (∀ w ∈ E, w ≤ 65535) ∧ (∀ w ∈ N, w ≤ 65535) ∧ E.length ≤ 3000 ∧ N.length ≤ 3000 ∧ (2048 < E.length ∨ 2048 < N.length) ∧ ∀ H', Same H H' → Q (.int 2048) H'
section
variable {P : Program} {w : World} {K : PySem.W.Frag} {mg : Str → Option Value} {base : Heap} {A : Ads}
theorem ok_law_refused (T : Txt K mg A) : FnOk P w K mg base CX0 5 A.a_law_refused A.d_law_refused ["_law_elder", "_law_newer_here"] spRefused := by
  refine T.F_law_refused.ok sc_law_refused (fun vs H Q E h => ?_) (fun cdv B outer s H vs Q F hr h => ?_)
  · obtain ⟨a, b, E, N, rfl, _⟩ := h
    rfl
  · obtain ⟨a, b, E, N, rfl, ha, hb, hE, hN, hEl, hNl, hbig, q⟩ := h
    refine ⟨_, (pss_cons (ps_try_hitN (i := 2) rfl rfl sc_law_refused.nd rfl rfl ⟨rfl, by decide, .inl T.g_TooMany⟩ (fun W pn xe tk _ => (pss_one (ps_expr (pe_callS (ok_difference T) (hr.mono (by omega)) rfl T.g_difference T.F_difference.kp T.b_difference (fun σ => L2N.passAt tk σ) (pa_cons (pe_callTy (r := rTupOf K) tuple_of (by rfl) T.n_tuple (by decide +kernel) (pa_cons (pv 0) pa_nil)) (pa_cons (pe_callTy (r := rTupOf K) tuple_of (by rfl) T.n_tuple (by decide +kernel) (pa_cons (pv 1) pa_nil)) pa_nil))))))
      (fun a o cls d ps hz hf => (pss_one (ps_if (PW.pt (pw_and (pt_val (pe_callB (call_isEx T.x_TooMany.ex hz.zc hf) (by rfl) T.n_isinstance (by decide +kernel) (pa_cons (pv 2) (pa_cons (pe_glob (v := .ref A.c_RomError) rfl T.g_RomError rfl) pa_nil)))) (pw_and1 (pt_val (pe_callB (call_isEx T.x_TooMany.ex hz.zc hf) (by rfl) T.n_isinstance (by decide +kernel) (pa_cons (pv 2) (pa_cons (pe_bltn (v := .ty "ValueError") (u := .type "ValueError") (by rfl) T.n_ValueError (by decide +kernel) rfl) pa_nil))))))) (pss_one (ps_ret (pe_xf T.x_TooMany.xf T.x_TooMany.no hz.zc hf (pv 2)))) pss_nil))))
    (pss_one (ps_ret pe_non))), ?_⟩
    refine ⟨_, rfl, a, _, rfl, .inl ⟨SqL.of ha, fun t1 ht1 => ?_⟩⟩
    have s1 := same_new (o := .tup (intV E)) ht1
    have e1 : upd H t1 (.tup (intV E)) t1 = some (.tup (intV E)) := upd_same
    generalize upd H t1 (.tup (intV E)) = H1 at s1 e1 ⊢
    refine ⟨_, rfl, b, _, rfl, .inl ⟨SqL.of (s1 _ _ hb), fun t2 ht2 => ?_⟩⟩
    have s2 := same_new (o := .tup (intV N)) ht2
    have e2 : upd H1 t2 (.tup (intV N)) t2 = some (.tup (intV N)) := upd_same
    generalize upd H1 t2 (.tup (intV N)) = H2 at s2 e2 ⊢
    refine ⟨t1, t2, E, N, rfl, SqT.of (s2 _ _ e1), SqT.of e2, hE, hN, hEl, hNl, fun _ dx H3 s3 n3 e3 => ?_, fun h1 h2 => by omega⟩
    have s03 := s1.trans (s2.trans s3)
    refine ⟨T.x_TooMany.te, fun a ha => ?_⟩
    refine ⟨_, rfl, dx, rfl, rfl, .ref A.c_RomError, .ref A.c_RomError, true, _, rfl, fun _ h => h, T.k_TooMany_RomError, e3, true, rfl, ifT rfl ?_⟩
    refine ⟨_, rfl, dx, rfl, rfl, .ty "ValueError", .type "ValueError", true, _, rfl, fun _ h => h, T.k_TooMany_ValueError, e3, true, rfl, ifT rfl ?_⟩
    exact ⟨_, rfl, rfl, rfl, dx, _, _, rfl, e3, rfl, q _ s03⟩
theorem ok_law_longer (T : Txt K mg A) : FnOk P w K mg base CX0 4 A.a_law_longer A.d_law_longer ["_law_source_here", "_law_elder"] spLonger := by
  refine T.F_law_longer.ok sc_law_longer (fun vs H Q E h => ?_) (fun cdv B outer s H vs Q E hr h => ?_)
  · obtain ⟨c, p, a, el, rfl, _⟩ := h
    rfl
  · obtain ⟨c, p, a, el, rfl, hs, ha, nap, hel1, hel, hew, q⟩ := h
    refine ⟨_, (pss_cons (ps_set (i := 2) sc_law_longer.nd rfl (.inl rfl) (pe_lst pa_nil))
    (pss_cons (ps_for PassesOwn.never rfl (pi_range1 (by rfl) T.n_range (pa_cons (pe_op op_add pe_int (pe_call (ok_law_draw T) (hr.mono (by omega)) rfl T.g_law_draw T.F_law_draw.kp T.b_law_draw .nil pass0 (pa_cons (pv 0) (pa_cons pe_int pa_nil)))) pa_nil)) (pg_name (i := 3) sc_law_longer.nd rfl (.inl rfl))
      (pss_cons (ps_set (i := 4) sc_law_longer.nd rfl (.inl rfl) (pe_call (ok_law_draw T) (hr.mono (by omega)) rfl T.g_law_draw T.F_law_draw.kp T.b_law_draw .nil pass0 (pa_cons (pv 0) (pa_cons (pe_callB len_seq (by rfl) T.n_len (by decide +kernel) (pa_cons (pv 1) pa_nil)) pa_nil))))
    (pss_cons (ps_set (i := 2) sc_law_longer.nd rfl (.inl rfl) (pe_op op_cat (pv 2) (pe_slice sl_list (pv 1) (po_some (pv 4)) (po_some (pe_op op_add (pe_op op_add (pv 4) pe_int) (pe_call (ok_law_draw T) (hr.mono (by omega)) rfl T.g_law_draw T.F_law_draw.kp T.b_law_draw .nil pass0 (pa_cons (pv 0) (pa_cons pe_int pa_nil))))))))
    (pss_one (ps_set (i := 2) sc_law_longer.nd rfl (.inl rfl) (pe_op op_cat (pv 2) (pe_lc (own := [("_law_more", 5)]) rfl sc_law_longer.nd (pi_range1 (by rfl) T.n_range (pa_cons (pe_call (ok_law_draw T) (hr.mono (by omega)) rfl T.g_law_draw T.F_law_draw.kp T.b_law_draw .nil pass0 (pa_cons (pv 0) (pa_cons pe_int pa_nil))) pa_nil)) (blkOk_by (own := [("_law_more", 5)]) (N := N_law_longer) (sc := defScope s_law_longer) (by decide +kernel)) (fun _ _ _ _ _ => pg_name (i := 5) sc_law_longer.nd rfl (Or.inl rfl)) (fun _ _ _ _ _ => pts_nil) (fun _ _ _ _ _ => by exact (pe_call (ok_law_word T) (hr.mono (by omega)) rfl T.g_law_word T.F_law_word.kp T.b_law_word .nil pass0 (pa_cons (pv 0) pa_nil))))))))))
    (pss_one (ps_ret (pe_slice sl_list (pv 2) po_none (po_some pe_int)))))), ?_⟩
    have hel2 := intV_len el
    refine ⟨lenOk (n := 0) rfl (by decide), fun D hD => ?_⟩
    have s1 := same_new (o := .lst []) hD
    have e1 : upd H D (.lst []) D = some (.lst (intV [])) := upd_same
    have nD : D ≠ p := fun z => src_ne hs (z ▸ hD)
    generalize upd H D (.lst []) = H1 at s1 e1 ⊢
    have hs1 := src_up hs s1
    refine ⟨_, rfl, c, p, 4, rfl, hs1, by decide, by decide, fun H2 n ln hs2 b2 => ⟨_, _, rfl, rfl, 1 + (n : Int), rfl, by omega, by omega, ?_⟩⟩
    rw [show (1 + (n : Int)).toNat = 1 + n by omega]
    refine for_it (walk_range (lo := 0) (n := 1 + n)) (fun i σ Hc => ∃ (l : Addr) (o3 o4 o5 : Option V) (ws : List Nat), σ = [some (.ref p), some (.ref a), some (.ref l), o3, o4, o5] ∧ Src c Hc p ∧ But p H Hc ∧ H l = none ∧ Hc l = some (.lst (intV ws)) ∧ ws.length ≤ 100 * i ∧ ∀ w ∈ ws, w ≤ 65535)
      ⟨D, _, _, _, [], rfl, hs2, (But.of s1).trans b2, hD, b2 _ _ nD e1, Nat.zero_le _, fun w h => by cases h⟩ (fun _ _ _ _ _ => trivial) (fun i x σ Hc Hd hi y e => ?_) (fun σ Hc y => ?_)
    · obtain ⟨rfl, rfl⟩ := e
      obtain ⟨l, o3, o4, o5, ws, rfl, hs3, b3, hl, el3, hwl, hww⟩ := y
      have nl : l ≠ p := fun z => src_ne hs (z ▸ hl)
      have hac := b3 _ _ nap ha
      have fr : ∀ {G : Hp} {z : Addr}, But p H G → Src c G p → G z = none → H z = none := fun {G z} bb ss hz => by
        cases hh : H z with
        | none => rfl
        | some o => rw [bb z o (fun y => src_ne ss (y ▸ hz)) hh] at hz; cases hz
      refine ⟨_, rfl, _, rfl, a, _, rfl, .inl (SqL.of hac), c, p, ((intV el).length : Int), rfl, hs3, by omega, by omega, fun H5 k lk hs5 b5 => ?_⟩
      refine ⟨_, rfl, _, rfl, _, rfl, _, rfl, _, rfl, _, _, rfl, rfl, _, rfl, c, p, 60, rfl, hs5, by decide, by decide, fun H6 r6 lr6 hs6 b6 => ?_⟩
      have b36 := b5.trans b6
      have ha6 := b36 _ _ nap hac
      have el6 := b36 _ _ nl el3
      refine ⟨_, _, rfl, rfl, _, rfl, a, _, rfl, SqL.of ha6, fun l1 h1 => ?_⟩
      rw [show (k : Int) + 1 + (r6 : Int) = ((k + 1 + r6 : Nat) : Int) by omega, cutV_any]
      obtain ⟨zs, hzs0⟩ : ∃ zs, zs = (el.drop k).take (k + 1 + r6 - k) := ⟨_, rfl⟩
      rw [← hzs0]
      have hzl : zs.length ≤ 60 := by rw [hzs0, List.length_take]; omega
      have hzs : ∀ w ∈ zs, w ≤ 65535 := fun w hw => hew w (List.mem_of_mem_drop (List.mem_of_mem_take (hzs0 ▸ hw)))
      have st1 := same_new (o := .lst (intV zs)) h1
      have el1 : upd H6 l1 (.lst (intV zs)) l1 = some (.lst (intV zs)) := upd_same
      generalize upd H6 l1 (.lst (intV zs)) = H7 at st1 el1 ⊢
      refine ⟨l, l1, _, _, rfl, rfl, st1 _ _ el6, el1, le_line (by rw [intV_len, intV_len]; omega), fun l2 h2 => ?_⟩
      have st2 := same_new (o := .lst (intV ws ++ intV zs)) h2
      have el2 : upd H7 l2 (.lst (intV ws ++ intV zs)) l2 = some (.lst (intV (ws ++ zs))) := by rw [upd_same, intV_app]
      generalize upd H7 l2 (.lst (intV ws ++ intV zs)) = H8 at st2 el2 ⊢
      have st := st1.trans st2
      have hs8 := src_up hs6 st
      have b38 : But p Hd H8 := b36.trans (But.of st)
      have nl2 : l2 ≠ p := fun z => src_ne (src_up hs6 st1) (z ▸ h2)
      -- further words
      refine ⟨_, rfl, _, rfl, c, p, 3, rfl, hs8, by decide, by decide, fun H9 n9 l9 hs9 b9 => ⟨(n9 : Int), rfl, by omega, by omega, fun D2 hD2 => ?_⟩⟩
      have nD2 : D2 ≠ p := fun z => src_ne hs9 (z ▸ hD2)
      have ncD2 : D2 ≠ c := fun z => src_cne hs9 (z ▸ hD2)
      have el9 := b9 _ _ nl2 el2
      rw [Int.toNat_natCast]
      refine lc_inv (walk_range (lo := 0) (n := n9)) (fun i v => True) (fun i acc H4 => Src c H4 p ∧ But p H9 H4 ∧ ∃ zs : List Nat, acc = intV zs ∧ ∀ w ∈ zs, w ≤ 65535) (by omega) ⟨src_up hs9 (same_new hD2), But.of (same_new hD2), [], rfl, fun w h => by cases h⟩ (fun _ _ _ _ => trivial) (fun i H1 v H2 hi y => ⟨y.1, trivial⟩) (fun i v acc H6 hi hl pv e5 _ Q q => ?_) (fun acc HA hlA pv elA => ?_)
      · obtain ⟨hs6, b6, zs, rfl, hz⟩ := pv
        refine ⟨_, rfl, c, p, rfl, hs6, fun H7 x hx hs7 b7 => ?_⟩
        refine q _ _ (b7 _ _ nD2 e5) ⟨src_put hs7 nD2 ncD2, but_new (b6.trans b7) hD2, zs ++ [x], by rw [intV_app]; rfl, fun w h => ?_⟩
        rcases List.mem_append.mp h with z | z
        · exact hz w z
        · rw [List.mem_singleton.mp z]
          exact hx
      · obtain ⟨hsA, bA, ys, rfl, hys⟩ := pv
        rw [intV_len] at hlA
        refine ⟨l2, D2, _, _, rfl, rfl, bA _ _ nl2 el9, elA, le_line (by rw [intV_len, intV_len, List.length_append]; omega), fun l4 h4 => ?_⟩
        have st4 := same_new (o := .lst (intV (ws ++ zs) ++ intV ys)) h4
        refine ⟨l4, _, _, _, (ws ++ zs) ++ ys, rfl, src_up hsA st4, (b3.trans (b38.trans (b9.trans bA))).trans (But.of st4), fr (b3.trans (b38.trans (b9.trans bA))) hsA h4, by rw [upd_same, intV_app (ws ++ zs)], by rw [List.length_append, List.length_append]; omega, fun w hw => ?_⟩
        rcases List.mem_append.mp hw with z | z
        · exact (List.mem_append.mp z).elim (hww w) (hzs w)
        · exact hys w z
    · obtain ⟨l, o3, o4, o5, ws, rfl, hs3, b3, hl, el3, hwl, hww⟩ := y
      unfold tNoPart
      refine ⟨_, rfl, _, rfl, l, _, rfl, SqL.of el3, fun l9 h9 => ?_⟩
      have st := same_new (o := .lst (cutV (intV ws) none (some (160 : Int)))) h9
      refine q _ l9 (ws.take 160) (src_up hs3 st) (b3.trans (But.of st)) ?_ (by rw [List.length_take]; omega) fun w hw => hww w (List.mem_of_mem_take hw)
      rw [upd_same, show cutV (intV ws) none (some (160 : Int)) = (intV ws).take 160 from cutV_hi (xs := intV ws) 160]
      unfold intV
      rw [List.map_take]
theorem ok_law_right (T : Txt K mg A) : FnOk P w K mg base CX0 7 A.a_law_right A.d_law_right ["_law_elder", "_law_newer_here", "_law_table_here"] (spRight K) := by
  refine T.F_law_right.ok sc_law_right (fun vs H Q E h => ?_) (fun cdv B outer s H vs Q F hr h => ?_)
  · obtain ⟨a, b, t, l, r, E, N, rfl, _⟩ := h
    rfl
  · obtain ⟨a, b, t, l, r, E, N, rfl, ha, hb, hE, hN, hEl, hNl, ht, hl, hr', q⟩ := h
    refine ⟨_, (pss_cons (ps_asg (pv 2) (pg_tup (by rfl) (pgs_cons (pg_name (i := 3) sc_law_right.nd rfl (.inl rfl)) (pgs_cons (pg_name (i := 4) sc_law_right.nd rfl (.inl rfl)) pgs_nil))))
    (pss_cons (ps_set (i := 5) sc_law_right.nd rfl (.inl rfl) (pe_call (ok_difference T) (hr.mono (by omega)) rfl T.g_difference T.F_difference.kp T.b_difference .nil passN (pa_cons (pe_callTy tuple_of (by rfl) T.n_tuple (by decide +kernel) (pa_cons (pv 0) pa_nil)) (pa_cons (pe_callTy tuple_of (by rfl) T.n_tuple (by decide +kernel) (pa_cons (pv 1) pa_nil)) pa_nil))))
    (pss_cons (ps_if (pt_cmpR (op_neD hr.units) (pe_call (ok_plain T 4) (hr.mono (by omega)) rfl T.g_law_plain T.F_law_plain.kp T.b_law_plain .nil pass0 (pa_cons (pv 5) pa_nil)) (pe_call (ok_plain T 4) (hr.mono (by omega)) rfl T.g_law_plain T.F_law_plain.kp T.b_law_plain .nil pass0 (pa_cons (pv 4) pa_nil)) (nomark _)) (pss_one (ps_ret pe_bl)) pss_nil)
    (pss_cons (ps_if (pt_cmpR (op_neD hr.units) (pe_call (ok_plain T 4) (hr.mono (by omega)) rfl T.g_law_plain T.F_law_plain.kp T.b_law_plain .nil pass0 (pa_cons (pe_call (ok_put_on T) (hr.mono (by omega)) rfl T.g_put_on T.F_put_on.kp T.b_put_on .nil passN (pa_cons (pe_callTy tuple_of (by rfl) T.n_tuple (by decide +kernel) (pa_cons (pv 0) pa_nil)) (pa_cons (pv 5) pa_nil))) pa_nil)) (pe_call (ok_plain T 4) (hr.mono (by omega)) rfl T.g_law_plain T.F_law_plain.kp T.b_law_plain .nil pass0 (pa_cons (pe_callTy tuple_of (by rfl) T.n_tuple (by decide +kernel) (pa_cons (pv 1) pa_nil)) pa_nil)) (nomark _)) (pss_one (ps_ret pe_bl)) pss_nil)
    (pss_cons (ps_if (pt_cmpR (op_neD hr.units) (pe_call (ok_plain T 4) (hr.mono (by omega)) rfl T.g_law_plain T.F_law_plain.kp T.b_law_plain .nil pass0 (pa_cons (pe_call (ok_price T) (hr.mono (by omega)) rfl T.g_price T.F_price.kp T.b_price .nil pass0 (pa_cons (pv 5) pa_nil)) pa_nil)) (pe_call (ok_plain T 4) (hr.mono (by omega)) rfl T.g_law_plain T.F_law_plain.kp T.b_law_plain .nil pass0 (pa_cons (pe_ix ix_list (pv 3) pe_int (fun _ _ => rfl)) pa_nil)) (nomark _)) (pss_one (ps_ret pe_bl)) pss_nil)
    (pss_cons (ps_if (pt_cmpR (op_neD hr.units) (pe_call (ok_plain T 4) (hr.mono (by omega)) rfl T.g_law_plain T.F_law_plain.kp T.b_law_plain .nil pass0 (pa_cons (pe_call (ok_least_prices T) (hr.mono (by omega)) rfl T.g_least_prices T.F_least_prices.kp T.b_least_prices .nil pass0 (pa_cons (pe_callTy tuple_of (by rfl) T.n_tuple (by decide +kernel) (pa_cons (pv 0) pa_nil)) (pa_cons (pe_callTy tuple_of (by rfl) T.n_tuple (by decide +kernel) (pa_cons (pv 1) pa_nil)) pa_nil))) pa_nil)) (pe_call (ok_plain T 4) (hr.mono (by omega)) rfl T.g_law_plain T.F_law_plain.kp T.b_law_plain .nil pass0 (pa_cons (pv 3) pa_nil)) (nomark _)) (pss_one (ps_ret pe_bl)) pss_nil)
    (pss_one (ps_ret (pe_cmpR (op_eqD hr.units) (pe_call (ok_plain T 4) (hr.mono (by omega)) rfl T.g_law_plain T.F_law_plain.kp T.b_law_plain .nil pass0 (pa_cons (pe_call (ok_difference T) (hr.mono (by omega)) rfl T.g_difference T.F_difference.kp T.b_difference .nil passN (pa_cons (pe_callTy tuple_of (by rfl) T.n_tuple (by decide +kernel) (pa_cons (pv 0) pa_nil)) (pa_cons (pe_callTy tuple_of (by rfl) T.n_tuple (by decide +kernel) (pa_cons (pv 1) pa_nil)) pa_nil))) pa_nil)) (pe_call (ok_plain T 4) (hr.mono (by omega)) rfl T.g_law_plain T.F_law_plain.kp T.b_law_plain .nil pass0 (pa_cons (pv 4) pa_nil)) (nomark _)))))))))), ?_⟩
    have hRl := RP_len E N
    obtain ⟨hp1, hp2⟩ := pcs_len E N.length N (Nat.le_refl _)
    have hfp : fitD (pcsD (pcs E N)) := fit_pcs (fun ws h => by have := hp2 ws h; omega) (by omega)
    have hfn : fitD (intsD N) := fit_ints (by omega)
    have hfr : fitD (.list (natD (RP E N))) := fit_list (by omega)
    have tup2 : ∀ {G : Hp} {R : Prop}, True := trivial
    refine ⟨_, rfl, t, _, rfl, SqT.of ht, rfl, _, _, rfl, _, _, rfl, rfl, ?_⟩
    -- told
    refine ⟨_, rfl, a, _, rfl, .inl ⟨SqL.of ha, fun t1 ht1 => ?_⟩⟩
    have s1 := same_new (o := .tup (intV E)) ht1
    have e1 : upd H t1 (.tup (intV E)) t1 = some (.tup (intV E)) := upd_same
    generalize upd H t1 (.tup (intV E)) = H1 at s1 e1 ⊢
    refine ⟨_, rfl, b, _, rfl, .inl ⟨SqL.of (s1 _ _ hb), fun t2 ht2 => ?_⟩⟩
    have s2 := same_new (o := .tup (intV N)) ht2
    have e2 : upd H1 t2 (.tup (intV N)) t2 = some (.tup (intV N)) := upd_same
    generalize upd H1 t2 (.tup (intV N)) = H2 at s2 e2 ⊢
    refine ⟨t1, t2, E, N, rfl, SqT.of (s2 _ _ e1), SqT.of e2, hE, hN, by omega, by omega, fun h => by omega, fun _ _ H3 q3 s3 d3 => ?_⟩
    have s03 := s1.trans (s2.trans s3)
    refine ⟨_, rfl, _, pcsD (pcs E N), noS, rfl, (fun _ z => z.elim), d3, hfp.2.1, hfp.2.2, fun H4 v4 s4 d4 => ?_⟩
    have s04 := s03.trans s4
    refine ⟨_, rfl, _, pcsD (pcs E N), noS, rfl, (fun _ z => z.elim), hr'.up s04, hfp.2.1, hfp.2.2, fun H5 v5 s5 d5 => ?_⟩
    have ef := eq_fin hfp d4 s5 d5
    refine ⟨_, _, ef.1, ef.2.1, ef.2.2.1, ef.2.2.1, ?_⟩
    rw [ef.2.2.2]
    refine ⟨_, rfl, ifF rfl ?_⟩
    have s05 := s04.trans s5
    have d35 : Dx K H5 noS (.ref q3) (pcsD (pcs E N)) := Dx.up (Out.of (s4.trans s5)) d3
    clear ef d4 d5 s4 s5 s04 d3 s1 s2 s3 e1 e2
    -- put on
    refine ⟨_, rfl, a, _, rfl, .inl ⟨SqL.of (s05 _ _ ha), fun t1 ht1 => ?_⟩⟩
    have s1 := same_new (o := .tup (intV E)) ht1
    have e1 : upd H5 t1 (.tup (intV E)) t1 = some (.tup (intV E)) := upd_same
    generalize upd H5 t1 (.tup (intV E)) = H6 at s1 e1 ⊢
    have hput := put_pcs E N.length N (Nat.le_refl _) 0 []
    refine ⟨_, rfl, t1, E, noS, _, pcs E N, rfl, SqT.of e1, Dx.up (Out.of s1) d35, by omega, by omega, fun ws h => by have := hp2 ws h; omega, fun n hn => (by rw [hput] at hn; cases hn), fun out hout H7 q7 s7 n7 e7 => ?_⟩
    have hout : out = N := by
      rw [hput] at hout
      exact (Sum.inr.inj hout).symm
    subst hout
    refine ⟨_, intsD out, noS, rfl, (fun _ z => z.elim), dx_tupN e7, hfn.2.1, hfn.2.2, fun H8 v8 s8 d8 => ?_⟩
    have s08 := s05.trans (s1.trans (s7.trans s8))
    refine ⟨_, rfl, b, _, rfl, .inl ⟨SqL.of (s08 _ _ hb), fun t2 ht2 => ?_⟩⟩
    have s9 := same_new (o := .tup (intV out)) ht2
    have e9 : upd H8 t2 (.tup (intV out)) t2 = some (.tup (intV out)) := upd_same
    generalize upd H8 t2 (.tup (intV out)) = H9 at s9 e9 ⊢
    refine ⟨_, intsD out, noS, rfl, (fun _ z => z.elim), dx_tupN e9, hfn.2.1, hfn.2.2, fun H10 v10 s10 d10 => ?_⟩
    have ef := eq_fin hfn d8 (s9.trans s10) d10
    refine ⟨_, _, ef.1, ef.2.1, ef.2.2.1, ef.2.2.1, ?_⟩
    rw [ef.2.2.2]
    refine ⟨_, rfl, ifF rfl ?_⟩
    have s010 := s08.trans (s9.trans s10)
    have d310 : Dx K H10 noS (.ref q3) (pcsD (pcs E out)) := Dx.up (Out.of (s1.trans (s7.trans (s8.trans (s9.trans s10))))) d35
    clear ef d8 d10 s1 s7 s8 s9 s10 e1 e7 e9 d35 s08 n7 hput
    -- the price
    refine ⟨_, rfl, noS, _, pcs E out, rfl, d310, by omega, fun H11 s11 => ?_⟩
    rw [cost_pcs E out.length out (Nat.le_refl _)]
    refine ⟨_, .int _, noS, rfl, (fun _ z => z.elim), .int _, Nat.zero_le _, rfl, fun H12 v12 s12 d12 => ?_⟩
    have s012 := s010.trans (s11.trans s12)
    refine ⟨_, rfl, l, _, 0, _, rfl, rfl, SqL.of (s012 _ _ hl), atI_nat (j := 0) (intV_at (by omega)), ?_⟩
    refine ⟨_, .int _, noS, rfl, (fun _ z => z.elim), .int _, Nat.zero_le _, rfl, fun H13 v13 s13 d13 => ?_⟩
    have ef := eq_fin (fit_int _) d12 s13 d13
    refine ⟨_, _, ef.1, ef.2.1, ef.2.2.1, ef.2.2.1, ?_⟩
    rw [ef.2.2.2]
    refine ⟨_, rfl, ifF rfl ?_⟩
    have s013 := s012.trans s13
    clear ef d12 d13 s11 s12 s13 d310 s012 s010
    -- the least prices
    refine ⟨_, rfl, a, _, rfl, .inl ⟨SqL.of (s013 _ _ ha), fun t1 ht1 => ?_⟩⟩
    have s1 := same_new (o := .tup (intV E)) ht1
    have e1 : upd H13 t1 (.tup (intV E)) t1 = some (.tup (intV E)) := upd_same
    generalize upd H13 t1 (.tup (intV E)) = H14 at s1 e1 ⊢
    refine ⟨_, rfl, b, _, rfl, .inl ⟨SqL.of (s1 _ _ (s013 _ _ hb)), fun t2 ht2 => ?_⟩⟩
    have s2 := same_new (o := .tup (intV out)) ht2
    have e2 : upd H14 t2 (.tup (intV out)) t2 = some (.tup (intV out)) := upd_same
    generalize upd H14 t2 (.tup (intV out)) = H15 at s2 e2 ⊢
    refine ⟨t1, t2, E, out, rfl, SqT.of (s2 _ _ e1), SqT.of e2, hE, hN, by omega, by omega, fun H16 pr s16 e16 => ?_⟩
    refine ⟨_, .list (natD (RP E out)), noS, rfl, (fun _ z => z.elim), dx_lstN e16, hfr.2.1, hfr.2.2, fun H17 v17 s17 d17 => ?_⟩
    have s017 := s013.trans (s1.trans (s2.trans (s16.trans s17)))
    refine ⟨_, rfl, _, .list (natD (RP E out)), noS, rfl, (fun _ z => z.elim), dx_lstN (s017 _ _ hl), hfr.2.1, hfr.2.2, fun H18 v18 s18 d18 => ?_⟩
    have ef := eq_fin hfr d17 s18 d18
    refine ⟨_, _, ef.1, ef.2.1, ef.2.2.1, ef.2.2.1, ?_⟩
    rw [ef.2.2.2]
    refine ⟨_, rfl, ifF rfl ?_⟩
    have s018 := s017.trans s18
    clear ef d17 d18 s1 s2 s16 s17 s18 e1 e2 e16 s017 s013
    -- once more
    refine ⟨_, rfl, a, _, rfl, .inl ⟨SqL.of (s018 _ _ ha), fun t1 ht1 => ?_⟩⟩
    have s1 := same_new (o := .tup (intV E)) ht1
    have e1 : upd H18 t1 (.tup (intV E)) t1 = some (.tup (intV E)) := upd_same
    generalize upd H18 t1 (.tup (intV E)) = H19 at s1 e1 ⊢
    refine ⟨_, rfl, b, _, rfl, .inl ⟨SqL.of (s1 _ _ (s018 _ _ hb)), fun t2 ht2 => ?_⟩⟩
    have s2 := same_new (o := .tup (intV out)) ht2
    have e2 : upd H19 t2 (.tup (intV out)) t2 = some (.tup (intV out)) := upd_same
    generalize upd H19 t2 (.tup (intV out)) = H20 at s2 e2 ⊢
    refine ⟨t1, t2, E, out, rfl, SqT.of (s2 _ _ e1), SqT.of e2, hE, hN, by omega, by omega, fun h => by omega, fun _ _ H21 q21 s21 d21 => ?_⟩
    refine ⟨_, pcsD (pcs E out), noS, rfl, (fun _ z => z.elim), d21, hfp.2.1, hfp.2.2, fun H22 v22 s22 d22 => ?_⟩
    have s022 := s018.trans (s1.trans (s2.trans (s21.trans s22)))
    refine ⟨_, rfl, _, pcsD (pcs E out), noS, rfl, (fun _ z => z.elim), hr'.up s022, hfp.2.1, hfp.2.2, fun H23 v23 s23 d23 => ?_⟩
    have ef := eq_fin hfp d22 s23 d23
    refine ⟨_, _, ef.1, ef.2.1, ef.2.2.1, ef.2.2.1, ?_⟩
    rw [ef.2.2.2]
    exact q _ (s022.trans s23)
end
end R1

namespace R1
open PySem PySem.Spec PyProof.Rows L2 RK DL PT
local macro_rules | `(tactic| walk_at "sq") => `(tactic| first
  | exact SqL.of upd_same | exact upd_same | exact SqL.of (by assumption) | exact SqL.of (by rw [upd_ne (by assumption)]; assumption) | assumption)
local macro_rules | `(tactic| walk_at "sd") => `(tactic| first
  | assumption | omega | (refine Or.inl ⟨?_, ?_⟩ <;> omega) | (show _ ∧ _; constructor <;> omega) | (show _ ≠ _; simp; omega) | (exact Or.inl ⟨by decide, by decide⟩) | (exact Or.inr ⟨by decide, by decide⟩) | (show _ < _; decide) | (show _ ≤ _; decide))
local macro_rules | `(tactic| walk_at "at") => `(tactic| first | rfl | (refine atI_intV ?_ ?_ <;> omega) | assumption)
local macro_rules | `(tactic| walk_at "s1") => `(tactic| first
  | refine ⟨_, rfl, ?_⟩ | refine ⟨_, _, rfl, rfl, ?_⟩ | refine ⟨rfl, ?_⟩
  | refine ⟨_, _, _, _, rfl, rfl, by walk_at "sq", by walk_at "at", ?_⟩
  | refine Or.inl ⟨_, rfl, ?_⟩
  | refine ⟨_, _, rfl, Or.inl (by walk_at "sq"), ?_⟩
  | refine And.intro (by walk_at "sd") ?_)
local macro_rules | `(tactic| walk_at "s") => `(tactic| repeat walk_at "s1")

def spLaw (K : PySem.W.Frag) : Sp := fun vs H Q _ => ∃ (a : Addr) (ns : List Int), vs = [.ref a] ∧ SqL K H a (ns.map V.int) ∧ ns.length ≤ 63 ∧ ∀ H', Q (.bl true) H'
section
variable {P : Program} {w : World} {K : PySem.W.Frag} {mg : Str → Option Value} {base : Heap} {A : Ads}
theorem ok_law (T : Txt K mg A) : FnOk P w K mg base CX0 9 A.a_law A.d_law ["_law_script"] (spLaw K) := by
  refine T.F_law.ok sc_law (fun vs H Q E h => ?_) (fun cdv B outer s H vs Q E hr h => ?_)
  · obtain ⟨a, ns, rfl, _⟩ := h
    rfl
  · obtain ⟨a, ns, rfl, hS, hl, q⟩ := h
    refine ⟨_, (pss_cons (ps_set (i := 1) sc_law.nd rfl (.inr rfl) (pe_call (ok_law_source T) (hr.mono (by omega)) rfl T.g_law_source T.F_law_source.kp T.b_law_source .nil pass0 (pa_cons (pv 0) pa_nil)))
    (pss_cons (ps_set (i := 2) sc_law.nd rfl (.inl rfl) (pe_call (ok_law_draw T) (hr.mono (by omega)) rfl T.g_law_draw T.F_law_draw.kp T.b_law_draw .nil pass0 (pa_cons (pv 1) (pa_cons pe_int pa_nil))))
    (pss_cons (ps_set (i := 3) sc_law.nd rfl (.inr rfl) (pe_call (ok_law_pool T) (hr.mono (by omega)) rfl T.g_law_pool T.F_law_pool.kp T.b_law_pool .nil pass0 (pa_cons (pv 1) (pa_cons (pe_op op_add pe_int (pe_call (ok_law_draw T) (hr.mono (by omega)) rfl T.g_law_draw T.F_law_draw.kp T.b_law_draw .nil pass0 (pa_cons (pv 1) (pa_cons pe_int pa_nil)))) pa_nil))))
    (pss_cons (ps_setLc (i := 5) (own := [("_law_step", 4)]) rfl sc_law.nd rfl rfl (sw_true rfl rfl rfl (by decide +kernel)) (pi_range1 (by rfl) T.n_range (pa_cons (pe_call (ok_law_draw T) (hr.mono (by omega)) rfl T.g_law_draw T.F_law_draw.kp T.b_law_draw .nil pass0 (pa_cons (pv 1) (pa_cons pe_int pa_nil))) pa_nil)) (blkOk_by (own := [("_law_step", 4)]) (N := N_law) (sc := defScope s_law) (by decide +kernel)) (fun _ _ _ _ _ => pg_name (i := 4) sc_law.nd rfl (Or.inl rfl)) (fun _ _ _ _ _ => pts_nil) (fun _ _ _ _ _ => by exact (pe_ix (r := rIxL K) ix_list (pv 3) (pe_call (ok_law_draw T) (hr.mono (by omega)) rfl T.g_law_draw T.F_law_draw.kp T.b_law_draw .nil pass0 (pa_cons (pv 1) (pa_cons (pe_callB (r := Evl.rLenS K) len_seq (by rfl) T.n_len (by decide +kernel) (pa_cons (pv 3) pa_nil)) pa_nil))) (fun _ _ => rfl))))
    (pss_cons (ps_set (i := 6) sc_law.nd rfl (.inl rfl) (pe_call (ok_law_newer T) (hr.mono (by omega)) rfl T.g_law_newer T.F_law_newer.kp T.b_law_newer .nil pass0 (pa_cons (pv 1) (pa_cons (pv 3) (pa_cons (pv 5) pa_nil)))))
    (pss_cons (ps_for PassesOwn.never rfl (pi_tup (pe_tup (pa_cons (pe_tup (pa_cons (pv 5) (pa_cons (pv 6) pa_nil))) (pa_cons (pe_tup (pa_cons (pv 6) (pa_cons (pv 5) pa_nil))) (pa_cons (pe_tup (pa_cons (pv 5) (pa_cons (pv 5) pa_nil))) pa_nil))))) (pg_tup (by rfl) (pgs_cons (pg_name (i := 7) sc_law.nd rfl (.inl rfl)) (pgs_cons (pg_name (i := 8) sc_law.nd rfl (.inl rfl)) pgs_nil)))
      (pss_one (ps_if (pt_not (pt_val (pe_call (ok_law_right T) (hr.mono (by omega)) rfl T.g_law_right T.F_law_right.kp T.b_law_right .nil pass0 (pa_cons (pv 7) (pa_cons (pv 8) (pa_cons (pe_call (ok_law_table T) (hr.mono (by omega)) rfl T.g_law_table T.F_law_table.kp T.b_law_table .nil pass0 (pa_cons (pv 7) (pa_cons (pv 8) pa_nil))) pa_nil)))))) (pss_one (ps_ret pe_bl)) pss_nil)))
    (pss_cons (ps_if (pt_cmpR op_eq (pv 2) pe_int (nomark _)) (pss_cons (ps_set (i := 4) sc_law.nd rfl (.inr rfl) (pe_op op_add pe_int (pe_op op_mul pe_int (pe_call (ok_law_draw T) (hr.mono (by omega)) rfl T.g_law_draw T.F_law_draw.kp T.b_law_draw .nil pass0 (pa_cons (pv 1) (pa_cons pe_int pa_nil))))))
    (pss_cons (ps_set (i := 10) sc_law.nd rfl (.inl rfl) (pe_op op_cat (pe_lc (own := [("_law_k", 9)]) rfl sc_law.nd (pi_range1 (by rfl) T.n_range (pa_cons (pe_op op_add pe_int (pe_call (ok_law_draw T) (hr.mono (by omega)) rfl T.g_law_draw T.F_law_draw.kp T.b_law_draw .nil pass0 (pa_cons (pv 1) (pa_cons pe_int pa_nil)))) pa_nil)) (blkOk_by (own := [("_law_k", 9)]) (N := N_law) (sc := defScope s_law) (by decide +kernel)) (fun _ _ _ _ _ => pg_name (i := 9) sc_law.nd rfl (Or.inl rfl)) (fun _ _ _ _ _ => pts_nil) (fun _ _ _ _ _ => by exact (pe_op op_mod (pe_callTy call_int1 (by rfl) T.n_int (by decide +kernel) (pa_cons (pe_op op_add (pe_ix (r := rIxL K) ix_list (pv 3) pe_int (fun _ _ => rfl)) (pe_op op_mul (pv 9) (pv 4))) pa_nil)) pe_int))) (pe_slice sl_list (pv 5) po_none (po_some pe_int))))
    (pss_cons (ps_set (i := 6) sc_law.nd rfl (.inl rfl) (pe_call (ok_law_longer T) (hr.mono (by omega)) rfl T.g_law_longer T.F_law_longer.kp T.b_law_longer .nil pass0 (pa_cons (pv 1) (pa_cons (pv 10) pa_nil))))
    (pss_one (ps_ret (pe_call (ok_law_right T) (hr.mono (by omega)) rfl T.g_law_right T.F_law_right.kp T.b_law_right .nil pass0 (pa_cons (pv 10) (pa_cons (pv 6) (pa_cons (pe_call (ok_law_quick T) (hr.mono (by omega)) rfl T.g_law_quick T.F_law_quick.kp T.b_law_quick .nil pass0 (pa_cons (pv 10) (pa_cons (pv 6) pa_nil))) pa_nil))))))))) pss_nil)
    (pss_cons (ps_if (pt_cmpR op_ne (pv 2) pe_int (nomark _)) (pss_one (ps_ret pe_bl)) pss_nil)
    (pss_cons (ps_setLc (i := 11) (own := [("_law_step", 4)]) rfl sc_law.nd rfl rfl (sw_true rfl rfl rfl (by decide +kernel)) (pi_range1 (by rfl) T.n_range (pa_cons (pe_op op_add pe_int (pe_call (ok_law_draw T) (hr.mono (by omega)) rfl T.g_law_draw T.F_law_draw.kp T.b_law_draw .nil pass0 (pa_cons (pv 1) (pa_cons pe_int pa_nil)))) pa_nil)) (blkOk_by (own := [("_law_step", 4)]) (N := N_law) (sc := defScope s_law) (by decide +kernel)) (fun _ _ _ _ _ => pg_name (i := 4) sc_law.nd rfl (Or.inl rfl)) (fun _ _ _ _ _ => pts_nil) (fun _ _ _ _ _ => by exact (pe_call (ok_law_word T) (hr.mono (by omega)) rfl T.g_law_word T.F_law_word.kp T.b_law_word .nil pass0 (pa_cons (pv 1) pa_nil))))
    (pss_cons (ps_set (i := 12) sc_law.nd rfl (.inl rfl) (pe_op op_cat (pe_lc (own := [("_law_step", 4)]) rfl sc_law.nd (pi_range1 (by rfl) T.n_range (pa_cons (pe_op op_sub pe_int (pe_callB len_seq (by rfl) T.n_len (by decide +kernel) (pa_cons (pv 11) pa_nil))) pa_nil)) (blkOk_by (own := [("_law_step", 4)]) (N := N_law) (sc := defScope s_law) (by decide +kernel)) (fun _ _ _ _ _ => pg_name (i := 4) sc_law.nd rfl (Or.inl rfl)) (fun _ _ _ _ _ => pts_nil) (fun _ _ _ _ _ => by exact (pe_ix (r := rIxL K) ix_list (pv 3) pe_int (fun _ _ => rfl)))) (pv 11)))
    (pss_cons (ps_if (pt_not (pt_val (pe_call (ok_law_right T) (hr.mono (by omega)) rfl T.g_law_right T.F_law_right.kp T.b_law_right .nil pass0 (pa_cons (pv 12) (pa_cons (pv 11) (pa_cons (pe_call (ok_law_table T) (hr.mono (by omega)) rfl T.g_law_table T.F_law_table.kp T.b_law_table .nil pass0 (pa_cons (pv 12) (pa_cons (pv 11) pa_nil))) pa_nil)))))) (pss_one (ps_ret pe_bl)) pss_nil)
    (pss_cons (ps_if (PW.pt (pw_or (pt_cmpR op_ne (pe_call (ok_law_refused T) (hr.mono (by omega)) rfl T.g_law_refused T.F_law_refused.kp T.b_law_refused .nil pass0 (pa_cons (pe_op op_cat (pe_lst (pa_cons (pe_ix ix_list (pv 3) pe_int (fun _ _ => rfl)) pa_nil)) (pv 12)) (pa_cons (pv 11) pa_nil))) pe_int (nomark _)) (pw_or1 (pt_cmpR op_ne (pe_call (ok_law_refused T) (hr.mono (by omega)) rfl T.g_law_refused T.F_law_refused.kp T.b_law_refused .nil pass0 (pa_cons (pe_op op_cat (pe_lst (pa_cons (pe_ix ix_list (pv 3) pe_int (fun _ _ => rfl)) pa_nil)) (pv 12)) (pa_cons (pe_lst pa_nil) pa_nil))) pe_int (nomark _))))) (pss_one (ps_ret pe_bl)) pss_nil)
    (pss_one (ps_ret (pe_and (pe_cmpR op_eq (pe_call (ok_law_refused T) (hr.mono (by omega)) rfl T.g_law_refused T.F_law_refused.kp T.b_law_refused .nil pass0 (pa_cons (pv 11) (pa_cons (pe_op op_cat (pe_lst (pa_cons (pe_ix ix_list (pv 3) pe_int (fun _ _ => rfl)) pa_nil)) (pv 12)) pa_nil))) pe_int (nomark _)) (pe_one (pe_cmpR op_eq (pe_call (ok_law_refused T) (hr.mono (by omega)) rfl T.g_law_refused T.F_law_refused.kp T.b_law_refused .nil pass0 (pa_cons (pe_lst pa_nil) (pa_cons (pe_op op_cat (pv 12) (pe_lst (pa_cons (pe_ix ix_list (pv 3) pe_int (fun _ _ => rfl)) pa_nil))) pa_nil))) pe_int (nomark _)))))))))))))))))), ?_⟩
    refine ⟨_, rfl, a, ns, rfl, hS, hl, fun H1 c p s1 nc np hs1 => ?_⟩
    refine ⟨_, rfl, c, p, 6, rfl, hs1, by decide, by decide, fun H2 lg llg hs2 b2 => ?_⟩
    refine ⟨_, rfl, _, rfl, c, p, 4, rfl, hs2, by decide, by decide, fun H3 n3 l3 hs3 b3 => ⟨_, _, rfl, rfl, ?_⟩⟩
    dsimp only
    rw [show (1 : Int) + (n3 : Int) = ((1 + n3 : Nat) : Int) by omega]
    refine ⟨c, p, 1 + n3, rfl, hs3, by omega, by omega, fun H4 pa pool hs4 b4 nlp0 epa hp1 hp5 hpw => ?_⟩
    have npa : pa ≠ p := fun z => src_ne hs3 (z ▸ nlp0)
    -- the elder one
    refine ⟨_, rfl, c, p, 13, rfl, hs4, by decide, by decide, fun H5 n5 l5 hs5 b5 => ⟨(n5 : Int), rfl, by omega, by omega, fun D hD => ?_⟩⟩
    rw [Int.toNat_natCast]
    have nD : D ≠ p := fun z => src_ne hs5 (z ▸ hD)
    have ncD : D ≠ c := fun z => src_cne hs5 (z ▸ hD)
    have epa5 := b5 _ _ npa epa
    have hpl2 := intV_len pool
    refine lc_inv (walk_range (lo := 0) (n := n5)) (fun i v => True) (fun i acc H4 => Src c H4 p ∧ But p H5 H4 ∧ ∃ zs : List Nat, acc = intV zs ∧ ∀ w ∈ zs, w ≤ 65535) (by omega) ⟨src_up hs5 (same_new hD), But.of (same_new hD), [], rfl, fun w h => by cases h⟩ (fun _ _ _ _ => trivial) (fun i H1 v H2 hi y => ⟨y.1, trivial⟩) (fun i v acc H6 hi hl pv e5 _ Q q => ?_) (fun acc H6 hl6 pv el1 => ?_)
    · obtain ⟨hs6, b6, zs, rfl, hz⟩ := pv
      have ha6 := b6 _ _ npa epa5
      refine ⟨_, rfl, _, rfl, _, rfl, pa, _, rfl, .inl (SqL.of ha6), c, p, ((intV pool).length : Int), rfl, hs6, by omega, by omega, fun H7 x hx hs7 b7 => ?_⟩
      refine ⟨pa, _, _, _, rfl, rfl, SqL.of (b7 _ _ npa ha6), atI_nat (intV_at (by omega)), ?_⟩
      refine q _ _ (b7 _ _ nD e5) ⟨src_put hs7 nD ncD, but_new (b6.trans b7) hD, zs ++ [pool.getD x 0], by rw [intV_app]; rfl, fun w h => ?_⟩
      rcases List.mem_append.mp h with z | z
      · exact hz w z
      · rw [List.mem_singleton.mp z, List.getD_eq_getElem?_getD, List.getElem?_eq_getElem (by omega)]
        exact hpw _ (List.getElem_mem _)
    obtain ⟨hs6, b6, el, rfl, hew⟩ := pv
    rw [intV_len] at hl6
    have epa6 := b6 _ _ npa epa5
    -- the newer one
    refine ⟨_, rfl, _, rfl, _, rfl, c, p, pa, D, pool, el, rfl, hs6, epa6, el1, npa, nD, hp1, by omega, by omega, hpw, hew, fun H7 nw nws hs7 b7 nnw enw hnl hnw => ?_⟩
    have nnp : nw ≠ p := fun z => src_ne hs6 (z ▸ nnw)
    have epa7 := b7 _ _ npa epa6
    have el7 := b7 _ _ nD el1
    clear s1 nc np hs1 b2 hs2 b3 hs3 b4 hs4 b5 b6 hs5 hs6 epa epa5 epa6 el1 b7 hS
    -- both ways
    refine ⟨_, rfl, _, rfl, lenOk (n := 2) rfl (by decide), fun u1 hu1 => ⟨_, rfl, _, rfl, lenOk (n := 2) rfl (by decide), fun u2 hu2 => ⟨_, rfl, _, rfl, lenOk (n := 2) rfl (by decide), fun u3 hu3 => ⟨lenOk (n := 3) rfl (by decide), fun u4 hu4 => ?_⟩⟩⟩⟩
    have s1 := same_new (o := .tup [V.ref D, V.ref nw]) hu1
    have e1 : upd H7 u1 (.tup [V.ref D, V.ref nw]) u1 = some (.tup [V.ref D, V.ref nw]) := upd_same
    generalize upd H7 u1 (.tup [V.ref D, V.ref nw]) = I1 at s1 e1 hu2 hu3 hu4 ⊢
    have s2 := same_new (o := .tup [V.ref nw, V.ref D]) hu2
    have e2 : upd I1 u2 (.tup [V.ref nw, V.ref D]) u2 = some (.tup [V.ref nw, V.ref D]) := upd_same
    generalize upd I1 u2 (.tup [V.ref nw, V.ref D]) = I2 at s2 e2 hu3 hu4 ⊢
    have s3 := same_new (o := .tup [V.ref D, V.ref D]) hu3
    have e3 : upd I2 u3 (.tup [V.ref D, V.ref D]) u3 = some (.tup [V.ref D, V.ref D]) := upd_same
    generalize upd I2 u3 (.tup [V.ref D, V.ref D]) = I3 at s3 e3 hu4 ⊢
    have s4 := same_new (o := .tup [V.ref u1, V.ref u2, V.ref u3]) hu4
    have e4 : upd I3 u4 (.tup [V.ref u1, V.ref u2, V.ref u3]) u4 = some (.tup [V.ref u1, V.ref u2, V.ref u3]) := upd_same
    generalize upd I3 u4 (.tup [V.ref u1, V.ref u2, V.ref u3]) = I4 at s4 e4 ⊢
    have s14 := s1.trans (s2.trans (s3.trans s4))
    have el4 := s14 _ _ el7
    have en4 := s14 _ _ enw
    have hall : ∀ (i : Nat) (x : V), [V.ref u1, V.ref u2, V.ref u3][i]? = some x → ∃ (u f g : Addr) (F G : List Nat), x = .ref u ∧ I4 u = some (.tup [.ref f, .ref g]) ∧ I4 f = some (.lst (intV F)) ∧ I4 g = some (.lst (intV G)) ∧ F.length ≤ 100 ∧ G.length ≤ 100 ∧ (∀ w ∈ F, w ≤ 65535) ∧ ∀ w ∈ G, w ≤ 65535 := fun i x e => by
      match i, e with
      | 0, e =>
        cases e
        exact ⟨u1, D, nw, el, nws, rfl, s4 _ _ (s3 _ _ (s2 _ _ e1)), el4, en4, by omega, by omega, hew, hnw⟩
      | 1, e =>
        cases e
        exact ⟨u2, nw, D, nws, el, rfl, s4 _ _ (s3 _ _ e2), en4, el4, by omega, by omega, hnw, hew⟩
      | 2, e =>
        cases e
        exact ⟨u3, D, D, el, el, rfl, s4 _ _ e3, el4, el4, by omega, by omega, hew, hew⟩
      | n + 3, e => cases e
    refine ⟨u4, rfl, ⟨_, SqT.of e4⟩, ?_⟩
    have hs4 := src_up hs7 s14
    have epa4 := s14 _ _ epa7
    clear s1 s2 s3 s4 e1 e2 e3 hu1 hu2 hu3 hu4
    refine for_it (walk_tup (K := K) (a := u4) (xs := [V.ref u1, V.ref u2, V.ref u3])) (fun i σ Hc => ∃ (o7 o8 : Option V), σ = [some (.ref a), some (.ref p), some (.int (lg : Int)), some (.ref pa), none, some (.ref D), some (.ref nw), o7, o8, none, none, none, none] ∧ Same I4 Hc)
      ⟨_, _, rfl, Same.refl _⟩ (fun i σ Hc _ y => ?_) (fun i x σ Hc Hd hi y e => ?_) (fun σ Hc y => ?_)
    · obtain ⟨_, _, _, s⟩ := y
      exact sqT_up (SqT.of e4) s
    · obtain ⟨rfl, e⟩ := e
      obtain ⟨o7, o8, rfl, s5⟩ := y
      obtain ⟨u, f, g, F, G, rfl, hu, hf, hg, hFl, hGl, hFw, hGw⟩ := hall i x e
      refine ⟨u, _, rfl, SqT.of (s5 _ _ hu), rfl, _, _, rfl, _, _, rfl, rfl, ?_⟩
      refine ⟨_, rfl, _, rfl, _, rfl, _, rfl, f, g, F, G, rfl, s5 _ _ hf, s5 _ _ hg, by omega, by omega, fun H9 t l r s9 et el9 er9 => ?_⟩
      have s59 := s5.trans s9
      exact ⟨f, g, t, l, r, F, G, rfl, s59 _ _ hf, s59 _ _ hg, hFw, hGw, by omega, by omega, et, el9, er9, fun H10 s10 => ⟨_, rfl, ifF rfl ⟨_, _, rfl, s59.trans s10⟩⟩⟩
    obtain ⟨o7, o8, rfl, s5⟩ := y
    have hs5 := src_up hs4 s5
    have epa5 := s5 _ _ epa4
    have el5 := s5 _ _ el4
    clear hall hs4 epa4 el4 en4 s14 e4 hs7 epa7 el7 enw
    have hpool0 : pool.getD 0 0 ≤ 65535 := by
      rw [List.getD_eq_getElem?_getD, List.getElem?_eq_getElem (by omega)]
      exact hpw _ (List.getElem_mem _)
    have hat0 : atI (intV pool) 0 = some (.int ((pool.getD 0 0 : Nat) : Int)) := atI_nat (j := 0) (intV_at (by omega))
    generalize pool.getD 0 0 = p0 at hpool0 hat0
    refine ⟨_, rfl, rfl, _, rfl, ifB (fun ee => ?_) (fun ee => ?_)⟩
    · -- long stretches
      refine ⟨_, rfl, c, p, 5000, rfl, hs5, by decide, by decide, fun H6 st lst hs6 b6 => ⟨_, _, rfl, rfl, .inl ⟨by decide, by decide⟩, _, _, rfl, rfl, ?_⟩⟩
      refine ⟨_, rfl, c, p, 90, rfl, hs6, by decide, by decide, fun H7 n7 l7 hs7 b7 => ⟨_, _, rfl, rfl, 60 + (n7 : Int), rfl, by omega, by omega, fun D2 hD2 => ?_⟩⟩
      have b57 := b6.trans b7
      have epa7 := b57 _ _ npa epa5
      have el7 := b57 _ _ nD el5
      rw [show (60 + (n7 : Int)).toNat = 60 + n7 by omega]
      refine lc_vals (walk_range (lo := 0) (n := 60 + n7)) (fun i v => v = .int (i : Int)) (fun i => .int (((p0 + i * (1 + 2 * st)) % 65536 : Nat) : Int)) hD2 (fun _ _ => trivial) (by omega) (fun i H1 v H2 hi y => ⟨y.1, by rw [y.2]; exact congrArg V.int (by omega)⟩) (fun i v H4 hi sm hv Q q => ?_) (fun H8 s8 e8 => ?_)
      · subst hv
        refine ⟨_, rfl, pa, _, 0, _, rfl, rfl, SqL.of (sm _ _ epa7), hat0, _, rfl, _, rfl, _, _, rfl, rfl, .inl ⟨by omega, by omega⟩, _, _, rfl, rfl, .inl ⟨_, rfl, _, _, rfl, rfl, (by show (0 : Int) < 65536; decide), ?_⟩⟩
        have e : ((p0 : Int) + (i : Int) * (1 + 2 * (st : Int))) % 65536 = (((p0 + i * (1 + 2 * st)) % 65536 : Nat) : Int) := by
          rw [Int.natCast_emod, Int.natCast_add, Int.natCast_mul, Int.natCast_add, Int.natCast_mul]
          rfl
        have := q H4 (Same.refl _)
        rw [← e] at this
        exact this
      · obtain ⟨ws1, hws1⟩ : ∃ ws1, ws1 = (List.range (60 + n7)).map fun i => (p0 + i * (1 + 2 * st)) % 65536 := ⟨_, rfl⟩
        have e8' : H8 D2 = some (.lst (intV ws1)) := by
          rw [e8, hws1]
          unfold intV
          rw [List.map_map]
          rfl
        have hw1l : ws1.length = 60 + n7 := by rw [hws1, List.length_map, List.length_range]
        have hw1w : ∀ w ∈ ws1, w ≤ 65535 := fun w hw => by
          rw [hws1] at hw
          obtain ⟨i, _, rfl⟩ := List.mem_map.mp hw
          omega
        clear hws1 e8
        have hs8 := src_up hs7 s8
        have nD2 : D2 ≠ p := fun z => src_ne hs7 (z ▸ hD2)
        unfold tNoPart
        refine ⟨_, rfl, _, rfl, D, _, rfl, SqL.of (s8 _ _ el7), fun l9 h9 => ?_⟩
        have ecut : cutV (intV el) none (some (10 : Int)) = intV (el.take 10) := by
          rw [show cutV (intV el) none (some (10 : Int)) = (intV el).take 10 from cutV_hi (xs := intV el) 10]
          unfold intV
          rw [List.map_take]
        rw [ecut]
        have s9 := same_new (o := .lst (intV (el.take 10))) h9
        have e9 : upd H8 l9 (.lst (intV (el.take 10))) l9 = some (.lst (intV (el.take 10))) := upd_same
        generalize upd H8 l9 (.lst (intV (el.take 10))) = H9 at s9 e9 ⊢
        have htl : (el.take 10).length ≤ 10 := by rw [List.length_take]; omega
        refine ⟨D2, l9, _, _, rfl, rfl, s9 _ _ e8', e9, le_line (by rw [intV_len, intV_len]; omega), fun wl hwl => ?_⟩
        have s10 := same_new (o := .lst (intV ws1 ++ intV (el.take 10))) hwl
        have e10 : upd H9 wl (.lst (intV ws1 ++ intV (el.take 10))) wl = some (.lst (intV (ws1 ++ el.take 10))) := by rw [upd_same, intV_app]
        generalize upd H9 wl (.lst (intV ws1 ++ intV (el.take 10))) = H10 at s10 e10 ⊢
        have hwords : ∀ w ∈ ws1 ++ el.take 10, w ≤ 65535 := fun w hw => (List.mem_append.mp hw).elim (hw1w w) fun z => hew w (List.mem_of_mem_take z)
        have hwll : 60 ≤ (ws1 ++ el.take 10).length ∧ (ws1 ++ el.take 10).length ≤ 200 := by rw [List.length_append]; omega
        generalize ws1 ++ el.take 10 = ws at *
        have hs10 := src_up hs8 (s9.trans s10)
        have nwl : wl ≠ p := fun z => src_ne (src_up hs8 s9) (z ▸ hwl)
        refine ⟨_, rfl, _, rfl, c, p, wl, ws, rfl, hs10, e10, nwl, by omega, by omega, hwords, fun H11 nl ns hs11 b11 enl hnl2 hnw2 => ?_⟩
        have ewl := b11 _ _ nwl e10
        refine ⟨_, rfl, _, rfl, _, rfl, _, rfl, wl, nl, ws, ns, rfl, ewl, enl, by omega, by omega, fun H12 t l r s12 et el12 er12 => ?_⟩
        exact ⟨wl, nl, t, l, r, ws, ns, rfl, s12 _ _ ewl, s12 _ _ enl, hwords, hnw2, by omega, by omega, et, el12, er12, fun H13 _ => q H13⟩
    refine ⟨_, rfl, rfl, _, rfl, ifB (fun ef => ?_) (fun ef => ?_)⟩
    · exact q _
    -- 2048 words
    refine ⟨_, rfl, c, p, 2, rfl, hs5, by decide, by decide, fun H6 n6 l6 hs6 b6 => ⟨_, _, rfl, rfl, 1 + (n6 : Int), rfl, by omega, by omega, fun D2 hD2 => ?_⟩⟩
    have nD2 : D2 ≠ p := fun z => src_ne hs6 (z ▸ hD2)
    have ncD2 : D2 ≠ c := fun z => src_cne hs6 (z ▸ hD2)
    have epa6 := b6 _ _ npa epa5
    rw [show (1 + (n6 : Int)).toNat = 1 + n6 by omega]
    refine lc_inv (walk_range (lo := 0) (n := 1 + n6)) (fun i v => True) (fun i acc H4 => Src c H4 p ∧ But p H6 H4 ∧ ∃ zs : List Nat, acc = intV zs ∧ ∀ w ∈ zs, w ≤ 65535) (by omega) ⟨src_up hs6 (same_new hD2), But.of (same_new hD2), [], rfl, fun w h => by cases h⟩ (fun _ _ _ _ => trivial) (fun i H1 v H2 hi y => ⟨y.1, trivial⟩) (fun i v acc H7 hi hl pv e5 _ Q q => ?_) (fun acc HA hlA pv elA => ?_)
    · obtain ⟨hs7, b7, zs, rfl, hz⟩ := pv
      refine ⟨_, rfl, c, p, rfl, hs7, fun H8 x hx hs8 b8 => ?_⟩
      refine q _ _ (b8 _ _ nD2 e5) ⟨src_put hs8 nD2 ncD2, but_new (b7.trans b8) hD2, zs ++ [x], by rw [intV_app]; rfl, fun w h => ?_⟩
      rcases List.mem_append.mp h with z | z
      · exact hz w z
      · rw [List.mem_singleton.mp z]
        exact hx
    obtain ⟨hsA, bA, tl, rfl, htw⟩ := pv
    rw [intV_len] at hlA
    have epaA := bA _ _ npa epa6
    clear hs6 b6 epa6 bA hD2 ncD2 hs5 epa5 s5 el5
    have htll := intV_len tl
    refine ⟨_, rfl, D2, _, rfl, .inl (SqL.of elA), _, _, rfl, rfl, (2048 : Int) - ((intV tl).length : Int), rfl, by omega, by omega, fun D3 hD3 => ?_⟩
    rw [htll, show ((2048 : Int) - (tl.length : Int)).toNat = 2048 - tl.length by omega]
    refine lc_vals (walk_range (lo := 0) (n := 2048 - tl.length)) (fun i v => True) (fun i => .int (p0 : Int)) hD3 (fun _ _ => trivial) (by omega) (fun i H1 v H2 hi y => ⟨y.1, trivial⟩) (fun i v H4 hi sm hv Q q => ?_) (fun H8 s8 e8 => ?_)
    · exact ⟨_, rfl, pa, _, 0, _, rfl, rfl, SqL.of (sm _ _ epaA), hat0, q _ (Same.refl _)⟩
    obtain ⟨w0, hw0⟩ : ∃ w0, w0 = (List.range (2048 - tl.length)).map fun _ => p0 := ⟨_, rfl⟩
    have e8' : H8 D3 = some (.lst (intV w0)) := by
      rw [e8, hw0]
      unfold intV
      rw [List.map_map]
      rfl
    have hw0l : w0.length = 2048 - tl.length := by rw [hw0, List.length_map, List.length_range]
    have hw0w : ∀ w ∈ w0, w ≤ 65535 := fun w hw => by
      rw [hw0] at hw
      obtain ⟨i, _, rfl⟩ := List.mem_map.mp hw
      exact hpool0
    clear hw0 e8
    have elA8 := s8 _ _ elA
    refine ⟨_, rfl, D3, D2, _, _, rfl, rfl, e8', elA8, le_line (by rw [intV_len, intV_len]; omega), fun ll hll => ?_⟩
    have s9 := same_new (o := .lst (intV w0 ++ intV tl)) hll
    have e9 : upd H8 ll (.lst (intV w0 ++ intV tl)) ll = some (.lst (intV (w0 ++ tl))) := by rw [upd_same, intV_app]
    generalize upd H8 ll (.lst (intV w0 ++ intV tl)) = H9 at s9 e9 ⊢
    have hlw : ∀ w ∈ w0 ++ tl, w ≤ 65535 := fun w hw => (List.mem_append.mp hw).elim (hw0w w) (htw w)
    have hlll : (w0 ++ tl).length = 2048 := by rw [List.length_append]; omega
    generalize w0 ++ tl = lng at *
    have etl := s9 _ _ elA8
    have epa9 := s9 _ _ (s8 _ _ epaA)
    clear e8' elA8 epaA elA
    refine ⟨_, rfl, _, rfl, _, rfl, _, rfl, ll, D2, lng, tl, rfl, e9, etl, by omega, by omega, fun H10 t l r s10 et el10 er10 => ?_⟩
    refine ⟨ll, D2, t, l, r, lng, tl, rfl, s10 _ _ e9, s10 _ _ etl, hlw, htw, by omega, by omega, et, el10, er10, fun H11 s11 => ⟨_, rfl, ifF rfl ?_⟩⟩
    have s911 := s10.trans s11
    have e11 := s911 _ _ e9
    have et11 := s911 _ _ etl
    have ep11 := s911 _ _ epa9
    clear e9 etl epa9 s911 s10 s11 et el10 er10 hsA
    have hbl : ∀ w ∈ p0 :: lng, w ≤ 65535 := fun w hw => (List.mem_cons.mp hw).elim (fun z => by rw [z]; exact hpool0) (hlw w)
    have hbl2 : ∀ w ∈ lng ++ [p0], w ≤ 65535 := fun w hw => (List.mem_append.mp hw).elim (hlw w) (fun z => by rw [List.mem_singleton.mp z]; exact hpool0)
    have n65 : ∀ w ∈ ([] : List Nat), w ≤ 65535 := fun w hw => by cases hw
    -- too many
    refine ⟨_, rfl, pa, _, 0, _, rfl, rfl, SqL.of ep11, hat0, lenOk (n := 1) rfl (by decide), fun x1 hx1 => ?_⟩
    have y1 := same_new (o := .lst [V.int (p0 : Int)]) hx1
    have z1 : upd H11 x1 (.lst [V.int (p0 : Int)]) x1 = some (.lst [V.int (p0 : Int)]) := upd_same
    generalize upd H11 x1 (.lst [V.int (p0 : Int)]) = J1 at y1 z1 ⊢
    refine ⟨_, rfl, x1, ll, _, _, rfl, rfl, z1, y1 _ _ e11, le_line (by rw [intV_len]; show 1 + _ ≤ _; omega), fun x2 hx2 => ?_⟩
    have y2 := same_new (o := .lst ([V.int (p0 : Int)] ++ intV lng)) hx2
    have z2 : upd J1 x2 (.lst ([V.int (p0 : Int)] ++ intV lng)) x2 = some (.lst (intV (p0 :: lng))) := upd_same
    generalize upd J1 x2 (.lst ([V.int (p0 : Int)] ++ intV lng)) = J2 at y2 z2 ⊢
    have y12 := y1.trans y2
    refine ⟨_, rfl, x2, D2, p0 :: lng, tl, rfl, z2, y12 _ _ et11, hbl, htw, by rw [List.length_cons]; omega, by omega, .inl (by rw [List.length_cons]; omega), fun J3 y3 => ?_⟩
    have hne : (V.bl (!decide (V.int 2048 = V.int 2048))) = V.bl false := congrArg V.bl (by rw [decide_eq_true rfl]; rfl)
    have heq : (V.bl (decide (V.int 2048 = V.int 2048))) = V.bl true := congrArg V.bl (decide_eq_true rfl)
    refine ⟨rfl, false, hne, ifF rfl ?_⟩
    have y13 := y12.trans y3
    have e13 := y13 _ _ e11
    have et13 := y13 _ _ et11
    have ep13 := y13 _ _ ep11
    clear y1 y2 y3 z1 z2 y12 y13 hx1 hx2
    -- the second
    refine ⟨_, rfl, pa, _, 0, _, rfl, rfl, SqL.of ep13, hat0, lenOk (n := 1) rfl (by decide), fun x1 hx1 => ?_⟩
    have y1 := same_new (o := .lst [V.int (p0 : Int)]) hx1
    have z1 : upd J3 x1 (.lst [V.int (p0 : Int)]) x1 = some (.lst [V.int (p0 : Int)]) := upd_same
    generalize upd J3 x1 (.lst [V.int (p0 : Int)]) = J4 at y1 z1 ⊢
    refine ⟨_, rfl, x1, ll, _, _, rfl, rfl, z1, y1 _ _ e13, le_line (by rw [intV_len]; show 1 + _ ≤ _; omega), fun x2 hx2 => ?_⟩
    have y2 := same_new (o := .lst ([V.int (p0 : Int)] ++ intV lng)) hx2
    have z2 : upd J4 x2 (.lst ([V.int (p0 : Int)] ++ intV lng)) x2 = some (.lst (intV (p0 :: lng))) := upd_same
    generalize upd J4 x2 (.lst ([V.int (p0 : Int)] ++ intV lng)) = J5 at y2 z2 ⊢
    refine ⟨lenOk (n := 0) rfl (by decide), fun x3 hx3 => ?_⟩
    have y3 := same_new (o := .lst []) hx3
    have z3 : upd J5 x3 (.lst []) x3 = some (.lst (intV [])) := upd_same
    generalize upd J5 x3 (.lst []) = J6 at y3 z3 ⊢
    have y13 := y1.trans (y2.trans y3)
    refine ⟨x2, x3, p0 :: lng, [], rfl, y3 _ _ z2, z3, hbl, n65, by rw [List.length_cons]; omega, Nat.zero_le _, .inl (by rw [List.length_cons]; omega), fun J7 y7 => ?_⟩
    refine ⟨rfl, false, hne, ifF rfl ?_⟩
    have y17 := y13.trans y7
    have e17 := y17 _ _ e13
    have et17 := y17 _ _ et13
    have ep17 := y17 _ _ ep13
    clear y1 y2 y3 z1 z2 z3 y7 y13 y17 hx1 hx2 hx3 e13 et13 ep13
    -- the third
    refine ⟨_, rfl, _, rfl, pa, _, 0, _, rfl, rfl, SqL.of ep17, hat0, lenOk (n := 1) rfl (by decide), fun x1 hx1 => ?_⟩
    have y1 := same_new (o := .lst [V.int (p0 : Int)]) hx1
    have z1 : upd J7 x1 (.lst [V.int (p0 : Int)]) x1 = some (.lst [V.int (p0 : Int)]) := upd_same
    generalize upd J7 x1 (.lst [V.int (p0 : Int)]) = J8 at y1 z1 ⊢
    refine ⟨_, rfl, x1, ll, _, _, rfl, rfl, z1, y1 _ _ e17, le_line (by rw [intV_len]; show 1 + _ ≤ _; omega), fun x2 hx2 => ?_⟩
    have y2 := same_new (o := .lst ([V.int (p0 : Int)] ++ intV lng)) hx2
    have z2 : upd J8 x2 (.lst ([V.int (p0 : Int)] ++ intV lng)) x2 = some (.lst (intV (p0 :: lng))) := upd_same
    generalize upd J8 x2 (.lst ([V.int (p0 : Int)] ++ intV lng)) = J9 at y2 z2 ⊢
    have y12 := y1.trans y2
    refine ⟨D2, x2, tl, p0 :: lng, rfl, y12 _ _ et17, z2, htw, hbl, by omega, by rw [List.length_cons]; omega, .inr (by rw [List.length_cons]; omega), fun J10 y10 => ?_⟩
    refine ⟨rfl, true, heq, ifT rfl ?_⟩
    have y110 := y12.trans y10
    have e20 := y110 _ _ e17
    have ep20 := y110 _ _ ep17
    clear y1 y2 z1 z2 y10 y12 y110 hx1 hx2 e17 et17 ep17
    -- the fourth
    refine ⟨lenOk (n := 0) rfl (by decide), fun x3 hx3 => ?_⟩
    have y3 := same_new (o := .lst []) hx3
    have z3 : upd J10 x3 (.lst []) x3 = some (.lst (intV [])) := upd_same
    generalize upd J10 x3 (.lst []) = J11 at y3 z3 ⊢
    refine ⟨_, rfl, _, rfl, pa, _, 0, _, rfl, rfl, SqL.of (y3 _ _ ep20), hat0, lenOk (n := 1) rfl (by decide), fun x1 hx1 => ?_⟩
    have y1 := same_new (o := .lst [V.int (p0 : Int)]) hx1
    have z1 : upd J11 x1 (.lst [V.int (p0 : Int)]) x1 = some (.lst [V.int (p0 : Int)]) := upd_same
    generalize upd J11 x1 (.lst [V.int (p0 : Int)]) = J12 at y1 z1 ⊢
    refine ⟨ll, x1, _, _, rfl, rfl, y1 _ _ (y3 _ _ e20), z1, le_line (by rw [intV_len]; show _ + 1 ≤ _; omega), fun x2 hx2 => ?_⟩
    have y2 := same_new (o := .lst (intV lng ++ [V.int (p0 : Int)])) hx2
    have z2 : upd J12 x2 (.lst (intV lng ++ [V.int (p0 : Int)])) x2 = some (.lst (intV (lng ++ [p0]))) := by
      rw [upd_same, intV_app]
      rfl
    generalize upd J12 x2 (.lst (intV lng ++ [V.int (p0 : Int)])) = J13 at y2 z2 ⊢
    refine ⟨x3, x2, [], lng ++ [p0], rfl, y2 _ _ (y1 _ _ z3), z2, n65, hbl2, Nat.zero_le _, by rw [List.length_append]; show _ + 1 ≤ _; omega, .inr (by rw [List.length_append]; show _ < _ + 1; omega), fun J14 y14 => ?_⟩
    refine ⟨rfl, ?_⟩
    rw [heq]
    exact q _
end
/-! ### what the top has left; the end -/
theorem all_mk {l : PySem.W.OpenLaw} {w : World} {K : PySem.W.Frag} {h : Heap} {mg : Str → Option Value} {fa f1 f2 f3 f4 f5 f6 f7 f8 f9 f10 f11 f12 f13 f14 f15 f16 f17 f18 f19 f20 f21 f22 f23 f24 C_TooMany C_BadPiece C_RomError : Addr} (X : K.In h) (G : h.Ns mainGlobals mg) (hfa : mg "law" = some (.ref fa))
    {t_WIDTH t_MOST_WORDS t_MOST_COUNT : Tok}
    {od1 an1 od2 an2 od3 an3 od4 an4 od5 an5 od6 an6 od7 an7 od8 an8 od9 an9 od10 an10 od11 an11 od12 an12 od13 an13 od14 an14 od15 an15 od16 an16 od17 an17 od18 an18 od19 an19 od20 an20 od21 an21 od22 an22 od23 an23 od24 an24 : Option Addr} {sl1 sl2 sl3 sl4 sl5 sl6 sl7 sl8 sl9 sl10 sl11 sl12 sl13 sl14 sl15 sl16 sl17 sl18 sl19 sl20 sl21 sl22 sl23 sl24 : Array (Option Value)} {oc1 kV1 dc1 pm1 cd1 ct1 oc2 kV2 dc2 pm2 cd2 ct2 oc3 kV3 dc3 pm3 cd3 ct3 oc4 kV4 dc4 pm4 cd4 ct4 oc5 kV5 dc5 pm5 cd5 ct5 oc6 kV6 dc6 pm6 cd6 ct6 oc7 kV7 dc7 pm7 cd7 ct7 oc8 kV8 dc8 pm8 cd8 ct8 oc9 kV9 dc9 pm9 cd9 ct9 oc10 kV10 dc10 pm10 cd10 ct10 oc11 kV11 dc11 pm11 cd11 ct11 oc12 kV12 dc12 pm12 cd12 ct12 oc13 kV13 dc13 pm13 cd13 ct13 oc14 kV14 dc14 pm14 cd14 ct14 oc15 kV15 dc15 pm15 cd15 ct15 oc16 kV16 dc16 pm16 cd16 ct16 oc17 kV17 dc17 pm17 cd17 ct17 oc18 kV18 dc18 pm18 cd18 ct18 oc19 kV19 dc19 pm19 cd19 ct19 oc20 kV20 dc20 pm20 cd20 ct20 oc21 kV21 dc21 pm21 cd21 ct21 oc22 kV22 dc22 pm22 cd22 ct22 oc23 kV23 dc23 pm23 cd23 ct23 oc24 kV24 dc24 pm24 cd24 ct24 : Value}
    {nm_TooMany qq_TooMany : Str} {N_TooMany : Addr} {bs_TooMany bm_TooMany : List Value} {sn_TooMany : List Str} {sub_TooMany : List Value} {ab_TooMany : Bool} {col_TooMany : Option Bool} {dd_TooMany : Option Addr} {m0_TooMany m1_TooMany m2_TooMany m3_TooMany m5_TooMany : Option Value}
    {nm_BadPiece qq_BadPiece : Str} {N_BadPiece : Addr} {bs_BadPiece bm_BadPiece : List Value} {sn_BadPiece : List Str} {sub_BadPiece : List Value} {ab_BadPiece : Bool} {col_BadPiece : Option Bool} {dd_BadPiece : Option Addr} {m0_BadPiece m1_BadPiece m2_BadPiece m3_BadPiece m5_BadPiece : Option Value}
    (a1 : PySem.W.nsIn K mainGlobals "text_to_find" = some (some (.ref f1)))
    (l1 : K.lookup f1 = some ⟨oc1, od1, .func (PySem.W.fnOf "text_to_find" "text_to_find" (defArgs s_text_to_find) (defBody s_text_to_find) (defScope s_text_to_find) .none kV1 dc1 pm1 an1 cd1 ct1), sl1⟩)
    (c1 : PySem.W.codeIn K cd1 "text_to_find" = true)
    (k1 : PySem.W.keepIn K (.ref f1) = true)
    (a2 : PySem.W.nsIn K mainGlobals "part_of_text" = some (some (.ref f2)))
    (l2 : K.lookup f2 = some ⟨oc2, od2, .func (PySem.W.fnOf "part_of_text" "part_of_text" (defArgs s_part_of_text) (defBody s_part_of_text) (defScope s_part_of_text) .none kV2 dc2 pm2 an2 cd2 ct2), sl2⟩)
    (c2 : PySem.W.codeIn K cd2 "part_of_text" = true)
    (k2 : PySem.W.keepIn K (.ref f2) = true)
    (a3 : PySem.W.nsIn K mainGlobals "difference" = some (some (.ref f3)))
    (l3 : K.lookup f3 = some ⟨oc3, od3, .func (PySem.W.fnOf "difference" "difference" (defArgs s_difference) (defBody s_difference) (defScope s_difference) .none kV3 dc3 pm3 an3 cd3 ct3), sl3⟩)
    (c3 : PySem.W.codeIn K cd3 "difference" = true)
    (k3 : PySem.W.keepIn K (.ref f3) = true)
    (a4 : PySem.W.nsIn K mainGlobals "longest_copies" = some (some (.ref f4)))
    (l4 : K.lookup f4 = some ⟨oc4, od4, .func (PySem.W.fnOf "longest_copies" "longest_copies" (defArgs s_longest_copies) (defBody s_longest_copies) (defScope s_longest_copies) .none kV4 dc4 pm4 an4 cd4 ct4), sl4⟩)
    (c4 : PySem.W.codeIn K cd4 "longest_copies" = true)
    (k4 : PySem.W.keepIn K (.ref f4) = true)
    (a5 : PySem.W.nsIn K mainGlobals "prices_from" = some (some (.ref f5)))
    (l5 : K.lookup f5 = some ⟨oc5, od5, .func (PySem.W.fnOf "prices_from" "prices_from" (defArgs s_prices_from) (defBody s_prices_from) (defScope s_prices_from) .none kV5 dc5 pm5 an5 cd5 ct5), sl5⟩)
    (c5 : PySem.W.codeIn K cd5 "prices_from" = true)
    (k5 : PySem.W.keepIn K (.ref f5) = true)
    (a6 : PySem.W.nsIn K mainGlobals "longest_put" = some (some (.ref f6)))
    (l6 : K.lookup f6 = some ⟨oc6, od6, .func (PySem.W.fnOf "longest_put" "longest_put" (defArgs s_longest_put) (defBody s_longest_put) (defScope s_longest_put) .none kV6 dc6 pm6 an6 cd6 ct6), sl6⟩)
    (c6 : PySem.W.codeIn K cd6 "longest_put" = true)
    (k6 : PySem.W.keepIn K (.ref f6) = true)
    (a7 : PySem.W.nsIn K mainGlobals "least_prices" = some (some (.ref f7)))
    (l7 : K.lookup f7 = some ⟨oc7, od7, .func (PySem.W.fnOf "least_prices" "least_prices" (defArgs s_least_prices) (defBody s_least_prices) (defScope s_least_prices) .none kV7 dc7 pm7 an7 cd7 ct7), sl7⟩)
    (c7 : PySem.W.codeIn K cd7 "least_prices" = true)
    (k7 : PySem.W.keepIn K (.ref f7) = true)
    (a8 : PySem.W.nsIn K mainGlobals "price" = some (some (.ref f8)))
    (l8 : K.lookup f8 = some ⟨oc8, od8, .func (PySem.W.fnOf "price" "price" (defArgs s_price) (defBody s_price) (defScope s_price) .none kV8 dc8 pm8 an8 cd8 ct8), sl8⟩)
    (c8 : PySem.W.codeIn K cd8 "price" = true)
    (k8 : PySem.W.keepIn K (.ref f8) = true)
    (a9 : PySem.W.nsIn K mainGlobals "put_on" = some (some (.ref f9)))
    (l9 : K.lookup f9 = some ⟨oc9, od9, .func (PySem.W.fnOf "put_on" "put_on" (defArgs s_put_on) (defBody s_put_on) (defScope s_put_on) .none kV9 dc9 pm9 an9 cd9 ct9), sl9⟩)
    (c9 : PySem.W.codeIn K cd9 "put_on" = true)
    (k9 : PySem.W.keepIn K (.ref f9) = true)
    (a10 : PySem.W.nsIn K mainGlobals "_law_source" = some (some (.ref f10)))
    (l10 : K.lookup f10 = some ⟨oc10, od10, .func (PySem.W.fnOf "_law_source" "_law_source" (defArgs s_law_source) (defBody s_law_source) (defScope s_law_source) .none kV10 dc10 pm10 an10 cd10 ct10), sl10⟩)
    (c10 : PySem.W.codeIn K cd10 "_law_source" = true)
    (k10 : PySem.W.keepIn K (.ref f10) = true)
    (a11 : PySem.W.nsIn K mainGlobals "_law_draw" = some (some (.ref f11)))
    (l11 : K.lookup f11 = some ⟨oc11, od11, .func (PySem.W.fnOf "_law_draw" "_law_draw" (defArgs s_law_draw) (defBody s_law_draw) (defScope s_law_draw) .none kV11 dc11 pm11 an11 cd11 ct11), sl11⟩)
    (c11 : PySem.W.codeIn K cd11 "_law_draw" = true)
    (k11 : PySem.W.keepIn K (.ref f11) = true)
    (a12 : PySem.W.nsIn K mainGlobals "_law_word" = some (some (.ref f12)))
    (l12 : K.lookup f12 = some ⟨oc12, od12, .func (PySem.W.fnOf "_law_word" "_law_word" (defArgs s_law_word) (defBody s_law_word) (defScope s_law_word) .none kV12 dc12 pm12 an12 cd12 ct12), sl12⟩)
    (c12 : PySem.W.codeIn K cd12 "_law_word" = true)
    (k12 : PySem.W.keepIn K (.ref f12) = true)
    (a13 : PySem.W.nsIn K mainGlobals "_law_plain" = some (some (.ref f13)))
    (l13 : K.lookup f13 = some ⟨oc13, od13, .func (PySem.W.fnOf "_law_plain" "_law_plain" (defArgs s_law_plain) (defBody s_law_plain) (defScope s_law_plain) .none kV13 dc13 pm13 an13 cd13 ct13), sl13⟩)
    (c13 : PySem.W.codeIn K cd13 "_law_plain" = true)
    (k13 : PySem.W.keepIn K (.ref f13) = true)
    (a14 : PySem.W.nsIn K mainGlobals "_law_pool" = some (some (.ref f14)))
    (l14 : K.lookup f14 = some ⟨oc14, od14, .func (PySem.W.fnOf "_law_pool" "_law_pool" (defArgs s_law_pool) (defBody s_law_pool) (defScope s_law_pool) .none kV14 dc14 pm14 an14 cd14 ct14), sl14⟩)
    (c14 : PySem.W.codeIn K cd14 "_law_pool" = true)
    (k14 : PySem.W.keepIn K (.ref f14) = true)
    (a15 : PySem.W.nsIn K mainGlobals "_law_newer" = some (some (.ref f15)))
    (l15 : K.lookup f15 = some ⟨oc15, od15, .func (PySem.W.fnOf "_law_newer" "_law_newer" (defArgs s_law_newer) (defBody s_law_newer) (defScope s_law_newer) .none kV15 dc15 pm15 an15 cd15 ct15), sl15⟩)
    (c15 : PySem.W.codeIn K cd15 "_law_newer" = true)
    (k15 : PySem.W.keepIn K (.ref f15) = true)
    (a16 : PySem.W.nsIn K mainGlobals "_law_choices" = some (some (.ref f16)))
    (l16 : K.lookup f16 = some ⟨oc16, od16, .func (PySem.W.fnOf "_law_choices" "_law_choices" (defArgs s_law_choices) (defBody s_law_choices) (defScope s_law_choices) .none kV16 dc16 pm16 an16 cd16 ct16), sl16⟩)
    (c16 : PySem.W.codeIn K cd16 "_law_choices" = true)
    (k16 : PySem.W.keepIn K (.ref f16) = true)
    (a17 : PySem.W.nsIn K mainGlobals "_law_table" = some (some (.ref f17)))
    (l17 : K.lookup f17 = some ⟨oc17, od17, .func (PySem.W.fnOf "_law_table" "_law_table" (defArgs s_law_table) (defBody s_law_table) (defScope s_law_table) .none kV17 dc17 pm17 an17 cd17 ct17), sl17⟩)
    (c17 : PySem.W.codeIn K cd17 "_law_table" = true)
    (k17 : PySem.W.keepIn K (.ref f17) = true)
    (a18 : PySem.W.nsIn K mainGlobals "_law_quick" = some (some (.ref f18)))
    (l18 : K.lookup f18 = some ⟨oc18, od18, .func (PySem.W.fnOf "_law_quick" "_law_quick" (defArgs s_law_quick) (defBody s_law_quick) (defScope s_law_quick) .none kV18 dc18 pm18 an18 cd18 ct18), sl18⟩)
    (c18 : PySem.W.codeIn K cd18 "_law_quick" = true)
    (k18 : PySem.W.keepIn K (.ref f18) = true)
    (a19 : PySem.W.nsIn K mainGlobals "_law_longer" = some (some (.ref f19)))
    (l19 : K.lookup f19 = some ⟨oc19, od19, .func (PySem.W.fnOf "_law_longer" "_law_longer" (defArgs s_law_longer) (defBody s_law_longer) (defScope s_law_longer) .none kV19 dc19 pm19 an19 cd19 ct19), sl19⟩)
    (c19 : PySem.W.codeIn K cd19 "_law_longer" = true)
    (k19 : PySem.W.keepIn K (.ref f19) = true)
    (a20 : PySem.W.nsIn K mainGlobals "_law_right" = some (some (.ref f20)))
    (l20 : K.lookup f20 = some ⟨oc20, od20, .func (PySem.W.fnOf "_law_right" "_law_right" (defArgs s_law_right) (defBody s_law_right) (defScope s_law_right) .none kV20 dc20 pm20 an20 cd20 ct20), sl20⟩)
    (c20 : PySem.W.codeIn K cd20 "_law_right" = true)
    (k20 : PySem.W.keepIn K (.ref f20) = true)
    (a21 : PySem.W.nsIn K mainGlobals "_law_refused" = some (some (.ref f21)))
    (l21 : K.lookup f21 = some ⟨oc21, od21, .func (PySem.W.fnOf "_law_refused" "_law_refused" (defArgs s_law_refused) (defBody s_law_refused) (defScope s_law_refused) .none kV21 dc21 pm21 an21 cd21 ct21), sl21⟩)
    (c21 : PySem.W.codeIn K cd21 "_law_refused" = true)
    (k21 : PySem.W.keepIn K (.ref f21) = true)
    (a22 : PySem.W.nsIn K mainGlobals "law" = some (some (.ref f22)))
    (l22 : K.lookup f22 = some ⟨oc22, od22, .func (PySem.W.fnOf "law" "law" (defArgs s_law) (defBody s_law) (defScope s_law) .none kV22 dc22 pm22 an22 cd22 ct22), sl22⟩)
    (c22 : PySem.W.codeIn K cd22 "law" = true)
    (k22 : PySem.W.keepIn K (.ref f22) = true)
    (l23 : K.lookup f23 = some ⟨oc23, od23, .func (PySem.W.fnOf "__init__" "TooMany.__init__" (defArgs s_TooMany_init) (defBody s_TooMany_init) (defScope s_TooMany_init) .none kV23 dc23 pm23 an23 cd23 ct23), sl23⟩)
    (c23 : PySem.W.codeIn K cd23 "TooMany.__init__" = true)
    (k23 : PySem.W.keepIn K (.ref f23) = true)
    (l24 : K.lookup f24 = some ⟨oc24, od24, .func (PySem.W.fnOf "__init__" "BadPiece.__init__" (defArgs s_BadPiece_init) (defBody s_BadPiece_init) (defScope s_BadPiece_init) .none kV24 dc24 pm24 an24 cd24 ct24), sl24⟩)
    (c24 : PySem.W.codeIn K cd24 "BadPiece.__init__" = true)
    (k24 : PySem.W.keepIn K (.ref f24) = true)
    (gc_TooMany : PySem.W.nsIn K mainGlobals "TooMany" = some (some (.ref C_TooMany)))
    (xl_TooMany : K.lookup C_TooMany = some (excClassObj nm_TooMany qq_TooMany C_TooMany N_TooMany bs_TooMany bm_TooMany true sn_TooMany sub_TooMany ab_TooMany col_TooMany dd_TooMany m0_TooMany m1_TooMany m2_TooMany m3_TooMany m5_TooMany "ValueError.__new__"))
    (vb_TooMany : PySem.HandSPX.refsVE bm_TooMany = true)
    (sa_TooMany : PySem.W.findIn K (.ref C_TooMany) "__setattr__" = some (some (.builtin "object.__setattr__")))
    (ec_TooMany : PySem.W.subIn K (.ref C_TooMany) (.type "BaseException") = some true)
    (tc_TooMany : PySem.W.typeIn K (.ref C_TooMany) = some (.type "type"))
    (kc_TooMany : PySem.W.keepIn K (.ref C_TooMany) = true)
    (no_TooMany : PySem.W.findIn K (.ref C_TooMany) "limit" = some none)
    (ic_TooMany : PySem.W.findIn K (.ref C_TooMany) "__init__" = some (some (.ref f23)))
    (ti_TooMany : PySem.W.typeIn K (.ref f23) = some (.type "function"))
    (ga_TooMany : PySem.W.findIn K (.ref C_TooMany) "__getattribute__" = some (some (.builtin "BaseException.__getattribute__")))
    (gg_TooMany : PySem.W.findIn K (.ref C_TooMany) "__getattr__" = some none)
    (hd_TooMany : PySem.W.hasDictIn K C_TooMany = true)
    (ha_TooMany : PySem.W.findIn K (.ref C_TooMany) "__class__" = some (some (.builtin "object.__class__")))
    (hm_TooMany : PySem.W.mroIn K C_TooMany (.type "object") = some true)
    (ss_TooMany : PySem.W.subIn K (.ref C_TooMany) (.ref C_TooMany) = some true)
    (gc_BadPiece : PySem.W.nsIn K mainGlobals "BadPiece" = some (some (.ref C_BadPiece)))
    (xl_BadPiece : K.lookup C_BadPiece = some (excClassObj nm_BadPiece qq_BadPiece C_BadPiece N_BadPiece bs_BadPiece bm_BadPiece true sn_BadPiece sub_BadPiece ab_BadPiece col_BadPiece dd_BadPiece m0_BadPiece m1_BadPiece m2_BadPiece m3_BadPiece m5_BadPiece "ValueError.__new__"))
    (vb_BadPiece : PySem.HandSPX.refsVE bm_BadPiece = true)
    (sa_BadPiece : PySem.W.findIn K (.ref C_BadPiece) "__setattr__" = some (some (.builtin "object.__setattr__")))
    (ec_BadPiece : PySem.W.subIn K (.ref C_BadPiece) (.type "BaseException") = some true)
    (tc_BadPiece : PySem.W.typeIn K (.ref C_BadPiece) = some (.type "type"))
    (kc_BadPiece : PySem.W.keepIn K (.ref C_BadPiece) = true)
    (no_BadPiece : PySem.W.findIn K (.ref C_BadPiece) "number" = some none)
    (ic_BadPiece : PySem.W.findIn K (.ref C_BadPiece) "__init__" = some (some (.ref f24)))
    (ti_BadPiece : PySem.W.typeIn K (.ref f24) = some (.type "function"))
    (ga_BadPiece : PySem.W.findIn K (.ref C_BadPiece) "__getattribute__" = some (some (.builtin "BaseException.__getattribute__")))
    (gg_BadPiece : PySem.W.findIn K (.ref C_BadPiece) "__getattr__" = some none)
    (hd_BadPiece : PySem.W.hasDictIn K C_BadPiece = true)
    (ha_BadPiece : PySem.W.findIn K (.ref C_BadPiece) "__class__" = some (some (.builtin "object.__class__")))
    (hm_BadPiece : PySem.W.mroIn K C_BadPiece (.type "object") = some true)
    (ss_BadPiece : PySem.W.subIn K (.ref C_BadPiece) (.ref C_BadPiece) = some true)
    (hn0 : PySem.W.specialIn K (.builtin "object.__class__") "__get__" = some (some (.builtin "getset_descriptor.__get__")))
    (ht0 : PySem.W.takesIn K (.builtin "object.__class__") = some true)
    (gc_RomError : PySem.W.nsIn K mainGlobals "RomError" = some (some (.ref C_RomError)))
    (gc_WIDTH : PySem.W.nsIn K mainGlobals "WIDTH" = some (some (.int 5 t_WIDTH)))
    (gc_MOST_WORDS : PySem.W.nsIn K mainGlobals "MOST_WORDS" = some (some (.int 2048 t_MOST_WORDS)))
    (gc_MOST_COUNT : PySem.W.nsIn K mainGlobals "MOST_COUNT" = some (some (.int 32767 t_MOST_COUNT)))
    (ki_TooMany_RomError : PySem.W.kitOne K (.ref C_TooMany) (.ref C_RomError) = some true)
    (ki_TooMany_ValueError : PySem.W.kitOne K (.ref C_TooMany) (.type "ValueError") = some true)
    (z_ValueError : PySem.W.nsIn K mainGlobals "ValueError" = some none)
    (z_abs : PySem.W.nsIn K mainGlobals "abs" = some none)
    (z_bool : PySem.W.nsIn K mainGlobals "bool" = some none)
    (z_enumerate : PySem.W.nsIn K mainGlobals "enumerate" = some none)
    (z_int : PySem.W.nsIn K mainGlobals "int" = some none)
    (z_isinstance : PySem.W.nsIn K mainGlobals "isinstance" = some none)
    (z_len : PySem.W.nsIn K mainGlobals "len" = some none)
    (z_list : PySem.W.nsIn K mainGlobals "list" = some none)
    (z_max : PySem.W.nsIn K mainGlobals "max" = some none)
    (z_range : PySem.W.nsIn K mainGlobals "range" = some none)
    (z_sum : PySem.W.nsIn K mainGlobals "sum" = some none)
    (z_tuple : PySem.W.nsIn K mainGlobals "tuple" = some none) :
    ∃ fd : FuncData, (∀ (s : Shared) (v : Value), BindsTo s fd ⟨[v], []⟩ [("_law_script", v)]) ∧ ∀ base : Heap, K.In base → base.Ns mainGlobals mg → FnOk l.prog w K mg base CX0 9 fa fd ["_law_script"] (spLaw K) := by
  have e : f22 = fa := Value.ref.inj (Option.some.inj ((PySem.W.mg_of X G a22).symm.trans hfa))
  subst e
  have T : Txt K mg ⟨f1, (PySem.W.fnOf "text_to_find" "text_to_find" (defArgs s_text_to_find) (defBody s_text_to_find) (defScope s_text_to_find) .none kV1 dc1 pm1 an1 cd1 ct1), f2, (PySem.W.fnOf "part_of_text" "part_of_text" (defArgs s_part_of_text) (defBody s_part_of_text) (defScope s_part_of_text) .none kV2 dc2 pm2 an2 cd2 ct2), f3, (PySem.W.fnOf "difference" "difference" (defArgs s_difference) (defBody s_difference) (defScope s_difference) .none kV3 dc3 pm3 an3 cd3 ct3), f4, (PySem.W.fnOf "longest_copies" "longest_copies" (defArgs s_longest_copies) (defBody s_longest_copies) (defScope s_longest_copies) .none kV4 dc4 pm4 an4 cd4 ct4), f5, (PySem.W.fnOf "prices_from" "prices_from" (defArgs s_prices_from) (defBody s_prices_from) (defScope s_prices_from) .none kV5 dc5 pm5 an5 cd5 ct5), f6, (PySem.W.fnOf "longest_put" "longest_put" (defArgs s_longest_put) (defBody s_longest_put) (defScope s_longest_put) .none kV6 dc6 pm6 an6 cd6 ct6), f7, (PySem.W.fnOf "least_prices" "least_prices" (defArgs s_least_prices) (defBody s_least_prices) (defScope s_least_prices) .none kV7 dc7 pm7 an7 cd7 ct7), f8, (PySem.W.fnOf "price" "price" (defArgs s_price) (defBody s_price) (defScope s_price) .none kV8 dc8 pm8 an8 cd8 ct8), f9, (PySem.W.fnOf "put_on" "put_on" (defArgs s_put_on) (defBody s_put_on) (defScope s_put_on) .none kV9 dc9 pm9 an9 cd9 ct9), f10, (PySem.W.fnOf "_law_source" "_law_source" (defArgs s_law_source) (defBody s_law_source) (defScope s_law_source) .none kV10 dc10 pm10 an10 cd10 ct10), f11, (PySem.W.fnOf "_law_draw" "_law_draw" (defArgs s_law_draw) (defBody s_law_draw) (defScope s_law_draw) .none kV11 dc11 pm11 an11 cd11 ct11), f12, (PySem.W.fnOf "_law_word" "_law_word" (defArgs s_law_word) (defBody s_law_word) (defScope s_law_word) .none kV12 dc12 pm12 an12 cd12 ct12), f13, (PySem.W.fnOf "_law_plain" "_law_plain" (defArgs s_law_plain) (defBody s_law_plain) (defScope s_law_plain) .none kV13 dc13 pm13 an13 cd13 ct13), f14, (PySem.W.fnOf "_law_pool" "_law_pool" (defArgs s_law_pool) (defBody s_law_pool) (defScope s_law_pool) .none kV14 dc14 pm14 an14 cd14 ct14), f15, (PySem.W.fnOf "_law_newer" "_law_newer" (defArgs s_law_newer) (defBody s_law_newer) (defScope s_law_newer) .none kV15 dc15 pm15 an15 cd15 ct15), f16, (PySem.W.fnOf "_law_choices" "_law_choices" (defArgs s_law_choices) (defBody s_law_choices) (defScope s_law_choices) .none kV16 dc16 pm16 an16 cd16 ct16), f17, (PySem.W.fnOf "_law_table" "_law_table" (defArgs s_law_table) (defBody s_law_table) (defScope s_law_table) .none kV17 dc17 pm17 an17 cd17 ct17), f18, (PySem.W.fnOf "_law_quick" "_law_quick" (defArgs s_law_quick) (defBody s_law_quick) (defScope s_law_quick) .none kV18 dc18 pm18 an18 cd18 ct18), f19, (PySem.W.fnOf "_law_longer" "_law_longer" (defArgs s_law_longer) (defBody s_law_longer) (defScope s_law_longer) .none kV19 dc19 pm19 an19 cd19 ct19), f20, (PySem.W.fnOf "_law_right" "_law_right" (defArgs s_law_right) (defBody s_law_right) (defScope s_law_right) .none kV20 dc20 pm20 an20 cd20 ct20), f21, (PySem.W.fnOf "_law_refused" "_law_refused" (defArgs s_law_refused) (defBody s_law_refused) (defScope s_law_refused) .none kV21 dc21 pm21 an21 cd21 ct21), f22, (PySem.W.fnOf "law" "law" (defArgs s_law) (defBody s_law) (defScope s_law) .none kV22 dc22 pm22 an22 cd22 ct22), C_TooMany, f23, (PySem.W.fnOf "__init__" "TooMany.__init__" (defArgs s_TooMany_init) (defBody s_TooMany_init) (defScope s_TooMany_init) .none kV23 dc23 pm23 an23 cd23 ct23), C_BadPiece, f24, (PySem.W.fnOf "__init__" "BadPiece.__init__" (defArgs s_BadPiece_init) (defBody s_BadPiece_init) (defScope s_BadPiece_init) .none kV24 dc24 pm24 an24 cd24 ct24), C_RomError, t_WIDTH, t_MOST_WORDS, t_MOST_COUNT⟩ :=
    { F_text_to_find := fun_mk (st := s_text_to_find) l1 c1 k1,
      g_text_to_find := PySem.W.mg_of X G a1,
      b_text_to_find := (fun_mk (st := s_text_to_find) l1 c1 k1).binds (ps := ["words"]) fun _ _ _ _ _ _ us hl => match us, hl with | [_], _ => rfl,
      F_part_of_text := fun_mk (st := s_part_of_text) l2 c2 k2,
      g_part_of_text := PySem.W.mg_of X G a2,
      b_part_of_text := (fun_mk (st := s_part_of_text) l2 c2 k2).binds (ps := ["text", "place", "count"]) fun _ _ _ _ _ _ us hl => match us, hl with | [_, _, _], _ => rfl,
      F_difference := fun_mk (st := s_difference) l3 c3 k3,
      g_difference := PySem.W.mg_of X G a3,
      b_difference := (fun_mk (st := s_difference) l3 c3 k3).binds (ps := ["elder", "newer"]) fun _ _ _ _ _ _ us hl => match us, hl with | [_, _], _ => rfl,
      F_longest_copies := fun_mk (st := s_longest_copies) l4 c4 k4,
      g_longest_copies := PySem.W.mg_of X G a4,
      b_longest_copies := (fun_mk (st := s_longest_copies) l4 c4 k4).binds (ps := ["elder", "newer"]) fun _ _ _ _ _ _ us hl => match us, hl with | [_, _], _ => rfl,
      F_prices_from := fun_mk (st := s_prices_from) l5 c5 k5,
      g_prices_from := PySem.W.mg_of X G a5,
      b_prices_from := (fun_mk (st := s_prices_from) l5 c5 k5).binds (ps := ["copies"]) fun _ _ _ _ _ _ us hl => match us, hl with | [_], _ => rfl,
      F_longest_put := fun_mk (st := s_longest_put) l6 c6 k6,
      g_longest_put := PySem.W.mg_of X G a6,
      b_longest_put := (fun_mk (st := s_longest_put) l6 c6 k6).binds (ps := ["prices", "place"]) fun _ _ _ _ _ _ us hl => match us, hl with | [_, _], _ => rfl,
      F_least_prices := fun_mk (st := s_least_prices) l7 c7 k7,
      g_least_prices := PySem.W.mg_of X G a7,
      b_least_prices := (fun_mk (st := s_least_prices) l7 c7 k7).binds (ps := ["elder", "newer"]) fun _ _ _ _ _ _ us hl => match us, hl with | [_, _], _ => rfl,
      F_price := fun_mk (st := s_price) l8 c8 k8,
      g_price := PySem.W.mg_of X G a8,
      b_price := (fun_mk (st := s_price) l8 c8 k8).binds (ps := ["pieces"]) fun _ _ _ _ _ _ us hl => match us, hl with | [_], _ => rfl,
      F_put_on := fun_mk (st := s_put_on) l9 c9 k9,
      g_put_on := PySem.W.mg_of X G a9,
      b_put_on := (fun_mk (st := s_put_on) l9 c9 k9).binds (ps := ["elder", "pieces"]) fun _ _ _ _ _ _ us hl => match us, hl with | [_, _], _ => rfl,
      F_law_source := fun_mk (st := s_law_source) l10 c10 k10,
      g_law_source := PySem.W.mg_of X G a10,
      b_law_source := (fun_mk (st := s_law_source) l10 c10 k10).binds (ps := ["_law_script"]) fun _ _ _ _ _ _ us hl => match us, hl with | [_], _ => rfl,
      F_law_draw := fun_mk (st := s_law_draw) l11 c11 k11,
      g_law_draw := PySem.W.mg_of X G a11,
      b_law_draw := (fun_mk (st := s_law_draw) l11 c11 k11).binds (ps := ["_law_source_here", "_law_below"]) fun _ _ _ _ _ _ us hl => match us, hl with | [_, _], _ => rfl,
      F_law_word := fun_mk (st := s_law_word) l12 c12 k12,
      g_law_word := PySem.W.mg_of X G a12,
      b_law_word := (fun_mk (st := s_law_word) l12 c12 k12).binds (ps := ["_law_source_here"]) fun _ _ _ _ _ _ us hl => match us, hl with | [_], _ => rfl,
      F_law_plain := fun_mk (st := s_law_plain) l13 c13 k13,
      g_law_plain := PySem.W.mg_of X G a13,
      b_law_plain := (fun_mk (st := s_law_plain) l13 c13 k13).binds (ps := ["_law_thing"]) fun _ _ _ _ _ _ us hl => match us, hl with | [_], _ => rfl,
      F_law_pool := fun_mk (st := s_law_pool) l14 c14 k14,
      g_law_pool := PySem.W.mg_of X G a14,
      b_law_pool := (fun_mk (st := s_law_pool) l14 c14 k14).binds (ps := ["_law_source_here", "_law_count"]) fun _ _ _ _ _ _ us hl => match us, hl with | [_, _], _ => rfl,
      F_law_newer := fun_mk (st := s_law_newer) l15 c15 k15,
      g_law_newer := PySem.W.mg_of X G a15,
      b_law_newer := (fun_mk (st := s_law_newer) l15 c15 k15).binds (ps := ["_law_source_here", "_law_pool_here", "_law_elder"]) fun _ _ _ _ _ _ us hl => match us, hl with | [_, _, _], _ => rfl,
      F_law_choices := fun_mk (st := s_law_choices) l16 c16 k16,
      g_law_choices := PySem.W.mg_of X G a16,
      b_law_choices := (fun_mk (st := s_law_choices) l16 c16 k16).binds (ps := ["_law_elder", "_law_newer_here", "_law_place"]) fun _ _ _ _ _ _ us hl => match us, hl with | [_, _, _], _ => rfl,
      F_law_table := fun_mk (st := s_law_table) l17 c17 k17,
      g_law_table := PySem.W.mg_of X G a17,
      b_law_table := (fun_mk (st := s_law_table) l17 c17 k17).binds (ps := ["_law_elder", "_law_newer_here"]) fun _ _ _ _ _ _ us hl => match us, hl with | [_, _], _ => rfl,
      F_law_quick := fun_mk (st := s_law_quick) l18 c18 k18,
      g_law_quick := PySem.W.mg_of X G a18,
      b_law_quick := (fun_mk (st := s_law_quick) l18 c18 k18).binds (ps := ["_law_elder", "_law_newer_here"]) fun _ _ _ _ _ _ us hl => match us, hl with | [_, _], _ => rfl,
      F_law_longer := fun_mk (st := s_law_longer) l19 c19 k19,
      g_law_longer := PySem.W.mg_of X G a19,
      b_law_longer := (fun_mk (st := s_law_longer) l19 c19 k19).binds (ps := ["_law_source_here", "_law_elder"]) fun _ _ _ _ _ _ us hl => match us, hl with | [_, _], _ => rfl,
      F_law_right := fun_mk (st := s_law_right) l20 c20 k20,
      g_law_right := PySem.W.mg_of X G a20,
      b_law_right := (fun_mk (st := s_law_right) l20 c20 k20).binds (ps := ["_law_elder", "_law_newer_here", "_law_table_here"]) fun _ _ _ _ _ _ us hl => match us, hl with | [_, _, _], _ => rfl,
      F_law_refused := fun_mk (st := s_law_refused) l21 c21 k21,
      g_law_refused := PySem.W.mg_of X G a21,
      b_law_refused := (fun_mk (st := s_law_refused) l21 c21 k21).binds (ps := ["_law_elder", "_law_newer_here"]) fun _ _ _ _ _ _ us hl => match us, hl with | [_, _], _ => rfl,
      F_law := fun_mk (st := s_law) l22 c22 k22,
      g_law := PySem.W.mg_of X G a22,
      b_law := (fun_mk (st := s_law) l22 c22 k22).binds (ps := ["_law_script"]) fun _ _ _ _ _ _ us hl => match us, hl with | [_], _ => rfl,
      F_TooMany_init := fun_mk (st := s_TooMany_init) l23 c23 k23,
      x_TooMany := ⟨PySem.W.mg_of X G gc_TooMany, ⟨⟨_, _, _, _, _, _, _, _, _, _, _, _, _, _, _, xl_TooMany, vb_TooMany⟩, sa_TooMany, ec_TooMany, tc_TooMany, kc_TooMany⟩, no_TooMany, ic_TooMany, ti_TooMany, (fun_mk (st := s_TooMany_init) l23 c23 k23).binds (ps := ["self", "limit"]) fun _ _ _ _ _ _ us hl => match us, hl with | [_, _], _ => rfl, ⟨ga_TooMany, gg_TooMany, ec_TooMany, hd_TooMany⟩, ⟨ga_TooMany, gg_TooMany, ec_TooMany, hd_TooMany, ha_TooMany, hn0, ht0, hm_TooMany⟩, PySem.W.exm_ref ec_TooMany hd_TooMany tc_TooMany ss_TooMany⟩,
      F_BadPiece_init := fun_mk (st := s_BadPiece_init) l24 c24 k24,
      x_BadPiece := ⟨PySem.W.mg_of X G gc_BadPiece, ⟨⟨_, _, _, _, _, _, _, _, _, _, _, _, _, _, _, xl_BadPiece, vb_BadPiece⟩, sa_BadPiece, ec_BadPiece, tc_BadPiece, kc_BadPiece⟩, no_BadPiece, ic_BadPiece, ti_BadPiece, (fun_mk (st := s_BadPiece_init) l24 c24 k24).binds (ps := ["self", "number"]) fun _ _ _ _ _ _ us hl => match us, hl with | [_, _], _ => rfl, ⟨ga_BadPiece, gg_BadPiece, ec_BadPiece, hd_BadPiece⟩, ⟨ga_BadPiece, gg_BadPiece, ec_BadPiece, hd_BadPiece, ha_BadPiece, hn0, ht0, hm_BadPiece⟩, PySem.W.exm_ref ec_BadPiece hd_BadPiece tc_BadPiece ss_BadPiece⟩,
      g_TooMany := PySem.W.mg_of X G gc_TooMany,
      g_BadPiece := PySem.W.mg_of X G gc_BadPiece,
      g_RomError := PySem.W.mg_of X G gc_RomError,
      g_WIDTH := PySem.W.mg_of X G gc_WIDTH,
      g_MOST_WORDS := PySem.W.mg_of X G gc_MOST_WORDS,
      g_MOST_COUNT := PySem.W.mg_of X G gc_MOST_COUNT,
      k_TooMany_RomError := ki_TooMany_RomError,
      k_TooMany_ValueError := ki_TooMany_ValueError,
      n_ValueError := PySem.W.mg_none_of X G z_ValueError,
      n_abs := PySem.W.mg_none_of X G z_abs,
      n_bool := PySem.W.mg_none_of X G z_bool,
      n_enumerate := PySem.W.mg_none_of X G z_enumerate,
      n_int := PySem.W.mg_none_of X G z_int,
      n_isinstance := PySem.W.mg_none_of X G z_isinstance,
      n_len := PySem.W.mg_none_of X G z_len,
      n_list := PySem.W.mg_none_of X G z_list,
      n_max := PySem.W.mg_none_of X G z_max,
      n_range := PySem.W.mg_none_of X G z_range,
      n_sum := PySem.W.mg_none_of X G z_sum,
      n_tuple := PySem.W.mg_none_of X G z_tuple }
  exact ⟨(PySem.W.fnOf "law" "law" (defArgs s_law) (defBody s_law) (defScope s_law) .none kV22 dc22 pm22 an22 cd22 ct22), fun s v => .of_eq rfl, fun base _ _ => ok_law T⟩
end R1
open PySem PySem.W PyProof.Rows
set_option maxHeartbeats 0 in
theorem PySem.Challenge.cw_romwright_k59_difference_least_holds : PySem.Challenge.rw_romwright_k59_difference_least.Holds := by
  w_on; o_law; k_head; (case hw => w_witness2)
  k_fill
  refine L2.walk_of (l := PySem.Challenge.rw_romwright_k59_difference_least) (n := 63) (k := 9) (x := "_law_script") (CX := fun _ => L2.CX0) (sp := fun w => R1.spLaw _) rfl (by decide) rfl ⟨rfl, by decide, by decide⟩ (fun w h Y => PySem.W.kIn_of Y) ?F (fun _ _ a ns hl _ hS => ⟨a, ns, rfl, hS, hl, fun _ => rfl⟩) (fun _ _ _ _ _ h => h)
  case F =>
    intro w mg fa h KX G hmg
    refine' R1.all_mk KX G hmg ?a1 ?l1 ?c1 ?k1 ?a2 ?l2 ?c2 ?k2 ?a3 ?l3 ?c3 ?k3 ?a4 ?l4 ?c4 ?k4 ?a5 ?l5 ?c5 ?k5 ?a6 ?l6 ?c6 ?k6 ?a7 ?l7 ?c7 ?k7 ?a8 ?l8 ?c8 ?k8 ?a9 ?l9 ?c9 ?k9 ?a10 ?l10 ?c10 ?k10 ?a11 ?l11 ?c11 ?k11 ?a12 ?l12 ?c12 ?k12 ?a13 ?l13 ?c13 ?k13 ?a14 ?l14 ?c14 ?k14 ?a15 ?l15 ?c15 ?k15 ?a16 ?l16 ?c16 ?k16 ?a17 ?l17 ?c17 ?k17 ?a18 ?l18 ?c18 ?k18 ?a19 ?l19 ?c19 ?k19 ?a20 ?l20 ?c20 ?k20 ?a21 ?l21 ?c21 ?k21 ?a22 ?l22 ?c22 ?k22 ?l23 ?c23 ?k23 ?l24 ?c24 ?k24 ?gc_TooMany ?xl_TooMany ?vb_TooMany ?sa_TooMany ?ec_TooMany ?tc_TooMany ?kc_TooMany ?no_TooMany ?ic_TooMany ?ti_TooMany ?ga_TooMany ?gg_TooMany ?hd_TooMany ?ha_TooMany ?hm_TooMany ?ss_TooMany ?gc_BadPiece ?xl_BadPiece ?vb_BadPiece ?sa_BadPiece ?ec_BadPiece ?tc_BadPiece ?kc_BadPiece ?no_BadPiece ?ic_BadPiece ?ti_BadPiece ?ga_BadPiece ?gg_BadPiece ?hd_BadPiece ?ha_BadPiece ?hm_BadPiece ?ss_BadPiece ?hn0 ?ht0 ?gc_RomError ?gc_WIDTH ?gc_MOST_WORDS ?gc_MOST_COUNT ?ki_TooMany_RomError ?ki_TooMany_ValueError ?z_ValueError ?z_abs ?z_bool ?z_enumerate ?z_int ?z_isinstance ?z_len ?z_list ?z_max ?z_range ?z_sum ?z_tuple
    (case a1 => k_is)
    (case a2 => k_is)
    (case a3 => k_is)
    (case a4 => k_is)
    (case a5 => k_is)
    (case a6 => k_is)
    (case a7 => k_is)
    (case a8 => k_is)
    (case a9 => k_is)
    (case a10 => k_is)
    (case a11 => k_is)
    (case a12 => k_is)
    (case a13 => k_is)
    (case a14 => k_is)
    (case a15 => k_is)
    (case a16 => k_is)
    (case a17 => k_is)
    (case a18 => k_is)
    (case a19 => k_is)
    (case a20 => k_is)
    (case a21 => k_is)
    (case a22 => k_is)
    (case gc_TooMany => k_is)
    (case gc_BadPiece => k_is)
    (case gc_RomError => k_is)
    (case gc_WIDTH => k_is)
    (case gc_MOST_WORDS => k_is)
    (case gc_MOST_COUNT => k_is)
    (case ic_TooMany => k_is)
    (case ic_BadPiece => k_is)
    (case l1 => k_is)
    (case c1 => k_is)
    (case k1 => k_is)
    (case l2 => k_is)
    (case c2 => k_is)
    (case k2 => k_is)
    (case l3 => k_is)
    (case c3 => k_is)
    (case k3 => k_is)
    (case l4 => k_is)
    (case c4 => k_is)
    (case k4 => k_is)
    (case l5 => k_is)
    (case c5 => k_is)
    (case k5 => k_is)
    (case l6 => k_is)
    (case c6 => k_is)
    (case k6 => k_is)
    (case l7 => k_is)
    (case c7 => k_is)
    (case k7 => k_is)
    (case l8 => k_is)
    (case c8 => k_is)
    (case k8 => k_is)
    (case l9 => k_is)
    (case c9 => k_is)
    (case k9 => k_is)
    (case l10 => k_is)
    (case c10 => k_is)
    (case k10 => k_is)
    (case l11 => k_is)
    (case c11 => k_is)
    (case k11 => k_is)
    (case l12 => k_is)
    (case c12 => k_is)
    (case k12 => k_is)
    (case l13 => k_is)
    (case c13 => k_is)
    (case k13 => k_is)
    (case l14 => k_is)
    (case c14 => k_is)
    (case k14 => k_is)
    (case l15 => k_is)
    (case c15 => k_is)
    (case k15 => k_is)
    (case l16 => k_is)
    (case c16 => k_is)
    (case k16 => k_is)
    (case l17 => k_is)
    (case c17 => k_is)
    (case k17 => k_is)
    (case l18 => k_is)
    (case c18 => k_is)
    (case k18 => k_is)
    (case l19 => k_is)
    (case c19 => k_is)
    (case k19 => k_is)
    (case l20 => k_is)
    (case c20 => k_is)
    (case k20 => k_is)
    (case l21 => k_is)
    (case c21 => k_is)
    (case k21 => k_is)
    (case l22 => k_is)
    (case c22 => k_is)
    (case k22 => k_is)
    (case l23 => k_is)
    (case c23 => k_is)
    (case k23 => k_is)
    (case l24 => k_is)
    (case c24 => k_is)
    (case k24 => k_is)
    (case xl_TooMany => k_is)
    (case vb_TooMany => first | k_is | decide +kernel)
    (case sa_TooMany => k_is)
    (case ec_TooMany => k_is)
    (case tc_TooMany => k_is)
    (case kc_TooMany => k_is)
    (case no_TooMany => k_is)
    (case ti_TooMany => k_is)
    (case ga_TooMany => k_is)
    (case gg_TooMany => k_is)
    (case hd_TooMany => k_is)
    (case ha_TooMany => k_is)
    (case hm_TooMany => k_is)
    (case ss_TooMany => k_is)
    (case xl_BadPiece => k_is)
    (case vb_BadPiece => first | k_is | decide +kernel)
    (case sa_BadPiece => k_is)
    (case ec_BadPiece => k_is)
    (case tc_BadPiece => k_is)
    (case kc_BadPiece => k_is)
    (case no_BadPiece => k_is)
    (case ti_BadPiece => k_is)
    (case ga_BadPiece => k_is)
    (case gg_BadPiece => k_is)
    (case hd_BadPiece => k_is)
    (case ha_BadPiece => k_is)
    (case hm_BadPiece => k_is)
    (case ss_BadPiece => k_is)
    (case hn0 => k_is)
    (case ht0 => k_is)
    (case ki_TooMany_RomError => first | k_is | kit_is | decide +kernel)
    (case ki_TooMany_ValueError => first | k_is | kit_is | decide +kernel)
    (case z_ValueError => k_is)
    (case z_abs => k_is)
    (case z_bool => k_is)
    (case z_enumerate => k_is)
    (case z_int => k_is)
    (case z_isinstance => k_is)
    (case z_len => k_is)
    (case z_list => k_is)
    (case z_max => k_is)
    (case z_range => k_is)
    (case z_sum => k_is)
    (case z_tuple => k_is)

