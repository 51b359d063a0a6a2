import PyProof.Rows.All
import Wide.All
import OpenK.AllK
import Wide.FinOn
import HandS.ForMost
import HandS.Wide
import HandS.Walk
import HandS.IsInst
import HandS.TupAny
import HandS.StrMore
import HandS.Replace
import HandS.Style
import HandS.Evl
import HandS.ForExc
import HandS.ExcInit
import HandS.ExcField
import HandS.ExcIs
import KE.KExcIs
import HandS.HotCalls
import HandS.ExcInitHot
import KE.KxField
import HandS.FStr
import HandS.Iter
import PyProof.Rows.ChunkEnd
import HandS.Star
import HandS.Strs
import HandS.WideBits
import PySem.Challenge.RW_romwright_k40_spoilt_tables
set_option Elab.async false
set_option linter.all false
set_option maxRecDepth 100000
set_option maxHeartbeats 4000000
namespace RK
open PySem PySem.Spec PyProof.Rows L2
/-! ### heaps -/
/-- all but what stands at p is as it was -/
def But (p : Addr) (H H' : Hp) : Prop := ∀ b o, b ≠ p → H b = some o → H' b = some o
theorem But.refl (p : Addr) (H : Hp) : But p H H := fun _ _ _ h => h
theorem But.upd {p : Addr} {H H' : Hp} {o : HO} (h : But p H H') : But p H (upd H' p o) := fun b u n e => by
  rw [upd_ne n]
  exact h b u n e
theorem But.trans {p : Addr} {H H1 H2 : Hp} (a : But p H H1) (b : But p H1 H2) : But p H H2 := fun c o n h => b c o n (a c o n h)
theorem but_new {p D : Addr} {H H' : Hp} {o : HO} (h : But p H H') (n : H D = none) : But p H (upd H' D o) := fun b u nb e => by
  rw [upd_ne (ne_of_none e n)]
  exact h b u nb e
theorem But.of {p : Addr} {H H' : Hp} (h : Same H H') : But p H H' := fun b o _ e => h b o e
theorem same_new {H : Hp} {p : Addr} {o : HO} (h : H p = none) : Same H (upd H p o) := fun b x e => by
  rw [upd_ne (ne_of_none e h)]
  exact e
theorem sqT_up {K : PySem.W.Frag} {H H' : Hp} {a : Addr} {xs : List V} (h : SqT K H a xs) (e : Same H H') : SqT K H' a xs := by
  rcases h with (h | ⟨o, h⟩) | h
  · exact .inl (.inl (e _ _ h))
  · exact .inl (.inr ⟨o, e _ _ h⟩)
  · exact .inr h
theorem sqL_up {K : PySem.W.Frag} {H H' : Hp} {a : Addr} {xs : List V} (h : SqL K H a xs) (e : Same H H') : SqL K H' a xs := e.seq h
/-- a new object that H did not know changes -/
theorem same_mut {H H' : Hp} {p : Addr} {o : HO} (e : Same H H') (h : H p = none) : Same H (upd H' p o) := fun a u ha => by
  rw [upd_ne (ne_of_none ha h)]
  exact e a u ha
/-- the heap without p -/
def hid (H : Hp) (p : Addr) : Hp := fun b => if b = p then none else H b
theorem hid_same {H : Hp} {p : Addr} : Same (hid H p) H := fun b o e => by
  unfold hid at e
  split at e
  · cases e
  · exact e
theorem hid_at {H : Hp} {p b : Addr} {o : HO} (h : H b = some o) (n : b ≠ p) : hid H p b = some o := by
  unfold hid
  rw [if_neg n]
  exact h
theorem hid_but {H H' : Hp} {p : Addr} (h : But p H H') : Same (hid H p) (hid H' p) := fun b o e => by
  unfold hid at e ⊢
  split at e
  · cases e
  · rename_i n
    rw [if_neg n]
    exact h b o n e
mutual
theorem dpUp {K : PySem.W.Frag} {H H' : Hp} (e : Same H H') : ∀ {v : V} {d : PyData}, Dp K H v d → Dp K H' v d
  | _, _, .non => .non
  | _, _, .bl b => .bl b
  | _, _, .int i => .int i
  | _, _, .str x => .str x
  | _, _, .lst h t => .lst (sqL_up h e) (dpAllUp e t)
  | _, _, .tup h t => .tup (sqT_up h e) (dpAllUp e t)
theorem dpAllUp {K : PySem.W.Frag} {H H' : Hp} (e : Same H H') : ∀ {vs : List V} {ds : List PyData}, DpAll K H vs ds → DpAll K H' vs ds
  | _, _, .nil => .nil
  | _, _, .cons h t => .cons (dpUp e h) (dpAllUp e t)
end
/-! ### data of any depth, none of whose changeable objects lies in S -/
abbrev ASet := Addr → Prop
def noS : ASet := fun _ => False
def inS (S : ASet) (a : Addr) : ASet := fun b => S b ∨ b = a
/-- at a: a list | a tuple that is not in S -/
def XL (K : PySem.W.Frag) (H : Hp) (S : ASet) (a : Addr) (xs : List V) : Prop := (¬ S a ∧ Rd H a (.lst xs)) ∨ SqL K (fun _ => none) a xs
def XT (K : PySem.W.Frag) (H : Hp) (S : ASet) (a : Addr) (xs : List V) : Prop := (¬ S a ∧ Rd H a (.tup xs)) ∨ SqT K (fun _ => none) a xs
/-- what stood outside of S stands -/
def Out (S : ASet) (H H' : Hp) : Prop := ∀ b o, ¬ S b → H b = some o → H' b = some o
theorem Out.of {S : ASet} {H H' : Hp} (h : Same H H') : Out S H H' := fun b o _ e => h b o e
theorem Out.refl (S : ASet) (H : Hp) : Out S H H := fun _ _ _ h => h
theorem Out.trans {S : ASet} {H H1 H2 : Hp} (a : Out S H H1) (b : Out S H1 H2) : Out S H H2 := fun c o n h => b c o n (a c o n h)
theorem Out.mono {S S' : ASet} {H H' : Hp} (h : Out S H H') (k : ∀ a, S a → S' a) : Out S' H H' := fun b o n e => h b o (fun z => n (k b z)) e
theorem Out.put {S : ASet} {H H' : Hp} {a : Addr} {o : HO} (h : Out S H H') (ha : S a) : Out S H (upd H' a o) := fun b u n e => by
  rw [upd_ne fun z => n (by rw [z]; exact ha)]
  exact h b u n e
section
variable {K : PySem.W.Frag} {H H' : Hp} {S S' : ASet} {v x : V} {a p : Addr} {xs : List V} {d : PyData} {ds : List PyData}
theorem XL.sq (h : XL K H S a xs) : SqL K H a xs := by
  rcases h with ⟨_, h⟩ | (h | ⟨_, h⟩) | h
  · exact .inl h
  · cases h
  · cases h
  · exact .inr h
theorem XT.sq (h : XT K H S a xs) : SqT K H a xs := by
  rcases h with ⟨_, h⟩ | (h | ⟨_, h⟩) | h
  · exact .inl h
  · cases h
  · cases h
  · exact .inr h
theorem XL.of (h : H a = some (.lst xs)) (n : ¬ S a) : XL K H S a xs := .inl ⟨n, .inl h⟩
theorem XT.of (h : H a = some (.tup xs)) (n : ¬ S a) : XT K H S a xs := .inl ⟨n, .inl h⟩
theorem XL.up (h : XL K H S a xs) (e : Out S H H') : XL K H' S a xs := by
  rcases h with ⟨n, h | ⟨o, h⟩⟩ | h
  · exact .inl ⟨n, .inl (e _ _ n h)⟩
  · exact .inl ⟨n, .inr ⟨o, e _ _ n h⟩⟩
  · exact .inr h
theorem XT.up (h : XT K H S a xs) (e : Out S H H') : XT K H' S a xs := by
  rcases h with ⟨n, h | ⟨o, h⟩⟩ | h
  · exact .inl ⟨n, .inl (e _ _ n h)⟩
  · exact .inl ⟨n, .inr ⟨o, e _ _ n h⟩⟩
  · exact .inr h
/-- a further address that is not in the heap is kept out -/
theorem XL.add (h : XL K H S a xs) (hp : H p = none) : XL K H (inS S p) a xs := by
  rcases h with ⟨n, h⟩ | h
  · refine .inl ⟨fun z => ?_, h⟩
    rcases z with z | z
    · exact n z
    · subst z
      rcases h with h | ⟨o, h⟩ <;> rw [hp] at h <;> cases h
  · exact .inr h
theorem XT.add (h : XT K H S a xs) (hp : H p = none) : XT K H (inS S p) a xs := by
  rcases h with ⟨n, h⟩ | h
  · refine .inl ⟨fun z => ?_, h⟩
    rcases z with z | z
    · exact n z
    · subst z
      rcases h with h | ⟨o, h⟩ <;> rw [hp] at h <;> cases h
  · exact .inr h
theorem XL.less (h : XL K H S a xs) (k : ∀ a, S' a → S a) : XL K H S' a xs := by
  rcases h with ⟨n, h⟩ | h
  · exact .inl ⟨fun z => n (k _ z), h⟩
  · exact .inr h
theorem XT.less (h : XT K H S a xs) (k : ∀ a, S' a → S a) : XT K H S' a xs := by
  rcases h with ⟨n, h⟩ | h
  · exact .inl ⟨fun z => n (k _ z), h⟩
  · exact .inr h
mutual
inductive Dx (K : PySem.W.Frag) (H : Hp) (S : ASet) : V → PyData → Prop
  | non : Dx K H S .non .none
  | bl (b : Bool) : Dx K H S (.bl b) (.bool b)
  | int (i : Int) : Dx K H S (.int i) (.int i)
  | str (x : Str) : Dx K H S (.str x) (.str x)
  | lst {a : Addr} {xs : List V} {ds : List PyData} : XL K H S a xs → DxAll K H S xs ds → Dx K H S (.ref a) (.list ds)
  | tup {a : Addr} {xs : List V} {ds : List PyData} : XT K H S a xs → DxAll K H S xs ds → Dx K H S (.ref a) (.tuple ds)
inductive DxAll (K : PySem.W.Frag) (H : Hp) (S : ASet) : List V → List PyData → Prop
  | nil : DxAll K H S [] []
  | cons {v : V} {vs : List V} {d : PyData} {ds : List PyData} : Dx K H S v d → DxAll K H S vs ds → DxAll K H S (v :: vs) (d :: ds)
end
mutual
theorem Dx.up (e : Out S H H') : ∀ {v : V} {d : PyData}, Dx K H S v d → Dx K H' S v d
  | _, _, .non => .non
  | _, _, .bl b => .bl b
  | _, _, .int i => .int i
  | _, _, .str x => .str x
  | _, _, .lst h t => .lst (h.up e) (DxAll.up e t)
  | _, _, .tup h t => .tup (h.up e) (DxAll.up e t)
theorem DxAll.up (e : Out S H H') : ∀ {vs : List V} {ds : List PyData}, DxAll K H S vs ds → DxAll K H' S vs ds
  | _, _, .nil => .nil
  | _, _, .cons h t => .cons (Dx.up e h) (DxAll.up e t)
end
mutual
theorem Dx.add (hp : H p = none) : ∀ {v : V} {d : PyData}, Dx K H S v d → Dx K H (inS S p) v d
  | _, _, .non => .non
  | _, _, .bl b => .bl b
  | _, _, .int i => .int i
  | _, _, .str x => .str x
  | _, _, .lst h t => .lst (h.add hp) (DxAll.add hp t)
  | _, _, .tup h t => .tup (h.add hp) (DxAll.add hp t)
theorem DxAll.add (hp : H p = none) : ∀ {vs : List V} {ds : List PyData}, DxAll K H S vs ds → DxAll K H (inS S p) vs ds
  | _, _, .nil => .nil
  | _, _, .cons h t => .cons (Dx.add hp h) (DxAll.add hp t)
end
mutual
theorem Dx.less (k : ∀ a, S' a → S a) : ∀ {v : V} {d : PyData}, Dx K H S v d → Dx K H S' v d
  | _, _, .non => .non
  | _, _, .bl b => .bl b
  | _, _, .int i => .int i
  | _, _, .str x => .str x
  | _, _, .lst h t => .lst (h.less k) (DxAll.less k t)
  | _, _, .tup h t => .tup (h.less k) (DxAll.less k t)
theorem DxAll.less (k : ∀ a, S' a → S a) : ∀ {vs : List V} {ds : List PyData}, DxAll K H S vs ds → DxAll K H S' vs ds
  | _, _, .nil => .nil
  | _, _, .cons h t => .cons (Dx.less k h) (DxAll.less k t)
end
mutual
theorem Dx.dp : ∀ {v : V} {d : PyData}, Dx K H S v d → Dp K H v d
  | _, _, .non => .non
  | _, _, .bl b => .bl b
  | _, _, .int i => .int i
  | _, _, .str x => .str x
  | _, _, .lst h t => .lst h.sq (DxAll.dp t)
  | _, _, .tup h t => .tup h.sq (DxAll.dp t)
theorem DxAll.dp : ∀ {vs : List V} {ds : List PyData}, DxAll K H S vs ds → DpAll K H vs ds
  | _, _, .nil => .nil
  | _, _, .cons h t => .cons (Dx.dp h) (DxAll.dp t)
end
theorem dxAll_get : ∀ {vs : List V} {ds : List PyData} {i : Nat} {x : V}, DxAll K H S vs ds → vs[i]? = some x → ∃ d, ds[i]? = some d ∧ Dx K H S x d
  | _, _, _, _, .nil, e => by simp at e
  | _, _, 0, _, .cons h _, e => by
    simp at e
    subst e
    exact ⟨_, rfl, h⟩
  | _, _, i + 1, x, .cons _ t, e => by
    obtain ⟨d, h1, h2⟩ := dxAll_get (i := i) (x := x) t (by simpa using e)
    exact ⟨d, by simpa using h1, h2⟩
theorem Dx.of_get {vs : List V} {ds : List PyData} {i : Nat} (h : DxAll K H S vs ds) (e : vs[i]? = some x) (e2 : ds[i]? = some d) : Dx K H S x d := by
  obtain ⟨d', h1, h2⟩ := dxAll_get h e
  rw [e2] at h1
  rw [Option.some.inj h1]
  exact h2
theorem dxAll_len : ∀ {vs : List V} {ds : List PyData}, DxAll K H S vs ds → vs.length = ds.length
  | _, _, .nil => rfl
  | _, _, .cons _ t => by
    rw [List.length_cons, List.length_cons, dxAll_len t]
theorem dxAll_app : ∀ {vs ws : List V} {ds es : List PyData}, DxAll K H S vs ds → DxAll K H S ws es → DxAll K H S (vs ++ ws) (ds ++ es)
  | _, _, _, _, .nil, h => h
  | _, _, _, _, .cons a t, h => .cons a (dxAll_app t h)
theorem dxAll_ints : ∀ ns : List Int, DxAll K H S (ns.map V.int) (ns.map PyData.int)
  | [] => .nil
  | n :: r => .cons (.int n) (dxAll_ints r)
theorem dxAll_strs : ∀ ns : List Str, DxAll K H S (ns.map V.str) (ns.map PyData.str)
  | [] => .nil
  | n :: r => .cons (.str n) (dxAll_strs r)
theorem dxAll_ints_inv : ∀ {vs : List V} {ns : List Int}, DxAll K H S vs (ns.map PyData.int) → vs = ns.map V.int
  | _, [], .nil => rfl
  | _, n :: r, .cons h t => by
    cases h
    rw [dxAll_ints_inv t]
    rfl
end
section
variable {K : PySem.W.Frag} {H H' : Hp} {v x : V} {a p : Addr} {xs : List V} {d : PyData} {ds : List PyData}
/-! ### isinstance -/
def tn : PyData → String
  | .none => "NoneType"
  | .bool _ => "bool"
  | .int _ => "int"
  | .str _ => "str"
  | .list _ => "list"
  | .tuple _ => "tuple"
  | .dict _ => "dict"
def isB (a c : String) : Bool := a == c || (a == "bool" && c == "int")
theorem kitT : ∀ a ∈ (["NoneType", "bool", "int", "str", "list", "tuple"] : List String), ∀ c ∈ (["int", "bool", "str", "list", "tuple"] : List String), kitB a c = some (isB a c) := by decide +kernel
theorem dp_tn (h : Dp K H v d) : tn d ∈ (["NoneType", "bool", "int", "str", "list", "tuple"] : List String) := by
  cases h <;> simp [tn]
theorem dp_ty (h : Dp K H v d) : TyX K H v (.type (tn d)) := by
  cases h with
  | non => exact .base .non
  | bl b => exact .base (.bl b)
  | int i => exact .base (.int i)
  | str x => exact .base (.str x)
  | lst h _ =>
    rcases h with (h | ⟨o, h⟩) | ⟨o, its, n, hk, hc, _⟩
    · exact .base (.lst h)
    · exact .base (.frz h)
    · exact .kList hk hc
  | tup h _ =>
    rcases h with (h | ⟨o, h⟩) | ⟨o, its, n, hk, hc, _⟩
    · exact .base (.tup h)
    · exact .fTuple h
    · exact .kTuple hk hc
theorem r_isi {c : String} {Q : VK} (h : Dp K H v d) (hc : c ∈ (["int", "bool", "str", "list", "tuple"] : List String)) (q : Q (.bl (isB (tn d) c)) H) : rIsi K [v, .ty c] H Q :=
  ⟨v, .ty c, _, _, _, rfl, .ty c, dp_ty h, kit_ty (kitT _ (dp_tn h) c hc), q⟩
theorem kit_any {t : String} (ht : t ∈ (["NoneType", "bool", "int", "str", "list", "tuple"] : List String)) : ∀ cs : List String, (∀ c ∈ cs, c ∈ (["int", "bool", "str", "list", "tuple"] : List String)) →
    PySem.W.kitAny K (.type t) (cs.map Value.type) = some (cs.any (isB t))
  | [], _ => rfl
  | c :: r, h => by
    have h1 : PySem.W.kitOne K (.type t) (.type c) = some (isB t c) := kit_ty (kitT t ht c (h c List.mem_cons_self))
    have h2 := kit_any ht r fun x hx => h x (List.mem_cons_of_mem _ hx)
    show PySem.W.kitAny K (.type t) (.type c :: r.map Value.type) = some (isB t c || r.any (isB t))
    refine kitAny_cons h1 (fun e => ?_) (fun e => ?_)
    · rw [e, Bool.false_or]
      exact h2
    · rw [e, Bool.true_or]
theorem paired_ty : ∀ cs : List String, Paired ClsV (cs.map V.ty) (cs.map Value.type)
  | [] => .nil
  | c :: r => .cons (.ty c) (paired_ty r)
theorem r_isiT {cs : List String} {Q : VK} (h : Dp K H v d) (hp : H p = some (.tup (cs.map V.ty))) (hc : ∀ c ∈ cs, c ∈ (["int", "bool", "str", "list", "tuple"] : List String)) (q : Q (.bl (cs.any (isB (tn d)))) H) : rIsiT K [v, .ref p] H Q :=
  ⟨v, p, _, _, _, _, rfl, hp, paired_ty cs, dp_ty h, kit_any (dp_tn h) cs hc, q⟩
end
theorem ifT {c : Bool} {A B : Prop} (h : c = true) (a : A) : if c = true then A else B := by
  rw [if_pos h]
  exact a
theorem ifF {c : Bool} {A B : Prop} (h : c = false) (b : B) : if c = true then A else B := by
  rw [h, if_neg Bool.false_ne_true]
  exact b
theorem ifB {c : Bool} {A B : Prop} (ht : c = true → A) (hf : c = false → B) : if c = true then A else B := by
  cases c with
  | true => exact ifT rfl (ht rfl)
  | false => exact ifF rfl (hf rfl)
theorem lenOk {α : Type} {xs : List α} {n : Nat} (h : xs.length = n) (hn : n ≤ 100000) : xs.length ≤ sizeLine := by
  rw [h]
  exact Nat.le_trans hn (by decide)
theorem range_getD {α β : Type} (g : α → β) (z : α) : ∀ l : List α, (List.range l.length).map (fun i => g (l.getD i z)) = l.map g := fun l => by
  apply List.ext_getElem?
  intro i
  by_cases h : i < l.length
  · rw [List.getElem?_map, List.getElem?_range h, List.getElem?_map, List.getElem?_eq_getElem h]
    simp [List.getD_eq_getElem?_getD, List.getElem?_eq_getElem h]
  · rw [List.getElem?_eq_none (by simp; omega), List.getElem?_eq_none (by simp; omega)]
theorem depth_get : ∀ {ds : List PyData} {i : Nat} {d : PyData}, ds[i]? = some d → d.depth ≤ PyData.depthAll ds
  | [], _, _, h => by simp at h
  | x :: r, 0, d, h => by
    simp at h
    subst h
    exact Nat.le_max_left _ _
  | x :: r, i + 1, d, h => Nat.le_trans (depth_get (ds := r) (i := i) (by simpa using h)) (Nat.le_max_right _ _)
/-! no list or tuple in it is very long -/
mutual
def wdB : PyData → Bool
  | .list xs => decide (xs.length ≤ 100000) && wdA xs
  | .tuple xs => decide (xs.length ≤ 100000) && wdA xs
  | .none => true
  | .bool _ => true
  | .int _ => true
  | .str _ => true
  | .dict _ => true
def wdA : List PyData → Bool
  | [] => true
  | x :: r => wdB x && wdA r
end
theorem wdA_get : ∀ {ds : List PyData} {i : Nat} {d : PyData}, wdA ds = true → ds[i]? = some d → wdB d = true
  | [], _, _, _, h => by simp at h
  | x :: r, 0, d, w, h => by
    simp at h
    subst h
    exact (Bool.and_eq_true_iff.mp w).1
  | x :: r, i + 1, d, w, h => wdA_get (ds := r) (i := i) (Bool.and_eq_true_iff.mp w).2 (by simpa using h)
theorem wdA_all : ∀ {ds : List PyData}, (∀ d ∈ ds, wdB d = true) → wdA ds = true
  | [], _ => rfl
  | x :: r, h => Bool.and_eq_true_iff.mpr ⟨h x List.mem_cons_self, wdA_all fun d hd => h d (List.mem_cons_of_mem _ hd)⟩
/-! ### rules whose reading has a name -/
def rTupOf (K : PySem.W.Frag) : List V → Hp → VK → Prop := fun xs H Q => ∃ p ys, xs = [.ref p] ∧ ((SqL K H p ys ∧ ∀ l, H l = none → Q (.ref l) (upd H l (.tup ys))) ∨ (SqT K H p ys ∧ Q (.ref p) H))
section
variable {X : Cx}
theorem tuple_of : CallR X (.type "tuple") (rTupOf X.K) := call_tuple_of
theorem len_seq : CallR X (.builtin "len") (Evl.rLenS X.K) := call_len_seq
theorem list_of : CallR X (.type "list") (Evl.rListS X.K) := call_list_of
end
/-! ### what a walk goes over, lists or tuples -/
theorem PI_or {X : Cx} {tg l : Expr} {w1 w2 : TI} (h1 : PI X tg l w1) (h2 : PI X tg l w2) : PI X tg l (fun σ H R => w1 σ H R ∨ w2 σ H R) :=
  ⟨fun pins s σ H R I h => h.elim (h1.run pins s σ H R I) (h2.run pins s σ H R I)⟩
/-! ### comprehensions without tests whose elements have a value each; the target is the name at k -/
section
variable {J : It} {n : Nat} {G : Hp → Prop} {Y : Nat → Hp → V → Hp → Prop}
theorem lc_vals (w : Walk J n G Y) {te : TE} {σ : L2.St} {H1 : Hp} {D : Addr} {Qd : Hp → Prop} {k : Nat} (I : Nat → V → Prop) (f : Nat → V) (hD : H1 D = none) (hG : ∀ H, Same H1 H → G H) (hn : n ≤ 1000000)
    (hY : ∀ i H x H', i < n → Y i H x H' → H' = H ∧ I i x)
    (hs : ∀ i x H, i < n → Same H1 H → I i x → ∀ Q : VK, (∀ H3, Same H H3 → Q (f i) H3) → te ((σ.set k none).set k (some x)) H Q) (hd : ∀ H, Same H1 H → H D = some (.lst ((List.range n).map f)) → Qd H) :
    ∃ W : Nat → Nat → Hp → Prop, (∃ m, W 0 m (upd H1 D (.lst []))) ∧ ∀ i m H, W i m H →
      (J.stop i H ∧ Qd H) ∨ (J.go i H ∧ ∃ Nx : Hp → Prop, (∀ H', Nx H' → ∃ m', m' < m ∧ W (i + 1) m' H') ∧ ∀ x H', J.yld i H x H' → gName k x (wipe σ [k]) H' fun σ2 H2 => wipe σ2 [k] = wipe σ [k] ∧ tYes σ2 H2 fun b H3 =>
        if b = true then te σ2 H3 fun y H4 => ∃ acc, H4 D = some (.lst acc) ∧ acc.length < sizeLine ∧ Nx (upd H4 D (.lst (acc ++ [y]))) else Nx H3) := by
  refine lc_it w (fun i H => Same H1 H ∧ H D = some (.lst ((List.range i).map f))) ⟨same_new hD, upd_same⟩ (fun i H _ h => hG H h.1) (fun i x H H' hi hp y => ?_) fun H h => hd H h.1 h.2
  obtain ⟨sm, e⟩ := hp
  obtain ⟨rfl, hx⟩ := hY i H x H' hi y
  refine ⟨?_, ?_⟩
  · show ((σ.set k none).set k (some x)).set k none = σ.set k none
    rw [List.set_set, List.set_set]
  show te ((σ.set k none).set k (some x)) H' _
  refine hs i x H' hi sm hx _ fun H3 s3 => ?_
  have e3 : H3 D = some (.lst ((List.range i).map f)) := s3 _ _ e
  refine ⟨_, e3, ?_, same_mut (sm.trans s3) hD, ?_⟩
  · rw [List.length_map, List.length_range]
    exact Nat.lt_of_lt_of_le (Nat.lt_of_lt_of_le hi hn) (by decide)
  · rw [upd_same, List.range_succ, List.map_append]
    rfl
/-- a comprehension whose elements may change what stands; Pv speaks of the turn, the list so far and the heap -/
theorem lc_inv (w : Walk J n G Y) {te : TE} {σ : L2.St} {H1 : Hp} {D : Addr} {Qd : Hp → Prop} {k : Nat} (I : Nat → V → Prop) (Pv : Nat → List V → Hp → Prop) (hn : n ≤ 1000000) (h0 : Pv 0 [] (upd H1 D (.lst [])))
    (hG : ∀ i acc H, Pv i acc H → G H) (hY : ∀ i H x H', i < n → Y i H x H' → H' = H ∧ I i x)
    (hs : ∀ i x acc H, i < n → acc.length = i → Pv i acc H → H D = some (.lst acc) → I i x → ∀ Q : VK, (∀ v H3, H3 D = some (.lst acc) → Pv (i + 1) (acc ++ [v]) (upd H3 D (.lst (acc ++ [v]))) → Q v H3) → te ((σ.set k none).set k (some x)) H Q)
    (hd : ∀ acc H, acc.length = n → Pv n acc H → H D = some (.lst acc) → Qd H) :
    ∃ W : Nat → Nat → Hp → Prop, (∃ m, W 0 m (upd H1 D (.lst []))) ∧ ∀ i m H, W i m H →
      (J.stop i H ∧ Qd H) ∨ (J.go i H ∧ ∃ Nx : Hp → Prop, (∀ H', Nx H' → ∃ m', m' < m ∧ W (i + 1) m' H') ∧ ∀ x H', J.yld i H x H' → gName k x (wipe σ [k]) H' fun σ2 H2 => wipe σ2 [k] = wipe σ [k] ∧ tYes σ2 H2 fun b H3 =>
        if b = true then te σ2 H3 fun y H4 => ∃ acc, H4 D = some (.lst acc) ∧ acc.length < sizeLine ∧ Nx (upd H4 D (.lst (acc ++ [y]))) else Nx H3) := by
  refine lc_it w (fun i H => ∃ acc, acc.length = i ∧ H D = some (.lst acc) ∧ Pv i acc H) ⟨[], rfl, upd_same, h0⟩ (fun i H _ h => ?_) (fun i x H H' hi hp y => ?_) fun H h => ?_
  · obtain ⟨acc, _, _, p⟩ := h
    exact hG i acc H p
  · obtain ⟨acc, hl, e, p⟩ := hp
    obtain ⟨rfl, hx⟩ := hY i H x H' hi y
    refine ⟨?_, ?_⟩
    · show ((σ.set k none).set k (some x)).set k none = σ.set k none
      rw [List.set_set, List.set_set]
    show te ((σ.set k none).set k (some x)) H' _
    refine hs i x acc H' hi hl p e hx _ fun v H3 e3 p3 => ⟨acc, e3, ?_, acc ++ [v], ?_, upd_same, p3⟩
    · rw [hl]
      exact Nat.lt_of_lt_of_le (Nat.lt_of_lt_of_le hi hn) (by decide)
    · rw [List.length_append, hl]
      rfl
  · obtain ⟨acc, hl, e, p⟩ := h
    exact hd acc H hl p e
theorem lc_data {K : PySem.W.Frag} {S : ASet} (w : Walk J n G Y) {te : TE} {σ : L2.St} {H1 : Hp} {D : Addr} {Qd : Hp → Prop} {k : Nat} (I : Nat → V → Prop) (f : Nat → PyData) (hS : ∀ a, S a → H1 a ≠ none) (hD : H1 D = none) (hG : ∀ H, Same H1 H → G H) (hn : n ≤ 1000000)
    (hY : ∀ i H x H', i < n → Y i H x H' → H' = H ∧ I i x)
    (hs : ∀ i x H, i < n → Same H1 H → H D ≠ none → I i x → ∀ Q : VK, (∀ v H3, Same H H3 → Dx K H3 (inS S D) v (f i) → Q v H3) → te ((σ.set k none).set k (some x)) H Q)
    (hd : ∀ H, Same H1 H → Dx K H S (.ref D) (.list ((List.range n).map f)) → Qd H) :
    ∃ W : Nat → Nat → Hp → Prop, (∃ m, W 0 m (upd H1 D (.lst []))) ∧ ∀ i m H, W i m H →
      (J.stop i H ∧ Qd H) ∨ (J.go i H ∧ ∃ Nx : Hp → Prop, (∀ H', Nx H' → ∃ m', m' < m ∧ W (i + 1) m' H') ∧ ∀ x H', J.yld i H x H' → gName k x (wipe σ [k]) H' fun σ2 H2 => wipe σ2 [k] = wipe σ [k] ∧ tYes σ2 H2 fun b H3 =>
        if b = true then te σ2 H3 fun y H4 => ∃ acc, H4 D = some (.lst acc) ∧ acc.length < sizeLine ∧ Nx (upd H4 D (.lst (acc ++ [y]))) else Nx H3) := by
  have hnS : ¬ S D := fun z => hS D z hD
  refine lc_it w (fun i H => Same H1 H ∧ ∃ acc, H D = some (.lst acc) ∧ DxAll K H (inS S D) acc ((List.range i).map f)) ⟨same_new hD, [], upd_same, .nil⟩ (fun i H _ h => hG H h.1) (fun i x H H' hi hp y => ?_) fun H h => ?_
  · obtain ⟨sm, acc, e, da⟩ := hp
    obtain ⟨rfl, hx⟩ := hY i H x H' hi y
    refine ⟨?_, ?_⟩
    · show ((σ.set k none).set k (some x)).set k none = σ.set k none
      rw [List.set_set, List.set_set]
    show te ((σ.set k none).set k (some x)) H' _
    refine hs i x H' hi sm (by rw [e]; exact fun z => nomatch z) hx _ fun v H3 s3 dv => ?_
    have hl : acc.length = i := by rw [dxAll_len da, List.length_map, List.length_range]
    refine ⟨acc, s3 _ _ e, ?_, same_mut (sm.trans s3) hD, acc ++ [v], upd_same, ?_⟩
    · rw [hl]
      exact Nat.lt_of_lt_of_le (Nat.lt_of_lt_of_le hi hn) (by decide)
    · rw [List.range_succ, List.map_append]
      have o : Out (inS S D) H3 (upd H3 D (.lst (acc ++ [v]))) := (Out.refl _ _).put (.inr rfl)
      exact dxAll_app (DxAll.up o (DxAll.up (Out.of s3) da)) (.cons (Dx.up o dv) .nil)
  · obtain ⟨sm, acc, e, da⟩ := h
    exact hd H sm (.lst (XL.of e hnS) (DxAll.less (fun a z => .inl z) da))
end
end RK

namespace RK
open PySem PySem.Spec PyProof.Rows L2 PySem.Builtin.Str
/-! ### texts as lists of code points -/
def sO (l : List Nat) : Str := ⟨l.toArray⟩
theorem sO_eta (x : Str) : sO x.cps.toList = x := rfl
theorem sO_list (l : List Nat) : (sO l).cps.toList = l := rfl
theorem sO_len (l : List Nat) : (sO l).length = l.length := rfl
theorem sO_inj {a b : List Nat} (h : sO a = sO b) : a = b := by
  have := congrArg (fun s : Str => s.cps.toList) h
  exact this
theorem sO_app (a b : List Nat) : sO a ++ sO b = sO (a ++ b) := by
  show (⟨a.toArray ++ b.toArray⟩ : Str) = ⟨(a ++ b).toArray⟩
  rw [List.append_toArray]
theorem sO_at {l : List Nat} {i : Nat} {c : Nat} (h : l[i]? = some c) : atI (sO l).cps.toList (i : Int) = some c := atI_nat h
theorem join_fold (l : List Str) : ∀ (acc : Array Nat), (l.foldl (fun acc p => acc ++ (sO []).cps ++ p.cps) acc) = (acc.toList ++ (l.map fun s => s.cps.toList).flatten).toArray := by
  induction l with
  | nil => intro acc; simp
  | cons p r ih =>
    intro acc
    rw [List.foldl_cons, ih]
    simp [sO]
theorem join_nil (l : List Str) : Txt.join (sO []) l = sO (l.map fun s => s.cps.toList).flatten := by
  cases l with
  | nil => rfl
  | cons p r =>
    show (⟨(r.foldl (fun acc p => acc ++ (sO []).cps ++ p.cps) p.cps)⟩ : Str) = _
    rw [join_fold]
    simp [sO]
theorem strip_take (goes : Nat → Bool) : ∀ l : List Nat, l.take (l.length - (l.reverse.takeWhile goes).length) = (l.reverse.dropWhile goes).reverse := fun l => by
  have h : l.reverse = l.reverse.takeWhile goes ++ l.reverse.dropWhile goes := (List.takeWhile_append_dropWhile).symm
  have h2 : l = (l.reverse.dropWhile goes).reverse ++ (l.reverse.takeWhile goes).reverse := by
    rw [← List.reverse_append, List.takeWhile_append_dropWhile, List.reverse_reverse]
  have h3 : l.length = (l.reverse.dropWhile goes).length + (l.reverse.takeWhile goes).length := by
    have := congrArg List.length h2
    rw [List.length_append, List.length_reverse, List.length_reverse] at this
    exact this
  have h4 : l.length - (l.reverse.takeWhile goes).length = (l.reverse.dropWhile goes).reverse.length := by
    rw [List.length_reverse]
    omega
  rw [h4]
  conv => lhs; arg 2; rw [h2]
  rw [List.take_left]
theorem rstrip_sO (l : List Nat) : Txt.rstrip (sO l) = sO (l.reverse.dropWhile Unicode.isSpace).reverse := by
  have hi : stripHi Unicode.isSpace true (sO l) 0 = l.length - (l.reverse.takeWhile Unicode.isSpace).length := rfl
  show (if (stripSame Unicode.isSpace false true (sO l)) = true then sO l else stripped Unicode.isSpace false true (sO l)) = _
  have e : stripped Unicode.isSpace false true (sO l) = sO (l.reverse.dropWhile Unicode.isSpace).reverse := by
    show (⟨l.toArray.extract 0 (l.length - (l.reverse.takeWhile Unicode.isSpace).length)⟩ : Str) = _
    rw [List.extract_toArray, List.extract_eq_take_drop, List.drop_zero, Nat.sub_zero, strip_take]
    rfl
  split
  · rename_i h
    have h1 : (l.length - (l.reverse.takeWhile Unicode.isSpace).length == l.length) = true := (Bool.and_eq_true_iff.mp h).2
    have h2 : l.length - (l.reverse.takeWhile Unicode.isSpace).length = l.length := by simpa using h1
    have h3 := strip_take Unicode.isSpace l
    rw [h2, List.take_length] at h3
    rw [← h3]
  · exact e
theorem ljust_sO (l : List Nat) (n : Nat) (h : l.length ≤ n) : Txt.ljust (sO l) (n : Int) = sO (l ++ List.replicate (n - l.length) 32) := by
  show (if (n : Int) ≤ (l.length : Nat) then sO l else padded (sO l) 0 ((n : Int).toNat - l.length) 32) = _
  split
  · rename_i h2
    have : n - l.length = 0 := by omega
    rw [this]
    simp [sO]
  · show (⟨Array.replicate 0 32 ++ l.toArray ++ Array.replicate ((n : Int).toNat - l.length) 32⟩ : Str) = _
    rw [Int.toNat_natCast]
    simp [sO]
/-- parts of a text -/
theorem cut_lo (l : List Nat) (k : Nat) : cutS (sO l) (some (k : Int)) none = sO (l.drop k) := by
  show (⟨((l.drop (HT.sIx l.length 0 (some (k : Int)))).take (HT.sIx l.length l.length none - HT.sIx l.length 0 (some (k : Int)))).toArray⟩ : Str) = _
  rw [HT.sIx_nat, HT.sIx_none]
  have e : (l.drop (min k l.length)).take (l.length - min k l.length) = l.drop k := by
    rw [List.take_of_length_le (by rw [List.length_drop]; omega)]
    by_cases h : k ≤ l.length
    · rw [Nat.min_eq_left h]
    · rw [Nat.min_eq_right (by omega), List.drop_length, List.drop_of_length_le (by omega)]
  rw [e]
  rfl
theorem cut_hi (l : List Nat) (k : Nat) : cutS (sO l) none (some (k : Int)) = sO (l.take k) := by
  show (⟨((l.drop (HT.sIx l.length 0 none)).take (HT.sIx l.length l.length (some (k : Int)) - HT.sIx l.length 0 none)).toArray⟩ : Str) = _
  rw [HT.sIx_nat, HT.sIx_none, List.drop_zero, Nat.sub_zero]
  have e : l.take (min k l.length) = l.take k := by
    by_cases h : k ≤ l.length
    · rw [Nat.min_eq_left h]
    · rw [Nat.min_eq_right (by omega), List.take_length, List.take_of_length_le (by omega)]
  rw [e]
  rfl
theorem rep_fold (a : Array Nat) : ∀ (n : Nat) (acc : Array Nat), (List.replicate n a).foldl (· ++ ·) acc = (acc.toList ++ (List.replicate n a.toList).flatten).toArray
  | 0, acc => by simp
  | n + 1, acc => by
    rw [List.replicate_succ, List.foldl_cons, rep_fold a n, List.replicate_succ]
    simp
section
variable {X : Cx}
/-- a text times a small number -/
theorem op_rep_str : OpR X (binaryOp .Mult) (fun x y H Q => ∃ (l : List Nat) (n : Nat), x = .str (sO l) ∧ y = .int (n : Int) ∧ l.length ≤ 1000 ∧ n ≤ 1000 ∧ Q (.str (sO (List.replicate n l).flatten)) H) := by
  intro pins s σ H x y v u Q I rx ry h
  obtain ⟨l, n, rfl, rfl, hl, hn, q⟩ := h
  obtain ⟨t, rfl⟩ := rx
  obtain ⟨t2, rfl⟩ := ry
  have big : l.length * n ≤ 1000000 := Nat.mul_le_mul hl hn
  refine P.mul_str ?_ (fun _ _ => ?_) (fun _ _ => ?_) ?_
  · rw [decide_eq_false (show ¬ (n : Int) < -(2 ^ 63) by omega), decide_eq_false (show ¬ (n : Int) ≥ 2 ^ 63 by omega)]
    rfl
  · show ¬ ((l.length : Nat) : Int) > (2 ^ 63 - 1) / (n : Int)
    have h1 : (0 : Int) < n := by omega
    have h2 : (1000 : Int) ≤ (2 ^ 63 - 1) / (n : Int) := (Int.le_ediv_iff_mul_le h1).mpr (by omega)
    omega
  · show tooLong (l.length * (n : Int).toNat) = false
    rw [Int.toNat_natCast]
    exact decide_eq_false (by show ¬ _; have : (1000000 : Nat) ≤ sizeLine := by decide
                              omega)
  · have fin : ∀ (z : Str) tk tok, z = sO (List.replicate n l).flatten → EP X pins σ Q (Value.str z tok) { s with toks := tk } := fun z tk tok e => by subst e; exact ⟨.str _, H, I.tok _, ⟨_, rfl⟩, q⟩
    have hsz : ∀ z : Str, z = sO (List.replicate n l).flatten → z.length ≤ sizeLine := fun z e => by
      rw [e, sO_len]
      have e2 : (List.replicate n l).flatten.length = n * l.length := by simp
      rw [e2, Nat.mul_comm]
      exact Nat.le_trans big (by decide)
    split
    · have : n = 0 := by omega
      subst this
      exact ⟨by decide, fin _ _ _ rfl⟩
    · split
      · rename_i h2
        rcases Bool.or_eq_true_iff.mp h2 with h3 | h3
        · have h4 : (n : Int) = 1 := by simpa using h3
          have h5 : n = 1 := by omega
          subst h5
          refine fin _ s.toks _ ?_
          simp
        · have h4 : l.length = 0 := (eq_of_beq h3 : (sO l).length = 0)
          have h5 : l = [] := List.eq_nil_of_length_eq_zero h4
          subst h5
          refine fin _ s.toks _ ?_
          have : (List.replicate n ([] : List Nat)).flatten = [] := by simp
          rw [this]
      · have e : (⟨(List.replicate (n : Int).toNat (sO l).cps).foldl (· ++ ·) #[]⟩ : Str) = sO (List.replicate n l).flatten := by
          rw [rep_fold, Int.toNat_natCast]
          simp [sO]
        exact ⟨hsz _ e, fin _ _ _ e⟩
end
end RK

namespace RK
open PySem PySem.Spec PyProof.Rows L2 PySem.Builtin.Str
/-! ### names and the words that pack them -/
def sg (k : Nat) : Nat := if k = 0 then 32 else if k ≤ 26 then 96 + k else 21 + k
abbrev LTR : List Nat := (Str.ofString "abcdefghijklmnopqrstuvwxyz").cps.toList
abbrev SGN : List Nat := (Str.ofString " abcdefghijklmnopqrstuvwxyz0123456789").cps.toList
theorem SGN_eq : SGN = (List.range 37).map sg := by decide +kernel
theorem LTR_eq : LTR = (List.range 26).map fun k => sg (k + 1) := by decide +kernel
def isN (l : List Nat) : Bool := (decide (1 ≤ l.length) && decide (l.length ≤ 9) && decide (l.headD 0 ∈ LTR)) && l.all fun c => decide (c ∈ SGN) && !decide (c = 32)
theorem dec_blank (c : Nat) : decide (V.str (sO [c]) = V.str (Str.ofString " ")) = decide (c = 32) := by
  have e : Str.ofString " " = sO [32] := by decide +kernel
  rw [e, decide_eq_decide]
  constructor
  · intro h
    have := sO_inj (V.str.inj h)
    exact (List.cons.inj this).1
  · intro h
    rw [h]
/-- the codes of a name -/
structure Nk (ks : List Nat) : Prop where
  pos : 1 ≤ ks.length
  le : ks.length ≤ 9
  head : 1 ≤ ks.headD 0 ∧ ks.headD 0 ≤ 26
  all : ∀ k ∈ ks, 1 ≤ k ∧ k ≤ 36
theorem sg_mem {k : Nat} (h : k ≤ 36) : sg k ∈ SGN := by
  rw [SGN_eq]
  exact List.mem_map.mpr ⟨k, List.mem_range.mpr (by omega), rfl⟩
theorem sg_ne {k : Nat} (h : 1 ≤ k) : sg k ≠ 32 := by
  unfold sg
  split
  · omega
  · split <;> omega
theorem sg_inj {a b : Nat} (ha : a ≤ 36) (hb : b ≤ 36) (h : sg a = sg b) : a = b := by
  unfold sg at h
  split at h <;> split at h <;> (try split at h) <;> (try split at h) <;> omega
theorem sg_lt {k : Nat} (h : k ≤ 36) : sg k ∈ LTR ↔ 1 ≤ k ∧ k ≤ 26 := by
  rw [LTR_eq, List.mem_map]
  constructor
  · rintro ⟨j, hj, e⟩
    have hj := List.mem_range.mp hj
    have := sg_inj (by omega) h e
    omega
  · rintro ⟨h1, h2⟩
    exact ⟨k - 1, List.mem_range.mpr (by omega), by rw [Nat.sub_add_cancel h1]⟩
theorem isN_codes {ks : List Nat} (h36 : ∀ k ∈ ks, k ≤ 36) : isN (ks.map sg) = (decide (1 ≤ ks.length) && decide (ks.length ≤ 9) && decide (1 ≤ ks.headD 0 ∧ ks.headD 0 ≤ 26) && ks.all fun k => decide (1 ≤ k)) := by
  unfold isN
  rw [List.length_map]
  have e1 : decide ((ks.map sg).headD 0 ∈ LTR) = decide (1 ≤ ks.headD 0 ∧ ks.headD 0 ≤ 26) := by
    cases ks with
    | nil => decide +kernel
    | cons k r =>
      show decide (sg k ∈ LTR) = decide (1 ≤ k ∧ k ≤ 26)
      rw [decide_eq_decide]
      exact sg_lt (h36 k List.mem_cons_self)
  have e2 : ((ks.map sg).all fun c => decide (c ∈ SGN) && !decide (c = 32)) = ks.all fun k => decide (1 ≤ k) := by
    rw [List.all_map]
    apply Bool.eq_iff_iff.mpr
    rw [List.all_eq_true, List.all_eq_true]
    constructor
    · intro h k hk
      have := h k hk
      apply decide_eq_true
      rcases Nat.eq_zero_or_pos k with z | z
      · subst z
        exact absurd this (by decide +kernel)
      · exact z
    · intro h k hk
      have hk1 : 1 ≤ k := of_decide_eq_true (h k hk)
      show (decide (sg k ∈ SGN) && !decide (sg k = 32)) = true
      rw [decide_eq_true (sg_mem (h36 k hk)), decide_eq_false (sg_ne hk1)]
      rfl
  rw [e1, e2]
theorem isN_of {ks : List Nat} (h : Nk ks) : isN (ks.map sg) = true := by
  rw [isN_codes fun k hk => (h.all k hk).2, decide_eq_true h.pos, decide_eq_true h.le, decide_eq_true h.head]
  rw [List.all_eq_true.mpr fun k hk => decide_eq_true (h.all k hk).1]
  rfl
theorem isN_long {l : List Nat} (h : 10 ≤ l.length) : isN l = false := by
  unfold isN
  rw [decide_eq_false (show ¬ l.length ≤ 9 by omega), Bool.and_false]
  rfl
theorem isN_head {l : List Nat} (h : l.headD 0 ∉ LTR) : isN l = false := by
  unfold isN
  rw [decide_eq_false h, Bool.and_false]
  rfl
theorem isN_mem {l : List Nat} {c : Nat} (h : c ∈ l) (hc : (decide (c ∈ SGN) && !decide (c = 32)) = false) : isN l = false := by
  unfold isN
  rw [show (l.all fun c => decide (c ∈ SGN) && !decide (c = 32)) = false from ?_, Bool.and_false]
  apply Bool.eq_false_iff.mpr
  intro z
  have := List.all_eq_true.mp z c h
  rw [hc] at this
  cases this
/-! words -/
def cds (w : Nat) : List Nat := [w / 1600, w / 40 % 40, w % 40]
def rtrim (ks : List Nat) : List Nat := (ks.reverse.dropWhile (· == 0)).reverse
theorem rtrim_app (l : List Nat) (x : Nat) : rtrim (l ++ [x]) = if x = 0 then rtrim l else l ++ [x] := by
  unfold rtrim
  rw [List.reverse_append]
  show ((x :: l.reverse).dropWhile (· == 0)).reverse = _
  rw [List.dropWhile_cons]
  by_cases h : x = 0
  · rw [if_pos h, if_pos (by rw [h]; rfl)]
  · rw [if_neg h, if_neg (by simpa using h)]
    simp
theorem rtrim_pre (l : List Nat) : rtrim l = l.take (rtrim l).length := by
  have h : l.reverse = l.reverse.takeWhile (· == 0) ++ l.reverse.dropWhile (· == 0) := (List.takeWhile_append_dropWhile).symm
  have h2 : l = rtrim l ++ (l.reverse.takeWhile (· == 0)).reverse := by
    unfold rtrim
    rw [← List.reverse_append, List.takeWhile_append_dropWhile, List.reverse_reverse]
  conv => rhs; arg 2; rw [h2]
  rw [List.take_left]
theorem rtrim_big {l : List Nat} {x : Nat} (h : x ∈ l) (hx : x ≠ 0) : x ∈ rtrim l := by
  have h2 : l = rtrim l ++ (l.reverse.takeWhile (· == 0)).reverse := by
    unfold rtrim
    rw [← List.reverse_append, List.takeWhile_append_dropWhile, List.reverse_reverse]
  rw [h2] at h
  rcases List.mem_append.mp h with h | h
  · exact h
  · have := List.mem_reverse.mp h
    have h3 : ∀ (r : List Nat), x ∈ r.takeWhile (· == 0) → x = 0 := fun r => by
      induction r with
      | nil => intro z; cases z
      | cons y r ih =>
        rw [List.takeWhile_cons]
        split
        · rename_i hy
          intro z
          rcases List.mem_cons.mp z with z | z
          · rw [z]; simpa using hy
          · exact ih z
        · intro z; cases z
    exact absurd (h3 _ this) hx
theorem rtrim_sub {l : List Nat} {x : Nat} (h : x ∈ rtrim l) : x ∈ l := by
  rw [rtrim_pre] at h
  exact List.mem_of_mem_take h
theorem rtrim_len (l : List Nat) : (rtrim l).length ≤ l.length := by
  rw [rtrim_pre, List.length_take]
  omega
theorem rtrim_head {l : List Nat} (h : rtrim l ≠ []) : (rtrim l).headD 0 = l.headD 0 := by
  rw [rtrim_pre] at h ⊢
  cases l with
  | nil => simp at h
  | cons x r =>
    cases e : (rtrim (x :: r)).length with
    | zero => rw [e] at h; exact absurd rfl h
    | succ n => rfl
/-- the program's way -/
def wn (ks : List Nat) : Option (List Nat) := if ks.any (fun k => decide (37 ≤ k)) then none else if isN ((rtrim ks).map sg) then some ((rtrim ks).map sg) else none
/-- the law's way -/
def un (ks : List Nat) : Option (List Nat) := if (rtrim ks).all (fun k => decide (1 ≤ k ∧ k ≤ 36)) && (decide ((rtrim ks).length ≠ 0) && decide (ks.headD 0 ≤ 26)) then some ((rtrim ks).map sg) else none
theorem wn_un (ks : List Nat) (h9 : ks.length ≤ 9) : wn ks = un ks := by
  unfold wn un
  by_cases hb : ks.any (fun k => decide (37 ≤ k)) = true
  · rw [if_pos hb]
    obtain ⟨k, hk, hk2⟩ := List.any_eq_true.mp hb
    have hk3 : 37 ≤ k := of_decide_eq_true hk2
    have : (rtrim ks).all (fun k => decide (1 ≤ k ∧ k ≤ 36)) = false := by
      apply Bool.eq_false_iff.mpr
      intro z
      have := of_decide_eq_true (List.all_eq_true.mp z k (rtrim_big hk (by omega)))
      omega
    rw [this]
    rfl
  · rw [if_neg hb]
    have h36 : ∀ k ∈ ks, k ≤ 36 := fun k hk => by
      apply Decidable.byContradiction
      intro z
      exact hb (List.any_eq_true.mpr ⟨k, hk, decide_eq_true (by omega)⟩)
    have h36' : ∀ k ∈ rtrim ks, k ≤ 36 := fun k hk => h36 k (rtrim_sub hk)
    have hl := rtrim_len ks
    have e : isN ((rtrim ks).map sg) = ((rtrim ks).all (fun k => decide (1 ≤ k ∧ k ≤ 36)) && (decide ((rtrim ks).length ≠ 0) && decide (ks.headD 0 ≤ 26))) := by
      rw [isN_codes h36']
      apply Bool.eq_iff_iff.mpr
      simp only [Bool.and_eq_true, decide_eq_true_eq, List.all_eq_true]
      constructor
      · rintro ⟨⟨⟨h1, _⟩, h3, h4⟩, h5⟩
        have hne : rtrim ks ≠ [] := fun z => by rw [z] at h1; exact absurd h1 (by decide)
        rw [rtrim_head hne] at h3 h4
        exact ⟨fun k hk => ⟨h5 k hk, h36' k hk⟩, by omega, h4⟩
      · rintro ⟨h1, h2, h3⟩
        have hne : rtrim ks ≠ [] := fun z => by rw [z] at h2; exact h2 rfl
        refine ⟨⟨⟨by omega, by omega⟩, ?_⟩, fun k hk => (h1 k hk).1⟩
        have hm : (rtrim ks).headD 0 ∈ rtrim ks := by
          cases hr : rtrim ks with
          | nil => exact absurd hr hne
          | cons x r => exact List.mem_cons_self
        have := h1 _ hm
        rw [rtrim_head hne] at this ⊢
        exact ⟨this.1, h3⟩
    rw [e]
def pad (ks : List Nat) : List Nat := ks ++ List.replicate (9 - ks.length) 0
theorem pad_len {ks : List Nat} (h : ks.length ≤ 9) : (pad ks).length = 9 := by
  unfold pad
  rw [List.length_append, List.length_replicate]
  omega
def pk1 (cs : List Nat) (k : Nat) : Nat := (cs.getD k 0 * 40 + cs.getD (k + 1) 0) * 40 + cs.getD (k + 2) 0
def pk3 (cs : List Nat) : List Nat := [pk1 cs 0, pk1 cs 3, pk1 cs 6]
theorem cds_pk1 {cs : List Nat} {k : Nat} (h : ∀ x ∈ cs, x ≤ 39) : cds (pk1 cs k) = [cs.getD k 0, cs.getD (k + 1) 0, cs.getD (k + 2) 0] := by
  have g : ∀ i, cs.getD i 0 ≤ 39 := fun i => by
    rw [List.getD_eq_getElem?_getD]
    cases e : cs[i]? with
    | none => exact Nat.zero_le _
    | some x => exact h x (List.mem_of_getElem? e)
  have a := g k
  have b := g (k + 1)
  have c := g (k + 2)
  unfold cds pk1
  congr 1
  · omega
  · congr 1
    · omega
    · congr 1
      omega
theorem cds_pk3 {cs : List Nat} (h : ∀ x ∈ cs, x ≤ 39) (h9 : cs.length = 9) : (pk3 cs).flatMap cds = cs := by
  match cs, h9 with
  | [a, b, c, d, e, f, g, i, j], _ =>
    show cds _ ++ (cds _ ++ (cds _ ++ [])) = _
    rw [cds_pk1 h, cds_pk1 h, cds_pk1 h]
    rfl
theorem rtrim_pad {ks : List Nat} (h : Nk ks) : rtrim (pad ks) = ks := by
  unfold pad
  generalize 9 - ks.length = n
  induction n with
  | zero =>
    rw [List.replicate_zero, List.append_nil]
    cases e : ks.reverse with
    | nil =>
      have := congrArg List.reverse e
      rw [List.reverse_reverse] at this
      rw [this]
      rfl
    | cons x r =>
      have e2 : ks = r.reverse ++ [x] := by
        have := congrArg List.reverse e
        rw [List.reverse_reverse, List.reverse_cons] at this
        exact this
      rw [e2, rtrim_app, if_neg]
      have := h.all x (by rw [e2]; simp)
      omega
  | succ n ih =>
    rw [List.replicate_succ', ← List.append_assoc, rtrim_app, if_pos rfl]
    exact ih
theorem pad_le {ks : List Nat} (h : Nk ks) : ∀ x ∈ pad ks, x ≤ 39 := fun x hx => by
  unfold pad at hx
  rcases List.mem_append.mp hx with hx | hx
  · have := h.all x hx
    omega
  · have := List.eq_of_mem_replicate hx
    omega
theorem wn_pad {ks : List Nat} (h : Nk ks) : wn (pad ks) = some (ks.map sg) := by
  unfold wn
  rw [rtrim_pad h, isN_of h, if_neg, if_pos rfl]
  intro z
  obtain ⟨k, hk, hk2⟩ := List.any_eq_true.mp z
  have hk3 : 37 ≤ k := of_decide_eq_true hk2
  unfold pad at hk
  rcases List.mem_append.mp hk with hx | hx
  · have := h.all k hx
    omega
  · have := List.eq_of_mem_replicate hx
    omega
/-- signs found in the tables -/
theorem find_sg : ∀ k : _root_.Fin 37, Txt.find (Str.ofString " abcdefghijklmnopqrstuvwxyz0123456789") (sO [sg k.val]) = (k.val : Int) := by decide +kernel
theorem occ_sg : ∀ k : _root_.Fin 37, occurrences (Str.ofString " abcdefghijklmnopqrstuvwxyz0123456789") (sO [sg k.val]) 0 (Str.ofString " abcdefghijklmnopqrstuvwxyz0123456789").length 1 = [k.val] := by decide +kernel
theorem space_sg : ∀ k : _root_.Fin 37, Unicode.isSpace (sg k.val) = (k.val == 0) := by decide +kernel
theorem rstrip_sg {ks : List Nat} (h : ∀ k ∈ ks, k ≤ 36) : Txt.rstrip (sO (ks.map sg)) = sO ((rtrim ks).map sg) := by
  rw [rstrip_sO]
  unfold rtrim
  rw [← List.map_reverse]
  have e : ∀ r : List Nat, (∀ k ∈ r, k ≤ 36) → (r.map sg).dropWhile Unicode.isSpace = (r.dropWhile (· == 0)).map sg := fun r => by
    induction r with
    | nil => intro _; rfl
    | cons x r ih =>
      intro hr
      rw [List.map_cons, List.dropWhile_cons, List.dropWhile_cons]
      have hx : Unicode.isSpace (sg x) = (x == 0) := space_sg ⟨x, by have := hr x List.mem_cons_self; omega⟩
      rw [hx]
      split
      · exact ih fun k hk => hr k (List.mem_cons_of_mem _ hk)
      · rfl
  rw [e _ fun k hk => h k (List.mem_reverse.mp hk), ← List.map_reverse]
/-! lists of small numbers as they stand in the program -/
def intV (l : List Nat) : List V := l.map fun (n : Nat) => V.int (n : Int)
theorem atI_intV {cs : List Nat} {k : Int} (h0 : 0 ≤ k) (h1 : k < (cs.length : Int)) : atI (intV cs) k = some (.int ((cs.getD k.toNat 0 : Nat) : Int)) := by
  obtain ⟨j, rfl⟩ : ∃ j : Nat, k = (j : Int) := ⟨k.toNat, by omega⟩
  have hj : j < cs.length := by omega
  refine atI_nat ?_
  unfold intV
  rw [List.getElem?_map, List.getElem?_eq_getElem hj, Int.toNat_natCast, List.getD_eq_getElem?_getD, List.getElem?_eq_getElem hj]
  rfl
theorem intV_map {α : Type} (g : α → Nat) (l : List α) : intV (l.map g) = l.map fun x => V.int ((g x : Nat) : Int) := by
  unfold intV
  rw [List.map_map]
  rfl
theorem intV_ints (l : List Nat) : intV l = (l.map fun (n : Nat) => (n : Int)).map V.int := by
  unfold intV
  rw [List.map_map]
  rfl
theorem intV_range (cs : List Nat) : (List.range cs.length).map (fun i => V.int ((cs.getD i 0 : Nat) : Int)) = intV cs := range_getD (fun n : Nat => V.int (n : Int)) 0 cs
theorem ljust_pad {ks : List Nat} (h : ks.length ≤ 9) : Txt.ljust (sO (ks.map sg)) 9 = sO ((pad ks).map sg) := by
  have e := ljust_sO (ks.map sg) 9 (by rw [List.length_map]; exact h)
  rw [List.length_map] at e
  unfold pad
  rw [List.map_append, List.map_replicate]
  exact e
/-! numbers as data -/
def intsD (l : List Nat) : PyData := .tuple ((l.map fun (n : Nat) => (n : Int)).map PyData.int)
theorem lay_ints : ∀ l : List Int, PyData.canLayAll0 (l.map PyData.int) = true
  | [] => rfl
  | _ :: r => lay_ints r
theorem lay_intsD (l : List Nat) : (intsD l).canLay0 = true := lay_ints _
theorem dep_ints : ∀ l : List Int, PyData.depthAll (l.map PyData.int) = 0
  | [] => rfl
  | x :: r => by
    show max 0 (PyData.depthAll (r.map PyData.int)) = 0
    rw [dep_ints r]
    rfl
theorem dep_intsD (l : List Nat) : (intsD l).depth ≤ 1 := by
  show PyData.depthAll _ + 1 ≤ 1
  rw [dep_ints]
  exact Nat.le_refl 1
theorem wd_ints : ∀ l : List Int, wdA (l.map PyData.int) = true
  | [] => rfl
  | _ :: r => wd_ints r
theorem wd_intsD {l : List Nat} (h : l.length ≤ 100000) : wdB (intsD l) = true := by
  show (decide (_ ≤ 100000) && wdA _) = true
  rw [wd_ints, List.length_map, List.length_map, decide_eq_true h]
  rfl
theorem dx_intsD {K : PySem.W.Frag} {H : Hp} {p : Addr} {l : List Nat} (h : H p = some (.tup (intV l))) : Dx K H noS (.ref p) (intsD l) := by
  rw [intV_ints] at h
  exact .tup (XT.of h fun z => z.elim) (dxAll_ints _)
/-! parts of a tuple -/
theorem cutV_lo {xs : List V} (k : Nat) : cutV xs (some (k : Int)) none = xs.drop k := by
  show (xs.drop (HT.sIx xs.length 0 (some (k : Int)))).take (HT.sIx xs.length xs.length none - HT.sIx xs.length 0 (some (k : Int))) = _
  rw [HT.sIx_nat, HT.sIx_none, List.take_of_length_le (by rw [List.length_drop]; omega)]
  by_cases h : k ≤ xs.length
  · rw [Nat.min_eq_left h]
  · rw [Nat.min_eq_right (by omega), List.drop_length, List.drop_of_length_le (by omega)]
theorem cutV_hi {xs : List V} (k : Nat) : cutV xs none (some (k : Int)) = xs.take k := by
  show (xs.drop (HT.sIx xs.length 0 none)).take (HT.sIx xs.length xs.length (some (k : Int)) - HT.sIx xs.length 0 none) = _
  rw [HT.sIx_nat, HT.sIx_none, List.drop_zero, Nat.sub_zero]
  by_cases h : k ≤ xs.length
  · rw [Nat.min_eq_left h]
  · rw [Nat.min_eq_right (by omega), List.take_length, List.take_of_length_le (by omega)]
theorem slA_of {K : PySem.W.Frag} {H : Hp} {a : Addr} {xs : List V} {lo hi : Option Int} {Q : VK} (h : SqT K H a xs) (q : ∀ p H', Same H H' → SqT K H' p (cutV xs lo hi) → Q (.ref p) H') : rSlA K (.ref a) lo hi H Q := by
  refine ⟨a, xs, rfl, h, fun e => q a H (Same.refl _) ?_, fun _ p hp => q p _ (same_new hp) (SqT.of upd_same)⟩
  have : cutV xs lo hi = xs := by
    show (xs.drop (HT.sIx xs.length 0 lo)).take (HT.sIx xs.length xs.length hi - HT.sIx xs.length 0 lo) = _
    rw [e.1, e.2, List.drop_zero, Nat.sub_zero, List.take_length]
  rw [this]
  exact h
end RK

namespace RK
open PySem PySem.Spec PyProof.Rows L2
/-! ### an own error that keeps one thing, and a try whose first clause names it -/
/-- what the first clause wishes: the error is its own -/
def wHit (K : PySem.W.Frag) (c : Value) (i : Nat) (ts : Addr → Value → Option Addr → TS) (D : Ends) : WX := fun cls d σ H => PySem.W.exmOne K cls c = some true ∧
  ∀ a, H a = none → ts a cls d ⟨fun σ' H' => D.nx (σ'.set i none) H', D.rt, fun σ' H' => D.bk (σ'.set i none) H', fun σ' H' => D.ct (σ'.set i none) H'⟩ (σ.set i (some (.ref a))) H
section
variable {X : Cx} {x n : Str} {c : Value} {i : Nat} {body suite : List Stmt} {hds : List ExceptHandler} {b₀ : Stmt} {np pos pos' : Pos} {tb : WX → TS} {ts : Addr → Value → Option Addr → TS} {pins : List (Addr × Obj)}
/-- what the body leaves, seen from outside the try -/
theorem flow_out {D : Ends} {xe : Value → Shared → Prop} (ok : X.Ok) {f : Flow} {s1 : Shared} (h : SP (X.tr (X.pn ++ pins) xe) [] D f s1) : SP X pins D f s1 := by
  cases f with
  | ret u => exact let ⟨v, σ', H', J, r, q⟩ := h; ⟨v, σ', H', J.ofTry ok, r, q⟩
  | next => exact let ⟨σ', H', J, q⟩ := h; ⟨σ', H', J.ofTry ok, q⟩
  | brk => exact let ⟨σ', H', J, q⟩ := h; ⟨σ', H', J.ofTry ok, q⟩
  | cont => exact let ⟨σ', H', J, q⟩ := h; ⟨σ', H', J.ofTry ok, q⟩
/-- an error that flies stands in no frame -/
theorem no_frame {B h : Heap} {l : List Env} {a : Addr} {o : Obj} {vs : Array Value} (ff : h.FunFrames B l) (e : h.get? a = some o) (hd : o.data = .fields vs) : a ∉ frs l := fun hm => by
  obtain ⟨_, o2, e2, no⟩ := ff.mem hm
  have : o2 = o := Option.some.inj (e2.symm.trans e)
  exact no vs (this ▸ hd)
/-- the first clause's test -/
theorem names_it {a : Addr} {o : Obj} {σ : L2.St} {H : Hp} {s : Shared} {Q : Value → Shared → Prop} {E : Value → Shared → Prop} (hc : Names X x c) (S : Inv (X.suite a ((a, o) :: (X.pn ++ pins))) [] σ H s) (q : Q c s) :
    wpAny (model X.prog X.w) (X.A.mark (some (.ref a))) (eval (.Name x np) X.env) Q E s := by
  rcases hc with ⟨hg, hd, h | ⟨h1, h2, h3⟩⟩
  · exact ld_glob (X := Cx.suite X a ((a, o) :: (X.pn ++ pins))) S hg h q hd
  · exact ld_blt (X := Cx.suite X a ((a, o) :: (X.pn ++ pins))) S hg h1 h2 q h3 hd
end

/-! ### an own error class C: __init__(self, f): self.f = f -/
/-- what __init__ does of a fresh error -/
def spKeep (f : Str) (C : Addr) : Sp := fun vs H Q _ => ∃ (a : Addr) (v : V), vs = [.ref a, v] ∧ H a = some (exo a C none) ∧ ∀ dx, H dx = none → dx ≠ a → Q .non (upd (upd H dx (exd dx [(f, v)])) a (exo a C (some dx)))
structure ErrC (K : PySem.W.Frag) (mg : Str → Option Value) (x f : Str) (C fI : Addr) (fd : FuncData) : Prop where
  g : mg x = some (.ref C)
  ox : OexC K C
  no : PySem.W.findIn K (.ref C) f = some none
  iC : PySem.W.findIn K (.ref C) "__init__" = some (some (.ref fI))
  tI : PySem.W.typeIn K (.ref fI) = some (.type "function")
  b : Binds K fd ["self", f] []
  xf : XfC K C
  ex : ExcC K C
  te : PySem.W.exmOne K (.ref C) (.ref C) = some true
section
variable {X : Cx} {x f : Str} {C fI : Addr} {fd : FuncData} {k : Nat} {e : Expr} {es : List Expr} {ta : TA} {p pos : Pos}
/-- C(e), to be raised -/
theorem pmk_err (T : ErrC X.K X.mg x f C fI fd) (F1 : FnOk X.prog X.w X.K X.mg X.base CX0 k fI fd ["self", f] (spKeep f C)) (hr : Room (k + 1) X.A) (ha : PA X (e :: es) ta) (hg : Gl X x := by rfl) (hdb : (x == ("__debug__" : Str)) = false := by decide)
    (he : starEach (e :: es) X.env = (false, eval e X.env) :: starEach es X.env := by rfl) (hpl : (backTo pos (starEach es X.env)).any (·.1) = false := by rfl) : PMk X (.Call (.Name x p) (e :: es) [] pos) (tMkO C (spKeep f C) [] ta) :=
  pmk_oex T.ox T.iC T.tI F1 hr T.b .nil (fun _ _ _ _ _ _ _ z => z.elim) hg T.g ha hdb he hpl
/-- the end of its reading -/
theorem keep_end {H1 : Hp} {v : V} {Q : XK} (q : ∀ d H2, Same H1 H2 → H1 d = none → H2 d = some (.xd [(f, v)]) → Q (.ref C) (some d) H2) : ([v] : List V).length ≤ 1000 ∧ ∀ a, H1 a = none → spKeep f C (.ref a :: ([v] ++ [])) (upd H1 a (exo a C none))
    (fun v H2 => v = .non ∧ ∃ (d : Addr) (fs : List (Str × V)), H2 a = some (exo a C (some d)) ∧ H2 d = some (exd d fs) ∧ H1 d = none ∧ Q (.ref C) (some d) (upd (del H2 a) d (.xd fs))) (fun _ _ _ => False) := by
  refine ⟨by show 1 ≤ 1000; decide, fun a na => ⟨a, v, rfl, upd_same, fun dx nd ne => ⟨rfl, dx, [(f, v)], upd_same, ?_, ?_, ?_⟩⟩⟩
  · rw [upd_ne ne, upd_same]
  · rw [upd_ne ne] at nd
    exact nd
  · rw [upd_ne ne] at nd
    refine q dx _ (fun b o eb => ?_) nd upd_same
    have b1 : b ≠ dx := ne_of_none eb nd
    have b2 : b ≠ a := ne_of_none eb na
    rw [upd_ne b1, del_ne b2, upd_ne b2, upd_ne b1, upd_ne b2]
    exact eb
/-- isinstance(e, c), e the error in hand whose own dict is dd -/
def rIsEx (K : PySem.W.Frag) (D a dd : Addr) : List V → Hp → VK → Prop := fun xs H Q => ∃ (c : V) (cv : Value) (b : Bool) (fs : List (Str × V)), xs = [.ref a, c] ∧ (∀ u, RelV c u → u = cv) ∧ PySem.W.kitOne K (.ref D) cv = some b ∧ H dd = some (.xd fs) ∧ Q (.bl b) H
theorem call_isEx {a D : Addr} {o : Obj} {cls : Value} {d : Option Addr} {ps : List (Addr × Obj)} (T : ExcC X.K D) (hz : Zc cls d o) (hf : ∃ vs, o.data = .fields vs) :
    CallR (X.suite a ((a, o) :: ps)) (.builtin "isinstance") (fun xs H Q => ∃ dd, cls = .ref D ∧ d = some dd ∧ rIsEx X.K D a dd xs H Q) := by
  intro pins s σ H xs us Q I r h
  obtain ⟨dd, rfl, rfl, c, cv, b, fs, rfl, hcv, hk, hd, q⟩ := h
  obtain ⟨u1, u2, rfl, r1, r2⟩ := vals2 r
  obtain rfl := hcv u2 r2
  cases r1
  obtain ⟨ga, _⟩ := I.pin (a, o) (List.mem_append_left _ List.mem_cons_self)
  obtain ⟨vs, ef⟩ := hf
  obtain ⟨mA, hns, _⟩ := (show ObjOk X.prog X.w H s.heap dd (.xd fs) from I.hok dd _ hd)
  obtain ⟨od, ho, _⟩ := lookIn_ns hns
  have J : PySem.W.InstAt s.heap a o D (some od) := ⟨ga, hz.1, by unfold PySem.W.notCls; rw [ef], by rw [hz.2]; exact ho⟩
  have hc : (PySem.W.clsIn X.K D).isSome = true := by
    have := T.hd
    unfold PySem.W.hasDictIn at this
    cases e : PySem.W.clsIn X.K D with
    | none => rw [e] at this; cases this
    | some => rfl
  exact PySem.W.kia_one (PySem.W.kitx_exc hc T.hg T.hk T.hs T.ha T.hn T.ht T.hm) I.kIn J hk (fun z => nomatch z) fun tk => ⟨.bl b, H, I.kept (t' := tk) fun _ _ z => z, rfl, q⟩
end
end RK

namespace RK
open PySem PySem.Spec PyProof.Rows L2 HotX
/-! ### the end of a walk over a list or a tuple while an error is handled -/
section
variable {prog : Program} {w : World} {A : Around} {E : Value → Shared → Prop} {s : Shared}
theorem next_list_hot {it l x1 : Addr} {i : Nat} {items : Array Value} {Q : Option Value → Shared → Prop} (hot : HotAt A x1 s.heap) (ne : x1 ≠ it) (hit : s.heap.IsListIter it l i) (hl : s.heap.IsList l items) (hx : items[i]? = none)
    (hQ : ∀ h', (∀ b o, b ≠ it → s.heap.get? b = some o → h'.get? b = some o) → Q none { s with heap := h' }) : wpAny (model prog w) A (pyNext (.ref it)) Q E s := by
  obtain ⟨hh, o1, vs1, h1, d1, c1⟩ := hot
  obtain ⟨oi, gi, ci, di⟩ := id hit
  obtain ⟨ol, gl, _, nl, dl⟩ := hl
  unfold pyNext
  refine wpAny_bind (wpAny_attempt (wpAny_callSpecial?_slot (name := "__next__") hit.typeIs slot_listiter_next (wpAny_call_entry slot_listiter_next hit.typeIs entry_listiter_next ?_ (args_listiter_next _))))
  refine wpAny_bind (m := field (.ref it) 0) (wpAny_field gi di (x := .ref l) rfl ?_)
  refine (if_neg (Bool.false_ne_true : ¬ ((Value.ref l == Value.none) = true))).symm ▸ ?_
  refine wpAny_bind (m := field (.ref it) 1) (wpAny_field gi di (x := .int i 0) rfl (wpAny_bind (m := seqItems? (.ref l)) (wpAny_seqItems gl dl ?_)))
  simp only [Int.toNat_natCast, hx]
  refine wpAny_bind (wpAny_rule (wpAny_bind (wpAny_setField gi di (by simp) (wpAny_bind (m := newExc (.type "StopIteration") []) ?_))))
  simp only [newExc, newTuple]
  refine wpAny_bind (wpAny_newObj_type (wpAny_bind (m := firstArgMember _ _) (wpAny_of_eq (a := Value.none) (by first | rfl | (simp only [firstArgMember]; rfl)) (wpAny_newObj_type ?_ (by size_fits)))) (by size_fits))
  have k0 : ∀ b o, b ≠ it → s.heap.get? b = some o → (s.heap.update it (Obj.mapFields (·.setIfInBounds 0 Value.none))).get? b = some o := fun b o n e => by
    rw [Heap.get?_update_other _ _ (Ne.symm n)]; exact e
  have u1 := Heap.get?_push_of_some { cls := .type "tuple", data := .seq #[] } (k0 _ _ ne h1)
  refine raiseNew_hot ⟨hh, o1, vs1, Heap.get?_push_of_some _ u1, d1, c1⟩ (Nat.ne_of_lt (Heap.lt_size u1)) (Heap.get?_push_size _ rfl) rfl (by first | (simp; done) | (simp; omega)) (wpAny_bind (wpAny_isInstance (T := "StopIteration") (b := true) ⟨_, Heap.get?_update_self _ (Heap.get?_push_size _ rfl) rfl, rfl⟩ isSubtype_stop (wpAny_pure (hQ _ fun b o n e => ?_))))
  have u2 := Heap.get?_push_of_some { cls := .type "tuple", data := .seq #[] } (k0 _ _ n e)
  rw [Heap.get?_update_other _ _ (Nat.ne_of_gt (Heap.lt_size u2))]; exact Heap.get?_push_of_some _ u2
theorem next_tuple_hot {it l x1 : Addr} {i : Nat} {items : Array Value} {Q : Option Value → Shared → Prop} (hot : HotAt A x1 s.heap) (ne : x1 ≠ it) (hit : s.heap.IsTupleIter it l i) (hl : s.heap.IsTuple l items) (hx : items[i]? = none)
    (hQ : ∀ h', (∀ b o, b ≠ it → s.heap.get? b = some o → h'.get? b = some o) → Q none { s with heap := h' }) : wpAny (model prog w) A (pyNext (.ref it)) Q E s := by
  obtain ⟨hh, o1, vs1, h1, d1, c1⟩ := hot
  obtain ⟨oi, gi, ci, di⟩ := id hit
  obtain ⟨ol, gl, _, nl, dl⟩ := hl
  unfold pyNext
  refine wpAny_bind (wpAny_attempt (wpAny_callSpecial?_slot (name := "__next__") hit.typeIs F.slot_tuple_iterator_next (wpAny_call_entry F.slot_tuple_iterator_next hit.typeIs F.entry_tuple_iterator_next ?_ (F.args_tuple_iterator_next_1 _))))
  refine wpAny_bind (m := field (.ref it) 0) (wpAny_field gi di (x := .ref l) rfl ?_)
  refine (if_neg (Bool.false_ne_true : ¬ ((Value.ref l == Value.none) = true))).symm ▸ ?_
  refine wpAny_bind (m := field (.ref it) 1) (wpAny_field gi di (x := .int i 0) rfl (wpAny_bind (m := seqItems? (.ref l)) (wpAny_seqItems gl dl ?_)))
  simp only [Int.toNat_natCast, hx]
  refine wpAny_bind (wpAny_rule (wpAny_bind (wpAny_setField gi di (by simp) (wpAny_bind (m := newExc (.type "StopIteration") []) ?_))))
  simp only [newExc, newTuple]
  refine wpAny_bind (wpAny_newObj_type (wpAny_bind (m := firstArgMember _ _) (wpAny_of_eq (a := Value.none) (by first | rfl | (simp only [firstArgMember]; rfl)) (wpAny_newObj_type ?_ (by size_fits)))) (by size_fits))
  have k0 : ∀ b o, b ≠ it → s.heap.get? b = some o → (s.heap.update it (Obj.mapFields (·.setIfInBounds 0 Value.none))).get? b = some o := fun b o n e => by
    rw [Heap.get?_update_other _ _ (Ne.symm n)]; exact e
  have u1 := Heap.get?_push_of_some { cls := .type "tuple", data := .seq #[] } (k0 _ _ ne h1)
  refine raiseNew_hot ⟨hh, o1, vs1, Heap.get?_push_of_some _ u1, d1, c1⟩ (Nat.ne_of_lt (Heap.lt_size u1)) (Heap.get?_push_size _ rfl) rfl (by first | (simp; done) | (simp; omega)) (wpAny_bind (wpAny_isInstance (T := "StopIteration") (b := true) ⟨_, Heap.get?_update_self _ (Heap.get?_push_size _ rfl) rfl, rfl⟩ isSubtype_stop (wpAny_pure (hQ _ fun b o n e => ?_))))
  have u2 := Heap.get?_push_of_some { cls := .type "tuple", data := .seq #[] } (k0 _ _ n e)
  rw [Heap.get?_update_other _ _ (Nat.ne_of_gt (Heap.lt_size u2))]; exact Heap.get?_push_of_some _ u2
end
/-! ### walks over lists and tuples there -/
section
variable {P : Program} {w : World} {K : PySem.W.Frag} {tg : Expr} (a it : Addr)
theorem turn_listH : L2H.TurnH P w K tg (Itl K a) [it] it (fun i h => h.IsListIter it a i) := by
  have T : Turn P w K tg (Itl K a) [it] it (fun i h => h.IsListIter it a i) := turn_list a it
  refine ⟨T.mem, T.obj, T.keep, ?_, ?_, T.self⟩
  · rintro X rfl rfl rfl - i pins s σ H E I hf st ⟨xs, x, hq, hx⟩
    obtain ⟨its, rv, pl, _⟩ := I.list hq
    obtain ⟨u, hu, ru⟩ := rv.get hx
    obtain ⟨g0, g1, g2, g3, g4, g5⟩ := hf it T.mem
    refine wpAny_pyNext_list_item st pl.isList (x := u) (by simpa using hu) fun h2 st2 sb => ⟨u, rfl, ?_⟩
    obtain ⟨o, eo, co, dd⟩ := id st2
    refine go_of (s := { s with heap := h2 }) eo co dd (by decide) ⟨x, H, I.turned (t' := s.toks) (fun b ob hb e => (sb.2 b hb).trans e) g0 g1 g3 g4 g5, ru, ⟨rfl, fun ys hy => ?_⟩, st2, fun b hb => (hf b hb).1⟩
    rw [I.list_inj hy hq, hx]
  · rintro X rfl rfl rfl hc i pins s σ H E I hf st ⟨xs, hq, hx⟩
    obtain ⟨its, rv, pl, _⟩ := I.list hq
    obtain ⟨g0, g1, g2, g3, g4, g5⟩ := hf it T.mem
    obtain ⟨p, ⟨hh, vs1, d1, c1⟩, hp⟩ := hc
    have P1 := I.pin p (List.mem_append_left _ hp)
    have hl := rv.length
    exact next_list_hot ⟨hh, p.2, vs1, P1.1, d1, c1⟩ (g5 p (List.mem_append_left _ hp)) st pl.isList (by simp; omega) fun h2 eb => ⟨rfl, I.turned (t' := s.toks) (fun b ob hb e => eb b ob hb e) g0 g1 g3 g4 g5⟩
theorem turn_tupleH : L2H.TurnH P w K tg (Itt K a) [it] it (fun i h => h.IsTupleIter it a i) := by
  have T : Turn P w K tg (Itt K a) [it] it (fun i h => h.IsTupleIter it a i) := turn_tuple a it
  refine ⟨T.mem, T.obj, T.keep, ?_, ?_, T.self⟩
  · rintro X rfl rfl rfl - i pins s σ H E I hf st ⟨xs, x, hq, hx⟩
    obtain ⟨its, rv, pl, _⟩ := I.tuple hq
    obtain ⟨u, hu, ru⟩ := rv.get hx
    obtain ⟨g0, g1, g2, g3, g4, g5⟩ := hf it T.mem
    refine wpAny_pyNext_tuple_item st (show s.heap.IsTuple a its.toArray from pl) (x := u) (by simpa using hu) fun h2 st2 sb => ⟨u, rfl, ?_⟩
    obtain ⟨o, eo, co, dd⟩ := id st2
    refine go_of (s := { s with heap := h2 }) eo co dd (by decide) ⟨x, H, I.turned (t' := s.toks) (fun b ob hb e => (sb.2 b hb).trans e) g0 g1 g3 g4 g5, ru, ⟨rfl, fun ys hy => ?_⟩, st2, fun b hb => (hf b hb).1⟩
    rw [I.tuple_inj hy hq, hx]
  · rintro X rfl rfl rfl hc i pins s σ H E I hf st ⟨xs, hq, hx⟩
    obtain ⟨its, rv, pl, _⟩ := I.tuple hq
    obtain ⟨g0, g1, g2, g3, g4, g5⟩ := hf it T.mem
    obtain ⟨p, ⟨hh, vs1, d1, c1⟩, hp⟩ := hc
    have P1 := I.pin p (List.mem_append_left _ hp)
    have hl := rv.length
    exact next_tuple_hot ⟨hh, p.2, vs1, P1.1, d1, c1⟩ (g5 p (List.mem_append_left _ hp)) st (show s.heap.IsTuple a its.toArray from pl) (by simp; omega) fun h2 eb => ⟨rfl, I.turned (t' := s.toks) (fun b ob hb e => eb b ob hb e) g0 g1 g3 g4 g5⟩
end
section
variable {X : Cx} {tg l : Expr} {tl : TE}
theorem pi_listH (hl : PE X l tl) : L2H.PIH X tg l (iList X.K tl) := by
  refine ⟨fun pins s σ H R I h => thn (hl.run pins s σ H _ I h) fun v s1 ⟨x, H1, I1, r1, a, ex, ⟨xs, hq⟩, q⟩ => ?_⟩
  subst ex; cases r1
  obtain ⟨its, rv, pl, _⟩ := I1.list hq
  refine wpAny_pyIter_list pl.isList ⟨s1.heap.objs.size, [s1.heap.objs.size], _, _, H1, rfl, I1.kept (t' := s1.toks) fun b o e => Heap.get?_push_of_some _ e, turn_listH a _, ⟨_, Heap.get?_push_size _ rfl, rfl, rfl⟩, fun b hb => ?_, q⟩
  rw [List.mem_singleton.mp hb]
  exact I1.fpOk (Nat.le_refl _) (I1.hok.fresh (Nat.le_refl _))
theorem pi_tupH (hl : PE X l tl) : L2H.PIH X tg l (iTup X.K tl) := by
  refine ⟨fun pins s σ H R I h => thn (hl.run pins s σ H _ I h) fun v s1 ⟨x, H1, I1, r1, a, ex, ⟨xs, hq⟩, q⟩ => ?_⟩
  subst ex; cases r1
  obtain ⟨its, rv, pl, _⟩ := I1.tuple hq
  refine wpAny_pyIter_tuple (show s1.heap.IsTuple a its.toArray from pl) ⟨s1.heap.objs.size, [s1.heap.objs.size], _, _, H1, rfl, I1.kept (t' := s1.toks) fun b o e => Heap.get?_push_of_some _ e, turn_tupleH a _, ⟨_, Heap.get?_push_size _ rfl, rfl, rfl⟩, fun b hb => ?_, q⟩
  rw [List.mem_singleton.mp hb]
  exact I1.fpOk (Nat.le_refl _) (I1.hok.fresh (Nat.le_refl _))
theorem PIH_or {w1 w2 : TI} (h1 : L2H.PIH X tg l w1) (h2 : L2H.PIH X tg l w2) : L2H.PIH X tg l (fun σ H R => w1 σ H R ∨ w2 σ H R) :=
  ⟨fun pins s σ H R I h => h.elim (h1.run pins s σ H R I) (h2.run pins s σ H R I)⟩
end
/-! ### list comprehensions there: the block keeps the error that is handled among its pins -/
abbrev blkH (X : Cx) (s : Shared) (H : Hp) (scope : Scope) (ce : Env) (fp : List Addr) (p : Addr × Obj) : Cx := { X.blk s H scope ce fp with pn := [p] }
section
variable {X : Cx} {pins : List (Addr × Obj)} {s : Shared} {σ : L2.St} {H : Hp} {Q : VK} {elt tg iter : Expr} {ifs : List Expr} {scope : Scope} {own : List (Str × Nat)} {pos pos2 : Pos} {wi : TI} {g : TG} {tt : TT} {te : TE}
theorem okH {s3 : Shared} {ce : Env} {fp : List Addr} {p : Addr × Obj} (nc : X.calm = false) (ok : (X.blk s3 H scope ce fp).Ok) : (blkH X s3 H scope ce fp p).Ok :=
  ⟨ok.mod, ok.kind, ok.glob, ok.blt, ok.above, ok.inj, ok.has, ok.cab, fun z => absurd (nc.symm.trans z) Bool.false_ne_true, ok.frames, ok.stk, ok.exf, ok.bs, ok.bsz, ok.noex, ok.exfs, ok.funs, ok.frf⟩
theorem comp_hot {Qf : Value → Shared → Prop} (nc : X.calm = false) {p : Addr × Obj} (hot : L2H.Hot1 X.A p) (hp : p ∈ X.pn) (hN : X.N.Nodup) (I : Inv X pins σ H s) (hi : L2H.PIH X tg iter wi) (ok : BlkOk X.N X.env.scope scope own)
    (hg : ∀ s H C cl fp, PG (blkH X s H scope (compEnvC scope cl C X.env) fp p) tg g) (ht : ∀ s H C cl fp, PTs (blkH X s H scope (compEnvC scope cl C X.env) fp p) ifs tt)
    (he : ∀ s H C cl fp, PE (blkH X s H scope (compEnvC scope cl C X.env) fp p) elt te) (hs : ∀ x, foldedSetIterable iter X.env x = pure x) (h : tLc wi g tt te (own.map (·.2)) σ H Q)
    (hR : ∀ D C s' m H', Inv X pins σ H' s' → Q (.ref D) H' → s'.heap.Ns C m → FpOk X pins H' C → compPost (model X.prog X.w) X.A X.xe none Qf (.ref D) C (.ok .next) s') :
    wpAny (model X.prog X.w) X.A (comprehension (.ListComp elt [⟨tg, iter, ifs, 0⟩] scope pos) scope X.env pos2 (newList []) false (eval iter X.env) none) Qf X.xe s := by
  have free : ∀ y ∈ scope.names, y.2 = .free → ∃ c, X.env.cells.lookup y.1 = some c := fun y hy e => I.ok.has _ (ok.free y hy e)
  refine wpAny_comprehension_free (use := none) rfl hs (closure_ok free) ok.kind (fun y hy e => (ok.uniq y hy).trans (congrArg some e)) (thn (hi.run pins s σ H _ I h) fun _ t1 hx => thn hx fun _ t2 ⟨it, fp, tn, J, H2, ei, I2, T, st2, f2, q⟩ => ?_)
  subst ei
  refine wpAny_newObj_type (newEnv_comp ?_) (Nat.zero_le _)
  have nD : H2 t2.heap.objs.size = none := I2.hok.fresh (Nat.le_refl _)
  obtain ⟨W, ⟨m0, w0⟩, turn⟩ := q _ nD
  generalize eD : t2.heap.objs.size = D at nD w0 turn ⊢
  generalize e3 : ({ t2 with heap := t2.heap.push { cls := .type "list", data := .seq ([] : List Value).toArray } } : Shared) = t3
  have hp3 : t3.heap = t2.heap.push { cls := .type "list", data := .seq ([] : List Value).toArray } := by rw [← e3]
  have I3 : Inv X pins σ (upd H2 D (.lst [])) t3 := by
    rw [← e3]
    exact I2.laid (t' := t2.toks) (fun b o e => Heap.get?_push_of_some _ e) (Nat.le_of_eq eD) ⟨Nat.zero_le _, [], 0, .nil, by rw [← eD]; exact Heap.get?_push_size _ rfl⟩
  have f3 : ∀ b ∈ fp, FpOk X pins (upd H2 D (.lst [])) b ∧ b < t3.heap.objs.size := fun b hb => by
    obtain ⟨o, eo, _⟩ := T.obj _ _ st2 b hb
    have lt : b < D := by rw [← eD]; exact Heap.lt_size eo
    exact ⟨⟨(upd_ne (Nat.ne_of_lt lt)).trans (f2 b hb).1, (f2 b hb).2⟩, by rw [hp3, Heap.size_push, eD]; exact Nat.lt_succ_of_lt lt⟩
  have I4 := block_start I3 ok hN f3
  have P3 := I3.pin p (List.mem_append_left _ hp)
  have pS : p.1 ∉ frs X.stack := fun hm => (List.mem_cons.mp (I3.stkSub p.1 hm)).elim P3.2.2.1 P3.2.2.2.1
  have pg := hg t3 (upd H2 D (.lst [])) t3.heap.objs.size (cellsFrom (t3.heap.objs.size + 1) scope.names (cloFrom X.env.cells scope.names [])) fp
  have pt := ht t3 (upd H2 D (.lst [])) t3.heap.objs.size (cellsFrom (t3.heap.objs.size + 1) scope.names (cloFrom X.env.cells scope.names [])) fp
  have pe := he t3 (upd H2 D (.lst [])) t3.heap.objs.size (cellsFrom (t3.heap.objs.size + 1) scope.names (cloFrom X.env.cells scope.names [])) fp
  show codeAny _ _ (.compStart _ 0 (.ref it) (.ref D) (compEnvC scope (cellsFrom (t3.heap.objs.size + 1) scope.names (cloFrom X.env.cells scope.names [])) t3.heap.objs.size X.env)) (compPost _ X.A X.xe none Qf (.ref D) t3.heap.objs.size) { t3 with heap := pushCells (t3.heap.push { cls := .type "dict", data := .dict #[] }) scope.names }
  have nfp : ∀ b ∈ fp, (upd H2 D (.lst [])) b = none := fun b hb => (f3 b hb).1.1
  generalize hce : compEnvC scope (cellsFrom (t3.heap.objs.size + 1) scope.names (cloFrom X.env.cells scope.names [])) t3.heap.objs.size X.env = ce at I4 pg pt pe ⊢
  have cL : ce.locals = t3.heap.objs.size := by rw [← hce]; rfl
  generalize hH3 : upd H2 D (.lst []) = H3 at I3 I4 P3 pg pt pe w0 nfp f3
  generalize hs4 : ({ t3 with heap := pushCells (t3.heap.push { cls := .type "dict", data := .dict #[] }) scope.names } : Shared) = t4 at I4 ⊢
  have k4 : ∀ b o, t3.heap.get? b = some o → t4.heap.get? b = some o := fun b o e => by rw [← hs4]; exact pushCells_keeps _ _ _ _ (Heap.get?_push_of_some _ e)
  have k3 : ∀ b o, t2.heap.get? b = some o → t4.heap.get? b = some o := fun b o e => k4 b o (by rw [hp3]; exact Heap.get?_push_of_some _ e)
  have st4 : tn 0 t4.heap := T.keep _ _ _ st2 fun b _ o e => k3 b o e
  have J4 : Inv (blkH X t3 H3 scope ce fp p) [] (wipe σ (own.map (·.2))) H3 t4 := ⟨okH nc I4.ok, I4.os, I4.bare, I4.base, I4.loc, I4.cell, I4.free, I4.freeC, fun r hr => by
    have er : r = p := by simpa using hr
    subst er
    exact ⟨k4 _ _ P3.1, P3.2.1, by rw [show (blkH X t3 H3 scope ce fp r).env.locals = t3.heap.objs.size from cL]; exact Nat.ne_of_lt (Heap.lt_size P3.1), pS, P3.2.2.2.2⟩, I4.hok, I4.len⟩
  have hc : L2H.HotC (blkH X t3 H3 scope ce fp p) := ⟨p, hot, List.mem_cons_self⟩
  have stat : ∀ {σ' : L2.St} {H' : Hp} {s' : Shared}, Inv (blkH X t3 H3 scope ce fp p) [] σ' H' s' → (∀ b ∈ fp, H' b = none) → ∀ b ∈ fp, FpOk (blkH X t3 H3 scope ce fp p) [] H' b := fun I' hn b hb =>
    ⟨hn b hb, (I'.ok.exf b hb).1, I'.ok.exfs b hb, .inl hb, (I'.ok.exf b hb).2, fun r hr => by
      have er : r = p := by simpa using hr
      rw [er]
      exact (f2 b hb).2.2.2.2.2 p (List.mem_append_left _ hp)⟩
  have loop : codeAny (model X.prog X.w) X.A (.compLoop (.ListComp elt [⟨tg, iter, ifs, 0⟩] scope pos) 0 (.ref it) (.ref D) ce) (compPost (model X.prog X.w) X.A X.xe none Qf (.ref D) t3.heap.objs.size) t4 := by
    refine compLoop_any (fun n s' => ∃ i H', Inv (blkH X t3 H3 scope ce fp p) [] (wipe σ (own.map (·.2))) H' s' ∧ tn i s'.heap ∧ (∀ b ∈ fp, H' b = none) ∧ W i n H') (fun n t5 ⟨i, H5, I5, st5, n5, w5⟩ => ?_) m0 ⟨0, H3, J4, st4, nfp, w0⟩
    rcases turn i n H5 w5 with ⟨stop, qq⟩ | ⟨go, Nx, hNx, step⟩
    · refine thnF (T.done (blkH X t3 H3 scope ce fp p) rfl rfl rfl hc i [] t5 _ H5 (fun _ _ => False) I5 (stat I5 n5) st5 stop) fun r t6 ⟨er, I6⟩ => ?_
      subst er
      have I7 : Inv X pins σ H5 t6 := I3.call' (ch := fp) I6.os I6.base I6.hok I6.bare fun b hb => ⟨(f3 b hb).1.2.2.2.1, (f3 b hb).1.2.1, (f3 b hb).1.2.2.2.2.1, (f3 b hb).1.2.2.2.2.2⟩
      have nC : H5 t3.heap.objs.size = none := cL ▸ (I6.free : H5 ce.locals = none)
      obtain ⟨m, hn, _⟩ := I6.loc
      exact hR D _ t6 m H5 I7 qq (cL ▸ (hn : t6.heap.Ns ce.locals m)) (I3.fpOk (Nat.le_refl _) nC)
    · refine thnF (T.item (blkH X t3 H3 scope ce fp p) rfl rfl rfl hc i [] t5 _ H5 (fun _ _ => False) I5 (stat I5 n5) st5 go) fun r t6 ⟨u, er, h6⟩ => ?_
      subst er
      refine thnF h6 fun _ t7 ⟨x, H7, I7, r7, y7, st7, n7⟩ => thnF (pg.run _ t7 _ H7 x u _ (I7.pinned (stat I7 n7) (T.obj _ _ st7)) r7 (step x H7 y7)) fun _ t8 ⟨σ8, H8, I8, hw8, q8⟩ => thnF (pt.run _ t8 σ8 H8 _ I8 q8) fun b t9 ⟨H9, I9, q9⟩ => ?_
      have back : ∀ {s' : Shared} {H' : Hp}, Inv (blkH X t3 H3 scope ce fp p) ([] ++ pinsAt fp t7.heap) σ8 H' s' → Nx H' → ∃ m, m < n ∧ ∃ i H', Inv (blkH X t3 H3 scope ce fp p) [] (wipe σ (own.map (·.2))) H' s' ∧ tn i s'.heap ∧ (∀ b ∈ fp, H' b = none) ∧ W i m H' := fun {s' H'} I' nx => by
        obtain ⟨m', lt, w'⟩ := hNx H' nx
        have at_ : ∀ b ∈ fp, ∀ o, t7.heap.get? b = some o → s'.heap.get? b = some o ∧ H' b = none := fun b hb o e => ⟨(I'.pin (b, o) (.tail _ (mem_pinsAt hb e))).1, (I'.pin (b, o) (.tail _ (mem_pinsAt hb e))).2.1⟩
        refine ⟨m', lt, i + 1, H', (I'.unpinned (pins := [])).weak (by rw [← hw8, wipe_length]) (fun j v e => (wipe_some (hw8 ▸ e)).1), T.keep _ _ _ st7 fun b hb o e => (at_ b hb o e).1, fun b hb => ?_, w'⟩
        exact let ⟨o, e, _⟩ := T.obj _ _ st7 b hb; (at_ b hb o e).2
      cases b with
      | false => exact back I9 q9
      | true => exact thnF (pe.run _ t9 σ8 H9 _ I9 q9) fun z t10 ⟨yv, H10, I10, r10, acc, d10, z10, nx⟩ => app_ok (X := blkH X t3 H3 scope ce fp p) I10 d10 z10 r10 fun t11 I11 => back I11 nx
  exact codeAny_compStart_list loop (T.self X.A 0 _ _ _ st4 loop)
theorem pe_lcH (nc : X.calm = false) {p : Addr × Obj} (hot : L2H.Hot1 X.A p) (hp : p ∈ X.pn) (hN : X.N.Nodup) (hi : L2H.PIH X tg iter wi) (ok : BlkOk X.N X.env.scope scope own)
    (hg : ∀ s H C cl fp, PG (blkH X s H scope (compEnvC scope cl C X.env) fp p) tg g) (ht : ∀ s H C cl fp, PTs (blkH X s H scope (compEnvC scope cl C X.env) fp p) ifs tt)
    (he : ∀ s H C cl fp, PE (blkH X s H scope (compEnvC scope cl C X.env) fp p) elt te) (hs : ∀ x, foldedSetIterable iter X.env x = pure x := by intro _; rfl) : PE X (.ListComp elt [⟨tg, iter, ifs, 0⟩] scope pos) (tLc wi g tt te (own.map (·.2))) := by
  refine ⟨fun pins s σ H Q I h => ?_⟩
  rw [eval_ListComp]
  exact comp_hot nc hot hp hN I hi ok hg ht he hs h fun D C s2 m H2 I2 q hn f => ⟨m, hn, fun h2 sb => ⟨.ref D, H2, I2.turned (t' := s2.toks) (fun b o hb e => (sb.2 b hb).trans e) f.1 f.2.1 f.2.2.2.1 f.2.2.2.2.1 f.2.2.2.2.2, rfl, q⟩⟩
end
/-! ### errors raised where nothing is handled, their context None -/
section
variable {X : Cx} {x f : Str} {C fI : Addr} {fd : FuncData} {k : Nat} {e : Expr} {ta : TA} {p pos : Pos}
theorem pmk_errN (T : ErrC X.K X.mg x f C fI fd) (F1 : FnOk X.prog X.w X.K X.mg X.base CX0 k fI fd ["self", f] (spKeep f C)) (hr : Room (k + 1) X.A) (ha : PA X [e] ta) (hg : Gl X x := by rfl) (hdb : (x == ("__debug__" : Str)) = false := by decide)
    (he : starEach [e] X.env = (false, eval e X.env) :: starEach [] X.env := by rfl) (hpl : (backTo pos (starEach [] X.env)).any (·.1) = false := by rfl) : L2N.PMk X (.Call (.Name x p) [e] [] pos) (tMkO C (spKeep f C) [] ta) := by
  intro pins s σ H Q I h
  obtain ⟨nm, q, N, bs, bm, sn, sub, ab, col, dd, k0, k1, k2, k3, k5, lkC, vbm⟩ := T.ox.cls
  refine wpAny_Call_Name_kw (ld_glob I hg T.g (PySem.W.callWith_K (h₀ := X.base) I.ok.mod.kin T.ox.kC (thn (ha.run pos pins s σ H _ I h) fun us s1 ⟨vs, H1, I1, r1, lv, q1⟩ => ⟨I1.kIn, ?_⟩) he hpl) hdb)
  obtain ⟨hp, g, dr, tk, os⟩ := s1
  generalize ea : hp.objs.size + 1 = a
  have ge : hp.objs.size ≤ a := by omega
  have hq := q1 a (I1.hok.fresh ge)
  have kk : ∀ b o, hp.get? b = some o → ((hp.push (PySem.W.kdv_tup us)).push (PySem.HandSPX.excO C hp.objs.size)).get? b = some o := fun b o z => Heap.get?_push_of_some _ (Heap.get?_push_of_some _ z)
  have ga : ((hp.push (PySem.W.kdv_tup us)).push (PySem.HandSPX.excO C hp.objs.size)).get? a = some (PySem.HandSPX.excO C hp.objs.size) := by rw [← ea]; heap_get
  have I2 : Inv X pins σ (upd H1 a (exo a C none)) ⟨(hp.push (PySem.W.kdv_tup us)).push (PySem.HandSPX.excO C hp.objs.size), g, dr, tk, os⟩ := I1.laid (t' := tk) (o := exo a C none) kk ge (exo_ok ga)
  have r2 : Vals (V.ref a :: (vs ++ [])) (Value.ref a :: (us ++ [])) := .cons rfl (r1.append .nil)
  have lu : us.length ≤ sizeLine := by
    have := Paired.length r1; have : (1000 : Nat) ≤ sizeLine := by decide
    omega
  have ll : (Value.ref a :: us ++ []).length = (["self", f] : List Str).length := (r2.length).symm.trans (F1.len _ _ _ _ hq)
  have bb := T.b ⟨(hp.push (PySem.W.kdv_tup us)).push (PySem.HandSPX.excO C hp.objs.size), g, dr, tk, os⟩ (Value.ref a :: us) I2.kIn ll
  subst ea
  refine wpAny_call (PySem.HandSPX.call_own F.excBase_ValueError (fun Y => PySem.HandSPX.refsVE_contains Y bm vbm) (I1.kIn _ _ lkC) (PySem.W.looks_findIn I1.kIn T.iC) (fun self => PySem.W.bind_fn I1.kIn self T.tI) lu
    (codeAny_mono (F1.run _ X.stack _ _ ⟨Value.ref _ :: us, []⟩ _ _ _ (fun _ _ _ => False) (hr.make C us []) (I2.env0.make C us []) bb r2 hq) fun r s2 z => ?_))
  match r, z with
  | .error _, z => exact False.elim z
  | .ok .next, z => exact False.elim z
  | .ok .brk, z => exact False.elim z
  | .ok .cont, z => exact False.elim z
  | .ok (.ret u), ⟨v, H2, os2, bare2, un2, hok2, rv, ev, d, fs, e1, e2, e3, q2⟩ =>
    subst ev
    obtain ⟨h2, g2, d2, t2, os3⟩ := s2
    obtain ⟨t0, G, J, kG, gn, go, na⟩ := mk_end0 (d2 := d2) (t2 := t2) I1 ge kk un2 hok2 os2 bare2 e1 e2 e3
    exact ⟨rv, _, _, _, ⟨G, g2, d2, t2, os3⟩, _, .ref C, some d, rfl, J, kG, gn, go, ⟨rfl, rfl, fun vs z => by cases z; rfl⟩, rfl, rfl, na, rfl, bare2, raises_own T.ox.exC T.ox.tyC, q2⟩
/-- a def that may raise so -/
theorem Fun.okN {P : Program} {w : World} {K : PySem.W.Frag} {mg : Str → Option Value} {base : Heap} {x qual : Str} {st : Stmt} {f : Addr} {fd : FuncData} {N ps : List Str} {k : Nat} {sp : Sp} (F : Fun K x qual st f fd) (S : FnScope N ps (defScope st))
    (len : ∀ vs H Q E, sp vs H Q E → vs.length = ps.length) (body : ∀ (cdv : Value) (A : Around) (outer : List Env) (s : Shared) (H : Hp) (vs : List V) (Q : VK) (E : XK), Room k (A.deeper (envOfC qual (defScope st) s.heap.objs.size f cdv)) → sp vs H Q E →
      ∃ t, PSs (cxOf (L2N.CX P w) P w K mg base N qual (defScope st) f cdv A outer s H E) (defBody st) t ∧ t { nx := fun _ H' => Q .non H', rt := Q } (start N vs) H) : FnOk P w K mg base (L2N.CX P w) (k + 1) f fd ps sp := by
  obtain ⟨oc, od, kV, doc, pm, an, cdv, ct, osl, rfl, lk, hcd⟩ := F.ex
  exact fn_of lk hcd S len fun A outer s H vs Q E hr z => body cdv A outer s H vs Q E hr z
/-- a def called while an error is handled -/
theorem Fun.okH {P : Program} {w : World} {K : PySem.W.Frag} {mg : Str → Option Value} {base : Heap} {x qual : Str} {st : Stmt} {f : Addr} {fd : FuncData} {N ps : List Str} {k : Nat} {sp : Sp} (F : Fun K x qual st f fd) (S : FnScope N ps (defScope st))
    (len : ∀ vs H Q E, sp vs H Q E → vs.length = ps.length) (body : ∀ (cdv : Value) (A : Around) (outer : List Env) (s : Shared) (H : Hp) (vs : List V) (Q : VK) (E : XK) (p : Addr × Obj), L2H.Hot1 A p → L2H.RoomH k (A.deeper (envOfC qual (defScope st) s.heap.objs.size f cdv)) → sp vs H Q E →
      ∃ t, PSs (L2H.cxH CX0 P w K mg base N qual (defScope st) f cdv A outer s H E p).nox (defBody st) t ∧ t { nx := fun _ H' => Q .non H', rt := Q } (start N vs) H) : L2H.FnH P w K mg base CX0 (k + 1) f fd ps sp := by
  obtain ⟨oc, od, kV, doc, pm, an, cdv, ct, osl, rfl, lk, hcd⟩ := F.ex
  refine L2H.fn_ofH lk hcd S len fun A outer s H vs Q E p hot hr z => ?_
  obtain ⟨t, h1, h2⟩ := body cdv A outer s H vs Q E p hot hr z
  exact ⟨t, h1.nox, h2⟩
end
section
variable {X : Cx} {x n : Str} {c : Value} {i : Nat} {body suite : List Stmt} {hds : List ExceptHandler} {b₀ : Stmt} {np pos pos' : Pos} {tb : WX → TS} {ts : Addr → Value → Option Addr → TS} {pins : List (Addr × Obj)}
theorem ps_try_hitN (st : X.stack = X.env :: X.outer) (fr : X.env.frame = some X.env.locals) (ndN : X.N.Nodup) (ni : X.N[i]? = some n) (nl : X.env.kindOf n = some .local) (nc : Names X x c)
    (hB : ∀ (W : WX) (ps : List (Addr × Obj)) (xe : Value → Shared → Prop), L2N.Takes (X.tr ps xe) W → PassesOwn (model X.prog X.w) X.A X.env xe → PSs (X.tr ps xe) body (tb W))
    (hS : ∀ (a : Addr) (o : Obj) (cls : Value) (d : Option Addr) (ps : List (Addr × Obj)), L2N.Zn cls d o → (∃ vs, o.data = .fields vs) → PSs (X.suite a ((a, o) :: ps)) (b₀ :: suite) (ts a cls d)) :
    PS X (.Try body (.ExceptHandler (some (.Name x np)) (some n) (b₀ :: suite) pos' :: hds) [] [] pos) (fun D σ H => tb (wHit X.K c i ts D) D σ H) := by
  refine ⟨fun pins s σ H D I h => wpAny_Try_except ?_⟩
  have fr2 : X.A.frames = some (X.env :: X.outer) := I.ok.frames.trans (congrArg some st)
  refine wpAny_mono ((hB _ (X.pn ++ pins) (fun e s₁ => wpAny (model X.prog X.w) X.A (noteFrame e X.env) (fun _ s₂ => wpAny (model X.prog X.w) X.A (setFlight e none) (fun _ s₃ => wpAny (model X.prog X.w) X.A
    (handleBy e X.env (.ExceptHandler (some (.Name x np)) (some n) (b₀ :: suite) pos' :: hds)) (SP X pins D) X.xe s₃) X.xe s₂) X.xe s₁) (fun u t xx => ?_) PassesOwn.looking).run [] s σ H D (I.toTry _) h) (fun f t q => ?_) (fun _ _ z => z)
  case refine_2 =>
    have q' := flow_out (pins := pins) I.ok q
    cases f with
    | next => exact wpAny_execs_nil q'
    | _ => exact q'
  obtain ⟨a, B, t0, ps, σ1, H1, cls, d, eu, J0, nB, u1, sk, na, eo, bare, hit, go⟩ := xx
  subst eu
  have J := J0.ofTry I.ok
  rw [show (X.tr (X.pn ++ pins) _).stack = X.env :: X.outer from st] at sk
  refine L2N.Sky.land L2N.Zn.steady fr2 fr sk fun h3 f3 u3 => ?_
  have J3 : Inv X pins σ1 H1 { t with heap := h3 } := J.landed nB f3.1 (u1.trans u3) eo bare
  obtain ⟨o3, v3, g3, z3, d3⟩ := f3.there
  have out := no_frame f3.2.2.1 g3 d3
  have aL : a ≠ X.env.locals := fun e => out (List.mem_filterMap.mpr ⟨X.env, .head _, by rw [e]; exact fr⟩)
  have aF : a ∉ X.fs := fun m => out (by rw [show frs (X.env :: X.outer) = X.env.locals :: frs X.outer from List.filterMap_cons_some fr]; exact .tail _ m)
  refine wpAny_handleBy_cons (codeAny_handlers_test (names_it nc (J3.suite g3 d3 na aL aF) ?_)) (by intro z; cases z)
  refine (PySem.W.exm_one (M := model X.prog X.w) J3.kIn (fun _ _ _ _ k z => wpAny_typeOf_ref (k _ _ g3) (by rw [z3.1]; exact z)) hit).here ?_
  refine codeAny_handlers_suite_as (HandSPX.lands_againZ f3 fun h4 f4 u4 => ?_)
  have J4 : Inv X pins σ1 H1 { t with heap := h4 } := J.landed nB f4.1 ((u1.trans u3).trans u4) eo bare
  obtain ⟨o4, v4, g4, z4, d4⟩ := f4.there
  refine store_ok (X := Cx.suite X a ((a, o4) :: (X.pn ++ pins))) (v := .ref a) (J4.suite g4 d4 na aL aF) ndN ni (.inl nl) rfl (fun t5 S5 => ?_) (.inr nl)
  refine wpAny_mono ((hS a o4 cls d (X.pn ++ pins) z4 ⟨_, d4⟩).run [] t5 _ H1 _ S5 (go a na)) (fun f t6 q => ?_) (fun _ _ z => z.elim)
  cases f with
  | ret u => exact let ⟨v6, σ6, H6, S6, r6, q6⟩ := q; gone_ok (S6.unsuite I.ok) ndN ni nl fun t7 J7 => ⟨v6, _, H6, J7, r6, q6⟩
  | next => exact let ⟨σ6, H6, S6, q6⟩ := q; gone_ok (S6.unsuite I.ok) ndN ni nl fun t7 J7 => ⟨_, H6, J7, q6⟩
  | brk => exact let ⟨σ6, H6, S6, q6⟩ := q; gone_ok (S6.unsuite I.ok) ndN ni nl fun t7 J7 => ⟨_, H6, J7, q6⟩
  | cont => exact let ⟨σ6, H6, S6, q6⟩ := q; gone_ok (S6.unsuite I.ok) ndN ni nl fun t7 J7 => ⟨_, H6, J7, q6⟩
/-- the suite's context bears the error -/
theorem hot_suite {a : Addr} {o : Obj} {cls : Value} {d : Option Addr} {ps : List (Addr × Obj)} (z : L2N.Zn cls d o) (h : ∃ vs, o.data = .fields vs) : L2H.HotC (X.suite a ((a, o) :: ps)) :=
  let ⟨vs, e⟩ := h
  ⟨(a, o), ⟨rfl, vs, e, z.2.2 vs e⟩, List.mem_cons_self⟩
theorem passN : Passes (L2N.CX X.prog X.w) X E0 := fun _ _ _ _ _ _ _ h => let ⟨_, _, _, _, _, _, _, _, _, _, _, _, z⟩ := h; z.elim
/-- nothing leaves a suite -/
theorem pass_at0 {σ : L2.St} : PassesAt CX0 X σ (fun _ _ _ => False) := fun _ _ _ _ _ _ h => h.elim
end
theorem unitsH {k : Nat} {A : Around} (r : L2H.RoomH k A) : A.units + 64 < cLine := by
  have := r.un
  omega
end RK

namespace RK
open PySem PySem.Spec PyProof.Rows L2 PySem.Builtin.Str
/-! ### {n:04x} of a word -/
def hx (k : Nat) : Nat := if k < 10 then 48 + k else 87 + k
def hexd (n : Nat) : List Nat := [hx (n / 4096), hx (n / 256 % 16), hx (n / 16 % 16), hx (n % 16)]
theorem hx_char : ∀ k : _root_.Fin 16, (Nat.digitChar k.val).toNat = hx k.val := by decide +kernel
theorem tod16 {n : Nat} (h : n < 65536) : (Nat.toDigits 16 n).length ≤ 4 ∧ List.replicate (4 - (Nat.toDigits 16 n).length) 48 ++ (Nat.toDigits 16 n).map Char.toNat = hexd n := by
  have hc : ∀ k, k < 16 → (Nat.digitChar k).toNat = hx k := fun k hk => hx_char ⟨k, hk⟩
  have z : hx 0 = 48 := rfl
  have base : ∀ k, k < 16 → Nat.toDigits 16 k = [Nat.digitChar k] := fun k hk => Nat.toDigits_of_lt_base hk
  have step : ∀ k, 16 ≤ k → Nat.toDigits 16 k = Nat.toDigits 16 (k / 16) ++ [Nat.digitChar (k % 16)] := fun k hk => Nat.toDigits_of_base_le (by decide) hk
  unfold hexd
  by_cases h1 : n < 16
  · rw [base n h1, show n / 4096 = 0 by omega, show n / 256 % 16 = 0 by omega, show n / 16 % 16 = 0 by omega, show n % 16 = n by omega]
    refine ⟨show 1 ≤ 4 by decide, ?_⟩
    show List.replicate 3 48 ++ [(Nat.digitChar n).toNat] = _
    rw [hc n h1]
    rfl
  rw [step n (by omega)]
  by_cases h2 : n / 16 < 16
  · rw [base (n / 16) h2, show n / 4096 = 0 by omega, show n / 256 % 16 = 0 by omega, show n / 16 % 16 = n / 16 by omega]
    refine ⟨show 2 ≤ 4 by decide, ?_⟩
    show List.replicate 2 48 ++ [(Nat.digitChar (n / 16)).toNat, (Nat.digitChar (n % 16)).toNat] = _
    rw [hc _ h2, hc _ (Nat.mod_lt _ (by decide))]
    rfl
  rw [step (n / 16) (by omega)]
  by_cases h3 : n / 16 / 16 < 16
  · rw [base (n / 16 / 16) h3, show n / 4096 = 0 by omega, show n / 256 % 16 = n / 16 / 16 by omega]
    refine ⟨show 3 ≤ 4 by decide, ?_⟩
    show List.replicate 1 48 ++ [(Nat.digitChar (n / 16 / 16)).toNat, (Nat.digitChar (n / 16 % 16)).toNat, (Nat.digitChar (n % 16)).toNat] = _
    rw [hc _ h3, hc _ (Nat.mod_lt _ (by decide)), hc _ (Nat.mod_lt _ (by decide))]
    rfl
  rw [step (n / 16 / 16) (by omega), base (n / 16 / 16 / 16) (by omega), show n / 4096 = n / 16 / 16 / 16 by omega, show n / 256 = n / 16 / 16 by omega]
  refine ⟨show 4 ≤ 4 by decide, ?_⟩
  show List.replicate 0 48 ++ [(Nat.digitChar (n / 16 / 16 / 16)).toNat, (Nat.digitChar (n / 16 / 16 % 16)).toNat, (Nat.digitChar (n / 16 % 16)).toNat, (Nat.digitChar (n % 16)).toNat] = _
  rw [hc _ (by omega), hc _ (Nat.mod_lt _ (by decide)), hc _ (Nat.mod_lt _ (by decide)), hc _ (Nat.mod_lt _ (by decide))]
  rfl
section
variable {X : Cx}
open Builtin PySem.W Builtin.Float
abbrev sp4 : Str := ⟨#[48, 52, 120]⟩
theorem ret_text2 {M : Model} {A : Around} {E : Value → Shared → Prop} {s : Shared} {X T : PySem.Str} {Q : Fin → Shared → Prop} (e : X = T) (hL : T.length ≤ sizeLine) (h : ∀ t k, Q (.done (.ret (.str T t))) { s with toks := k }) : wpAny M A (retStr X) Q E s := by
  subst e
  exact KXf.ret_text rfl hL h
def f4 : Builtin.Float.FormatSpec := { fill := 48, align := 61, width := some 4, type := some 120 }
theorem fmt4_meets {n : Nat} (h : n < 65536) (t u : Tok) : Meets («int.__format__» ⟨[.int (n : Int) t, .str sp4 u], []⟩) (fun _ R s => ∀ t' k, R (.ok (.ret (.str (sO (hexd n)) t'))) { s with toks := k }) := by
  apply KPc.meets_of
  intro prog w A s Q E hq
  unfold Builtin.«int.__format__»
  refine wpAny_bind (wpAny_of_eq (a := (_, _)) rfl ?_)
  refine wpAny_bind (wpAny_of_eq (a := _) rfl ?_)
  refine wpAny_ite (KPc.ite_no Bool.false_ne_true ?_)
  refine wpAny_bind (wpAny_typeNameOf (T := "str") (typeIs_str _ _ _) (by decide) fun _ => ?_)
  refine wpAny_bind (wpAny_of_eq (a := some _) rfl ?_)
  refine wpAny_ite (KPc.ite_no (by decide) ?_)
  refine wpAny_ite (KPc.ite_no (by decide) ?_)
  refine wpAny_bind (wpAny_typeNameOfCut_int ?_)
  have hp : parseFormatSpec sp4.cps.toList "int" 62 = .ok f4 := rfl
  have hty : f4.type.getD (if (sp4.cps.back? == some 0) = true then 0 else 100) = 120 := rfl
  have h1 : f4.precision = none := rfl
  have h2 : f4.noNeg0 = false := rfl
  have h3 : f4.alt = false := rfl
  have h4 : f4.width = some 4 := rfl
  have h5 : f4.grouping = none := rfl
  have h6 : f4.sign = none := rfl
  have h7 : f4.fill = 48 := rfl
  have h8 : f4.align = 61 := rfl
  obtain ⟨f, hf⟩ : ∃ f, f = f4 := ⟨_, rfl⟩
  rw [← hf] at hp hty h1 h2 h3 h4
  simp only [hp, hty]
  rw [if_pos (by decide)]
  show wpAny _ _ (if _ then _ else _) _ _ _
  rw [if_neg (by simp [h1])]
  show wpAny _ _ (if _ then _ else _) _ _ _
  rw [if_neg (by simp [h2])]
  show wpAny _ _ (if _ then _ else _) _ _ _
  rw [if_neg (by decide)]
  show wpAny _ _ (if _ then _ else _) _ _ _
  rw [if_neg (by decide)]
  show wpAny _ _ (if _ then _ else _) _ _ _
  rw [if_neg (by simp [h4])]
  refine ret_text2 (T := sO (hexd n)) ?_ ?_ hq
  case refine_1 =>
    obtain ⟨hl, ht⟩ := tod16 h
    simp only [h3, Bool.false_eq_true, if_false, Int.natAbs_natCast, decide_eq_false (by omega : ¬ (n : Int) < 0), show ((120 : Nat) == 88) = false by decide, show ((16 : Nat) == 10) = false by decide]
    generalize Nat.toDigits 16 n = ds at hl ht
    subst hf
    conv => lhs; whnf
    simp only [h4, h5, h6, h7, h8, List.length_nil, Bool.false_eq_true, if_false, beq_self_eq_true, Bool.and_self, if_true]
    have e4 : ((4 : Nat) : Int) - (((0 : Nat) : Int) + ((0 : Nat) : Int) + ((0 : Nat) : Int)) = 4 := by decide
    rw [e4]
    clear h1 h2 h3 h4 h5 h6 h7 h8 hty hp hq
    cases ds with
    | nil =>
      show _ = sO (hexd n)
      rw [← ht]
      rfl
    | cons c r =>
      have hm : ((c :: r).map Char.toNat).length = (c :: r).length := List.length_map ..
      show (⟨(([] ++ [] ++ [] ++ List.replicate (4 - ((List.replicate (4 - ((c :: r).map Char.toNat).length) 48 ++ (c :: r).map Char.toNat).length : Int)).toNat 48 ++ (List.replicate (4 - ((c :: r).map Char.toNat).length) 48 ++ (c :: r).map Char.toNat)) ++ [] ++ []).toArray⟩ : Str) = _
      rw [hm, ht]
      rfl
  case refine_2 => exact Nat.le_trans (show 4 ≤ 100 by decide) (by decide)
/-- {e:04x} of a word -/
def tF4 (te : TE) : TE := fun σ H Q => te σ H fun x H1 => ∃ n : Nat, x = .int (n : Int) ∧ n < 65536 ∧ Q (.str (sO (hexd n))) H1
theorem pe_fmt4 {e spec : Expr} {te : TE} {pos : Pos} (he : PE X e te) (hs : PE X spec (tC (.str (Str.ofString "04x")))) : PE X (.FormattedValue e (-1) (some spec) pos) (tF4 te) := by
  refine ⟨fun pins s σ H Q I h => ?_⟩
  refine wpAny_FormattedValue_spec (thn (he.run pins s σ H _ I h) fun v s1 ⟨x, H1, I1, r1, q⟩ => ?_)
  obtain ⟨n, rfl, hn, q⟩ := q
  obtain ⟨t, rfl⟩ := r1
  refine thn (hs.run pins s1 σ H1 (fun x H2 => x = .str (Str.ofString "04x") ∧ Q (.str (sO (hexd n))) H2) I1 ⟨rfl, q⟩) fun u s2 ⟨y, H2, I2, r2, ey, q2⟩ => ?_
  subst ey
  obtain ⟨t2, rfl⟩ := r2
  refine ⟨_, _, rfl, KXf.field_int (spec' := sp4) (by decide +kernel) rfl (by decide) (fun u => fmt4_meets hn _ u) fun t' k => ⟨.str _, H2, I2.tok _, ⟨_, rfl⟩, q2⟩⟩
end
/-! digits -/
abbrev HXD : List Nat := (Str.ofString "0123456789abcdef").cps.toList
/-- a digit's value -/
def dv (c : Nat) : Nat := if c ≤ 57 then c - 48 else c - 87
theorem HXD_eq : HXD = (List.range 16).map hx := by decide +kernel
theorem hx_mem {k : Nat} (h : k < 16) : hx k ∈ HXD := by
  rw [HXD_eq]
  exact List.mem_map.mpr ⟨k, List.mem_range.mpr h, rfl⟩
theorem hxd_of {c : Nat} (h : c ∈ HXD) : ∃ k, k < 16 ∧ c = hx k := by
  rw [HXD_eq] at h
  obtain ⟨k, h1, h2⟩ := List.mem_map.mp h
  exact ⟨k, List.mem_range.mp h1, h2.symm⟩
theorem hx_dv : ∀ k : _root_.Fin 16, dv (hx k.val) = k.val := by decide +kernel
theorem hx_find : ∀ k : _root_.Fin 16, Txt.find (Str.ofString "0123456789abcdef") (sO [hx k.val]) = (k.val : Int) := by decide +kernel
theorem hx_occ : ∀ k : _root_.Fin 16, occurrences (Str.ofString "0123456789abcdef") (sO [hx k.val]) 0 (Str.ofString "0123456789abcdef").length 1 = [k.val] := by decide +kernel
theorem hx_at : ∀ k : _root_.Fin 16, (Str.ofString "0123456789abcdef").cps.toList[k.val]? = some (hx k.val) := by decide +kernel
theorem find_dv {c : Nat} (h : c ∈ HXD) : Txt.find (Str.ofString "0123456789abcdef") (sO [c]) = (dv c : Int) := by
  obtain ⟨k, hk, rfl⟩ := hxd_of h
  rw [hx_find ⟨k, hk⟩, hx_dv ⟨k, hk⟩]
theorem occ_dv {c : Nat} (h : c ∈ HXD) : occurrences (Str.ofString "0123456789abcdef") (sO [c]) 0 (Str.ofString "0123456789abcdef").length 1 = [dv c] := by
  obtain ⟨k, hk, rfl⟩ := hxd_of h
  rw [hx_occ ⟨k, hk⟩, hx_dv ⟨k, hk⟩]
/-- the first place that is no digit | the length, if it is no multiple of four -/
def fbad (l : List Nat) : Option Nat := match l.findIdx? (fun c => !decide (c ∈ HXD)) with
  | some i => some i
  | none => if l.length % 4 = 0 then none else some l.length
theorem fbad_at {l : List Nat} {i : Nat} (hi : i < l.length) (h : l.getD i 0 ∉ HXD) (hp : ∀ j, j < i → l.getD j 0 ∈ HXD) : fbad l = some i := by
  have e : l.findIdx? (fun c => !decide (c ∈ HXD)) = some i := by
    rw [List.findIdx?_eq_some_iff_getElem]
    refine ⟨hi, ?_, fun j hj => ?_⟩
    · rw [List.getD_eq_getElem?_getD, List.getElem?_eq_getElem hi] at h
      have h2 : l[i] ∉ HXD := h
      rw [decide_eq_false h2]
      rfl
    · have := hp j hj
      rw [List.getD_eq_getElem?_getD, List.getElem?_eq_getElem (by omega)] at this
      have h2 : l[j] ∈ HXD := this
      rw [decide_eq_true h2]
      decide
  unfold fbad
  rw [e]
theorem fbad_all {l : List Nat} (h : ∀ j, j < l.length → l.getD j 0 ∈ HXD) : fbad l = if l.length % 4 = 0 then none else some l.length := by
  have e : l.findIdx? (fun c => !decide (c ∈ HXD)) = none := by
    rw [List.findIdx?_eq_none_iff]
    intro c hc
    obtain ⟨j, hj, rfl⟩ := List.mem_iff_getElem.mp hc
    have := h j hj
    rw [List.getD_eq_getElem?_getD, List.getElem?_eq_getElem hj] at this
    have h2 : l[j] ∈ HXD := this
    rw [decide_eq_true h2]
    rfl
  unfold fbad
  rw [e]
theorem fbad_none {l : List Nat} (h : fbad l = none) : (∀ c ∈ l, c ∈ HXD) ∧ l.length % 4 = 0 := by
  unfold fbad at h
  cases e : l.findIdx? (fun c => !decide (c ∈ HXD)) with
  | some i => rw [e] at h; cases h
  | none =>
    rw [e] at h
    have h2 : (if l.length % 4 = 0 then none else some l.length) = none := h
    refine ⟨fun c hc => ?_, ?_⟩
    · have := List.findIdx?_eq_none_iff.mp e c hc
      apply Decidable.byContradiction
      intro z
      rw [decide_eq_false z] at this
      cases this
    · apply Decidable.byContradiction
      intro z
      rw [if_neg z] at h2
      cases h2
def val4 (l : List Nat) : Nat := l.foldl (fun a c => a * 16 + dv c) 0
theorem val4_app (l : List Nat) (c : Nat) : val4 (l ++ [c]) = val4 l * 16 + dv c := by
  unfold val4
  rw [List.foldl_append]
  rfl
/-- the words of a text of digits -/
def rdw (l : List Nat) : List Nat := (List.range (l.length / 4)).map fun k => val4 ((l.drop (4 * k)).take 4)
theorem val4_hexd {w : Nat} (h : w ≤ 65535) : val4 (hexd w) = w := by
  have e : ∀ k, k < 16 → dv (hx k) = k := fun k hk => hx_dv ⟨k, hk⟩
  show (((0 * 16 + dv (hx (w / 4096))) * 16 + dv (hx (w / 256 % 16))) * 16 + dv (hx (w / 16 % 16))) * 16 + dv (hx (w % 16)) = w
  rw [e _ (by omega), e _ (by omega), e _ (by omega), e _ (by omega)]
  omega
theorem flat_hexd (ws : List Nat) : (ws.flatMap hexd).length = 4 * ws.length := by
  induction ws with
  | nil => rfl
  | cons x r ih =>
    rw [List.flatMap_cons, List.length_append, ih, List.length_cons]
    show 4 + _ = _
    omega
theorem rdw_flat {ws : List Nat} (h : ∀ w ∈ ws, w ≤ 65535) : rdw (ws.flatMap hexd) = ws := by
  unfold rdw
  rw [flat_hexd, show 4 * ws.length / 4 = ws.length by omega]
  apply List.ext_getElem?
  intro i
  by_cases hi : i < ws.length
  · rw [List.getElem?_map, List.getElem?_range hi]
    have e : ∀ (ws : List Nat) (i : Nat), i < ws.length → ((ws.flatMap hexd).drop (4 * i)).take 4 = hexd (ws.getD i 0) := fun ws => by
      induction ws with
      | nil => intro i hi; exact absurd hi (Nat.not_lt_zero _)
      | cons x r ih =>
        intro i hi
        cases i with
        | zero => rfl
        | succ i =>
          rw [List.flatMap_cons, show 4 * (i + 1) = 4 * i + 4 by omega]
          have := ih i (by simpa using hi)
          show ((hexd x ++ _).drop (4 * i + 4)).take 4 = _
          rw [show 4 * i + 4 = (hexd x).length + 4 * i from by show _ = 4 + 4 * i; omega, List.drop_length_add_append]
          exact this
    show some (val4 _) = _
    rw [e ws i hi, List.getD_eq_getElem?_getD, List.getElem?_eq_getElem hi]
    exact congrArg some (val4_hexd (h _ (List.getElem_mem hi)))
  · rw [List.getElem?_eq_none (by simp; omega), List.getElem?_eq_none (by omega)]
theorem fbad_flat {ws : List Nat} (hw : ∀ w ∈ ws, w ≤ 65535) : fbad (ws.flatMap hexd) = none := by
  have hm : ∀ c ∈ ws.flatMap hexd, c ∈ HXD := fun c hc => by
    obtain ⟨w, h1, h⟩ := List.mem_flatMap.mp hc
    have := hw w h1
    unfold hexd at h
    rcases List.mem_cons.mp h with z | h
    · rw [z]; exact hx_mem (by omega)
    rcases List.mem_cons.mp h with z | h
    · rw [z]; exact hx_mem (by omega)
    rcases List.mem_cons.mp h with z | h
    · rw [z]; exact hx_mem (by omega)
    rw [List.mem_singleton.mp h]
    exact hx_mem (by omega)
  rw [fbad_all fun j hj => by rw [List.getD_eq_getElem?_getD, List.getElem?_eq_getElem hj]; exact hm _ (List.getElem_mem hj), flat_hexd, if_pos (by omega)]
theorem cut_mid (l : List Nat) (a b : Nat) (h : a ≤ b) : cutS (sO l) (some (a : Int)) (some (b : Int)) = sO ((l.drop a).take (b - a)) := by
  show (⟨((l.drop (HT.sIx l.length 0 (some (a : Int)))).take (HT.sIx l.length l.length (some (b : Int)) - HT.sIx l.length 0 (some (a : Int)))).toArray⟩ : Str) = _
  rw [HT.sIx_nat, HT.sIx_nat]
  have e : (l.drop (min a l.length)).take (min b l.length - min a l.length) = (l.drop a).take (b - a) := by
    by_cases h1 : a ≤ l.length
    · rw [Nat.min_eq_left h1]
      by_cases h2 : b ≤ l.length
      · rw [Nat.min_eq_left h2]
      · rw [Nat.min_eq_right (by omega), List.take_of_length_le (by rw [List.length_drop]; omega), List.take_of_length_le (by rw [List.length_drop]; omega)]
    · have h3 : min a l.length = l.length := by omega
      rw [h3, List.drop_length, List.drop_of_length_le (by omega)]
      simp
  rw [e]
  rfl
end RK

namespace RK
open PySem PySem.Spec PyProof.Rows L2 PySem.Builtin.Str
/-! ### enumerate(text) -/
def Itse (x : Str) : It := ⟨fun i _ => i < x.cps.size, fun i H v H' => ∃ T c, v = .ref T ∧ H T = none ∧ H' = upd H T (.tup [.int (i : Nat), .str ⟨#[c]⟩]) ∧ x.cps[i]? = some c, fun i _ => x.cps.size ≤ i⟩
theorem draws_str {prog : Program} {w : World} {A : Around} (hh : A.handled = none) (it : Addr) (x : Str) (t : Tok) :
    Draws prog w A it [it] x.cps.size (fun i v => ∃ c u, x.cps[i]? = some c ∧ v = .str ⟨#[c]⟩ u) (fun i h => h.IsStrIter it (strIterType x) x t i) := by
  unfold strIterType
  cases x.cps.all (· < 128)
  · exact Draws.strWide hh it x t
  · exact Draws.strAscii hh it x t
theorem turn_enumS {P : Program} {w : World} {K : PySem.W.Frag} {elts : List Expr} {kk : Nat} {tpos : Pos} (x : Str) (t : Tok) (e it : Addr) :
    Turn P w K (.Tuple elts kk tpos) (Itse x) [e, it] e (fun i h => (∃ old, IsEnum h e it ((i : Nat) : Int) old) ∧ h.IsStrIter it (strIterType x) x t i ∧ e ≠ it ∧ i ≤ x.cps.size) where
  mem := by simp
  obj := fun i h st b hb => by
    obtain ⟨⟨old, he⟩, ⟨o, ho, hc, hd⟩, _⟩ := st
    have e' : b = e ∨ b = it := by simpa using hb
    rcases e' with z | z
    · rw [z]; exact ⟨_, he, fun v q => nomatch q⟩
    · rw [z]; exact ⟨o, ho, fun v q => by rw [hd] at q; cases q⟩
  keep := fun i h h' st k => let ⟨⟨old, he⟩, ⟨o, ho, r⟩, hne, hle⟩ := st; ⟨⟨old, k e (by simp) _ he⟩, ⟨o, k it (by simp) o ho, r⟩, hne, hle⟩
  item := by
    intro X hP hw hK hc i pins s σ H E I hf st hg
    subst hP hw hK
    obtain ⟨⟨old, he⟩, hit, hne, hle⟩ := st
    have hel : e < s.heap.objs.size := Heap.lt_size he
    have hil : it < s.heap.objs.size := by obtain ⟨_, q, _⟩ := hit; exact Heap.lt_size q
    have D := draws_str (A := X.A.in1) (prog := X.prog) (w := X.w) (show X.A.in1.handled = none from I.ok.hd hc) it x t
    refine wpAny_pyNext_enum_itemD D he hit hg hne (by simpa using hne) fun u h' tk hu ho hit' hT hsz hk => ?_
    obtain ⟨c, tc, hcx, rfl⟩ := hu
    refine ⟨_, rfl, wpAny_letOwnedTupleGo_enum (s := { s with heap := h', toks := tk + 1 }) ho fun h'' he' sb => ?_⟩
    have hT2 : h''.get? s.heap.objs.size = some { cls := .type "tuple", data := .seq #[.int i tk, .str ⟨#[c]⟩ tc] } := (sb.2 _ (Nat.ne_of_gt hel)).trans hT
    have new : ObjOk X.prog X.w (upd H s.heap.objs.size (.tup [.int (i : Nat), .str ⟨#[c]⟩])) h'' s.heap.objs.size (.tup [.int (i : Nat), .str ⟨#[c]⟩]) :=
      ⟨by show 2 ≤ sizeLine; decide, [.int i tk, .str ⟨#[c]⟩ tc], .cons ⟨_, rfl⟩ (.cons ⟨_, rfl⟩ .nil), ⟨_, hT2, rfl, _, rfl⟩⟩
    have I1 : Inv X pins σ (upd H s.heap.objs.size (.tup [.int (i : Nat), .str ⟨#[c]⟩])) { s with heap := h'', toks := tk + 1 } :=
      I.turnedNew (ch := [e, it]) (fun b ob hb q => (sb.2 b (fun z => hb (by simp [z]))).trans (hk b ob (fun z => hb (by simp [z])) (fun z => hb (by simp [z])) q)) hf (Nat.le_refl _) new
    refine ⟨.ref s.heap.objs.size, _, I1, rfl, ⟨_, c, rfl, I.hok.fresh (Nat.le_refl _), rfl, hcx⟩, ⟨⟨.str ⟨#[c]⟩ tc, ?_⟩, ?_, hne, hg⟩, fun b hb => ?_⟩
    · have e1 : ((i + 1 : Nat) : Int) = (i : Int) + 1 := by omega
      rw [e1]; exact he'
    · obtain ⟨o, ho2, r⟩ := hit'
      exact ⟨o, (sb.2 it (Ne.symm hne)).trans ho2, r⟩
    · have hb' : b < s.heap.objs.size := by
        have e' : b = e ∨ b = it := by simpa using hb
        rcases e' with z | z
        · rw [z]; exact hel
        · rw [z]; exact hil
      rw [upd_ne (Nat.ne_of_lt hb')]
      exact (hf b hb).1
  done := by
    intro X hP hw hK hc i pins s σ H E I hf st hg
    subst hP hw hK
    obtain ⟨⟨old, he⟩, hit, hne, hle⟩ := st
    obtain ⟨f0, f1, f2, f3, f4, f5⟩ := hf it (by simp)
    have ei : i = x.cps.size := Nat.le_antisymm hle hg
    have D := draws_str (A := X.A.in1) (prog := X.prog) (w := X.w) (show X.A.in1.handled = none from I.ok.hd hc) it x t
    subst ei
    exact wpAny_pyNext_enum_endD D he hit fun h' eb => ⟨rfl, I.turned (t' := s.toks) (fun b o hb q => eb b o hb q) f0 f1 f3 f4 f5⟩
  self := fun A i s Q E st h => let ⟨⟨_, he⟩, _⟩ := st; wpAny_pyIter_enum he h
/-- the text at each turn, each sign in a new pair -/
def iEnS (ta : TA) : TI := fun σ H R => ta σ H fun vs H1 => ∃ x, vs = [.str x] ∧ R (Itse x) H1
theorem pi_enumS {X : Cx} {e : Expr} {ta : TA} {p pos tpos : Pos} {elts : List Expr} {kk : Nat} (hg : Gl X "enumerate") (hm : X.mg "enumerate" = none) (ha : PA X [e] ta) (hs : starEach [e] X.env = [(false, eval e X.env)] := by rfl) :
    PI X (.Tuple elts kk tpos) (.Call (.Name "enumerate" p) [e] [] pos) (iEnS ta) := by
  refine ⟨fun pins s σ H R I h => ?_⟩
  refine Call_ (ld_blt I hg hm boot_enumerate (PyProof.Rows.callWith_type1 (thn (ha.run pos pins s σ H _ I h) fun us s1 ⟨vs, H1, I1, r1, q1⟩ => ?_) hs rfl))
  obtain ⟨x, ex, q⟩ := q1
  subst ex
  cases r1 with
  | cons r rr =>
    cases rr
    obtain ⟨t, rfl⟩ := r
    refine call_enumerate_str fun h' he hit hsz hk => wpAny_pyIter_enum he ?_
    have I2 : Inv X pins σ H1 { s1 with heap := h' } := I1.kept (t' := s1.toks) hk
    refine ⟨s1.heap.objs.size + 1, [s1.heap.objs.size + 1, s1.heap.objs.size], _, _, H1, rfl, I2, turn_enumS x t (s1.heap.objs.size + 1) s1.heap.objs.size, ⟨⟨.none, he⟩, hit, Nat.succ_ne_self _, Nat.zero_le _⟩, fun b hb => ?_, q⟩
    have e' : b = s1.heap.objs.size + 1 ∨ b = s1.heap.objs.size := by simpa using hb
    have hge : s1.heap.objs.size ≤ b := by
      rcases e' with z | z
      · rw [z]; omega
      · rw [z]; omega
    exact I1.fpOk hge (I1.hok.fresh hge)
theorem walk_enumS {x : Str} : Walk (Itse x) x.cps.size (fun _ => True) (fun i H v H' => ∃ T c, v = .ref T ∧ H T = none ∧ H' = upd H T (.tup [.int (i : Nat), .str ⟨#[c]⟩]) ∧ x.cps[i]? = some c) :=
  ⟨fun i H hi _ => hi, fun H _ => Nat.le_refl _, fun i H v H' _ _ y => y⟩
theorem rg4 {n : Nat} (h : n ≤ 10000) (hm : n % 4 = 0) : RgC 0 (n : Int) 4 (n / 4) := by
  have e : Builtin.Range.rangeSize 0 (n : Int) 4 = ((n / 4 : Nat) : Int) := by
    rw [rangeSize_pos (by decide) (by omega)]
    omega
  have fl : ∀ i : Int, -100000 ≤ i → i ≤ 100000 → Builtin.Range.rangeFitsLong i = true := fun i h1 h2 => by
    unfold Builtin.Range.rangeFitsLong
    rw [decide_eq_true (show -(2 ^ 63) ≤ i by omega), decide_eq_true (show i < 2 ^ 63 by omega)]
    rfl
  refine ⟨by decide, by decide, ?_, e⟩
  unfold Builtin.Range.small
  rw [e, fl 0 (by decide) (by decide), fl (n : Int) (by omega) (by omega), fl 4 (by decide) (by decide), fl _ (by omega) (by omega)]
  rw [if_pos (by decide), fl _ (by omega) (by omega), Bool.or_true]
  rfl
end RK

namespace RK
open PySem PySem.Spec PyProof.Rows L2 StX
/-! ### defs with *rest that may raise where nothing is handled -/
theorem cxUpN {P : Program} {w : World} : CXUp (L2N.CX P w) := by
  rintro outer s H s2 H2 E e s' un kp ho ⟨a, B, H', cls, d, ea, fl, hok, ub, na, os, ag, he⟩
  refine ⟨a, B, H', cls, d, ea, fl, hok, ⟨fun b o q n hb => ub.keep b o (kp b o q) (un.free b o q n (by simp)) hb, fun b o q hb => ub.slot b o (kp b o q) hb, fun b o q n => ub.free b o (kp b o q) (un.free b o q n (by simp)),
    fun b o q hb => ub.there b o (kp b o q) hb, fun b xs q => ub.tups b xs (un.tups b xs q), fun b o xs q => ub.frzs b o xs (un.frzs b o xs q), fun b ps q => ?_⟩, na, os.trans ho, ag, he⟩
  obtain ⟨m1, e1⟩ := un.tbls b ps q
  obtain ⟨m2, e2⟩ := ub.tbls b _ e1
  exact ⟨m1 ++ m2, by rw [e2, Array.append_assoc]⟩
section
variable {X : Cx} {CX : CXT} {k : Nat} {f : Addr} {sp : Sp} {x : Str} {e : Expr} {es : List Expr} {t : TA} {p pos : Pos} {E : L2.St → XK}
theorem run_fnRS {pins : List (Addr × Obj)} {σ : L2.St} {H : Hp} {s : Shared} {Q : VK} {us : List Value} {vs : List V} (F : FnR X.prog X.w X.K X.mg X.base CX k f sp) (hr : Room k X.A) (hx : PassesAt CX X σ (E σ))
    (I : Inv X pins σ H s) (r : Vals vs us) (h : sp vs H Q (E σ)) : wpAny (model X.prog X.w) X.A (call (.ref f) us) (EP X pins σ Q) X.xe s := by
  refine wpAny_call (codeAny_mono (F X.A X.stack s H us vs Q (E σ) hr I.env0 r h) fun r s' hq => ?_)
  cases r with
  | error e => exact hx pins H s e s' I hq
  | ok fl =>
    cases fl with
    | ret u => exact I.after hq
    | next => exact False.elim hq
    | brk => exact False.elim hq
    | cont => exact False.elim hq
theorem pe_callRS (F : FnR X.prog X.w X.K X.mg X.base CX k f sp) (hr : Room k X.A) (hg : Gl X x) (hm : X.mg x = some (.ref f)) (hk : PySem.W.keepIn X.K (.ref f) = true) (hx : ∀ σ, PassesAt CX X σ (E σ))
    (ha : PA X (e :: es) t) (hdb : (x == ("__debug__" : Str)) = false := by decide) (he : starEach (e :: es) X.env = (false, eval e X.env) :: starEach es X.env := by rfl) (hpl : (backTo pos (starEach es X.env)).any (·.1) = false := by rfl) :
    PE X (.Call (.Name x p) (e :: es) [] pos) (tCallS sp E t) := by
  refine ⟨fun pins s σ H Q I h => ?_⟩
  refine wpAny_Call_Name_kw (ld_glob I hg hm ?_ hdb)
  refine PySem.W.callWith_K (h₀ := X.base) I.ok.mod.kin hk (thn (ha.run pos pins s σ H _ I h) fun us s1 ⟨vs, H1, I1, r, q⟩ => ⟨I1.kIn, ?_⟩) he hpl
  exact run_fnRS F hr (hx σ) I1 r q
theorem passAtN {σ : L2.St} : PassesAt (L2N.CX X.prog X.w) X σ (fun _ _ _ => False) := fun _ _ _ _ _ _ h => let ⟨_, _, _, _, _, _, _, _, _, _, _, _, z⟩ := h; z.elim
end
/-- a def with *rest: its promise speaks of the bound names, the call's of all that is handed on -/
def spStar (n : Nat) (sp : Sp) : Sp := fun vs H Q E => ∃ ws rest, vs = ws ++ rest ∧ ws.length = n ∧ rest.length ≤ sizeLine ∧ ∀ p, H p = none → sp (ws ++ [V.ref p]) (upd H p (.tup rest)) Q E
theorem Fun.starN {P : Program} {w : World} {K : PySem.W.Frag} {mg : Str → Option Value} {base : Heap} {x qual pv : Str} {st : Stmt} {f : Addr} {fd : FuncData} {N ps : List Str} {k : Nat} {sp : Sp} (F : Fun K x qual st f fd) (S : FnScope N (ps ++ [pv]) (defScope st))
    (hb : ∀ us rest : List Value, us.length = ps.length → bindArgs fd ⟨us ++ rest, []⟩ = (newTuple rest >>= fun t => pure (ps.zip us ++ [(pv, t)])))
    (body : ∀ (cdv : Value) (A : Around) (outer : List Env) (s : Shared) (H : Hp) (vs : List V) (Q : VK) (E : XK), Room k (A.deeper (envOfC qual (defScope st) s.heap.objs.size f cdv)) → sp vs H Q E →
      ∃ t, PSs (cxOf (L2N.CX P w) P w K mg base N qual (defScope st) f cdv A outer s H E) (defBody st) t ∧ t { nx := fun _ H' => Q .non H', rt := Q } (start N vs) H) : FnR P w K mg base (L2N.CX P w) (k + 1) f (spStar ps.length sp) := by
  obtain ⟨oc, od, kV, doc, pm, an, cdv, ct, osl, rfl, lk, hcd⟩ := F.ex
  exact fn_star lk hcd S cxUpN hb fun A outer s H vs Q E hr z => body cdv A outer s H vs Q E hr z
section
variable {X : Cx}
/-- t.index(x), x a text, ahead of it texts and None -/
theorem mt_tupIdx : MtR X "tuple.index" (fun x xs H Q => ∃ p, ∃ ys : List V, ∃ z j, x = .ref p ∧ xs = [.str z] ∧ SqT X.K H p ys ∧ (∀ v ∈ ys, v = .non ∨ ∃ y, v = .str y) ∧ ys[j]? = some (.str z) ∧ (∀ m, m < j → ys[m]? ≠ some (.str z)) ∧ Q (.int (j : Nat)) H) := by
  intro pins s σ H x xs v us Q I rx rs h
  obtain ⟨p, ys, z, j, rfl, rfl, hq, hfl, hy, hno, q⟩ := h
  cases rx
  obtain ⟨u, rfl, t, rfl⟩ := vals1 rs
  obtain ⟨its, r, pl, hz⟩ := I.tuple hq
  obtain ⟨⟨cls, dd, dt, sl⟩, ho, hc, n, hd⟩ := pl
  simp only at hc hd
  subst hc
  subst hd
  have hl : its.toArray.size = ys.length := by rw [List.size_toArray, ← r.length]
  have hj : j < its.toArray.size := by rw [hl]; exact (List.getElem?_eq_some_iff.mp hy).1
  have at' : ∀ (m : Nat) (hm : m < its.toArray.size), (∃ y t', ys[m]? = some (.str y) ∧ its.toArray[m] = Value.str y t') ∨ (ys[m]? = some .non ∧ its.toArray[m] = Value.none) := fun m hm => by
    have hm' : m < ys.length := by rw [← hl]; exact hm
    have hg : ys[m]? = some ys[m] := List.getElem?_eq_getElem hm'
    obtain ⟨w, hw, hr⟩ := r.get hg
    have e := (List.getElem?_eq_some_iff.mp hw).2
    rcases hfl ys[m] (List.getElem_mem hm') with e2 | ⟨y, e2⟩
    · rw [e2] at hr hg
      refine .inr ⟨hg, ?_⟩
      have : w = Value.none := hr
      rw [← this, ← e]
      simp
    · rw [e2] at hr hg
      obtain ⟨t', hw'⟩ := hr
      refine .inl ⟨y, t', hg, ?_⟩
      rw [← hw', ← e]
      simp
  refine call_meets PySem.F.slot_tuple_index ⟨_, ho, rfl⟩ PySem.F.entry_tuple_index (PySem.F.args_tuple_index_2 _ _) (TI.tuple_indexAt p its.toArray n dd sl (.str z t) (eqU (.str z)) j hj ?_ ?_)
    ⟨ho, fun w hw => mem_eqAt (x := .str z) ⟨t, rfl⟩ rfl r ?_ w (by simpa using hw), ⟨.int (j : Nat), H, I.tok _, ⟨_, rfl⟩, q⟩⟩
  · rcases at' j hj with ⟨y, t', h1, h2⟩ | ⟨h1, h2⟩
    · rw [hy] at h1
      cases h1
      rw [h2]
      show (z == z) = true
      exact beq_self_eq_true z
    · rw [hy] at h1
      cases h1
  · intro m hm hmj
    rcases at' m hm with ⟨y, t', h1, h2⟩ | ⟨h1, h2⟩
    · rw [h2]
      show (y == z) = false
      exact beq_eq_false_iff_ne.mpr fun e => hno m hmj (by rw [h1, e])
    · rw [h2]
      rfl
  · rw [List.all_eq_true]
    intro v hv
    rcases hfl v hv with e | ⟨y, e⟩
    · rw [e]; rfl
    · rw [e]; rfl
end
/-- a tuple behind a tuple, whatever the two are -/
theorem catA_of {K : PySem.W.Frag} {H : Hp} {a b : Addr} {xs ys : List V} {Q : VK} (ha : SqT K H a xs) (hb : SqT K H b ys) (hl : xs.length + ys.length ≤ 100000) (q : ∀ p H', Same H H' → SqT K H' p (xs ++ ys) → Q (.ref p) H') : rCatA K (.ref a) (.ref b) H Q := by
  refine ⟨a, b, xs, ys, rfl, rfl, ha, hb, Nat.le_trans hl (lenOk (xs := List.replicate 100000 ()) (n := 100000) (List.length_replicate ..) (Nat.le_refl _) |> fun h => by rw [List.length_replicate] at h; exact h), fun e => q b H (Same.refl _) (by rw [e]; exact hb), fun _ e => q a H (Same.refl _) (by rw [e, List.append_nil]; exact ha), fun _ _ p hp => q p _ (same_new hp) (SqT.of upd_same)⟩
end RK

namespace RK
open PySem PySem.Spec PyProof.Rows L2
section
variable {J : It} {n : Nat} {G : Hp → Prop} {Y : Nat → Hp → V → Hp → Prop}
/-- a comprehension with one test, whose elements have a value each; the target is the name at k -/
theorem lc_filt (w : Walk J n G Y) {tt : TT} {te : TE} {σ : L2.St} {H1 : Hp} {D : Addr} {Qd : Hp → Prop} {k : Nat} (I : Nat → V → Prop) (c : Nat → Bool) (f : Nat → V) (hD : H1 D = none) (hG : ∀ H, Same H1 H → G H) (hn : n ≤ 1000000)
    (hY : ∀ i H x H', i < n → Y i H x H' → H' = H ∧ I i x)
    (ht : ∀ i x H, i < n → Same H1 H → I i x → ∀ Q : Bool → Hp → Prop, Q (c i) H → tt ((σ.set k none).set k (some x)) H Q)
    (hs : ∀ i x H, i < n → c i = true → Same H1 H → I i x → ∀ Q : VK, (∀ H3, Same H H3 → Q (f i) H3) → te ((σ.set k none).set k (some x)) H Q) (hd : ∀ H, Same H1 H → H D = some (.lst (((List.range n).filter c).map f)) → Qd H) :
    ∃ W : Nat → Nat → Hp → Prop, (∃ m, W 0 m (upd H1 D (.lst []))) ∧ ∀ i m H, W i m H →
      (J.stop i H ∧ Qd H) ∨ (J.go i H ∧ ∃ Nx : Hp → Prop, (∀ H', Nx H' → ∃ m', m' < m ∧ W (i + 1) m' H') ∧ ∀ x H', J.yld i H x H' → gName k x (wipe σ [k]) H' fun σ2 H2 => wipe σ2 [k] = wipe σ [k] ∧ tt σ2 H2 fun b H3 =>
        if b = true then te σ2 H3 fun y H4 => ∃ acc, H4 D = some (.lst acc) ∧ acc.length < sizeLine ∧ Nx (upd H4 D (.lst (acc ++ [y]))) else Nx H3) := by
  refine lc_it w (fun i H => Same H1 H ∧ H D = some (.lst (((List.range i).filter c).map f))) ⟨same_new hD, upd_same⟩ (fun i H _ h => hG H h.1) (fun i x H H' hi hp y => ?_) fun H h => hd H h.1 h.2
  obtain ⟨sm, e⟩ := hp
  obtain ⟨rfl, hx⟩ := hY i H x H' hi y
  refine ⟨?_, ?_⟩
  · show ((σ.set k none).set k (some x)).set k none = σ.set k none
    rw [List.set_set, List.set_set]
  show tt ((σ.set k none).set k (some x)) H' _
  refine ht i x H' hi sm hx _ ?_
  by_cases hc : c i = true
  · rw [if_pos hc]
    refine hs i x H' hi hc sm hx _ fun H3 s3 => ?_
    have e3 := s3 _ _ e
    refine ⟨_, e3, ?_, same_mut (sm.trans s3) hD, ?_⟩
    · rw [List.length_map]
      refine Nat.lt_of_le_of_lt (List.length_filter_le _ _) ?_
      rw [List.length_range]
      exact Nat.lt_of_lt_of_le (Nat.lt_of_lt_of_le hi hn) (by decide)
    · rw [upd_same, List.range_succ, List.filter_append, List.map_append]
      rw [show [i].filter c = [i] by simp only [List.filter, hc]]
      rfl
  · rw [if_neg hc]
    refine ⟨sm, ?_⟩
    rw [e, List.range_succ, List.filter_append, List.map_append]
    rw [show [i].filter c = [] by simp only [List.filter, hc]]
    rw [List.map_nil, List.append_nil]
end
end RK

namespace PT
/-! things laid from an address, in natural numbers -/
def alN (e a : Nat) : Nat := (e + a - 1) / a * a
def lb (e : Nat) (t : Nat × Nat) : Nat := alN e t.2 + t.1
def numsN (m n : Nat) : List Nat := (List.range n).filter fun k => m / 2 ^ k % 2 == 1
theorem alN_mono {e e' a : Nat} (h : e ≤ e') : alN e a ≤ alN e' a := Nat.mul_le_mul_right _ (Nat.div_le_div_right (by omega))
theorem lb_mono {e e' : Nat} {t : Nat × Nat} (h : e ≤ e') : lb e t ≤ lb e' t := Nat.add_le_add_right (alN_mono h) _
/-! the least of a list -/
def minL : List Nat → Nat
  | [] => 0
  | [x] => x
  | x :: y :: r => min x (minL (y :: r))
theorem minL_le : ∀ {l : List Nat} {x : Nat}, x ∈ l → minL l ≤ x
  | [y], x, h => by rw [List.mem_singleton.mp h]; exact Nat.le_refl _
  | y :: z :: r, x, h => by
    show min y (minL (z :: r)) ≤ x
    rcases List.mem_cons.mp h with e | e
    · rw [e]; exact Nat.min_le_left _ _
    · exact Nat.le_trans (Nat.min_le_right _ _) (minL_le e)
theorem minL_mem : ∀ {l : List Nat}, l ≠ [] → minL l ∈ l
  | [], h => absurd rfl h
  | [y], _ => List.mem_cons_self
  | y :: z :: r, _ => by
    show min y (minL (z :: r)) ∈ _
    rcases Nat.le_total y (minL (z :: r)) with e | e
    · rw [Nat.min_eq_left e]; exact List.mem_cons_self
    · rw [Nat.min_eq_right e]; exact List.mem_cons_of_mem _ (minL_mem (by simp))
def th (ths : List (Nat × Nat)) (k : Nat) : Nat × Nat := ths.getD k (0, 1)
def endf (ths : List (Nat × Nat)) (s : Nat) (o : List Nat) : Nat := o.foldl (fun e k => lb e (th ths k)) s
/-- the least end of a set by its last thing -/
def Tn (ths : List (Nat × Nat)) (s : Nat) : Nat → List Nat → Nat
  | 0, _ => s
  | f + 1, ns => minL (ns.map fun k => lb (Tn ths s f (ns.erase k)) (th ths k))
def TT (ths : List (Nat × Nat)) (s : Nat) (ns : List Nat) : Nat := Tn ths s ns.length ns
section
variable {ths : List (Nat × Nat)} {s : Nat}
theorem endf_snoc {o : List Nat} {x : Nat} : endf ths s (o ++ [x]) = lb (endf ths s o) (th ths x) := by
  unfold endf
  rw [List.foldl_append]
  rfl
theorem TT_nil : TT ths s [] = s := rfl
theorem TT_ne {ns : List Nat} (h : ns ≠ []) : TT ths s ns = minL (ns.map fun k => lb (TT ths s (ns.erase k)) (th ths k)) := by
  unfold TT
  obtain ⟨f, hf⟩ : ∃ f, ns.length = f + 1 := ⟨ns.length - 1, by have := List.length_pos_iff.mpr h; omega⟩
  rw [hf]
  show minL _ = _
  congr 1
  apply List.map_congr_left
  intro k hk
  rw [List.length_erase_of_mem hk, hf]
  rfl
theorem TT_le0 : ∀ (f : Nat) {o ns : List Nat}, o.length = f → o.Perm ns → TT ths s ns ≤ endf ths s o
  | 0, o, ns, hl, h => by
    rw [List.length_eq_zero_iff.mp hl] at h ⊢
    rw [List.nil_perm.mp h]
    exact Nat.le_refl _
  | f + 1, o, ns, hl, h => by
    have ho : o ≠ [] := fun z => by rw [z] at hl; cases hl
    have hd := List.dropLast_concat_getLast ho
    have hdl : o.dropLast.length = f := by rw [List.length_dropLast, hl]; rfl
    rw [← hd] at h ⊢
    generalize o.dropLast = o' at h hdl ⊢
    generalize o.getLast ho = x at h ⊢
    have hx : x ∈ ns := h.mem_iff.mp (by simp)
    have hne : ns ≠ [] := fun z => by rw [z] at hx; cases hx
    rw [TT_ne hne, endf_snoc]
    have h2 : o'.Perm (ns.erase x) := by
      have h3 : (x :: o').Perm ns := (List.perm_append_singleton x o').symm.trans h
      have h4 := h3.erase x
      rwa [List.erase_cons_head] at h4
    exact Nat.le_trans (minL_le (List.mem_map.mpr ⟨x, hx, rfl⟩)) (lb_mono (TT_le0 f hdl h2))
theorem TT_le {o ns : List Nat} (h : o.Perm ns) : TT ths s ns ≤ endf ths s o := TT_le0 _ rfl h
theorem flat_congr {α β : Type} {f g : α → List β} {l : List α} (h : ∀ x ∈ l, f x = g x) : l.flatMap f = l.flatMap g := by
  rw [List.flatMap_def, List.flatMap_def, List.map_congr_left h]
theorem TT_ach : ∀ (f : Nat) (ns : List Nat), ns.length = f → ∃ o : List Nat, o.Perm ns ∧ endf ths s o = TT ths s ns
  | 0, ns, h => ⟨[], by rw [List.length_eq_zero_iff.mp h], by rw [List.length_eq_zero_iff.mp h]; rfl⟩
  | f + 1, ns, h => by
    have hne : ns ≠ [] := fun z => by rw [z] at h; cases h
    have hm := minL_mem (l := ns.map fun k => lb (TT ths s (ns.erase k)) (th ths k)) (by simpa using hne)
    obtain ⟨x, hx, e⟩ := List.mem_map.mp hm
    obtain ⟨o, ho, e2⟩ := TT_ach f (ns.erase x) (by rw [List.length_erase_of_mem hx, h]; rfl)
    refine ⟨o ++ [x], ?_, ?_⟩
    · exact ((List.perm_append_singleton x o).trans (ho.cons x)).trans (List.perm_cons_erase hx).symm
    · rw [endf_snoc, e2, TT_ne hne]
      exact e
/-! the orders of a set, the least first -/
def kp : Nat → List Nat → List (List Nat)
  | 0, _ => [[]]
  | f + 1, ns => ns.flatMap fun x => (kp f (ns.erase x)).map (x :: ·)
theorem kp_perm : ∀ (f : Nat) {ns o : List Nat}, ns.length = f → (o ∈ kp f ns ↔ o.Perm ns)
  | 0, ns, o, h => by
    rw [List.length_eq_zero_iff.mp h]
    show o ∈ [[]] ↔ _
    rw [List.mem_singleton, List.perm_nil]
  | f + 1, ns, o, h => by
    show o ∈ ns.flatMap _ ↔ _
    rw [List.mem_flatMap]
    constructor
    · rintro ⟨x, hx, ho⟩
      obtain ⟨o', ho', rfl⟩ := List.mem_map.mp ho
      have := (kp_perm f (by rw [List.length_erase_of_mem hx, h]; rfl)).mp ho'
      exact (this.cons x).trans (List.perm_cons_erase hx).symm
    · intro hp
      cases o with
      | nil => rw [List.nil_perm.mp hp] at h; cases h
      | cons x o' =>
        have hx : x ∈ ns := hp.mem_iff.mp List.mem_cons_self
        refine ⟨x, hx, List.mem_map.mpr ⟨o', (kp_perm f (by rw [List.length_erase_of_mem hx, h]; rfl)).mpr ?_, rfl⟩⟩
        have h4 := hp.erase x
        rwa [List.erase_cons_head] at h4
/-- the first of the least orders -/
def fo (ths : List (Nat × Nat)) : Nat → Nat → List Nat → List Nat
  | 0, _, _ => []
  | f + 1, s, ns => match ns.find? fun x => TT ths (lb s (th ths x)) (ns.erase x) == TT ths s ns with
    | some x => x :: fo ths f (lb s (th ths x)) (ns.erase x)
    | none => []
theorem find_flat {α : Type} {β : Type} {p : β → Bool} {g : α → List β} : ∀ l : List α, (l.flatMap g).find? p = l.findSome? fun x => (g x).find? p
  | [] => rfl
  | x :: r => by
    rw [List.flatMap_cons, List.find?_append, find_flat r]
    show _ = (match (g x).find? p with | some b => some b | none => _)
    cases (g x).find? p <;> rfl
theorem TT_first {ns : List Nat} (hne : ns ≠ []) : ∃ x ∈ ns, TT ths (lb s (th ths x)) (ns.erase x) = TT ths s ns := by
  obtain ⟨o, ho, e⟩ := TT_ach (ths := ths) (s := s) ns.length ns rfl
  cases o with
  | nil => exact absurd (List.nil_perm.mp ho) hne
  | cons x o' =>
    have hx : x ∈ ns := ho.mem_iff.mp List.mem_cons_self
    have h4 := ho.erase x
    rw [List.erase_cons_head] at h4
    have h5 : TT ths (lb s (th ths x)) (ns.erase x) ≤ endf ths (lb s (th ths x)) o' := TT_le h4
    obtain ⟨o2, ho2, e2⟩ := TT_ach (ths := ths) (s := lb s (th ths x)) _ (ns.erase x) rfl
    have h6 : TT ths s ns ≤ endf ths s (x :: o2) := TT_le ((ho2.cons x).trans (List.perm_cons_erase hx).symm)
    refine ⟨x, hx, ?_⟩
    have h7 : endf ths s (x :: o2) = endf ths (lb s (th ths x)) o2 := rfl
    have h8 : endf ths s (x :: o') = endf ths (lb s (th ths x)) o' := rfl
    omega
theorem fo_first : ∀ (f : Nat) (s : Nat) (ns : List Nat), ns.length = f → (kp f ns).find? (fun o => endf ths s o == TT ths s ns) = some (fo ths f s ns)
  | 0, s, ns, h => by
    rw [List.length_eq_zero_iff.mp h]
    simp [kp, endf, TT, Tn, fo]
  | f + 1, s, ns, h => by
    have hne : ns ≠ [] := fun z => by rw [z] at h; cases h
    show (ns.flatMap _).find? _ = _
    rw [find_flat]
    have blk : ∀ x ∈ ns, ((kp f (ns.erase x)).map (x :: ·)).find? (fun o => endf ths s o == TT ths s ns) = if TT ths (lb s (th ths x)) (ns.erase x) == TT ths s ns then some (x :: fo ths f (lb s (th ths x)) (ns.erase x)) else none := fun x hx => by
      have hl : (ns.erase x).length = f := by rw [List.length_erase_of_mem hx, h]; rfl
      rw [List.find?_map]
      have e0 : ((fun o => endf ths s o == TT ths s ns) ∘ fun o => x :: o) = fun o => endf ths (lb s (th ths x)) o == TT ths s ns := rfl
      rw [e0]
      by_cases c : TT ths (lb s (th ths x)) (ns.erase x) = TT ths s ns
      · rw [← c, fo_first f _ _ hl, if_pos (beq_self_eq_true _)]
        rfl
      · rw [if_neg (fun z => c (eq_of_beq z))]
        rw [List.find?_eq_none.mpr]
        · rfl
        · intro o ho z
          have hp := (kp_perm f hl).mp ho
          have h1 : TT ths (lb s (th ths x)) (ns.erase x) ≤ endf ths (lb s (th ths x)) o := TT_le hp
          obtain ⟨o2, ho2, e2⟩ := TT_ach (ths := ths) (s := lb s (th ths x)) _ (ns.erase x) rfl
          have h6 : TT ths s ns ≤ endf ths s (x :: o2) := TT_le ((ho2.cons x).trans (List.perm_cons_erase hx).symm)
          have h7 : endf ths s (x :: o2) = endf ths (lb s (th ths x)) o2 := rfl
          have := eq_of_beq z
          omega
    obtain ⟨x0, hx0, hc0⟩ := TT_first (ths := ths) (s := s) hne
    have gen : ∀ l : List Nat, (∀ x ∈ l, x ∈ ns) → (l.findSome? fun x => ((kp f (ns.erase x)).map (x :: ·)).find? (fun o => endf ths s o == TT ths s ns)) = (l.find? fun x => TT ths (lb s (th ths x)) (ns.erase x) == TT ths s ns).map fun x => x :: fo ths f (lb s (th ths x)) (ns.erase x) := fun l => by
      induction l with
      | nil => intro _; rfl
      | cons x r ih =>
        intro hl
        rw [List.findSome?_cons, blk x (hl x List.mem_cons_self), List.find?_cons]
        cases c : (TT ths (lb s (th ths x)) (ns.erase x) == TT ths s ns) with
        | true => rfl
        | false => exact ih fun y hy => hl y (List.mem_cons_of_mem _ hy)
    rw [gen ns fun _ z => z]
    show _ = some (match ns.find? fun x => TT ths (lb s (th ths x)) (ns.erase x) == TT ths s ns with
      | some x => x :: fo ths f (lb s (th ths x)) (ns.erase x)
      | none => [])
    cases hfd : ns.find? fun x => TT ths (lb s (th ths x)) (ns.erase x) == TT ths s ns with
    | some x => rfl
    | none =>
      have := List.find?_eq_none.mp hfd x0 hx0
      rw [hc0] at this
      exact absurd (beq_self_eq_true _) this
/-! the law's orders, place by place -/
def ext (ns o : List Nat) : List (List Nat) := (ns.filter fun y => !(o.contains y)).map fun y => o ++ [y]
theorem kp_ext : ∀ (f : Nat) {ns : List Nat}, ns.Nodup → (kp f ns).flatMap (ext ns) = kp (f + 1) ns
  | 0, ns, h => by
    show ext ns [] ++ [] = ns.flatMap fun x => [[x]]
    rw [List.append_nil]
    unfold ext
    have e : ns.filter (fun y => !(([] : List Nat).contains y)) = ns := List.filter_eq_self.mpr fun a _ => rfl
    rw [e]
    clear e
    induction ns with
    | nil => rfl
    | cons x r ih =>
      rw [List.map_cons, List.flatMap_cons, ih (List.nodup_cons.mp h).2]
      rfl
  | f + 1, ns, h => by
    show (ns.flatMap fun x => (kp f (ns.erase x)).map (x :: ·)).flatMap (ext ns) = ns.flatMap fun x => (kp (f + 1) (ns.erase x)).map (x :: ·)
    rw [List.flatMap_assoc]
    apply flat_congr
    intro x hx
    rw [← kp_ext f (h.erase x), List.flatMap_map, List.map_flatMap]
    apply flat_congr
    intro o _
    unfold ext
    rw [List.map_map, h.erase_eq_filter, List.filter_filter]
    have e1 : (ns.filter fun y => !((x :: o).contains y)) = ns.filter fun y => (!(o.contains y) && (y != x)) := by
      apply List.filter_congr
      intro y _
      rw [List.contains_cons, Bool.not_or, Bool.and_comm]
      rfl
    rw [e1]
    rfl
/-! the law's choice among the orders -/
def stepO (ths : List (Nat × Nat)) (s : Nat) (b : Int × List Nat) (o : List Nat) : Int × List Nat := if b.1 < 0 ∨ (endf ths s o : Int) < b.1 then ((endf ths s o : Int), o) else b
theorem fold_stay {t : Nat} {o0 : List Nat} : ∀ l : List (List Nat), (∀ o ∈ l, t ≤ endf ths s o) → l.foldl (stepO ths s) ((t : Int), o0) = ((t : Int), o0)
  | [], _ => rfl
  | x :: r, h => by
    have hx := h x List.mem_cons_self
    rw [List.foldl_cons]
    unfold stepO
    rw [if_neg (by show ¬ ((t : Int) < 0 ∨ ((endf ths s x : Nat) : Int) < (t : Int)); omega)]
    exact fold_stay r fun o ho => h o (List.mem_cons_of_mem _ ho)
theorem fold_first {t : Nat} {o0 : List Nat} : ∀ (l : List (List Nat)) (b : Int) (a : List Nat), (∀ o ∈ l, t ≤ endf ths s o) → l.find? (fun o => endf ths s o == t) = some o0 → (b < 0 ∨ (t : Int) < b) → l.foldl (stepO ths s) (b, a) = ((t : Int), o0)
  | [], _, _, _, h, _ => by cases h
  | x :: r, b, a, h, hf, hb => by
    have hx := h x List.mem_cons_self
    rw [List.find?_cons] at hf
    rw [List.foldl_cons]
    by_cases c : endf ths s x = t
    · rw [c, beq_self_eq_true] at hf
      cases hf
      unfold stepO
      rw [if_pos (by show b < 0 ∨ ((endf ths s o0 : Nat) : Int) < b; omega), c]
      exact fold_stay r fun o ho => h o (List.mem_cons_of_mem _ ho)
    · rw [beq_false_of_ne c] at hf
      unfold stepO
      by_cases d : b < 0 ∨ ((endf ths s x : Nat) : Int) < b
      · rw [if_pos d]
        exact fold_first r _ _ (fun o ho => h o (List.mem_cons_of_mem _ ho)) hf (.inr (by omega))
      · rw [if_neg d]
        exact fold_first r _ _ (fun o ho => h o (List.mem_cons_of_mem _ ho)) hf hb
theorem fold_due {ns : List Nat} : (kp ns.length ns).foldl (stepO ths s) ((-1 : Int), []) = ((TT ths s ns : Int), fo ths ns.length s ns) :=
  fold_first _ _ _ (fun o ho => TT_le ((kp_perm ns.length rfl).mp ho)) (fo_first ns.length s ns rfl) (.inl (by decide))
end
/-! sets as numbers -/
theorem bit_off {m k j : Nat} (h : m / 2 ^ k % 2 = 1) : (m - 2 ^ k) / 2 ^ j % 2 = if j = k then 0 else m / 2 ^ j % 2 := by
  have pk : 0 < 2 ^ k := Nat.two_pow_pos k
  have pj : 0 < 2 ^ j := Nat.two_pow_pos j
  have base : ∀ a : Nat, (m - 2 ^ k) / 2 ^ k = m / 2 ^ k - 1 := fun _ => by
    have := Nat.sub_mul_div m (2 ^ k) 1
    rwa [Nat.mul_one] at this
  rcases Nat.lt_trichotomy j k with z | z | z
  · rw [if_neg (by omega)]
    obtain ⟨d, rfl⟩ : ∃ d, k = j + (d + 1) := ⟨k - j - 1, by omega⟩
    have e1 : (m - 2 ^ (j + (d + 1))) / 2 ^ j = m / 2 ^ j - 2 ^ (d + 1) := by
      rw [Nat.pow_add]
      exact Nat.sub_mul_div m (2 ^ j) (2 ^ (d + 1))
    have e2 : m / 2 ^ (j + (d + 1)) = m / 2 ^ j / 2 ^ (d + 1) := by rw [Nat.pow_add, Nat.div_div_eq_div_mul]
    rw [e2] at h
    rw [e1]
    have e3 : 2 ^ (d + 1) = 2 * 2 ^ d := by rw [Nat.pow_succ, Nat.mul_comm]
    have e4 : 2 ^ (d + 1) ≤ m / 2 ^ j := by
      rcases Nat.lt_or_ge (m / 2 ^ j) (2 ^ (d + 1)) with y | y
      · rw [Nat.div_eq_of_lt y] at h
        cases h
      · exact y
    rw [e3] at e4 ⊢
    omega
  · subst z
    rw [if_pos rfl, base 0]
    omega
  · rw [if_neg (by omega)]
    obtain ⟨d, rfl⟩ : ∃ d, j = k + (d + 1) := ⟨j - k - 1, by omega⟩
    have e1 : ∀ x : Nat, x / 2 ^ (k + (d + 1)) = x / 2 ^ k / 2 / 2 ^ d := fun x => by rw [Nat.pow_add, ← Nat.div_div_eq_div_mul, Nat.pow_succ, Nat.mul_comm, ← Nat.div_div_eq_div_mul]
    rw [e1, e1, base 0]
    have odd : ∀ a : Nat, a % 2 = 1 → (a - 1) / 2 = a / 2 := fun a y => by omega
    rw [odd _ h]
theorem numsN_off {m k n : Nat} (hk : k ∈ numsN m n) : numsN (m - 2 ^ k) n = (numsN m n).erase k := by
  have hb := (List.mem_filter.mp hk).2
  have hb : m / 2 ^ k % 2 = 1 := eq_of_beq hb
  have hnd : (numsN m n).Nodup := List.nodup_range.filter _
  rw [hnd.erase_eq_filter]
  unfold numsN
  rw [List.filter_filter]
  apply List.filter_congr
  intro j _
  rw [bit_off hb]
  by_cases z : j = k
  · rw [if_pos z, z]
    simp
  · rw [if_neg z]
    simp [z]
theorem numsN_zero (n : Nat) : numsN 0 n = [] := by
  unfold numsN
  rw [List.filter_eq_nil_iff]
  intro k _
  rw [Nat.zero_div]
  decide
theorem pow_le_of {m k n : Nat} (hk : k ∈ numsN m n) : 2 ^ k ≤ m := by
  have hb := (List.mem_filter.mp hk).2
  have hb : m / 2 ^ k % 2 = 1 := eq_of_beq hb
  rcases Nat.lt_or_ge m (2 ^ k) with y | y
  · rw [Nat.div_eq_of_lt y] at hb
    cases hb
  · exact y
theorem numsN_ne {n : Nat} : ∀ {m : Nat}, 0 < m → m < 2 ^ n → numsN m n ≠ [] := fun {m} h0 h1 z => by
  have hz : ∀ k, k < n → m / 2 ^ k % 2 = 0 := fun k hk => by
    have := List.filter_eq_nil_iff.mp z k (List.mem_range.mpr hk)
    have h3 : ¬ m / 2 ^ k % 2 = 1 := fun y => this (by rw [y]; rfl)
    omega
  have : ∀ j, j ≤ n → m % 2 ^ j = 0 := fun j => by
    induction j with
    | zero => intro _; rw [Nat.pow_zero, Nat.mod_one]
    | succ j ih =>
      intro hj
      have h2 := ih (by omega)
      have h3 := hz j (by omega)
      rw [Nat.pow_succ, Nat.mod_mul, h2, h3, Nat.mul_zero]
  have h2 := this n (Nat.le_refl _)
  rw [Nat.mod_eq_of_lt h1] at h2
  omega
/-- the table of ends as a list -/
def lbm (ths : List (Nat × Nat)) (es : List Nat) (m : Nat) : Nat := minL ((numsN m ths.length).map fun k => lb (es.getD (m - 2 ^ k) 0) (th ths k))
def tabT (ths : List (Nat × Nat)) (s j : Nat) : List Nat := (List.range (j + 1)).map fun m => TT ths s (numsN m ths.length)
theorem tab_get {ths : List (Nat × Nat)} {s j m : Nat} (h : m ≤ j) : (tabT ths s j).getD m 0 = TT ths s (numsN m ths.length) := by
  unfold tabT
  rw [List.getD_eq_getElem?_getD, List.getElem?_map, List.getElem?_range (by omega)]
  rfl
theorem tab_next {ths : List (Nat × Nat)} {s j : Nat} {es : List Nat} (he : ∀ m, m ≤ j → es.getD m 0 = TT ths s (numsN m ths.length)) (h : j + 1 < 2 ^ ths.length) : lbm ths es (j + 1) = TT ths s (numsN (j + 1) ths.length) := by
  rw [TT_ne (numsN_ne (Nat.succ_pos j) h)]
  unfold lbm
  congr 1
  apply List.map_congr_left
  intro k hk
  have h2 := pow_le_of hk
  have h3 : 0 < 2 ^ k := Nat.two_pow_pos k
  rw [he _ (by omega), numsN_off hk]
theorem tab_snoc (ths : List (Nat × Nat)) (s j : Nat) : tabT ths s (j + 1) = tabT ths s j ++ [TT ths s (numsN (j + 1) ths.length)] := by
  unfold tabT
  rw [List.range_succ, List.map_append]
  rfl
theorem tab_zero (ths : List (Nat × Nat)) (s : Nat) : tabT ths s 0 = [s] := by
  unfold tabT
  show [TT ths s (numsN 0 ths.length)] = [s]
  rw [numsN_zero]
  rfl
end PT

namespace R1
open PySem PySem.Spec PyProof.Rows L2 RK
local macro_rules | `(tactic| walk_at "sq") => `(tactic| first
  | exact SqL.of upd_same | exact upd_same | exact SqL.of (by assumption) | exact SqL.of (by rw [upd_ne (by assumption)]; assumption) | assumption)
local macro_rules | `(tactic| walk_at "sd") => `(tactic| first
  | assumption | omega | (refine Or.inl ⟨?_, ?_⟩ <;> omega) | (show _ ∧ _; constructor <;> omega) | (show _ ≠ _; simp; omega) | (exact Or.inl ⟨by decide, by decide⟩) | (exact Or.inr ⟨by decide, by decide⟩) | (show _ < _; decide) | (show _ ≤ _; decide))
local macro_rules | `(tactic| walk_at "at") => `(tactic| first | rfl | (refine atI_intV ?_ ?_ <;> omega) | assumption)
local macro_rules | `(tactic| walk_at "s1") => `(tactic| first
  | refine ⟨_, rfl, ?_⟩ | refine ⟨_, _, rfl, rfl, ?_⟩ | refine ⟨rfl, ?_⟩
  | refine ⟨_, _, _, _, rfl, rfl, by walk_at "sq", by walk_at "at", ?_⟩
  | refine Or.inl ⟨_, rfl, ?_⟩
  | refine ⟨_, _, rfl, Or.inl (by walk_at "sq"), ?_⟩
  | refine And.intro (by walk_at "sd") ?_)
local macro_rules | `(tactic| walk_at "s") => `(tactic| repeat walk_at "s1")

def topS (i : Nat) : Stmt := PySem.Challenge.pw_romwright_k40_spoilt_tables.main.body.getD i (.Pass ⟨0, 0, 0, 0⟩)
abbrev s_least_of : Stmt := topS 1
abbrev N_least_of : List Str := ["numbers", "least", "number"]
theorem sc_least_of : FnScope N_least_of ["numbers"] (defScope s_least_of) := ⟨rfl, rfl, rfl, by decide +kernel, rfl, by decide +kernel, by decide +kernel⟩
abbrev s_aligned : Stmt := topS 3
abbrev N_aligned : List Str := ["address", "align"]
theorem sc_aligned : FnScope N_aligned ["address", "align"] (defScope s_aligned) := ⟨rfl, rfl, rfl, by decide +kernel, rfl, by decide +kernel, by decide +kernel⟩
abbrev s_laid_behind : Stmt := topS 5
abbrev N_laid_behind : List Str := ["end", "thing"]
theorem sc_laid_behind : FnScope N_laid_behind ["end", "thing"] (defScope s_laid_behind) := ⟨rfl, rfl, rfl, by decide +kernel, rfl, by decide +kernel, by decide +kernel⟩
abbrev s_numbers_in : Stmt := topS 6
abbrev N_numbers_in : List Str := ["chosen", "count", "number"]
theorem sc_numbers_in : FnScope N_numbers_in ["chosen", "count"] (defScope s_numbers_in) := ⟨rfl, rfl, rfl, by decide +kernel, rfl, by decide +kernel, by decide +kernel⟩
abbrev s_least_behind : Stmt := topS 7
abbrev N_least_behind : List Str := ["things", "ends", "chosen", "number"]
theorem sc_least_behind : FnScope N_least_behind ["things", "ends", "chosen"] (defScope s_least_behind) := ⟨rfl, rfl, rfl, by decide +kernel, rfl, by decide +kernel, by decide +kernel⟩
abbrev s_judge_ends : Stmt := topS 8
abbrev N_judge_ends : List Str := ["start", "things", "ends", "chosen"]
theorem sc_judge_ends : FnScope N_judge_ends ["start", "things", "ends"] (defScope s_judge_ends) := ⟨rfl, rfl, rfl, by decide +kernel, rfl, by decide +kernel, by decide +kernel⟩
abbrev s_law_source : Stmt := topS 10
abbrev N_law_source : List Str := ["_law_script", "_law_cell", "_law_cells", "_law_mixed"]
theorem sc_law_source : FnScope N_law_source ["_law_script"] (defScope s_law_source) := ⟨rfl, rfl, rfl, by decide +kernel, rfl, by decide +kernel, by decide +kernel⟩
abbrev s_law_draw : Stmt := topS 11
abbrev N_law_draw : List Str := ["_law_source_here", "_law_limit", "_law_cells", "_law_place", "_law_digits", "_law_count", "_law_seed", "_law_number"]
theorem sc_law_draw : FnScope N_law_draw ["_law_source_here", "_law_limit"] (defScope s_law_draw) := ⟨rfl, rfl, rfl, by decide +kernel, rfl, by decide +kernel, by decide +kernel⟩
abbrev s_law_is_number : Stmt := topS 12
abbrev N_law_is_number : List Str := ["_law_thing"]
theorem sc_law_is_number : FnScope N_law_is_number ["_law_thing"] (defScope s_law_is_number) := ⟨rfl, rfl, rfl, by decide +kernel, rfl, by decide +kernel, by decide +kernel⟩
abbrev s_law_things : Stmt := topS 14
abbrev N_law_things : List Str := ["_law_source_here", "_law_count", "_law_biggest", "_law_rows", "_law_k", "_law_size"]
theorem sc_law_things : FnScope N_law_things ["_law_source_here", "_law_count"] (defScope s_law_things) := ⟨rfl, rfl, rfl, by decide +kernel, rfl, by decide +kernel, by decide +kernel⟩
abbrev s_law_orders : Stmt := topS 15
abbrev N_law_orders : List Str := ["_law_numbers", "_law_found", "_law_step", "_law_longer", "_law_order", "_law_number"]
theorem sc_law_orders : FnScope N_law_orders ["_law_numbers"] (defScope s_law_orders) := ⟨rfl, rfl, rfl, by decide +kernel, rfl, by decide +kernel, by decide +kernel⟩
abbrev s_law_end : Stmt := topS 16
abbrev N_law_end : List Str := ["_law_start", "_law_things_here", "_law_order", "_law_end_here", "_law_number", "_law_unit"]
theorem sc_law_end : FnScope N_law_end ["_law_start", "_law_things_here", "_law_order"] (defScope s_law_end) := ⟨rfl, rfl, rfl, by decide +kernel, rfl, by decide +kernel, by decide +kernel⟩
abbrev s_law_table : Stmt := topS 17
abbrev N_law_table : List Str := ["_law_start", "_law_things_here", "_law_ends", "_law_chosen", "_law_k", "_law_numbers", "_law_order"]
theorem sc_law_table : FnScope N_law_table ["_law_start", "_law_things_here"] (defScope s_law_table) := ⟨rfl, rfl, rfl, by decide +kernel, rfl, by decide +kernel, by decide +kernel⟩
abbrev s_law_worked_out : Stmt := topS 18
abbrev N_law_worked_out : List Str := ["_law_rows", "_law_things_here", "_law_at", "_law_chosen", "_law_found", "_law_k", "_law_unit", "_law_end_here"]
theorem sc_law_worked_out : FnScope N_law_worked_out ["_law_rows", "_law_things_here", "_law_at"] (defScope s_law_worked_out) := ⟨rfl, rfl, rfl, by decide +kernel, rfl, by decide +kernel, by decide +kernel⟩
abbrev s_law_other_things : Stmt := topS 19
abbrev N_law_other_things : List Str := ["_law_source_here", "_law_start", "_law_things_here", "_law_at", "_law_rows", "_law_size", "_law_unit"]
theorem sc_law_other_things : FnScope N_law_other_things ["_law_source_here", "_law_start", "_law_things_here"] (defScope s_law_other_things) := ⟨rfl, rfl, rfl, by decide +kernel, rfl, by decide +kernel, by decide +kernel⟩
abbrev s_law_beside : Stmt := topS 20
abbrev N_law_beside : List Str := ["_law_source_here", "_law_start", "_law_things_here", "_law_right_here", "_law_rows", "_law_at", "_law_change", "_law_way", "_law_step", "_law_other", "_law_end_here"]
theorem sc_law_beside : FnScope N_law_beside ["_law_source_here", "_law_start", "_law_things_here", "_law_right_here"] (defScope s_law_beside) := ⟨rfl, rfl, rfl, by decide +kernel, rfl, by decide +kernel, by decide +kernel⟩
abbrev s_law_due : Stmt := topS 21
abbrev N_law_due : List Str := ["_law_rows", "_law_right_here", "_law_chosen"]
theorem sc_law_due : FnScope N_law_due ["_law_rows", "_law_right_here"] (defScope s_law_due) := ⟨rfl, rfl, rfl, by decide +kernel, rfl, by decide +kernel, by decide +kernel⟩
abbrev s_law_right : Stmt := topS 22
abbrev N_law_right : List Str := ["_law_told", "_law_due_here"]
theorem sc_law_right : FnScope N_law_right ["_law_told", "_law_due_here"] (defScope s_law_right) := ⟨rfl, rfl, rfl, by decide +kernel, rfl, by decide +kernel, by decide +kernel⟩
abbrev s_law : Stmt := topS 23
abbrev N_law : List Str := ["_law_script", "_law_source_here", "_law_start", "_law_things_here", "_law_right_here", "_law_step", "_law_rows", "_law_due_here", "_law_passed"]
theorem sc_law : FnScope N_law ["_law_script"] (defScope s_law) := ⟨rfl, rfl, rfl, by decide +kernel, rfl, by decide +kernel, by decide +kernel⟩
/-- where things stand -/
structure Ads where
  a_least_of : Addr
  d_least_of : FuncData
  a_aligned : Addr
  d_aligned : FuncData
  a_laid_behind : Addr
  d_laid_behind : FuncData
  a_numbers_in : Addr
  d_numbers_in : FuncData
  a_least_behind : Addr
  d_least_behind : FuncData
  a_judge_ends : Addr
  d_judge_ends : FuncData
  a_law_source : Addr
  d_law_source : FuncData
  a_law_draw : Addr
  d_law_draw : FuncData
  a_law_is_number : Addr
  d_law_is_number : FuncData
  a_law_things : Addr
  d_law_things : FuncData
  a_law_orders : Addr
  d_law_orders : FuncData
  a_law_end : Addr
  d_law_end : FuncData
  a_law_table : Addr
  d_law_table : FuncData
  a_law_worked_out : Addr
  d_law_worked_out : FuncData
  a_law_other_things : Addr
  d_law_other_things : FuncData
  a_law_beside : Addr
  d_law_beside : FuncData
  a_law_due : Addr
  d_law_due : FuncData
  a_law_right : Addr
  d_law_right : FuncData
  a_law : Addr
  d_law : FuncData
structure Txt (K : PySem.W.Frag) (mg : Str → Option Value) (A : Ads) : Prop where
  F_least_of : Fun K "least_of" "least_of" s_least_of A.a_least_of A.d_least_of
  g_least_of : mg "least_of" = some (.ref A.a_least_of)
  b_least_of : Binds K A.d_least_of ["numbers"] []
  F_aligned : Fun K "aligned" "aligned" s_aligned A.a_aligned A.d_aligned
  g_aligned : mg "aligned" = some (.ref A.a_aligned)
  b_aligned : Binds K A.d_aligned ["address", "align"] []
  F_laid_behind : Fun K "laid_behind" "laid_behind" s_laid_behind A.a_laid_behind A.d_laid_behind
  g_laid_behind : mg "laid_behind" = some (.ref A.a_laid_behind)
  b_laid_behind : Binds K A.d_laid_behind ["end", "thing"] []
  F_numbers_in : Fun K "numbers_in" "numbers_in" s_numbers_in A.a_numbers_in A.d_numbers_in
  g_numbers_in : mg "numbers_in" = some (.ref A.a_numbers_in)
  b_numbers_in : Binds K A.d_numbers_in ["chosen", "count"] []
  F_least_behind : Fun K "least_behind" "least_behind" s_least_behind A.a_least_behind A.d_least_behind
  g_least_behind : mg "least_behind" = some (.ref A.a_least_behind)
  b_least_behind : Binds K A.d_least_behind ["things", "ends", "chosen"] []
  F_judge_ends : Fun K "judge_ends" "judge_ends" s_judge_ends A.a_judge_ends A.d_judge_ends
  g_judge_ends : mg "judge_ends" = some (.ref A.a_judge_ends)
  b_judge_ends : Binds K A.d_judge_ends ["start", "things", "ends"] []
  F_law_source : Fun K "_law_source" "_law_source" s_law_source A.a_law_source A.d_law_source
  g_law_source : mg "_law_source" = some (.ref A.a_law_source)
  b_law_source : Binds K A.d_law_source ["_law_script"] []
  F_law_draw : Fun K "_law_draw" "_law_draw" s_law_draw A.a_law_draw A.d_law_draw
  g_law_draw : mg "_law_draw" = some (.ref A.a_law_draw)
  b_law_draw : Binds K A.d_law_draw ["_law_source_here", "_law_limit"] []
  F_law_is_number : Fun K "_law_is_number" "_law_is_number" s_law_is_number A.a_law_is_number A.d_law_is_number
  g_law_is_number : mg "_law_is_number" = some (.ref A.a_law_is_number)
  b_law_is_number : Binds K A.d_law_is_number ["_law_thing"] []
  F_law_things : Fun K "_law_things" "_law_things" s_law_things A.a_law_things A.d_law_things
  g_law_things : mg "_law_things" = some (.ref A.a_law_things)
  b_law_things : Binds K A.d_law_things ["_law_source_here", "_law_count"] []
  F_law_orders : Fun K "_law_orders" "_law_orders" s_law_orders A.a_law_orders A.d_law_orders
  g_law_orders : mg "_law_orders" = some (.ref A.a_law_orders)
  b_law_orders : Binds K A.d_law_orders ["_law_numbers"] []
  F_law_end : Fun K "_law_end" "_law_end" s_law_end A.a_law_end A.d_law_end
  g_law_end : mg "_law_end" = some (.ref A.a_law_end)
  b_law_end : Binds K A.d_law_end ["_law_start", "_law_things_here", "_law_order"] []
  F_law_table : Fun K "_law_table" "_law_table" s_law_table A.a_law_table A.d_law_table
  g_law_table : mg "_law_table" = some (.ref A.a_law_table)
  b_law_table : Binds K A.d_law_table ["_law_start", "_law_things_here"] []
  F_law_worked_out : Fun K "_law_worked_out" "_law_worked_out" s_law_worked_out A.a_law_worked_out A.d_law_worked_out
  g_law_worked_out : mg "_law_worked_out" = some (.ref A.a_law_worked_out)
  b_law_worked_out : Binds K A.d_law_worked_out ["_law_rows", "_law_things_here", "_law_at"] []
  F_law_other_things : Fun K "_law_other_things" "_law_other_things" s_law_other_things A.a_law_other_things A.d_law_other_things
  g_law_other_things : mg "_law_other_things" = some (.ref A.a_law_other_things)
  b_law_other_things : Binds K A.d_law_other_things ["_law_source_here", "_law_start", "_law_things_here"] []
  F_law_beside : Fun K "_law_beside" "_law_beside" s_law_beside A.a_law_beside A.d_law_beside
  g_law_beside : mg "_law_beside" = some (.ref A.a_law_beside)
  b_law_beside : Binds K A.d_law_beside ["_law_source_here", "_law_start", "_law_things_here", "_law_right_here"] []
  F_law_due : Fun K "_law_due" "_law_due" s_law_due A.a_law_due A.d_law_due
  g_law_due : mg "_law_due" = some (.ref A.a_law_due)
  b_law_due : Binds K A.d_law_due ["_law_rows", "_law_right_here"] []
  F_law_right : Fun K "_law_right" "_law_right" s_law_right A.a_law_right A.d_law_right
  g_law_right : mg "_law_right" = some (.ref A.a_law_right)
  b_law_right : Binds K A.d_law_right ["_law_told", "_law_due_here"] []
  F_law : Fun K "law" "law" s_law A.a_law A.d_law
  g_law : mg "law" = some (.ref A.a_law)
  b_law : Binds K A.d_law ["_law_script"] []
  n_abs : mg "abs" = none
  n_bool : mg "bool" = none
  n_int : mg "int" = none
  n_isinstance : mg "isinstance" = none
  n_len : mg "len" = none
  n_list : mg "list" = none
  n_max : mg "max" = none
  n_min : mg "min" = none
  n_range : mg "range" = none
  n_tuple : mg "tuple" = none

/-! ### the law's source of draws -/
def Src (c : Addr) (H : Hp) (p : Addr) : Prop := ∃ (cs : List Int) (pl dg ct mx : Int), H p = some (.lst [.ref c, .int pl, .int dg, .int ct, .int mx]) ∧ H c = some (.lst (cs.map V.int)) ∧ 0 < cs.length ∧ 0 ≤ pl
theorem src_ne {H : Hp} {c p : Addr} (h : Src c H p) : H p ≠ none := by
  obtain ⟨cs, pl, dg, ct, mx, e, _⟩ := h
  rw [e]
  exact fun z => nomatch z
theorem src_cne {H : Hp} {c p : Addr} (h : Src c H p) : H c ≠ none := by
  obtain ⟨cs, pl, dg, ct, mx, _, e, _⟩ := h
  rw [e]
  exact fun z => nomatch z
theorem src_up {H H' : Hp} {c p : Addr} (h : Src c H p) (e : Same H H') : Src c H' p := by
  obtain ⟨cs, pl, dg, ct, mx, h1, h2, h3⟩ := h
  exact ⟨cs, pl, dg, ct, mx, e _ _ h1, e _ _ h2, h3⟩
/-- what is neither of its two lists may change -/
theorem src_put {H : Hp} {c p D : Addr} {o : HO} (h : Src c H p) (hp : D ≠ p) (hc : D ≠ c) : Src c (upd H D o) p := by
  obtain ⟨cs, pl, dg, ct, mx, h1, h2, h3⟩ := h
  exact ⟨cs, pl, dg, ct, mx, by rw [upd_ne (Ne.symm hp)]; exact h1, by rw [upd_ne (Ne.symm hc)]; exact h2, h3⟩
/-- a list of numbers is not the source -/
theorem src_ints {H : Hp} {c p D : Addr} {l : List Nat} (h : Src c H p) (e : H D = some (.lst (intV l))) : D ≠ p := fun z => by
  obtain ⟨cs, pl, dg, ct, mx, h1, _⟩ := h
  subst z
  rw [e] at h1
  have := HO.lst.inj (Option.some.inj h1)
  cases l with
  | nil => cases this
  | cons a r =>
    have := (List.cons.inj this).1
    cases this
def spDraw : Sp := fun vs H Q _ => ∃ (c p : Addr) (b : Int), vs = [.ref p, .int b] ∧ Src c H p ∧ 0 < b ∧ b < 1000000 ∧ ∀ H' (r : Nat), (r : Int) < b → Src c H' p → But p H H' → Q (.int (r : Int)) H'
def spSource (K : PySem.W.Frag) : Sp := fun vs H Q _ => ∃ (a : Addr) (ns : List Int), vs = [.ref a] ∧ SqL K H a (ns.map V.int) ∧ ns.length ≤ 63 ∧ ∀ H' c p, Same H H' → H c = none → H p = none → Src c H' p → Q (.ref p) H'
theorem get_int {cs : List Int} {i : Int} (h0 : 0 ≤ i) (h1 : i < cs.length) : ∃ z, atI (cs.map V.int) i = some (.int z) := by
  obtain ⟨j, rfl⟩ : ∃ j : Nat, i = (j : Int) := ⟨i.toNat, by omega⟩
  have hj : j < cs.length := by omega
  exact ⟨cs[j], atI_nat (by rw [List.getElem?_map, List.getElem?_eq_getElem hj]; rfl)⟩
/-! plain: a value with what tells its kind -/
mutual
def plD : PyData → PyData
  | .list xs => .tuple [.bool true, .list (plA xs)]
  | .tuple xs => .tuple [.bool false, .list (plA xs)]
  | .bool b => .tuple [.bool true, .bool b]
  | .none => .tuple [.bool false, .none]
  | .int i => .tuple [.bool false, .int i]
  | .str x => .tuple [.bool false, .str x]
  | .dict kvs => .tuple [.bool false, .dict kvs]
def plA : List PyData → List PyData
  | [] => []
  | x :: r => plD x :: plA r
end
theorem plA_map : ∀ xs : List PyData, plA xs = xs.map plD
  | [] => rfl
  | x :: r => by
    show plD x :: plA r = plD x :: r.map plD
    rw [plA_map r]
mutual
theorem plD_depth : ∀ d : PyData, (plD d).depth ≤ 2 * d.depth + 1
  | .list xs => by
    have h := plA_depth xs
    show max 0 (max (PyData.depthAll (plA xs) + 1) 0) + 1 ≤ 2 * (PyData.depthAll xs + 1) + 1
    omega
  | .tuple xs => by
    have h := plA_depth xs
    show max 0 (max (PyData.depthAll (plA xs) + 1) 0) + 1 ≤ 2 * (PyData.depthAll xs + 1) + 1
    omega
  | .bool b => by show 1 ≤ 1; omega
  | .none => by show 1 ≤ 1; omega
  | .int i => by show 1 ≤ 1; omega
  | .str x => by show 1 ≤ 1; omega
  | .dict kvs => by
    show max 0 (max (PyData.depthKv kvs + 1) 0) + 1 ≤ 2 * (PyData.depthKv kvs + 1) + 1
    omega
theorem plA_depth : ∀ ds : List PyData, (PyData.depthAll (plA ds)) ≤ 2 * (PyData.depthAll ds) + 1
  | [] => Nat.zero_le _
  | x :: r => by
    have h1 := plD_depth x
    have h2 := plA_depth r
    show max (plD x).depth (PyData.depthAll (plA r)) ≤ 2 * (max x.depth (PyData.depthAll r)) + 1
    omega
end
mutual
theorem plD_lay : ∀ d : PyData, d.canLay0 = true → (plD d).canLay0 = true
  | .list xs, h => by
    show (true && (PyData.canLayAll0 (plA xs) && true)) = true
    rw [plA_lay xs h]
    rfl
  | .tuple xs, h => by
    show (true && (PyData.canLayAll0 (plA xs) && true)) = true
    rw [plA_lay xs h]
    rfl
  | .bool b, h => rfl
  | .none, h => rfl
  | .int i, h => rfl
  | .str x, h => by
    show (true && ((PyData.str x).canLay0 && true)) = true
    rw [h]
    rfl
  | .dict kvs, h => by cases h
theorem plA_lay : ∀ ds : List PyData, PyData.canLayAll0 ds = true → PyData.canLayAll0 (plA ds) = true
  | [], _ => rfl
  | x :: r, h => by
    have h' := Bool.and_eq_true_iff.mp h
    show ((plD x).canLay0 && PyData.canLayAll0 (plA r)) = true
    rw [plD_lay x h'.1, plA_lay r h'.2]
    rfl
end
theorem plD_shaped {d : PyData} (h : d.canLay0 = true) (hd : d.depth ≤ 20) : SeqAt.shaped (plD d) = true := by
  have h2 := plD_depth d
  unfold SeqAt.shaped
  rw [plD_lay d h, Bool.true_and]
  exact decide_eq_true (by omega)
def spPlain (K : PySem.W.Frag) : Nat → Sp
  | 0 => fun _ _ _ _ => False
  | n + 1 => fun vs H Q _ => ∃ (v : V) (d : PyData) (S : ASet), vs = [v] ∧ (∀ a, S a → H a ≠ none) ∧ Dx K H S v d ∧ d.depth ≤ n ∧ wdB d = true ∧ ∀ H' v', Same H H' → Dx K H' S v' (plD d) → Q v' H'

section
variable {P : Program} {w : World} {K : PySem.W.Frag} {mg : Str → Option Value} {base : Heap} {A : Ads}
theorem ok_law_draw (T : Txt K mg A) : FnOk P w K mg base CX0 1 A.a_law_draw A.d_law_draw ["_law_source_here", "_law_limit"] spDraw := by
  refine T.F_law_draw.ok sc_law_draw (fun vs H Q E h => ?_) (fun cdv B outer s H vs Q E hr h => ?_)
  · obtain ⟨c, p, b, rfl, _⟩ := h
    rfl
  · obtain ⟨c, p, b, rfl, ⟨cs, pl, dg, ct, mx, hp, hc, hn, hpl⟩, hb, hb2, q⟩ := h
    refine ⟨_, (pss_cons (ps_set (i := 2) sc_law_draw.nd rfl (.inl rfl) (pe_ix ix_list (pv 0) pe_int (fun _ _ => rfl)))
    (pss_cons (ps_set (i := 3) sc_law_draw.nd rfl (.inl rfl) (pe_ix ix_list (pv 0) pe_int (fun _ _ => rfl)))
    (pss_cons (ps_set (i := 4) sc_law_draw.nd rfl (.inl rfl) (pe_ix ix_list (pv 0) pe_int (fun _ _ => rfl)))
    (pss_cons (ps_set (i := 5) sc_law_draw.nd rfl (.inl rfl) (pe_ix ix_list (pv 0) pe_int (fun _ _ => rfl)))
    (pss_cons (ps_asg (pe_op op_add (pv 5) pe_int) (pg_sub (pv 0) pe_int set_list))
    (pss_cons (ps_if (PW.pt (pw_and (pt_cmpR op_eq (pe_ix ix_list (pv 0) pe_int (fun _ _ => rfl)) pe_int (nomark _)) (pw_and1 (pt_cmpR op_lt (pv 3) (pe_callB len_seq (by rfl) T.n_len (by decide +kernel) (pa_cons (pv 2) pa_nil)) (nomark _))))) (pss_cons (ps_asg (pe_op op_fdivN (pv 4) (pv 1)) (pg_sub (pv 0) pe_int set_list))
    (pss_cons (ps_if (pt_cmpR op_eq (pe_ix ix_list (pv 0) pe_int (fun _ _ => rfl)) pe_int (nomark _)) (pss_cons (ps_asg (pe_op op_add (pv 3) pe_int) (pg_sub (pv 0) pe_int set_list))
    (pss_one (ps_if (pt_cmpR op_lt (pe_op op_add (pv 3) pe_int) (pe_callB len_seq (by rfl) T.n_len (by decide +kernel) (pa_cons (pv 2) pa_nil)) (nomark _)) (pss_one (ps_asg (pe_ix ix_list (pv 2) (pe_op op_add (pv 3) pe_int) (fun _ _ => rfl)) (pg_sub (pv 0) pe_int set_list))) pss_nil))) pss_nil)
    (pss_one (ps_ret (pe_op op_modN (pe_callTy call_int1 (by rfl) T.n_int (by decide +kernel) (pa_cons (pv 4) pa_nil)) (pv 1)))))) pss_nil)
    (pss_cons (ps_set (i := 6) sc_law_draw.nd rfl (.inl rfl) (pe_op op_add (pe_op op_add (pe_ix ix_list (pv 2) (pe_op op_modN (pe_callTy call_int1 (by rfl) T.n_int (by decide +kernel) (pa_cons (pv 5) pa_nil)) (pe_callB len_seq (by rfl) T.n_len (by decide +kernel) (pa_cons (pv 2) pa_nil))) (fun _ _ => rfl)) (pe_op op_mul pe_int (pv 5))) pe_int))
    (pss_cons (ps_set (i := 7) sc_law_draw.nd rfl (.inl rfl) (pe_op op_mod (pe_callTy call_int1 (by rfl) T.n_int (by decide +kernel) (pa_cons (pe_op op_add (pe_op op_mul (pv 6) pe_int) (pe_op op_mul (pe_op op_add (pv 5) pe_int) pe_int)) pa_nil)) pe_int))
    (pss_cons (ps_set (i := 7) sc_law_draw.nd rfl (.inl rfl) (pe_op op_mod (pe_callTy call_int1 (by rfl) T.n_int (by decide +kernel) (pa_cons (pe_op op_add (pe_op op_mul (pv 7) (pe_op op_add (pe_op op_add (pe_op op_mod (pe_callTy call_int1 (by rfl) T.n_int (by decide +kernel) (pa_cons (pv 7) pa_nil)) pe_int) (pv 5)) pe_int)) (pv 6)) pa_nil)) pe_int))
    (pss_one (ps_ret (pe_op op_modN (pe_callTy call_int1 (by rfl) T.n_int (by decide +kernel) (pa_cons (pe_op op_fdiv (pv 7) pe_int) pa_nil)) (pv 1))))))))))))), ?_⟩
    have nc : c ≠ p := ne_of hc hp (by intro z; have := HO.lst.inj z; cases cs with | nil => cases hn | cons a r => cases this)
    have hmod : ∀ i : Int, 0 ≤ i.fmod b ∧ i.fmod b < b := fun i => ⟨Int.fmod_nonneg_of_pos _ hb, Int.fmod_lt_of_pos _ hb⟩
    have cat : ∀ {H1}, But p H H1 → H1 c = some (.lst (cs.map V.int)) := fun h => h c _ nc hc
    have fin : ∀ {H1} {x1 x2 x3 x4 : Int} (i : Int), But p H H1 → 0 ≤ x1 → H1 p = some (.lst [.ref c, .int x1, .int x2, .int x3, .int x4]) → Q (.int (i.fmod b)) H1 := fun i bt h e => by
      have := q _ (i.fmod b).toNat (by have := hmod i; omega) ⟨cs, _, _, _, _, e, cat bt, hn, h⟩ bt
      rw [Int.toNat_of_nonneg (hmod i).1] at this
      exact this
    have hb3 : b ≠ 0 ∧ b.natAbs < 1073741824 := ⟨by omega, by omega⟩
    have hl : 0 < (cs.map V.int).length := by rw [List.length_map]; exact hn
    have tail : ∀ i : Int, 0 ≤ i.fmod ((cs.map V.int).length : Int) ∧ i.fmod ((cs.map V.int).length : Int) < cs.length := fun i => by
      rw [List.length_map]
      exact ⟨Int.fmod_nonneg_of_pos _ (by omega), Int.fmod_lt_of_pos _ (by omega)⟩
    obtain ⟨z, hz⟩ := get_int (cs := cs) (tail ct).1 (tail ct).2
    walk_at "s"
    have b1 : ∀ o, But p H (upd H p o) := fun o => (But.refl p H).upd
    have c1 : ∀ o, SqL K (upd H p o) c (cs.map V.int) := fun o => SqL.of (cat (b1 o))
    refine ite2 (fun e => ?_) (fun e => ?_)
    · refine ⟨_, rfl, .ref c, rfl, c, _, rfl, .inl (c1 _), ?_⟩
      walk_at "s"
      refine ite2 (fun e => ?_) (fun e => ?_)
      · walk_at "s"
        refine ite2 (fun e => ?_) (fun e => ?_)
        · walk_at "s"
          refine ⟨c, _, rfl, .inl (SqL.of (cat (b1 _).upd.upd)), ?_⟩
          walk_at "s"
          refine ite2 (fun e3 => ?_) (fun e3 => ?_)
          · have e4 : pl + 1 < ((cs.map V.int).length : Int) := of_decide_eq_true e3
            obtain ⟨z2, hz2⟩ := get_int (cs := cs) (i := pl + 1) (by omega) (by rw [List.length_map] at e4; exact e4)
            walk_at "s"
            refine ⟨_, _, _, _, rfl, rfl, SqL.of (cat (b1 _).upd.upd), hz2, ?_⟩
            walk_at "s"
            exact fin _ (b1 _).upd.upd.upd (by omega) upd_same
          · walk_at "s"
            exact fin _ (b1 _).upd.upd (by omega) upd_same
        · walk_at "s"
          exact fin _ (b1 _).upd hpl upd_same
      · walk_at "s"
        try (refine ⟨_, _, _, _, rfl, rfl, c1 _, hz, ?_⟩)
        walk_at "s"
        exact fin _ (b1 _) hpl upd_same
    · walk_at "s"
      try (refine ⟨_, _, _, _, rfl, rfl, c1 _, hz, ?_⟩)
      walk_at "s"
      exact fin _ (b1 _) hpl upd_same

theorem ok_law_source (T : Txt K mg A) : FnOk P w K mg base CX0 1 A.a_law_source A.d_law_source ["_law_script"] (spSource K) := by
  refine T.F_law_source.ok sc_law_source (fun vs H Q E h => ?_) (fun cdv A outer s H vs Q E hr h => ?_)
  · obtain ⟨a, ns, rfl, _⟩ := h
    rfl
  · obtain ⟨a, ns, rfl, hS, hl, q⟩ := h
    refine ⟨_, (pss_cons (ps_setLc (i := 2) (own := [("_law_cell", 1)]) rfl sc_law_source.nd rfl rfl (sw_true rfl rfl rfl (by decide +kernel)) (pi_list (pv 0)) (blkOk_by (own := [("_law_cell", 1)]) (N := N_law_source) (sc := defScope s_law_source) (by decide +kernel)) (fun _ _ _ _ _ => pg_name (i := 1) sc_law_source.nd rfl (Or.inl rfl)) (fun _ _ _ _ _ => pts_nil) (fun _ _ _ _ _ => by exact (pe_callB call_abs (by rfl) T.n_abs (by decide +kernel) (pa_cons (pe_callTy call_int1 (by rfl) T.n_int (by decide +kernel) (pa_cons (pv 1) pa_nil)) pa_nil))))
    (pss_cons (ps_if (pt_cmpR op_eq (pe_callB len_seq (by rfl) T.n_len (by decide +kernel) (pa_cons (pv 2) pa_nil)) pe_int (nomark _)) (pss_one (ps_set (i := 2) sc_law_source.nd rfl (.inl rfl) (pe_lst (pa_cons pe_int pa_nil)))) pss_nil)
    (pss_cons (ps_set (i := 3) sc_law_source.nd rfl (.inl rfl) pe_int)
    (pss_cons (ps_if (pt_cmpR op_lt (pe_ix ix_list (pv 2) pe_int (fun _ _ => rfl)) (pe_op op_pow pe_int pe_int) (nomark _)) (pss_one (ps_set (i := 3) sc_law_source.nd rfl (.inl rfl) (pe_op op_mod (pe_callTy call_int1 (by rfl) T.n_int (by decide +kernel) (pa_cons (pe_ix ix_list (pv 2) pe_int (fun _ _ => rfl)) pa_nil)) pe_int))) pss_nil)
    (pss_one (ps_ret (pe_lst (pa_cons (pv 2) (pa_cons pe_int (pa_cons (pe_ix ix_list (pv 2) pe_int (fun _ _ => rfl)) (pa_cons pe_int (pa_cons (pv 3) pa_nil)))))))))))), ?_⟩
    have w := walk_list (K := K) (a := a) (xs := ns.map V.int)
    refine ⟨_, rfl, a, rfl, ⟨_, hS⟩, fun D hD => ?_⟩
    have hx : ∀ {i : Nat} {x : V}, (ns.map V.int)[i]? = some x → x = .int (ns.getD i 0) := fun {i x} e => by
      rw [List.getElem?_map] at e
      cases h : ns[i]? with
      | none => rw [h] at e; cases e
      | some z =>
        rw [h] at e
        rw [List.getD_eq_getElem?_getD, h]
        exact (Option.some.inj e).symm
    refine lc_vals w (fun i x => (ns.map V.int)[i]? = some x) (fun i => .int (if ns.getD i 0 < 0 then -ns.getD i 0 else ns.getD i 0)) hD (fun H' e => e.seq hS) (by rw [List.length_map]; omega) (fun i H x H' _ y => y) (fun i x H' hi sm e Q q => ?_) (fun H1 s1 e1 => ?_)
    · rw [hx e]
      exact ⟨_, rfl, .inl ⟨_, rfl, _, rfl, q _ (Same.refl _)⟩⟩
    have e2 : H1 D = some (.lst (((List.range ns.length).map fun i => if ns.getD i 0 < 0 then -ns.getD i 0 else ns.getD i 0).map V.int)) := by
      rw [e1, List.map_map, List.length_map]
      rfl
    generalize hcs : ((List.range ns.length).map fun i => if ns.getD i 0 < 0 then -ns.getD i 0 else ns.getD i 0) = cs at e2
    clear hcs e1
    refine ⟨_, rfl, D, _, rfl, .inl (SqL.of e2), rfl, _, rfl, ite2 (fun e => ?_) (fun e => ?_)⟩
    · refine ⟨by decide, fun c hc => ?_⟩
      generalize hH : upd H1 c (.lst [V.int 5]) = H2
      have fc : H c = none := s1.free hc
      have ec : H2 c = some (.lst (([5] : List Int).map V.int)) := by rw [← hH]; exact upd_same
      have s2 : Same H1 H2 := by rw [← hH]; exact same_new hc
      have sm : Same H H2 := s1.trans s2
      have hl : 0 < ([5] : List Int).length := by decide
      generalize ([5] : List Int) = cs at ec hl
      clear hH hc
      obtain ⟨z, h0⟩ := get_int (cs := cs) (i := 0) (Int.le_refl 0) (by omega)
      have fin : ∀ (x1 x2 x3 x4 : Int) {H3 : Hp}, 0 ≤ x1 → Same H1 H3 → H3 = H2 → ∀ p, H3 p = none → Q (.ref p) (upd H3 p (.lst [.ref c, .int x1, .int x2, .int x3, .int x4])) := fun x1 x2 x3 x4 H3 h1 s3 e3 p hp => by
        subst e3
        exact q _ c _ (sm.trans (same_new hp)) fc (sm.free hp) ⟨cs, x1, x2, x3, x4, upd_same, by rw [upd_ne (ne_of_none ec hp)]; exact ec, hl, h1⟩
      refine ⟨.ref c, rfl, c, _, _, _, rfl, rfl, SqL.of ec, h0, _, _, rfl, rfl, ⟨by decide, by decide, by decide⟩, _, _, rfl, rfl, _, rfl, ite2 (fun e => ?_) (fun e => ?_)⟩
      · refine ⟨.ref c, rfl, c, _, _, _, rfl, rfl, SqL.of ec, h0, .inl ⟨_, rfl, _, _, rfl, rfl, (by show (0 : Int) < 2; decide), ?_⟩⟩
        refine ⟨.ref c, rfl, .ref c, rfl, c, _, _, _, rfl, rfl, SqL.of ec, h0, _, rfl, lenOk (n := 5) rfl (by decide), fun p hp => ?_⟩
        exact fin _ _ _ _ (Int.le_refl 0) s2 rfl p hp
      · refine ⟨.ref c, rfl, .ref c, rfl, c, _, _, _, rfl, rfl, SqL.of ec, h0, _, rfl, lenOk (n := 5) rfl (by decide), fun p hp => ?_⟩
        exact fin _ _ _ _ (Int.le_refl 0) s2 rfl p hp
    · have hl : 0 < cs.length := by
        cases cs with
        | nil => exact absurd (decide_eq_true rfl) e
        | cons => exact Nat.succ_pos _
      have ec := e2
      have fc : H D = none := hD
      generalize D = c at ec fc
      generalize hH : H1 = H2 at ec
      have s2 : Same H1 H2 := by rw [← hH]; exact Same.refl _
      have sm : Same H H2 := s1.trans s2
      obtain ⟨z, h0⟩ := get_int (cs := cs) (i := 0) (Int.le_refl 0) (by omega)
      have fin : ∀ (x1 x2 x3 x4 : Int) {H3 : Hp}, 0 ≤ x1 → Same H1 H3 → H3 = H2 → ∀ p, H3 p = none → Q (.ref p) (upd H3 p (.lst [.ref c, .int x1, .int x2, .int x3, .int x4])) := fun x1 x2 x3 x4 H3 h1 s3 e3 p hp => by
        subst e3
        exact q _ c _ (sm.trans (same_new hp)) fc (sm.free hp) ⟨cs, x1, x2, x3, x4, upd_same, by rw [upd_ne (ne_of_none ec hp)]; exact ec, hl, h1⟩
      refine ⟨.ref c, rfl, c, _, _, _, rfl, rfl, SqL.of ec, h0, _, _, rfl, rfl, ⟨by decide, by decide, by decide⟩, _, _, rfl, rfl, _, rfl, ite2 (fun e => ?_) (fun e => ?_)⟩
      · refine ⟨.ref c, rfl, c, _, _, _, rfl, rfl, SqL.of ec, h0, .inl ⟨_, rfl, _, _, rfl, rfl, (by show (0 : Int) < 2; decide), ?_⟩⟩
        refine ⟨.ref c, rfl, .ref c, rfl, c, _, _, _, rfl, rfl, SqL.of ec, h0, _, rfl, lenOk (n := 5) rfl (by decide), fun p hp => ?_⟩
        exact fin _ _ _ _ (Int.le_refl 0) s2 rfl p hp
      · refine ⟨.ref c, rfl, .ref c, rfl, c, _, _, _, rfl, rfl, SqL.of ec, h0, _, rfl, lenOk (n := 5) rfl (by decide), fun p hp => ?_⟩
        exact fin _ _ _ _ (Int.le_refl 0) s2 rfl p hp
def spNone : Sp := fun _ _ _ _ => False

end
end R1

namespace R1
open PySem PySem.Spec PyProof.Rows L2 RK PT
local macro_rules | `(tactic| walk_at "sq") => `(tactic| first
  | exact SqL.of upd_same | exact upd_same | exact SqL.of (by assumption) | exact SqL.of (by rw [upd_ne (by assumption)]; assumption) | assumption)
local macro_rules | `(tactic| walk_at "sd") => `(tactic| first
  | assumption | omega | (refine Or.inl ⟨?_, ?_⟩ <;> omega) | (show _ ∧ _; constructor <;> omega) | (show _ ≠ _; simp; omega) | (exact Or.inl ⟨by decide, by decide⟩) | (exact Or.inr ⟨by decide, by decide⟩) | (show _ < _; decide) | (show _ ≤ _; decide))
local macro_rules | `(tactic| walk_at "at") => `(tactic| first | rfl | (refine atI_intV ?_ ?_ <;> omega) | assumption)
local macro_rules | `(tactic| walk_at "s1") => `(tactic| first
  | refine ⟨_, rfl, ?_⟩ | refine ⟨_, _, rfl, rfl, ?_⟩ | refine ⟨rfl, ?_⟩
  | refine ⟨_, _, _, _, rfl, rfl, by walk_at "sq", by walk_at "at", ?_⟩
  | refine Or.inl ⟨_, rfl, ?_⟩
  | refine ⟨_, _, rfl, Or.inl (by walk_at "sq"), ?_⟩
  | refine And.intro (by walk_at "sd") ?_)
local macro_rules | `(tactic| walk_at "s") => `(tactic| repeat walk_at "s1")

def ThK (K : PySem.W.Frag) (H : Hp) (a : Addr) (ths : List (Nat × Nat)) : Prop := (∃ xs : List V, SqT K H a xs ∧ xs.length = ths.length ∧ ∀ (k : Nat) (t : Nat × Nat), ths[k]? = some t → ∃ p : Addr, xs[k]? = some (V.ref p) ∧ H p = some (.tup [.int (t.1 : Int), .int (t.2 : Int)])) ∧ ths.length ≤ 7 ∧ ∀ t ∈ ths, 1 ≤ t.2 ∧ t.2 ≤ 16
theorem ThK.up {K : PySem.W.Frag} {H H' : Hp} {a : Addr} {ths : List (Nat × Nat)} (h : ThK K H a ths) (e : Same H H') : ThK K H' a ths := by
  obtain ⟨⟨xs, h1, h2, h3⟩, h4⟩ := h
  exact ⟨⟨xs, sqT_up h1 e, h2, fun k t ht => let ⟨p, a1, a2⟩ := h3 k t ht; ⟨p, a1, e _ _ a2⟩⟩, h4⟩
def spAligned : Sp := fun vs H Q _ => ∃ e a : Nat, vs = [.int (e : Int), .int (a : Int)] ∧ 1 ≤ a ∧ a ≤ 16 ∧ Q (.int ((alN e a : Nat) : Int)) H
def spLaid : Sp := fun vs H Q _ => ∃ (e : Nat) (p : Addr) (t : Nat × Nat), vs = [.int (e : Int), .ref p] ∧ H p = some (.tup [.int (t.1 : Int), .int (t.2 : Int)]) ∧ 1 ≤ t.2 ∧ t.2 ≤ 16 ∧ Q (.int ((lb e t : Nat) : Int)) H
def spNumbers : Sp := fun vs H Q _ => ∃ m n : Nat, vs = [.int (m : Int), .int (n : Int)] ∧ n ≤ 1000 ∧ ∀ H' l, Same H H' → H l = none → H' l = some (.lst (intV (numsN m n))) → Q (.ref l) H'
def spLeastB (K : PySem.W.Frag) : Sp := fun vs H Q _ => ∃ (a e : Addr) (ths : List (Nat × Nat)) (es : List Nat) (m : Nat), vs = [.ref a, .ref e, .int (m : Int)] ∧ ThK K H a ths ∧ H e = some (.lst (intV es)) ∧ 0 < m ∧ m < 2 ^ ths.length ∧ m ≤ es.length ∧ ∀ H', Same H H' → Q (.int ((lbm ths es m : Nat) : Int)) H'
theorem pow7 {n : Nat} (h : n ≤ 7) : (∀ m, m = n → (2 : Int) ^ m = ((2 ^ m : Nat) : Int)) ∧ 1 ≤ 2 ^ n ∧ 2 ^ n ≤ 128 := by
  refine ⟨fun m _ => by rw [Int.natCast_pow]; rfl, Nat.two_pow_pos n, ?_⟩
  have := Nat.pow_le_pow_right (n := 2) (by decide) h
  exact this
/-- where a table breaks what shows that it is the least -/
def jd (ths : List (Nat × Nat)) (s : Nat) (es : List Nat) : Option Nat := if es.length ≠ 2 ^ ths.length ∨ es.getD 0 0 ≠ s then some 0 else (List.range' 1 (2 ^ ths.length - 1)).find? fun m => es.getD m 0 != lbm ths es m
def optV : Option Nat → V
  | none => .non
  | some m => .int (m : Int)
theorem find_rng {p : Nat → Bool} : ∀ (k a m : Nat), a ≤ m → m < a + k → (∀ j, a ≤ j → j < m → p j = false) → p m = true → (List.range' a k).find? p = some m
  | 0, a, m, h1, h2, _, _ => by omega
  | k + 1, a, m, h1, h2, h3, h4 => by
    rw [List.range'_succ, List.find?_cons]
    by_cases z : a = m
    · subst z
      rw [h4]
    · rw [h3 a (Nat.le_refl a) (by omega)]
      exact find_rng k (a + 1) m (by omega) (by omega) (fun j h5 h6 => h3 j (by omega) h6) h4
theorem find_rngN {p : Nat → Bool} : ∀ (k a : Nat), (∀ j, a ≤ j → j < a + k → p j = false) → (List.range' a k).find? p = none
  | 0, _, _ => rfl
  | k + 1, a, h => by
    rw [List.range'_succ, List.find?_cons, h a (Nat.le_refl a) (by omega)]
    exact find_rngN k (a + 1) fun j h1 h2 => h j (by omega) (by omega)
def spJudgeG (K : PySem.W.Frag) : Sp := fun vs H Q _ => ∃ (a e : Addr) (ths : List (Nat × Nat)) (s : Nat) (es : List Nat), vs = [.int (s : Int), .ref a, .ref e] ∧ ThK K H a ths ∧ H e = some (.lst (intV es)) ∧ es.length ≤ 1000 ∧ ∀ H', Same H H' → Q (optV (jd ths s es)) H'
def spLeastOf : Sp := fun vs H Q _ => ∃ (D : Addr) (L : List Nat), vs = [.ref D] ∧ H D = some (.lst (intV L)) ∧ L ≠ [] ∧ L.length ≤ 1000 ∧ Q (.int ((minL L : Nat) : Int)) H
section
variable {P : Program} {w : World} {K : PySem.W.Frag} {mg : Str → Option Value} {base : Heap} {A : Ads}
theorem ok_least_of (T : Txt K mg A) : FnOk P w K mg base CX0 1 A.a_least_of A.d_least_of ["numbers"] spLeastOf := by
  refine T.F_least_of.ok sc_least_of (fun vs H Q E h => ?_) (fun cdv B outer s H vs Q E hr h => ?_)
  · obtain ⟨D, L, rfl, _⟩ := h
    rfl
  · obtain ⟨D, L, rfl, hD, hne, hl, q⟩ := h
    refine ⟨_, (pss_cons (ps_set (i := 1) sc_least_of.nd rfl (.inl rfl) (pe_ix ix_list (pv 0) pe_int (fun _ _ => rfl)))
    (pss_cons (ps_for PassesOwn.never rfl (pi_list (pv 0)) (pg_name (i := 2) sc_least_of.nd rfl (.inl rfl))
      (pss_one (ps_if (pt_cmpR op_lt (pv 2) (pv 1) (nomark _)) (pss_one (ps_set (i := 1) sc_least_of.nd rfl (.inl rfl) (pv 2))) pss_nil)))
    (pss_one (ps_ret (pv 1))))), ?_⟩
    have hL0 : 0 < L.length := List.length_pos_iff.mpr hne
    have hat : ∀ j (hj : j < L.length), (intV L)[j]? = some (.int ((L[j] : Nat) : Int)) := fun j hj => by
      unfold intV
      rw [List.getElem?_map, List.getElem?_eq_getElem hj]
      rfl
    refine ⟨_, rfl, D, _, 0, _, rfl, rfl, SqL.of hD, atI_nat (j := 0) (hat 0 hL0), _, rfl, D, rfl, ⟨_, SqL.of hD⟩, ?_⟩
    have hil : (intV L).length = L.length := List.length_map ..
    refine for_it (walk_list (K := K) (a := D) (xs := intV L)) (fun i σ Hc => ∃ (x : Nat) (o3 : Option V), σ = [some (.ref D), some (.int (x : Int)), o3] ∧ Hc = H ∧ x ∈ L ∧ ∀ y ∈ L.take i, x ≤ y) ⟨_, _, rfl, rfl, List.getElem_mem hL0, fun y hy => by cases hy⟩ (fun i σ Hc _ y => ?_) (fun i x σ H7 H8 hi y e => ?_) (fun σ H7 y => ?_)
    · obtain ⟨_, _, _, rfl, _⟩ := y
      exact SqL.of hD
    · obtain ⟨rfl, e⟩ := e
      obtain ⟨m, o3, rfl, rfl, hm, hle⟩ := y
      rw [hil] at hi
      rw [hat i hi] at e
      cases e
      have htk : ∀ y ∈ L.take (i + 1), y ∈ L.take i ∨ y = L[i] := fun y hy => by
        rw [List.take_add_one, List.getElem?_eq_getElem hi] at hy
        rcases List.mem_append.mp hy with h | h
        · exact .inl h
        · exact .inr (by simpa using h)
      refine ⟨_, rfl, _, rfl, _, _, rfl, rfl, _, rfl, ifB (fun e => ?_) (fun e => ?_)⟩
      · have e := of_decide_eq_true e
        refine ⟨_, rfl, L[i], _, rfl, rfl, List.getElem_mem hi, fun y hy => ?_⟩
        rcases htk y hy with h | h
        · have := hle y h
          omega
        · omega
      · have e := of_decide_eq_false e
        refine ⟨m, _, rfl, rfl, hm, fun y hy => ?_⟩
        rcases htk y hy with h | h
        · exact hle y h
        · omega
    · obtain ⟨m, o3, rfl, rfl, hm, hle⟩ := y
      have h1 : m ≤ minL L := hle _ (by rw [hil, List.take_length]; exact minL_mem hne)
      have h2 : minL L ≤ m := minL_le hm
      have h3 : m = minL L := Nat.le_antisymm h1 h2
      rw [h3]
      exact ⟨_, rfl, q⟩
end
section
variable {P : Program} {w : World} {K : PySem.W.Frag} {mg : Str → Option Value} {base : Heap} {A : Ads}
theorem ok_aligned (T : Txt K mg A) : FnOk P w K mg base CX0 1 A.a_aligned A.d_aligned ["address", "align"] spAligned := by
  refine T.F_aligned.ok sc_aligned (fun vs H Q E h => ?_) (fun cdv B outer s H vs Q E hr h => ?_)
  · obtain ⟨e, a, rfl, _⟩ := h
    rfl
  · obtain ⟨e, a, rfl, h1, h16, q⟩ := h
    refine ⟨_, (pss_one (ps_ret (pe_op op_mul (pe_op op_fdivN (pe_op op_sub (pe_op op_add (pv 0) (pv 1)) pe_int) (pv 1)) (pv 1)))), ?_⟩
    walk_at "s"
    refine ⟨.inr ⟨by omega, by omega⟩, ?_⟩
    have e1 : (((e : Int) + (a : Int) - 1).fdiv (a : Int)) * (a : Int) = ((alN e a : Nat) : Int) := by
      unfold alN
      rw [show (e : Int) + (a : Int) - 1 = ((e + a - 1 : Nat) : Int) by omega, Int.fdiv_eq_ediv_of_nonneg _ (by omega)]
      exact congrArg (· * (a : Int)) (Int.natCast_ediv _ _).symm
    rw [← e1] at q
    exact q
theorem ok_laid_behind (T : Txt K mg A) : FnOk P w K mg base CX0 2 A.a_laid_behind A.d_laid_behind ["end", "thing"] spLaid := by
  refine T.F_laid_behind.ok sc_laid_behind (fun vs H Q E h => ?_) (fun cdv B outer s H vs Q E hr h => ?_)
  · obtain ⟨e, p, t, rfl, _⟩ := h
    rfl
  · obtain ⟨e, p, t, rfl, hp, h1, h16, q⟩ := h
    refine ⟨_, (pss_one (ps_ret (pe_op op_add (pe_call (ok_aligned T) (hr.mono (by omega)) rfl T.g_aligned T.F_aligned.kp T.b_aligned .nil pass0 (pa_cons (pv 0) (pa_cons (pe_ix ix_tup (pv 1) pe_int (fun _ _ => rfl)) pa_nil))) (pe_ix ix_tup (pv 1) pe_int (fun _ _ => rfl))))), ?_⟩
    refine ⟨_, rfl, _, rfl, p, _, 1, _, rfl, rfl, SqT.of hp, atI_nat (j := 1) rfl, e, t.2, rfl, h1, h16, ?_⟩
    exact ⟨_, rfl, p, _, 0, _, rfl, rfl, SqT.of hp, atI_nat (j := 0) rfl, _, _, rfl, rfl, q⟩
theorem ok_numbers_in (T : Txt K mg A) : FnOk P w K mg base CX0 1 A.a_numbers_in A.d_numbers_in ["chosen", "count"] spNumbers := by
  refine T.F_numbers_in.ok sc_numbers_in (fun vs H Q E h => ?_) (fun cdv B outer s H vs Q E hr h => ?_)
  · obtain ⟨e, p, rfl, _⟩ := h
    rfl
  · obtain ⟨m, n, rfl, hn, q⟩ := h
    refine ⟨_, (pss_one (ps_ret (pe_lc (own := [("number", 2)]) rfl sc_numbers_in.nd (pi_range1 (by rfl) T.n_range (pa_cons (pv 1) pa_nil)) (blkOk_by (own := [("number", 2)]) (N := N_numbers_in) (sc := defScope s_numbers_in) (by decide +kernel)) (fun _ _ _ _ _ => pg_name (i := 2) sc_numbers_in.nd rfl (Or.inl rfl)) (fun _ _ _ _ _ => pts_one (by exact (pt_cmpR op_eq (pe_op op_odd (pe_op op_shrN (pv 0) (pv 2)) pe_int) pe_int (nomark _)))) (fun _ _ _ _ _ => by exact (pv 2))))), ?_⟩
    refine ⟨_, rfl, (n : Int), rfl, by omega, by omega, fun D hD => ?_⟩
    rw [Int.toNat_natCast]
    refine lc_filt (walk_range (lo := 0) (n := n)) (fun i v => v = .int (i : Int)) (fun i => m / 2 ^ i % 2 == 1) (fun i => .int (i : Int)) hD (fun _ _ => trivial) (by omega) (fun i H1 v H2 hi y => ?_) (fun i v H4 hi sm hv Q q => ?_) (fun i v H4 hi hc sm hv Q q => ?_) (fun H4 s4 e4 => ?_)
    · refine ⟨y.1, ?_⟩
      rw [y.2]
      exact congrArg V.int (by omega)
    · subst hv
      refine ⟨_, rfl, _, rfl, (m : Int), i, rfl, rfl, m / 2 ^ i, ?_, rfl, rfl, _, rfl, ?_⟩
      · exact congrArg V.int (by rw [Int.natCast_ediv, Int.natCast_pow]; rfl)
      · have e1 : decide (V.int ((m / 2 ^ i % 2 : Nat) : Int) = V.int 1) = (m / 2 ^ i % 2 == 1) := by
          rw [Bool.eq_iff_iff, decide_eq_true_iff, beq_iff_eq]
          exact ⟨fun z => by have := V.int.inj z; omega, fun z => by rw [z]; rfl⟩
        rw [e1]
        exact q
    · subst hv
      exact ⟨_, rfl, q _ (Same.refl _)⟩
    · exact q _ _ s4 hD e4
theorem ok_least_behind (T : Txt K mg A) : FnOk P w K mg base CX0 3 A.a_least_behind A.d_least_behind ["things", "ends", "chosen"] (spLeastB K) := by
  refine T.F_least_behind.ok sc_least_behind (fun vs H Q E h => ?_) (fun cdv B outer s H vs Q E hr h => ?_)
  · obtain ⟨a, e, ths, es, m, rfl, _⟩ := h
    rfl
  · obtain ⟨a, e, ths, es, m, rfl, ht, he, hm0, hm, hml, q⟩ := h
    refine ⟨_, (pss_one (ps_ret (pe_call (ok_least_of T) (hr.mono (by omega)) rfl T.g_least_of T.F_least_of.kp T.b_least_of .nil pass0 (pa_cons (pe_lc (own := [("number", 3)]) rfl sc_least_behind.nd (pi_list (pe_call (ok_numbers_in T) (hr.mono (by omega)) rfl T.g_numbers_in T.F_numbers_in.kp T.b_numbers_in .nil pass0 (pa_cons (pv 2) (pa_cons (pe_callB len_seq (by rfl) T.n_len (by decide +kernel) (pa_cons (pv 0) pa_nil)) pa_nil)))) (blkOk_by (own := [("number", 3)]) (N := N_least_behind) (sc := defScope s_least_behind) (by decide +kernel)) (fun _ _ _ _ _ => pg_name (i := 3) sc_least_behind.nd rfl (Or.inl rfl)) (fun _ _ _ _ _ => pts_nil) (fun _ _ _ _ _ => by exact (pe_call (ok_laid_behind T) (hr.mono (by omega)) rfl T.g_laid_behind T.F_laid_behind.kp T.b_laid_behind .nil pass0 (pa_cons (pe_ix (r := rIxL K) ix_list (pv 1) (pe_op op_sub (pv 2) (pe_op op_oneShl pe_int (pv 3))) (fun _ _ => rfl)) (pa_cons (pe_ix (r := rIxT K) ix_tup (pv 0) (pv 3) (fun _ _ => rfl)) pa_nil))))) pa_nil)))), ?_⟩
    obtain ⟨⟨xs, hx, hxl, hxe⟩, h7, hgood⟩ := ht
    walk_at "s"
    refine ⟨a, xs, rfl, .inr hx, m, xs.length, rfl, by omega, fun H1 l s1 n1 e1 => ⟨l, rfl, ⟨_, SqL.of e1⟩, fun D hD => ?_⟩⟩
    rw [hxl] at e1
    have hnl : ∀ k ∈ numsN m ths.length, k < ths.length := fun k hk => List.mem_range.mp (List.mem_filter.mp hk).1
    have hpw := fun k (hk : k ∈ numsN m ths.length) => pow_le_of hk
    have hne := numsN_ne hm0 hm
    have hlbm : lbm ths es m = minL ((numsN m ths.length).map fun k => lb (es.getD (m - 2 ^ k) 0) (th ths k)) := rfl
    rw [hlbm] at q
    have hl7 : (numsN m ths.length).length ≤ 7 := by
      refine Nat.le_trans (List.length_filter_le _ _) ?_
      rw [List.length_range]
      exact h7
    generalize numsN m ths.length = nums at *
    have hll : (intV nums).length = nums.length := List.length_map ..
    have hat : ∀ i (hi : i < nums.length), (intV nums)[i]? = some (.int ((nums[i] : Nat) : Int)) := fun i hi => by
      unfold intV
      rw [List.getElem?_map, List.getElem?_eq_getElem hi]
      rfl
    refine lc_vals (walk_list (K := K) (a := l) (xs := intV nums)) (fun i v => (intV nums)[i]? = some v) (fun i => .int ((lb (es.getD (m - 2 ^ (nums.getD i 0)) 0) (th ths (nums.getD i 0)) : Nat) : Int)) hD (fun H4 s4 => SqL.of (s4 _ _ e1)) (by omega) (fun i H1 v H2 hi y => y) (fun i v H4 hi sm hv Q q => ?_) (fun H4 s4 e4 => ?_)
    · rw [hll] at hi
      rw [hat i hi] at hv
      cases hv
      have hk : nums[i] ∈ nums := List.getElem_mem hi
      have hgd : nums.getD i 0 = nums[i] := by rw [List.getD_eq_getElem?_getD, List.getElem?_eq_getElem hi]; rfl
      rw [hgd] at q
      generalize nums[i] = k at hk q
      have hkl := hnl k hk
      have hkp := hpw k hk
      have h2k : 0 < 2 ^ k := Nat.two_pow_pos k
      obtain ⟨pt, ep1, ep2⟩ := hxe k (th ths k) (by unfold th; rw [List.getD_eq_getElem?_getD, List.getElem?_eq_getElem hkl]; rfl)
      have hg := hgood (th ths k) (by unfold th; rw [List.getD_eq_getElem?_getD, List.getElem?_eq_getElem hkl]; exact List.getElem_mem hkl)
      have hsub : (m : Int) - 2 ^ k = ((m - 2 ^ k : Nat) : Int) := by
        have : ((2 : Int) ^ k) = ((2 ^ k : Nat) : Int) := by rw [Int.natCast_pow]; rfl
        rw [this]
        omega
      have hae : atI (intV es) ((m : Int) - 2 ^ k) = some (.int ((es.getD (m - 2 ^ k) 0 : Nat) : Int)) := by
        rw [hsub]
        refine atI_nat ?_
        unfold intV
        rw [List.getElem?_map, List.getElem?_eq_getElem (by omega), List.getD_eq_getElem?_getD, List.getElem?_eq_getElem (by omega)]
        rfl
      have s14 := s1.trans sm
      refine ⟨_, rfl, _, rfl, _, rfl, k, rfl, rfl, by omega, _, _, rfl, rfl, e, intV es, _, _, rfl, rfl, SqL.of (s14 _ _ he), hae, ?_⟩
      exact ⟨_, rfl, _, rfl, a, xs, _, _, rfl, rfl, sqT_up hx s14, atI_nat ep1, _, pt, th ths k, rfl, s14 _ _ ep2, hg.1, hg.2, q _ (Same.refl _)⟩
    · let L : List Nat := nums.map fun k => lb (es.getD (m - 2 ^ k) 0) (th ths k)
      have e5 : H4 D = some (.lst ((L.map fun n : Nat => (n : Int)).map V.int)) := by
        rw [e4, hll]
        show _ = some (HO.lst ((((nums.map fun k => lb (es.getD (m - 2 ^ k) 0) (th ths k))).map fun n : Nat => (n : Int)).map V.int))
        rw [List.map_map, List.map_map]
        exact congrArg (fun x => some (HO.lst x)) (range_getD (fun k => V.int ((lb (es.getD (m - 2 ^ k) 0) (th ths k) : Nat) : Int)) 0 nums)
      have hL : L ≠ [] := by simpa [L] using hne
      rw [← intV_ints] at e5
      exact ⟨D, L, rfl, e5, hL, by simp only [L, List.length_map]; omega, q _ (s1.trans s4)⟩
theorem ok_judge_ends (T : Txt K mg A) : FnOk P w K mg base CX0 4 A.a_judge_ends A.d_judge_ends ["start", "things", "ends"] (spJudgeG K) := by
  refine T.F_judge_ends.ok sc_judge_ends (fun vs H Q E h => ?_) (fun cdv B outer s H vs Q E hr h => ?_)
  · obtain ⟨a, e, ths, s, es, rfl, _⟩ := h
    rfl
  · obtain ⟨a, e, ths, s0, es, rfl, ht, he, hel, q⟩ := h
    refine ⟨_, (pss_cons (ps_if (PW.pt (pw_or (pt_cmpR op_ne (pe_callB len_seq (by rfl) T.n_len (by decide +kernel) (pa_cons (pv 2) pa_nil)) (pe_op op_oneShl pe_int (pe_callB len_seq (by rfl) T.n_len (by decide +kernel) (pa_cons (pv 1) pa_nil))) (nomark _)) (pw_or1 (pt_cmpR op_ne (pe_ix ix_list (pv 2) pe_int (fun _ _ => rfl)) (pv 0) (nomark _))))) (pss_one (ps_ret pe_int)) pss_nil)
    (pss_cons (ps_for PassesOwn.never rfl (pi_range2 (by rfl) T.n_range (pa_cons pe_int (pa_cons (pe_callB len_seq (by rfl) T.n_len (by decide +kernel) (pa_cons (pv 2) pa_nil)) pa_nil))) (pg_name (i := 3) sc_judge_ends.nd rfl (.inl rfl))
      (pss_one (ps_if (pt_cmpR op_ne (pe_ix ix_list (pv 2) (pv 3) (fun _ _ => rfl)) (pe_call (ok_least_behind T) (hr.mono (by omega)) rfl T.g_least_behind T.F_least_behind.kp T.b_least_behind .nil pass0 (pa_cons (pv 1) (pa_cons (pv 2) (pa_cons (pv 3) pa_nil)))) (nomark _)) (pss_one (ps_ret (pv 3))) pss_nil)))
    (pss_one (ps_ret pe_non)))), ?_⟩
    have ht0 := ht
    obtain ⟨⟨xs, hx, hxl, hxe⟩, h7, hgood⟩ := ht
    obtain ⟨hp, hp1, hp2⟩ := pow7 h7
    have hp := hp _ hxl
    have hil : (intV es).length = es.length := List.length_map ..
    walk_at "s"
    refine ⟨a, xs, rfl, .inr hx, xs.length, rfl, rfl, by omega, rfl, _, rfl, ?_⟩
    rw [hil, hp, hxl]
    unfold jd at q
    refine ite2 (fun c => ?_) (fun c => ?_)
    · have hne : es.length ≠ 2 ^ ths.length := fun z => by
        rw [z, decide_eq_true rfl] at c
        cases c
      rw [if_pos (.inl hne)] at q
      exact ifT rfl (q _ (Same.refl _))
    have hne : es.length = 2 ^ ths.length := Decidable.byContradiction fun z => c (by
      rw [decide_eq_false fun y => z (by have := V.int.inj y; omega)]
      rfl)
    have hat : ∀ m, m < 2 ^ ths.length → (intV es)[m]? = some (.int ((es.getD m 0 : Nat) : Int)) := fun m hm => by
      unfold intV
      rw [List.getElem?_map, List.getElem?_eq_getElem (by omega), List.getD_eq_getElem?_getD, List.getElem?_eq_getElem (by omega)]
      rfl
    have h0 := hat 0 (by omega)
    refine ⟨_, rfl, e, _, 0, _, rfl, rfl, SqL.of he, atI_nat (j := 0) h0, _, rfl, rfl, _, rfl, ?_⟩
    refine ifB (fun c2 => ?_) (fun c2 => ?_)
    · have hs : es.getD 0 0 ≠ s0 := fun z => by
        rw [z, decide_eq_true rfl] at c2
        cases c2
      rw [if_pos (.inr hs)] at q
      exact q _ (Same.refl _)
    have hs : es.getD 0 0 = s0 := Decidable.byContradiction fun z => by
      rw [decide_eq_false fun y => z (by have := V.int.inj y; omega)] at c2
      cases c2
    rw [if_neg (fun z => z.elim (fun y => y hne) (fun y => y hs))] at q
    refine ⟨_, rfl, e, _, rfl, .inl (SqL.of he), 1, _, rfl, ⟨by decide, by decide, by rw [hil]; omega, by rw [hil]; omega⟩, ?_⟩
    rw [hil, hne, show (((2 ^ ths.length : Nat) : Int) - 1).toNat = 2 ^ ths.length - 1 by omega]
    refine for_it (walk_range (lo := 1) (n := 2 ^ ths.length - 1)) (fun i σ Hc => ∃ o3, σ = [some (.int (s0 : Int)), some (.ref a), some (.ref e), o3] ∧ Same H Hc ∧ ∀ j, 1 ≤ j → j < i + 1 → (es.getD j 0 != lbm ths es j) = false) ⟨_, rfl, Same.refl _, fun j h1 h2 => by omega⟩ (fun _ _ _ _ _ => trivial) (fun i x σ H7 H8 hi y ee => ?_) (fun σ H7 y => ?_)
    · obtain ⟨rfl, rfl⟩ := ee
      obtain ⟨o3, rfl, sm, hno⟩ := y
      have hi1 := hat (i + 1) (by omega)
      have he8 := sm _ _ he
      have hix : atI (intV es) (1 + (i : Int)) = some (.int ((es.getD (i + 1) 0 : Nat) : Int)) := by
        rw [show 1 + (i : Int) = ((i + 1 : Nat) : Int) by omega]
        exact atI_nat hi1
      refine ⟨_, rfl, _, rfl, e, _, _, _, rfl, rfl, SqL.of he8, hix, _, rfl, _, rfl, _, rfl, a, e, ths, es, i + 1, congrArg (fun z => [V.ref a, V.ref e, V.int z]) (by omega), ht0.up sm, he8, by omega, by omega, by omega, fun H9 s9 => ?_⟩
      refine ⟨rfl, _, rfl, ifB (fun c3 => ?_) (fun c3 => ?_)⟩
      · have hc3 : (es.getD (i + 1) 0 != lbm ths es (i + 1)) = true := by
          rw [bne_iff_ne]
          intro z
          rw [z, decide_eq_true rfl] at c3
          cases c3
        rw [find_rng (2 ^ ths.length - 1) 1 (i + 1) (by omega) (by omega) (fun j h1 h2 => hno j h1 (by omega)) hc3] at q
        have := q H9 (sm.trans s9)
        rw [show optV (some (i + 1)) = V.int (1 + (i : Int)) from congrArg V.int (by omega)] at this
        exact ⟨_, rfl, this⟩
      · have hc3 : (es.getD (i + 1) 0 != lbm ths es (i + 1)) = false := by
          rw [bne_eq_false_iff_eq]
          exact Decidable.byContradiction fun z => by
            rw [decide_eq_false fun y => z (by have := V.int.inj y; omega)] at c3
            cases c3
        refine ⟨_, rfl, sm.trans s9, fun j h1 h2 => ?_⟩
        rcases Nat.lt_or_ge j (i + 1) with z | z
        · exact hno j h1 z
        · rw [show j = i + 1 by omega]
          exact hc3
    · obtain ⟨o3, rfl, sm, hno⟩ := y
      rw [find_rngN (2 ^ ths.length - 1) 1 fun j h1 h2 => hno j h1 (by omega)] at q
      exact q _ sm
end
end R1

namespace R1
open PySem PySem.Spec PyProof.Rows L2 RK PT
local macro_rules | `(tactic| walk_at "sq") => `(tactic| first
  | exact SqL.of upd_same | exact upd_same | exact SqL.of (by assumption) | exact SqL.of (by rw [upd_ne (by assumption)]; assumption) | assumption)
local macro_rules | `(tactic| walk_at "sd") => `(tactic| first
  | assumption | omega | (refine Or.inl ⟨?_, ?_⟩ <;> omega) | (show _ ∧ _; constructor <;> omega) | (show _ ≠ _; simp; omega) | (exact Or.inl ⟨by decide, by decide⟩) | (exact Or.inr ⟨by decide, by decide⟩) | (show _ < _; decide) | (show _ ≤ _; decide))
local macro_rules | `(tactic| walk_at "at") => `(tactic| first | rfl | (refine atI_intV ?_ ?_ <;> omega) | assumption)
local macro_rules | `(tactic| walk_at "s1") => `(tactic| first
  | refine ⟨_, rfl, ?_⟩ | refine ⟨_, _, rfl, rfl, ?_⟩ | refine ⟨rfl, ?_⟩
  | refine ⟨_, _, _, _, rfl, rfl, by walk_at "sq", by walk_at "at", ?_⟩
  | refine Or.inl ⟨_, rfl, ?_⟩
  | refine ⟨_, _, rfl, Or.inl (by walk_at "sq"), ?_⟩
  | refine And.intro (by walk_at "sd") ?_)
local macro_rules | `(tactic| walk_at "s") => `(tactic| repeat walk_at "s1")

theorem nums_len {m n : Nat} : (numsN m n).length ≤ n := Nat.le_trans (List.length_filter_le _ _) (by rw [List.length_range]; exact Nat.le_refl _)
def spIsNum : Sp := fun vs H Q _ => ∃ i : Int, vs = [.int i] ∧ Q (.bl true) H
def spThings (K : PySem.W.Frag) : Sp := fun vs H Q _ => ∃ (c p : Addr) (n : Nat), vs = [.ref p, .int (n : Int)] ∧ Src c H p ∧ n ≤ 7 ∧ ∀ H' a ths, ths.length = n → ThK K H' a ths → Src c H' p → But p H H' → Q (.ref a) H'
def RowsK (H : Hp) (xs : List V) (ths : List (Nat × Nat)) : Prop := xs.length = ths.length ∧ ∀ (k : Nat) (t : Nat × Nat), ths[k]? = some t → ∃ p : Addr, xs[k]? = some (V.ref p) ∧ H p = some (.tup [.int (t.1 : Int), .int (t.2 : Int)])
theorem RowsK.up {H H' : Hp} {xs : List V} {ths : List (Nat × Nat)} (h : RowsK H xs ths) (e : ∀ p o, H p = some (.tup o) → H' p = some (.tup o)) : RowsK H' xs ths := ⟨h.1, fun k t ht => let ⟨p, a, b⟩ := h.2 k t ht; ⟨p, a, e _ _ b⟩⟩
theorem src_tup {c p b : Addr} {H H' : Hp} {o : List V} (h : Src c H p) (bt : But p H H') (e : H b = some (.tup o)) : H' b = some (.tup o) := bt _ _ (fun z => by
  obtain ⟨_, _, _, _, _, y, _⟩ := h
  rw [← z, e] at y
  cases y) e
def OrdsK (K : PySem.W.Frag) (H : Hp) (xs : List V) (os : List (List Nat)) : Prop := xs.length = os.length ∧ ∀ (k : Nat) (o : List Nat), os[k]? = some o → ∃ p : Addr, xs[k]? = some (V.ref p) ∧ SqT K H p (intV o)
theorem OrdsK.up {K : PySem.W.Frag} {H H' : Hp} {xs : List V} {os : List (List Nat)} (h : OrdsK K H xs os) (e : Same H H') : OrdsK K H' xs os := ⟨h.1, fun k t ht => let ⟨p, a, b⟩ := h.2 k t ht; ⟨p, a, sqT_up b e⟩⟩
theorem sqT_put {K : PySem.W.Frag} {H : Hp} {D p : Addr} {xs ys zs : List V} (h : SqT K H p xs) (e : H D = some (.lst ys)) : SqT K (upd H D (.lst zs)) p xs := by
  rcases h with (h | ⟨o, h⟩) | h
  · exact .inl (.inl (by rw [upd_ne (fun y => by rw [y, e] at h; cases h)]; exact h))
  · exact .inl (.inr ⟨o, by rw [upd_ne (fun y => by rw [y, e] at h; cases h)]; exact h⟩)
  · exact .inr h
theorem OrdsK.put {K : PySem.W.Frag} {H : Hp} {D : Addr} {xs ys zs : List V} {os : List (List Nat)} (h : OrdsK K H xs os) (e : H D = some (.lst ys)) : OrdsK K (upd H D (.lst zs)) xs os := ⟨h.1, fun k t ht => let ⟨p, a, b⟩ := h.2 k t ht; ⟨p, a, sqT_put b e⟩⟩
theorem OrdsK.snoc {K : PySem.W.Frag} {H : Hp} {xs : List V} {os : List (List Nat)} {p : Addr} {o : List Nat} (h : OrdsK K H xs os) (e : SqT K H p (intV o)) : OrdsK K H (xs ++ [.ref p]) (os ++ [o]) := by
  refine ⟨by rw [List.length_append, List.length_append, h.1]; rfl, fun k t ht => ?_⟩
  rcases Nat.lt_or_ge k os.length with z | z
  · rw [List.getElem?_append_left z] at ht
    obtain ⟨pk, a1, a2⟩ := h.2 k t ht
    exact ⟨pk, by rw [List.getElem?_append_left (by rw [h.1]; exact z)]; exact a1, a2⟩
  · rw [List.getElem?_append_right z] at ht
    have hk0 : k - os.length = 0 := by
      rcases Nat.eq_zero_or_pos (k - os.length) with y | y
      · exact y
      · rw [List.getElem?_eq_none (by show 1 ≤ _; omega)] at ht
        cases ht
    rw [hk0] at ht
    cases ht
    exact ⟨p, by rw [List.getElem?_append_right (by rw [h.1]; exact z), h.1, hk0]; rfl, e⟩
theorem kp_len : ∀ (f : Nat) (ns : List Nat), (kp f ns).length ≤ ns.length ^ f
  | 0, ns => by rw [Nat.pow_zero]; exact Nat.le_refl _
  | f + 1, ns => by
    have : ∀ l : List Nat, (∀ x ∈ l, x ∈ ns) → (l.flatMap fun x => (kp f (ns.erase x)).map (x :: ·)).length ≤ l.length * ns.length ^ f := fun l => by
      induction l with
      | nil => intro _; simp
      | cons x r ih =>
        intro hl
        rw [List.flatMap_cons, List.length_append, List.length_map, List.length_cons, Nat.succ_mul]
        have h1 := kp_len f (ns.erase x)
        have h2 : (ns.erase x).length ^ f ≤ ns.length ^ f := Nat.pow_le_pow_left (by rw [List.length_erase_of_mem (hl x List.mem_cons_self)]; omega) f
        have h3 := ih fun y hy => hl y (List.mem_cons_of_mem _ hy)
        omega
    have h := this ns fun _ z => z
    show (ns.flatMap fun x => (kp f (ns.erase x)).map (x :: ·)).length ≤ _
    rw [Nat.pow_succ, Nat.mul_comm]
    exact h
theorem kp_each : ∀ (f : Nat) (ns : List Nat) (o : List Nat), o ∈ kp f ns → o.length = f
  | 0, ns, o, h => by rw [List.mem_singleton.mp h]; rfl
  | f + 1, ns, o, h => by
    obtain ⟨x, _, h2⟩ := List.mem_flatMap.mp h
    obtain ⟨o', h3, rfl⟩ := List.mem_map.mp h2
    rw [List.length_cons, kp_each f _ o' h3]
theorem inV_nat (k : Nat) (o : List Nat) : inV (.int (k : Int)) (intV o) = o.contains k := by
  unfold inV intV
  rw [List.any_map, Bool.eq_iff_iff, List.any_eq_true, List.contains_iff_mem]
  constructor
  · rintro ⟨x, hx, e⟩
    have : (x : Int) = (k : Int) := by
      have e2 : eqV (.int (x : Int)) (.int (k : Int)) = true := e
      have := of_decide_eq_true e2
      exact this
    have : x = k := by omega
    rw [← this]
    exact hx
  · intro hx
    exact ⟨k, hx, decide_eq_true rfl⟩
theorem int_flat (o : List Nat) : (intV o).all flatV = true := by
  unfold intV
  rw [List.all_map, List.all_eq_true]
  intro x _
  rfl
def spOrders (K : PySem.W.Frag) : Sp := fun vs H Q _ => ∃ (l : Addr) (ns : List Nat), vs = [.ref l] ∧ H l = some (.lst (intV ns)) ∧ ns.Nodup ∧ ns.length ≤ 6 ∧ ∀ H' r xs, Same H H' → H' r = some (.lst xs) → OrdsK K H' xs (kp ns.length ns) → Q (.ref r) H'
def ThQ (K : PySem.W.Frag) (H : Hp) (a : Addr) (ths : List (Nat × Nat)) : Prop := (∃ xs : List V, (SqL K H a xs ∨ SqT K H a xs) ∧ RowsK H xs ths) ∧ ths.length ≤ 6 ∧ ∀ t ∈ ths, 1 ≤ t.2 ∧ t.2 ≤ 16
theorem ThQ.of {K : PySem.W.Frag} {H : Hp} {a : Addr} {ths : List (Nat × Nat)} (h : ThK K H a ths) (h6 : ths.length ≤ 6) : ThQ K H a ths := by
  obtain ⟨⟨xs, h1, h2, h3⟩, h4, h5⟩ := h
  exact ⟨⟨xs, .inr h1, h2, h3⟩, h6, h5⟩
theorem ThQ.up {K : PySem.W.Frag} {H H' : Hp} {a : Addr} {ths : List (Nat × Nat)} (h : ThQ K H a ths) (e : Same H H') : ThQ K H' a ths := by
  obtain ⟨⟨xs, h1, h2⟩, h4⟩ := h
  exact ⟨⟨xs, h1.elim (fun z => .inl (sqL_up z e)) (fun z => .inr (sqT_up z e)), h2.up fun _ _ z => e _ _ z⟩, h4⟩
theorem ThQ.ix {K : PySem.W.Frag} {H : Hp} {a : Addr} {ths : List (Nat × Nat)} (h : ThQ K H a ths) {k : Nat} (hk : k < ths.length) {Q : VK} (q : ∀ p, H p = some (.tup [.int ((th ths k).1 : Int), .int ((th ths k).2 : Int)]) → Q (.ref p) H) : rIx K (.ref a) (.int (k : Int)) H Q := by
  obtain ⟨⟨xs, h1, h2⟩, h4⟩ := h
  obtain ⟨p, e1, e2⟩ := h2.2 k (th ths k) (by unfold th; rw [List.getD_eq_getElem?_getD, List.getElem?_eq_getElem hk]; rfl)
  rcases h1 with z | z
  · exact .inl ⟨a, xs, _, _, rfl, rfl, z, atI_nat e1, q p e2⟩
  · exact .inr (.inl ⟨a, xs, _, _, rfl, rfl, z, atI_nat e1, q p e2⟩)
def spEnd (K : PySem.W.Frag) : Sp := fun vs H Q _ => ∃ (a po : Addr) (ths : List (Nat × Nat)) (s : Nat) (o : List Nat), vs = [.int (s : Int), .ref a, .ref po] ∧ ThQ K H a ths ∧ SqT K H po (intV o) ∧ (∀ k ∈ o, k < ths.length) ∧ Q (.int ((endf ths s o : Nat) : Int)) H
section
variable {P : Program} {w : World} {K : PySem.W.Frag} {mg : Str → Option Value} {base : Heap} {A : Ads}
theorem ok_law_is_number (T : Txt K mg A) : FnOk P w K mg base CX0 1 A.a_law_is_number A.d_law_is_number ["_law_thing"] spIsNum := by
  refine T.F_law_is_number.ok sc_law_is_number (fun vs H Q E h => ?_) (fun cdv B outer s H vs Q E hr h => ?_)
  · obtain ⟨i, rfl, _⟩ := h
    rfl
  · obtain ⟨i, rfl, q⟩ := h
    refine ⟨_, (pss_one (ps_ret (pe_and (pe_callB call_isi (by rfl) T.n_isinstance (by decide +kernel) (pa_cons (pv 0) (pa_cons (pe_bltn (v := .ty "int") (u := .type "int") (by rfl) T.n_int (by decide +kernel) rfl) pa_nil))) (pe_one (pe_not (pe_callB call_isi (by rfl) T.n_isinstance (by decide +kernel) (pa_cons (pv 0) (pa_cons (pe_bltn (v := .ty "bool") (u := .type "bool") (by rfl) T.n_bool (by decide +kernel) rfl) pa_nil)))))))), ?_⟩
    refine ⟨_, rfl, .int i, .ty "int", _, _, _, rfl, .ty "int", dp_ty (K := K) (.int i), kit_ty (kitT _ (dp_tn (K := K) (H := H) (.int i)) "int" (by decide)), _, rfl, ?_⟩
    refine ifT rfl ⟨_, rfl, .int i, .ty "bool", _, _, _, rfl, .ty "bool", dp_ty (K := K) (.int i), kit_ty (kitT _ (dp_tn (K := K) (H := H) (.int i)) "bool" (by decide)), _, rfl, q⟩
theorem ok_law_things (T : Txt K mg A) : FnOk P w K mg base CX0 2 A.a_law_things A.d_law_things ["_law_source_here", "_law_count"] (spThings K) := by
  refine T.F_law_things.ok sc_law_things (fun vs H Q E h => ?_) (fun cdv B outer s H vs Q E hr h => ?_)
  · obtain ⟨c, p, n, rfl, _⟩ := h
    rfl
  · obtain ⟨c, p, n, rfl, hs, hn, q⟩ := h
    refine ⟨_, (pss_cons (ps_set (i := 2) sc_law_things.nd rfl (.inl rfl) (pe_ix ix_tup (pe_tup (pa_cons pe_int (pa_cons pe_int (pa_cons pe_int pa_nil)))) (pe_call (ok_law_draw T) (hr.mono (by omega)) rfl T.g_law_draw T.F_law_draw.kp T.b_law_draw .nil pass0 (pa_cons (pv 0) (pa_cons pe_int pa_nil))) (fun _ _ => rfl)))
    (pss_cons (ps_set (i := 3) sc_law_things.nd rfl (.inr rfl) (pe_lst pa_nil))
    (pss_cons (ps_for PassesOwn.never rfl (pi_range1 (by rfl) T.n_range (pa_cons (pv 1) pa_nil)) (pg_name (i := 4) sc_law_things.nd rfl (.inl rfl))
      (pss_cons (ps_set (i := 5) sc_law_things.nd rfl (.inl rfl) (pe_call (ok_law_draw T) (hr.mono (by omega)) rfl T.g_law_draw T.F_law_draw.kp T.b_law_draw .nil pass0 (pa_cons (pv 0) (pa_cons (pv 2) pa_nil))))
    (pss_one (ps_expr (pe_bm PySem.F.plainAttrs_list PySem.F.slot_list_append PySem.F.type_list_append mt_append (pv 3) (pa_cons (pe_tup (pa_cons (pv 5) (pa_cons (pe_ix ix_tup (pe_tup (pa_cons pe_int (pa_cons pe_int (pa_cons pe_int (pa_cons pe_int (pa_cons pe_int pa_nil)))))) (pe_call (ok_law_draw T) (hr.mono (by omega)) rfl T.g_law_draw T.F_law_draw.kp T.b_law_draw .nil pass0 (pa_cons (pv 0) (pa_cons pe_int pa_nil))) (fun _ _ => rfl)) pa_nil))) pa_nil))))))
    (pss_cons (ps_if (PW.pt (pw_and (pt_cmpR op_gt (pv 1) pe_int (nomark _)) (pw_and1 (pt_cmpR op_eq (pe_call (ok_law_draw T) (hr.mono (by omega)) rfl T.g_law_draw T.F_law_draw.kp T.b_law_draw .nil pass0 (pa_cons (pv 0) (pa_cons pe_int pa_nil))) pe_int (nomark _))))) (pss_one (ps_set (i := 3) sc_law_things.nd rfl (.inr rfl) (pe_op op_cat (pe_lc (own := [("_law_k", 4)]) rfl sc_law_things.nd (pi_range1 (by rfl) T.n_range (pa_cons (pe_op op_sub (pv 1) pe_int) pa_nil)) (blkOk_by (own := [("_law_k", 4)]) (N := N_law_things) (sc := defScope s_law_things) (by decide +kernel)) (fun _ _ _ _ _ => pg_name (i := 4) sc_law_things.nd rfl (Or.inl rfl)) (fun _ _ _ _ _ => pts_nil) (fun _ _ _ _ _ => by exact (pe_ix (r := rIxL K) ix_list (pv 3) pe_int (fun _ _ => rfl)))) (pe_lst (pa_cons (pe_ix ix_list (pv 3) (pe_op op_sub (pv 1) pe_int) (fun _ _ => rfl)) pa_nil))))) pss_nil)
    (pss_one (ps_ret (pe_callTy tuple_of (by rfl) T.n_tuple (by decide +kernel) (pa_cons (pv 3) pa_nil)))))))), ?_⟩
    walk_at "s"
    intro tp ntp
    have s1 := same_new (o := .tup [V.int 10, V.int 10, V.int 121]) ntp
    refine ⟨_, rfl, c, p, 3, rfl, src_up hs s1, by decide, by decide, fun H2 k lk hs2 b2 => ?_⟩
    obtain ⟨b, hb0, hb1, hat⟩ : ∃ b : Nat, 0 < b ∧ b ≤ 121 ∧ atI [V.int 10, V.int 10, V.int 121] (k : Int) = some (.int (b : Int)) := by
      match k, lk with
      | 0, _ => exact ⟨10, by decide, by decide, rfl⟩
      | 1, _ => exact ⟨10, by decide, by decide, rfl⟩
      | 2, _ => exact ⟨121, by decide, by decide, rfl⟩
      | n + 3, h => exact absurd h (by omega)
    have tp2 := src_tup (src_up hs s1) b2 (show (upd H tp (.tup [V.int 10, V.int 10, V.int 121])) tp = some (.tup [V.int 10, V.int 10, V.int 121]) from upd_same)
    refine ⟨_, _, _, _, rfl, rfl, SqT.of tp2, hat, ?_⟩
    have b12 := (But.of (p := p) s1).trans b2
    clear tp2 b2 s1 hs ntp
    walk_at "s"
    intro D nD
    have hDp : D ≠ p := fun z => by rw [z] at nD; exact src_ne hs2 nD
    have hDc : D ≠ c := fun z => by rw [z] at nD; exact src_cne hs2 nD
    have hHD : H D = none := by
      cases hh : H D with
      | none => rfl
      | some o => rw [b12 _ _ hDp hh] at nD; cases nD
    generalize hH3 : upd H2 D _ = H3
    have s3 : Same H2 H3 := by rw [← hH3]; exact same_new nD
    have e3 : H3 D = some (.lst []) := by rw [← hH3]; exact upd_same
    clear hH3
    have hs3 := src_up hs2 s3
    have b13 := b12.trans (But.of s3)
    clear s3 hs2 b12 lk hat
    refine ⟨_, rfl, (n : Int), rfl, by omega, by omega, ?_⟩
    rw [Int.toNat_natCast]
    refine for_it (walk_range (lo := 0) (n := n)) (fun i σ Hc => ∃ xs ths o4 o5, σ = [some (.ref p), some (.int (n : Int)), some (.int (b : Int)), some (.ref D), o4, o5] ∧ Src c Hc p ∧ But p H Hc ∧ Hc D = some (.lst xs) ∧ RowsK Hc xs ths ∧ ths.length = i ∧ ∀ t ∈ ths, 1 ≤ t.2 ∧ t.2 ≤ 16) ⟨[], [], _, _, rfl, hs3, b13, e3, ⟨rfl, fun k t h => by cases h⟩, rfl, fun t h => by cases h⟩ (fun _ _ _ _ _ => trivial) (fun i x σ H7 H8 hi y e => ?_) (fun σ H7 y => ?_)
    · obtain ⟨rfl, rfl⟩ := e
      obtain ⟨xs, ths, o4, o5, rfl, hs4, b4, e4, hr4, hl4, hg4⟩ := y
      refine ⟨_, rfl, _, rfl, c, p, b, rfl, hs4, by omega, by omega, fun H5 sz lsz hs5 b5 => ?_⟩
      have e5 := b5 _ _ hDp e4
      refine ⟨_, rfl, .inl ⟨rfl, _, SqL.of e5⟩, _, rfl, lenOk (n := 5) rfl (by decide), fun tq ntq => ?_⟩
      have s6 := same_new (o := .tup [V.int 1, V.int 2, V.int 4, V.int 8, V.int 16]) ntq
      refine ⟨_, rfl, c, p, 5, rfl, src_up hs5 s6, by decide, by decide, fun H6 k5 l5 hs6 b6 => ?_⟩
      obtain ⟨al, ha1, ha2, hat⟩ : ∃ b : Nat, 1 ≤ b ∧ b ≤ 16 ∧ atI [V.int 1, V.int 2, V.int 4, V.int 8, V.int 16] (k5 : Int) = some (.int (b : Int)) := by
        match k5, l5 with
        | 0, _ => exact ⟨1, by decide, by decide, rfl⟩
        | 1, _ => exact ⟨2, by decide, by decide, rfl⟩
        | 2, _ => exact ⟨4, by decide, by decide, rfl⟩
        | 3, _ => exact ⟨8, by decide, by decide, rfl⟩
        | 4, _ => exact ⟨16, by decide, by decide, rfl⟩
        | n + 5, h => exact absurd h (by omega)
      have tq2 := src_tup (src_up hs5 s6) b6 (show (upd H5 tq (.tup [V.int 1, V.int 2, V.int 4, V.int 8, V.int 16])) tq = some (.tup [V.int 1, V.int 2, V.int 4, V.int 8, V.int 16]) from upd_same)
      refine ⟨tq, _, _, _, rfl, rfl, SqT.of tq2, hat, lenOk (n := 2) rfl (by decide), fun tr ntr => ?_⟩
      have e6 := b6 _ _ hDp (s6 _ _ e5)
      have b46 := (b5.trans (But.of s6)).trans b6
      have hr6 : RowsK H6 xs ths := hr4.up fun _ _ h => src_tup hs4 b46 h
      clear hr4 e4 e5 tq2 hat s6 b5 b6 hs5 hs4 ntq
      have hDr : tr ≠ D := fun z => by rw [z, e6] at ntr; cases ntr
      refine ⟨D, xs, V.ref tr, rfl, rfl, (same_new ntr) _ _ e6, ?_, xs ++ [V.ref tr], ths ++ [(sz, al)], _, _, rfl, src_put (src_up hs6 (same_new ntr)) hDp hDc, but_new ((b4.trans b46).trans (But.of (same_new ntr))) hHD, upd_same, ⟨?_, fun k t ht => ?_⟩, ?_, fun t ht => ?_⟩
      · rw [hr6.1, hl4]
        exact Nat.lt_of_lt_of_le (show i < 100 by omega) (by decide)
      · rw [List.length_append, List.length_append, hr6.1]
        rfl
      · rcases Nat.lt_or_ge k ths.length with z | z
        · rw [List.getElem?_append_left z] at ht
          obtain ⟨pk, a1, a2⟩ := hr6.2 k t ht
          refine ⟨pk, ?_, ?_⟩
          · rw [List.getElem?_append_left (by rw [hr6.1]; exact z)]
            exact a1
          · rw [upd_ne (fun y => by rw [y, e6] at a2; cases a2)]
            exact (same_new ntr) _ _ a2
        · rw [List.getElem?_append_right z] at ht
          have hk0 : k - ths.length = 0 := by
            rcases Nat.eq_zero_or_pos (k - ths.length) with y | y
            · exact y
            · rw [List.getElem?_eq_none (by show 1 ≤ _; omega)] at ht
              cases ht
          rw [hk0] at ht
          cases ht
          refine ⟨tr, ?_, ?_⟩
          · rw [List.getElem?_append_right (by rw [hr6.1]; exact z), hr6.1, hk0]
            rfl
          · rw [upd_ne hDr]
            exact upd_same
      · rw [List.length_append, hl4]
        rfl
      · rcases List.mem_append.mp ht with z | z
        · exact hg4 t z
        · rw [List.mem_singleton.mp z]
          exact ⟨ha1, ha2⟩
    · obtain ⟨xs, ths, o4, o5, rfl, hs4, b4, e4, hr4, hl4, hg4⟩ := y
      have hxl : xs.length = n := by rw [hr4.1, hl4]
      have fin : ∀ (H9 : Hp) (D9 : Addr) (ys : List V) (t9 : List (Nat × Nat)), Src c H9 p → But p H H9 → H9 D9 = some (.lst ys) → RowsK H9 ys t9 → t9.length = n → (∀ t ∈ t9, 1 ≤ t.2 ∧ t.2 ≤ 16) → ∀ wt, H9 wt = none → Q (.ref wt) (upd H9 wt (.tup ys)) := fun H9 D9 ys t9 hs9 b9 e9 hr9 hl9 hg9 wt hwt =>
        q _ wt t9 hl9 ⟨⟨ys, SqT.of upd_same, hr9.1, (hr9.up fun _ _ h => (same_new hwt) _ _ h).2⟩, by omega, hg9⟩ (src_up hs9 (same_new hwt)) (b9.trans (But.of (same_new hwt)))
      refine ⟨_, rfl, _, _, rfl, rfl, _, rfl, ite2 (fun c1 => ?_) (fun c1 => ?_)⟩
      · have hn1 : 1 < n := by
          have : (1 : Int) < (n : Int) := of_decide_eq_true c1
          omega
        refine ⟨_, rfl, c, p, 3, rfl, hs4, by decide, by decide, fun H8 r lr hs8 b8 => ⟨rfl, _, rfl, ifB (fun c2 => ?_) (fun c2 => ?_)⟩⟩
        · have e8 := b8 _ _ hDp e4
          have hr8 : RowsK H8 xs ths := hr4.up fun _ _ h => src_tup hs4 b8 h
          have h0 : 0 < ths.length := by omega
          have hz : n - 1 < ths.length := by omega
          obtain ⟨p0, x0, g0⟩ := hr8.2 0 ths[0] (List.getElem?_eq_getElem h0)
          obtain ⟨p1, x1, g1⟩ := hr8.2 (n - 1) ths[n - 1] (List.getElem?_eq_getElem hz)
          have q0 := hg4 ths[0] (List.getElem_mem h0)
          have q1 := hg4 ths[n - 1] (List.getElem_mem hz)
          generalize ths[0] = t0 at g0 q0
          generalize ths[n - 1] = t1 at g1 q1
          have hat1 : atI xs ((n : Int) - 1) = some (.ref p1) := by
            rw [show (n : Int) - 1 = ((n - 1 : Nat) : Int) by omega]
            exact atI_nat x1
          refine ⟨_, rfl, _, _, rfl, rfl, (n : Int) - 1, rfl, by omega, by omega, fun D2 nD2 => ?_⟩
          rw [show ((n : Int) - 1).toNat = n - 1 by omega]
          refine lc_vals (walk_range (lo := 0) (n := n - 1)) (fun i v => True) (fun i => .ref p0) nD2 (fun _ _ => trivial) (by omega) (fun i H1 v H2 hi y => ⟨y.1, trivial⟩) (fun i v H9 hi sm hv Q q => ?_) (fun H9 s9 e9 => ?_)
          · exact ⟨_, rfl, D, xs, 0, _, rfl, rfl, SqL.of (sm _ _ e8), atI_nat (j := 0) x0, q _ (Same.refl _)⟩
          refine ⟨_, rfl, _, rfl, _, _, rfl, rfl, D, xs, _, _, rfl, rfl, SqL.of (s9 _ _ e8), hat1, lenOk (n := 1) rfl (by decide), fun D3 nD3 => ?_⟩
          have hly : ((List.range (n - 1)).map fun _ => V.ref p0).length = n - 1 := by rw [List.length_map, List.length_range]
          refine ⟨D2, D3, _, _, rfl, rfl, (same_new nD3) _ _ e9, upd_same, ?_, fun D4 nD4 => ?_⟩
          · rw [hly]
            exact Nat.le_trans (show n - 1 + 1 ≤ 100 by omega) (by decide)
          have sA := s9.trans ((same_new (o := .lst [V.ref p1]) nD3).trans (same_new (o := .lst (((List.range (n - 1)).map fun _ => V.ref p0) ++ [V.ref p1])) nD4))
          have eA : (upd (upd H9 D3 (.lst [V.ref p1])) D4 (.lst (((List.range (n - 1)).map fun _ => V.ref p0) ++ [V.ref p1]))) D4 = some (.lst (((List.range (n - 1)).map fun _ => V.ref p0) ++ [V.ref p1])) := upd_same
          generalize upd (upd H9 D3 (.lst [V.ref p1])) D4 (.lst (((List.range (n - 1)).map fun _ => V.ref p0) ++ [V.ref p1])) = HA at sA eA ⊢
          refine ⟨_, rfl, D4, _, rfl, .inl ⟨SqL.of eA, fun wt hwt => fin HA D4 _ (((List.range (n - 1)).map fun _ => t0) ++ [t1]) (src_up hs8 sA) ((b4.trans b8).trans (But.of sA)) eA ⟨?_, fun k t ht => ?_⟩ ?_ (fun t ht => ?_) wt hwt⟩⟩
          · rw [List.length_append, List.length_append, hly, List.length_map, List.length_range]
            rfl
          · rcases Nat.lt_or_ge k (n - 1) with z | z
            · rw [List.getElem?_append_left (by rw [List.length_map, List.length_range]; exact z), List.getElem?_map, List.getElem?_range z] at ht
              cases ht
              refine ⟨p0, ?_, sA _ _ g0⟩
              rw [List.getElem?_append_left (by rw [hly]; exact z), List.getElem?_map, List.getElem?_range z]
              rfl
            · rw [List.getElem?_append_right (by rw [List.length_map, List.length_range]; exact z), List.length_map, List.length_range] at ht
              have hk0 : k - (n - 1) = 0 := by
                rcases Nat.eq_zero_or_pos (k - (n - 1)) with y | y
                · exact y
                · rw [List.getElem?_eq_none (by show 1 ≤ _; omega)] at ht
                  cases ht
              rw [hk0] at ht
              cases ht
              refine ⟨p1, ?_, sA _ _ g1⟩
              rw [List.getElem?_append_right (by rw [hly]; exact z), hly, hk0]
              rfl
          · rw [List.length_append, List.length_map, List.length_range]
            show n - 1 + 1 = n
            omega
          · rcases List.mem_append.mp ht with z | z
            · obtain ⟨_, _, rfl⟩ := List.mem_map.mp z
              exact q0
            · rw [List.mem_singleton.mp z]
              exact q1
        · have e8 := b8 _ _ hDp e4
          have hr8 : RowsK H8 xs ths := hr4.up fun _ _ h => src_tup hs4 b8 h
          exact ⟨_, rfl, D, _, rfl, .inl ⟨SqL.of e8, fun wt hwt => fin H8 D xs ths hs8 (b4.trans b8) e8 hr8 hl4 hg4 wt hwt⟩⟩
      · refine ifF rfl ?_
        exact ⟨_, rfl, D, _, rfl, .inl ⟨SqL.of e4, fun wt hwt => fin H7 D xs ths hs4 b4 e4 hr4 hl4 hg4 wt hwt⟩⟩
theorem ok_law_orders (T : Txt K mg A) : FnOk P w K mg base CX0 1 A.a_law_orders A.d_law_orders ["_law_numbers"] (spOrders K) := by
  refine T.F_law_orders.ok sc_law_orders (fun vs H Q E h => ?_) (fun cdv B outer s H vs Q E hr h => ?_)
  · obtain ⟨l, ns, rfl, _⟩ := h
    rfl
  · obtain ⟨l, ns, rfl, hl, hnd, hn6, q⟩ := h
    refine ⟨_, (pss_cons (ps_set (i := 1) sc_law_orders.nd rfl (.inl rfl) (pe_lst (pa_cons (pe_tup pa_nil) pa_nil)))
    (pss_cons (ps_for PassesOwn.never rfl (pi_range1 (by rfl) T.n_range (pa_cons (pe_callB len_seq (by rfl) T.n_len (by decide +kernel) (pa_cons (pv 0) pa_nil)) pa_nil)) (pg_name (i := 2) sc_law_orders.nd rfl (.inl rfl))
      (pss_cons (ps_set (i := 3) sc_law_orders.nd rfl (.inl rfl) (pe_lst pa_nil))
    (pss_cons (ps_for PassesOwn.never rfl (pi_list (pe_callTy list_of (by rfl) T.n_list (by decide +kernel) (pa_cons (pv 1) pa_nil))) (pg_name (i := 4) sc_law_orders.nd rfl (.inl rfl))
      (pss_one (ps_for PassesOwn.never rfl (pi_list (pv 0)) (pg_name (i := 5) sc_law_orders.nd rfl (.inl rfl))
      (pss_one (ps_if (pt_cmpR op_notIn_seq (pv 5) (pv 4) (by rfl)) (pss_one (ps_expr (pe_bm PySem.F.plainAttrs_list PySem.F.slot_list_append PySem.F.type_list_append mt_append (pv 3) (pa_cons (pe_op op_catA (pv 4) (pe_tup (pa_cons (pv 5) pa_nil))) pa_nil)))) pss_nil)))))
    (pss_one (ps_set (i := 1) sc_law_orders.nd rfl (.inl rfl) (pv 3))))))
    (pss_one (ps_ret (pv 1))))), ?_⟩
    have hll : (intV ns).length = ns.length := List.length_map ..
    walk_at "s"
    intro t0 n0
    refine ⟨lenOk (n := 1) rfl (by decide), fun F0 nF0 => ?_⟩
    generalize hH1 : upd (upd H t0 _) F0 _ = H1
    have s1 : Same H H1 := by rw [← hH1]; exact (same_new n0).trans (same_new nF0)
    have e1 : H1 F0 = some (.lst [.ref t0]) := by rw [← hH1]; exact upd_same
    have e0 : SqT K H1 t0 (intV []) := by rw [← hH1]; exact SqT.of ((same_new nF0) _ _ upd_same)
    clear hH1 n0 nF0
    refine ⟨_, rfl, l, _, rfl, .inl (SqL.of (s1 _ _ hl)), (((intV ns).length : Nat) : Int), rfl, by omega, by omega, ?_⟩
    rw [Int.toNat_natCast, hll]
    refine for_it (walk_range (lo := 0) (n := ns.length)) (fun i σ Hc => ∃ F xs o2 o3 o4 o5, σ = [some (.ref l), some (.ref F), o2, o3, o4, o5] ∧ Same H Hc ∧ Hc F = some (.lst xs) ∧ OrdsK K Hc xs (kp i ns)) ⟨F0, _, _, _, _, _, rfl, s1, e1, rfl, fun k o ho => ?_⟩ (fun _ _ _ _ _ => trivial) (fun i x σ H7 H8 hi y e => ?_) (fun σ H7 y => ?_)
    · have : k = 0 ∧ o = [] := by
        match k, ho with
        | 0, ho => exact ⟨rfl, (Option.some.inj ho).symm⟩
      rw [this.1, this.2]
      exact ⟨t0, rfl, e0⟩
    · obtain ⟨rfl, rfl⟩ := e
      obtain ⟨F, xs, o2, o3, o4, o5, rfl, sm, eF, hO⟩ := y
      refine ⟨lenOk (n := 0) rfl (by decide), fun D nD => ?_⟩
      have eF2 : (upd H8 D (.lst [])) F = some (.lst xs) := (same_new nD) _ _ eF
      refine ⟨_, rfl, F, xs, rfl, .inl (SqL.of eF2), fun Lc nLc => ?_⟩
      generalize hHa : upd (upd H8 D _) Lc _ = Ha
      have sa : Same H8 Ha := by rw [← hHa]; exact (same_new nD).trans (same_new nLc)
      have eL : Ha Lc = some (.lst xs) := by rw [← hHa]; exact upd_same
      have nLD : Lc ≠ D := fun z => by rw [z, upd_same] at nLc; cases nLc
      have eD : Ha D = some (.lst []) := by rw [← hHa]; exact (same_new nLc) _ _ upd_same
      clear hHa nLc eF2
      have hOxs := hO.1
      have hex : ∀ l2 : List (List Nat), (l2.flatMap (ext ns)).length ≤ l2.length * ns.length := fun l2 => by
        induction l2 with
        | nil => simp
        | cons o r ih =>
          rw [List.flatMap_cons, List.length_append, List.length_cons, Nat.succ_mul]
          have : (ext ns o).length ≤ ns.length := by
            unfold ext
            rw [List.length_map]
            exact List.length_filter_le _ _
          omega
      have hkb : (kp i ns).length ≤ 7776 := by
        refine Nat.le_trans (kp_len i ns) (Nat.le_trans (Nat.pow_le_pow_left hn6 i) ?_)
        exact Nat.le_trans (Nat.pow_le_pow_right (n := 6) (by decide) (show i ≤ 5 by omega)) (by decide)
      rw [← kp_ext i hnd]
      generalize hkps : kp i ns = ks at *
      refine ⟨Lc, rfl, ⟨_, SqL.of eL⟩, for_it (walk_list (K := K) (a := Lc) (xs := xs)) (fun j σ Hd => ∃ ys o4 o5, σ = [some (.ref l), some (.ref F), some (.int (0 + (i : Int))), some (.ref D), o4, o5] ∧ Same H8 Hd ∧ Hd Lc = some (.lst xs) ∧ Hd D = some (.lst ys) ∧ OrdsK K Hd ys ((ks.take j).flatMap (ext ns))) ⟨[], _, _, rfl, sa, eL, eD, rfl, fun k o ho => by cases ho⟩ (fun j σ Hd _ y => ?_) (fun j x σ Hd He hj y ee => ?_) (fun σ Hd y => ?_)⟩
      · obtain ⟨_, _, _, _, _, eLd, _⟩ := y
        exact SqL.of eLd
      · obtain ⟨ys, o4, o5, rfl, sd, eLd, eDd, hOd⟩ := y
        obtain ⟨rfl, ex⟩ := ee
        rw [hOxs] at hj
        obtain ⟨po, ep1, ep2⟩ := hO.2 j ks[j] (List.getElem?_eq_getElem hj)
        rw [ep1] at ex
        cases ex
        have htk : (ks.take (j + 1)).flatMap (ext ns) = (ks.take j).flatMap (ext ns) ++ ext ns ks[j] := by
          rw [List.take_add_one, List.getElem?_eq_getElem hj, List.flatMap_append]
          show _ ++ ([ks[j]].flatMap (ext ns)) = _
          rw [List.flatMap_cons, List.flatMap_nil, List.append_nil]
        have hbl : ((ks.take j).flatMap (ext ns)).length ≤ 46656 := by
          refine Nat.le_trans (hex _) ?_
          rw [List.length_take]
          have h1 : min j ks.length ≤ 7776 := by omega
          exact Nat.le_trans (Nat.mul_le_mul h1 hn6) (by decide)
        have hol : ks[j].length ≤ 6 := by
          have hm : ks[j] ∈ kp i ns := by rw [hkps]; exact List.getElem_mem hj
          have := kp_each i ns _ hm
          omega
        rw [htk]
        generalize (ks.take j).flatMap (ext ns) = base0 at *
        generalize ks[j] = o at *
        refine ⟨_, rfl, l, rfl, ⟨_, SqL.of (sd _ _ (sm _ _ hl))⟩, for_it (walk_list (K := K) (a := l) (xs := intV ns)) (fun t σ Hx => ∃ ys o5, σ = [some (.ref l), some (.ref F), some (.int (0 + (i : Int))), some (.ref D), some (.ref po), o5] ∧ Same H8 Hx ∧ Hx Lc = some (.lst xs) ∧ Hx D = some (.lst ys) ∧ OrdsK K Hx ys (base0 ++ ((ns.take t).filter fun y => !(o.contains y)).map fun y => o ++ [y])) ⟨ys, _, rfl, sd, eLd, eDd, by rw [List.take_zero, List.filter_nil, List.map_nil, List.append_nil]; exact hOd⟩ (fun t σ Hx _ y => ?_) (fun t x σ Hx Hy ht y ee => ?_) (fun σ Hx y => ?_)⟩
        · obtain ⟨_, _, _, sx, _⟩ := y
          exact SqL.of (sx _ _ (sm _ _ hl))
        · obtain ⟨ys, o5, rfl, sx, eLx, eDx, hOx⟩ := y
          obtain ⟨rfl, ex⟩ := ee
          rw [hll] at ht
          have hx2 : (intV ns)[t]? = some (.int ((ns[t] : Nat) : Int)) := by
            unfold intV
            rw [List.getElem?_map, List.getElem?_eq_getElem ht]
            rfl
          rw [hx2] at ex
          cases ex
          have hft : ((ns.take (t + 1)).filter fun y => !(o.contains y)).map (fun y => o ++ [y]) = ((ns.take t).filter fun y => !(o.contains y)).map (fun y => o ++ [y]) ++ (if o.contains ns[t] then [] else [o ++ [ns[t]]]) := by
            rw [List.take_add_one, List.getElem?_eq_getElem ht, List.filter_append, List.map_append]
            congr 1
            show (([ns[t]].filter fun y => !(o.contains y)).map fun y => o ++ [y]) = _
            cases hc : o.contains ns[t] with
            | true => simp only [List.filter, hc]; rfl
            | false => simp only [List.filter, hc]; rfl
          have hfl : (((ns.take t).filter fun y => !(o.contains y)).map fun y => o ++ [y]).length ≤ 6 := by
            rw [List.length_map]
            refine Nat.le_trans (List.length_filter_le _ _) ?_
            rw [List.length_take]
            omega
          generalize ((ns.take t).filter fun y => !(o.contains y)).map (fun y => o ++ [y]) = part at *
          generalize ns[t] = n1 at *
          have hop := sqT_up ep2 sx
          refine ⟨_, rfl, _, rfl, po, _, rfl, .inr hop, rfl, int_flat o, _, rfl, ?_⟩
          rw [if_pos rfl, inV_nat]
          rw [hft]
          cases hc : o.contains n1 with
          | true =>
            refine ifF rfl ⟨ys, _, rfl, sx, eLx, eDx, ?_⟩
            rw [if_pos rfl, List.append_nil]
            exact hOx
          | false =>
            refine ifT rfl ?_
            rw [if_neg Bool.false_ne_true]
            refine ⟨_, rfl, .inl ⟨rfl, _, SqL.of eDx⟩, _, rfl, _, rfl, lenOk (n := 1) rfl (by decide), fun pq npq => catA_of (sqT_up hop (same_new npq)) (SqT.of upd_same) (by unfold intV; rw [List.length_map]; show o.length + 1 ≤ 100000; omega) fun pn Hn sn fp => ?_⟩
            have fp2 : SqT K Hn pn (intV (o ++ [n1])) := by
              unfold intV at fp ⊢
              rw [List.map_append]
              exact fp
            have sxn := (same_new npq).trans sn
            have eDn := sxn _ _ eDx
            refine ⟨D, ys, V.ref pn, rfl, rfl, eDn, ?_, ys ++ [V.ref pn], _, rfl, same_mut (sx.trans sxn) nD, ?_, upd_same, ?_⟩
            · rw [hOx.1, List.length_append]
              exact Nat.lt_of_lt_of_le (show base0.length + part.length < 100000 by omega) (by decide)
            · rw [upd_ne nLD]
              exact sxn _ _ eLx
            · rw [← List.append_assoc]
              exact OrdsK.put ((hOx.up sxn).snoc fp2) eDn
        · obtain ⟨ys, o5, rfl, sx, eLx, eDx, hOx⟩ := y
          rw [hll, List.take_length] at hOx
          exact ⟨ys, _, _, rfl, sx, eLx, eDx, hOx⟩
      · obtain ⟨ys, o4, o5, rfl, sd, eLd, eDd, hOd⟩ := y
        rw [hOxs, List.take_length] at hOd
        exact ⟨_, rfl, D, ys, _, _, _, _, rfl, sm.trans sd, eDd, hOd⟩
    · obtain ⟨F, xs, o2, o3, o4, o5, rfl, sm, eF, hO⟩ := y
      exact ⟨_, rfl, q _ F xs sm eF hO⟩
theorem ok_law_end (T : Txt K mg A) : FnOk P w K mg base CX0 1 A.a_law_end A.d_law_end ["_law_start", "_law_things_here", "_law_order"] (spEnd K) := by
  refine T.F_law_end.ok sc_law_end (fun vs H Q E h => ?_) (fun cdv B outer s H vs Q E hr h => ?_)
  · obtain ⟨a, po, ths, s, o, rfl, _⟩ := h
    rfl
  · obtain ⟨a, po, ths, s0, o, rfl, ht, ho, hk, q⟩ := h
    refine ⟨_, (pss_cons (ps_set (i := 3) sc_law_end.nd rfl (.inl rfl) (pv 0))
    (pss_cons (ps_for PassesOwn.never rfl (pi_tup (pv 2)) (pg_name (i := 4) sc_law_end.nd rfl (.inl rfl))
      (pss_cons (ps_set (i := 5) sc_law_end.nd rfl (.inl rfl) (pe_ix ix_tup (pe_ix ix_seq (pv 1) (pv 4) (fun _ _ => rfl)) pe_int (fun _ _ => rfl)))
    (pss_one (ps_set (i := 3) sc_law_end.nd rfl (.inl rfl) (pe_op op_add (pe_op op_mul (pe_op op_fdivN (pe_op op_sub (pe_op op_add (pv 3) (pv 5)) pe_int) (pv 5)) (pv 5)) (pe_ix ix_tup (pe_ix ix_seq (pv 1) (pv 4) (fun _ _ => rfl)) pe_int (fun _ _ => rfl)))))))
    (pss_one (ps_ret (pv 3))))), ?_⟩
    have hgood := ht.2.2
    have hnl : (intV o).length = o.length := List.length_map ..
    walk_at "s"
    refine ⟨⟨_, ho⟩, for_it (walk_tup (K := K) (a := po) (xs := intV o)) (fun i σ Hc => ∃ o4 o5, σ = [some (.int (s0 : Int)), some (.ref a), some (.ref po), some (.int ((endf ths s0 (o.take i) : Nat) : Int)), o4, o5] ∧ Hc = H) ⟨_, _, rfl, rfl⟩ (fun i σ Hc _ y => ?_) (fun i x σ Hc Hd hi y e => ?_) (fun σ Hc y => ?_)⟩
    · obtain ⟨_, _, _, rfl⟩ := y
      exact ho
    · obtain ⟨o4, o5, rfl, rfl⟩ := y
      obtain ⟨rfl, ex⟩ := e
      rw [hnl] at hi
      have hx2 : (intV o)[i]? = some (.int ((o[i] : Nat) : Int)) := by
        unfold intV
        rw [List.getElem?_map, List.getElem?_eq_getElem hi]
        rfl
      rw [hx2] at ex
      cases ex
      have hkl := hk _ (List.getElem_mem hi)
      have htk : endf ths s0 (o.take (i + 1)) = lb (endf ths s0 (o.take i)) (th ths o[i]) := by
        rw [List.take_add_one, List.getElem?_eq_getElem hi]
        exact endf_snoc
      generalize o[i] = k at *
      have hg := hgood (th ths k) (by unfold th; rw [List.getD_eq_getElem?_getD, List.getElem?_eq_getElem hkl]; exact List.getElem_mem hkl)
      generalize endf ths s0 (o.take i) = e0 at *
      refine ⟨_, rfl, _, rfl, ht.ix hkl fun pt ep2 => ?_⟩
      refine ⟨pt, _, 1, _, rfl, rfl, SqT.of ep2, atI_nat (j := 1) rfl, ?_⟩
      walk_at "s"
      refine ⟨.inr ⟨by omega, by omega⟩, ?_⟩
      refine ⟨_, rfl, _, rfl, ht.ix hkl fun pt2 ep3 => ?_⟩
      refine ⟨pt2, _, 0, _, rfl, rfl, SqT.of ep3, atI_nat (j := 0) rfl, ?_⟩
      refine ⟨_, _, rfl, rfl, some (.int (k : Int)), some (.int (((th ths k).2 : Nat) : Int)), ?_, rfl⟩
      rw [htk]
      have e1 : (((e0 : Int) + ((th ths k).2 : Int) - 1).fdiv ((th ths k).2 : Int)) * ((th ths k).2 : Int) + ((th ths k).1 : Int) = ((lb e0 (th ths k) : Nat) : Int) := by
        unfold lb alN
        rw [show (e0 : Int) + ((th ths k).2 : Int) - 1 = ((e0 + (th ths k).2 - 1 : Nat) : Int) by omega, Int.fdiv_eq_ediv_of_nonneg _ (by omega), Int.natCast_add, Int.natCast_mul, Int.natCast_ediv]
      rw [← e1]
      rfl
    · obtain ⟨o4, o5, rfl, rfl⟩ := y
      rw [hnl, List.take_length]
      exact ⟨_, rfl, q⟩
end
end R1

namespace R1
open PySem PySem.Spec PyProof.Rows L2 RK PT
local macro_rules | `(tactic| walk_at "sq") => `(tactic| first
  | exact SqL.of upd_same | exact upd_same | exact SqL.of (by assumption) | exact SqL.of (by rw [upd_ne (by assumption)]; assumption) | assumption)
local macro_rules | `(tactic| walk_at "sd") => `(tactic| first
  | assumption | omega | (refine Or.inl ⟨?_, ?_⟩ <;> omega) | (show _ ∧ _; constructor <;> omega) | (show _ ≠ _; simp; omega) | (exact Or.inl ⟨by decide, by decide⟩) | (exact Or.inr ⟨by decide, by decide⟩) | (show _ < _; decide) | (show _ ≤ _; decide))
local macro_rules | `(tactic| walk_at "at") => `(tactic| first | rfl | (refine atI_intV ?_ ?_ <;> omega) | assumption)
local macro_rules | `(tactic| walk_at "s1") => `(tactic| first
  | refine ⟨_, rfl, ?_⟩ | refine ⟨_, _, rfl, rfl, ?_⟩ | refine ⟨rfl, ?_⟩
  | refine ⟨_, _, _, _, rfl, rfl, by walk_at "sq", by walk_at "at", ?_⟩
  | refine Or.inl ⟨_, rfl, ?_⟩
  | refine ⟨_, _, rfl, Or.inl (by walk_at "sq"), ?_⟩
  | refine And.intro (by walk_at "sd") ?_)
local macro_rules | `(tactic| walk_at "s") => `(tactic| repeat walk_at "s1")

def spTable (K : PySem.W.Frag) : Sp := fun vs H Q _ => ∃ (a : Addr) (ths : List (Nat × Nat)) (s : Nat), vs = [.int (s : Int), .ref a] ∧ ThQ K H a ths ∧ ∀ H' l, Same H H' → H l = none → H' l = some (.lst (intV (tabT ths s (2 ^ ths.length - 1)))) → Q (.ref l) H'
def spWorked (K : PySem.W.Frag) : Sp := fun vs H Q _ => ∃ (l a : Addr) (ths : List (Nat × Nat)) (es : List Nat) (at_ : Nat), vs = [.ref l, .ref a, .int (at_ : Int)] ∧ ThQ K H a ths ∧ H l = some (.lst (intV es)) ∧ es.length = 2 ^ ths.length ∧ at_ < es.length ∧ ∀ H' l2 (fs : List Nat), Same H H' → H l2 = none → H' l2 = some (.lst (intV fs)) → fs.length = es.length → Q (.ref l2) H'
section
variable {P : Program} {w : World} {K : PySem.W.Frag} {mg : Str → Option Value} {base : Heap} {A : Ads}
theorem ok_law_table (T : Txt K mg A) : FnOk P w K mg base CX0 3 A.a_law_table A.d_law_table ["_law_start", "_law_things_here"] (spTable K) := by
  refine T.F_law_table.ok sc_law_table (fun vs H Q E h => ?_) (fun cdv B outer s H vs Q E hr h => ?_)
  · obtain ⟨a, ths, s, rfl, _⟩ := h
    rfl
  · obtain ⟨a, ths, s0, rfl, ht, q⟩ := h
    refine ⟨_, (pss_cons (ps_set (i := 2) sc_law_table.nd rfl (.inl rfl) (pe_lst pa_nil))
    (pss_cons (ps_for PassesOwn.never rfl (pi_range1 (by rfl) T.n_range (pa_cons (pe_op op_oneShl pe_int (pe_callB len_seq (by rfl) T.n_len (by decide +kernel) (pa_cons (pv 1) pa_nil))) pa_nil)) (pg_name (i := 3) sc_law_table.nd rfl (.inr rfl))
      (pss_cons (ps_setLc (i := 5) (own := [("_law_k", 4)]) rfl sc_law_table.nd rfl rfl (sw_true rfl rfl rfl (by decide +kernel)) (pi_range1 (by rfl) T.n_range (pa_cons (pe_callB len_seq (by rfl) T.n_len (by decide +kernel) (pa_cons (pv 1) pa_nil)) pa_nil)) (blkOk_by (own := [("_law_k", 4)]) (N := N_law_table) (sc := defScope s_law_table) (by decide +kernel)) (fun _ _ _ _ _ => pg_name (i := 4) sc_law_table.nd rfl (Or.inl rfl)) (fun _ _ _ _ _ => pts_one (by exact (pt_cmpR op_eq (pe_op op_mod (pe_callTy call_int1 (by rfl) T.n_int (by decide +kernel) (pa_cons (pe_op op_shrN (pv 3) (pv 4)) pa_nil)) pe_int) pe_int (nomark _)))) (fun _ _ _ _ _ => by exact (pv 4)))
    (pss_one (ps_expr (pe_bm PySem.F.plainAttrs_list PySem.F.slot_list_append PySem.F.type_list_append mt_append (pv 2) (pa_cons (pe_callB (cr_min rfl) (by rfl) T.n_min (by decide +kernel) (pa_cons (pe_lc (own := [("_law_order", 6)]) rfl sc_law_table.nd (pi_list (pe_call (ok_law_orders T) (hr.mono (by omega)) rfl T.g_law_orders T.F_law_orders.kp T.b_law_orders .nil pass0 (pa_cons (pv 5) pa_nil))) (blkOk_by (own := [("_law_order", 6)]) (N := N_law_table) (sc := defScope s_law_table) (by decide +kernel)) (fun _ _ _ _ _ => pg_name (i := 6) sc_law_table.nd rfl (Or.inl rfl)) (fun _ _ _ _ _ => pts_nil) (fun _ _ _ _ _ => by exact (pe_callTy call_int1 (by rfl) T.n_int (by decide +kernel) (pa_cons (pe_call (ok_law_end T) (hr.mono (by omega)) rfl T.g_law_end T.F_law_end.kp T.b_law_end .nil pass0 (pa_cons (pv 0) (pa_cons (pv 1) (pa_cons (pv 6) pa_nil)))) pa_nil)))) pa_nil)) pa_nil))))))
    (pss_one (ps_ret (pv 2))))), ?_⟩
    have h6 := ht.2.1
    have ht0 := ht
    obtain ⟨⟨xs, hx, hxl, hxr⟩, _, hgood⟩ := ht
    obtain ⟨hp, hp1, hp2⟩ := pow7 (show ths.length ≤ 7 by omega)
    have hp := hp _ hxl
    walk_at "s"
    intro E0 nE0
    generalize hH1 : upd H E0 _ = H1
    have s1 : Same H H1 := by rw [← hH1]; exact same_new nE0
    have eE : H1 E0 = some (.lst []) := by rw [← hH1]; exact upd_same
    clear hH1
    have hq1 := ht0.up s1
    obtain ⟨⟨xs1, hx1, hxl1, _⟩, _⟩ := id hq1
    have hp := (pow7 (show ths.length ≤ 7 by omega)).1 _ hxl1
    refine ⟨_, rfl, a, xs1, rfl, hx1, xs1.length, rfl, rfl, by omega, _, rfl, by rw [hp, hxl1]; omega, by rw [hp, hxl1]; omega, ?_⟩
    rw [hp, hxl1, Int.toNat_natCast]
    refine for_it (walk_range (lo := 0) (n := 2 ^ ths.length)) (fun i σ Hc => ∃ o3 o4 o5 o6, σ = [some (.int (s0 : Int)), some (.ref a), some (.ref E0), o3, o4, o5, o6] ∧ Same H Hc ∧ Hc E0 = some (.lst (intV ((List.range i).map fun m => TT ths s0 (numsN m ths.length))))) ⟨_, _, _, _, rfl, s1, eE⟩ (fun _ _ _ _ _ => trivial) (fun i x σ H7 H8 hi y e => ?_) (fun σ H7 y => ?_)
    · obtain ⟨rfl, rfl⟩ := e
      obtain ⟨o3, o4, o5, o6, rfl, sm, eE⟩ := y
      have hq8 := ht0.up sm
      obtain ⟨⟨xs8, hx8, hxl8, _⟩, _⟩ := id hq8
      refine ⟨_, rfl, a, xs8, rfl, hx8, ((xs8.length : Nat) : Int), rfl, by omega, by omega, fun D hD => ?_⟩
      rw [Int.toNat_natCast, hxl8]
      refine lc_filt (walk_range (lo := 0) (n := ths.length)) (fun k v => v = .int (k : Int)) (fun k => i / 2 ^ k % 2 == 1) (fun k => .int (k : Int)) hD (fun _ _ => trivial) (by omega) (fun k H1 v H2 hk y => ?_) (fun k v H4 hk sm hv Q q => ?_) (fun k v H4 hk hc sm hv Q q => ?_) (fun H4 s4 e4 => ?_)
      · refine ⟨y.1, ?_⟩
        rw [y.2]
        exact congrArg V.int (by omega)
      · subst hv
        refine ⟨_, rfl, _, rfl, _, k, rfl, rfl, .inl ⟨_, rfl, _, _, rfl, rfl, (by show (0 : Int) < 2; decide), rfl, _, rfl, ?_⟩⟩
        have e1 : decide (V.int ((0 + (i : Int)) / 2 ^ k % 2) = V.int 1) = (i / 2 ^ k % 2 == 1) := by
          have e2 : (0 + (i : Int)) / 2 ^ k % 2 = ((i / 2 ^ k % 2 : Nat) : Int) := by
            rw [Int.zero_add, Int.natCast_emod, Int.natCast_ediv, Int.natCast_pow]
            rfl
          rw [e2, Bool.eq_iff_iff, decide_eq_true_iff, beq_iff_eq]
          exact ⟨fun z => by have := V.int.inj z; omega, fun z => by rw [z]; rfl⟩
        rw [e1]
        exact q
      · subst hv
        exact ⟨_, rfl, q _ (Same.refl _)⟩
      have hnd : (numsN i ths.length).Nodup := List.nodup_range.filter _
      have hn6 := Nat.le_trans (nums_len (m := i) (n := ths.length)) h6
      have eE4 := s4 _ _ eE
      refine ⟨_, rfl, .inl ⟨rfl, _, SqL.of eE4⟩, ?_⟩
      refine ⟨_, rfl, D, numsN i ths.length, rfl, e4, hnd, hn6, fun H5 r rxs s5 er hR => ⟨r, rfl, ⟨_, SqL.of er⟩, fun D2 nD2 => ?_⟩⟩
      have sH5 := (sm.trans s4).trans s5
      have hmem : ∀ o ∈ kp (numsN i ths.length).length (numsN i ths.length), ∀ k ∈ o, k < ths.length := fun o ho k hk => by
        have := ((kp_perm _ rfl).mp ho).mem_iff.mp hk
        exact List.mem_range.mp (List.mem_filter.mp this).1
      have hle : ∀ o ∈ kp (numsN i ths.length).length (numsN i ths.length), TT ths s0 (numsN i ths.length) ≤ endf ths s0 o := fun o ho => TT_le ((kp_perm _ rfl).mp ho)
      obtain ⟨o0, ho0, hach⟩ := TT_ach (ths := ths) (s := s0) _ (numsN i ths.length) rfl
      have ho0 := (kp_perm (numsN i ths.length).length rfl).mpr ho0
      have hkl : (kp (numsN i ths.length).length (numsN i ths.length)).length ≤ 1000000 := by
        refine Nat.le_trans (kp_len _ _) (Nat.le_trans (Nat.pow_le_pow_left hn6 _) ?_)
        exact Nat.le_trans (Nat.pow_le_pow_right (n := 6) (by decide) hn6) (by decide)
      generalize hks : kp (numsN i ths.length).length (numsN i ths.length) = ks at *
      have hrl := hR.1
      refine lc_vals (walk_list (K := K) (a := r) (xs := rxs)) (fun j v => rxs[j]? = some v) (fun j => .int ((endf ths s0 (ks.getD j []) : Nat) : Int)) nD2 (fun H6 s6 => SqL.of (s6 _ _ er)) (by omega) (fun j H1 v H2 hj y => y) (fun j v H6 hj sm6 hv Q q => ?_) (fun H6 s6 e6 => ?_)
      · rw [hrl] at hj
        obtain ⟨po, ep1, ep2⟩ := hR.2 j ks[j] (List.getElem?_eq_getElem hj)
        rw [ep1] at hv
        cases hv
        have hgd : ks.getD j [] = ks[j] := by rw [List.getD_eq_getElem?_getD, List.getElem?_eq_getElem hj]; rfl
        rw [hgd] at q
        exact ⟨_, rfl, _, rfl, _, rfl, a, po, ths, s0, ks[j], rfl, ht0.up (sH5.trans sm6), sqT_up ep2 sm6, hmem _ (List.getElem_mem hj), .inl ⟨_, rfl, q _ (Same.refl _)⟩⟩
      have e7 : H6 D2 = some (.lst (((ks.map (endf ths s0)).map fun n : Nat => (n : Int)).map V.int)) := by
        rw [e6, hrl, List.map_map, List.map_map]
        exact congrArg (fun x => some (HO.lst x)) (range_getD (fun o => V.int ((endf ths s0 o : Nat) : Int)) [] ks)
      refine ⟨D2, _, rfl, SqL.of e7, by rw [List.length_map, List.length_map]; exact List.length_pos_of_mem ho0, fun mm hmm hmin => ?_⟩
      have hmt : mm = ((TT ths s0 (numsN i ths.length) : Nat) : Int) := by
        obtain ⟨x, hx1, rfl⟩ := List.mem_map.mp hmm
        obtain ⟨o, ho, rfl⟩ := List.mem_map.mp hx1
        have h1 := hle o ho
        have h2 := hmin _ (List.mem_map.mpr ⟨endf ths s0 o0, List.mem_map.mpr ⟨o0, ho0, rfl⟩, rfl⟩)
        omega
      rw [hmt]
      have sE6 := (s4.trans s5).trans s6
      have eE6 := sE6 _ _ eE
      refine ⟨E0, _, _, rfl, rfl, eE6, ?_, _, _, _, _, rfl, same_mut (sm.trans sE6) nE0, ?_⟩
      · unfold intV
        rw [List.length_map, List.length_map, List.length_range]
        exact Nat.lt_of_lt_of_le (show i < 200 by omega) (by decide)
      · rw [upd_same, List.range_succ, List.map_append]
        unfold intV
        rw [List.map_append]
        rfl
    · obtain ⟨o3, o4, o5, o6, rfl, sm, eE⟩ := y
      refine ⟨_, rfl, q _ E0 sm nE0 ?_⟩
      rw [eE]
      unfold tabT
      rw [show 2 ^ ths.length - 1 + 1 = 2 ^ ths.length by omega]
end
end R1

namespace R1
open PySem PySem.Spec PyProof.Rows L2 RK PT
local macro_rules | `(tactic| walk_at "sq") => `(tactic| first
  | exact SqL.of upd_same | exact upd_same | exact SqL.of (by assumption) | exact SqL.of (by rw [upd_ne (by assumption)]; assumption) | assumption)
local macro_rules | `(tactic| walk_at "sd") => `(tactic| first
  | assumption | omega | (refine Or.inl ⟨?_, ?_⟩ <;> omega) | (show _ ∧ _; constructor <;> omega) | (show _ ≠ _; simp; omega) | (exact Or.inl ⟨by decide, by decide⟩) | (exact Or.inr ⟨by decide, by decide⟩) | (show _ < _; decide) | (show _ ≤ _; decide))
local macro_rules | `(tactic| walk_at "at") => `(tactic| first | rfl | (refine atI_intV ?_ ?_ <;> omega) | assumption)
local macro_rules | `(tactic| walk_at "s1") => `(tactic| first
  | refine ⟨_, rfl, ?_⟩ | refine ⟨_, _, rfl, rfl, ?_⟩ | refine ⟨rfl, ?_⟩
  | refine ⟨_, _, _, _, rfl, rfl, by walk_at "sq", by walk_at "at", ?_⟩
  | refine Or.inl ⟨_, rfl, ?_⟩
  | refine ⟨_, _, rfl, Or.inl (by walk_at "sq"), ?_⟩
  | refine And.intro (by walk_at "sd") ?_)
local macro_rules | `(tactic| walk_at "s") => `(tactic| repeat walk_at "s1")

def spOther (K : PySem.W.Frag) : Sp := fun vs H Q _ => ∃ (c p a : Addr) (ths : List (Nat × Nat)) (s : Nat), vs = [.ref p, .int (s : Int), .ref a] ∧ Src c H p ∧ ThK K H a ths ∧ ths.length ≤ 6 ∧ ∀ H' l (fs : List Nat), Src c H' p → But p H H' → H' l = some (.lst (intV fs)) → fs.length = 2 ^ ths.length → Q (.ref l) H'
theorem set_ints {es : List Nat} {j x : Nat} : (intV es).set j (.int (x : Int)) = intV (es.set j x) := by
  unfold intV
  rw [List.map_set]
theorem ixN_nat {n j : Nat} (h : j < n) : ixN n (j : Int) = some j := by
  unfold ixN
  rw [if_pos (by omega), if_pos (by omega)]
  simp
theorem ThQ.ix2 {K : PySem.W.Frag} {H : Hp} {a : Addr} {ths : List (Nat × Nat)} (h : ThQ K H a ths) {k : Nat} {i : Int} (hi : i = (k : Int)) (hk : k < ths.length) {Q : VK} (q : ∀ p, H p = some (.tup [.int ((th ths k).1 : Int), .int ((th ths k).2 : Int)]) → Q (.ref p) H) : rIx K (.ref a) (.int i) H Q := by
  rw [hi]
  exact h.ix hk q
theorem getV {es : List Nat} {m : Nat} (h : m < es.length) : (intV es)[m]? = some (.int ((es.getD m 0 : Nat) : Int)) := by
  unfold intV
  rw [List.getElem?_map, List.getElem?_eq_getElem h, List.getD_eq_getElem?_getD, List.getElem?_eq_getElem h]
  rfl
section
variable {P : Program} {w : World} {K : PySem.W.Frag} {mg : Str → Option Value} {base : Heap} {A : Ads}
theorem ok_law_worked_out (T : Txt K mg A) : FnOk P w K mg base CX0 2 A.a_law_worked_out A.d_law_worked_out ["_law_rows", "_law_things_here", "_law_at"] (spWorked K) := by
  refine T.F_law_worked_out.ok sc_law_worked_out (fun vs H Q E h => ?_) (fun cdv B outer s H vs Q E hr h => ?_)
  · obtain ⟨l, a, ths, es, at_, rfl, _⟩ := h
    rfl
  · obtain ⟨l, a, ths, es, at_, rfl, ht, hl, hel, hat, q⟩ := h
    refine ⟨_, (pss_cons (ps_set (i := 0) sc_law_worked_out.nd rfl (.inl rfl) (pe_callTy list_of (by rfl) T.n_list (by decide +kernel) (pa_cons (pv 0) pa_nil)))
    (pss_cons (ps_for PassesOwn.never rfl (pi_range2 (by rfl) T.n_range (pa_cons (pe_op op_add (pv 2) pe_int) (pa_cons (pe_callB len_seq (by rfl) T.n_len (by decide +kernel) (pa_cons (pv 0) pa_nil)) pa_nil))) (pg_name (i := 3) sc_law_worked_out.nd rfl (.inl rfl))
      (pss_cons (ps_set (i := 4) sc_law_worked_out.nd rfl (.inl rfl) (pe_lst pa_nil))
    (pss_cons (ps_for PassesOwn.never rfl (pi_range1 (by rfl) T.n_range (pa_cons (pe_callB len_seq (by rfl) T.n_len (by decide +kernel) (pa_cons (pv 1) pa_nil)) pa_nil)) (pg_name (i := 5) sc_law_worked_out.nd rfl (.inl rfl))
      (pss_one (ps_if (pt_cmpR op_eq (pe_op op_mod (pe_callTy call_int1 (by rfl) T.n_int (by decide +kernel) (pa_cons (pe_op op_shrN (pv 3) (pv 5)) pa_nil)) pe_int) pe_int (nomark _)) (pss_cons (ps_set (i := 6) sc_law_worked_out.nd rfl (.inl rfl) (pe_ix ix_seq (pe_ix ix_seq (pv 1) (pv 5) (fun _ _ => rfl)) pe_int (fun _ _ => rfl)))
    (pss_one (ps_expr (pe_bm PySem.F.plainAttrs_list PySem.F.slot_list_append PySem.F.type_list_append mt_append (pv 4) (pa_cons (pe_op op_add (pe_op op_mul (pe_op op_fdivN (pe_op op_sub (pe_op op_add (pe_ix ix_list (pv 0) (pe_op op_sub (pv 3) (pe_op op_oneShl pe_int (pv 5))) (fun _ _ => rfl)) (pv 6)) pe_int) (pv 6)) (pv 6)) (pe_ix ix_seq (pe_ix ix_seq (pv 1) (pv 5) (fun _ _ => rfl)) pe_int (fun _ _ => rfl))) pa_nil))))) pss_nil)))
    (pss_one (ps_asg (pe_callB (cr_min rfl) (by rfl) T.n_min (by decide +kernel) (pa_cons (pe_lc (own := [("_law_end_here", 7)]) rfl sc_law_worked_out.nd (pi_list (pv 4)) (blkOk_by (own := [("_law_end_here", 7)]) (N := N_law_worked_out) (sc := defScope s_law_worked_out) (by decide +kernel)) (fun _ _ _ _ _ => pg_name (i := 7) sc_law_worked_out.nd rfl (Or.inl rfl)) (fun _ _ _ _ _ => pts_nil) (fun _ _ _ _ _ => by exact (pe_callTy call_int1 (by rfl) T.n_int (by decide +kernel) (pa_cons (pv 7) pa_nil)))) pa_nil)) (pg_sub (pv 0) (pv 3) set_list))))))
    (pss_one (ps_ret (pv 0))))), ?_⟩
    have h6 := ht.2.1
    have hgood := ht.2.2
    obtain ⟨hp, hp1, hp2⟩ := pow7 (show ths.length ≤ 7 by omega)
    refine ⟨_, rfl, l, _, rfl, .inl (SqL.of hl), fun R nR => ?_⟩
    generalize hH1 : upd H R _ = H1
    have s1 : Same H H1 := by rw [← hH1]; exact same_new nR
    have eR : H1 R = some (.lst (intV es)) := by rw [← hH1]; exact upd_same
    clear hH1
    have hil : ∀ fs : List Nat, (intV fs).length = fs.length := fun fs => List.length_map ..
    refine ⟨_, rfl, _, _, rfl, rfl, _, rfl, R, _, rfl, .inl (SqL.of eR), _, _, rfl, ⟨by omega, by omega, by rw [hil]; omega, by rw [hil]; omega⟩, ?_⟩
    rw [hil, show ((es.length : Int) - ((at_ : Int) + 1)).toNat = es.length - (at_ + 1) by omega]
    refine for_it (walk_range (lo := (at_ : Int) + 1) (n := es.length - (at_ + 1))) (fun i σ Hc => ∃ fs o3 o4 o5 o6 o7, σ = [some (.ref R), some (.ref a), some (.int (at_ : Int)), o3, o4, o5, o6, o7] ∧ Same H Hc ∧ Hc R = some (.lst (intV fs)) ∧ fs.length = es.length) ⟨es, _, _, _, _, _, rfl, s1, eR, rfl⟩ (fun _ _ _ _ _ => trivial) (fun i x σ H7 H8 hi y e => ?_) (fun σ H7 y => ?_)
    · obtain ⟨rfl, rfl⟩ := e
      obtain ⟨fs, o3, o4, o5, o6, o7, rfl, sm, eR, hfl⟩ := y
      obtain ⟨ch, hch, hch1, hch2⟩ : ∃ ch : Nat, (at_ : Int) + 1 + (i : Int) = (ch : Int) ∧ 0 < ch ∧ ch < 2 ^ ths.length := ⟨at_ + 1 + i, by omega, by omega, by omega⟩
      refine ⟨lenOk (n := 0) rfl (by decide), fun F nF => ?_⟩
      have nRF : R ≠ F := fun z => by rw [← z, eR] at nF; cases nF
      have hHF : H F = none := by
        cases hh : H F with
        | none => rfl
        | some o => rw [sm _ _ hh] at nF; cases nF
      generalize hH9 : upd H8 F _ = H9
      have s9 : Same H8 H9 := by rw [← hH9]; exact same_new nF
      have eF : H9 F = some (.lst (intV [])) := by rw [← hH9]; exact upd_same
      clear hH9 nF
      have hq9 := ht.up (sm.trans s9)
      obtain ⟨⟨xs9, hx9, hxl9, _⟩, _⟩ := id hq9
      refine ⟨_, rfl, a, xs9, rfl, hx9, ((xs9.length : Nat) : Int), rfl, by omega, by omega, ?_⟩
      rw [Int.toNat_natCast, hxl9]
      refine for_it (walk_range (lo := 0) (n := ths.length)) (fun t σ Hx => ∃ gs o5 o6, σ = [some (.ref R), some (.ref a), some (.int (at_ : Int)), some (.int ((at_ : Int) + 1 + (i : Int))), some (.ref F), o5, o6, o7] ∧ Same H Hx ∧ Hx R = some (.lst (intV fs)) ∧ Hx F = some (.lst (intV gs)) ∧ gs.length ≤ t ∧ ((∃ k, k < t ∧ ch / 2 ^ k % 2 = 1) → gs ≠ [])) ⟨[], _, _, rfl, sm.trans s9, s9 _ _ eR, eF, Nat.le_refl _, fun ⟨k, hk, _⟩ => absurd hk (Nat.not_lt_zero k)⟩ (fun _ _ _ _ _ => trivial) (fun t x σ Hx Hy hti y e => ?_) (fun σ Hx y => ?_)
      · obtain ⟨rfl, rfl⟩ := e
        obtain ⟨gs, o5, o6, rfl, sx, eR2, eF2, hgl, hgn⟩ := y
        refine ⟨_, rfl, _, rfl, _, t, rfl, congrArg V.int (by omega), .inl ⟨_, rfl, _, _, rfl, rfl, (by show (0 : Int) < 2; decide), rfl, _, rfl, ?_⟩⟩
        show if decide (V.int (((at_ : Int) + 1 + (i : Int)) / 2 ^ t % 2) = V.int 1) = true then _ else _
        have e1 : decide (V.int (((at_ : Int) + 1 + (i : Int)) / 2 ^ t % 2) = V.int 1) = (ch / 2 ^ t % 2 == 1) := by
          have e2 : ((at_ : Int) + 1 + (i : Int)) / 2 ^ t % 2 = ((ch / 2 ^ t % 2 : Nat) : Int) := by
            rw [hch, Int.natCast_emod, Int.natCast_ediv, Int.natCast_pow]
            rfl
          rw [e2, Bool.eq_iff_iff, decide_eq_true_iff, beq_iff_eq]
          exact ⟨fun z => by have := V.int.inj z; omega, fun z => by rw [z]; rfl⟩
        rw [e1]
        refine ite2 (fun c => ?_) (fun c => ?_)
        · have hb : ch / 2 ^ t % 2 = 1 := eq_of_beq c
          have hkm : t ∈ numsN ch ths.length := List.mem_filter.mpr ⟨List.mem_range.mpr hti, c⟩
          have hkp := pow_le_of hkm
          have h2k : 0 < 2 ^ t := Nat.two_pow_pos _
          have hqx := ht.up sx
          have hg := hgood (th ths t) (by unfold th; rw [List.getD_eq_getElem?_getD, List.getElem?_eq_getElem hti]; exact List.getElem_mem hti)
          refine ⟨_, rfl, _, rfl, hqx.ix2 (by omega) hti fun pt ep => ?_⟩
          refine .inr (.inl ⟨pt, _, 1, _, rfl, rfl, SqT.of ep, atI_nat (j := 1) rfl, ?_⟩)
          have hsub : ((at_ : Int) + 1 + (i : Int)) - 2 ^ t = ((ch - 2 ^ t : Nat) : Int) := by
            have : ((2 : Int) ^ t) = ((2 ^ t : Nat) : Int) := by rw [Int.natCast_pow]; rfl
            rw [this, hch]
            omega
          have hat2 : atI (intV fs) (((at_ : Int) + 1 + (i : Int)) - 2 ^ t) = some (.int ((fs.getD (ch - 2 ^ t) 0 : Nat) : Int)) := by
            rw [hsub]
            exact atI_nat (getV (by omega))
          generalize hvv : fs.getD (ch - 2 ^ t) 0 = vv at hat2
          refine ⟨_, rfl, .inl ⟨rfl, _, SqL.of eF2⟩, ?_⟩
          refine ⟨_, rfl, _, rfl, _, rfl, t, rfl, congrArg V.int (by omega), by omega, _, _, rfl, rfl, R, intV fs, _, _, rfl, rfl, SqL.of eR2, hat2, ?_⟩
          walk_at "s"
          refine ⟨.inr ⟨by omega, by omega⟩, ?_⟩
          refine ⟨_, rfl, _, rfl, hqx.ix2 (by omega) hti fun pt2 ep2 => ?_⟩
          refine .inr (.inl ⟨pt2, _, 0, _, rfl, rfl, SqT.of ep2, atI_nat (j := 0) rfl, ?_⟩)
          have e3 : (((vv : Int) + ((th ths t).2 : Int) - 1).fdiv ((th ths t).2 : Int)) * ((th ths t).2 : Int) + ((th ths t).1 : Int) = ((lb vv (th ths t) : Nat) : Int) := by
            unfold lb alN
            rw [show (vv : Int) + ((th ths t).2 : Int) - 1 = ((vv + (th ths t).2 - 1 : Nat) : Int) by omega, Int.fdiv_eq_ediv_of_nonneg _ (by omega), Int.natCast_add, Int.natCast_mul, Int.natCast_ediv]
          refine ⟨_, _, rfl, rfl, F, _, _, rfl, rfl, eF2, ?_, gs ++ [lb vv (th ths t)], _, _, rfl, same_mut sx hHF, ?_, ?_, ?_, ?_⟩
          · rw [hil]
            exact Nat.lt_of_lt_of_le (show gs.length < 200 by omega) (by decide)
          · rw [upd_ne nRF]
            exact eR2
          · rw [upd_same]
            unfold intV
            rw [List.map_append]
            show some (HO.lst (_ ++ [V.int ((((vv : Int) + ((th ths t).2 : Int) - 1).fdiv ((th ths t).2 : Int)) * ((th ths t).2 : Int) + ((th ths t).1 : Int))])) = _
            rw [e3]
            rfl
          · rw [List.length_append]
            show gs.length + 1 ≤ t + 1
            omega
          · intro _ z
            exact absurd (List.append_eq_nil_iff.mp z).2 (by simp)
        · refine ⟨gs, _, _, rfl, sx, eR2, eF2, by omega, fun ⟨k, hk, hb⟩ => ?_⟩
          rcases Nat.lt_or_ge k t with z | z
          · exact hgn ⟨k, z, hb⟩
          · have : k = t := by omega
            subst this
            exact absurd (beq_iff_eq.mpr hb) c
      · obtain ⟨gs, o5, o6, rfl, sx, eR2, eF2, hgl, hgn⟩ := y
        have hne : gs ≠ [] := by
          have h1 := numsN_ne hch1 hch2
          obtain ⟨k, hk⟩ := List.exists_mem_of_ne_nil _ h1
          have h2 := List.mem_filter.mp hk
          exact hgn ⟨k, List.mem_range.mp h2.1, eq_of_beq h2.2⟩
        have hgi := hil gs
        refine ⟨_, rfl, F, rfl, ⟨_, SqL.of eF2⟩, fun D nD => ?_⟩
        refine lc_vals (walk_list (K := K) (a := F) (xs := intV gs)) (fun j v => (intV gs)[j]? = some v) (fun j => .int ((gs.getD j 0 : Nat) : Int)) nD (fun H6 s6 => SqL.of (s6 _ _ eF2)) (by omega) (fun j H1 v H2 hj y => y) (fun j v H6 hj sm6 hv Q q => ?_) (fun H6 s6 e6 => ?_)
        · rw [getV (by omega)] at hv
          cases hv
          exact ⟨_, rfl, .inl ⟨_, rfl, q _ (Same.refl _)⟩⟩
        have e7 : H6 D = some (.lst ((gs.map fun n : Nat => (n : Int)).map V.int)) := by
          rw [e6, hgi, intV_range, intV_ints]
        refine ⟨D, _, rfl, SqL.of e7, by rw [List.length_map]; exact List.length_pos_iff.mpr hne, fun mm hmm _ => ?_⟩
        obtain ⟨x, _, rfl⟩ := List.mem_map.mp hmm
        have hixn : ixN (intV fs).length ((at_ : Int) + 1 + (i : Int)) = some ch := by
          rw [hch]
          exact ixN_nat (by rw [hil]; omega)
        refine ⟨_, rfl, _, rfl, R, intV fs, _, ch, rfl, rfl, s6 _ _ eR2, hixn, fs.set ch x, _, _, _, _, _, rfl, same_mut (sx.trans s6) nR, ?_, by rw [List.length_set]; exact hfl⟩
        rw [upd_same, set_ints]
    · obtain ⟨fs, o3, o4, o5, o6, o7, rfl, sm, eR, hfl⟩ := y
      exact ⟨_, rfl, q _ R fs sm nR eR hfl⟩
end
end R1

namespace R1
open PySem PySem.Spec PyProof.Rows L2 RK PT
local macro_rules | `(tactic| walk_at "sq") => `(tactic| first
  | exact SqL.of upd_same | exact upd_same | exact SqL.of (by assumption) | exact SqL.of (by rw [upd_ne (by assumption)]; assumption) | assumption)
local macro_rules | `(tactic| walk_at "sd") => `(tactic| first
  | assumption | omega | (refine Or.inl ⟨?_, ?_⟩ <;> omega) | (show _ ∧ _; constructor <;> omega) | (show _ ≠ _; simp; omega) | (exact Or.inl ⟨by decide, by decide⟩) | (exact Or.inr ⟨by decide, by decide⟩) | (show _ < _; decide) | (show _ ≤ _; decide))
local macro_rules | `(tactic| walk_at "at") => `(tactic| first | rfl | (refine atI_intV ?_ ?_ <;> omega) | assumption)
local macro_rules | `(tactic| walk_at "s1") => `(tactic| first
  | refine ⟨_, rfl, ?_⟩ | refine ⟨_, _, rfl, rfl, ?_⟩ | refine ⟨rfl, ?_⟩
  | refine ⟨_, _, _, _, rfl, rfl, by walk_at "sq", by walk_at "at", ?_⟩
  | refine Or.inl ⟨_, rfl, ?_⟩
  | refine ⟨_, _, rfl, Or.inl (by walk_at "sq"), ?_⟩
  | refine And.intro (by walk_at "sd") ?_)
local macro_rules | `(tactic| walk_at "s") => `(tactic| repeat walk_at "s1")

theorem RowsK.set {H : Hp} {xs : List V} {ths : List (Nat × Nat)} {k : Nat} {p : Addr} {t : Nat × Nat} (h : RowsK H xs ths) (e : H p = some (.tup [.int (t.1 : Int), .int (t.2 : Int)])) : RowsK H (xs.set k (.ref p)) (ths.set k t) := by
  refine ⟨by rw [List.length_set, List.length_set, h.1], fun j u hu => ?_⟩
  by_cases z : k = j
  · subst z
    have hk : k < ths.length := by
      have := (List.getElem?_eq_some_iff.mp hu).1
      rwa [List.length_set] at this
    rw [List.getElem?_set_self hk] at hu
    cases hu
    exact ⟨p, List.getElem?_set_self (by rw [h.1]; exact hk), e⟩
  · rw [List.getElem?_set_ne z] at hu ⊢
    exact h.2 j u hu
theorem sqT_but {K : PySem.W.Frag} {H H' : Hp} {c p a : Addr} {xs : List V} (hs : Src c H p) (b : But p H H') (h : SqT K H a xs) : SqT K H' a xs := by
  obtain ⟨_, _, _, _, _, y, _⟩ := hs
  rcases h with (h | ⟨o, h⟩) | h
  · exact .inl (.inl (b _ _ (fun z => by rw [z, y] at h; cases h) h))
  · exact .inl (.inr ⟨o, b _ _ (fun z => by rw [z, y] at h; cases h) h⟩)
  · exact .inr h
theorem ThK.but {K : PySem.W.Frag} {H H' : Hp} {c p a : Addr} {ths : List (Nat × Nat)} (h : ThK K H a ths) (hs : Src c H p) (b : But p H H') : ThK K H' a ths := by
  obtain ⟨⟨xs, h1, h2, h3⟩, h4⟩ := h
  exact ⟨⟨xs, sqT_but hs b h1, h2, fun k t ht => let ⟨p, a1, a2⟩ := h3 k t ht; ⟨p, a1, src_tup hs b a2⟩⟩, h4⟩
theorem tab_len {ths : List (Nat × Nat)} {s : Nat} : (tabT ths s (2 ^ ths.length - 1)).length = 2 ^ ths.length := by
  have := Nat.two_pow_pos ths.length
  unfold tabT
  rw [List.length_map, List.length_range]
  omega
section
variable {P : Program} {w : World} {K : PySem.W.Frag} {mg : Str → Option Value} {base : Heap} {A : Ads}
theorem ok_law_other_things (T : Txt K mg A) : FnOk P w K mg base CX0 4 A.a_law_other_things A.d_law_other_things ["_law_source_here", "_law_start", "_law_things_here"] (spOther K) := by
  refine T.F_law_other_things.ok sc_law_other_things (fun vs H Q E h => ?_) (fun cdv B outer s H vs Q E hr h => ?_)
  · obtain ⟨c, p, a, ths, s, rfl, _⟩ := h
    rfl
  · obtain ⟨c, p, a, ths, s0, rfl, hs, ht, h6, q⟩ := h
    refine ⟨_, (pss_cons (ps_set (i := 3) sc_law_other_things.nd rfl (.inl rfl) (pe_call (ok_law_draw T) (hr.mono (by omega)) rfl T.g_law_draw T.F_law_draw.kp T.b_law_draw .nil pass0 (pa_cons (pv 0) (pa_cons (pe_op op_add (pe_callB len_seq (by rfl) T.n_len (by decide +kernel) (pa_cons (pv 2) pa_nil)) pe_int) pa_nil))))
    (pss_cons (ps_if (pt_cmpR op_eq (pv 3) (pe_callB len_seq (by rfl) T.n_len (by decide +kernel) (pa_cons (pv 2) pa_nil)) (nomark _)) (pss_one (ps_ret (pe_call (ok_law_table T) (hr.mono (by omega)) rfl T.g_law_table T.F_law_table.kp T.b_law_table .nil pass0 (pa_cons (pe_op op_add (pe_op op_add (pv 1) pe_int) (pe_call (ok_law_draw T) (hr.mono (by omega)) rfl T.g_law_draw T.F_law_draw.kp T.b_law_draw .nil pass0 (pa_cons (pv 0) (pa_cons pe_int pa_nil)))) (pa_cons (pv 2) pa_nil))))) pss_nil)
    (pss_cons (ps_set (i := 4) sc_law_other_things.nd rfl (.inl rfl) (pe_callTy list_of (by rfl) T.n_list (by decide +kernel) (pa_cons (pv 2) pa_nil)))
    (pss_cons (ps_asg (pe_ix ix_list (pv 4) (pv 3) (fun _ _ => rfl)) (pg_tup (by rfl) (pgs_cons (pg_name (i := 5) sc_law_other_things.nd rfl (.inl rfl)) (pgs_cons (pg_name (i := 6) sc_law_other_things.nd rfl (.inl rfl)) pgs_nil))))
    (pss_cons (ps_asg (pe_tup (pa_cons (pe_op op_add (pv 5) pe_int) (pa_cons (pv 6) pa_nil))) (pg_sub (pv 4) (pv 3) set_list))
    (pss_cons (ps_if (pt_cmpR op_eq (pe_call (ok_law_draw T) (hr.mono (by omega)) rfl T.g_law_draw T.F_law_draw.kp T.b_law_draw .nil pass0 (pa_cons (pv 0) (pa_cons pe_int pa_nil))) pe_int (nomark _)) (pss_one (ps_asg (pe_tup (pa_cons (pv 5) (pa_cons (pe_ix ix_tup (pe_tup (pa_cons pe_int (pa_cons pe_int (pa_cons pe_int (pa_cons pe_int (pa_cons pe_int pa_nil)))))) (pe_call (ok_law_draw T) (hr.mono (by omega)) rfl T.g_law_draw T.F_law_draw.kp T.b_law_draw .nil pass0 (pa_cons (pv 0) (pa_cons pe_int pa_nil))) (fun _ _ => rfl)) pa_nil))) (pg_sub (pv 4) (pv 3) set_list))) pss_nil)
    (pss_one (ps_ret (pe_call (ok_law_table T) (hr.mono (by omega)) rfl T.g_law_table T.F_law_table.kp T.b_law_table .nil pass0 (pa_cons (pv 1) (pa_cons (pv 4) pa_nil))))))))))), ?_⟩
    have ht0 := ht
    obtain ⟨⟨xs, hx, hxl, hxe⟩, h7, hgood⟩ := ht
    refine ⟨_, rfl, _, rfl, a, xs, rfl, .inr hx, _, _, rfl, rfl, c, p, _, rfl, hs, by omega, by omega, fun H1 at_ lat hs1 b1 => ?_⟩
    have ht1 := ht0.but hs b1
    have hx1 := sqT_but hs b1 hx
    refine ⟨_, rfl, _, rfl, a, xs, rfl, .inr hx1, rfl, _, rfl, ifB (fun e => ?_) (fun e => ?_)⟩
    · refine ⟨_, rfl, _, _, rfl, rfl, _, rfl, c, p, 3, rfl, hs1, by decide, by decide, fun H2 r lr hs2 b2 => ⟨_, _, rfl, rfl, _, rfl, a, ths, s0 + 1 + r, congrArg (fun z => [V.int z, V.ref a]) (by omega), ThQ.of (ht1.but hs1 b2) h6, fun H3 l s3 n3 e3 => ?_⟩⟩
      exact q H3 l _ (src_up hs2 s3) ((b1.trans b2).trans (But.of s3)) e3 tab_len
    have hlt : at_ < ths.length := by
      have : ¬ at_ = xs.length := fun z => of_decide_eq_false e (by rw [z])
      omega
    refine ⟨_, rfl, a, xs, rfl, .inr hx1, fun R nR => ?_⟩
    generalize hH2 : upd H1 R _ = H2
    have s2 : Same H1 H2 := by rw [← hH2]; exact same_new nR
    have eR : H2 R = some (.lst xs) := by rw [← hH2]; exact upd_same
    have hRp : R ≠ p := fun z => by rw [z] at nR; exact src_ne hs1 nR
    have hRc : R ≠ c := fun z => by rw [z] at nR; exact src_cne hs1 nR
    have hHR : H R = none := by
      cases hh : H R with
      | none => rfl
      | some o => rw [b1 _ _ hRp hh] at nR; cases nR
    clear hH2 nR
    have hs2 := src_up hs1 s2
    have b12 := b1.trans (But.of s2)
    have hr2 : RowsK H2 xs ths := ⟨hxl, fun k t h => let ⟨p', a1, a2⟩ := hxe k t h; ⟨p', a1, s2 _ _ (src_tup hs b1 a2)⟩⟩
    obtain ⟨pt, ep1, ep2⟩ := hr2.2 at_ ths[at_] (List.getElem?_eq_getElem hlt)
    have hg := hgood _ (List.getElem_mem hlt)
    generalize ths[at_] = tt at ep2 hg
    refine ⟨_, rfl, _, rfl, R, xs, _, _, rfl, rfl, SqL.of eR, atI_nat ep1, pt, _, rfl, SqT.of ep2, rfl, _, _, rfl, _, _, rfl, rfl, ?_⟩
    refine ⟨_, rfl, _, _, rfl, rfl, _, rfl, lenOk (n := 2) rfl (by decide), fun tp ntp => ?_⟩
    have s3 := same_new (o := .tup [V.int ((tt.1 : Int) + 1), V.int (tt.2 : Int)]) ntp
    have hpR : tp ≠ R := fun z => by rw [z, eR] at ntp; cases ntp
    refine ⟨_, rfl, _, rfl, R, xs, _, at_, rfl, rfl, s3 _ _ eR, ixN_nat (by omega), ?_⟩
    generalize hH4 : upd (upd H2 tp _) R _ = H4
    have e4 : H4 R = some (.lst (xs.set at_ (.ref tp))) := by rw [← hH4]; exact upd_same
    have b24 : ∀ b o, H2 b = some (.tup o) → H4 b = some (.tup o) := fun b o h => by
      rw [← hH4, upd_ne (fun z => by rw [z, eR] at h; cases h)]
      exact s3 _ _ h
    have etp : H4 tp = some (.tup [V.int ((tt.1 + 1 : Nat) : Int), V.int (tt.2 : Int)]) := by
      rw [← hH4, upd_ne hpR]
      exact upd_same
    have hs4 : Src c H4 p := by rw [← hH4]; exact src_put (src_up hs2 s3) hRp hRc
    have b4 : But p H H4 := by rw [← hH4]; exact but_new (b12.trans (But.of s3)) hHR
    clear hH4 ntp s3 hs2 s2
    have hr4 : RowsK H4 (xs.set at_ (.ref tp)) (ths.set at_ (tt.1 + 1, tt.2)) := (hr2.up b24).set etp
    have fin : ∀ (H9 : Hp) (ys : List V) (t9 : Nat × Nat), Src c H9 p → But p H H9 → H9 R = some (.lst ys) → RowsK H9 ys (ths.set at_ t9) → 1 ≤ t9.2 ∧ t9.2 ≤ 16 → spTable K [.int (s0 : Int), .ref R] H9 Q E0 := fun H9 ys t9 hs9 b9 e9 hr9 hg9 => by
      refine ⟨R, ths.set at_ t9, s0, rfl, ⟨⟨ys, .inl (SqL.of e9), hr9⟩, by rw [List.length_set]; exact h6, fun t h => ?_⟩, fun H3 l s3 n3 e3 => ?_⟩
      · rcases List.mem_or_eq_of_mem_set h with z | z
        · exact hgood t z
        · rw [z]
          exact hg9
      · exact q H3 l _ (src_up hs9 s3) (b9.trans (But.of s3)) e3 (by rw [tab_len, List.length_set])
    refine ⟨_, rfl, c, p, 2, rfl, hs4, by decide, by decide, fun H5 r lr hs5 b5 => ⟨rfl, _, rfl, ifB (fun e2 => ?_) (fun e2 => ?_)⟩⟩
    · have e5 := b5 _ _ hRp e4
      have hr5 : RowsK H5 _ _ := hr4.up fun _ _ h => src_tup hs4 b5 h
      refine ⟨_, rfl, lenOk (n := 5) rfl (by decide), fun tq ntq => ?_⟩
      have s6 := same_new (o := .tup [V.int 16, V.int 1, V.int 2, V.int 4, V.int 8]) ntq
      refine ⟨_, rfl, c, p, 5, rfl, src_up hs5 s6, by decide, by decide, fun H6 k5 l5 hs6 b6 => ?_⟩
      obtain ⟨al, ha1, ha2, hat⟩ : ∃ b : Nat, 1 ≤ b ∧ b ≤ 16 ∧ atI [V.int 16, V.int 1, V.int 2, V.int 4, V.int 8] (k5 : Int) = some (.int (b : Int)) := by
        match k5, l5 with
        | 0, _ => exact ⟨16, by decide, by decide, rfl⟩
        | 1, _ => exact ⟨1, by decide, by decide, rfl⟩
        | 2, _ => exact ⟨2, by decide, by decide, rfl⟩
        | 3, _ => exact ⟨4, by decide, by decide, rfl⟩
        | 4, _ => exact ⟨8, by decide, by decide, rfl⟩
        | n + 5, h => exact absurd h (by omega)
      have tq2 := src_tup (src_up hs5 s6) b6 (show (upd H5 tq (.tup [V.int 16, V.int 1, V.int 2, V.int 4, V.int 8])) tq = some (.tup [V.int 16, V.int 1, V.int 2, V.int 4, V.int 8]) from upd_same)
      have e6 := b6 _ _ hRp (s6 _ _ e5)
      have hr6 : RowsK H6 _ _ := hr5.up fun _ _ h => src_tup (src_up hs5 s6) b6 (s6 _ _ h)
      have b06 := ((b4.trans b5).trans (But.of s6)).trans b6
      refine ⟨tq, _, _, _, rfl, rfl, SqT.of tq2, hat, lenOk (n := 2) rfl (by decide), fun tr ntr => ?_⟩
      have s7 := same_new (o := .tup [V.int (tt.1 : Int), V.int (al : Int)]) ntr
      have hrR : tr ≠ R := fun z => by rw [z, e6] at ntr; cases ntr
      refine ⟨_, rfl, _, rfl, R, _, _, at_, rfl, rfl, s7 _ _ e6, ixN_nat (by rw [List.length_set]; omega), ?_⟩
      generalize hH8 : upd (upd H6 tr _) R _ = H8
      have e8 : H8 R = some (.lst ((xs.set at_ (.ref tp)).set at_ (.ref tr))) := by rw [← hH8]; exact upd_same
      have b68 : ∀ b o, H6 b = some (.tup o) → H8 b = some (.tup o) := fun b o h => by
        rw [← hH8, upd_ne (fun z => by rw [z, e6] at h; cases h)]
        exact s7 _ _ h
      have etr : H8 tr = some (.tup [V.int (tt.1 : Int), V.int (al : Int)]) := by
        rw [← hH8, upd_ne hrR]
        exact upd_same
      have hs8 : Src c H8 p := by rw [← hH8]; exact src_put (src_up hs6 s7) hRp hRc
      have b8 : But p H H8 := by rw [← hH8]; exact but_new (b06.trans (But.of s7)) hHR
      have hr8 : RowsK H8 ((xs.set at_ (.ref tp)).set at_ (.ref tr)) (ths.set at_ (tt.1, al)) := by
        have := (hr6.up b68).set (k := at_) (p := tr) (t := (tt.1, al)) etr
        rw [List.set_set, List.set_set] at this
        rw [List.set_set]
        exact this
      exact ⟨_, rfl, _, rfl, fin H8 _ (tt.1, al) hs8 b8 e8 hr8 ⟨ha1, ha2⟩⟩
    · have e5 := b5 _ _ hRp e4
      exact ⟨_, rfl, _, rfl, fin H5 _ (tt.1 + 1, tt.2) hs5 (b4.trans b5) e5 (hr4.up fun _ _ h => src_tup hs4 b5 h) hg⟩
end
end R1

namespace R1
open PySem PySem.Spec PyProof.Rows L2 RK PT
local macro_rules | `(tactic| walk_at "sq") => `(tactic| first
  | exact SqL.of upd_same | exact upd_same | exact SqL.of (by assumption) | exact SqL.of (by rw [upd_ne (by assumption)]; assumption) | assumption)
local macro_rules | `(tactic| walk_at "sd") => `(tactic| first
  | assumption | omega | (refine Or.inl ⟨?_, ?_⟩ <;> omega) | (show _ ∧ _; constructor <;> omega) | (show _ ≠ _; simp; omega) | (exact Or.inl ⟨by decide, by decide⟩) | (exact Or.inr ⟨by decide, by decide⟩) | (show _ < _; decide) | (show _ ≤ _; decide))
local macro_rules | `(tactic| walk_at "at") => `(tactic| first | rfl | (refine atI_intV ?_ ?_ <;> omega) | assumption)
local macro_rules | `(tactic| walk_at "s1") => `(tactic| first
  | refine ⟨_, rfl, ?_⟩ | refine ⟨_, _, rfl, rfl, ?_⟩ | refine ⟨rfl, ?_⟩
  | refine ⟨_, _, _, _, rfl, rfl, by walk_at "sq", by walk_at "at", ?_⟩
  | refine Or.inl ⟨_, rfl, ?_⟩
  | refine ⟨_, _, rfl, Or.inl (by walk_at "sq"), ?_⟩
  | refine And.intro (by walk_at "sd") ?_)
local macro_rules | `(tactic| walk_at "s") => `(tactic| repeat walk_at "s1")

def spBeside (K : PySem.W.Frag) : Sp := fun vs H Q _ => ∃ (c p a ri : Addr) (ths : List (Nat × Nat)) (s : Nat) (es : List Nat), vs = [.ref p, .int (s : Int), .ref a, .ref ri] ∧ Src c H p ∧ ThK K H a ths ∧ ths.length ≤ 6 ∧ H ri = some (.lst (intV es)) ∧ es.length = 2 ^ ths.length ∧ ∀ H' l (fs : List Nat), Src c H' p → But p H H' → H' l = some (.lst (intV fs)) → fs.length ≤ 1000 → Q (.ref l) H'
theorem atI_last {gs : List Nat} (h : gs ≠ []) : ∃ x : Nat, atI (intV gs) (-1) = some (.int (x : Int)) := by
  have hl := List.length_pos_iff.mpr h
  have hil : (intV gs).length = gs.length := List.length_map ..
  refine ⟨gs.getD (gs.length - 1) 0, ?_⟩
  unfold atI ixN
  rw [if_neg (by decide), if_pos (by rw [hil]; omega), hil]
  rw [show ((-1 : Int) + (gs.length : Int)).toNat = gs.length - 1 by omega]
  exact getV (by omega)
section
variable {P : Program} {w : World} {K : PySem.W.Frag} {mg : Str → Option Value} {base : Heap} {A : Ads}
theorem ok_law_beside (T : Txt K mg A) : FnOk P w K mg base CX0 5 A.a_law_beside A.d_law_beside ["_law_source_here", "_law_start", "_law_things_here", "_law_right_here"] (spBeside K) := by
  refine T.F_law_beside.ok sc_law_beside (fun vs H Q E h => ?_) (fun cdv B outer s H vs Q E hr h => ?_)
  · obtain ⟨c, p, a, ri, ths, s, es, rfl, _⟩ := h
    rfl
  · obtain ⟨c, p, a, ri, ths, s0, es, rfl, hs, ht, h6, hri, hel, q⟩ := h
    refine ⟨_, (pss_cons (ps_set (i := 4) sc_law_beside.nd rfl (.inl rfl) (pe_callTy list_of (by rfl) T.n_list (by decide +kernel) (pa_cons (pv 3) pa_nil)))
    (pss_cons (ps_set (i := 5) sc_law_beside.nd rfl (.inl rfl) (pe_call (ok_law_draw T) (hr.mono (by omega)) rfl T.g_law_draw T.F_law_draw.kp T.b_law_draw .nil pass0 (pa_cons (pv 0) (pa_cons (pe_callB len_seq (by rfl) T.n_len (by decide +kernel) (pa_cons (pv 4) pa_nil)) pa_nil))))
    (pss_cons (ps_set (i := 6) sc_law_beside.nd rfl (.inl rfl) (pe_op op_mul (pe_op op_add pe_int (pe_call (ok_law_draw T) (hr.mono (by omega)) rfl T.g_law_draw T.F_law_draw.kp T.b_law_draw .nil pass0 (pa_cons (pv 0) (pa_cons pe_int pa_nil)))) (pe_ix ix_tup (pe_tup (pa_cons pe_int (pa_cons (pe_un un_neg pe_int) pa_nil))) (pe_call (ok_law_draw T) (hr.mono (by omega)) rfl T.g_law_draw T.F_law_draw.kp T.b_law_draw .nil pass0 (pa_cons (pv 0) (pa_cons pe_int pa_nil))) (fun _ _ => rfl))))
    (pss_cons (ps_set (i := 7) sc_law_beside.nd rfl (.inl rfl) (pe_call (ok_law_draw T) (hr.mono (by omega)) rfl T.g_law_draw T.F_law_draw.kp T.b_law_draw .nil pass0 (pa_cons (pv 0) (pa_cons pe_int pa_nil))))
    (pss_cons (ps_if (pt_cmpR op_lt (pv 7) pe_int (nomark _)) (pss_one (ps_asg (pe_callB (call_max2 rfl) (by rfl) T.n_max (by decide +kernel) (pa_cons pe_int (pa_cons (pe_callTy call_int1 (by rfl) T.n_int (by decide +kernel) (pa_cons (pe_op op_add (pe_ix ix_list (pv 4) (pv 5) (fun _ _ => rfl)) (pv 6)) pa_nil)) pa_nil))) (pg_sub (pv 4) (pv 5) set_list))) pss_nil)
    (pss_cons (ps_if (pt_cmpR op_eq (pv 7) pe_int (nomark _)) (pss_one (ps_for PassesOwn.never rfl (pi_range1 (by rfl) T.n_range (pa_cons pe_int pa_nil)) (pg_name (i := 8) sc_law_beside.nd rfl (.inl rfl))
      (pss_cons (ps_set (i := 5) sc_law_beside.nd rfl (.inl rfl) (pe_call (ok_law_draw T) (hr.mono (by omega)) rfl T.g_law_draw T.F_law_draw.kp T.b_law_draw .nil pass0 (pa_cons (pv 0) (pa_cons (pe_callB len_seq (by rfl) T.n_len (by decide +kernel) (pa_cons (pv 4) pa_nil)) pa_nil))))
    (pss_one (ps_asg (pe_callB (call_max2 rfl) (by rfl) T.n_max (by decide +kernel) (pa_cons pe_int (pa_cons (pe_callTy call_int1 (by rfl) T.n_int (by decide +kernel) (pa_cons (pe_op op_add (pe_ix ix_list (pv 4) (pv 5) (fun _ _ => rfl)) (pv 6)) pa_nil)) pa_nil))) (pg_sub (pv 4) (pv 5) set_list)))))) pss_nil)
    (pss_cons (ps_if (pt_cmpR op_eq (pv 7) pe_int (nomark _)) (pss_one (ps_set (i := 4) sc_law_beside.nd rfl (.inl rfl) (pe_call (ok_law_worked_out T) (hr.mono (by omega)) rfl T.g_law_worked_out T.F_law_worked_out.kp T.b_law_worked_out .nil pass0 (pa_cons (pv 4) (pa_cons (pv 2) (pa_cons (pv 5) pa_nil)))))) pss_nil)
    (pss_cons (ps_if (pt_cmpR op_eq (pv 7) pe_int (nomark _)) (pss_cons (ps_set (i := 4) sc_law_beside.nd rfl (.inl rfl) (pe_slice sl_list (pv 4) po_none (po_some (pe_call (ok_law_draw T) (hr.mono (by omega)) rfl T.g_law_draw T.F_law_draw.kp T.b_law_draw .nil pass0 (pa_cons (pv 0) (pa_cons (pe_op op_add (pe_callB len_seq (by rfl) T.n_len (by decide +kernel) (pa_cons (pv 4) pa_nil)) pe_int) pa_nil))))))
    (pss_one (ps_if (pt_cmpR op_eq (pe_callB len_seq (by rfl) T.n_len (by decide +kernel) (pa_cons (pv 4) pa_nil)) (pe_callB len_seq (by rfl) T.n_len (by decide +kernel) (pa_cons (pv 3) pa_nil)) (nomark _)) (pss_one (ps_expr (pe_bm PySem.F.plainAttrs_list PySem.F.slot_list_append PySem.F.type_list_append mt_append (pv 4) (pa_cons (pe_ix ix_list (pv 4) (pe_un un_neg pe_int) (fun _ _ => rfl)) pa_nil)))) pss_nil))) pss_nil)
    (pss_cons (ps_if (pt_cmpR op_eq (pv 7) pe_int (nomark _)) (pss_one (ps_set (i := 4) sc_law_beside.nd rfl (.inl rfl) (pe_call (ok_law_other_things T) (hr.mono (by omega)) rfl T.g_law_other_things T.F_law_other_things.kp T.b_law_other_things .nil pass0 (pa_cons (pv 0) (pa_cons (pv 1) (pa_cons (pv 2) pa_nil)))))) pss_nil)
    (pss_cons (ps_if (pt_cmpR op_eq (pv 7) pe_int (nomark _)) (pss_cons (ps_set (i := 9) sc_law_beside.nd rfl (.inl rfl) (pe_call (ok_law_draw T) (hr.mono (by omega)) rfl T.g_law_draw T.F_law_draw.kp T.b_law_draw .nil pass0 (pa_cons (pv 0) (pa_cons (pe_callB len_seq (by rfl) T.n_len (by decide +kernel) (pa_cons (pv 4) pa_nil)) pa_nil))))
    (pss_cons (ps_asg (pe_ix ix_list (pv 3) (pv 9) (fun _ _ => rfl)) (pg_sub (pv 4) (pv 5) set_list))
    (pss_one (ps_asg (pe_ix ix_list (pv 3) (pv 5) (fun _ _ => rfl)) (pg_sub (pv 4) (pv 9) set_list))))) pss_nil)
    (pss_cons (ps_if (pt_cmpR op_eq (pv 7) pe_int (nomark _)) (pss_one (ps_set (i := 4) sc_law_beside.nd rfl (.inl rfl) (pe_op op_cat (pe_slice sl_list (pv 4) po_none (po_some (pv 5))) (pe_lc (own := [("_law_end_here", 10)]) rfl sc_law_beside.nd (pi_list (pe_slice sl_list (pv 4) (po_some (pv 5)) po_none)) (blkOk_by (own := [("_law_end_here", 10)]) (N := N_law_beside) (sc := defScope s_law_beside) (by decide +kernel)) (fun _ _ _ _ _ => pg_name (i := 10) sc_law_beside.nd rfl (Or.inl rfl)) (fun _ _ _ _ _ => pts_nil) (fun _ _ _ _ _ => by exact (pe_op op_add (pv 10) pe_int)))))) pss_nil)
    (pss_one (ps_ret (pv 4)))))))))))))), ?_⟩
    have hil : ∀ fs : List Nat, (intV fs).length = fs.length := fun fs => List.length_map ..
    have hrip := src_ints hs hri
    obtain ⟨hp, hp1, hp2⟩ := pow7 (show ths.length ≤ 7 by omega)
    refine ⟨_, rfl, ri, _, rfl, .inl (SqL.of hri), fun R nR => ?_⟩
    generalize hH1 : upd H R _ = H1
    have s1 : Same H H1 := by rw [← hH1]; exact same_new nR
    have eR : H1 R = some (.lst (intV es)) := by rw [← hH1]; exact upd_same
    have hRp : R ≠ p := fun z => by rw [z] at nR; exact src_ne hs nR
    have hRc : R ≠ c := fun z => by rw [z] at nR; exact src_cne hs nR
    have hRi : R ≠ ri := fun z => by rw [z, hri] at nR; cases nR
    clear hH1
    have hs1 := src_up hs s1
    refine ⟨_, rfl, _, rfl, R, _, rfl, .inl (SqL.of eR), c, p, _, rfl, hs1, by rw [hil]; omega, by rw [hil]; omega, fun H2 at_ lat hs2 b2 => ?_⟩
    rw [hil] at lat
    refine ⟨_, rfl, c, p, 5, rfl, hs2, by decide, by decide, fun H3 d5 l5 hs3 b3 => ⟨_, _, rfl, rfl, ?_⟩⟩
    refine ⟨_, rfl, lenOk (n := 2) rfl (by decide), fun tq ntq => ?_⟩
    have s4 := same_new (o := .tup [V.int 1, V.int (-1)]) ntq
    refine ⟨_, rfl, c, p, 2, rfl, src_up hs3 s4, by decide, by decide, fun H5 k2 l2 hs5 b5 => ?_⟩
    obtain ⟨sg, hat2, hsg⟩ : ∃ sg : Int, atI [V.int 1, V.int (-1)] (k2 : Int) = some (.int sg) ∧ (sg = 1 ∨ sg = -1) := by
      match k2, l2 with
      | 0, _ => exact ⟨1, rfl, .inl rfl⟩
      | 1, _ => exact ⟨-1, rfl, .inr rfl⟩
      | n + 2, h => exact absurd h (by omega)
    have tq2 := src_tup (src_up hs3 s4) b5 (show (upd H3 tq (.tup [V.int 1, V.int (-1)])) tq = some (.tup [V.int 1, V.int (-1)]) from upd_same)
    refine ⟨tq, _, _, _, rfl, rfl, SqT.of tq2, hat2, _, _, rfl, rfl, .inr ⟨by omega, by omega⟩, ?_⟩
    generalize hcg : (1 + (d5 : Int)) * sg = cg
    show gName 6 (V.int ((1 + (d5 : Int)) * sg)) _ _ _
    rw [hcg]
    refine ⟨_, rfl, c, p, 7, rfl, hs5, by decide, by decide, fun H6 way lway hs6 b6 => ?_⟩
    have b16 := (((b2.trans b3).trans (But.of s4)).trans b5).trans b6
    have eR6 := b16 _ _ hRp eR
    have bH6 := (But.of (p := p) s1).trans b16
    have ei6 := bH6 _ _ hrip hri
    have ht6 := ht.but hs bH6
    clear b2 b3 b5 b6 s4 tq2 hat2 hs5 hs3 hs2 ntq eR b16 hcg
    have chg : ∀ v : Int, ∃ x : Nat, (if v + cg > 0 then v + cg else 0) = (x : Int) := fun v => by
      refine ⟨(if v + cg > 0 then v + cg else 0).toNat, ?_⟩
      split
      · omega
      · rfl
    have lat2 : at_ < es.length := by omega
    match way, lway with
    | 0, _ =>
      refine ⟨_, rfl, _, _, rfl, rfl, _, rfl, ifT rfl ?_⟩
      obtain ⟨x, hx⟩ := chg ((es.getD at_ 0 : Nat) : Int)
      refine ⟨_, rfl, _, rfl, R, intV es, _, _, rfl, rfl, SqL.of eR6, atI_nat (getV lat2), _, rfl, _, _, rfl, rfl, .inl ⟨_, rfl, _, _, rfl, ?_⟩⟩
      show gSub (tVar 4) (tVar 5) rSetL (V.int (if ((es.getD at_ 0 : Nat) : Int) + cg > 0 then ((es.getD at_ 0 : Nat) : Int) + cg else 0)) _ _ _
      rw [hx]
      refine ⟨_, rfl, _, rfl, R, _, _, at_, rfl, rfl, eR6, ixN_nat (by rw [hil]; exact lat2), ?_⟩
      rw [set_ints]
      have hs7 : Src c (upd H6 R (.lst (intV (es.set at_ x)))) p := src_put hs6 hRp hRc
      have b7 : But p H (upd H6 R (.lst (intV (es.set at_ x)))) := but_new bH6 nR
      have eR7 : (upd H6 R (.lst (intV (es.set at_ x)))) R = some (.lst (intV (es.set at_ x))) := upd_same
      have hfl : (es.set at_ x).length = es.length := List.length_set ..
      generalize upd H6 R (.lst (intV (es.set at_ x))) = H7 at hs7 b7 eR7 ⊢
      generalize es.set at_ x = fs at eR7 hfl ⊢
      refine ⟨_, rfl, rfl, _, rfl, ifF rfl ?_⟩
      refine ⟨_, rfl, rfl, _, rfl, ifF rfl ?_⟩
      refine ⟨_, rfl, rfl, _, rfl, ifF rfl ?_⟩
      refine ⟨_, rfl, rfl, _, rfl, ifF rfl ?_⟩
      refine ⟨_, rfl, rfl, _, rfl, ifF rfl ?_⟩
      refine ⟨_, rfl, rfl, _, rfl, ifF rfl ?_⟩
      exact ⟨_, rfl, q _ R fs hs7 b7 eR7 (by omega)⟩
    | 1, _ =>
      refine ⟨_, rfl, _, _, rfl, rfl, _, rfl, ifT rfl ?_⟩
      obtain ⟨x, hx⟩ := chg ((es.getD at_ 0 : Nat) : Int)
      refine ⟨_, rfl, _, rfl, R, intV es, _, _, rfl, rfl, SqL.of eR6, atI_nat (getV lat2), _, rfl, _, _, rfl, rfl, .inl ⟨_, rfl, _, _, rfl, ?_⟩⟩
      show gSub (tVar 4) (tVar 5) rSetL (V.int (if ((es.getD at_ 0 : Nat) : Int) + cg > 0 then ((es.getD at_ 0 : Nat) : Int) + cg else 0)) _ _ _
      rw [hx]
      refine ⟨_, rfl, _, rfl, R, _, _, at_, rfl, rfl, eR6, ixN_nat (by rw [hil]; exact lat2), ?_⟩
      rw [set_ints]
      have hs7 : Src c (upd H6 R (.lst (intV (es.set at_ x)))) p := src_put hs6 hRp hRc
      have b7 : But p H (upd H6 R (.lst (intV (es.set at_ x)))) := but_new bH6 nR
      have eR7 : (upd H6 R (.lst (intV (es.set at_ x)))) R = some (.lst (intV (es.set at_ x))) := upd_same
      have hfl : (es.set at_ x).length = es.length := List.length_set ..
      generalize upd H6 R (.lst (intV (es.set at_ x))) = H7 at hs7 b7 eR7 ⊢
      generalize es.set at_ x = fs at eR7 hfl ⊢
      refine ⟨_, rfl, rfl, _, rfl, ifT rfl ?_⟩
      refine ⟨2, rfl, by decide, by decide, ?_⟩
      rw [show (2 : Int).toNat = 2 from rfl]
      refine for_it (walk_range (lo := 0) (n := 2)) (fun i σ Hc => ∃ gs a5 o8 o9 o10, σ = [some (.ref p), some (.int (s0 : Int)), some (.ref a), some (.ref ri), some (.ref R), some (.int ((a5 : Nat) : Int)), some (.int cg), some (.int ((1 : Nat) : Int)), o8, o9, o10] ∧ Src c Hc p ∧ But p H Hc ∧ Hc R = some (.lst (intV gs)) ∧ gs.length = es.length) ⟨fs, at_, _, _, _, rfl, hs7, b7, eR7, hfl⟩ (fun _ _ _ _ _ => trivial) (fun i x σ Hc Hd hi y e => ?_) (fun σ Hc y => ?_)
      · obtain ⟨rfl, rfl⟩ := e
        obtain ⟨gs, a5, o8, o9, o10, rfl, hsc, bc, eRc, hgl⟩ := y
        refine ⟨_, rfl, _, rfl, R, _, rfl, .inl (SqL.of eRc), c, p, _, rfl, hsc, by rw [hil]; omega, by rw [hil]; omega, fun He a6 la6 hse be => ?_⟩
        rw [hil] at la6
        have eRe := be _ _ hRp eRc
        have la7 : a6 < gs.length := by omega
        obtain ⟨x2, hx2⟩ := chg ((gs.getD a6 0 : Nat) : Int)
        refine ⟨_, rfl, _, rfl, R, intV gs, _, _, rfl, rfl, SqL.of eRe, atI_nat (getV la7), _, rfl, _, _, rfl, rfl, .inl ⟨_, rfl, _, _, rfl, ?_⟩⟩
        show gSub (tVar 4) (tVar 5) rSetL (V.int (if ((gs.getD a6 0 : Nat) : Int) + cg > 0 then ((gs.getD a6 0 : Nat) : Int) + cg else 0)) _ _ _
        rw [hx2]
        refine ⟨_, rfl, _, rfl, R, _, _, a6, rfl, rfl, eRe, ixN_nat (by rw [hil]; exact la7), ?_⟩
        rw [set_ints]
        exact ⟨gs.set a6 x2, a6, _, _, _, rfl, src_put hse hRp hRc, but_new (bc.trans be) nR, upd_same, by rw [List.length_set]; exact hgl⟩
      · obtain ⟨gs, a5, o8, o9, o10, rfl, hsc, bc, eRc, hgl⟩ := y
        refine ⟨_, rfl, rfl, _, rfl, ifF rfl ?_⟩
        refine ⟨_, rfl, rfl, _, rfl, ifF rfl ?_⟩
        refine ⟨_, rfl, rfl, _, rfl, ifF rfl ?_⟩
        refine ⟨_, rfl, rfl, _, rfl, ifF rfl ?_⟩
        refine ⟨_, rfl, rfl, _, rfl, ifF rfl ?_⟩
        exact ⟨_, rfl, q _ R gs hsc bc eRc (by omega)⟩
    | 2, _ =>
      refine ⟨_, rfl, _, _, rfl, rfl, _, rfl, ifT rfl ?_⟩
      obtain ⟨x, hx⟩ := chg ((es.getD at_ 0 : Nat) : Int)
      refine ⟨_, rfl, _, rfl, R, intV es, _, _, rfl, rfl, SqL.of eR6, atI_nat (getV lat2), _, rfl, _, _, rfl, rfl, .inl ⟨_, rfl, _, _, rfl, ?_⟩⟩
      show gSub (tVar 4) (tVar 5) rSetL (V.int (if ((es.getD at_ 0 : Nat) : Int) + cg > 0 then ((es.getD at_ 0 : Nat) : Int) + cg else 0)) _ _ _
      rw [hx]
      refine ⟨_, rfl, _, rfl, R, _, _, at_, rfl, rfl, eR6, ixN_nat (by rw [hil]; exact lat2), ?_⟩
      rw [set_ints]
      have hs7 : Src c (upd H6 R (.lst (intV (es.set at_ x)))) p := src_put hs6 hRp hRc
      have b7 : But p H (upd H6 R (.lst (intV (es.set at_ x)))) := but_new bH6 nR
      have eR7 : (upd H6 R (.lst (intV (es.set at_ x)))) R = some (.lst (intV (es.set at_ x))) := upd_same
      have hfl : (es.set at_ x).length = es.length := List.length_set ..
      generalize upd H6 R (.lst (intV (es.set at_ x))) = H7 at hs7 b7 eR7 ⊢
      generalize es.set at_ x = fs at eR7 hfl ⊢
      refine ⟨_, rfl, rfl, _, rfl, ifF rfl ?_⟩
      refine ⟨_, rfl, rfl, _, rfl, ifT rfl ?_⟩
      refine ⟨_, rfl, _, rfl, _, rfl, R, a, ths, fs, at_, rfl, ThQ.of (ht.but hs b7) h6, eR7, by omega, by omega, fun H8 l8 gs s8 n8 e8 hl8 => ?_⟩
      refine ⟨_, rfl, rfl, _, rfl, ifF rfl ?_⟩
      refine ⟨_, rfl, rfl, _, rfl, ifF rfl ?_⟩
      refine ⟨_, rfl, rfl, _, rfl, ifF rfl ?_⟩
      refine ⟨_, rfl, rfl, _, rfl, ifF rfl ?_⟩
      exact ⟨_, rfl, q _ l8 gs (src_up hs7 s8) (b7.trans (But.of s8)) e8 (by omega)⟩
    | 3, _ =>
      refine ⟨_, rfl, _, _, rfl, rfl, _, rfl, ifF rfl ?_⟩
      refine ⟨_, rfl, rfl, _, rfl, ifF rfl ?_⟩
      refine ⟨_, rfl, rfl, _, rfl, ifF rfl ?_⟩
      refine ⟨_, rfl, rfl, _, rfl, ifT rfl ?_⟩
      refine ⟨_, rfl, _, rfl, _, rfl, R, _, rfl, .inl (SqL.of eR6), _, _, rfl, rfl, c, p, _, rfl, hs6, by rw [hil]; omega, by rw [hil]; omega, fun H8 r lr hs8 b8 => ?_⟩
      refine ⟨_, rfl, R, _, rfl, SqL.of (b8 _ _ hRp eR6), fun D nD => ?_⟩
      have hcut : cutV (intV es) none (some (r : Int)) = intV (es.take r) := by
        unfold intV
        rw [List.map_take]
        exact cutV_hi r
      rw [hcut]
      have hHD : H D = none := by
        cases hh : H D with
        | none => rfl
        | some o =>
          have hDp : D ≠ p := fun z => by rw [z] at nD; exact src_ne hs8 nD
          rw [b8 _ _ hDp (bH6 _ _ hDp hh)] at nD
          cases nD
      have hDp : D ≠ p := fun z => by rw [z] at nD; exact src_ne hs8 nD
      have hDc : D ≠ c := fun z => by rw [z] at nD; exact src_cne hs8 nD
      have hs9 := src_up hs8 (same_new (o := .lst (intV (es.take r))) nD)
      have b9 := (bH6.trans b8).trans (But.of (p := p) (same_new (o := .lst (intV (es.take r))) nD))
      have ei9 := (same_new (o := .lst (intV (es.take r))) nD) _ _ (b8 _ _ hrip ei6)
      have eD : (upd H8 D (.lst (intV (es.take r)))) D = some (.lst (intV (es.take r))) := upd_same
      have hgl : (es.take r).length ≤ 300 := by rw [List.length_take]; omega
      generalize upd H8 D (.lst (intV (es.take r))) = H9 at hs9 b9 ei9 eD ⊢
      generalize es.take r = gs at eD hgl ⊢
      refine ⟨_, rfl, D, _, rfl, .inl (SqL.of eD), _, rfl, ri, _, rfl, .inl (SqL.of ei9), rfl, _, rfl, ifB (fun e => ?_) (fun e => ?_)⟩
      · have hgne : gs ≠ [] := fun z => by
          have h1 := V.int.inj (of_decide_eq_true e)
          rw [hil, hil, z] at h1
          have h2 : (0 : Int) = (es.length : Int) := h1
          omega
        obtain ⟨x, hx⟩ := atI_last hgne
        refine ⟨_, rfl, .inl ⟨rfl, _, SqL.of eD⟩, _, rfl, _, rfl, D, intV gs, _, _, rfl, rfl, SqL.of eD, hx, D, _, _, rfl, rfl, eD, ?_, ?_⟩
        · rw [hil]
          exact Nat.lt_of_lt_of_le (show gs.length < 400 by omega) (by decide)
        have hap : intV gs ++ [V.int (x : Int)] = intV (gs ++ [x]) := by unfold intV; rw [List.map_append]; rfl
        rw [hap]
        refine ⟨_, rfl, rfl, _, rfl, ifF rfl ?_⟩
        refine ⟨_, rfl, rfl, _, rfl, ifF rfl ?_⟩
        refine ⟨_, rfl, rfl, _, rfl, ifF rfl ?_⟩
        exact ⟨_, rfl, q _ D (gs ++ [x]) (src_put hs9 hDp hDc) (but_new b9 hHD) upd_same (by rw [List.length_append]; show gs.length + 1 ≤ 1000; omega)⟩
      · skip
        refine ⟨_, rfl, rfl, _, rfl, ifF rfl ?_⟩
        refine ⟨_, rfl, rfl, _, rfl, ifF rfl ?_⟩
        refine ⟨_, rfl, rfl, _, rfl, ifF rfl ?_⟩
        exact ⟨_, rfl, q _ D gs hs9 b9 eD (by omega)⟩
    | 4, _ =>
      refine ⟨_, rfl, _, _, rfl, rfl, _, rfl, ifF rfl ?_⟩
      refine ⟨_, rfl, rfl, _, rfl, ifF rfl ?_⟩
      refine ⟨_, rfl, rfl, _, rfl, ifF rfl ?_⟩
      refine ⟨_, rfl, rfl, _, rfl, ifF rfl ?_⟩
      refine ⟨_, rfl, rfl, _, rfl, ifT rfl ?_⟩
      refine ⟨_, rfl, _, rfl, _, rfl, c, p, a, ths, s0, rfl, hs6, ht6, h6, fun H8 l8 gs hs8 b8 e8 hl8 => ?_⟩
      refine ⟨_, rfl, rfl, _, rfl, ifF rfl ?_⟩
      refine ⟨_, rfl, rfl, _, rfl, ifF rfl ?_⟩
      exact ⟨_, rfl, q _ l8 gs hs8 (bH6.trans b8) e8 (by omega)⟩
    | 5, _ =>
      refine ⟨_, rfl, _, _, rfl, rfl, _, rfl, ifF rfl ?_⟩
      refine ⟨_, rfl, rfl, _, rfl, ifF rfl ?_⟩
      refine ⟨_, rfl, rfl, _, rfl, ifF rfl ?_⟩
      refine ⟨_, rfl, rfl, _, rfl, ifF rfl ?_⟩
      refine ⟨_, rfl, rfl, _, rfl, ifF rfl ?_⟩
      refine ⟨_, rfl, rfl, _, rfl, ifT rfl ?_⟩
      refine ⟨_, rfl, _, rfl, R, _, rfl, .inl (SqL.of eR6), c, p, _, rfl, hs6, by rw [hil]; omega, by rw [hil]; omega, fun H8 ot lot hs8 b8 => ?_⟩
      rw [hil] at lot
      have lot2 : ot < es.length := by omega
      have eR8 := b8 _ _ hRp eR6
      have ei8 := b8 _ _ hrip ei6
      refine ⟨_, rfl, _, rfl, ri, intV es, _, _, rfl, rfl, SqL.of ei8, atI_nat (getV lot2), _, rfl, _, rfl, R, _, _, at_, rfl, rfl, eR8, ixN_nat (by rw [hil]; exact lat2), ?_⟩
      rw [set_ints]
      have ei9 : (upd H8 R (.lst (intV (es.set at_ (es.getD ot 0))))) ri = some (.lst (intV es)) := by rw [upd_ne (Ne.symm hRi)]; exact ei8
      refine ⟨_, rfl, _, rfl, ri, intV es, _, _, rfl, rfl, SqL.of ei9, atI_nat (getV lat2), _, rfl, _, rfl, R, _, _, ot, rfl, rfl, upd_same, ixN_nat (by rw [hil, List.length_set]; exact lot2), ?_⟩
      rw [set_ints]
      refine ⟨_, rfl, rfl, _, rfl, ifF rfl ?_⟩
      exact ⟨_, rfl, q _ R _ (src_put (src_put hs8 hRp hRc) hRp hRc) (but_new (but_new (bH6.trans b8) nR) nR) upd_same (by rw [List.length_set, List.length_set]; omega)⟩
    | 6, _ =>
      refine ⟨_, rfl, _, _, rfl, rfl, _, rfl, ifF rfl ?_⟩
      refine ⟨_, rfl, rfl, _, rfl, ifF rfl ?_⟩
      refine ⟨_, rfl, rfl, _, rfl, ifF rfl ?_⟩
      refine ⟨_, rfl, rfl, _, rfl, ifF rfl ?_⟩
      refine ⟨_, rfl, rfl, _, rfl, ifF rfl ?_⟩
      refine ⟨_, rfl, rfl, _, rfl, ifF rfl ?_⟩
      refine ⟨_, rfl, rfl, _, rfl, ifT rfl ?_⟩
      refine ⟨_, rfl, _, rfl, _, rfl, R, _, rfl, SqL.of eR6, fun D1 nD1 => ?_⟩
      have hc1 : cutV (intV es) none (some (at_ : Int)) = intV (es.take at_) := by
        unfold intV
        rw [List.map_take]
        exact cutV_hi at_
      have hc2 : cutV (intV es) (some (at_ : Int)) none = intV (es.drop at_) := by
        unfold intV
        rw [List.map_drop]
        exact cutV_lo at_
      rw [hc1]
      have s7 := same_new (o := .lst (intV (es.take at_))) nD1
      have eD1 : (upd H6 D1 (.lst (intV (es.take at_)))) D1 = some (.lst (intV (es.take at_))) := upd_same
      generalize upd H6 D1 (.lst (intV (es.take at_))) = H7 at s7 eD1 ⊢
      unfold tNoPart
      refine ⟨_, rfl, _, rfl, _, rfl, R, _, rfl, SqL.of (s7 _ _ eR6), fun D2 nD2 => ?_⟩
      rw [hc2]
      have s8 := same_new (o := .lst (intV (es.drop at_))) nD2
      have eD2 : (upd H7 D2 (.lst (intV (es.drop at_)))) D2 = some (.lst (intV (es.drop at_))) := upd_same
      generalize upd H7 D2 (.lst (intV (es.drop at_))) = H8 at s8 eD2 ⊢
      have hdl : (es.drop at_).length ≤ 300 := by rw [List.length_drop]; omega
      have htl : (es.take at_).length ≤ 300 := by rw [List.length_take]; omega
      generalize es.drop at_ = ds at eD2 hdl ⊢
      generalize es.take at_ = ts at eD1 htl ⊢
      refine ⟨D2, rfl, ⟨_, SqL.of eD2⟩, fun D3 nD3 => ?_⟩
      have hdi := hil ds
      refine lc_vals (walk_list (K := K) (a := D2) (xs := intV ds)) (fun j v => (intV ds)[j]? = some v) (fun j => .int (((ds.getD j 0 + 1 : Nat)) : Int)) nD3 (fun H9 s9 => SqL.of (s9 _ _ eD2)) (by omega) (fun j H1 v H2 hj y => y) (fun j v H9 hj sm9 hv Q q => ?_) (fun H9 s9 e9 => ?_)
      · rw [getV (by omega)] at hv
        cases hv
        have := q H9 (Same.refl _)
        rw [show ((ds.getD j 0 + 1 : Nat) : Int) = ((ds.getD j 0 : Nat) : Int) + 1 by omega] at this
        exact ⟨_, rfl, _, _, rfl, rfl, this⟩
      have e10 : H9 D3 = some (.lst (intV (ds.map fun x => x + 1))) := by
        rw [e9, hdi]
        unfold intV
        rw [List.map_map]
        exact congrArg (fun x => some (HO.lst x)) (range_getD (fun x : Nat => V.int ((x + 1 : Nat) : Int)) 0 ds)
      refine ⟨D1, D3, _, _, rfl, rfl, s9 _ _ (s8 _ _ eD1), e10, ?_, fun D4 nD4 => ?_⟩
      · rw [hil, hil, List.length_map]
        exact Nat.le_trans (show ts.length + ds.length ≤ 700 by omega) (by decide)
      have hap : intV ts ++ intV (ds.map fun x => x + 1) = intV (ts ++ ds.map fun x => x + 1) := by unfold intV; rw [List.map_append]
      rw [hap]
      have sA := ((s7.trans s8).trans s9).trans (same_new (o := .lst (intV (ts ++ ds.map fun x => x + 1))) nD4)
      exact ⟨_, rfl, q _ D4 _ (src_up hs6 sA) (bH6.trans (But.of sA)) upd_same (by rw [List.length_append, List.length_map]; omega)⟩
    | n + 7, h => exact absurd h (by omega)
end
end R1

namespace R1
open PySem PySem.Spec PyProof.Rows L2 RK PT
local macro_rules | `(tactic| walk_at "sq") => `(tactic| first
  | exact SqL.of upd_same | exact upd_same | exact SqL.of (by assumption) | exact SqL.of (by rw [upd_ne (by assumption)]; assumption) | assumption)
local macro_rules | `(tactic| walk_at "sd") => `(tactic| first
  | assumption | omega | (refine Or.inl ⟨?_, ?_⟩ <;> omega) | (show _ ∧ _; constructor <;> omega) | (show _ ≠ _; simp; omega) | (exact Or.inl ⟨by decide, by decide⟩) | (exact Or.inr ⟨by decide, by decide⟩) | (show _ < _; decide) | (show _ ≤ _; decide))
local macro_rules | `(tactic| walk_at "at") => `(tactic| first | rfl | (refine atI_intV ?_ ?_ <;> omega) | assumption)
local macro_rules | `(tactic| walk_at "s1") => `(tactic| first
  | refine ⟨_, rfl, ?_⟩ | refine ⟨_, _, rfl, rfl, ?_⟩ | refine ⟨rfl, ?_⟩
  | refine ⟨_, _, _, _, rfl, rfl, by walk_at "sq", by walk_at "at", ?_⟩
  | refine Or.inl ⟨_, rfl, ?_⟩
  | refine ⟨_, _, rfl, Or.inl (by walk_at "sq"), ?_⟩
  | refine And.intro (by walk_at "sd") ?_)
local macro_rules | `(tactic| walk_at "s") => `(tactic| repeat walk_at "s1")

def intsL (l : List Nat) : PyData := .list ((l.map fun (n : Nat) => (n : Int)).map PyData.int)
theorem dx_intsL {K : PySem.W.Frag} {H : Hp} {p : Addr} {l : List Nat} (h : H p = some (.lst (intV l))) : Dx K H noS (.ref p) (intsL l) := by
  rw [intV_ints] at h
  exact .lst (XL.of h fun z => z.elim) (dxAll_ints _)
theorem lay_intsL (es : List Nat) : (intsL es).canLay0 = true := lay_ints _
theorem sh_intsL (es : List Nat) : SeqAt.shaped (intsL es) = true := by
  have hly : (intsL es).canLay0 = true := lay_ints _
  unfold SeqAt.shaped
  rw [hly, Bool.true_and]
  refine decide_eq_true ?_
  show PyData.depthAll _ + 1 ≤ _
  rw [dep_ints]
  decide
def du (rows right : List Nat) : Option Nat := if rows.length ≠ right.length then some 0 else (List.range' 0 right.length).find? fun m => rows.getD m 0 != right.getD m 0
theorem du_self (r : List Nat) : du r r = none := by
  unfold du
  rw [if_neg (fun z => z rfl)]
  exact find_rngN _ _ fun j _ _ => by rw [bne_eq_false_iff_eq]
theorem find_same {p q : Nat → Bool} : ∀ (k a : Nat), (∀ m, a ≤ m → m < a + k → (∀ j, a ≤ j → j < m → q j = false) → p m = q m) → (List.range' a k).find? p = (List.range' a k).find? q
  | 0, _, _ => rfl
  | k + 1, a, h => by
    rw [List.range'_succ, List.find?_cons, List.find?_cons, h a (Nat.le_refl a) (by omega) fun j h1 h2 => by omega]
    cases hq : q a with
    | true => rfl
    | false =>
      exact find_same k (a + 1) fun m h1 h2 h3 => h m (by omega) (by omega) fun j h4 h5 => by
        rcases Nat.lt_or_ge a j with z | z
        · exact h3 j z h5
        · rw [show j = a by omega]
          exact hq
theorem jd_du {ths : List (Nat × Nat)} {s : Nat} (es : List Nat) : jd ths s es = du es (tabT ths s (2 ^ ths.length - 1)) := by
  have hp := Nat.two_pow_pos ths.length
  unfold jd du
  rw [tab_len]
  by_cases hl : es.length = 2 ^ ths.length
  · rw [if_neg (show ¬ (es.length ≠ 2 ^ ths.length) from fun z => z hl)]
    have h0 : (tabT ths s (2 ^ ths.length - 1)).getD 0 0 = s := by
      rw [tab_get (Nat.zero_le _), numsN_zero]
      rfl
    have hr : List.range' 0 (2 ^ ths.length) = 0 :: List.range' 1 (2 ^ ths.length - 1) := by
      obtain ⟨k, hk⟩ : ∃ k, 2 ^ ths.length = k + 1 := ⟨2 ^ ths.length - 1, by omega⟩
      rw [hk, List.range'_succ]
      rfl
    rw [hr, List.find?_cons, h0]
    by_cases hs : es.getD 0 0 = s
    · rw [if_neg (fun z => z.elim (fun y => y hl) (fun y => y hs))]
      have : (es.getD 0 0 != s) = false := by rw [bne_eq_false_iff_eq]; exact hs
      rw [this]
      refine find_same _ _ fun m h1 h2 h3 => ?_
      have he : ∀ j, j ≤ m - 1 → es.getD j 0 = TT ths s (numsN j ths.length) := fun j hj => by
        rcases Nat.eq_zero_or_pos j with z | z
        · subst z
          rw [hs, numsN_zero]
          rfl
        · have := h3 j z (by omega)
          rw [bne_eq_false_iff_eq] at this
          rw [this, tab_get (by omega)]
      have hn := tab_next (j := m - 1) he (by omega)
      rw [show m - 1 + 1 = m by omega] at hn
      rw [hn, tab_get (by omega)]
    · rw [if_pos (.inr hs)]
      have : (es.getD 0 0 != s) = true := by rw [bne_iff_ne]; exact hs
      rw [this]
  · rw [if_pos (.inl hl), if_pos hl]
def spDue2 : Sp := fun vs H Q _ => ∃ (r t : Addr) (rows right : List Nat), vs = [.ref r, .ref t] ∧ H r = some (.lst (intV rows)) ∧ H t = some (.lst (intV right)) ∧ right.length ≤ 1000 ∧ Q (optV (du rows right)) H
def spRight2 : Sp := fun vs H Q _ => ∃ (o : Option Nat), vs = [optV o, optV o] ∧ ∀ H', Same H H' → Q (.bl true) H'
def spLaw (K : PySem.W.Frag) : Sp := fun vs H Q _ => ∃ (a : Addr) (ns : List Int), vs = [.ref a] ∧ SqL K H a (ns.map V.int) ∧ ns.length ≤ 63 ∧ ∀ H', Q (.bl true) H'
section
variable {P : Program} {w : World} {K : PySem.W.Frag} {mg : Str → Option Value} {base : Heap} {A : Ads}
theorem ok_law_due (T : Txt K mg A) : FnOk P w K mg base CX0 1 A.a_law_due A.d_law_due ["_law_rows", "_law_right_here"] spDue2 := by
  refine T.F_law_due.ok sc_law_due (fun vs H Q E h => ?_) (fun cdv B outer s H vs Q E hr h => ?_)
  · obtain ⟨r, t, rows, right, rfl, _⟩ := h
    rfl
  · obtain ⟨r, t, rows, right, rfl, hr1, ht1, hle, q⟩ := h
    refine ⟨_, (pss_cons (ps_if (pt_cmpR op_ne (pe_callB len_seq (by rfl) T.n_len (by decide +kernel) (pa_cons (pv 0) pa_nil)) (pe_callB len_seq (by rfl) T.n_len (by decide +kernel) (pa_cons (pv 1) pa_nil)) (nomark _)) (pss_one (ps_ret pe_int)) pss_nil)
    (pss_cons (ps_for PassesOwn.never rfl (pi_range1 (by rfl) T.n_range (pa_cons (pe_callB len_seq (by rfl) T.n_len (by decide +kernel) (pa_cons (pv 1) pa_nil)) pa_nil)) (pg_name (i := 2) sc_law_due.nd rfl (.inl rfl))
      (pss_one (ps_if (pt_cmpR op_ne (pe_ix ix_list (pv 0) (pv 2) (fun _ _ => rfl)) (pe_ix ix_list (pv 1) (pv 2) (fun _ _ => rfl)) (nomark _)) (pss_one (ps_ret (pv 2))) pss_nil)))
    (pss_one (ps_ret pe_non)))), ?_⟩
    have hil : ∀ fs : List Nat, (intV fs).length = fs.length := fun fs => List.length_map ..
    unfold du at q
    refine ⟨_, rfl, r, _, rfl, .inl (SqL.of hr1), _, rfl, t, _, rfl, .inl (SqL.of ht1), rfl, _, rfl, ?_⟩
    rw [hil, hil]
    refine ifB (fun c => ?_) (fun c => ?_)
    · have hne : rows.length ≠ right.length := fun z => by
        rw [z, decide_eq_true rfl] at c
        cases c
      rw [if_pos hne] at q
      exact q
    have hne : rows.length = right.length := Decidable.byContradiction fun z => by
      rw [decide_eq_false fun y => z (by have := V.int.inj y; omega)] at c
      cases c
    rw [if_neg (fun z => z hne)] at q
    refine ⟨_, rfl, t, _, rfl, .inl (SqL.of ht1), _, rfl, by rw [hil]; omega, by rw [hil]; omega, ?_⟩
    rw [hil, Int.toNat_natCast]
    refine for_it (walk_range (lo := 0) (n := right.length)) (fun i σ Hc => ∃ o2, σ = [some (.ref r), some (.ref t), o2] ∧ Hc = H ∧ ∀ j, 0 ≤ j → j < i → (rows.getD j 0 != right.getD j 0) = false) ⟨_, rfl, rfl, fun j _ h => by omega⟩ (fun _ _ _ _ _ => trivial) (fun i x σ H7 H8 hi y ee => ?_) (fun σ H7 y => ?_)
    · obtain ⟨rfl, rfl⟩ := ee
      obtain ⟨o2, rfl, rfl, hno⟩ := y
      have g1 : atI (intV rows) ((0 : Int) + (i : Int)) = some (.int ((rows.getD i 0 : Nat) : Int)) := by
        rw [Int.zero_add]
        exact atI_nat (getV (by omega))
      have g2 : atI (intV right) ((0 : Int) + (i : Int)) = some (.int ((right.getD i 0 : Nat) : Int)) := by
        rw [Int.zero_add]
        exact atI_nat (getV (by omega))
      refine ⟨_, rfl, _, rfl, r, _, _, _, rfl, rfl, SqL.of hr1, g1, _, rfl, _, rfl, t, _, _, _, rfl, rfl, SqL.of ht1, g2, rfl, _, rfl, ifB (fun c3 => ?_) (fun c3 => ?_)⟩
      · have hc3 : (rows.getD i 0 != right.getD i 0) = true := by
          rw [bne_iff_ne]
          intro z
          rw [z, decide_eq_true rfl] at c3
          cases c3
        rw [find_rng right.length 0 i (by omega) (by omega) (fun j h1 h2 => hno j h1 h2) hc3] at q
        rw [show optV (some i) = V.int (0 + (i : Int)) from congrArg V.int (by omega)] at q
        exact ⟨_, rfl, q⟩
      · have hc3 : (rows.getD i 0 != right.getD i 0) = false := by
          rw [bne_eq_false_iff_eq]
          exact Decidable.byContradiction fun z => by
            rw [decide_eq_false fun y => z (by have := V.int.inj y; omega)] at c3
            cases c3
        refine ⟨_, rfl, rfl, fun j h1 h2 => ?_⟩
        rcases Nat.lt_or_ge j i with z | z
        · exact hno j h1 z
        · rw [show j = i by omega]
          exact hc3
    · obtain ⟨o2, rfl, rfl, hno⟩ := y
      rw [find_rngN right.length 0 fun j h1 h2 => hno j h1 (by omega)] at q
      exact q
theorem ok_law_right (T : Txt K mg A) : FnOk P w K mg base CX0 2 A.a_law_right A.d_law_right ["_law_told", "_law_due_here"] spRight2 := by
  refine T.F_law_right.ok sc_law_right (fun vs H Q E h => ?_) (fun cdv B outer s H vs Q E hr h => ?_)
  · obtain ⟨o, rfl, _⟩ := h
    rfl
  · obtain ⟨o, rfl, q⟩ := h
    refine ⟨_, (pss_cons (ps_if (pt_cmpR op_isN (pv 1) pe_non (nomark _)) (pss_one (ps_ret (pe_cmpR op_isN (pv 0) pe_non (nomark _)))) pss_nil)
    (pss_one (ps_ret (pe_and (pe_call (ok_law_is_number T) (hr.mono (by omega)) rfl T.g_law_is_number T.F_law_is_number.kp T.b_law_is_number .nil pass0 (pa_cons (pv 0) pa_nil)) (pe_one (pe_cmpR op_eq (pv 0) (pv 1) (nomark _))))))), ?_⟩
    cases o with
    | none => exact ⟨_, rfl, rfl, _, rfl, ifT rfl ⟨_, rfl, rfl, q _ (Same.refl _)⟩⟩
    | some m =>
      refine ⟨_, rfl, rfl, _, rfl, ifF rfl ?_⟩
      refine ⟨_, rfl, (m : Int), rfl, _, rfl, ifT rfl ?_⟩
      refine ⟨_, rfl, _, rfl, rfl, ?_⟩
      rw [decide_eq_true rfl]
      exact q _ (Same.refl _)
theorem ok_law (T : Txt K mg A) : FnOk P w K mg base CX0 9 A.a_law A.d_law ["_law_script"] (spLaw K) := by
  refine T.F_law.ok sc_law (fun vs H Q E h => ?_) (fun cdv B outer s H vs Q E hr h => ?_)
  · obtain ⟨a, ns, rfl, _⟩ := h
    rfl
  · obtain ⟨a, ns, rfl, hS, hl, q⟩ := h
    refine ⟨_, (pss_cons (ps_set (i := 1) sc_law.nd rfl (.inl rfl) (pe_call (ok_law_source T) (hr.mono (by omega)) rfl T.g_law_source T.F_law_source.kp T.b_law_source .nil pass0 (pa_cons (pv 0) pa_nil)))
    (pss_cons (ps_set (i := 2) sc_law.nd rfl (.inl rfl) (pe_op op_add (pe_ix ix_tup (pe_tup (pa_cons pe_int (pa_cons pe_int (pa_cons pe_int pa_nil)))) (pe_call (ok_law_draw T) (hr.mono (by omega)) rfl T.g_law_draw T.F_law_draw.kp T.b_law_draw .nil pass0 (pa_cons (pv 1) (pa_cons pe_int pa_nil))) (fun _ _ => rfl)) (pe_call (ok_law_draw T) (hr.mono (by omega)) rfl T.g_law_draw T.F_law_draw.kp T.b_law_draw .nil pass0 (pa_cons (pv 1) (pa_cons pe_int pa_nil)))))
    (pss_cons (ps_set (i := 3) sc_law.nd rfl (.inl rfl) (pe_call (ok_law_things T) (hr.mono (by omega)) rfl T.g_law_things T.F_law_things.kp T.b_law_things .nil pass0 (pa_cons (pv 1) (pa_cons (pe_call (ok_law_draw T) (hr.mono (by omega)) rfl T.g_law_draw T.F_law_draw.kp T.b_law_draw .nil pass0 (pa_cons (pv 1) (pa_cons pe_int pa_nil))) pa_nil))))
    (pss_cons (ps_set (i := 4) sc_law.nd rfl (.inl rfl) (pe_call (ok_law_table T) (hr.mono (by omega)) rfl T.g_law_table T.F_law_table.kp T.b_law_table .nil pass0 (pa_cons (pv 2) (pa_cons (pv 3) pa_nil))))
    (pss_cons (ps_for PassesOwn.never rfl (pi_range1 (by rfl) T.n_range (pa_cons pe_int pa_nil)) (pg_name (i := 5) sc_law.nd rfl (.inl rfl))
      (pss_cons (ps_set (i := 6) sc_law.nd rfl (.inl rfl) (pe_call (ok_law_beside T) (hr.mono (by omega)) rfl T.g_law_beside T.F_law_beside.kp T.b_law_beside .nil pass0 (pa_cons (pv 1) (pa_cons (pv 2) (pa_cons (pv 3) (pa_cons (pv 4) pa_nil))))))
    (pss_cons (ps_set (i := 7) sc_law.nd rfl (.inl rfl) (pe_call (ok_law_due T) (hr.mono (by omega)) rfl T.g_law_due T.F_law_due.kp T.b_law_due .nil pass0 (pa_cons (pv 6) (pa_cons (pv 4) pa_nil))))
    (pss_cons (ps_set (i := 8) sc_law.nd rfl (.inl rfl) (pe_callTy list_of (by rfl) T.n_list (by decide +kernel) (pa_cons (pv 6) pa_nil)))
    (pss_cons (ps_if (PW.pt (pw_or (pt_not (pt_val (pe_call (ok_law_right T) (hr.mono (by omega)) rfl T.g_law_right T.F_law_right.kp T.b_law_right .nil pass0 (pa_cons (pe_call (ok_judge_ends T) (hr.mono (by omega)) rfl T.g_judge_ends T.F_judge_ends.kp T.b_judge_ends .nil pass0 (pa_cons (pv 2) (pa_cons (pv 3) (pa_cons (pv 8) pa_nil)))) (pa_cons (pv 7) pa_nil))))) (pw_or1 (pt_cmpR (op_neD hr.units) (pv 8) (pv 6) (nomark _))))) (pss_one (ps_ret pe_bl)) pss_nil)
    (pss_cons (ps_set (i := 8) sc_law.nd rfl (.inl rfl) (pe_callTy list_of (by rfl) T.n_list (by decide +kernel) (pa_cons (pv 4) pa_nil)))
    (pss_cons (ps_if (PW.pt (pw_or (pt_cmpR op_notN (pe_call (ok_judge_ends T) (hr.mono (by omega)) rfl T.g_judge_ends T.F_judge_ends.kp T.b_judge_ends .nil pass0 (pa_cons (pv 2) (pa_cons (pv 3) (pa_cons (pv 8) pa_nil)))) pe_non (nomark _)) (pw_or1 (pt_cmpR (op_neD hr.units) (pv 8) (pv 4) (nomark _))))) (pss_one (ps_ret pe_bl)) pss_nil)
    (pss_one (ps_if (pt_not (pt_val (pe_call (ok_law_right T) (hr.mono (by omega)) rfl T.g_law_right T.F_law_right.kp T.b_law_right .nil pass0 (pa_cons (pe_call (ok_judge_ends T) (hr.mono (by omega)) rfl T.g_judge_ends T.F_judge_ends.kp T.b_judge_ends .nil pass0 (pa_cons (pv 2) (pa_cons (pv 3) (pa_cons (pe_callTy list_of (by rfl) T.n_list (by decide +kernel) (pa_cons (pv 6) pa_nil)) pa_nil)))) (pa_cons (pv 7) pa_nil))))) (pss_one (ps_ret pe_bl)) pss_nil)))))))))
    (pss_one (ps_ret pe_bl))))))), ?_⟩
    refine ⟨_, rfl, a, ns, rfl, hS, hl, fun H1 c p s1 nc np hs1 => ?_⟩
    refine ⟨lenOk (n := 3) rfl (by decide), fun tp ntp => ?_⟩
    have s2 := same_new (o := .tup [V.int 0, V.int 0, V.int 65400]) ntp
    refine ⟨_, rfl, c, p, 3, rfl, src_up hs1 s2, by decide, by decide, fun H2 k lk hs2 b2 => ?_⟩
    obtain ⟨b, hat⟩ : ∃ b : Nat, atI [V.int 0, V.int 0, V.int 65400] (k : Int) = some (.int (b : Int)) := by
      match k, lk with
      | 0, _ => exact ⟨0, rfl⟩
      | 1, _ => exact ⟨0, rfl⟩
      | 2, _ => exact ⟨65400, rfl⟩
      | n + 3, h => exact absurd h (by omega)
    have tp2 := src_tup (src_up hs1 s2) b2 (show (upd H1 tp (.tup [V.int 0, V.int 0, V.int 65400])) tp = some (.tup [V.int 0, V.int 0, V.int 65400]) from upd_same)
    refine ⟨tp, _, _, _, rfl, rfl, SqT.of tp2, hat, _, rfl, c, p, 61, rfl, hs2, by decide, by decide, fun H3 r61 lr hs3 b3 => ⟨_, _, rfl, rfl, ?_⟩⟩
    obtain ⟨st, hst⟩ : ∃ st : Nat, (b : Int) + (r61 : Int) = (st : Int) := ⟨b + r61, by omega⟩
    show gName 2 (V.int ((b : Int) + (r61 : Int))) _ _ _
    rw [hst]
    refine ⟨_, rfl, _, rfl, c, p, 5, rfl, hs3, by decide, by decide, fun H4 n ln hs4 b4 => ⟨c, p, n, rfl, hs4, by omega, fun H5 th1 ths hl5 ht5 hs5 b5 => ?_⟩⟩
    have h6 : ths.length ≤ 6 := by omega
    refine ⟨_, rfl, _, rfl, th1, ths, st, rfl, ThQ.of ht5 h6, fun H6 ri s6 nri eri => ?_⟩
    have hs6 := src_up hs5 s6
    have ht6 := ht5.up s6
    clear hs5 ht5 s6 hs4 b4 b5 hs3 b3 tp2 b2 hat hs2
    have hrip := src_ints hs6 eri
    have htl : (tabT ths st (2 ^ ths.length - 1)).length ≤ 1000 := by
      have := (pow7 (show ths.length ≤ 7 by omega)).2.2
      rw [tab_len]
      omega
    refine ⟨3, rfl, by decide, by decide, ?_⟩
    rw [show (3 : Int).toNat = 3 from rfl]
    refine for_it (walk_range (lo := 0) (n := 3)) (fun i σ Hc => ∃ o5 o6 o7 o8, σ = [some (.ref a), some (.ref p), some (.int (st : Int)), some (.ref th1), some (.ref ri), o5, o6, o7, o8] ∧ Src c Hc p ∧ But p H6 Hc) ⟨_, _, _, _, rfl, hs6, But.refl _ _⟩ (fun _ _ _ _ _ => trivial) (fun i x σ Ha Hb hi y ee => ?_) (fun σ Ha y => ?_)
    · obtain ⟨rfl, rfl⟩ := ee
      obtain ⟨o5, o6, o7, o8, rfl, hs7, b7⟩ := y
      refine ⟨_, rfl, _, rfl, _, rfl, _, rfl, c, p, th1, ri, ths, st, _, rfl, hs7, ht6.but hs6 b7, h6, b7 _ _ hrip eri, tab_len, fun H8 l fs hs8 b8 e8 hl8 => ?_⟩
      have b68 := b7.trans b8
      have ht8 := ht6.but hs6 b68
      have er8 := b68 _ _ hrip eri
      refine ⟨_, rfl, _, rfl, l, ri, fs, _, rfl, e8, er8, htl, ?_⟩
      refine ⟨_, rfl, l, _, rfl, .inl (SqL.of e8), fun P1 nP1 => ?_⟩
      generalize hX1 : upd H8 P1 _ = X1
      have t1 : Same H8 X1 := by rw [← hX1]; exact same_new nP1
      have eP1 : X1 P1 = some (.lst (intV fs)) := by rw [← hX1]; exact upd_same
      clear hX1 nP1
      refine ⟨_, rfl, _, rfl, _, rfl, th1, P1, ths, st, fs, rfl, ht8.up t1, eP1, hl8, fun X2 t2 => ?_⟩
      rw [jd_du]
      refine ⟨_, rfl, _, rfl, fun X3 t3 => ⟨_, rfl, ifF rfl ?_⟩⟩
      have t13 := (t1.trans t2).trans t3
      refine ⟨_, rfl, _, rfl, _, _, (dx_intsL (K := K) ((t2.trans t3) _ _ eP1)).dp, (dx_intsL (K := K) (t13 _ _ e8)).dp, sh_intsL _, sh_intsL _, ?_⟩
      rw [SeqAt.eqv_refl _ (lay_intsL _)]
      refine ⟨_, rfl, ifF rfl ?_⟩
      have er3 := t13 _ _ er8
      refine ⟨_, rfl, ri, _, rfl, .inl (SqL.of er3), fun P2 nP2 => ?_⟩
      generalize hX4 : upd X3 P2 _ = X4
      have t4 : Same X3 X4 := by rw [← hX4]; exact same_new nP2
      have eP2 : X4 P2 = some (.lst (intV (tabT ths st (2 ^ ths.length - 1)))) := by rw [← hX4]; exact upd_same
      clear hX4 nP2
      refine ⟨_, rfl, _, rfl, _, rfl, th1, P2, ths, st, _, rfl, (ht8.up t13).up t4, eP2, htl, fun X5 t5 => ?_⟩
      rw [jd_du, du_self]
      refine ⟨rfl, _, rfl, ifF rfl ?_⟩
      refine ⟨_, rfl, _, rfl, _, _, (dx_intsL (K := K) (t5 _ _ eP2)).dp, (dx_intsL (K := K) ((t4.trans t5) _ _ er3)).dp, sh_intsL _, sh_intsL _, ?_⟩
      rw [SeqAt.eqv_refl _ (lay_intsL _)]
      refine ⟨_, rfl, ifF rfl ?_⟩
      have t15 := (t13.trans t4).trans t5
      refine ⟨_, rfl, _, rfl, _, rfl, l, _, rfl, .inl (SqL.of (t15 _ _ e8)), fun P3 nP3 => ?_⟩
      have t6 := same_new (o := .lst (intV fs)) nP3
      refine ⟨th1, P3, ths, st, fs, rfl, (ht8.up t15).up t6, upd_same, hl8, fun X7 t7 => ?_⟩
      rw [jd_du]
      refine ⟨_, rfl, _, rfl, fun X8 t8 => ⟨_, rfl, ifF rfl ?_⟩⟩
      have t18 := ((t15.trans t6).trans t7).trans t8
      exact ⟨_, _, _, _, rfl, src_up hs8 t18, b68.trans (But.of t18)⟩
    · exact q _
end
/-! ### what the top has left; the end -/
theorem all_mk {l : PySem.W.OpenLaw} {w : World} {K : PySem.W.Frag} {h : Heap} {mg : Str → Option Value} {fa f1 f2 f3 f4 f5 f6 f7 f8 f9 f10 f11 f12 f13 f14 f15 f16 f17 f18 f19 : Addr} (X : K.In h) (G : h.Ns mainGlobals mg) (hfa : mg "law" = some (.ref fa))
    {od1 an1 od2 an2 od3 an3 od4 an4 od5 an5 od6 an6 od7 an7 od8 an8 od9 an9 od10 an10 od11 an11 od12 an12 od13 an13 od14 an14 od15 an15 od16 an16 od17 an17 od18 an18 od19 an19 : Option Addr} {sl1 sl2 sl3 sl4 sl5 sl6 sl7 sl8 sl9 sl10 sl11 sl12 sl13 sl14 sl15 sl16 sl17 sl18 sl19 : Array (Option Value)} {oc1 kV1 dc1 pm1 cd1 ct1 oc2 kV2 dc2 pm2 cd2 ct2 oc3 kV3 dc3 pm3 cd3 ct3 oc4 kV4 dc4 pm4 cd4 ct4 oc5 kV5 dc5 pm5 cd5 ct5 oc6 kV6 dc6 pm6 cd6 ct6 oc7 kV7 dc7 pm7 cd7 ct7 oc8 kV8 dc8 pm8 cd8 ct8 oc9 kV9 dc9 pm9 cd9 ct9 oc10 kV10 dc10 pm10 cd10 ct10 oc11 kV11 dc11 pm11 cd11 ct11 oc12 kV12 dc12 pm12 cd12 ct12 oc13 kV13 dc13 pm13 cd13 ct13 oc14 kV14 dc14 pm14 cd14 ct14 oc15 kV15 dc15 pm15 cd15 ct15 oc16 kV16 dc16 pm16 cd16 ct16 oc17 kV17 dc17 pm17 cd17 ct17 oc18 kV18 dc18 pm18 cd18 ct18 oc19 kV19 dc19 pm19 cd19 ct19 : Value}
    (a1 : PySem.W.nsIn K mainGlobals "least_of" = some (some (.ref f1)))
    (l1 : K.lookup f1 = some ⟨oc1, od1, .func (PySem.W.fnOf "least_of" "least_of" (defArgs s_least_of) (defBody s_least_of) (defScope s_least_of) .none kV1 dc1 pm1 an1 cd1 ct1), sl1⟩)
    (c1 : PySem.W.codeIn K cd1 "least_of" = true)
    (k1 : PySem.W.keepIn K (.ref f1) = true)
    (a2 : PySem.W.nsIn K mainGlobals "aligned" = some (some (.ref f2)))
    (l2 : K.lookup f2 = some ⟨oc2, od2, .func (PySem.W.fnOf "aligned" "aligned" (defArgs s_aligned) (defBody s_aligned) (defScope s_aligned) .none kV2 dc2 pm2 an2 cd2 ct2), sl2⟩)
    (c2 : PySem.W.codeIn K cd2 "aligned" = true)
    (k2 : PySem.W.keepIn K (.ref f2) = true)
    (a3 : PySem.W.nsIn K mainGlobals "laid_behind" = some (some (.ref f3)))
    (l3 : K.lookup f3 = some ⟨oc3, od3, .func (PySem.W.fnOf "laid_behind" "laid_behind" (defArgs s_laid_behind) (defBody s_laid_behind) (defScope s_laid_behind) .none kV3 dc3 pm3 an3 cd3 ct3), sl3⟩)
    (c3 : PySem.W.codeIn K cd3 "laid_behind" = true)
    (k3 : PySem.W.keepIn K (.ref f3) = true)
    (a4 : PySem.W.nsIn K mainGlobals "numbers_in" = some (some (.ref f4)))
    (l4 : K.lookup f4 = some ⟨oc4, od4, .func (PySem.W.fnOf "numbers_in" "numbers_in" (defArgs s_numbers_in) (defBody s_numbers_in) (defScope s_numbers_in) .none kV4 dc4 pm4 an4 cd4 ct4), sl4⟩)
    (c4 : PySem.W.codeIn K cd4 "numbers_in" = true)
    (k4 : PySem.W.keepIn K (.ref f4) = true)
    (a5 : PySem.W.nsIn K mainGlobals "least_behind" = some (some (.ref f5)))
    (l5 : K.lookup f5 = some ⟨oc5, od5, .func (PySem.W.fnOf "least_behind" "least_behind" (defArgs s_least_behind) (defBody s_least_behind) (defScope s_least_behind) .none kV5 dc5 pm5 an5 cd5 ct5), sl5⟩)
    (c5 : PySem.W.codeIn K cd5 "least_behind" = true)
    (k5 : PySem.W.keepIn K (.ref f5) = true)
    (a6 : PySem.W.nsIn K mainGlobals "judge_ends" = some (some (.ref f6)))
    (l6 : K.lookup f6 = some ⟨oc6, od6, .func (PySem.W.fnOf "judge_ends" "judge_ends" (defArgs s_judge_ends) (defBody s_judge_ends) (defScope s_judge_ends) .none kV6 dc6 pm6 an6 cd6 ct6), sl6⟩)
    (c6 : PySem.W.codeIn K cd6 "judge_ends" = true)
    (k6 : PySem.W.keepIn K (.ref f6) = true)
    (a7 : PySem.W.nsIn K mainGlobals "_law_source" = some (some (.ref f7)))
    (l7 : K.lookup f7 = some ⟨oc7, od7, .func (PySem.W.fnOf "_law_source" "_law_source" (defArgs s_law_source) (defBody s_law_source) (defScope s_law_source) .none kV7 dc7 pm7 an7 cd7 ct7), sl7⟩)
    (c7 : PySem.W.codeIn K cd7 "_law_source" = true)
    (k7 : PySem.W.keepIn K (.ref f7) = true)
    (a8 : PySem.W.nsIn K mainGlobals "_law_draw" = some (some (.ref f8)))
    (l8 : K.lookup f8 = some ⟨oc8, od8, .func (PySem.W.fnOf "_law_draw" "_law_draw" (defArgs s_law_draw) (defBody s_law_draw) (defScope s_law_draw) .none kV8 dc8 pm8 an8 cd8 ct8), sl8⟩)
    (c8 : PySem.W.codeIn K cd8 "_law_draw" = true)
    (k8 : PySem.W.keepIn K (.ref f8) = true)
    (a9 : PySem.W.nsIn K mainGlobals "_law_is_number" = some (some (.ref f9)))
    (l9 : K.lookup f9 = some ⟨oc9, od9, .func (PySem.W.fnOf "_law_is_number" "_law_is_number" (defArgs s_law_is_number) (defBody s_law_is_number) (defScope s_law_is_number) .none kV9 dc9 pm9 an9 cd9 ct9), sl9⟩)
    (c9 : PySem.W.codeIn K cd9 "_law_is_number" = true)
    (k9 : PySem.W.keepIn K (.ref f9) = true)
    (a10 : PySem.W.nsIn K mainGlobals "_law_things" = some (some (.ref f10)))
    (l10 : K.lookup f10 = some ⟨oc10, od10, .func (PySem.W.fnOf "_law_things" "_law_things" (defArgs s_law_things) (defBody s_law_things) (defScope s_law_things) .none kV10 dc10 pm10 an10 cd10 ct10), sl10⟩)
    (c10 : PySem.W.codeIn K cd10 "_law_things" = true)
    (k10 : PySem.W.keepIn K (.ref f10) = true)
    (a11 : PySem.W.nsIn K mainGlobals "_law_orders" = some (some (.ref f11)))
    (l11 : K.lookup f11 = some ⟨oc11, od11, .func (PySem.W.fnOf "_law_orders" "_law_orders" (defArgs s_law_orders) (defBody s_law_orders) (defScope s_law_orders) .none kV11 dc11 pm11 an11 cd11 ct11), sl11⟩)
    (c11 : PySem.W.codeIn K cd11 "_law_orders" = true)
    (k11 : PySem.W.keepIn K (.ref f11) = true)
    (a12 : PySem.W.nsIn K mainGlobals "_law_end" = some (some (.ref f12)))
    (l12 : K.lookup f12 = some ⟨oc12, od12, .func (PySem.W.fnOf "_law_end" "_law_end" (defArgs s_law_end) (defBody s_law_end) (defScope s_law_end) .none kV12 dc12 pm12 an12 cd12 ct12), sl12⟩)
    (c12 : PySem.W.codeIn K cd12 "_law_end" = true)
    (k12 : PySem.W.keepIn K (.ref f12) = true)
    (a13 : PySem.W.nsIn K mainGlobals "_law_table" = some (some (.ref f13)))
    (l13 : K.lookup f13 = some ⟨oc13, od13, .func (PySem.W.fnOf "_law_table" "_law_table" (defArgs s_law_table) (defBody s_law_table) (defScope s_law_table) .none kV13 dc13 pm13 an13 cd13 ct13), sl13⟩)
    (c13 : PySem.W.codeIn K cd13 "_law_table" = true)
    (k13 : PySem.W.keepIn K (.ref f13) = true)
    (a14 : PySem.W.nsIn K mainGlobals "_law_worked_out" = some (some (.ref f14)))
    (l14 : K.lookup f14 = some ⟨oc14, od14, .func (PySem.W.fnOf "_law_worked_out" "_law_worked_out" (defArgs s_law_worked_out) (defBody s_law_worked_out) (defScope s_law_worked_out) .none kV14 dc14 pm14 an14 cd14 ct14), sl14⟩)
    (c14 : PySem.W.codeIn K cd14 "_law_worked_out" = true)
    (k14 : PySem.W.keepIn K (.ref f14) = true)
    (a15 : PySem.W.nsIn K mainGlobals "_law_other_things" = some (some (.ref f15)))
    (l15 : K.lookup f15 = some ⟨oc15, od15, .func (PySem.W.fnOf "_law_other_things" "_law_other_things" (defArgs s_law_other_things) (defBody s_law_other_things) (defScope s_law_other_things) .none kV15 dc15 pm15 an15 cd15 ct15), sl15⟩)
    (c15 : PySem.W.codeIn K cd15 "_law_other_things" = true)
    (k15 : PySem.W.keepIn K (.ref f15) = true)
    (a16 : PySem.W.nsIn K mainGlobals "_law_beside" = some (some (.ref f16)))
    (l16 : K.lookup f16 = some ⟨oc16, od16, .func (PySem.W.fnOf "_law_beside" "_law_beside" (defArgs s_law_beside) (defBody s_law_beside) (defScope s_law_beside) .none kV16 dc16 pm16 an16 cd16 ct16), sl16⟩)
    (c16 : PySem.W.codeIn K cd16 "_law_beside" = true)
    (k16 : PySem.W.keepIn K (.ref f16) = true)
    (a17 : PySem.W.nsIn K mainGlobals "_law_due" = some (some (.ref f17)))
    (l17 : K.lookup f17 = some ⟨oc17, od17, .func (PySem.W.fnOf "_law_due" "_law_due" (defArgs s_law_due) (defBody s_law_due) (defScope s_law_due) .none kV17 dc17 pm17 an17 cd17 ct17), sl17⟩)
    (c17 : PySem.W.codeIn K cd17 "_law_due" = true)
    (k17 : PySem.W.keepIn K (.ref f17) = true)
    (a18 : PySem.W.nsIn K mainGlobals "_law_right" = some (some (.ref f18)))
    (l18 : K.lookup f18 = some ⟨oc18, od18, .func (PySem.W.fnOf "_law_right" "_law_right" (defArgs s_law_right) (defBody s_law_right) (defScope s_law_right) .none kV18 dc18 pm18 an18 cd18 ct18), sl18⟩)
    (c18 : PySem.W.codeIn K cd18 "_law_right" = true)
    (k18 : PySem.W.keepIn K (.ref f18) = true)
    (a19 : PySem.W.nsIn K mainGlobals "law" = some (some (.ref f19)))
    (l19 : K.lookup f19 = some ⟨oc19, od19, .func (PySem.W.fnOf "law" "law" (defArgs s_law) (defBody s_law) (defScope s_law) .none kV19 dc19 pm19 an19 cd19 ct19), sl19⟩)
    (c19 : PySem.W.codeIn K cd19 "law" = true)
    (k19 : PySem.W.keepIn K (.ref f19) = true)
    (z_abs : PySem.W.nsIn K mainGlobals "abs" = some none)
    (z_bool : PySem.W.nsIn K mainGlobals "bool" = some none)
    (z_int : PySem.W.nsIn K mainGlobals "int" = some none)
    (z_isinstance : PySem.W.nsIn K mainGlobals "isinstance" = some none)
    (z_len : PySem.W.nsIn K mainGlobals "len" = some none)
    (z_list : PySem.W.nsIn K mainGlobals "list" = some none)
    (z_max : PySem.W.nsIn K mainGlobals "max" = some none)
    (z_min : PySem.W.nsIn K mainGlobals "min" = some none)
    (z_range : PySem.W.nsIn K mainGlobals "range" = some none)
    (z_tuple : PySem.W.nsIn K mainGlobals "tuple" = some none) :
    ∃ fd : FuncData, (∀ (s : Shared) (v : Value), BindsTo s fd ⟨[v], []⟩ [("_law_script", v)]) ∧ ∀ base : Heap, K.In base → base.Ns mainGlobals mg → FnOk l.prog w K mg base CX0 9 fa fd ["_law_script"] (spLaw K) := by
  have e : f19 = fa := Value.ref.inj (Option.some.inj ((PySem.W.mg_of X G a19).symm.trans hfa))
  subst e
  have T : Txt K mg ⟨f1, (PySem.W.fnOf "least_of" "least_of" (defArgs s_least_of) (defBody s_least_of) (defScope s_least_of) .none kV1 dc1 pm1 an1 cd1 ct1), f2, (PySem.W.fnOf "aligned" "aligned" (defArgs s_aligned) (defBody s_aligned) (defScope s_aligned) .none kV2 dc2 pm2 an2 cd2 ct2), f3, (PySem.W.fnOf "laid_behind" "laid_behind" (defArgs s_laid_behind) (defBody s_laid_behind) (defScope s_laid_behind) .none kV3 dc3 pm3 an3 cd3 ct3), f4, (PySem.W.fnOf "numbers_in" "numbers_in" (defArgs s_numbers_in) (defBody s_numbers_in) (defScope s_numbers_in) .none kV4 dc4 pm4 an4 cd4 ct4), f5, (PySem.W.fnOf "least_behind" "least_behind" (defArgs s_least_behind) (defBody s_least_behind) (defScope s_least_behind) .none kV5 dc5 pm5 an5 cd5 ct5), f6, (PySem.W.fnOf "judge_ends" "judge_ends" (defArgs s_judge_ends) (defBody s_judge_ends) (defScope s_judge_ends) .none kV6 dc6 pm6 an6 cd6 ct6), f7, (PySem.W.fnOf "_law_source" "_law_source" (defArgs s_law_source) (defBody s_law_source) (defScope s_law_source) .none kV7 dc7 pm7 an7 cd7 ct7), f8, (PySem.W.fnOf "_law_draw" "_law_draw" (defArgs s_law_draw) (defBody s_law_draw) (defScope s_law_draw) .none kV8 dc8 pm8 an8 cd8 ct8), f9, (PySem.W.fnOf "_law_is_number" "_law_is_number" (defArgs s_law_is_number) (defBody s_law_is_number) (defScope s_law_is_number) .none kV9 dc9 pm9 an9 cd9 ct9), f10, (PySem.W.fnOf "_law_things" "_law_things" (defArgs s_law_things) (defBody s_law_things) (defScope s_law_things) .none kV10 dc10 pm10 an10 cd10 ct10), f11, (PySem.W.fnOf "_law_orders" "_law_orders" (defArgs s_law_orders) (defBody s_law_orders) (defScope s_law_orders) .none kV11 dc11 pm11 an11 cd11 ct11), f12, (PySem.W.fnOf "_law_end" "_law_end" (defArgs s_law_end) (defBody s_law_end) (defScope s_law_end) .none kV12 dc12 pm12 an12 cd12 ct12), f13, (PySem.W.fnOf "_law_table" "_law_table" (defArgs s_law_table) (defBody s_law_table) (defScope s_law_table) .none kV13 dc13 pm13 an13 cd13 ct13), f14, (PySem.W.fnOf "_law_worked_out" "_law_worked_out" (defArgs s_law_worked_out) (defBody s_law_worked_out) (defScope s_law_worked_out) .none kV14 dc14 pm14 an14 cd14 ct14), f15, (PySem.W.fnOf "_law_other_things" "_law_other_things" (defArgs s_law_other_things) (defBody s_law_other_things) (defScope s_law_other_things) .none kV15 dc15 pm15 an15 cd15 ct15), f16, (PySem.W.fnOf "_law_beside" "_law_beside" (defArgs s_law_beside) (defBody s_law_beside) (defScope s_law_beside) .none kV16 dc16 pm16 an16 cd16 ct16), f17, (PySem.W.fnOf "_law_due" "_law_due" (defArgs s_law_due) (defBody s_law_due) (defScope s_law_due) .none kV17 dc17 pm17 an17 cd17 ct17), f18, (PySem.W.fnOf "_law_right" "_law_right" (defArgs s_law_right) (defBody s_law_right) (defScope s_law_right) .none kV18 dc18 pm18 an18 cd18 ct18), f19, (PySem.W.fnOf "law" "law" (defArgs s_law) (defBody s_law) (defScope s_law) .none kV19 dc19 pm19 an19 cd19 ct19)⟩ :=
    { F_least_of := fun_mk (st := s_least_of) l1 c1 k1,
      g_least_of := PySem.W.mg_of X G a1,
      b_least_of := (fun_mk (st := s_least_of) l1 c1 k1).binds (ps := ["numbers"]) fun _ _ _ _ _ _ us hl => match us, hl with | [_], _ => rfl,
      F_aligned := fun_mk (st := s_aligned) l2 c2 k2,
      g_aligned := PySem.W.mg_of X G a2,
      b_aligned := (fun_mk (st := s_aligned) l2 c2 k2).binds (ps := ["address", "align"]) fun _ _ _ _ _ _ us hl => match us, hl with | [_, _], _ => rfl,
      F_laid_behind := fun_mk (st := s_laid_behind) l3 c3 k3,
      g_laid_behind := PySem.W.mg_of X G a3,
      b_laid_behind := (fun_mk (st := s_laid_behind) l3 c3 k3).binds (ps := ["end", "thing"]) fun _ _ _ _ _ _ us hl => match us, hl with | [_, _], _ => rfl,
      F_numbers_in := fun_mk (st := s_numbers_in) l4 c4 k4,
      g_numbers_in := PySem.W.mg_of X G a4,
      b_numbers_in := (fun_mk (st := s_numbers_in) l4 c4 k4).binds (ps := ["chosen", "count"]) fun _ _ _ _ _ _ us hl => match us, hl with | [_, _], _ => rfl,
      F_least_behind := fun_mk (st := s_least_behind) l5 c5 k5,
      g_least_behind := PySem.W.mg_of X G a5,
      b_least_behind := (fun_mk (st := s_least_behind) l5 c5 k5).binds (ps := ["things", "ends", "chosen"]) fun _ _ _ _ _ _ us hl => match us, hl with | [_, _, _], _ => rfl,
      F_judge_ends := fun_mk (st := s_judge_ends) l6 c6 k6,
      g_judge_ends := PySem.W.mg_of X G a6,
      b_judge_ends := (fun_mk (st := s_judge_ends) l6 c6 k6).binds (ps := ["start", "things", "ends"]) fun _ _ _ _ _ _ us hl => match us, hl with | [_, _, _], _ => rfl,
      F_law_source := fun_mk (st := s_law_source) l7 c7 k7,
      g_law_source := PySem.W.mg_of X G a7,
      b_law_source := (fun_mk (st := s_law_source) l7 c7 k7).binds (ps := ["_law_script"]) fun _ _ _ _ _ _ us hl => match us, hl with | [_], _ => rfl,
      F_law_draw := fun_mk (st := s_law_draw) l8 c8 k8,
      g_law_draw := PySem.W.mg_of X G a8,
      b_law_draw := (fun_mk (st := s_law_draw) l8 c8 k8).binds (ps := ["_law_source_here", "_law_limit"]) fun _ _ _ _ _ _ us hl => match us, hl with | [_, _], _ => rfl,
      F_law_is_number := fun_mk (st := s_law_is_number) l9 c9 k9,
      g_law_is_number := PySem.W.mg_of X G a9,
      b_law_is_number := (fun_mk (st := s_law_is_number) l9 c9 k9).binds (ps := ["_law_thing"]) fun _ _ _ _ _ _ us hl => match us, hl with | [_], _ => rfl,
      F_law_things := fun_mk (st := s_law_things) l10 c10 k10,
      g_law_things := PySem.W.mg_of X G a10,
      b_law_things := (fun_mk (st := s_law_things) l10 c10 k10).binds (ps := ["_law_source_here", "_law_count"]) fun _ _ _ _ _ _ us hl => match us, hl with | [_, _], _ => rfl,
      F_law_orders := fun_mk (st := s_law_orders) l11 c11 k11,
      g_law_orders := PySem.W.mg_of X G a11,
      b_law_orders := (fun_mk (st := s_law_orders) l11 c11 k11).binds (ps := ["_law_numbers"]) fun _ _ _ _ _ _ us hl => match us, hl with | [_], _ => rfl,
      F_law_end := fun_mk (st := s_law_end) l12 c12 k12,
      g_law_end := PySem.W.mg_of X G a12,
      b_law_end := (fun_mk (st := s_law_end) l12 c12 k12).binds (ps := ["_law_start", "_law_things_here", "_law_order"]) fun _ _ _ _ _ _ us hl => match us, hl with | [_, _, _], _ => rfl,
      F_law_table := fun_mk (st := s_law_table) l13 c13 k13,
      g_law_table := PySem.W.mg_of X G a13,
      b_law_table := (fun_mk (st := s_law_table) l13 c13 k13).binds (ps := ["_law_start", "_law_things_here"]) fun _ _ _ _ _ _ us hl => match us, hl with | [_, _], _ => rfl,
      F_law_worked_out := fun_mk (st := s_law_worked_out) l14 c14 k14,
      g_law_worked_out := PySem.W.mg_of X G a14,
      b_law_worked_out := (fun_mk (st := s_law_worked_out) l14 c14 k14).binds (ps := ["_law_rows", "_law_things_here", "_law_at"]) fun _ _ _ _ _ _ us hl => match us, hl with | [_, _, _], _ => rfl,
      F_law_other_things := fun_mk (st := s_law_other_things) l15 c15 k15,
      g_law_other_things := PySem.W.mg_of X G a15,
      b_law_other_things := (fun_mk (st := s_law_other_things) l15 c15 k15).binds (ps := ["_law_source_here", "_law_start", "_law_things_here"]) fun _ _ _ _ _ _ us hl => match us, hl with | [_, _, _], _ => rfl,
      F_law_beside := fun_mk (st := s_law_beside) l16 c16 k16,
      g_law_beside := PySem.W.mg_of X G a16,
      b_law_beside := (fun_mk (st := s_law_beside) l16 c16 k16).binds (ps := ["_law_source_here", "_law_start", "_law_things_here", "_law_right_here"]) fun _ _ _ _ _ _ us hl => match us, hl with | [_, _, _, _], _ => rfl,
      F_law_due := fun_mk (st := s_law_due) l17 c17 k17,
      g_law_due := PySem.W.mg_of X G a17,
      b_law_due := (fun_mk (st := s_law_due) l17 c17 k17).binds (ps := ["_law_rows", "_law_right_here"]) fun _ _ _ _ _ _ us hl => match us, hl with | [_, _], _ => rfl,
      F_law_right := fun_mk (st := s_law_right) l18 c18 k18,
      g_law_right := PySem.W.mg_of X G a18,
      b_law_right := (fun_mk (st := s_law_right) l18 c18 k18).binds (ps := ["_law_told", "_law_due_here"]) fun _ _ _ _ _ _ us hl => match us, hl with | [_, _], _ => rfl,
      F_law := fun_mk (st := s_law) l19 c19 k19,
      g_law := PySem.W.mg_of X G a19,
      b_law := (fun_mk (st := s_law) l19 c19 k19).binds (ps := ["_law_script"]) fun _ _ _ _ _ _ us hl => match us, hl with | [_], _ => rfl,
      n_abs := PySem.W.mg_none_of X G z_abs,
      n_bool := PySem.W.mg_none_of X G z_bool,
      n_int := PySem.W.mg_none_of X G z_int,
      n_isinstance := PySem.W.mg_none_of X G z_isinstance,
      n_len := PySem.W.mg_none_of X G z_len,
      n_list := PySem.W.mg_none_of X G z_list,
      n_max := PySem.W.mg_none_of X G z_max,
      n_min := PySem.W.mg_none_of X G z_min,
      n_range := PySem.W.mg_none_of X G z_range,
      n_tuple := PySem.W.mg_none_of X G z_tuple }
  exact ⟨(PySem.W.fnOf "law" "law" (defArgs s_law) (defBody s_law) (defScope s_law) .none kV19 dc19 pm19 an19 cd19 ct19), fun s v => .of_eq rfl, fun base _ _ => ok_law T⟩
end R1
open PySem PySem.W PyProof.Rows
set_option maxHeartbeats 0 in
theorem PySem.Challenge.cw_romwright_k40_spoilt_tables_holds : PySem.Challenge.rw_romwright_k40_spoilt_tables.Holds := by
  w_on; o_law; k_head; (case hw => w_witness2)
  k_fill
  refine L2.walk_of (l := PySem.Challenge.rw_romwright_k40_spoilt_tables) (n := 63) (k := 9) (x := "_law_script") (CX := fun _ => L2.CX0) (sp := fun w => R1.spLaw _) rfl (by decide) rfl ⟨rfl, by decide, by decide⟩ (fun w h Y => PySem.W.kIn_of Y) ?F (fun _ _ a ns hl _ hS => ⟨a, ns, rfl, hS, hl, fun _ => rfl⟩) (fun _ _ _ _ _ h => h)
  case F =>
    intro w mg fa h KX G hmg
    refine' R1.all_mk KX G hmg ?a1 ?l1 ?c1 ?k1 ?a2 ?l2 ?c2 ?k2 ?a3 ?l3 ?c3 ?k3 ?a4 ?l4 ?c4 ?k4 ?a5 ?l5 ?c5 ?k5 ?a6 ?l6 ?c6 ?k6 ?a7 ?l7 ?c7 ?k7 ?a8 ?l8 ?c8 ?k8 ?a9 ?l9 ?c9 ?k9 ?a10 ?l10 ?c10 ?k10 ?a11 ?l11 ?c11 ?k11 ?a12 ?l12 ?c12 ?k12 ?a13 ?l13 ?c13 ?k13 ?a14 ?l14 ?c14 ?k14 ?a15 ?l15 ?c15 ?k15 ?a16 ?l16 ?c16 ?k16 ?a17 ?l17 ?c17 ?k17 ?a18 ?l18 ?c18 ?k18 ?a19 ?l19 ?c19 ?k19 ?z_abs ?z_bool ?z_int ?z_isinstance ?z_len ?z_list ?z_max ?z_min ?z_range ?z_tuple
    (case a1 => k_is)
    (case a2 => k_is)
    (case a3 => k_is)
    (case a4 => k_is)
    (case a5 => k_is)
    (case a6 => k_is)
    (case a7 => k_is)
    (case a8 => k_is)
    (case a9 => k_is)
    (case a10 => k_is)
    (case a11 => k_is)
    (case a12 => k_is)
    (case a13 => k_is)
    (case a14 => k_is)
    (case a15 => k_is)
    (case a16 => k_is)
    (case a17 => k_is)
    (case a18 => k_is)
    (case a19 => k_is)
    (case l1 => k_is)
    (case c1 => k_is)
    (case k1 => k_is)
    (case l2 => k_is)
    (case c2 => k_is)
    (case k2 => k_is)
    (case l3 => k_is)
    (case c3 => k_is)
    (case k3 => k_is)
    (case l4 => k_is)
    (case c4 => k_is)
    (case k4 => k_is)
    (case l5 => k_is)
    (case c5 => k_is)
    (case k5 => k_is)
    (case l6 => k_is)
    (case c6 => k_is)
    (case k6 => k_is)
    (case l7 => k_is)
    (case c7 => k_is)
    (case k7 => k_is)
    (case l8 => k_is)
    (case c8 => k_is)
    (case k8 => k_is)
    (case l9 => k_is)
    (case c9 => k_is)
    (case k9 => k_is)
    (case l10 => k_is)
    (case c10 => k_is)
    (case k10 => k_is)
    (case l11 => k_is)
    (case c11 => k_is)
    (case k11 => k_is)
    (case l12 => k_is)
    (case c12 => k_is)
    (case k12 => k_is)
    (case l13 => k_is)
    (case c13 => k_is)
    (case k13 => k_is)
    (case l14 => k_is)
    (case c14 => k_is)
    (case k14 => k_is)
    (case l15 => k_is)
    (case c15 => k_is)
    (case k15 => k_is)
    (case l16 => k_is)
    (case c16 => k_is)
    (case k16 => k_is)
    (case l17 => k_is)
    (case c17 => k_is)
    (case k17 => k_is)
    (case l18 => k_is)
    (case c18 => k_is)
    (case k18 => k_is)
    (case l19 => k_is)
    (case c19 => k_is)
    (case k19 => k_is)
    (case z_abs => k_is)
    (case z_bool => k_is)
    (case z_int => k_is)
    (case z_isinstance => k_is)
    (case z_len => k_is)
    (case z_list => k_is)
    (case z_max => k_is)
    (case z_min => k_is)
    (case z_range => k_is)
    (case z_tuple => k_is)

