import PyProof.Rows.All
import Wide.All
import OpenK.AllK
import Wide.FinOn
import HandS.ForMost
import HandS.Wide
import HandS.Walk
import HandS.IsInst
import HandS.TupAny
import HandS.StrMore
import HandS.Replace
import HandS.Style
import HandS.Evl
import HandS.ForExc
import HandS.ExcInit
import HandS.ExcField
import HandS.ExcIs
import KE.KExcIs
import HandS.HotCalls
import HandS.ExcInitHot
import KE.KxField
import HandS.FStr
import HandS.Iter
import PyProof.Rows.ChunkEnd
import HandS.Star
import HandS.Strs
import HandS.WideBits
import PyProof.StrLawsFirst
import PyProof.StrLawsLast
import PySem.Challenge.RW_romwright_k61_whole_squeezed_least
set_option Elab.async false
set_option linter.all false
set_option maxRecDepth 100000
set_option maxHeartbeats 4000000
namespace RK
open PySem PySem.Spec PyProof.Rows L2
/-! ### heaps -/
/-- all but what stands at p is as it was -/
def But (p : Addr) (H H' : Hp) : Prop := ∀ b o, b ≠ p → H b = some o → H' b = some o
theorem But.refl (p : Addr) (H : Hp) : But p H H := fun _ _ _ h => h
theorem But.upd {p : Addr} {H H' : Hp} {o : HO} (h : But p H H') : But p H (upd H' p o) := fun b u n e => by
  rw [upd_ne n]
  exact h b u n e
theorem But.trans {p : Addr} {H H1 H2 : Hp} (a : But p H H1) (b : But p H1 H2) : But p H H2 := fun c o n h => b c o n (a c o n h)
theorem but_new {p D : Addr} {H H' : Hp} {o : HO} (h : But p H H') (n : H D = none) : But p H (upd H' D o) := fun b u nb e => by
  rw [upd_ne (ne_of_none e n)]
  exact h b u nb e
theorem But.of {p : Addr} {H H' : Hp} (h : Same H H') : But p H H' := fun b o _ e => h b o e
theorem same_new {H : Hp} {p : Addr} {o : HO} (h : H p = none) : Same H (upd H p o) := fun b x e => by
  rw [upd_ne (ne_of_none e h)]
  exact e
theorem sqT_up {K : PySem.W.Frag} {H H' : Hp} {a : Addr} {xs : List V} (h : SqT K H a xs) (e : Same H H') : SqT K H' a xs := by
  rcases h with (h | ⟨o, h⟩) | h
  · exact .inl (.inl (e _ _ h))
  · exact .inl (.inr ⟨o, e _ _ h⟩)
  · exact .inr h
theorem sqL_up {K : PySem.W.Frag} {H H' : Hp} {a : Addr} {xs : List V} (h : SqL K H a xs) (e : Same H H') : SqL K H' a xs := e.seq h
/-- a new object that H did not know changes -/
theorem same_mut {H H' : Hp} {p : Addr} {o : HO} (e : Same H H') (h : H p = none) : Same H (upd H' p o) := fun a u ha => by
  rw [upd_ne (ne_of_none ha h)]
  exact e a u ha
/-- the heap without p -/
def hid (H : Hp) (p : Addr) : Hp := fun b => if b = p then none else H b
theorem hid_same {H : Hp} {p : Addr} : Same (hid H p) H := fun b o e => by
  unfold hid at e
  split at e
  · cases e
  · exact e
theorem hid_at {H : Hp} {p b : Addr} {o : HO} (h : H b = some o) (n : b ≠ p) : hid H p b = some o := by
  unfold hid
  rw [if_neg n]
  exact h
theorem hid_but {H H' : Hp} {p : Addr} (h : But p H H') : Same (hid H p) (hid H' p) := fun b o e => by
  unfold hid at e ⊢
  split at e
  · cases e
  · rename_i n
    rw [if_neg n]
    exact h b o n e
mutual
theorem dpUp {K : PySem.W.Frag} {H H' : Hp} (e : Same H H') : ∀ {v : V} {d : PyData}, Dp K H v d → Dp K H' v d
  | _, _, .non => .non
  | _, _, .bl b => .bl b
  | _, _, .int i => .int i
  | _, _, .str x => .str x
  | _, _, .lst h t => .lst (sqL_up h e) (dpAllUp e t)
  | _, _, .tup h t => .tup (sqT_up h e) (dpAllUp e t)
theorem dpAllUp {K : PySem.W.Frag} {H H' : Hp} (e : Same H H') : ∀ {vs : List V} {ds : List PyData}, DpAll K H vs ds → DpAll K H' vs ds
  | _, _, .nil => .nil
  | _, _, .cons h t => .cons (dpUp e h) (dpAllUp e t)
end
/-! ### data of any depth, none of whose changeable objects lies in S -/
abbrev ASet := Addr → Prop
def noS : ASet := fun _ => False
def inS (S : ASet) (a : Addr) : ASet := fun b => S b ∨ b = a
/-- at a: a list | a tuple that is not in S -/
def XL (K : PySem.W.Frag) (H : Hp) (S : ASet) (a : Addr) (xs : List V) : Prop := (¬ S a ∧ Rd H a (.lst xs)) ∨ SqL K (fun _ => none) a xs
def XT (K : PySem.W.Frag) (H : Hp) (S : ASet) (a : Addr) (xs : List V) : Prop := (¬ S a ∧ Rd H a (.tup xs)) ∨ SqT K (fun _ => none) a xs
/-- what stood outside of S stands -/
def Out (S : ASet) (H H' : Hp) : Prop := ∀ b o, ¬ S b → H b = some o → H' b = some o
theorem Out.of {S : ASet} {H H' : Hp} (h : Same H H') : Out S H H' := fun b o _ e => h b o e
theorem Out.refl (S : ASet) (H : Hp) : Out S H H := fun _ _ _ h => h
theorem Out.trans {S : ASet} {H H1 H2 : Hp} (a : Out S H H1) (b : Out S H1 H2) : Out S H H2 := fun c o n h => b c o n (a c o n h)
theorem Out.mono {S S' : ASet} {H H' : Hp} (h : Out S H H') (k : ∀ a, S a → S' a) : Out S' H H' := fun b o n e => h b o (fun z => n (k b z)) e
theorem Out.put {S : ASet} {H H' : Hp} {a : Addr} {o : HO} (h : Out S H H') (ha : S a) : Out S H (upd H' a o) := fun b u n e => by
  rw [upd_ne fun z => n (by rw [z]; exact ha)]
  exact h b u n e
section
variable {K : PySem.W.Frag} {H H' : Hp} {S S' : ASet} {v x : V} {a p : Addr} {xs : List V} {d : PyData} {ds : List PyData}
theorem XL.sq (h : XL K H S a xs) : SqL K H a xs := by
  rcases h with ⟨_, h⟩ | (h | ⟨_, h⟩) | h
  · exact .inl h
  · cases h
  · cases h
  · exact .inr h
theorem XT.sq (h : XT K H S a xs) : SqT K H a xs := by
  rcases h with ⟨_, h⟩ | (h | ⟨_, h⟩) | h
  · exact .inl h
  · cases h
  · cases h
  · exact .inr h
theorem XL.of (h : H a = some (.lst xs)) (n : ¬ S a) : XL K H S a xs := .inl ⟨n, .inl h⟩
theorem XT.of (h : H a = some (.tup xs)) (n : ¬ S a) : XT K H S a xs := .inl ⟨n, .inl h⟩
theorem XL.up (h : XL K H S a xs) (e : Out S H H') : XL K H' S a xs := by
  rcases h with ⟨n, h | ⟨o, h⟩⟩ | h
  · exact .inl ⟨n, .inl (e _ _ n h)⟩
  · exact .inl ⟨n, .inr ⟨o, e _ _ n h⟩⟩
  · exact .inr h
theorem XT.up (h : XT K H S a xs) (e : Out S H H') : XT K H' S a xs := by
  rcases h with ⟨n, h | ⟨o, h⟩⟩ | h
  · exact .inl ⟨n, .inl (e _ _ n h)⟩
  · exact .inl ⟨n, .inr ⟨o, e _ _ n h⟩⟩
  · exact .inr h
/-- a further address that is not in the heap is kept out -/
theorem XL.add (h : XL K H S a xs) (hp : H p = none) : XL K H (inS S p) a xs := by
  rcases h with ⟨n, h⟩ | h
  · refine .inl ⟨fun z => ?_, h⟩
    rcases z with z | z
    · exact n z
    · subst z
      rcases h with h | ⟨o, h⟩ <;> rw [hp] at h <;> cases h
  · exact .inr h
theorem XT.add (h : XT K H S a xs) (hp : H p = none) : XT K H (inS S p) a xs := by
  rcases h with ⟨n, h⟩ | h
  · refine .inl ⟨fun z => ?_, h⟩
    rcases z with z | z
    · exact n z
    · subst z
      rcases h with h | ⟨o, h⟩ <;> rw [hp] at h <;> cases h
  · exact .inr h
theorem XL.less (h : XL K H S a xs) (k : ∀ a, S' a → S a) : XL K H S' a xs := by
  rcases h with ⟨n, h⟩ | h
  · exact .inl ⟨fun z => n (k _ z), h⟩
  · exact .inr h
theorem XT.less (h : XT K H S a xs) (k : ∀ a, S' a → S a) : XT K H S' a xs := by
  rcases h with ⟨n, h⟩ | h
  · exact .inl ⟨fun z => n (k _ z), h⟩
  · exact .inr h
mutual
inductive Dx (K : PySem.W.Frag) (H : Hp) (S : ASet) : V → PyData → Prop
  | non : Dx K H S .non .none
  | bl (b : Bool) : Dx K H S (.bl b) (.bool b)
  | int (i : Int) : Dx K H S (.int i) (.int i)
  | str (x : Str) : Dx K H S (.str x) (.str x)
  | lst {a : Addr} {xs : List V} {ds : List PyData} : XL K H S a xs → DxAll K H S xs ds → Dx K H S (.ref a) (.list ds)
  | tup {a : Addr} {xs : List V} {ds : List PyData} : XT K H S a xs → DxAll K H S xs ds → Dx K H S (.ref a) (.tuple ds)
inductive DxAll (K : PySem.W.Frag) (H : Hp) (S : ASet) : List V → List PyData → Prop
  | nil : DxAll K H S [] []
  | cons {v : V} {vs : List V} {d : PyData} {ds : List PyData} : Dx K H S v d → DxAll K H S vs ds → DxAll K H S (v :: vs) (d :: ds)
end
mutual
theorem Dx.up (e : Out S H H') : ∀ {v : V} {d : PyData}, Dx K H S v d → Dx K H' S v d
  | _, _, .non => .non
  | _, _, .bl b => .bl b
  | _, _, .int i => .int i
  | _, _, .str x => .str x
  | _, _, .lst h t => .lst (h.up e) (DxAll.up e t)
  | _, _, .tup h t => .tup (h.up e) (DxAll.up e t)
theorem DxAll.up (e : Out S H H') : ∀ {vs : List V} {ds : List PyData}, DxAll K H S vs ds → DxAll K H' S vs ds
  | _, _, .nil => .nil
  | _, _, .cons h t => .cons (Dx.up e h) (DxAll.up e t)
end
mutual
theorem Dx.add (hp : H p = none) : ∀ {v : V} {d : PyData}, Dx K H S v d → Dx K H (inS S p) v d
  | _, _, .non => .non
  | _, _, .bl b => .bl b
  | _, _, .int i => .int i
  | _, _, .str x => .str x
  | _, _, .lst h t => .lst (h.add hp) (DxAll.add hp t)
  | _, _, .tup h t => .tup (h.add hp) (DxAll.add hp t)
theorem DxAll.add (hp : H p = none) : ∀ {vs : List V} {ds : List PyData}, DxAll K H S vs ds → DxAll K H (inS S p) vs ds
  | _, _, .nil => .nil
  | _, _, .cons h t => .cons (Dx.add hp h) (DxAll.add hp t)
end
mutual
theorem Dx.less (k : ∀ a, S' a → S a) : ∀ {v : V} {d : PyData}, Dx K H S v d → Dx K H S' v d
  | _, _, .non => .non
  | _, _, .bl b => .bl b
  | _, _, .int i => .int i
  | _, _, .str x => .str x
  | _, _, .lst h t => .lst (h.less k) (DxAll.less k t)
  | _, _, .tup h t => .tup (h.less k) (DxAll.less k t)
theorem DxAll.less (k : ∀ a, S' a → S a) : ∀ {vs : List V} {ds : List PyData}, DxAll K H S vs ds → DxAll K H S' vs ds
  | _, _, .nil => .nil
  | _, _, .cons h t => .cons (Dx.less k h) (DxAll.less k t)
end
mutual
theorem Dx.dp : ∀ {v : V} {d : PyData}, Dx K H S v d → Dp K H v d
  | _, _, .non => .non
  | _, _, .bl b => .bl b
  | _, _, .int i => .int i
  | _, _, .str x => .str x
  | _, _, .lst h t => .lst h.sq (DxAll.dp t)
  | _, _, .tup h t => .tup h.sq (DxAll.dp t)
theorem DxAll.dp : ∀ {vs : List V} {ds : List PyData}, DxAll K H S vs ds → DpAll K H vs ds
  | _, _, .nil => .nil
  | _, _, .cons h t => .cons (Dx.dp h) (DxAll.dp t)
end
theorem dxAll_get : ∀ {vs : List V} {ds : List PyData} {i : Nat} {x : V}, DxAll K H S vs ds → vs[i]? = some x → ∃ d, ds[i]? = some d ∧ Dx K H S x d
  | _, _, _, _, .nil, e => by simp at e
  | _, _, 0, _, .cons h _, e => by
    simp at e
    subst e
    exact ⟨_, rfl, h⟩
  | _, _, i + 1, x, .cons _ t, e => by
    obtain ⟨d, h1, h2⟩ := dxAll_get (i := i) (x := x) t (by simpa using e)
    exact ⟨d, by simpa using h1, h2⟩
theorem Dx.of_get {vs : List V} {ds : List PyData} {i : Nat} (h : DxAll K H S vs ds) (e : vs[i]? = some x) (e2 : ds[i]? = some d) : Dx K H S x d := by
  obtain ⟨d', h1, h2⟩ := dxAll_get h e
  rw [e2] at h1
  rw [Option.some.inj h1]
  exact h2
theorem dxAll_len : ∀ {vs : List V} {ds : List PyData}, DxAll K H S vs ds → vs.length = ds.length
  | _, _, .nil => rfl
  | _, _, .cons _ t => by
    rw [List.length_cons, List.length_cons, dxAll_len t]
theorem dxAll_app : ∀ {vs ws : List V} {ds es : List PyData}, DxAll K H S vs ds → DxAll K H S ws es → DxAll K H S (vs ++ ws) (ds ++ es)
  | _, _, _, _, .nil, h => h
  | _, _, _, _, .cons a t, h => .cons a (dxAll_app t h)
theorem dxAll_ints : ∀ ns : List Int, DxAll K H S (ns.map V.int) (ns.map PyData.int)
  | [] => .nil
  | n :: r => .cons (.int n) (dxAll_ints r)
theorem dxAll_strs : ∀ ns : List Str, DxAll K H S (ns.map V.str) (ns.map PyData.str)
  | [] => .nil
  | n :: r => .cons (.str n) (dxAll_strs r)
theorem dxAll_ints_inv : ∀ {vs : List V} {ns : List Int}, DxAll K H S vs (ns.map PyData.int) → vs = ns.map V.int
  | _, [], .nil => rfl
  | _, n :: r, .cons h t => by
    cases h
    rw [dxAll_ints_inv t]
    rfl
end
section
variable {K : PySem.W.Frag} {H H' : Hp} {v x : V} {a p : Addr} {xs : List V} {d : PyData} {ds : List PyData}
/-! ### isinstance -/
def tn : PyData → String
  | .none => "NoneType"
  | .bool _ => "bool"
  | .int _ => "int"
  | .str _ => "str"
  | .list _ => "list"
  | .tuple _ => "tuple"
  | .dict _ => "dict"
def isB (a c : String) : Bool := a == c || (a == "bool" && c == "int")
theorem kitT : ∀ a ∈ (["NoneType", "bool", "int", "str", "list", "tuple"] : List String), ∀ c ∈ (["int", "bool", "str", "list", "tuple"] : List String), kitB a c = some (isB a c) := by decide +kernel
theorem dp_tn (h : Dp K H v d) : tn d ∈ (["NoneType", "bool", "int", "str", "list", "tuple"] : List String) := by
  cases h <;> simp [tn]
theorem dp_ty (h : Dp K H v d) : TyX K H v (.type (tn d)) := by
  cases h with
  | non => exact .base .non
  | bl b => exact .base (.bl b)
  | int i => exact .base (.int i)
  | str x => exact .base (.str x)
  | lst h _ =>
    rcases h with (h | ⟨o, h⟩) | ⟨o, its, n, hk, hc, _⟩
    · exact .base (.lst h)
    · exact .base (.frz h)
    · exact .kList hk hc
  | tup h _ =>
    rcases h with (h | ⟨o, h⟩) | ⟨o, its, n, hk, hc, _⟩
    · exact .base (.tup h)
    · exact .fTuple h
    · exact .kTuple hk hc
theorem r_isi {c : String} {Q : VK} (h : Dp K H v d) (hc : c ∈ (["int", "bool", "str", "list", "tuple"] : List String)) (q : Q (.bl (isB (tn d) c)) H) : rIsi K [v, .ty c] H Q :=
  ⟨v, .ty c, _, _, _, rfl, .ty c, dp_ty h, kit_ty (kitT _ (dp_tn h) c hc), q⟩
theorem kit_any {t : String} (ht : t ∈ (["NoneType", "bool", "int", "str", "list", "tuple"] : List String)) : ∀ cs : List String, (∀ c ∈ cs, c ∈ (["int", "bool", "str", "list", "tuple"] : List String)) →
    PySem.W.kitAny K (.type t) (cs.map Value.type) = some (cs.any (isB t))
  | [], _ => rfl
  | c :: r, h => by
    have h1 : PySem.W.kitOne K (.type t) (.type c) = some (isB t c) := kit_ty (kitT t ht c (h c List.mem_cons_self))
    have h2 := kit_any ht r fun x hx => h x (List.mem_cons_of_mem _ hx)
    show PySem.W.kitAny K (.type t) (.type c :: r.map Value.type) = some (isB t c || r.any (isB t))
    refine kitAny_cons h1 (fun e => ?_) (fun e => ?_)
    · rw [e, Bool.false_or]
      exact h2
    · rw [e, Bool.true_or]
theorem paired_ty : ∀ cs : List String, Paired ClsV (cs.map V.ty) (cs.map Value.type)
  | [] => .nil
  | c :: r => .cons (.ty c) (paired_ty r)
theorem r_isiT {cs : List String} {Q : VK} (h : Dp K H v d) (hp : H p = some (.tup (cs.map V.ty))) (hc : ∀ c ∈ cs, c ∈ (["int", "bool", "str", "list", "tuple"] : List String)) (q : Q (.bl (cs.any (isB (tn d)))) H) : rIsiT K [v, .ref p] H Q :=
  ⟨v, p, _, _, _, _, rfl, hp, paired_ty cs, dp_ty h, kit_any (dp_tn h) cs hc, q⟩
end
theorem ifT {c : Bool} {A B : Prop} (h : c = true) (a : A) : if c = true then A else B := by
  rw [if_pos h]
  exact a
theorem ifF {c : Bool} {A B : Prop} (h : c = false) (b : B) : if c = true then A else B := by
  rw [h, if_neg Bool.false_ne_true]
  exact b
theorem ifB {c : Bool} {A B : Prop} (ht : c = true → A) (hf : c = false → B) : if c = true then A else B := by
  cases c with
  | true => exact ifT rfl (ht rfl)
  | false => exact ifF rfl (hf rfl)
theorem lenOk {α : Type} {xs : List α} {n : Nat} (h : xs.length = n) (hn : n ≤ 100000) : xs.length ≤ sizeLine := by
  rw [h]
  exact Nat.le_trans hn (by decide)
theorem range_getD {α β : Type} (g : α → β) (z : α) : ∀ l : List α, (List.range l.length).map (fun i => g (l.getD i z)) = l.map g := fun l => by
  apply List.ext_getElem?
  intro i
  by_cases h : i < l.length
  · rw [List.getElem?_map, List.getElem?_range h, List.getElem?_map, List.getElem?_eq_getElem h]
    simp [List.getD_eq_getElem?_getD, List.getElem?_eq_getElem h]
  · rw [List.getElem?_eq_none (by simp; omega), List.getElem?_eq_none (by simp; omega)]
theorem depth_get : ∀ {ds : List PyData} {i : Nat} {d : PyData}, ds[i]? = some d → d.depth ≤ PyData.depthAll ds
  | [], _, _, h => by simp at h
  | x :: r, 0, d, h => by
    simp at h
    subst h
    exact Nat.le_max_left _ _
  | x :: r, i + 1, d, h => Nat.le_trans (depth_get (ds := r) (i := i) (by simpa using h)) (Nat.le_max_right _ _)
/-! no list or tuple in it is very long -/
mutual
def wdB : PyData → Bool
  | .list xs => decide (xs.length ≤ 100000) && wdA xs
  | .tuple xs => decide (xs.length ≤ 100000) && wdA xs
  | .none => true
  | .bool _ => true
  | .int _ => true
  | .str _ => true
  | .dict _ => true
def wdA : List PyData → Bool
  | [] => true
  | x :: r => wdB x && wdA r
end
theorem wdA_get : ∀ {ds : List PyData} {i : Nat} {d : PyData}, wdA ds = true → ds[i]? = some d → wdB d = true
  | [], _, _, _, h => by simp at h
  | x :: r, 0, d, w, h => by
    simp at h
    subst h
    exact (Bool.and_eq_true_iff.mp w).1
  | x :: r, i + 1, d, w, h => wdA_get (ds := r) (i := i) (Bool.and_eq_true_iff.mp w).2 (by simpa using h)
theorem wdA_all : ∀ {ds : List PyData}, (∀ d ∈ ds, wdB d = true) → wdA ds = true
  | [], _ => rfl
  | x :: r, h => Bool.and_eq_true_iff.mpr ⟨h x List.mem_cons_self, wdA_all fun d hd => h d (List.mem_cons_of_mem _ hd)⟩
/-! ### rules whose reading has a name -/
def rTupOf (K : PySem.W.Frag) : List V → Hp → VK → Prop := fun xs H Q => ∃ p ys, xs = [.ref p] ∧ ((SqL K H p ys ∧ ∀ l, H l = none → Q (.ref l) (upd H l (.tup ys))) ∨ (SqT K H p ys ∧ Q (.ref p) H))
section
variable {X : Cx}
theorem tuple_of : CallR X (.type "tuple") (rTupOf X.K) := call_tuple_of
theorem len_seq : CallR X (.builtin "len") (Evl.rLenS X.K) := call_len_seq
theorem list_of : CallR X (.type "list") (Evl.rListS X.K) := call_list_of
end
/-! ### what a walk goes over, lists or tuples -/
theorem PI_or {X : Cx} {tg l : Expr} {w1 w2 : TI} (h1 : PI X tg l w1) (h2 : PI X tg l w2) : PI X tg l (fun σ H R => w1 σ H R ∨ w2 σ H R) :=
  ⟨fun pins s σ H R I h => h.elim (h1.run pins s σ H R I) (h2.run pins s σ H R I)⟩
/-! ### comprehensions without tests whose elements have a value each; the target is the name at k -/
section
variable {J : It} {n : Nat} {G : Hp → Prop} {Y : Nat → Hp → V → Hp → Prop}
theorem lc_vals (w : Walk J n G Y) {te : TE} {σ : L2.St} {H1 : Hp} {D : Addr} {Qd : Hp → Prop} {k : Nat} (I : Nat → V → Prop) (f : Nat → V) (hD : H1 D = none) (hG : ∀ H, Same H1 H → G H) (hn : n ≤ 1000000)
    (hY : ∀ i H x H', i < n → Y i H x H' → H' = H ∧ I i x)
    (hs : ∀ i x H, i < n → Same H1 H → I i x → ∀ Q : VK, (∀ H3, Same H H3 → Q (f i) H3) → te ((σ.set k none).set k (some x)) H Q) (hd : ∀ H, Same H1 H → H D = some (.lst ((List.range n).map f)) → Qd H) :
    ∃ W : Nat → Nat → Hp → Prop, (∃ m, W 0 m (upd H1 D (.lst []))) ∧ ∀ i m H, W i m H →
      (J.stop i H ∧ Qd H) ∨ (J.go i H ∧ ∃ Nx : Hp → Prop, (∀ H', Nx H' → ∃ m', m' < m ∧ W (i + 1) m' H') ∧ ∀ x H', J.yld i H x H' → gName k x (wipe σ [k]) H' fun σ2 H2 => wipe σ2 [k] = wipe σ [k] ∧ tYes σ2 H2 fun b H3 =>
        if b = true then te σ2 H3 fun y H4 => ∃ acc, H4 D = some (.lst acc) ∧ acc.length < sizeLine ∧ Nx (upd H4 D (.lst (acc ++ [y]))) else Nx H3) := by
  refine lc_it w (fun i H => Same H1 H ∧ H D = some (.lst ((List.range i).map f))) ⟨same_new hD, upd_same⟩ (fun i H _ h => hG H h.1) (fun i x H H' hi hp y => ?_) fun H h => hd H h.1 h.2
  obtain ⟨sm, e⟩ := hp
  obtain ⟨rfl, hx⟩ := hY i H x H' hi y
  refine ⟨?_, ?_⟩
  · show ((σ.set k none).set k (some x)).set k none = σ.set k none
    rw [List.set_set, List.set_set]
  show te ((σ.set k none).set k (some x)) H' _
  refine hs i x H' hi sm hx _ fun H3 s3 => ?_
  have e3 : H3 D = some (.lst ((List.range i).map f)) := s3 _ _ e
  refine ⟨_, e3, ?_, same_mut (sm.trans s3) hD, ?_⟩
  · rw [List.length_map, List.length_range]
    exact Nat.lt_of_lt_of_le (Nat.lt_of_lt_of_le hi hn) (by decide)
  · rw [upd_same, List.range_succ, List.map_append]
    rfl
/-- a comprehension whose elements may change what stands; Pv speaks of the turn, the list so far and the heap -/
theorem lc_inv (w : Walk J n G Y) {te : TE} {σ : L2.St} {H1 : Hp} {D : Addr} {Qd : Hp → Prop} {k : Nat} (I : Nat → V → Prop) (Pv : Nat → List V → Hp → Prop) (hn : n ≤ 1000000) (h0 : Pv 0 [] (upd H1 D (.lst [])))
    (hG : ∀ i acc H, Pv i acc H → G H) (hY : ∀ i H x H', i < n → Y i H x H' → H' = H ∧ I i x)
    (hs : ∀ i x acc H, i < n → acc.length = i → Pv i acc H → H D = some (.lst acc) → I i x → ∀ Q : VK, (∀ v H3, H3 D = some (.lst acc) → Pv (i + 1) (acc ++ [v]) (upd H3 D (.lst (acc ++ [v]))) → Q v H3) → te ((σ.set k none).set k (some x)) H Q)
    (hd : ∀ acc H, acc.length = n → Pv n acc H → H D = some (.lst acc) → Qd H) :
    ∃ W : Nat → Nat → Hp → Prop, (∃ m, W 0 m (upd H1 D (.lst []))) ∧ ∀ i m H, W i m H →
      (J.stop i H ∧ Qd H) ∨ (J.go i H ∧ ∃ Nx : Hp → Prop, (∀ H', Nx H' → ∃ m', m' < m ∧ W (i + 1) m' H') ∧ ∀ x H', J.yld i H x H' → gName k x (wipe σ [k]) H' fun σ2 H2 => wipe σ2 [k] = wipe σ [k] ∧ tYes σ2 H2 fun b H3 =>
        if b = true then te σ2 H3 fun y H4 => ∃ acc, H4 D = some (.lst acc) ∧ acc.length < sizeLine ∧ Nx (upd H4 D (.lst (acc ++ [y]))) else Nx H3) := by
  refine lc_it w (fun i H => ∃ acc, acc.length = i ∧ H D = some (.lst acc) ∧ Pv i acc H) ⟨[], rfl, upd_same, h0⟩ (fun i H _ h => ?_) (fun i x H H' hi hp y => ?_) fun H h => ?_
  · obtain ⟨acc, _, _, p⟩ := h
    exact hG i acc H p
  · obtain ⟨acc, hl, e, p⟩ := hp
    obtain ⟨rfl, hx⟩ := hY i H x H' hi y
    refine ⟨?_, ?_⟩
    · show ((σ.set k none).set k (some x)).set k none = σ.set k none
      rw [List.set_set, List.set_set]
    show te ((σ.set k none).set k (some x)) H' _
    refine hs i x acc H' hi hl p e hx _ fun v H3 e3 p3 => ⟨acc, e3, ?_, acc ++ [v], ?_, upd_same, p3⟩
    · rw [hl]
      exact Nat.lt_of_lt_of_le (Nat.lt_of_lt_of_le hi hn) (by decide)
    · rw [List.length_append, hl]
      rfl
  · obtain ⟨acc, hl, e, p⟩ := h
    exact hd acc H hl p e
theorem lc_data {K : PySem.W.Frag} {S : ASet} (w : Walk J n G Y) {te : TE} {σ : L2.St} {H1 : Hp} {D : Addr} {Qd : Hp → Prop} {k : Nat} (I : Nat → V → Prop) (f : Nat → PyData) (hS : ∀ a, S a → H1 a ≠ none) (hD : H1 D = none) (hG : ∀ H, Same H1 H → G H) (hn : n ≤ 1000000)
    (hY : ∀ i H x H', i < n → Y i H x H' → H' = H ∧ I i x)
    (hs : ∀ i x H, i < n → Same H1 H → H D ≠ none → I i x → ∀ Q : VK, (∀ v H3, Same H H3 → Dx K H3 (inS S D) v (f i) → Q v H3) → te ((σ.set k none).set k (some x)) H Q)
    (hd : ∀ H, Same H1 H → Dx K H S (.ref D) (.list ((List.range n).map f)) → Qd H) :
    ∃ W : Nat → Nat → Hp → Prop, (∃ m, W 0 m (upd H1 D (.lst []))) ∧ ∀ i m H, W i m H →
      (J.stop i H ∧ Qd H) ∨ (J.go i H ∧ ∃ Nx : Hp → Prop, (∀ H', Nx H' → ∃ m', m' < m ∧ W (i + 1) m' H') ∧ ∀ x H', J.yld i H x H' → gName k x (wipe σ [k]) H' fun σ2 H2 => wipe σ2 [k] = wipe σ [k] ∧ tYes σ2 H2 fun b H3 =>
        if b = true then te σ2 H3 fun y H4 => ∃ acc, H4 D = some (.lst acc) ∧ acc.length < sizeLine ∧ Nx (upd H4 D (.lst (acc ++ [y]))) else Nx H3) := by
  have hnS : ¬ S D := fun z => hS D z hD
  refine lc_it w (fun i H => Same H1 H ∧ ∃ acc, H D = some (.lst acc) ∧ DxAll K H (inS S D) acc ((List.range i).map f)) ⟨same_new hD, [], upd_same, .nil⟩ (fun i H _ h => hG H h.1) (fun i x H H' hi hp y => ?_) fun H h => ?_
  · obtain ⟨sm, acc, e, da⟩ := hp
    obtain ⟨rfl, hx⟩ := hY i H x H' hi y
    refine ⟨?_, ?_⟩
    · show ((σ.set k none).set k (some x)).set k none = σ.set k none
      rw [List.set_set, List.set_set]
    show te ((σ.set k none).set k (some x)) H' _
    refine hs i x H' hi sm (by rw [e]; exact fun z => nomatch z) hx _ fun v H3 s3 dv => ?_
    have hl : acc.length = i := by rw [dxAll_len da, List.length_map, List.length_range]
    refine ⟨acc, s3 _ _ e, ?_, same_mut (sm.trans s3) hD, acc ++ [v], upd_same, ?_⟩
    · rw [hl]
      exact Nat.lt_of_lt_of_le (Nat.lt_of_lt_of_le hi hn) (by decide)
    · rw [List.range_succ, List.map_append]
      have o : Out (inS S D) H3 (upd H3 D (.lst (acc ++ [v]))) := (Out.refl _ _).put (.inr rfl)
      exact dxAll_app (DxAll.up o (DxAll.up (Out.of s3) da)) (.cons (Dx.up o dv) .nil)
  · obtain ⟨sm, acc, e, da⟩ := h
    exact hd H sm (.lst (XL.of e hnS) (DxAll.less (fun a z => .inl z) da))
end
end RK

namespace RK
open PySem PySem.Spec PyProof.Rows L2 PySem.Builtin.Str
/-! ### texts as lists of code points -/
def sO (l : List Nat) : Str := ⟨l.toArray⟩
theorem sO_eta (x : Str) : sO x.cps.toList = x := rfl
theorem sO_list (l : List Nat) : (sO l).cps.toList = l := rfl
theorem sO_len (l : List Nat) : (sO l).length = l.length := rfl
theorem sO_inj {a b : List Nat} (h : sO a = sO b) : a = b := by
  have := congrArg (fun s : Str => s.cps.toList) h
  exact this
theorem sO_app (a b : List Nat) : sO a ++ sO b = sO (a ++ b) := by
  show (⟨a.toArray ++ b.toArray⟩ : Str) = ⟨(a ++ b).toArray⟩
  rw [List.append_toArray]
theorem sO_at {l : List Nat} {i : Nat} {c : Nat} (h : l[i]? = some c) : atI (sO l).cps.toList (i : Int) = some c := atI_nat h
theorem join_fold (l : List Str) : ∀ (acc : Array Nat), (l.foldl (fun acc p => acc ++ (sO []).cps ++ p.cps) acc) = (acc.toList ++ (l.map fun s => s.cps.toList).flatten).toArray := by
  induction l with
  | nil => intro acc; simp
  | cons p r ih =>
    intro acc
    rw [List.foldl_cons, ih]
    simp [sO]
theorem join_nil (l : List Str) : Txt.join (sO []) l = sO (l.map fun s => s.cps.toList).flatten := by
  cases l with
  | nil => rfl
  | cons p r =>
    show (⟨(r.foldl (fun acc p => acc ++ (sO []).cps ++ p.cps) p.cps)⟩ : Str) = _
    rw [join_fold]
    simp [sO]
theorem strip_take (goes : Nat → Bool) : ∀ l : List Nat, l.take (l.length - (l.reverse.takeWhile goes).length) = (l.reverse.dropWhile goes).reverse := fun l => by
  have h : l.reverse = l.reverse.takeWhile goes ++ l.reverse.dropWhile goes := (List.takeWhile_append_dropWhile).symm
  have h2 : l = (l.reverse.dropWhile goes).reverse ++ (l.reverse.takeWhile goes).reverse := by
    rw [← List.reverse_append, List.takeWhile_append_dropWhile, List.reverse_reverse]
  have h3 : l.length = (l.reverse.dropWhile goes).length + (l.reverse.takeWhile goes).length := by
    have := congrArg List.length h2
    rw [List.length_append, List.length_reverse, List.length_reverse] at this
    exact this
  have h4 : l.length - (l.reverse.takeWhile goes).length = (l.reverse.dropWhile goes).reverse.length := by
    rw [List.length_reverse]
    omega
  rw [h4]
  conv => lhs; arg 2; rw [h2]
  rw [List.take_left]
theorem rstrip_sO (l : List Nat) : Txt.rstrip (sO l) = sO (l.reverse.dropWhile Unicode.isSpace).reverse := by
  have hi : stripHi Unicode.isSpace true (sO l) 0 = l.length - (l.reverse.takeWhile Unicode.isSpace).length := rfl
  show (if (stripSame Unicode.isSpace false true (sO l)) = true then sO l else stripped Unicode.isSpace false true (sO l)) = _
  have e : stripped Unicode.isSpace false true (sO l) = sO (l.reverse.dropWhile Unicode.isSpace).reverse := by
    show (⟨l.toArray.extract 0 (l.length - (l.reverse.takeWhile Unicode.isSpace).length)⟩ : Str) = _
    rw [List.extract_toArray, List.extract_eq_take_drop, List.drop_zero, Nat.sub_zero, strip_take]
    rfl
  split
  · rename_i h
    have h1 : (l.length - (l.reverse.takeWhile Unicode.isSpace).length == l.length) = true := (Bool.and_eq_true_iff.mp h).2
    have h2 : l.length - (l.reverse.takeWhile Unicode.isSpace).length = l.length := by simpa using h1
    have h3 := strip_take Unicode.isSpace l
    rw [h2, List.take_length] at h3
    rw [← h3]
  · exact e
theorem ljust_sO (l : List Nat) (n : Nat) (h : l.length ≤ n) : Txt.ljust (sO l) (n : Int) = sO (l ++ List.replicate (n - l.length) 32) := by
  show (if (n : Int) ≤ (l.length : Nat) then sO l else padded (sO l) 0 ((n : Int).toNat - l.length) 32) = _
  split
  · rename_i h2
    have : n - l.length = 0 := by omega
    rw [this]
    simp [sO]
  · show (⟨Array.replicate 0 32 ++ l.toArray ++ Array.replicate ((n : Int).toNat - l.length) 32⟩ : Str) = _
    rw [Int.toNat_natCast]
    simp [sO]
/-- parts of a text -/
theorem cut_lo (l : List Nat) (k : Nat) : cutS (sO l) (some (k : Int)) none = sO (l.drop k) := by
  show (⟨((l.drop (HT.sIx l.length 0 (some (k : Int)))).take (HT.sIx l.length l.length none - HT.sIx l.length 0 (some (k : Int)))).toArray⟩ : Str) = _
  rw [HT.sIx_nat, HT.sIx_none]
  have e : (l.drop (min k l.length)).take (l.length - min k l.length) = l.drop k := by
    rw [List.take_of_length_le (by rw [List.length_drop]; omega)]
    by_cases h : k ≤ l.length
    · rw [Nat.min_eq_left h]
    · rw [Nat.min_eq_right (by omega), List.drop_length, List.drop_of_length_le (by omega)]
  rw [e]
  rfl
theorem cut_hi (l : List Nat) (k : Nat) : cutS (sO l) none (some (k : Int)) = sO (l.take k) := by
  show (⟨((l.drop (HT.sIx l.length 0 none)).take (HT.sIx l.length l.length (some (k : Int)) - HT.sIx l.length 0 none)).toArray⟩ : Str) = _
  rw [HT.sIx_nat, HT.sIx_none, List.drop_zero, Nat.sub_zero]
  have e : l.take (min k l.length) = l.take k := by
    by_cases h : k ≤ l.length
    · rw [Nat.min_eq_left h]
    · rw [Nat.min_eq_right (by omega), List.take_length, List.take_of_length_le (by omega)]
  rw [e]
  rfl
theorem rep_fold (a : Array Nat) : ∀ (n : Nat) (acc : Array Nat), (List.replicate n a).foldl (· ++ ·) acc = (acc.toList ++ (List.replicate n a.toList).flatten).toArray
  | 0, acc => by simp
  | n + 1, acc => by
    rw [List.replicate_succ, List.foldl_cons, rep_fold a n, List.replicate_succ]
    simp
section
variable {X : Cx}
/-- a text times a small number -/
theorem op_rep_str : OpR X (binaryOp .Mult) (fun x y H Q => ∃ (l : List Nat) (n : Nat), x = .str (sO l) ∧ y = .int (n : Int) ∧ l.length ≤ 1000 ∧ n ≤ 1000 ∧ Q (.str (sO (List.replicate n l).flatten)) H) := by
  intro pins s σ H x y v u Q I rx ry h
  obtain ⟨l, n, rfl, rfl, hl, hn, q⟩ := h
  obtain ⟨t, rfl⟩ := rx
  obtain ⟨t2, rfl⟩ := ry
  have big : l.length * n ≤ 1000000 := Nat.mul_le_mul hl hn
  refine P.mul_str ?_ (fun _ _ => ?_) (fun _ _ => ?_) ?_
  · rw [decide_eq_false (show ¬ (n : Int) < -(2 ^ 63) by omega), decide_eq_false (show ¬ (n : Int) ≥ 2 ^ 63 by omega)]
    rfl
  · show ¬ ((l.length : Nat) : Int) > (2 ^ 63 - 1) / (n : Int)
    have h1 : (0 : Int) < n := by omega
    have h2 : (1000 : Int) ≤ (2 ^ 63 - 1) / (n : Int) := (Int.le_ediv_iff_mul_le h1).mpr (by omega)
    omega
  · show tooLong (l.length * (n : Int).toNat) = false
    rw [Int.toNat_natCast]
    exact decide_eq_false (by show ¬ _; have : (1000000 : Nat) ≤ sizeLine := by decide
                              omega)
  · have fin : ∀ (z : Str) tk tok, z = sO (List.replicate n l).flatten → EP X pins σ Q (Value.str z tok) { s with toks := tk } := fun z tk tok e => by subst e; exact ⟨.str _, H, I.tok _, ⟨_, rfl⟩, q⟩
    have hsz : ∀ z : Str, z = sO (List.replicate n l).flatten → z.length ≤ sizeLine := fun z e => by
      rw [e, sO_len]
      have e2 : (List.replicate n l).flatten.length = n * l.length := by simp
      rw [e2, Nat.mul_comm]
      exact Nat.le_trans big (by decide)
    split
    · have : n = 0 := by omega
      subst this
      exact ⟨by decide, fin _ _ _ rfl⟩
    · split
      · rename_i h2
        rcases Bool.or_eq_true_iff.mp h2 with h3 | h3
        · have h4 : (n : Int) = 1 := by simpa using h3
          have h5 : n = 1 := by omega
          subst h5
          refine fin _ s.toks _ ?_
          simp
        · have h4 : l.length = 0 := (eq_of_beq h3 : (sO l).length = 0)
          have h5 : l = [] := List.eq_nil_of_length_eq_zero h4
          subst h5
          refine fin _ s.toks _ ?_
          have : (List.replicate n ([] : List Nat)).flatten = [] := by simp
          rw [this]
      · have e : (⟨(List.replicate (n : Int).toNat (sO l).cps).foldl (· ++ ·) #[]⟩ : Str) = sO (List.replicate n l).flatten := by
          rw [rep_fold, Int.toNat_natCast]
          simp [sO]
        exact ⟨hsz _ e, fin _ _ _ e⟩
end
end RK

namespace RK
open PySem PySem.Spec PyProof.Rows L2 PySem.Builtin.Str
/-! ### names and the words that pack them -/
def sg (k : Nat) : Nat := if k = 0 then 32 else if k ≤ 26 then 96 + k else 21 + k
abbrev LTR : List Nat := (Str.ofString "abcdefghijklmnopqrstuvwxyz").cps.toList
abbrev SGN : List Nat := (Str.ofString " abcdefghijklmnopqrstuvwxyz0123456789").cps.toList
theorem SGN_eq : SGN = (List.range 37).map sg := by decide +kernel
theorem LTR_eq : LTR = (List.range 26).map fun k => sg (k + 1) := by decide +kernel
def isN (l : List Nat) : Bool := (decide (1 ≤ l.length) && decide (l.length ≤ 9) && decide (l.headD 0 ∈ LTR)) && l.all fun c => decide (c ∈ SGN) && !decide (c = 32)
theorem dec_blank (c : Nat) : decide (V.str (sO [c]) = V.str (Str.ofString " ")) = decide (c = 32) := by
  have e : Str.ofString " " = sO [32] := by decide +kernel
  rw [e, decide_eq_decide]
  constructor
  · intro h
    have := sO_inj (V.str.inj h)
    exact (List.cons.inj this).1
  · intro h
    rw [h]
/-- the codes of a name -/
structure Nk (ks : List Nat) : Prop where
  pos : 1 ≤ ks.length
  le : ks.length ≤ 9
  head : 1 ≤ ks.headD 0 ∧ ks.headD 0 ≤ 26
  all : ∀ k ∈ ks, 1 ≤ k ∧ k ≤ 36
theorem sg_mem {k : Nat} (h : k ≤ 36) : sg k ∈ SGN := by
  rw [SGN_eq]
  exact List.mem_map.mpr ⟨k, List.mem_range.mpr (by omega), rfl⟩
theorem sg_ne {k : Nat} (h : 1 ≤ k) : sg k ≠ 32 := by
  unfold sg
  split
  · omega
  · split <;> omega
theorem sg_inj {a b : Nat} (ha : a ≤ 36) (hb : b ≤ 36) (h : sg a = sg b) : a = b := by
  unfold sg at h
  split at h <;> split at h <;> (try split at h) <;> (try split at h) <;> omega
theorem sg_lt {k : Nat} (h : k ≤ 36) : sg k ∈ LTR ↔ 1 ≤ k ∧ k ≤ 26 := by
  rw [LTR_eq, List.mem_map]
  constructor
  · rintro ⟨j, hj, e⟩
    have hj := List.mem_range.mp hj
    have := sg_inj (by omega) h e
    omega
  · rintro ⟨h1, h2⟩
    exact ⟨k - 1, List.mem_range.mpr (by omega), by rw [Nat.sub_add_cancel h1]⟩
theorem isN_codes {ks : List Nat} (h36 : ∀ k ∈ ks, k ≤ 36) : isN (ks.map sg) = (decide (1 ≤ ks.length) && decide (ks.length ≤ 9) && decide (1 ≤ ks.headD 0 ∧ ks.headD 0 ≤ 26) && ks.all fun k => decide (1 ≤ k)) := by
  unfold isN
  rw [List.length_map]
  have e1 : decide ((ks.map sg).headD 0 ∈ LTR) = decide (1 ≤ ks.headD 0 ∧ ks.headD 0 ≤ 26) := by
    cases ks with
    | nil => decide +kernel
    | cons k r =>
      show decide (sg k ∈ LTR) = decide (1 ≤ k ∧ k ≤ 26)
      rw [decide_eq_decide]
      exact sg_lt (h36 k List.mem_cons_self)
  have e2 : ((ks.map sg).all fun c => decide (c ∈ SGN) && !decide (c = 32)) = ks.all fun k => decide (1 ≤ k) := by
    rw [List.all_map]
    apply Bool.eq_iff_iff.mpr
    rw [List.all_eq_true, List.all_eq_true]
    constructor
    · intro h k hk
      have := h k hk
      apply decide_eq_true
      rcases Nat.eq_zero_or_pos k with z | z
      · subst z
        exact absurd this (by decide +kernel)
      · exact z
    · intro h k hk
      have hk1 : 1 ≤ k := of_decide_eq_true (h k hk)
      show (decide (sg k ∈ SGN) && !decide (sg k = 32)) = true
      rw [decide_eq_true (sg_mem (h36 k hk)), decide_eq_false (sg_ne hk1)]
      rfl
  rw [e1, e2]
theorem isN_of {ks : List Nat} (h : Nk ks) : isN (ks.map sg) = true := by
  rw [isN_codes fun k hk => (h.all k hk).2, decide_eq_true h.pos, decide_eq_true h.le, decide_eq_true h.head]
  rw [List.all_eq_true.mpr fun k hk => decide_eq_true (h.all k hk).1]
  rfl
theorem isN_long {l : List Nat} (h : 10 ≤ l.length) : isN l = false := by
  unfold isN
  rw [decide_eq_false (show ¬ l.length ≤ 9 by omega), Bool.and_false]
  rfl
theorem isN_head {l : List Nat} (h : l.headD 0 ∉ LTR) : isN l = false := by
  unfold isN
  rw [decide_eq_false h, Bool.and_false]
  rfl
theorem isN_mem {l : List Nat} {c : Nat} (h : c ∈ l) (hc : (decide (c ∈ SGN) && !decide (c = 32)) = false) : isN l = false := by
  unfold isN
  rw [show (l.all fun c => decide (c ∈ SGN) && !decide (c = 32)) = false from ?_, Bool.and_false]
  apply Bool.eq_false_iff.mpr
  intro z
  have := List.all_eq_true.mp z c h
  rw [hc] at this
  cases this
/-! words -/
def cds (w : Nat) : List Nat := [w / 1600, w / 40 % 40, w % 40]
def rtrim (ks : List Nat) : List Nat := (ks.reverse.dropWhile (· == 0)).reverse
theorem rtrim_app (l : List Nat) (x : Nat) : rtrim (l ++ [x]) = if x = 0 then rtrim l else l ++ [x] := by
  unfold rtrim
  rw [List.reverse_append]
  show ((x :: l.reverse).dropWhile (· == 0)).reverse = _
  rw [List.dropWhile_cons]
  by_cases h : x = 0
  · rw [if_pos h, if_pos (by rw [h]; rfl)]
  · rw [if_neg h, if_neg (by simpa using h)]
    simp
theorem rtrim_pre (l : List Nat) : rtrim l = l.take (rtrim l).length := by
  have h : l.reverse = l.reverse.takeWhile (· == 0) ++ l.reverse.dropWhile (· == 0) := (List.takeWhile_append_dropWhile).symm
  have h2 : l = rtrim l ++ (l.reverse.takeWhile (· == 0)).reverse := by
    unfold rtrim
    rw [← List.reverse_append, List.takeWhile_append_dropWhile, List.reverse_reverse]
  conv => rhs; arg 2; rw [h2]
  rw [List.take_left]
theorem rtrim_big {l : List Nat} {x : Nat} (h : x ∈ l) (hx : x ≠ 0) : x ∈ rtrim l := by
  have h2 : l = rtrim l ++ (l.reverse.takeWhile (· == 0)).reverse := by
    unfold rtrim
    rw [← List.reverse_append, List.takeWhile_append_dropWhile, List.reverse_reverse]
  rw [h2] at h
  rcases List.mem_append.mp h with h | h
  · exact h
  · have := List.mem_reverse.mp h
    have h3 : ∀ (r : List Nat), x ∈ r.takeWhile (· == 0) → x = 0 := fun r => by
      induction r with
      | nil => intro z; cases z
      | cons y r ih =>
        rw [List.takeWhile_cons]
        split
        · rename_i hy
          intro z
          rcases List.mem_cons.mp z with z | z
          · rw [z]; simpa using hy
          · exact ih z
        · intro z; cases z
    exact absurd (h3 _ this) hx
theorem rtrim_sub {l : List Nat} {x : Nat} (h : x ∈ rtrim l) : x ∈ l := by
  rw [rtrim_pre] at h
  exact List.mem_of_mem_take h
theorem rtrim_len (l : List Nat) : (rtrim l).length ≤ l.length := by
  rw [rtrim_pre, List.length_take]
  omega
theorem rtrim_head {l : List Nat} (h : rtrim l ≠ []) : (rtrim l).headD 0 = l.headD 0 := by
  rw [rtrim_pre] at h ⊢
  cases l with
  | nil => simp at h
  | cons x r =>
    cases e : (rtrim (x :: r)).length with
    | zero => rw [e] at h; exact absurd rfl h
    | succ n => rfl
/-- the program's way -/
def wn (ks : List Nat) : Option (List Nat) := if ks.any (fun k => decide (37 ≤ k)) then none else if isN ((rtrim ks).map sg) then some ((rtrim ks).map sg) else none
/-- the law's way -/
def un (ks : List Nat) : Option (List Nat) := if (rtrim ks).all (fun k => decide (1 ≤ k ∧ k ≤ 36)) && (decide ((rtrim ks).length ≠ 0) && decide (ks.headD 0 ≤ 26)) then some ((rtrim ks).map sg) else none
theorem wn_un (ks : List Nat) (h9 : ks.length ≤ 9) : wn ks = un ks := by
  unfold wn un
  by_cases hb : ks.any (fun k => decide (37 ≤ k)) = true
  · rw [if_pos hb]
    obtain ⟨k, hk, hk2⟩ := List.any_eq_true.mp hb
    have hk3 : 37 ≤ k := of_decide_eq_true hk2
    have : (rtrim ks).all (fun k => decide (1 ≤ k ∧ k ≤ 36)) = false := by
      apply Bool.eq_false_iff.mpr
      intro z
      have := of_decide_eq_true (List.all_eq_true.mp z k (rtrim_big hk (by omega)))
      omega
    rw [this]
    rfl
  · rw [if_neg hb]
    have h36 : ∀ k ∈ ks, k ≤ 36 := fun k hk => by
      apply Decidable.byContradiction
      intro z
      exact hb (List.any_eq_true.mpr ⟨k, hk, decide_eq_true (by omega)⟩)
    have h36' : ∀ k ∈ rtrim ks, k ≤ 36 := fun k hk => h36 k (rtrim_sub hk)
    have hl := rtrim_len ks
    have e : isN ((rtrim ks).map sg) = ((rtrim ks).all (fun k => decide (1 ≤ k ∧ k ≤ 36)) && (decide ((rtrim ks).length ≠ 0) && decide (ks.headD 0 ≤ 26))) := by
      rw [isN_codes h36']
      apply Bool.eq_iff_iff.mpr
      simp only [Bool.and_eq_true, decide_eq_true_eq, List.all_eq_true]
      constructor
      · rintro ⟨⟨⟨h1, _⟩, h3, h4⟩, h5⟩
        have hne : rtrim ks ≠ [] := fun z => by rw [z] at h1; exact absurd h1 (by decide)
        rw [rtrim_head hne] at h3 h4
        exact ⟨fun k hk => ⟨h5 k hk, h36' k hk⟩, by omega, h4⟩
      · rintro ⟨h1, h2, h3⟩
        have hne : rtrim ks ≠ [] := fun z => by rw [z] at h2; exact h2 rfl
        refine ⟨⟨⟨by omega, by omega⟩, ?_⟩, fun k hk => (h1 k hk).1⟩
        have hm : (rtrim ks).headD 0 ∈ rtrim ks := by
          cases hr : rtrim ks with
          | nil => exact absurd hr hne
          | cons x r => exact List.mem_cons_self
        have := h1 _ hm
        rw [rtrim_head hne] at this ⊢
        exact ⟨this.1, h3⟩
    rw [e]
def pad (ks : List Nat) : List Nat := ks ++ List.replicate (9 - ks.length) 0
theorem pad_len {ks : List Nat} (h : ks.length ≤ 9) : (pad ks).length = 9 := by
  unfold pad
  rw [List.length_append, List.length_replicate]
  omega
def pk1 (cs : List Nat) (k : Nat) : Nat := (cs.getD k 0 * 40 + cs.getD (k + 1) 0) * 40 + cs.getD (k + 2) 0
def pk3 (cs : List Nat) : List Nat := [pk1 cs 0, pk1 cs 3, pk1 cs 6]
theorem cds_pk1 {cs : List Nat} {k : Nat} (h : ∀ x ∈ cs, x ≤ 39) : cds (pk1 cs k) = [cs.getD k 0, cs.getD (k + 1) 0, cs.getD (k + 2) 0] := by
  have g : ∀ i, cs.getD i 0 ≤ 39 := fun i => by
    rw [List.getD_eq_getElem?_getD]
    cases e : cs[i]? with
    | none => exact Nat.zero_le _
    | some x => exact h x (List.mem_of_getElem? e)
  have a := g k
  have b := g (k + 1)
  have c := g (k + 2)
  unfold cds pk1
  congr 1
  · omega
  · congr 1
    · omega
    · congr 1
      omega
theorem cds_pk3 {cs : List Nat} (h : ∀ x ∈ cs, x ≤ 39) (h9 : cs.length = 9) : (pk3 cs).flatMap cds = cs := by
  match cs, h9 with
  | [a, b, c, d, e, f, g, i, j], _ =>
    show cds _ ++ (cds _ ++ (cds _ ++ [])) = _
    rw [cds_pk1 h, cds_pk1 h, cds_pk1 h]
    rfl
theorem rtrim_pad {ks : List Nat} (h : Nk ks) : rtrim (pad ks) = ks := by
  unfold pad
  generalize 9 - ks.length = n
  induction n with
  | zero =>
    rw [List.replicate_zero, List.append_nil]
    cases e : ks.reverse with
    | nil =>
      have := congrArg List.reverse e
      rw [List.reverse_reverse] at this
      rw [this]
      rfl
    | cons x r =>
      have e2 : ks = r.reverse ++ [x] := by
        have := congrArg List.reverse e
        rw [List.reverse_reverse, List.reverse_cons] at this
        exact this
      rw [e2, rtrim_app, if_neg]
      have := h.all x (by rw [e2]; simp)
      omega
  | succ n ih =>
    rw [List.replicate_succ', ← List.append_assoc, rtrim_app, if_pos rfl]
    exact ih
theorem pad_le {ks : List Nat} (h : Nk ks) : ∀ x ∈ pad ks, x ≤ 39 := fun x hx => by
  unfold pad at hx
  rcases List.mem_append.mp hx with hx | hx
  · have := h.all x hx
    omega
  · have := List.eq_of_mem_replicate hx
    omega
theorem wn_pad {ks : List Nat} (h : Nk ks) : wn (pad ks) = some (ks.map sg) := by
  unfold wn
  rw [rtrim_pad h, isN_of h, if_neg, if_pos rfl]
  intro z
  obtain ⟨k, hk, hk2⟩ := List.any_eq_true.mp z
  have hk3 : 37 ≤ k := of_decide_eq_true hk2
  unfold pad at hk
  rcases List.mem_append.mp hk with hx | hx
  · have := h.all k hx
    omega
  · have := List.eq_of_mem_replicate hx
    omega
/-- signs found in the tables -/
theorem find_sg : ∀ k : _root_.Fin 37, Txt.find (Str.ofString " abcdefghijklmnopqrstuvwxyz0123456789") (sO [sg k.val]) = (k.val : Int) := by decide +kernel
theorem occ_sg : ∀ k : _root_.Fin 37, occurrences (Str.ofString " abcdefghijklmnopqrstuvwxyz0123456789") (sO [sg k.val]) 0 (Str.ofString " abcdefghijklmnopqrstuvwxyz0123456789").length 1 = [k.val] := by decide +kernel
theorem space_sg : ∀ k : _root_.Fin 37, Unicode.isSpace (sg k.val) = (k.val == 0) := by decide +kernel
theorem rstrip_sg {ks : List Nat} (h : ∀ k ∈ ks, k ≤ 36) : Txt.rstrip (sO (ks.map sg)) = sO ((rtrim ks).map sg) := by
  rw [rstrip_sO]
  unfold rtrim
  rw [← List.map_reverse]
  have e : ∀ r : List Nat, (∀ k ∈ r, k ≤ 36) → (r.map sg).dropWhile Unicode.isSpace = (r.dropWhile (· == 0)).map sg := fun r => by
    induction r with
    | nil => intro _; rfl
    | cons x r ih =>
      intro hr
      rw [List.map_cons, List.dropWhile_cons, List.dropWhile_cons]
      have hx : Unicode.isSpace (sg x) = (x == 0) := space_sg ⟨x, by have := hr x List.mem_cons_self; omega⟩
      rw [hx]
      split
      · exact ih fun k hk => hr k (List.mem_cons_of_mem _ hk)
      · rfl
  rw [e _ fun k hk => h k (List.mem_reverse.mp hk), ← List.map_reverse]
/-! lists of small numbers as they stand in the program -/
def intV (l : List Nat) : List V := l.map fun (n : Nat) => V.int (n : Int)
theorem atI_intV {cs : List Nat} {k : Int} (h0 : 0 ≤ k) (h1 : k < (cs.length : Int)) : atI (intV cs) k = some (.int ((cs.getD k.toNat 0 : Nat) : Int)) := by
  obtain ⟨j, rfl⟩ : ∃ j : Nat, k = (j : Int) := ⟨k.toNat, by omega⟩
  have hj : j < cs.length := by omega
  refine atI_nat ?_
  unfold intV
  rw [List.getElem?_map, List.getElem?_eq_getElem hj, Int.toNat_natCast, List.getD_eq_getElem?_getD, List.getElem?_eq_getElem hj]
  rfl
theorem intV_map {α : Type} (g : α → Nat) (l : List α) : intV (l.map g) = l.map fun x => V.int ((g x : Nat) : Int) := by
  unfold intV
  rw [List.map_map]
  rfl
theorem intV_ints (l : List Nat) : intV l = (l.map fun (n : Nat) => (n : Int)).map V.int := by
  unfold intV
  rw [List.map_map]
  rfl
theorem intV_range (cs : List Nat) : (List.range cs.length).map (fun i => V.int ((cs.getD i 0 : Nat) : Int)) = intV cs := range_getD (fun n : Nat => V.int (n : Int)) 0 cs
theorem ljust_pad {ks : List Nat} (h : ks.length ≤ 9) : Txt.ljust (sO (ks.map sg)) 9 = sO ((pad ks).map sg) := by
  have e := ljust_sO (ks.map sg) 9 (by rw [List.length_map]; exact h)
  rw [List.length_map] at e
  unfold pad
  rw [List.map_append, List.map_replicate]
  exact e
/-! numbers as data -/
def intsD (l : List Nat) : PyData := .tuple ((l.map fun (n : Nat) => (n : Int)).map PyData.int)
theorem lay_ints : ∀ l : List Int, PyData.canLayAll0 (l.map PyData.int) = true
  | [] => rfl
  | _ :: r => lay_ints r
theorem lay_intsD (l : List Nat) : (intsD l).canLay0 = true := lay_ints _
theorem dep_ints : ∀ l : List Int, PyData.depthAll (l.map PyData.int) = 0
  | [] => rfl
  | x :: r => by
    show max 0 (PyData.depthAll (r.map PyData.int)) = 0
    rw [dep_ints r]
    rfl
theorem dep_intsD (l : List Nat) : (intsD l).depth ≤ 1 := by
  show PyData.depthAll _ + 1 ≤ 1
  rw [dep_ints]
  exact Nat.le_refl 1
theorem wd_ints : ∀ l : List Int, wdA (l.map PyData.int) = true
  | [] => rfl
  | _ :: r => wd_ints r
theorem wd_intsD {l : List Nat} (h : l.length ≤ 100000) : wdB (intsD l) = true := by
  show (decide (_ ≤ 100000) && wdA _) = true
  rw [wd_ints, List.length_map, List.length_map, decide_eq_true h]
  rfl
theorem dx_intsD {K : PySem.W.Frag} {H : Hp} {p : Addr} {l : List Nat} (h : H p = some (.tup (intV l))) : Dx K H noS (.ref p) (intsD l) := by
  rw [intV_ints] at h
  exact .tup (XT.of h fun z => z.elim) (dxAll_ints _)
/-! parts of a tuple -/
theorem cutV_lo {xs : List V} (k : Nat) : cutV xs (some (k : Int)) none = xs.drop k := by
  show (xs.drop (HT.sIx xs.length 0 (some (k : Int)))).take (HT.sIx xs.length xs.length none - HT.sIx xs.length 0 (some (k : Int))) = _
  rw [HT.sIx_nat, HT.sIx_none, List.take_of_length_le (by rw [List.length_drop]; omega)]
  by_cases h : k ≤ xs.length
  · rw [Nat.min_eq_left h]
  · rw [Nat.min_eq_right (by omega), List.drop_length, List.drop_of_length_le (by omega)]
theorem cutV_hi {xs : List V} (k : Nat) : cutV xs none (some (k : Int)) = xs.take k := by
  show (xs.drop (HT.sIx xs.length 0 none)).take (HT.sIx xs.length xs.length (some (k : Int)) - HT.sIx xs.length 0 none) = _
  rw [HT.sIx_nat, HT.sIx_none, List.drop_zero, Nat.sub_zero]
  by_cases h : k ≤ xs.length
  · rw [Nat.min_eq_left h]
  · rw [Nat.min_eq_right (by omega), List.take_length, List.take_of_length_le (by omega)]
theorem slA_of {K : PySem.W.Frag} {H : Hp} {a : Addr} {xs : List V} {lo hi : Option Int} {Q : VK} (h : SqT K H a xs) (q : ∀ p H', Same H H' → SqT K H' p (cutV xs lo hi) → Q (.ref p) H') : rSlA K (.ref a) lo hi H Q := by
  refine ⟨a, xs, rfl, h, fun e => q a H (Same.refl _) ?_, fun _ p hp => q p _ (same_new hp) (SqT.of upd_same)⟩
  have : cutV xs lo hi = xs := by
    show (xs.drop (HT.sIx xs.length 0 lo)).take (HT.sIx xs.length xs.length hi - HT.sIx xs.length 0 lo) = _
    rw [e.1, e.2, List.drop_zero, Nat.sub_zero, List.take_length]
  rw [this]
  exact h
end RK

namespace RK
open PySem PySem.Spec PyProof.Rows L2
/-! ### an own error that keeps one thing, and a try whose first clause names it -/
/-- what the first clause wishes: the error is its own -/
def wHit (K : PySem.W.Frag) (c : Value) (i : Nat) (ts : Addr → Value → Option Addr → TS) (D : Ends) : WX := fun cls d σ H => PySem.W.exmOne K cls c = some true ∧
  ∀ a, H a = none → ts a cls d ⟨fun σ' H' => D.nx (σ'.set i none) H', D.rt, fun σ' H' => D.bk (σ'.set i none) H', fun σ' H' => D.ct (σ'.set i none) H'⟩ (σ.set i (some (.ref a))) H
section
variable {X : Cx} {x n : Str} {c : Value} {i : Nat} {body suite : List Stmt} {hds : List ExceptHandler} {b₀ : Stmt} {np pos pos' : Pos} {tb : WX → TS} {ts : Addr → Value → Option Addr → TS} {pins : List (Addr × Obj)}
/-- what the body leaves, seen from outside the try -/
theorem flow_out {D : Ends} {xe : Value → Shared → Prop} (ok : X.Ok) {f : Flow} {s1 : Shared} (h : SP (X.tr (X.pn ++ pins) xe) [] D f s1) : SP X pins D f s1 := by
  cases f with
  | ret u => exact let ⟨v, σ', H', J, r, q⟩ := h; ⟨v, σ', H', J.ofTry ok, r, q⟩
  | next => exact let ⟨σ', H', J, q⟩ := h; ⟨σ', H', J.ofTry ok, q⟩
  | brk => exact let ⟨σ', H', J, q⟩ := h; ⟨σ', H', J.ofTry ok, q⟩
  | cont => exact let ⟨σ', H', J, q⟩ := h; ⟨σ', H', J.ofTry ok, q⟩
/-- an error that flies stands in no frame -/
theorem no_frame {B h : Heap} {l : List Env} {a : Addr} {o : Obj} {vs : Array Value} (ff : h.FunFrames B l) (e : h.get? a = some o) (hd : o.data = .fields vs) : a ∉ frs l := fun hm => by
  obtain ⟨_, o2, e2, no⟩ := ff.mem hm
  have : o2 = o := Option.some.inj (e2.symm.trans e)
  exact no vs (this ▸ hd)
/-- the first clause's test -/
theorem names_it {a : Addr} {o : Obj} {σ : L2.St} {H : Hp} {s : Shared} {Q : Value → Shared → Prop} {E : Value → Shared → Prop} (hc : Names X x c) (S : Inv (X.suite a ((a, o) :: (X.pn ++ pins))) [] σ H s) (q : Q c s) :
    wpAny (model X.prog X.w) (X.A.mark (some (.ref a))) (eval (.Name x np) X.env) Q E s := by
  rcases hc with ⟨hg, hd, h | ⟨h1, h2, h3⟩⟩
  · exact ld_glob (X := Cx.suite X a ((a, o) :: (X.pn ++ pins))) S hg h q hd
  · exact ld_blt (X := Cx.suite X a ((a, o) :: (X.pn ++ pins))) S hg h1 h2 q h3 hd
end

/-! ### an own error class C: __init__(self, f): self.f = f -/
/-- what __init__ does of a fresh error -/
def spKeep (f : Str) (C : Addr) : Sp := fun vs H Q _ => ∃ (a : Addr) (v : V), vs = [.ref a, v] ∧ H a = some (exo a C none) ∧ ∀ dx, H dx = none → dx ≠ a → Q .non (upd (upd H dx (exd dx [(f, v)])) a (exo a C (some dx)))
structure ErrC (K : PySem.W.Frag) (mg : Str → Option Value) (x f : Str) (C fI : Addr) (fd : FuncData) : Prop where
  g : mg x = some (.ref C)
  ox : OexC K C
  no : PySem.W.findIn K (.ref C) f = some none
  iC : PySem.W.findIn K (.ref C) "__init__" = some (some (.ref fI))
  tI : PySem.W.typeIn K (.ref fI) = some (.type "function")
  b : Binds K fd ["self", f] []
  xf : XfC K C
  ex : ExcC K C
  te : PySem.W.exmOne K (.ref C) (.ref C) = some true
section
variable {X : Cx} {x f : Str} {C fI : Addr} {fd : FuncData} {k : Nat} {e : Expr} {es : List Expr} {ta : TA} {p pos : Pos}
/-- C(e), to be raised -/
theorem pmk_err (T : ErrC X.K X.mg x f C fI fd) (F1 : FnOk X.prog X.w X.K X.mg X.base CX0 k fI fd ["self", f] (spKeep f C)) (hr : Room (k + 1) X.A) (ha : PA X (e :: es) ta) (hg : Gl X x := by rfl) (hdb : (x == ("__debug__" : Str)) = false := by decide)
    (he : starEach (e :: es) X.env = (false, eval e X.env) :: starEach es X.env := by rfl) (hpl : (backTo pos (starEach es X.env)).any (·.1) = false := by rfl) : PMk X (.Call (.Name x p) (e :: es) [] pos) (tMkO C (spKeep f C) [] ta) :=
  pmk_oex T.ox T.iC T.tI F1 hr T.b .nil (fun _ _ _ _ _ _ _ z => z.elim) hg T.g ha hdb he hpl
/-- the end of its reading -/
theorem keep_end {H1 : Hp} {v : V} {Q : XK} (q : ∀ d H2, Same H1 H2 → H1 d = none → H2 d = some (.xd [(f, v)]) → Q (.ref C) (some d) H2) : ([v] : List V).length ≤ 1000 ∧ ∀ a, H1 a = none → spKeep f C (.ref a :: ([v] ++ [])) (upd H1 a (exo a C none))
    (fun v H2 => v = .non ∧ ∃ (d : Addr) (fs : List (Str × V)), H2 a = some (exo a C (some d)) ∧ H2 d = some (exd d fs) ∧ H1 d = none ∧ Q (.ref C) (some d) (upd (del H2 a) d (.xd fs))) (fun _ _ _ => False) := by
  refine ⟨by show 1 ≤ 1000; decide, fun a na => ⟨a, v, rfl, upd_same, fun dx nd ne => ⟨rfl, dx, [(f, v)], upd_same, ?_, ?_, ?_⟩⟩⟩
  · rw [upd_ne ne, upd_same]
  · rw [upd_ne ne] at nd
    exact nd
  · rw [upd_ne ne] at nd
    refine q dx _ (fun b o eb => ?_) nd upd_same
    have b1 : b ≠ dx := ne_of_none eb nd
    have b2 : b ≠ a := ne_of_none eb na
    rw [upd_ne b1, del_ne b2, upd_ne b2, upd_ne b1, upd_ne b2]
    exact eb
/-- isinstance(e, c), e the error in hand whose own dict is dd -/
def rIsEx (K : PySem.W.Frag) (D a dd : Addr) : List V → Hp → VK → Prop := fun xs H Q => ∃ (c : V) (cv : Value) (b : Bool) (fs : List (Str × V)), xs = [.ref a, c] ∧ (∀ u, RelV c u → u = cv) ∧ PySem.W.kitOne K (.ref D) cv = some b ∧ H dd = some (.xd fs) ∧ Q (.bl b) H
theorem call_isEx {a D : Addr} {o : Obj} {cls : Value} {d : Option Addr} {ps : List (Addr × Obj)} (T : ExcC X.K D) (hz : Zc cls d o) (hf : ∃ vs, o.data = .fields vs) :
    CallR (X.suite a ((a, o) :: ps)) (.builtin "isinstance") (fun xs H Q => ∃ dd, cls = .ref D ∧ d = some dd ∧ rIsEx X.K D a dd xs H Q) := by
  intro pins s σ H xs us Q I r h
  obtain ⟨dd, rfl, rfl, c, cv, b, fs, rfl, hcv, hk, hd, q⟩ := h
  obtain ⟨u1, u2, rfl, r1, r2⟩ := vals2 r
  obtain rfl := hcv u2 r2
  cases r1
  obtain ⟨ga, _⟩ := I.pin (a, o) (List.mem_append_left _ List.mem_cons_self)
  obtain ⟨vs, ef⟩ := hf
  obtain ⟨mA, hns, _⟩ := (show ObjOk X.prog X.w H s.heap dd (.xd fs) from I.hok dd _ hd)
  obtain ⟨od, ho, _⟩ := lookIn_ns hns
  have J : PySem.W.InstAt s.heap a o D (some od) := ⟨ga, hz.1, by unfold PySem.W.notCls; rw [ef], by rw [hz.2]; exact ho⟩
  have hc : (PySem.W.clsIn X.K D).isSome = true := by
    have := T.hd
    unfold PySem.W.hasDictIn at this
    cases e : PySem.W.clsIn X.K D with
    | none => rw [e] at this; cases this
    | some => rfl
  exact PySem.W.kia_one (PySem.W.kitx_exc hc T.hg T.hk T.hs T.ha T.hn T.ht T.hm) I.kIn J hk (fun z => nomatch z) fun tk => ⟨.bl b, H, I.kept (t' := tk) fun _ _ z => z, rfl, q⟩
end
end RK

namespace RK
open PySem PySem.Spec PyProof.Rows L2 HotX
/-! ### the end of a walk over a list or a tuple while an error is handled -/
section
variable {prog : Program} {w : World} {A : Around} {E : Value → Shared → Prop} {s : Shared}
theorem next_list_hot {it l x1 : Addr} {i : Nat} {items : Array Value} {Q : Option Value → Shared → Prop} (hot : HotAt A x1 s.heap) (ne : x1 ≠ it) (hit : s.heap.IsListIter it l i) (hl : s.heap.IsList l items) (hx : items[i]? = none)
    (hQ : ∀ h', (∀ b o, b ≠ it → s.heap.get? b = some o → h'.get? b = some o) → Q none { s with heap := h' }) : wpAny (model prog w) A (pyNext (.ref it)) Q E s := by
  obtain ⟨hh, o1, vs1, h1, d1, c1⟩ := hot
  obtain ⟨oi, gi, ci, di⟩ := id hit
  obtain ⟨ol, gl, _, nl, dl⟩ := hl
  unfold pyNext
  refine wpAny_bind (wpAny_attempt (wpAny_callSpecial?_slot (name := "__next__") hit.typeIs slot_listiter_next (wpAny_call_entry slot_listiter_next hit.typeIs entry_listiter_next ?_ (args_listiter_next _))))
  refine wpAny_bind (m := field (.ref it) 0) (wpAny_field gi di (x := .ref l) rfl ?_)
  refine (if_neg (Bool.false_ne_true : ¬ ((Value.ref l == Value.none) = true))).symm ▸ ?_
  refine wpAny_bind (m := field (.ref it) 1) (wpAny_field gi di (x := .int i 0) rfl (wpAny_bind (m := seqItems? (.ref l)) (wpAny_seqItems gl dl ?_)))
  simp only [Int.toNat_natCast, hx]
  refine wpAny_bind (wpAny_rule (wpAny_bind (wpAny_setField gi di (by simp) (wpAny_bind (m := newExc (.type "StopIteration") []) ?_))))
  simp only [newExc, newTuple]
  refine wpAny_bind (wpAny_newObj_type (wpAny_bind (m := firstArgMember _ _) (wpAny_of_eq (a := Value.none) (by first | rfl | (simp only [firstArgMember]; rfl)) (wpAny_newObj_type ?_ (by size_fits)))) (by size_fits))
  have k0 : ∀ b o, b ≠ it → s.heap.get? b = some o → (s.heap.update it (Obj.mapFields (·.setIfInBounds 0 Value.none))).get? b = some o := fun b o n e => by
    rw [Heap.get?_update_other _ _ (Ne.symm n)]; exact e
  have u1 := Heap.get?_push_of_some { cls := .type "tuple", data := .seq #[] } (k0 _ _ ne h1)
  refine raiseNew_hot ⟨hh, o1, vs1, Heap.get?_push_of_some _ u1, d1, c1⟩ (Nat.ne_of_lt (Heap.lt_size u1)) (Heap.get?_push_size _ rfl) rfl (by first | (simp; done) | (simp; omega)) (wpAny_bind (wpAny_isInstance (T := "StopIteration") (b := true) ⟨_, Heap.get?_update_self _ (Heap.get?_push_size _ rfl) rfl, rfl⟩ isSubtype_stop (wpAny_pure (hQ _ fun b o n e => ?_))))
  have u2 := Heap.get?_push_of_some { cls := .type "tuple", data := .seq #[] } (k0 _ _ n e)
  rw [Heap.get?_update_other _ _ (Nat.ne_of_gt (Heap.lt_size u2))]; exact Heap.get?_push_of_some _ u2
theorem next_tuple_hot {it l x1 : Addr} {i : Nat} {items : Array Value} {Q : Option Value → Shared → Prop} (hot : HotAt A x1 s.heap) (ne : x1 ≠ it) (hit : s.heap.IsTupleIter it l i) (hl : s.heap.IsTuple l items) (hx : items[i]? = none)
    (hQ : ∀ h', (∀ b o, b ≠ it → s.heap.get? b = some o → h'.get? b = some o) → Q none { s with heap := h' }) : wpAny (model prog w) A (pyNext (.ref it)) Q E s := by
  obtain ⟨hh, o1, vs1, h1, d1, c1⟩ := hot
  obtain ⟨oi, gi, ci, di⟩ := id hit
  obtain ⟨ol, gl, _, nl, dl⟩ := hl
  unfold pyNext
  refine wpAny_bind (wpAny_attempt (wpAny_callSpecial?_slot (name := "__next__") hit.typeIs F.slot_tuple_iterator_next (wpAny_call_entry F.slot_tuple_iterator_next hit.typeIs F.entry_tuple_iterator_next ?_ (F.args_tuple_iterator_next_1 _))))
  refine wpAny_bind (m := field (.ref it) 0) (wpAny_field gi di (x := .ref l) rfl ?_)
  refine (if_neg (Bool.false_ne_true : ¬ ((Value.ref l == Value.none) = true))).symm ▸ ?_
  refine wpAny_bind (m := field (.ref it) 1) (wpAny_field gi di (x := .int i 0) rfl (wpAny_bind (m := seqItems? (.ref l)) (wpAny_seqItems gl dl ?_)))
  simp only [Int.toNat_natCast, hx]
  refine wpAny_bind (wpAny_rule (wpAny_bind (wpAny_setField gi di (by simp) (wpAny_bind (m := newExc (.type "StopIteration") []) ?_))))
  simp only [newExc, newTuple]
  refine wpAny_bind (wpAny_newObj_type (wpAny_bind (m := firstArgMember _ _) (wpAny_of_eq (a := Value.none) (by first | rfl | (simp only [firstArgMember]; rfl)) (wpAny_newObj_type ?_ (by size_fits)))) (by size_fits))
  have k0 : ∀ b o, b ≠ it → s.heap.get? b = some o → (s.heap.update it (Obj.mapFields (·.setIfInBounds 0 Value.none))).get? b = some o := fun b o n e => by
    rw [Heap.get?_update_other _ _ (Ne.symm n)]; exact e
  have u1 := Heap.get?_push_of_some { cls := .type "tuple", data := .seq #[] } (k0 _ _ ne h1)
  refine raiseNew_hot ⟨hh, o1, vs1, Heap.get?_push_of_some _ u1, d1, c1⟩ (Nat.ne_of_lt (Heap.lt_size u1)) (Heap.get?_push_size _ rfl) rfl (by first | (simp; done) | (simp; omega)) (wpAny_bind (wpAny_isInstance (T := "StopIteration") (b := true) ⟨_, Heap.get?_update_self _ (Heap.get?_push_size _ rfl) rfl, rfl⟩ isSubtype_stop (wpAny_pure (hQ _ fun b o n e => ?_))))
  have u2 := Heap.get?_push_of_some { cls := .type "tuple", data := .seq #[] } (k0 _ _ n e)
  rw [Heap.get?_update_other _ _ (Nat.ne_of_gt (Heap.lt_size u2))]; exact Heap.get?_push_of_some _ u2
end
/-! ### walks over lists and tuples there -/
section
variable {P : Program} {w : World} {K : PySem.W.Frag} {tg : Expr} (a it : Addr)
theorem turn_listH : L2H.TurnH P w K tg (Itl K a) [it] it (fun i h => h.IsListIter it a i) := by
  have T : Turn P w K tg (Itl K a) [it] it (fun i h => h.IsListIter it a i) := turn_list a it
  refine ⟨T.mem, T.obj, T.keep, ?_, ?_, T.self⟩
  · rintro X rfl rfl rfl - i pins s σ H E I hf st ⟨xs, x, hq, hx⟩
    obtain ⟨its, rv, pl, _⟩ := I.list hq
    obtain ⟨u, hu, ru⟩ := rv.get hx
    obtain ⟨g0, g1, g2, g3, g4, g5⟩ := hf it T.mem
    refine wpAny_pyNext_list_item st pl.isList (x := u) (by simpa using hu) fun h2 st2 sb => ⟨u, rfl, ?_⟩
    obtain ⟨o, eo, co, dd⟩ := id st2
    refine go_of (s := { s with heap := h2 }) eo co dd (by decide) ⟨x, H, I.turned (t' := s.toks) (fun b ob hb e => (sb.2 b hb).trans e) g0 g1 g3 g4 g5, ru, ⟨rfl, fun ys hy => ?_⟩, st2, fun b hb => (hf b hb).1⟩
    rw [I.list_inj hy hq, hx]
  · rintro X rfl rfl rfl hc i pins s σ H E I hf st ⟨xs, hq, hx⟩
    obtain ⟨its, rv, pl, _⟩ := I.list hq
    obtain ⟨g0, g1, g2, g3, g4, g5⟩ := hf it T.mem
    obtain ⟨p, ⟨hh, vs1, d1, c1⟩, hp⟩ := hc
    have P1 := I.pin p (List.mem_append_left _ hp)
    have hl := rv.length
    exact next_list_hot ⟨hh, p.2, vs1, P1.1, d1, c1⟩ (g5 p (List.mem_append_left _ hp)) st pl.isList (by simp; omega) fun h2 eb => ⟨rfl, I.turned (t' := s.toks) (fun b ob hb e => eb b ob hb e) g0 g1 g3 g4 g5⟩
theorem turn_tupleH : L2H.TurnH P w K tg (Itt K a) [it] it (fun i h => h.IsTupleIter it a i) := by
  have T : Turn P w K tg (Itt K a) [it] it (fun i h => h.IsTupleIter it a i) := turn_tuple a it
  refine ⟨T.mem, T.obj, T.keep, ?_, ?_, T.self⟩
  · rintro X rfl rfl rfl - i pins s σ H E I hf st ⟨xs, x, hq, hx⟩
    obtain ⟨its, rv, pl, _⟩ := I.tuple hq
    obtain ⟨u, hu, ru⟩ := rv.get hx
    obtain ⟨g0, g1, g2, g3, g4, g5⟩ := hf it T.mem
    refine wpAny_pyNext_tuple_item st (show s.heap.IsTuple a its.toArray from pl) (x := u) (by simpa using hu) fun h2 st2 sb => ⟨u, rfl, ?_⟩
    obtain ⟨o, eo, co, dd⟩ := id st2
    refine go_of (s := { s with heap := h2 }) eo co dd (by decide) ⟨x, H, I.turned (t' := s.toks) (fun b ob hb e => (sb.2 b hb).trans e) g0 g1 g3 g4 g5, ru, ⟨rfl, fun ys hy => ?_⟩, st2, fun b hb => (hf b hb).1⟩
    rw [I.tuple_inj hy hq, hx]
  · rintro X rfl rfl rfl hc i pins s σ H E I hf st ⟨xs, hq, hx⟩
    obtain ⟨its, rv, pl, _⟩ := I.tuple hq
    obtain ⟨g0, g1, g2, g3, g4, g5⟩ := hf it T.mem
    obtain ⟨p, ⟨hh, vs1, d1, c1⟩, hp⟩ := hc
    have P1 := I.pin p (List.mem_append_left _ hp)
    have hl := rv.length
    exact next_tuple_hot ⟨hh, p.2, vs1, P1.1, d1, c1⟩ (g5 p (List.mem_append_left _ hp)) st (show s.heap.IsTuple a its.toArray from pl) (by simp; omega) fun h2 eb => ⟨rfl, I.turned (t' := s.toks) (fun b ob hb e => eb b ob hb e) g0 g1 g3 g4 g5⟩
end
section
variable {X : Cx} {tg l : Expr} {tl : TE}
theorem pi_listH (hl : PE X l tl) : L2H.PIH X tg l (iList X.K tl) := by
  refine ⟨fun pins s σ H R I h => thn (hl.run pins s σ H _ I h) fun v s1 ⟨x, H1, I1, r1, a, ex, ⟨xs, hq⟩, q⟩ => ?_⟩
  subst ex; cases r1
  obtain ⟨its, rv, pl, _⟩ := I1.list hq
  refine wpAny_pyIter_list pl.isList ⟨s1.heap.objs.size, [s1.heap.objs.size], _, _, H1, rfl, I1.kept (t' := s1.toks) fun b o e => Heap.get?_push_of_some _ e, turn_listH a _, ⟨_, Heap.get?_push_size _ rfl, rfl, rfl⟩, fun b hb => ?_, q⟩
  rw [List.mem_singleton.mp hb]
  exact I1.fpOk (Nat.le_refl _) (I1.hok.fresh (Nat.le_refl _))
theorem pi_tupH (hl : PE X l tl) : L2H.PIH X tg l (iTup X.K tl) := by
  refine ⟨fun pins s σ H R I h => thn (hl.run pins s σ H _ I h) fun v s1 ⟨x, H1, I1, r1, a, ex, ⟨xs, hq⟩, q⟩ => ?_⟩
  subst ex; cases r1
  obtain ⟨its, rv, pl, _⟩ := I1.tuple hq
  refine wpAny_pyIter_tuple (show s1.heap.IsTuple a its.toArray from pl) ⟨s1.heap.objs.size, [s1.heap.objs.size], _, _, H1, rfl, I1.kept (t' := s1.toks) fun b o e => Heap.get?_push_of_some _ e, turn_tupleH a _, ⟨_, Heap.get?_push_size _ rfl, rfl, rfl⟩, fun b hb => ?_, q⟩
  rw [List.mem_singleton.mp hb]
  exact I1.fpOk (Nat.le_refl _) (I1.hok.fresh (Nat.le_refl _))
theorem PIH_or {w1 w2 : TI} (h1 : L2H.PIH X tg l w1) (h2 : L2H.PIH X tg l w2) : L2H.PIH X tg l (fun σ H R => w1 σ H R ∨ w2 σ H R) :=
  ⟨fun pins s σ H R I h => h.elim (h1.run pins s σ H R I) (h2.run pins s σ H R I)⟩
end
/-! ### list comprehensions there: the block keeps the error that is handled among its pins -/
abbrev blkH (X : Cx) (s : Shared) (H : Hp) (scope : Scope) (ce : Env) (fp : List Addr) (p : Addr × Obj) : Cx := { X.blk s H scope ce fp with pn := [p] }
section
variable {X : Cx} {pins : List (Addr × Obj)} {s : Shared} {σ : L2.St} {H : Hp} {Q : VK} {elt tg iter : Expr} {ifs : List Expr} {scope : Scope} {own : List (Str × Nat)} {pos pos2 : Pos} {wi : TI} {g : TG} {tt : TT} {te : TE}
theorem okH {s3 : Shared} {ce : Env} {fp : List Addr} {p : Addr × Obj} (nc : X.calm = false) (ok : (X.blk s3 H scope ce fp).Ok) : (blkH X s3 H scope ce fp p).Ok :=
  ⟨ok.mod, ok.kind, ok.glob, ok.blt, ok.above, ok.inj, ok.has, ok.cab, fun z => absurd (nc.symm.trans z) Bool.false_ne_true, ok.frames, ok.stk, ok.exf, ok.bs, ok.bsz, ok.noex, ok.exfs, ok.funs, ok.frf⟩
theorem comp_hot {Qf : Value → Shared → Prop} (nc : X.calm = false) {p : Addr × Obj} (hot : L2H.Hot1 X.A p) (hp : p ∈ X.pn) (hN : X.N.Nodup) (I : Inv X pins σ H s) (hi : L2H.PIH X tg iter wi) (ok : BlkOk X.N X.env.scope scope own)
    (hg : ∀ s H C cl fp, PG (blkH X s H scope (compEnvC scope cl C X.env) fp p) tg g) (ht : ∀ s H C cl fp, PTs (blkH X s H scope (compEnvC scope cl C X.env) fp p) ifs tt)
    (he : ∀ s H C cl fp, PE (blkH X s H scope (compEnvC scope cl C X.env) fp p) elt te) (hs : ∀ x, foldedSetIterable iter X.env x = pure x) (h : tLc wi g tt te (own.map (·.2)) σ H Q)
    (hR : ∀ D C s' m H', Inv X pins σ H' s' → Q (.ref D) H' → s'.heap.Ns C m → FpOk X pins H' C → compPost (model X.prog X.w) X.A X.xe none Qf (.ref D) C (.ok .next) s') :
    wpAny (model X.prog X.w) X.A (comprehension (.ListComp elt [⟨tg, iter, ifs, 0⟩] scope pos) scope X.env pos2 (newList []) false (eval iter X.env) none) Qf X.xe s := by
  have free : ∀ y ∈ scope.names, y.2 = .free → ∃ c, X.env.cells.lookup y.1 = some c := fun y hy e => I.ok.has _ (ok.free y hy e)
  refine wpAny_comprehension_free (use := none) rfl hs (closure_ok free) ok.kind (fun y hy e => (ok.uniq y hy).trans (congrArg some e)) (thn (hi.run pins s σ H _ I h) fun _ t1 hx => thn hx fun _ t2 ⟨it, fp, tn, J, H2, ei, I2, T, st2, f2, q⟩ => ?_)
  subst ei
  refine wpAny_newObj_type (newEnv_comp ?_) (Nat.zero_le _)
  have nD : H2 t2.heap.objs.size = none := I2.hok.fresh (Nat.le_refl _)
  obtain ⟨W, ⟨m0, w0⟩, turn⟩ := q _ nD
  generalize eD : t2.heap.objs.size = D at nD w0 turn ⊢
  generalize e3 : ({ t2 with heap := t2.heap.push { cls := .type "list", data := .seq ([] : List Value).toArray } } : Shared) = t3
  have hp3 : t3.heap = t2.heap.push { cls := .type "list", data := .seq ([] : List Value).toArray } := by rw [← e3]
  have I3 : Inv X pins σ (upd H2 D (.lst [])) t3 := by
    rw [← e3]
    exact I2.laid (t' := t2.toks) (fun b o e => Heap.get?_push_of_some _ e) (Nat.le_of_eq eD) ⟨Nat.zero_le _, [], 0, .nil, by rw [← eD]; exact Heap.get?_push_size _ rfl⟩
  have f3 : ∀ b ∈ fp, FpOk X pins (upd H2 D (.lst [])) b ∧ b < t3.heap.objs.size := fun b hb => by
    obtain ⟨o, eo, _⟩ := T.obj _ _ st2 b hb
    have lt : b < D := by rw [← eD]; exact Heap.lt_size eo
    exact ⟨⟨(upd_ne (Nat.ne_of_lt lt)).trans (f2 b hb).1, (f2 b hb).2⟩, by rw [hp3, Heap.size_push, eD]; exact Nat.lt_succ_of_lt lt⟩
  have I4 := block_start I3 ok hN f3
  have P3 := I3.pin p (List.mem_append_left _ hp)
  have pS : p.1 ∉ frs X.stack := fun hm => (List.mem_cons.mp (I3.stkSub p.1 hm)).elim P3.2.2.1 P3.2.2.2.1
  have pg := hg t3 (upd H2 D (.lst [])) t3.heap.objs.size (cellsFrom (t3.heap.objs.size + 1) scope.names (cloFrom X.env.cells scope.names [])) fp
  have pt := ht t3 (upd H2 D (.lst [])) t3.heap.objs.size (cellsFrom (t3.heap.objs.size + 1) scope.names (cloFrom X.env.cells scope.names [])) fp
  have pe := he t3 (upd H2 D (.lst [])) t3.heap.objs.size (cellsFrom (t3.heap.objs.size + 1) scope.names (cloFrom X.env.cells scope.names [])) fp
  show codeAny _ _ (.compStart _ 0 (.ref it) (.ref D) (compEnvC scope (cellsFrom (t3.heap.objs.size + 1) scope.names (cloFrom X.env.cells scope.names [])) t3.heap.objs.size X.env)) (compPost _ X.A X.xe none Qf (.ref D) t3.heap.objs.size) { t3 with heap := pushCells (t3.heap.push { cls := .type "dict", data := .dict #[] }) scope.names }
  have nfp : ∀ b ∈ fp, (upd H2 D (.lst [])) b = none := fun b hb => (f3 b hb).1.1
  generalize hce : compEnvC scope (cellsFrom (t3.heap.objs.size + 1) scope.names (cloFrom X.env.cells scope.names [])) t3.heap.objs.size X.env = ce at I4 pg pt pe ⊢
  have cL : ce.locals = t3.heap.objs.size := by rw [← hce]; rfl
  generalize hH3 : upd H2 D (.lst []) = H3 at I3 I4 P3 pg pt pe w0 nfp f3
  generalize hs4 : ({ t3 with heap := pushCells (t3.heap.push { cls := .type "dict", data := .dict #[] }) scope.names } : Shared) = t4 at I4 ⊢
  have k4 : ∀ b o, t3.heap.get? b = some o → t4.heap.get? b = some o := fun b o e => by rw [← hs4]; exact pushCells_keeps _ _ _ _ (Heap.get?_push_of_some _ e)
  have k3 : ∀ b o, t2.heap.get? b = some o → t4.heap.get? b = some o := fun b o e => k4 b o (by rw [hp3]; exact Heap.get?_push_of_some _ e)
  have st4 : tn 0 t4.heap := T.keep _ _ _ st2 fun b _ o e => k3 b o e
  have J4 : Inv (blkH X t3 H3 scope ce fp p) [] (wipe σ (own.map (·.2))) H3 t4 := ⟨okH nc I4.ok, I4.os, I4.bare, I4.base, I4.loc, I4.cell, I4.free, I4.freeC, fun r hr => by
    have er : r = p := by simpa using hr
    subst er
    exact ⟨k4 _ _ P3.1, P3.2.1, by rw [show (blkH X t3 H3 scope ce fp r).env.locals = t3.heap.objs.size from cL]; exact Nat.ne_of_lt (Heap.lt_size P3.1), pS, P3.2.2.2.2⟩, I4.hok, I4.len⟩
  have hc : L2H.HotC (blkH X t3 H3 scope ce fp p) := ⟨p, hot, List.mem_cons_self⟩
  have stat : ∀ {σ' : L2.St} {H' : Hp} {s' : Shared}, Inv (blkH X t3 H3 scope ce fp p) [] σ' H' s' → (∀ b ∈ fp, H' b = none) → ∀ b ∈ fp, FpOk (blkH X t3 H3 scope ce fp p) [] H' b := fun I' hn b hb =>
    ⟨hn b hb, (I'.ok.exf b hb).1, I'.ok.exfs b hb, .inl hb, (I'.ok.exf b hb).2, fun r hr => by
      have er : r = p := by simpa using hr
      rw [er]
      exact (f2 b hb).2.2.2.2.2 p (List.mem_append_left _ hp)⟩
  have loop : codeAny (model X.prog X.w) X.A (.compLoop (.ListComp elt [⟨tg, iter, ifs, 0⟩] scope pos) 0 (.ref it) (.ref D) ce) (compPost (model X.prog X.w) X.A X.xe none Qf (.ref D) t3.heap.objs.size) t4 := by
    refine compLoop_any (fun n s' => ∃ i H', Inv (blkH X t3 H3 scope ce fp p) [] (wipe σ (own.map (·.2))) H' s' ∧ tn i s'.heap ∧ (∀ b ∈ fp, H' b = none) ∧ W i n H') (fun n t5 ⟨i, H5, I5, st5, n5, w5⟩ => ?_) m0 ⟨0, H3, J4, st4, nfp, w0⟩
    rcases turn i n H5 w5 with ⟨stop, qq⟩ | ⟨go, Nx, hNx, step⟩
    · refine thnF (T.done (blkH X t3 H3 scope ce fp p) rfl rfl rfl hc i [] t5 _ H5 (fun _ _ => False) I5 (stat I5 n5) st5 stop) fun r t6 ⟨er, I6⟩ => ?_
      subst er
      have I7 : Inv X pins σ H5 t6 := I3.call' (ch := fp) I6.os I6.base I6.hok I6.bare fun b hb => ⟨(f3 b hb).1.2.2.2.1, (f3 b hb).1.2.1, (f3 b hb).1.2.2.2.2.1, (f3 b hb).1.2.2.2.2.2⟩
      have nC : H5 t3.heap.objs.size = none := cL ▸ (I6.free : H5 ce.locals = none)
      obtain ⟨m, hn, _⟩ := I6.loc
      exact hR D _ t6 m H5 I7 qq (cL ▸ (hn : t6.heap.Ns ce.locals m)) (I3.fpOk (Nat.le_refl _) nC)
    · refine thnF (T.item (blkH X t3 H3 scope ce fp p) rfl rfl rfl hc i [] t5 _ H5 (fun _ _ => False) I5 (stat I5 n5) st5 go) fun r t6 ⟨u, er, h6⟩ => ?_
      subst er
      refine thnF h6 fun _ t7 ⟨x, H7, I7, r7, y7, st7, n7⟩ => thnF (pg.run _ t7 _ H7 x u _ (I7.pinned (stat I7 n7) (T.obj _ _ st7)) r7 (step x H7 y7)) fun _ t8 ⟨σ8, H8, I8, hw8, q8⟩ => thnF (pt.run _ t8 σ8 H8 _ I8 q8) fun b t9 ⟨H9, I9, q9⟩ => ?_
      have back : ∀ {s' : Shared} {H' : Hp}, Inv (blkH X t3 H3 scope ce fp p) ([] ++ pinsAt fp t7.heap) σ8 H' s' → Nx H' → ∃ m, m < n ∧ ∃ i H', Inv (blkH X t3 H3 scope ce fp p) [] (wipe σ (own.map (·.2))) H' s' ∧ tn i s'.heap ∧ (∀ b ∈ fp, H' b = none) ∧ W i m H' := fun {s' H'} I' nx => by
        obtain ⟨m', lt, w'⟩ := hNx H' nx
        have at_ : ∀ b ∈ fp, ∀ o, t7.heap.get? b = some o → s'.heap.get? b = some o ∧ H' b = none := fun b hb o e => ⟨(I'.pin (b, o) (.tail _ (mem_pinsAt hb e))).1, (I'.pin (b, o) (.tail _ (mem_pinsAt hb e))).2.1⟩
        refine ⟨m', lt, i + 1, H', (I'.unpinned (pins := [])).weak (by rw [← hw8, wipe_length]) (fun j v e => (wipe_some (hw8 ▸ e)).1), T.keep _ _ _ st7 fun b hb o e => (at_ b hb o e).1, fun b hb => ?_, w'⟩
        exact let ⟨o, e, _⟩ := T.obj _ _ st7 b hb; (at_ b hb o e).2
      cases b with
      | false => exact back I9 q9
      | true => exact thnF (pe.run _ t9 σ8 H9 _ I9 q9) fun z t10 ⟨yv, H10, I10, r10, acc, d10, z10, nx⟩ => app_ok (X := blkH X t3 H3 scope ce fp p) I10 d10 z10 r10 fun t11 I11 => back I11 nx
  exact codeAny_compStart_list loop (T.self X.A 0 _ _ _ st4 loop)
theorem pe_lcH (nc : X.calm = false) {p : Addr × Obj} (hot : L2H.Hot1 X.A p) (hp : p ∈ X.pn) (hN : X.N.Nodup) (hi : L2H.PIH X tg iter wi) (ok : BlkOk X.N X.env.scope scope own)
    (hg : ∀ s H C cl fp, PG (blkH X s H scope (compEnvC scope cl C X.env) fp p) tg g) (ht : ∀ s H C cl fp, PTs (blkH X s H scope (compEnvC scope cl C X.env) fp p) ifs tt)
    (he : ∀ s H C cl fp, PE (blkH X s H scope (compEnvC scope cl C X.env) fp p) elt te) (hs : ∀ x, foldedSetIterable iter X.env x = pure x := by intro _; rfl) : PE X (.ListComp elt [⟨tg, iter, ifs, 0⟩] scope pos) (tLc wi g tt te (own.map (·.2))) := by
  refine ⟨fun pins s σ H Q I h => ?_⟩
  rw [eval_ListComp]
  exact comp_hot nc hot hp hN I hi ok hg ht he hs h fun D C s2 m H2 I2 q hn f => ⟨m, hn, fun h2 sb => ⟨.ref D, H2, I2.turned (t' := s2.toks) (fun b o hb e => (sb.2 b hb).trans e) f.1 f.2.1 f.2.2.2.1 f.2.2.2.2.1 f.2.2.2.2.2, rfl, q⟩⟩
end
/-! ### errors raised where nothing is handled, their context None -/
section
variable {X : Cx} {x f : Str} {C fI : Addr} {fd : FuncData} {k : Nat} {e : Expr} {ta : TA} {p pos : Pos}
theorem pmk_errN (T : ErrC X.K X.mg x f C fI fd) (F1 : FnOk X.prog X.w X.K X.mg X.base CX0 k fI fd ["self", f] (spKeep f C)) (hr : Room (k + 1) X.A) (ha : PA X [e] ta) (hg : Gl X x := by rfl) (hdb : (x == ("__debug__" : Str)) = false := by decide)
    (he : starEach [e] X.env = (false, eval e X.env) :: starEach [] X.env := by rfl) (hpl : (backTo pos (starEach [] X.env)).any (·.1) = false := by rfl) : L2N.PMk X (.Call (.Name x p) [e] [] pos) (tMkO C (spKeep f C) [] ta) := by
  intro pins s σ H Q I h
  obtain ⟨nm, q, N, bs, bm, sn, sub, ab, col, dd, k0, k1, k2, k3, k5, lkC, vbm⟩ := T.ox.cls
  refine wpAny_Call_Name_kw (ld_glob I hg T.g (PySem.W.callWith_K (h₀ := X.base) I.ok.mod.kin T.ox.kC (thn (ha.run pos pins s σ H _ I h) fun us s1 ⟨vs, H1, I1, r1, lv, q1⟩ => ⟨I1.kIn, ?_⟩) he hpl) hdb)
  obtain ⟨hp, g, dr, tk, os⟩ := s1
  generalize ea : hp.objs.size + 1 = a
  have ge : hp.objs.size ≤ a := by omega
  have hq := q1 a (I1.hok.fresh ge)
  have kk : ∀ b o, hp.get? b = some o → ((hp.push (PySem.W.kdv_tup us)).push (PySem.HandSPX.excO C hp.objs.size)).get? b = some o := fun b o z => Heap.get?_push_of_some _ (Heap.get?_push_of_some _ z)
  have ga : ((hp.push (PySem.W.kdv_tup us)).push (PySem.HandSPX.excO C hp.objs.size)).get? a = some (PySem.HandSPX.excO C hp.objs.size) := by rw [← ea]; heap_get
  have I2 : Inv X pins σ (upd H1 a (exo a C none)) ⟨(hp.push (PySem.W.kdv_tup us)).push (PySem.HandSPX.excO C hp.objs.size), g, dr, tk, os⟩ := I1.laid (t' := tk) (o := exo a C none) kk ge (exo_ok ga)
  have r2 : Vals (V.ref a :: (vs ++ [])) (Value.ref a :: (us ++ [])) := .cons rfl (r1.append .nil)
  have lu : us.length ≤ sizeLine := by
    have := Paired.length r1; have : (1000 : Nat) ≤ sizeLine := by decide
    omega
  have ll : (Value.ref a :: us ++ []).length = (["self", f] : List Str).length := (r2.length).symm.trans (F1.len _ _ _ _ hq)
  have bb := T.b ⟨(hp.push (PySem.W.kdv_tup us)).push (PySem.HandSPX.excO C hp.objs.size), g, dr, tk, os⟩ (Value.ref a :: us) I2.kIn ll
  subst ea
  refine wpAny_call (PySem.HandSPX.call_own F.excBase_ValueError (fun Y => PySem.HandSPX.refsVE_contains Y bm vbm) (I1.kIn _ _ lkC) (PySem.W.looks_findIn I1.kIn T.iC) (fun self => PySem.W.bind_fn I1.kIn self T.tI) lu
    (codeAny_mono (F1.run _ X.stack _ _ ⟨Value.ref _ :: us, []⟩ _ _ _ (fun _ _ _ => False) (hr.make C us []) (I2.env0.make C us []) bb r2 hq) fun r s2 z => ?_))
  match r, z with
  | .error _, z => exact False.elim z
  | .ok .next, z => exact False.elim z
  | .ok .brk, z => exact False.elim z
  | .ok .cont, z => exact False.elim z
  | .ok (.ret u), ⟨v, H2, os2, bare2, un2, hok2, rv, ev, d, fs, e1, e2, e3, q2⟩ =>
    subst ev
    obtain ⟨h2, g2, d2, t2, os3⟩ := s2
    obtain ⟨t0, G, J, kG, gn, go, na⟩ := mk_end0 (d2 := d2) (t2 := t2) I1 ge kk un2 hok2 os2 bare2 e1 e2 e3
    exact ⟨rv, _, _, _, ⟨G, g2, d2, t2, os3⟩, _, .ref C, some d, rfl, J, kG, gn, go, ⟨rfl, rfl, fun vs z => by cases z; rfl⟩, rfl, rfl, na, rfl, bare2, raises_own T.ox.exC T.ox.tyC, q2⟩
/-- a def that may raise so -/
theorem Fun.okN {P : Program} {w : World} {K : PySem.W.Frag} {mg : Str → Option Value} {base : Heap} {x qual : Str} {st : Stmt} {f : Addr} {fd : FuncData} {N ps : List Str} {k : Nat} {sp : Sp} (F : Fun K x qual st f fd) (S : FnScope N ps (defScope st))
    (len : ∀ vs H Q E, sp vs H Q E → vs.length = ps.length) (body : ∀ (cdv : Value) (A : Around) (outer : List Env) (s : Shared) (H : Hp) (vs : List V) (Q : VK) (E : XK), Room k (A.deeper (envOfC qual (defScope st) s.heap.objs.size f cdv)) → sp vs H Q E →
      ∃ t, PSs (cxOf (L2N.CX P w) P w K mg base N qual (defScope st) f cdv A outer s H E) (defBody st) t ∧ t { nx := fun _ H' => Q .non H', rt := Q } (start N vs) H) : FnOk P w K mg base (L2N.CX P w) (k + 1) f fd ps sp := by
  obtain ⟨oc, od, kV, doc, pm, an, cdv, ct, osl, rfl, lk, hcd⟩ := F.ex
  exact fn_of lk hcd S len fun A outer s H vs Q E hr z => body cdv A outer s H vs Q E hr z
/-- a def called while an error is handled -/
theorem Fun.okH {P : Program} {w : World} {K : PySem.W.Frag} {mg : Str → Option Value} {base : Heap} {x qual : Str} {st : Stmt} {f : Addr} {fd : FuncData} {N ps : List Str} {k : Nat} {sp : Sp} (F : Fun K x qual st f fd) (S : FnScope N ps (defScope st))
    (len : ∀ vs H Q E, sp vs H Q E → vs.length = ps.length) (body : ∀ (cdv : Value) (A : Around) (outer : List Env) (s : Shared) (H : Hp) (vs : List V) (Q : VK) (E : XK) (p : Addr × Obj), L2H.Hot1 A p → L2H.RoomH k (A.deeper (envOfC qual (defScope st) s.heap.objs.size f cdv)) → sp vs H Q E →
      ∃ t, PSs (L2H.cxH CX0 P w K mg base N qual (defScope st) f cdv A outer s H E p).nox (defBody st) t ∧ t { nx := fun _ H' => Q .non H', rt := Q } (start N vs) H) : L2H.FnH P w K mg base CX0 (k + 1) f fd ps sp := by
  obtain ⟨oc, od, kV, doc, pm, an, cdv, ct, osl, rfl, lk, hcd⟩ := F.ex
  refine L2H.fn_ofH lk hcd S len fun A outer s H vs Q E p hot hr z => ?_
  obtain ⟨t, h1, h2⟩ := body cdv A outer s H vs Q E p hot hr z
  exact ⟨t, h1.nox, h2⟩
end
section
variable {X : Cx} {x n : Str} {c : Value} {i : Nat} {body suite : List Stmt} {hds : List ExceptHandler} {b₀ : Stmt} {np pos pos' : Pos} {tb : WX → TS} {ts : Addr → Value → Option Addr → TS} {pins : List (Addr × Obj)}
theorem ps_try_hitN (st : X.stack = X.env :: X.outer) (fr : X.env.frame = some X.env.locals) (ndN : X.N.Nodup) (ni : X.N[i]? = some n) (nl : X.env.kindOf n = some .local) (nc : Names X x c)
    (hB : ∀ (W : WX) (ps : List (Addr × Obj)) (xe : Value → Shared → Prop), L2N.Takes (X.tr ps xe) W → PassesOwn (model X.prog X.w) X.A X.env xe → PSs (X.tr ps xe) body (tb W))
    (hS : ∀ (a : Addr) (o : Obj) (cls : Value) (d : Option Addr) (ps : List (Addr × Obj)), L2N.Zn cls d o → (∃ vs, o.data = .fields vs) → PSs (X.suite a ((a, o) :: ps)) (b₀ :: suite) (ts a cls d)) :
    PS X (.Try body (.ExceptHandler (some (.Name x np)) (some n) (b₀ :: suite) pos' :: hds) [] [] pos) (fun D σ H => tb (wHit X.K c i ts D) D σ H) := by
  refine ⟨fun pins s σ H D I h => wpAny_Try_except ?_⟩
  have fr2 : X.A.frames = some (X.env :: X.outer) := I.ok.frames.trans (congrArg some st)
  refine wpAny_mono ((hB _ (X.pn ++ pins) (fun e s₁ => wpAny (model X.prog X.w) X.A (noteFrame e X.env) (fun _ s₂ => wpAny (model X.prog X.w) X.A (setFlight e none) (fun _ s₃ => wpAny (model X.prog X.w) X.A
    (handleBy e X.env (.ExceptHandler (some (.Name x np)) (some n) (b₀ :: suite) pos' :: hds)) (SP X pins D) X.xe s₃) X.xe s₂) X.xe s₁) (fun u t xx => ?_) PassesOwn.looking).run [] s σ H D (I.toTry _) h) (fun f t q => ?_) (fun _ _ z => z)
  case refine_2 =>
    have q' := flow_out (pins := pins) I.ok q
    cases f with
    | next => exact wpAny_execs_nil q'
    | _ => exact q'
  obtain ⟨a, B, t0, ps, σ1, H1, cls, d, eu, J0, nB, u1, sk, na, eo, bare, hit, go⟩ := xx
  subst eu
  have J := J0.ofTry I.ok
  rw [show (X.tr (X.pn ++ pins) _).stack = X.env :: X.outer from st] at sk
  refine L2N.Sky.land L2N.Zn.steady fr2 fr sk fun h3 f3 u3 => ?_
  have J3 : Inv X pins σ1 H1 { t with heap := h3 } := J.landed nB f3.1 (u1.trans u3) eo bare
  obtain ⟨o3, v3, g3, z3, d3⟩ := f3.there
  have out := no_frame f3.2.2.1 g3 d3
  have aL : a ≠ X.env.locals := fun e => out (List.mem_filterMap.mpr ⟨X.env, .head _, by rw [e]; exact fr⟩)
  have aF : a ∉ X.fs := fun m => out (by rw [show frs (X.env :: X.outer) = X.env.locals :: frs X.outer from List.filterMap_cons_some fr]; exact .tail _ m)
  refine wpAny_handleBy_cons (codeAny_handlers_test (names_it nc (J3.suite g3 d3 na aL aF) ?_)) (by intro z; cases z)
  refine (PySem.W.exm_one (M := model X.prog X.w) J3.kIn (fun _ _ _ _ k z => wpAny_typeOf_ref (k _ _ g3) (by rw [z3.1]; exact z)) hit).here ?_
  refine codeAny_handlers_suite_as (HandSPX.lands_againZ f3 fun h4 f4 u4 => ?_)
  have J4 : Inv X pins σ1 H1 { t with heap := h4 } := J.landed nB f4.1 ((u1.trans u3).trans u4) eo bare
  obtain ⟨o4, v4, g4, z4, d4⟩ := f4.there
  refine store_ok (X := Cx.suite X a ((a, o4) :: (X.pn ++ pins))) (v := .ref a) (J4.suite g4 d4 na aL aF) ndN ni (.inl nl) rfl (fun t5 S5 => ?_) (.inr nl)
  refine wpAny_mono ((hS a o4 cls d (X.pn ++ pins) z4 ⟨_, d4⟩).run [] t5 _ H1 _ S5 (go a na)) (fun f t6 q => ?_) (fun _ _ z => z.elim)
  cases f with
  | ret u => exact let ⟨v6, σ6, H6, S6, r6, q6⟩ := q; gone_ok (S6.unsuite I.ok) ndN ni nl fun t7 J7 => ⟨v6, _, H6, J7, r6, q6⟩
  | next => exact let ⟨σ6, H6, S6, q6⟩ := q; gone_ok (S6.unsuite I.ok) ndN ni nl fun t7 J7 => ⟨_, H6, J7, q6⟩
  | brk => exact let ⟨σ6, H6, S6, q6⟩ := q; gone_ok (S6.unsuite I.ok) ndN ni nl fun t7 J7 => ⟨_, H6, J7, q6⟩
  | cont => exact let ⟨σ6, H6, S6, q6⟩ := q; gone_ok (S6.unsuite I.ok) ndN ni nl fun t7 J7 => ⟨_, H6, J7, q6⟩
/-- the suite's context bears the error -/
theorem hot_suite {a : Addr} {o : Obj} {cls : Value} {d : Option Addr} {ps : List (Addr × Obj)} (z : L2N.Zn cls d o) (h : ∃ vs, o.data = .fields vs) : L2H.HotC (X.suite a ((a, o) :: ps)) :=
  let ⟨vs, e⟩ := h
  ⟨(a, o), ⟨rfl, vs, e, z.2.2 vs e⟩, List.mem_cons_self⟩
theorem passN : Passes (L2N.CX X.prog X.w) X E0 := fun _ _ _ _ _ _ _ h => let ⟨_, _, _, _, _, _, _, _, _, _, _, _, z⟩ := h; z.elim
/-- nothing leaves a suite -/
theorem pass_at0 {σ : L2.St} : PassesAt CX0 X σ (fun _ _ _ => False) := fun _ _ _ _ _ _ h => h.elim
end
theorem unitsH {k : Nat} {A : Around} (r : L2H.RoomH k A) : A.units + 64 < cLine := by
  have := r.un
  omega
end RK

namespace RK
open PySem PySem.Spec PyProof.Rows L2 PySem.Builtin.Str
/-! ### {n:04x} of a word -/
def hx (k : Nat) : Nat := if k < 10 then 48 + k else 87 + k
def hexd (n : Nat) : List Nat := [hx (n / 4096), hx (n / 256 % 16), hx (n / 16 % 16), hx (n % 16)]
theorem hx_char : ∀ k : _root_.Fin 16, (Nat.digitChar k.val).toNat = hx k.val := by decide +kernel
theorem tod16 {n : Nat} (h : n < 65536) : (Nat.toDigits 16 n).length ≤ 4 ∧ List.replicate (4 - (Nat.toDigits 16 n).length) 48 ++ (Nat.toDigits 16 n).map Char.toNat = hexd n := by
  have hc : ∀ k, k < 16 → (Nat.digitChar k).toNat = hx k := fun k hk => hx_char ⟨k, hk⟩
  have z : hx 0 = 48 := rfl
  have base : ∀ k, k < 16 → Nat.toDigits 16 k = [Nat.digitChar k] := fun k hk => Nat.toDigits_of_lt_base hk
  have step : ∀ k, 16 ≤ k → Nat.toDigits 16 k = Nat.toDigits 16 (k / 16) ++ [Nat.digitChar (k % 16)] := fun k hk => Nat.toDigits_of_base_le (by decide) hk
  unfold hexd
  by_cases h1 : n < 16
  · rw [base n h1, show n / 4096 = 0 by omega, show n / 256 % 16 = 0 by omega, show n / 16 % 16 = 0 by omega, show n % 16 = n by omega]
    refine ⟨show 1 ≤ 4 by decide, ?_⟩
    show List.replicate 3 48 ++ [(Nat.digitChar n).toNat] = _
    rw [hc n h1]
    rfl
  rw [step n (by omega)]
  by_cases h2 : n / 16 < 16
  · rw [base (n / 16) h2, show n / 4096 = 0 by omega, show n / 256 % 16 = 0 by omega, show n / 16 % 16 = n / 16 by omega]
    refine ⟨show 2 ≤ 4 by decide, ?_⟩
    show List.replicate 2 48 ++ [(Nat.digitChar (n / 16)).toNat, (Nat.digitChar (n % 16)).toNat] = _
    rw [hc _ h2, hc _ (Nat.mod_lt _ (by decide))]
    rfl
  rw [step (n / 16) (by omega)]
  by_cases h3 : n / 16 / 16 < 16
  · rw [base (n / 16 / 16) h3, show n / 4096 = 0 by omega, show n / 256 % 16 = n / 16 / 16 by omega]
    refine ⟨show 3 ≤ 4 by decide, ?_⟩
    show List.replicate 1 48 ++ [(Nat.digitChar (n / 16 / 16)).toNat, (Nat.digitChar (n / 16 % 16)).toNat, (Nat.digitChar (n % 16)).toNat] = _
    rw [hc _ h3, hc _ (Nat.mod_lt _ (by decide)), hc _ (Nat.mod_lt _ (by decide))]
    rfl
  rw [step (n / 16 / 16) (by omega), base (n / 16 / 16 / 16) (by omega), show n / 4096 = n / 16 / 16 / 16 by omega, show n / 256 = n / 16 / 16 by omega]
  refine ⟨show 4 ≤ 4 by decide, ?_⟩
  show List.replicate 0 48 ++ [(Nat.digitChar (n / 16 / 16 / 16)).toNat, (Nat.digitChar (n / 16 / 16 % 16)).toNat, (Nat.digitChar (n / 16 % 16)).toNat, (Nat.digitChar (n % 16)).toNat] = _
  rw [hc _ (by omega), hc _ (Nat.mod_lt _ (by decide)), hc _ (Nat.mod_lt _ (by decide)), hc _ (Nat.mod_lt _ (by decide))]
  rfl
section
variable {X : Cx}
open Builtin PySem.W Builtin.Float
abbrev sp4 : Str := ⟨#[48, 52, 120]⟩
theorem ret_text2 {M : Model} {A : Around} {E : Value → Shared → Prop} {s : Shared} {X T : PySem.Str} {Q : Fin → Shared → Prop} (e : X = T) (hL : T.length ≤ sizeLine) (h : ∀ t k, Q (.done (.ret (.str T t))) { s with toks := k }) : wpAny M A (retStr X) Q E s := by
  subst e
  exact KXf.ret_text rfl hL h
def f4 : Builtin.Float.FormatSpec := { fill := 48, align := 61, width := some 4, type := some 120 }
theorem fmt4_meets {n : Nat} (h : n < 65536) (t u : Tok) : Meets («int.__format__» ⟨[.int (n : Int) t, .str sp4 u], []⟩) (fun _ R s => ∀ t' k, R (.ok (.ret (.str (sO (hexd n)) t'))) { s with toks := k }) := by
  apply KPc.meets_of
  intro prog w A s Q E hq
  unfold Builtin.«int.__format__»
  refine wpAny_bind (wpAny_of_eq (a := (_, _)) rfl ?_)
  refine wpAny_bind (wpAny_of_eq (a := _) rfl ?_)
  refine wpAny_ite (KPc.ite_no Bool.false_ne_true ?_)
  refine wpAny_bind (wpAny_typeNameOf (T := "str") (typeIs_str _ _ _) (by decide) fun _ => ?_)
  refine wpAny_bind (wpAny_of_eq (a := some _) rfl ?_)
  refine wpAny_ite (KPc.ite_no (by decide) ?_)
  refine wpAny_ite (KPc.ite_no (by decide) ?_)
  refine wpAny_bind (wpAny_typeNameOfCut_int ?_)
  have hp : parseFormatSpec sp4.cps.toList "int" 62 = .ok f4 := rfl
  have hty : f4.type.getD (if (sp4.cps.back? == some 0) = true then 0 else 100) = 120 := rfl
  have h1 : f4.precision = none := rfl
  have h2 : f4.noNeg0 = false := rfl
  have h3 : f4.alt = false := rfl
  have h4 : f4.width = some 4 := rfl
  have h5 : f4.grouping = none := rfl
  have h6 : f4.sign = none := rfl
  have h7 : f4.fill = 48 := rfl
  have h8 : f4.align = 61 := rfl
  obtain ⟨f, hf⟩ : ∃ f, f = f4 := ⟨_, rfl⟩
  rw [← hf] at hp hty h1 h2 h3 h4
  simp only [hp, hty]
  rw [if_pos (by decide)]
  show wpAny _ _ (if _ then _ else _) _ _ _
  rw [if_neg (by simp [h1])]
  show wpAny _ _ (if _ then _ else _) _ _ _
  rw [if_neg (by simp [h2])]
  show wpAny _ _ (if _ then _ else _) _ _ _
  rw [if_neg (by decide)]
  show wpAny _ _ (if _ then _ else _) _ _ _
  rw [if_neg (by decide)]
  show wpAny _ _ (if _ then _ else _) _ _ _
  rw [if_neg (by simp [h4])]
  refine ret_text2 (T := sO (hexd n)) ?_ ?_ hq
  case refine_1 =>
    obtain ⟨hl, ht⟩ := tod16 h
    simp only [h3, Bool.false_eq_true, if_false, Int.natAbs_natCast, decide_eq_false (by omega : ¬ (n : Int) < 0), show ((120 : Nat) == 88) = false by decide, show ((16 : Nat) == 10) = false by decide]
    generalize Nat.toDigits 16 n = ds at hl ht
    subst hf
    conv => lhs; whnf
    simp only [h4, h5, h6, h7, h8, List.length_nil, Bool.false_eq_true, if_false, beq_self_eq_true, Bool.and_self, if_true]
    have e4 : ((4 : Nat) : Int) - (((0 : Nat) : Int) + ((0 : Nat) : Int) + ((0 : Nat) : Int)) = 4 := by decide
    rw [e4]
    clear h1 h2 h3 h4 h5 h6 h7 h8 hty hp hq
    cases ds with
    | nil =>
      show _ = sO (hexd n)
      rw [← ht]
      rfl
    | cons c r =>
      have hm : ((c :: r).map Char.toNat).length = (c :: r).length := List.length_map ..
      show (⟨(([] ++ [] ++ [] ++ List.replicate (4 - ((List.replicate (4 - ((c :: r).map Char.toNat).length) 48 ++ (c :: r).map Char.toNat).length : Int)).toNat 48 ++ (List.replicate (4 - ((c :: r).map Char.toNat).length) 48 ++ (c :: r).map Char.toNat)) ++ [] ++ []).toArray⟩ : Str) = _
      rw [hm, ht]
      rfl
  case refine_2 => exact Nat.le_trans (show 4 ≤ 100 by decide) (by decide)
/-- {e:04x} of a word -/
def tF4 (te : TE) : TE := fun σ H Q => te σ H fun x H1 => ∃ n : Nat, x = .int (n : Int) ∧ n < 65536 ∧ Q (.str (sO (hexd n))) H1
theorem pe_fmt4 {e spec : Expr} {te : TE} {pos : Pos} (he : PE X e te) (hs : PE X spec (tC (.str (Str.ofString "04x")))) : PE X (.FormattedValue e (-1) (some spec) pos) (tF4 te) := by
  refine ⟨fun pins s σ H Q I h => ?_⟩
  refine wpAny_FormattedValue_spec (thn (he.run pins s σ H _ I h) fun v s1 ⟨x, H1, I1, r1, q⟩ => ?_)
  obtain ⟨n, rfl, hn, q⟩ := q
  obtain ⟨t, rfl⟩ := r1
  refine thn (hs.run pins s1 σ H1 (fun x H2 => x = .str (Str.ofString "04x") ∧ Q (.str (sO (hexd n))) H2) I1 ⟨rfl, q⟩) fun u s2 ⟨y, H2, I2, r2, ey, q2⟩ => ?_
  subst ey
  obtain ⟨t2, rfl⟩ := r2
  refine ⟨_, _, rfl, KXf.field_int (spec' := sp4) (by decide +kernel) rfl (by decide) (fun u => fmt4_meets hn _ u) fun t' k => ⟨.str _, H2, I2.tok _, ⟨_, rfl⟩, q2⟩⟩
end
/-! digits -/
abbrev HXD : List Nat := (Str.ofString "0123456789abcdef").cps.toList
/-- a digit's value -/
def dv (c : Nat) : Nat := if c ≤ 57 then c - 48 else c - 87
theorem HXD_eq : HXD = (List.range 16).map hx := by decide +kernel
theorem hx_mem {k : Nat} (h : k < 16) : hx k ∈ HXD := by
  rw [HXD_eq]
  exact List.mem_map.mpr ⟨k, List.mem_range.mpr h, rfl⟩
theorem hxd_of {c : Nat} (h : c ∈ HXD) : ∃ k, k < 16 ∧ c = hx k := by
  rw [HXD_eq] at h
  obtain ⟨k, h1, h2⟩ := List.mem_map.mp h
  exact ⟨k, List.mem_range.mp h1, h2.symm⟩
theorem hx_dv : ∀ k : _root_.Fin 16, dv (hx k.val) = k.val := by decide +kernel
theorem hx_find : ∀ k : _root_.Fin 16, Txt.find (Str.ofString "0123456789abcdef") (sO [hx k.val]) = (k.val : Int) := by decide +kernel
theorem hx_occ : ∀ k : _root_.Fin 16, occurrences (Str.ofString "0123456789abcdef") (sO [hx k.val]) 0 (Str.ofString "0123456789abcdef").length 1 = [k.val] := by decide +kernel
theorem hx_at : ∀ k : _root_.Fin 16, (Str.ofString "0123456789abcdef").cps.toList[k.val]? = some (hx k.val) := by decide +kernel
theorem find_dv {c : Nat} (h : c ∈ HXD) : Txt.find (Str.ofString "0123456789abcdef") (sO [c]) = (dv c : Int) := by
  obtain ⟨k, hk, rfl⟩ := hxd_of h
  rw [hx_find ⟨k, hk⟩, hx_dv ⟨k, hk⟩]
theorem occ_dv {c : Nat} (h : c ∈ HXD) : occurrences (Str.ofString "0123456789abcdef") (sO [c]) 0 (Str.ofString "0123456789abcdef").length 1 = [dv c] := by
  obtain ⟨k, hk, rfl⟩ := hxd_of h
  rw [hx_occ ⟨k, hk⟩, hx_dv ⟨k, hk⟩]
/-- the first place that is no digit | the length, if it is no multiple of four -/
def fbad (l : List Nat) : Option Nat := match l.findIdx? (fun c => !decide (c ∈ HXD)) with
  | some i => some i
  | none => if l.length % 4 = 0 then none else some l.length
theorem fbad_at {l : List Nat} {i : Nat} (hi : i < l.length) (h : l.getD i 0 ∉ HXD) (hp : ∀ j, j < i → l.getD j 0 ∈ HXD) : fbad l = some i := by
  have e : l.findIdx? (fun c => !decide (c ∈ HXD)) = some i := by
    rw [List.findIdx?_eq_some_iff_getElem]
    refine ⟨hi, ?_, fun j hj => ?_⟩
    · rw [List.getD_eq_getElem?_getD, List.getElem?_eq_getElem hi] at h
      have h2 : l[i] ∉ HXD := h
      rw [decide_eq_false h2]
      rfl
    · have := hp j hj
      rw [List.getD_eq_getElem?_getD, List.getElem?_eq_getElem (by omega)] at this
      have h2 : l[j] ∈ HXD := this
      rw [decide_eq_true h2]
      decide
  unfold fbad
  rw [e]
theorem fbad_all {l : List Nat} (h : ∀ j, j < l.length → l.getD j 0 ∈ HXD) : fbad l = if l.length % 4 = 0 then none else some l.length := by
  have e : l.findIdx? (fun c => !decide (c ∈ HXD)) = none := by
    rw [List.findIdx?_eq_none_iff]
    intro c hc
    obtain ⟨j, hj, rfl⟩ := List.mem_iff_getElem.mp hc
    have := h j hj
    rw [List.getD_eq_getElem?_getD, List.getElem?_eq_getElem hj] at this
    have h2 : l[j] ∈ HXD := this
    rw [decide_eq_true h2]
    rfl
  unfold fbad
  rw [e]
theorem fbad_none {l : List Nat} (h : fbad l = none) : (∀ c ∈ l, c ∈ HXD) ∧ l.length % 4 = 0 := by
  unfold fbad at h
  cases e : l.findIdx? (fun c => !decide (c ∈ HXD)) with
  | some i => rw [e] at h; cases h
  | none =>
    rw [e] at h
    have h2 : (if l.length % 4 = 0 then none else some l.length) = none := h
    refine ⟨fun c hc => ?_, ?_⟩
    · have := List.findIdx?_eq_none_iff.mp e c hc
      apply Decidable.byContradiction
      intro z
      rw [decide_eq_false z] at this
      cases this
    · apply Decidable.byContradiction
      intro z
      rw [if_neg z] at h2
      cases h2
def val4 (l : List Nat) : Nat := l.foldl (fun a c => a * 16 + dv c) 0
theorem val4_app (l : List Nat) (c : Nat) : val4 (l ++ [c]) = val4 l * 16 + dv c := by
  unfold val4
  rw [List.foldl_append]
  rfl
/-- the words of a text of digits -/
def rdw (l : List Nat) : List Nat := (List.range (l.length / 4)).map fun k => val4 ((l.drop (4 * k)).take 4)
theorem val4_hexd {w : Nat} (h : w ≤ 65535) : val4 (hexd w) = w := by
  have e : ∀ k, k < 16 → dv (hx k) = k := fun k hk => hx_dv ⟨k, hk⟩
  show (((0 * 16 + dv (hx (w / 4096))) * 16 + dv (hx (w / 256 % 16))) * 16 + dv (hx (w / 16 % 16))) * 16 + dv (hx (w % 16)) = w
  rw [e _ (by omega), e _ (by omega), e _ (by omega), e _ (by omega)]
  omega
theorem flat_hexd (ws : List Nat) : (ws.flatMap hexd).length = 4 * ws.length := by
  induction ws with
  | nil => rfl
  | cons x r ih =>
    rw [List.flatMap_cons, List.length_append, ih, List.length_cons]
    show 4 + _ = _
    omega
theorem rdw_flat {ws : List Nat} (h : ∀ w ∈ ws, w ≤ 65535) : rdw (ws.flatMap hexd) = ws := by
  unfold rdw
  rw [flat_hexd, show 4 * ws.length / 4 = ws.length by omega]
  apply List.ext_getElem?
  intro i
  by_cases hi : i < ws.length
  · rw [List.getElem?_map, List.getElem?_range hi]
    have e : ∀ (ws : List Nat) (i : Nat), i < ws.length → ((ws.flatMap hexd).drop (4 * i)).take 4 = hexd (ws.getD i 0) := fun ws => by
      induction ws with
      | nil => intro i hi; exact absurd hi (Nat.not_lt_zero _)
      | cons x r ih =>
        intro i hi
        cases i with
        | zero => rfl
        | succ i =>
          rw [List.flatMap_cons, show 4 * (i + 1) = 4 * i + 4 by omega]
          have := ih i (by simpa using hi)
          show ((hexd x ++ _).drop (4 * i + 4)).take 4 = _
          rw [show 4 * i + 4 = (hexd x).length + 4 * i from by show _ = 4 + 4 * i; omega, List.drop_length_add_append]
          exact this
    show some (val4 _) = _
    rw [e ws i hi, List.getD_eq_getElem?_getD, List.getElem?_eq_getElem hi]
    exact congrArg some (val4_hexd (h _ (List.getElem_mem hi)))
  · rw [List.getElem?_eq_none (by simp; omega), List.getElem?_eq_none (by omega)]
theorem fbad_flat {ws : List Nat} (hw : ∀ w ∈ ws, w ≤ 65535) : fbad (ws.flatMap hexd) = none := by
  have hm : ∀ c ∈ ws.flatMap hexd, c ∈ HXD := fun c hc => by
    obtain ⟨w, h1, h⟩ := List.mem_flatMap.mp hc
    have := hw w h1
    unfold hexd at h
    rcases List.mem_cons.mp h with z | h
    · rw [z]; exact hx_mem (by omega)
    rcases List.mem_cons.mp h with z | h
    · rw [z]; exact hx_mem (by omega)
    rcases List.mem_cons.mp h with z | h
    · rw [z]; exact hx_mem (by omega)
    rw [List.mem_singleton.mp h]
    exact hx_mem (by omega)
  rw [fbad_all fun j hj => by rw [List.getD_eq_getElem?_getD, List.getElem?_eq_getElem hj]; exact hm _ (List.getElem_mem hj), flat_hexd, if_pos (by omega)]
theorem cut_mid (l : List Nat) (a b : Nat) (h : a ≤ b) : cutS (sO l) (some (a : Int)) (some (b : Int)) = sO ((l.drop a).take (b - a)) := by
  show (⟨((l.drop (HT.sIx l.length 0 (some (a : Int)))).take (HT.sIx l.length l.length (some (b : Int)) - HT.sIx l.length 0 (some (a : Int)))).toArray⟩ : Str) = _
  rw [HT.sIx_nat, HT.sIx_nat]
  have e : (l.drop (min a l.length)).take (min b l.length - min a l.length) = (l.drop a).take (b - a) := by
    by_cases h1 : a ≤ l.length
    · rw [Nat.min_eq_left h1]
      by_cases h2 : b ≤ l.length
      · rw [Nat.min_eq_left h2]
      · rw [Nat.min_eq_right (by omega), List.take_of_length_le (by rw [List.length_drop]; omega), List.take_of_length_le (by rw [List.length_drop]; omega)]
    · have h3 : min a l.length = l.length := by omega
      rw [h3, List.drop_length, List.drop_of_length_le (by omega)]
      simp
  rw [e]
  rfl
end RK

namespace RK
open PySem PySem.Spec PyProof.Rows L2 PySem.Builtin.Str
/-! ### enumerate(text) -/
def Itse (x : Str) : It := ⟨fun i _ => i < x.cps.size, fun i H v H' => ∃ T c, v = .ref T ∧ H T = none ∧ H' = upd H T (.tup [.int (i : Nat), .str ⟨#[c]⟩]) ∧ x.cps[i]? = some c, fun i _ => x.cps.size ≤ i⟩
theorem draws_str {prog : Program} {w : World} {A : Around} (hh : A.handled = none) (it : Addr) (x : Str) (t : Tok) :
    Draws prog w A it [it] x.cps.size (fun i v => ∃ c u, x.cps[i]? = some c ∧ v = .str ⟨#[c]⟩ u) (fun i h => h.IsStrIter it (strIterType x) x t i) := by
  unfold strIterType
  cases x.cps.all (· < 128)
  · exact Draws.strWide hh it x t
  · exact Draws.strAscii hh it x t
theorem turn_enumS {P : Program} {w : World} {K : PySem.W.Frag} {elts : List Expr} {kk : Nat} {tpos : Pos} (x : Str) (t : Tok) (e it : Addr) :
    Turn P w K (.Tuple elts kk tpos) (Itse x) [e, it] e (fun i h => (∃ old, IsEnum h e it ((i : Nat) : Int) old) ∧ h.IsStrIter it (strIterType x) x t i ∧ e ≠ it ∧ i ≤ x.cps.size) where
  mem := by simp
  obj := fun i h st b hb => by
    obtain ⟨⟨old, he⟩, ⟨o, ho, hc, hd⟩, _⟩ := st
    have e' : b = e ∨ b = it := by simpa using hb
    rcases e' with z | z
    · rw [z]; exact ⟨_, he, fun v q => nomatch q⟩
    · rw [z]; exact ⟨o, ho, fun v q => by rw [hd] at q; cases q⟩
  keep := fun i h h' st k => let ⟨⟨old, he⟩, ⟨o, ho, r⟩, hne, hle⟩ := st; ⟨⟨old, k e (by simp) _ he⟩, ⟨o, k it (by simp) o ho, r⟩, hne, hle⟩
  item := by
    intro X hP hw hK hc i pins s σ H E I hf st hg
    subst hP hw hK
    obtain ⟨⟨old, he⟩, hit, hne, hle⟩ := st
    have hel : e < s.heap.objs.size := Heap.lt_size he
    have hil : it < s.heap.objs.size := by obtain ⟨_, q, _⟩ := hit; exact Heap.lt_size q
    have D := draws_str (A := X.A.in1) (prog := X.prog) (w := X.w) (show X.A.in1.handled = none from I.ok.hd hc) it x t
    refine wpAny_pyNext_enum_itemD D he hit hg hne (by simpa using hne) fun u h' tk hu ho hit' hT hsz hk => ?_
    obtain ⟨c, tc, hcx, rfl⟩ := hu
    refine ⟨_, rfl, wpAny_letOwnedTupleGo_enum (s := { s with heap := h', toks := tk + 1 }) ho fun h'' he' sb => ?_⟩
    have hT2 : h''.get? s.heap.objs.size = some { cls := .type "tuple", data := .seq #[.int i tk, .str ⟨#[c]⟩ tc] } := (sb.2 _ (Nat.ne_of_gt hel)).trans hT
    have new : ObjOk X.prog X.w (upd H s.heap.objs.size (.tup [.int (i : Nat), .str ⟨#[c]⟩])) h'' s.heap.objs.size (.tup [.int (i : Nat), .str ⟨#[c]⟩]) :=
      ⟨by show 2 ≤ sizeLine; decide, [.int i tk, .str ⟨#[c]⟩ tc], .cons ⟨_, rfl⟩ (.cons ⟨_, rfl⟩ .nil), ⟨_, hT2, rfl, _, rfl⟩⟩
    have I1 : Inv X pins σ (upd H s.heap.objs.size (.tup [.int (i : Nat), .str ⟨#[c]⟩])) { s with heap := h'', toks := tk + 1 } :=
      I.turnedNew (ch := [e, it]) (fun b ob hb q => (sb.2 b (fun z => hb (by simp [z]))).trans (hk b ob (fun z => hb (by simp [z])) (fun z => hb (by simp [z])) q)) hf (Nat.le_refl _) new
    refine ⟨.ref s.heap.objs.size, _, I1, rfl, ⟨_, c, rfl, I.hok.fresh (Nat.le_refl _), rfl, hcx⟩, ⟨⟨.str ⟨#[c]⟩ tc, ?_⟩, ?_, hne, hg⟩, fun b hb => ?_⟩
    · have e1 : ((i + 1 : Nat) : Int) = (i : Int) + 1 := by omega
      rw [e1]; exact he'
    · obtain ⟨o, ho2, r⟩ := hit'
      exact ⟨o, (sb.2 it (Ne.symm hne)).trans ho2, r⟩
    · have hb' : b < s.heap.objs.size := by
        have e' : b = e ∨ b = it := by simpa using hb
        rcases e' with z | z
        · rw [z]; exact hel
        · rw [z]; exact hil
      rw [upd_ne (Nat.ne_of_lt hb')]
      exact (hf b hb).1
  done := by
    intro X hP hw hK hc i pins s σ H E I hf st hg
    subst hP hw hK
    obtain ⟨⟨old, he⟩, hit, hne, hle⟩ := st
    obtain ⟨f0, f1, f2, f3, f4, f5⟩ := hf it (by simp)
    have ei : i = x.cps.size := Nat.le_antisymm hle hg
    have D := draws_str (A := X.A.in1) (prog := X.prog) (w := X.w) (show X.A.in1.handled = none from I.ok.hd hc) it x t
    subst ei
    exact wpAny_pyNext_enum_endD D he hit fun h' eb => ⟨rfl, I.turned (t' := s.toks) (fun b o hb q => eb b o hb q) f0 f1 f3 f4 f5⟩
  self := fun A i s Q E st h => let ⟨⟨_, he⟩, _⟩ := st; wpAny_pyIter_enum he h
/-- the text at each turn, each sign in a new pair -/
def iEnS (ta : TA) : TI := fun σ H R => ta σ H fun vs H1 => ∃ x, vs = [.str x] ∧ R (Itse x) H1
theorem pi_enumS {X : Cx} {e : Expr} {ta : TA} {p pos tpos : Pos} {elts : List Expr} {kk : Nat} (hg : Gl X "enumerate") (hm : X.mg "enumerate" = none) (ha : PA X [e] ta) (hs : starEach [e] X.env = [(false, eval e X.env)] := by rfl) :
    PI X (.Tuple elts kk tpos) (.Call (.Name "enumerate" p) [e] [] pos) (iEnS ta) := by
  refine ⟨fun pins s σ H R I h => ?_⟩
  refine Call_ (ld_blt I hg hm boot_enumerate (PyProof.Rows.callWith_type1 (thn (ha.run pos pins s σ H _ I h) fun us s1 ⟨vs, H1, I1, r1, q1⟩ => ?_) hs rfl))
  obtain ⟨x, ex, q⟩ := q1
  subst ex
  cases r1 with
  | cons r rr =>
    cases rr
    obtain ⟨t, rfl⟩ := r
    refine call_enumerate_str fun h' he hit hsz hk => wpAny_pyIter_enum he ?_
    have I2 : Inv X pins σ H1 { s1 with heap := h' } := I1.kept (t' := s1.toks) hk
    refine ⟨s1.heap.objs.size + 1, [s1.heap.objs.size + 1, s1.heap.objs.size], _, _, H1, rfl, I2, turn_enumS x t (s1.heap.objs.size + 1) s1.heap.objs.size, ⟨⟨.none, he⟩, hit, Nat.succ_ne_self _, Nat.zero_le _⟩, fun b hb => ?_, q⟩
    have e' : b = s1.heap.objs.size + 1 ∨ b = s1.heap.objs.size := by simpa using hb
    have hge : s1.heap.objs.size ≤ b := by
      rcases e' with z | z
      · rw [z]; omega
      · rw [z]; omega
    exact I1.fpOk hge (I1.hok.fresh hge)
theorem walk_enumS {x : Str} : Walk (Itse x) x.cps.size (fun _ => True) (fun i H v H' => ∃ T c, v = .ref T ∧ H T = none ∧ H' = upd H T (.tup [.int (i : Nat), .str ⟨#[c]⟩]) ∧ x.cps[i]? = some c) :=
  ⟨fun i H hi _ => hi, fun H _ => Nat.le_refl _, fun i H v H' _ _ y => y⟩
theorem rg4 {n : Nat} (h : n ≤ 10000) (hm : n % 4 = 0) : RgC 0 (n : Int) 4 (n / 4) := by
  have e : Builtin.Range.rangeSize 0 (n : Int) 4 = ((n / 4 : Nat) : Int) := by
    rw [rangeSize_pos (by decide) (by omega)]
    omega
  have fl : ∀ i : Int, -100000 ≤ i → i ≤ 100000 → Builtin.Range.rangeFitsLong i = true := fun i h1 h2 => by
    unfold Builtin.Range.rangeFitsLong
    rw [decide_eq_true (show -(2 ^ 63) ≤ i by omega), decide_eq_true (show i < 2 ^ 63 by omega)]
    rfl
  refine ⟨by decide, by decide, ?_, e⟩
  unfold Builtin.Range.small
  rw [e, fl 0 (by decide) (by decide), fl (n : Int) (by omega) (by omega), fl 4 (by decide) (by decide), fl _ (by omega) (by omega)]
  rw [if_pos (by decide), fl _ (by omega) (by omega), Bool.or_true]
  rfl
end RK

namespace RK
open PySem PySem.Spec PyProof.Rows L2 StX
/-! ### defs with *rest that may raise where nothing is handled -/
theorem cxUpN {P : Program} {w : World} : CXUp (L2N.CX P w) := by
  rintro outer s H s2 H2 E e s' un kp ho ⟨a, B, H', cls, d, ea, fl, hok, ub, na, os, ag, he⟩
  refine ⟨a, B, H', cls, d, ea, fl, hok, ⟨fun b o q n hb => ub.keep b o (kp b o q) (un.free b o q n (by simp)) hb, fun b o q hb => ub.slot b o (kp b o q) hb, fun b o q n => ub.free b o (kp b o q) (un.free b o q n (by simp)),
    fun b o q hb => ub.there b o (kp b o q) hb, fun b xs q => ub.tups b xs (un.tups b xs q), fun b o xs q => ub.frzs b o xs (un.frzs b o xs q), fun b ps q => ?_⟩, na, os.trans ho, ag, he⟩
  obtain ⟨m1, e1⟩ := un.tbls b ps q
  obtain ⟨m2, e2⟩ := ub.tbls b _ e1
  exact ⟨m1 ++ m2, by rw [e2, Array.append_assoc]⟩
section
variable {X : Cx} {CX : CXT} {k : Nat} {f : Addr} {sp : Sp} {x : Str} {e : Expr} {es : List Expr} {t : TA} {p pos : Pos} {E : L2.St → XK}
theorem run_fnRS {pins : List (Addr × Obj)} {σ : L2.St} {H : Hp} {s : Shared} {Q : VK} {us : List Value} {vs : List V} (F : FnR X.prog X.w X.K X.mg X.base CX k f sp) (hr : Room k X.A) (hx : PassesAt CX X σ (E σ))
    (I : Inv X pins σ H s) (r : Vals vs us) (h : sp vs H Q (E σ)) : wpAny (model X.prog X.w) X.A (call (.ref f) us) (EP X pins σ Q) X.xe s := by
  refine wpAny_call (codeAny_mono (F X.A X.stack s H us vs Q (E σ) hr I.env0 r h) fun r s' hq => ?_)
  cases r with
  | error e => exact hx pins H s e s' I hq
  | ok fl =>
    cases fl with
    | ret u => exact I.after hq
    | next => exact False.elim hq
    | brk => exact False.elim hq
    | cont => exact False.elim hq
theorem pe_callRS (F : FnR X.prog X.w X.K X.mg X.base CX k f sp) (hr : Room k X.A) (hg : Gl X x) (hm : X.mg x = some (.ref f)) (hk : PySem.W.keepIn X.K (.ref f) = true) (hx : ∀ σ, PassesAt CX X σ (E σ))
    (ha : PA X (e :: es) t) (hdb : (x == ("__debug__" : Str)) = false := by decide) (he : starEach (e :: es) X.env = (false, eval e X.env) :: starEach es X.env := by rfl) (hpl : (backTo pos (starEach es X.env)).any (·.1) = false := by rfl) :
    PE X (.Call (.Name x p) (e :: es) [] pos) (tCallS sp E t) := by
  refine ⟨fun pins s σ H Q I h => ?_⟩
  refine wpAny_Call_Name_kw (ld_glob I hg hm ?_ hdb)
  refine PySem.W.callWith_K (h₀ := X.base) I.ok.mod.kin hk (thn (ha.run pos pins s σ H _ I h) fun us s1 ⟨vs, H1, I1, r, q⟩ => ⟨I1.kIn, ?_⟩) he hpl
  exact run_fnRS F hr (hx σ) I1 r q
theorem passAtN {σ : L2.St} : PassesAt (L2N.CX X.prog X.w) X σ (fun _ _ _ => False) := fun _ _ _ _ _ _ h => let ⟨_, _, _, _, _, _, _, _, _, _, _, _, z⟩ := h; z.elim
end
/-- a def with *rest: its promise speaks of the bound names, the call's of all that is handed on -/
def spStar (n : Nat) (sp : Sp) : Sp := fun vs H Q E => ∃ ws rest, vs = ws ++ rest ∧ ws.length = n ∧ rest.length ≤ sizeLine ∧ ∀ p, H p = none → sp (ws ++ [V.ref p]) (upd H p (.tup rest)) Q E
theorem Fun.starN {P : Program} {w : World} {K : PySem.W.Frag} {mg : Str → Option Value} {base : Heap} {x qual pv : Str} {st : Stmt} {f : Addr} {fd : FuncData} {N ps : List Str} {k : Nat} {sp : Sp} (F : Fun K x qual st f fd) (S : FnScope N (ps ++ [pv]) (defScope st))
    (hb : ∀ us rest : List Value, us.length = ps.length → bindArgs fd ⟨us ++ rest, []⟩ = (newTuple rest >>= fun t => pure (ps.zip us ++ [(pv, t)])))
    (body : ∀ (cdv : Value) (A : Around) (outer : List Env) (s : Shared) (H : Hp) (vs : List V) (Q : VK) (E : XK), Room k (A.deeper (envOfC qual (defScope st) s.heap.objs.size f cdv)) → sp vs H Q E →
      ∃ t, PSs (cxOf (L2N.CX P w) P w K mg base N qual (defScope st) f cdv A outer s H E) (defBody st) t ∧ t { nx := fun _ H' => Q .non H', rt := Q } (start N vs) H) : FnR P w K mg base (L2N.CX P w) (k + 1) f (spStar ps.length sp) := by
  obtain ⟨oc, od, kV, doc, pm, an, cdv, ct, osl, rfl, lk, hcd⟩ := F.ex
  exact fn_star lk hcd S cxUpN hb fun A outer s H vs Q E hr z => body cdv A outer s H vs Q E hr z
section
variable {X : Cx}
/-- t.index(x), x a text, ahead of it texts and None -/
theorem mt_tupIdx : MtR X "tuple.index" (fun x xs H Q => ∃ p, ∃ ys : List V, ∃ z j, x = .ref p ∧ xs = [.str z] ∧ SqT X.K H p ys ∧ (∀ v ∈ ys, v = .non ∨ ∃ y, v = .str y) ∧ ys[j]? = some (.str z) ∧ (∀ m, m < j → ys[m]? ≠ some (.str z)) ∧ Q (.int (j : Nat)) H) := by
  intro pins s σ H x xs v us Q I rx rs h
  obtain ⟨p, ys, z, j, rfl, rfl, hq, hfl, hy, hno, q⟩ := h
  cases rx
  obtain ⟨u, rfl, t, rfl⟩ := vals1 rs
  obtain ⟨its, r, pl, hz⟩ := I.tuple hq
  obtain ⟨⟨cls, dd, dt, sl⟩, ho, hc, n, hd⟩ := pl
  simp only at hc hd
  subst hc
  subst hd
  have hl : its.toArray.size = ys.length := by rw [List.size_toArray, ← r.length]
  have hj : j < its.toArray.size := by rw [hl]; exact (List.getElem?_eq_some_iff.mp hy).1
  have at' : ∀ (m : Nat) (hm : m < its.toArray.size), (∃ y t', ys[m]? = some (.str y) ∧ its.toArray[m] = Value.str y t') ∨ (ys[m]? = some .non ∧ its.toArray[m] = Value.none) := fun m hm => by
    have hm' : m < ys.length := by rw [← hl]; exact hm
    have hg : ys[m]? = some ys[m] := List.getElem?_eq_getElem hm'
    obtain ⟨w, hw, hr⟩ := r.get hg
    have e := (List.getElem?_eq_some_iff.mp hw).2
    rcases hfl ys[m] (List.getElem_mem hm') with e2 | ⟨y, e2⟩
    · rw [e2] at hr hg
      refine .inr ⟨hg, ?_⟩
      have : w = Value.none := hr
      rw [← this, ← e]
      simp
    · rw [e2] at hr hg
      obtain ⟨t', hw'⟩ := hr
      refine .inl ⟨y, t', hg, ?_⟩
      rw [← hw', ← e]
      simp
  refine call_meets PySem.F.slot_tuple_index ⟨_, ho, rfl⟩ PySem.F.entry_tuple_index (PySem.F.args_tuple_index_2 _ _) (TI.tuple_indexAt p its.toArray n dd sl (.str z t) (eqU (.str z)) j hj ?_ ?_)
    ⟨ho, fun w hw => mem_eqAt (x := .str z) ⟨t, rfl⟩ rfl r ?_ w (by simpa using hw), ⟨.int (j : Nat), H, I.tok _, ⟨_, rfl⟩, q⟩⟩
  · rcases at' j hj with ⟨y, t', h1, h2⟩ | ⟨h1, h2⟩
    · rw [hy] at h1
      cases h1
      rw [h2]
      show (z == z) = true
      exact beq_self_eq_true z
    · rw [hy] at h1
      cases h1
  · intro m hm hmj
    rcases at' m hm with ⟨y, t', h1, h2⟩ | ⟨h1, h2⟩
    · rw [h2]
      show (y == z) = false
      exact beq_eq_false_iff_ne.mpr fun e => hno m hmj (by rw [h1, e])
    · rw [h2]
      rfl
  · rw [List.all_eq_true]
    intro v hv
    rcases hfl v hv with e | ⟨y, e⟩
    · rw [e]; rfl
    · rw [e]; rfl
end
/-- a tuple behind a tuple, whatever the two are -/
theorem catA_of {K : PySem.W.Frag} {H : Hp} {a b : Addr} {xs ys : List V} {Q : VK} (ha : SqT K H a xs) (hb : SqT K H b ys) (hl : xs.length + ys.length ≤ 100000) (q : ∀ p H', Same H H' → SqT K H' p (xs ++ ys) → Q (.ref p) H') : rCatA K (.ref a) (.ref b) H Q := by
  refine ⟨a, b, xs, ys, rfl, rfl, ha, hb, Nat.le_trans hl (lenOk (xs := List.replicate 100000 ()) (n := 100000) (List.length_replicate ..) (Nat.le_refl _) |> fun h => by rw [List.length_replicate] at h; exact h), fun e => q b H (Same.refl _) (by rw [e]; exact hb), fun _ e => q a H (Same.refl _) (by rw [e, List.append_nil]; exact ha), fun _ _ p hp => q p _ (same_new hp) (SqT.of upd_same)⟩
end RK

namespace RK
open PySem PySem.Spec PyProof.Rows L2
section
variable {J : It} {n : Nat} {G : Hp → Prop} {Y : Nat → Hp → V → Hp → Prop}
/-- a comprehension with one test, whose elements have a value each; the target is the name at k -/
theorem lc_filt (w : Walk J n G Y) {tt : TT} {te : TE} {σ : L2.St} {H1 : Hp} {D : Addr} {Qd : Hp → Prop} {k : Nat} (I : Nat → V → Prop) (c : Nat → Bool) (f : Nat → V) (hD : H1 D = none) (hG : ∀ H, Same H1 H → G H) (hn : n ≤ 1000000)
    (hY : ∀ i H x H', i < n → Y i H x H' → H' = H ∧ I i x)
    (ht : ∀ i x H, i < n → Same H1 H → I i x → ∀ Q : Bool → Hp → Prop, Q (c i) H → tt ((σ.set k none).set k (some x)) H Q)
    (hs : ∀ i x H, i < n → c i = true → Same H1 H → I i x → ∀ Q : VK, (∀ H3, Same H H3 → Q (f i) H3) → te ((σ.set k none).set k (some x)) H Q) (hd : ∀ H, Same H1 H → H D = some (.lst (((List.range n).filter c).map f)) → Qd H) :
    ∃ W : Nat → Nat → Hp → Prop, (∃ m, W 0 m (upd H1 D (.lst []))) ∧ ∀ i m H, W i m H →
      (J.stop i H ∧ Qd H) ∨ (J.go i H ∧ ∃ Nx : Hp → Prop, (∀ H', Nx H' → ∃ m', m' < m ∧ W (i + 1) m' H') ∧ ∀ x H', J.yld i H x H' → gName k x (wipe σ [k]) H' fun σ2 H2 => wipe σ2 [k] = wipe σ [k] ∧ tt σ2 H2 fun b H3 =>
        if b = true then te σ2 H3 fun y H4 => ∃ acc, H4 D = some (.lst acc) ∧ acc.length < sizeLine ∧ Nx (upd H4 D (.lst (acc ++ [y]))) else Nx H3) := by
  refine lc_it w (fun i H => Same H1 H ∧ H D = some (.lst (((List.range i).filter c).map f))) ⟨same_new hD, upd_same⟩ (fun i H _ h => hG H h.1) (fun i x H H' hi hp y => ?_) fun H h => hd H h.1 h.2
  obtain ⟨sm, e⟩ := hp
  obtain ⟨rfl, hx⟩ := hY i H x H' hi y
  refine ⟨?_, ?_⟩
  · show ((σ.set k none).set k (some x)).set k none = σ.set k none
    rw [List.set_set, List.set_set]
  show tt ((σ.set k none).set k (some x)) H' _
  refine ht i x H' hi sm hx _ ?_
  by_cases hc : c i = true
  · rw [if_pos hc]
    refine hs i x H' hi hc sm hx _ fun H3 s3 => ?_
    have e3 := s3 _ _ e
    refine ⟨_, e3, ?_, same_mut (sm.trans s3) hD, ?_⟩
    · rw [List.length_map]
      refine Nat.lt_of_le_of_lt (List.length_filter_le _ _) ?_
      rw [List.length_range]
      exact Nat.lt_of_lt_of_le (Nat.lt_of_lt_of_le hi hn) (by decide)
    · rw [upd_same, List.range_succ, List.filter_append, List.map_append]
      rw [show [i].filter c = [i] by simp only [List.filter, hc]]
      rfl
  · rw [if_neg hc]
    refine ⟨sm, ?_⟩
    rw [e, List.range_succ, List.filter_append, List.map_append]
    rw [show [i].filter c = [] by simp only [List.filter, hc]]
    rw [List.map_nil, List.append_nil]
end
end RK

namespace RK
open PySem PySem.Spec PyProof.Rows L2
/-! ### tuples where the rules know lists alone: xs.extend(t), sum(t), enumerate(t) -/
theorem meets_extendT (l b : Addr) (items items2 : Array Value) (n n2 : Nat) (dd : Option Addr) (sl : Array (Option Value)) (hz : items.size + items2.size ≤ sizeLine) :
    Meets (Builtin.«list.extend» ⟨[Value.ref l, Value.ref b], []⟩) fun x R s => s.heap.get? l = some { cls := Value.type "list", data := Data.seq items n } ∧
      s.heap.get? b = some { cls := Value.type "tuple", dict := dd, data := Data.seq items2 n2, slots := sl } ∧
      R (Except.ok (Flow.ret Value.none)) { s with heap := s.heap.update l (Obj.mapSeq fun x => x ++ items2) } := by
  refine Meets.of_wp fun prog w A R s h => ?_
  obtain ⟨hl, hb, h⟩ := h
  show wpAny _ _ (Builtin.List.listExtendWith (.ref l) (.ref b) .none) _ _ _
  unfold Builtin.List.listExtendWith
  refine wpAny_bind (wpAny_typeOf_ref hb ?_)
  refine wpAny_ite_true (by simp) ?_
  refine wpAny_bind ?_
  unfold Builtin.List.listItems
  refine wpAny_bind (wpAny_seqItems hb rfl (wpAny_pure ?_))
  refine wpAny_bind (wpAny_bind (wpAny_seqItems hl rfl (wpAny_pure ?_)))
  have hbig : Builtin.List.listTooLong (items.size + items2.size) = false := notLongL hz
  refine wpAny_ite_false (by rw [hbig, Bool.and_false]; rfl) ?_
  refine wpAny_bind ?_
  show wpAny _ _ (updateSeq l (fun x => x ++ items2)) _ _ _
  refine wpAny_updateSeq hl rfl (wpAny_pure ⟨_, rfl, h⟩) (by omega) (by rw [Array.size_append]; omega)
/-! enumerate over a tuple -/
theorem meets_enumerate_newT (l : Addr) (items : Array Value) (n : Nat) (dct : Option Addr) (sl : Array (Option Value)) :
    Meets (Builtin.«enumerate.__new__» ⟨[Value.type "enumerate", Value.ref l], []⟩) fun x R s => s.heap.get? l = some { cls := Value.type "tuple", dict := dct, data := Data.seq items n, slots := sl } ∧
      R (Except.ok (Flow.ret (Value.ref (s.heap.push { cls := Value.type "tuple_iterator", data := Data.fields #[Value.ref l, Value.int 0 0] }).objs.size)))
        { s with heap := (s.heap.push { cls := Value.type "tuple_iterator", data := Data.fields #[Value.ref l, Value.int 0 0] }).push { cls := Value.type "enumerate", data := Data.fields #[Value.none, Value.bool false, Value.ref s.heap.objs.size, rawInt 0, Value.none, Value.none] } } := by
  refine Meets.of_wp fun prog w A R s h => ?_
  obtain ⟨hl, h⟩ := h
  have hsub := sub_enumerate
  have hL : s.heap.IsTuple l items := ⟨_, hl, rfl, n, rfl⟩
  unfold Builtin.«enumerate.__new__»
  refine wpAny_bind ?_
  unfold Builtin.SmallTypes.newClass
  refine wpAny_bind (wpAny_pure (wpAny_ite_false rfl (wpAny_bind (wpAny_of_eq hsub (wpAny_ite_false rfl (wpAny_pure ?_))))))
  refine wpAny_ite_true rfl (wpAny_bind ?_)
  unfold Builtin.SmallTypes.calledThroughType
  refine wpAny_bind (wpAny_stack_any fun st => wpAny_pure ?_)
  have fin : wpAny (model prog w) A.in1 (pyIter (Value.ref l) >>= fun it => Builtin.SmallTypes.newRecord (Value.type "enumerate") (Builtin.SmallTypes.ownedTupleFields ++ [it, rawInt 0, Value.none, Value.none]) >>= fun v => ret v) (fun fin s' => ∃ v, fin = Fin.done (Flow.ret v) ∧ R (Except.ok (Flow.ret v)) s') (fun e s' => R (Except.error e) s') s := by
    refine wpAny_bind (wpAny_pyIter_tuple hL ?_)
    refine wpAny_bind ?_
    unfold Builtin.SmallTypes.newRecord
    show wpAny _ _ (newObj (Value.type "enumerate") (Data.fields #[Value.none, Value.bool false, Value.ref s.heap.objs.size, rawInt 0, Value.none, Value.none])) _ _ _
    exact wpAny_newObj_type (wpAny_pure ⟨_, rfl, h⟩) (by show 6 ≤ sizeLine + 2; decide)
  split
  · rename_i c tail kw snd tl heq
    generalize (c == Value.type "enumerate") = short
    cases short with
    | false =>
      refine wpAny_ite_false rfl (wpAny_bind (wpAny_of_eq (a := (Value.ref l, none)) rfl ?_))
      exact fin
    | true =>
      refine wpAny_ite_true rfl (wpAny_bind (wpAny_of_eq (a := (Value.ref l, none)) rfl ?_))
      exact fin
  · refine wpAny_ite_false rfl (wpAny_bind (wpAny_of_eq (a := (Value.ref l, none)) rfl ?_))
    exact fin
section
variable {prog : Program} {w : World} {A : Around} {E : Value → Shared → Prop} {s : Shared}
theorem nextOf_tup_item {it l : Addr} {i : Nat} {items : Array Value} {x : Value} {Q : Value → Shared → Prop} (hit : s.heap.IsTupleIter it l i) (hl : s.heap.IsTuple l items) (hx : items[i]? = some x)
    (hQ : ∀ h', h'.IsTupleIter it l (i + 1) → Heap.SameBut it s.heap h' → Q x { s with heap := h' }) : wpAny (model prog w) A (Builtin.SmallTypes.nextOf (Value.ref it)) Q E s := by
  obtain ⟨⟨oc, od, odt, osl⟩, gi, ci, di⟩ := id hit
  simp only at ci di
  subst ci
  subst di
  obtain ⟨ol, gl, _, nl, dl⟩ := hl
  unfold Builtin.SmallTypes.nextOf
  refine wpAny_bind (wpAny_callSpecial?_slot (name := "__next__") hit.typeIs F.slot_tuple_iterator_next (wpAny_call_entry F.slot_tuple_iterator_next hit.typeIs F.entry_tuple_iterator_next ?_ (F.args_tuple_iterator_next_1 _)))
  refine wpAny_bind (m := field (.ref it) 0) (wpAny_field gi rfl (x := .ref l) rfl ?_)
  refine (if_neg (Bool.false_ne_true : ¬ ((Value.ref l == Value.none) = true))).symm ▸ ?_
  refine wpAny_bind (m := field (.ref it) 1) (wpAny_field gi rfl (x := .int i 0) rfl (wpAny_bind (m := seqItems? (.ref l)) (wpAny_seqItems gl dl ?_)))
  simp only [Int.toNat_natCast, hx]
  refine wpAny_bind (wpAny_setField gi rfl (by simp) (wpAny_pure ⟨x, rfl, wpAny_pure (hQ _ ⟨_, Heap.get?_update_self _ gi rfl, rfl, rfl⟩ ⟨?_, fun b n => Heap.get?_update_other _ _ (Ne.symm n)⟩)⟩))
  exact Heap.size_update _ _ _
theorem nextOf_tup_end {it l : Addr} {i : Nat} {items : Array Value} {Q : Value → Shared → Prop} (hh : A.handled = none) (hit : s.heap.IsTupleIter it l i) (hl : s.heap.IsTuple l items) (hx : items[i]? = none)
    (hQ : ∀ (h' : Heap) (e : Addr), Heap.ExtBut it s.heap h' → (∃ o, h'.get? e = some o ∧ o.cls = Value.type "StopIteration") → E (Value.ref e) { s with heap := h' }) : wpAny (model prog w) A (Builtin.SmallTypes.nextOf (Value.ref it)) Q E s := by
  obtain ⟨oi, gi, ci, di⟩ := id hit
  obtain ⟨ol, gl, _, nl, dl⟩ := hl
  unfold Builtin.SmallTypes.nextOf
  refine wpAny_bind (wpAny_callSpecial?_slot (name := "__next__") hit.typeIs F.slot_tuple_iterator_next (wpAny_call_entry F.slot_tuple_iterator_next hit.typeIs F.entry_tuple_iterator_next ?_ (F.args_tuple_iterator_next_1 _)))
  refine wpAny_bind (m := field (.ref it) 0) (wpAny_field gi di (x := .ref l) rfl ?_)
  refine (if_neg (Bool.false_ne_true : ¬ ((Value.ref l == Value.none) = true))).symm ▸ ?_
  refine wpAny_bind (m := field (.ref it) 1) (wpAny_field gi di (x := .int i 0) rfl (wpAny_bind (m := seqItems? (.ref l)) (wpAny_seqItems gl dl ?_)))
  simp only [Int.toNat_natCast, hx]
  refine wpAny_bind (wpAny_rule (wpAny_bind (wpAny_setField gi di (by simp) ?_)))
  unfold Builtin.SmallTypes.stopIteration
  refine wpAny_bind (m := newExc (.type "StopIteration") []) ?_
  simp only [newExc, newTuple]
  refine wpAny_bind (wpAny_newObj_type (wpAny_bind (m := firstArgMember _ _) (wpAny_of_eq (a := Value.none) (by first | rfl | (simp only [firstArgMember]; rfl)) (wpAny_newObj_type ?_ (by size_fits)))) (by size_fits))
  unfold raiseNew
  refine wpAny_bind (wpAny_handled ?_)
  rw [show A.in1.handled = none from hh]
  refine wpAny_throw (hQ _ _ (fun b o n e => ?_) ⟨_, Heap.get?_push_size _ rfl, rfl⟩)
  refine Heap.get?_push_of_some _ (Heap.get?_push_of_some _ ?_)
  rw [Heap.get?_update_other _ _ (Ne.symm n)]
  exact e
theorem draws_tup (hh : A.handled = none) (it l : Addr) (ne : l ≠ it) (items : Array Value) :
    Draws prog w A it [it, l] items.size (fun i v => items[i]? = some v) fun i h => h.IsTupleIter it l i ∧ h.IsTuple l items := by
  refine ⟨fun i h st => let ⟨⟨o, g, _⟩, _⟩ := st; ⟨o, g⟩, fun i h h' st k => let ⟨⟨o, g, r⟩, ⟨o2, g2, r2⟩⟩ := st; ⟨⟨o, k it (by simp) o g, r⟩, ⟨o2, k l (by simp) o2 g2, r2⟩⟩, fun i s Q E hi st h => ?_, fun s Q E st h => ?_⟩
  · obtain ⟨h1, h2⟩ := st
    have hx : items[i]? = some items[i] := Array.getElem?_eq_getElem hi
    refine nextOf_tup_item h1 h2 hx fun h' st' sb => ?_
    obtain ⟨o2, g2, r2⟩ := h2
    exact h _ _ s.toks hx ⟨st', ⟨o2, (sb.2 l ne).trans g2, r2⟩⟩ sb
  · obtain ⟨h1, h2⟩ := st
    exact nextOf_tup_end hh h1 h2 (by simp) fun h' e eb he => h h' e eb he
theorem call_enumerate_tup {l : Addr} {items : Array Value} {Q : Value → Shared → Prop} (hL : s.heap.IsTuple l items)
    (h : ∀ h', IsEnum h' (s.heap.objs.size + 1) s.heap.objs.size 0 Value.none → h'.IsTupleIter s.heap.objs.size l 0 → h'.objs.size = s.heap.objs.size + 2 → (∀ b o, s.heap.get? b = some o → h'.get? b = some o) → Q (Value.ref (s.heap.objs.size + 1)) { s with heap := h' }) :
    wpAny (model prog w) A (call (Value.type "enumerate") [Value.ref l]) Q E s := by
  obtain ⟨⟨c, dct, dt, sl⟩, hl, hc, n, hd⟩ := hL
  simp only at hc hd
  subst hc
  subst hd
  have hz := Heap.size_push s.heap { cls := .type "tuple_iterator", data := Data.fields #[Value.ref l, Value.int 0 0] }
  refine callType_new F.called_enumerate (by decide) (F.typeCall_enumerate_1 (Value.ref l)) (F.newCall_enumerate_1 (Value.ref l)) (fun obj => F.args_object_init_2 obj (Value.ref l)) F.entry_enumerate_new (meets_enumerate_newT l items n dct sl) ⟨hl, ?_⟩
  have he := Heap.get?_push_size (s.heap.push { cls := Value.type "tuple_iterator", data := Data.fields #[Value.ref l, Value.int 0 0] }) (o := { cls := Value.type "enumerate", data := Data.fields #[Value.none, Value.bool false, Value.ref s.heap.objs.size, rawInt 0, Value.none, Value.none] }) rfl
  rw [hz] at he
  show Shared.TypeIs _ (Value.ref (Heap.objs _).size) "enumerate" ∧ Q (Value.ref (Heap.objs _).size) _
  rw [hz]
  refine ⟨⟨_, he, rfl⟩, h _ he ⟨_, Heap.get?_push_of_some _ (Heap.get?_push_size _ rfl), rfl, rfl⟩ ?_ fun b o e => Heap.get?_push_of_some _ (Heap.get?_push_of_some _ e)⟩
  rw [Heap.size_push, hz]
theorem draws_tup_end (hh : A.handled = none) (it l : Addr) (ne : l ≠ it) (items : Array Value) (i0 : Nat) (hx : items[i0]? = none) :
    Draws prog w A it [it, l] i0 (fun _ _ => False) fun i h => i = i0 ∧ h.IsTupleIter it l i ∧ h.IsTuple l items := by
  refine ⟨fun i h st => let ⟨_, ⟨o, g, _⟩, _⟩ := st; ⟨o, g⟩, fun i h h' st k => let ⟨e, ⟨o, g, r⟩, ⟨o2, g2, r2⟩⟩ := st; ⟨e, ⟨o, k it (by simp) o g, r⟩, ⟨o2, k l (by simp) o2 g2, r2⟩⟩, fun i s Q E hi st h => ?_, fun s Q E st h => ?_⟩
  · exact absurd st.1 (Nat.ne_of_lt hi)
  · obtain ⟨_, h1, h2⟩ := st
    exact nextOf_tup_end hh h1 h2 hx fun h' e eb he => h h' e eb he
end
def IteT (K : PySem.W.Frag) (a : Addr) : It := ⟨fun i H => ∃ xs x, SqT K H a xs ∧ xs[i]? = some x, fun i H v H' => ∃ T x, v = V.ref T ∧ H T = none ∧ H' = upd H T (.tup [.int (i : Nat), x]) ∧ ∀ xs, SqT K H a xs → xs[i]? = some x, fun i H => ∃ xs, SqT K H a xs ∧ xs.length ≤ i⟩
theorem tup_ne {h : Heap} {a it : Addr} {i : Nat} {items : Array Value} (hit : h.IsTupleIter it a i) (pl : h.IsTuple a items) : a ≠ it := fun z => by
  subst z
  obtain ⟨o, h1, c1, _⟩ := hit
  obtain ⟨o2, h2, c2, _⟩ := pl
  rw [h1] at h2
  cases h2
  rw [c1] at c2
  exact absurd c2 (by decide)
theorem enum_ne {h : Heap} {a e it : Addr} {i : Int} {old : Value} {items : Array Value} (he : IsEnum h e it i old) (pl : h.IsTuple a items) : e ≠ a := fun z => by
  subst z
  obtain ⟨o2, h2, c2, _⟩ := pl
  rw [show h.get? e = _ from he] at h2
  cases h2
  exact absurd (show Value.type "enumerate" = Value.type "tuple" from c2) (by decide)
theorem turn_enumT {P : Program} {w : World} {K : PySem.W.Frag} {elts : List Expr} {kk : Nat} {tpos : Pos} (a e it : Addr) :
    Turn P w K (.Tuple elts kk tpos) (IteT K a) [e, it] e (fun i h => (∃ old, IsEnum h e it ((i : Nat) : Int) old) ∧ h.IsTupleIter it a i ∧ e ≠ it) where
  mem := by simp
  obj := fun i h st b hb => by
    obtain ⟨⟨old, he⟩, ⟨o, ho, hc, hd⟩, _⟩ := st
    have e' : b = e ∨ b = it := by simpa using hb
    rcases e' with z | z
    · rw [z]; exact ⟨_, he, fun v q => nomatch q⟩
    · rw [z]; exact ⟨o, ho, fun v q => by rw [hd] at q; cases q⟩
  keep := fun i h h' st k => let ⟨⟨old, he⟩, ⟨o, ho, r⟩, hne⟩ := st; ⟨⟨old, k e (by simp) _ he⟩, ⟨o, k it (by simp) o ho, r⟩, hne⟩
  item := by
    intro X hP hw hK hc i pins s σ H E I hf st hg
    subst hP hw hK
    obtain ⟨⟨old, he⟩, hit, hne⟩ := st
    obtain ⟨xs, x, hq, hx⟩ := hg
    obtain ⟨its, rv, pl, _⟩ := I.tuple hq
    have pl' : s.heap.IsTuple a its.toArray := pl
    have hel : e < s.heap.objs.size := Heap.lt_size he
    have hil : it < s.heap.objs.size := by obtain ⟨_, q, _⟩ := hit; exact Heap.lt_size q
    have ne := tup_ne hit pl'
    have ne2 := enum_ne he pl'
    have D := draws_tup (A := X.A.in1) (prog := X.prog) (w := X.w) (show X.A.in1.handled = none from I.ok.hd hc) it a ne its.toArray
    have hlt : i < its.toArray.size := by
      rw [List.size_toArray, ← rv.length]
      exact (List.getElem?_eq_some_iff.mp hx).1
    obtain ⟨u0, hu0, ru⟩ := rv.get hx
    refine wpAny_pyNext_enum_itemD D he ⟨hit, pl'⟩ hlt hne (by simp [hne, ne2]) fun u h' tk hu ho hst hT hsz hk => ?_
    have eu : u = u0 := by
      have h1 : its[i]? = some u := by simpa using hu
      rw [hu0] at h1
      exact (Option.some.inj h1).symm
    subst eu
    obtain ⟨hit', pl2⟩ := hst
    refine ⟨_, rfl, wpAny_letOwnedTupleGo_enum (s := { s with heap := h', toks := tk + 1 }) ho fun h'' he' sb => ?_⟩
    have hT2 : h''.get? s.heap.objs.size = some { cls := .type "tuple", data := .seq #[.int i tk, u] } := (sb.2 _ (Nat.ne_of_gt hel)).trans hT
    have new : ObjOk X.prog X.w (upd H s.heap.objs.size (.tup [.int (i : Nat), x])) h'' s.heap.objs.size (.tup [.int (i : Nat), x]) :=
      ⟨by show 2 ≤ sizeLine; decide, [.int i tk, u], .cons ⟨_, rfl⟩ (.cons ru .nil), ⟨_, hT2, rfl, _, rfl⟩⟩
    have I1 : Inv X pins σ (upd H s.heap.objs.size (.tup [.int (i : Nat), x])) { s with heap := h'', toks := tk + 1 } :=
      I.turnedNew (ch := [e, it]) (fun b ob hb q => (sb.2 b (fun z => hb (by simp [z]))).trans (hk b ob (fun z => hb (by simp [z])) (fun z => hb (by simp [z])) q)) hf (Nat.le_refl _) new
    refine ⟨.ref s.heap.objs.size, _, I1, rfl, ⟨_, x, rfl, I.hok.fresh (Nat.le_refl _), rfl, fun ys hy => by rw [I.tuple_inj hy hq, hx]⟩, ⟨⟨u, ?_⟩, ?_, hne⟩, fun b hb => ?_⟩
    · have e1 : ((i + 1 : Nat) : Int) = (i : Int) + 1 := by omega
      rw [e1]; exact he'
    · obtain ⟨o, ho2, r⟩ := hit'
      exact ⟨o, (sb.2 it (Ne.symm hne)).trans ho2, r⟩
    · have hb' : b < s.heap.objs.size := by
        have e' : b = e ∨ b = it := by simpa using hb
        rcases e' with z | z
        · rw [z]; exact hel
        · rw [z]; exact hil
      rw [upd_ne (Nat.ne_of_lt hb')]
      exact (hf b hb).1
  done := by
    intro X hP hw hK hc i pins s σ H E I hf st hg
    subst hP hw hK
    obtain ⟨⟨old, he⟩, hit, hne⟩ := st
    obtain ⟨xs, hq, hx⟩ := hg
    obtain ⟨its, rv, pl, _⟩ := I.tuple hq
    have pl' : s.heap.IsTuple a its.toArray := pl
    obtain ⟨f0, f1, f2, f3, f4, f5⟩ := hf it (by simp)
    have D := draws_tup_end (A := X.A.in1) (prog := X.prog) (w := X.w) (show X.A.in1.handled = none from I.ok.hd hc) it a (tup_ne hit pl') its.toArray i (by
      have := rv.length
      simp
      omega)
    exact wpAny_pyNext_enum_endD D he ⟨rfl, hit, pl'⟩ fun h' eb => ⟨rfl, I.turned (t' := s.toks) (fun b o hb q => eb b o hb q) f0 f1 f3 f4 f5⟩
  self := fun A i s Q E st h => let ⟨⟨_, he⟩, _⟩ := st; wpAny_pyIter_enum he h
def iEnumT (K : PySem.W.Frag) (ta : TA) : TI := fun σ H R => ta σ H fun vs H1 => ∃ a xs, vs = [V.ref a] ∧ SqT K H1 a xs ∧ R (IteT K a) H1
theorem pi_enumT {X : Cx} {e : Expr} {ta : TA} {p pos tpos : Pos} {elts : List Expr} {kk : Nat} (hg : Gl X "enumerate") (hm : X.mg "enumerate" = none) (ha : PA X [e] ta) (hs : starEach [e] X.env = [(false, eval e X.env)] := by rfl) :
    PI X (.Tuple elts kk tpos) (.Call (.Name "enumerate" p) [e] [] pos) (iEnumT X.K ta) := by
  refine ⟨fun pins s σ H R I h => ?_⟩
  refine Call_ (ld_blt I hg hm boot_enumerate (PyProof.Rows.callWith_type1 (thn (ha.run pos pins s σ H _ I h) fun us s1 ⟨vs, H1, I1, r1, q1⟩ => ?_) hs rfl))
  obtain ⟨a, xs, ex, hq, q⟩ := q1
  subst ex
  cases r1 with
  | cons r rr =>
    cases rr
    cases r
    obtain ⟨its, rv, pl, _⟩ := I1.tuple hq
    refine call_enumerate_tup (show s1.heap.IsTuple a its.toArray from pl) fun h' he hit hsz hk => wpAny_pyIter_enum he ?_
    have I2 : Inv X pins σ H1 { s1 with heap := h' } := I1.kept (t' := s1.toks) hk
    refine ⟨s1.heap.objs.size + 1, [s1.heap.objs.size + 1, s1.heap.objs.size], _, _, H1, rfl, I2, turn_enumT a (s1.heap.objs.size + 1) s1.heap.objs.size, ⟨⟨.none, he⟩, hit, Nat.succ_ne_self _⟩, fun b hb => ?_, q⟩
    have e' : b = s1.heap.objs.size + 1 ∨ b = s1.heap.objs.size := by simpa using hb
    have hge : s1.heap.objs.size ≤ b := by
      rcases e' with z | z
      · rw [z]; omega
      · rw [z]; omega
    exact I1.fpOk hge (I1.hok.fresh hge)
theorem walk_enumT {K : PySem.W.Frag} {a : Addr} {xs : List V} : Walk (IteT K a) xs.length (fun H => SqT K H a xs) (fun i H v H' => ∃ T x, v = V.ref T ∧ H T = none ∧ H' = upd H T (.tup [.int (i : Nat), x]) ∧ xs[i]? = some x) :=
  ⟨fun i H hi h => ⟨xs, xs[i], h, List.getElem?_eq_getElem hi⟩, fun H h => ⟨xs, h, Nat.le_refl _⟩, fun i H v H' _ h y => let ⟨T, x, a, b, c, d⟩ := y; ⟨T, x, a, b, c, d xs h⟩⟩
section
variable {X : Cx}
def rExtendT (K : PySem.W.Frag) : V → List V → Hp → VK → Prop := fun x vs H Q => ∃ l b xs zs, x = .ref l ∧ vs = [.ref b] ∧ H l = some (.lst xs) ∧ SqT K H b zs ∧ xs.length + zs.length ≤ sizeLine ∧ Q .non (upd H l (.lst (xs ++ zs)))
theorem mt_extendT : MtR X "list.extend" (rExtendT X.K) := by
  intro pins s σ H x xs v us Q I rx rs h
  obtain ⟨l, b, ys, zs, rfl, rfl, hl, hb, hz, q⟩ := h
  cases rx
  obtain ⟨u, rfl, ru⟩ := rs.one
  cases ru
  obtain ⟨z1, its, n, r1, l1, e1⟩ := I.lstM hl
  obtain ⟨its2, r2, pl2, _⟩ := I.tuple hb
  obtain ⟨⟨cls, dd, dt, sl⟩, ho, hc, n2, hd⟩ := pl2
  simp only at hc hd
  subst hc
  subst hd
  have l2 := r2.length
  refine call_meets PySem.F.slot_list_extend ⟨_, e1, rfl⟩ PySem.F.entry_list_extend (PySem.F.args_list_extend_2 _ _) (meets_extendT l b its.toArray its2.toArray n n2 dd sl (by rw [List.size_toArray, List.size_toArray]; omega)) ⟨e1, ho, ?_⟩
  refine ⟨.non, upd H l (.lst (ys ++ zs)), ?_, rfl, q⟩
  exact I.lset (t' := s.toks) hl e1 (by simp) (r1.append r2) (by rw [List.length_append]; omega)
theorem ints_get : ∀ {vs : List Value} {ns : List Int} {i : Nat} {v : Value}, IntsAre vs ns → vs[i]? = some v → ∃ t, v = .int (ns.getD i 0) t
  | _, _, _, _, .nil, e => by simp at e
  | _, _, 0, _, .cons n t _, e => by
    simp at e
    exact ⟨t, e.symm⟩
  | _, _, i + 1, v, .cons n t r, e => by
    obtain ⟨t', e'⟩ := ints_get (i := i) (v := v) r (by simpa using e)
    exact ⟨t', by simpa using e'⟩
theorem preSum_getD : ∀ (ns : List Int) (m : Nat), m ≤ ns.length → preSum (fun i => ns.getD i 0) m = (ns.take m).sum := fun ns m => by
  induction m with
  | zero => intro _; rfl
  | succ m ih =>
    intro h
    show preSum _ m + ns.getD m 0 = _
    rw [ih (by omega), List.take_add_one, List.getElem?_eq_getElem (by omega), List.sum_append, List.getD_eq_getElem?_getD, List.getElem?_eq_getElem (by omega)]
    simp
def rSumT (K : PySem.W.Frag) : List V → Hp → VK → Prop := fun vs H Q => ∃ (a : Addr) (ns : List Int), vs = [V.ref a] ∧ SqT K H a (ns.map V.int) ∧ Q (.int ns.sum) H
theorem cr_sumT (hc : X.calm = true) : CallR X (.builtin "sum") (rSumT X.K) := by
  intro pins s σ H vs us Q I rv h
  obtain ⟨a, ns, rfl, ha, q⟩ := h
  obtain ⟨u, rfl, ru⟩ := rv.one
  cases ru
  obtain ⟨its, r, pl, _⟩ := I.tuple ha
  have hi := ints_of_vals r
  have hlen := r.length
  rw [List.length_map] at hlen
  have pl' : s.heap.IsTuple a its.toArray := pl
  have la : a < s.heap.objs.size := by obtain ⟨o, ho, _⟩ := pl'; exact Heap.lt_size ho
  refine call_sum_walkG (wpAny_pyIter_tuple pl' ?_)
  refine ⟨s.heap.objs.size, [s.heap.objs.size, a], [s.heap.objs.size], its.toArray.size, _, _, fun i => ns.getD i 0, rfl, Walks.tuple (by exact I.ok.hd hc) _ a (Nat.ne_of_lt la) its.toArray, ⟨⟨_, Heap.get?_push_size _ rfl, rfl, rfl⟩, ?_⟩, fun b hb => ?_, fun i v hv => ints_get (i := i) hi (by simpa using hv), fun h' tk t' k => ?_⟩
  · obtain ⟨o, ho, r⟩ := pl'
    exact ⟨o, Heap.get?_push_of_some _ ho, r⟩
  · rw [Heap.size_push]
    have e' : b = s.heap.objs.size ∨ b = a := by simpa using hb
    rcases e' with z | z
    · rw [z]; exact Nat.lt_succ_self _
    · rw [z]; exact Nat.lt_succ_of_lt la
  · refine ⟨.int ns.sum, H, ?_, ?_, q⟩
    · refine I.kept (t' := tk) fun b o e => k b o ?_ (Heap.get?_push_of_some _ e)
      have := Heap.lt_size e
      intro z
      have e' : b = s.heap.objs.size := by simpa using z
      exact absurd e' (Nat.ne_of_lt this)
    · rw [preSum_getD _ _ (by rw [List.size_toArray]; omega), List.size_toArray, ← hlen, List.take_length]
      exact ⟨_, rfl⟩
end
end RK

namespace PT
/-! things laid from an address, in natural numbers -/
def alN (e a : Nat) : Nat := (e + a - 1) / a * a
def lb (e : Nat) (t : Nat × Nat) : Nat := alN e t.2 + t.1
def numsN (m n : Nat) : List Nat := (List.range n).filter fun k => m / 2 ^ k % 2 == 1
theorem alN_mono {e e' a : Nat} (h : e ≤ e') : alN e a ≤ alN e' a := Nat.mul_le_mul_right _ (Nat.div_le_div_right (by omega))
theorem lb_mono {e e' : Nat} {t : Nat × Nat} (h : e ≤ e') : lb e t ≤ lb e' t := Nat.add_le_add_right (alN_mono h) _
/-! the least of a list -/
def minL : List Nat → Nat
  | [] => 0
  | [x] => x
  | x :: y :: r => min x (minL (y :: r))
theorem minL_le : ∀ {l : List Nat} {x : Nat}, x ∈ l → minL l ≤ x
  | [y], x, h => by rw [List.mem_singleton.mp h]; exact Nat.le_refl _
  | y :: z :: r, x, h => by
    show min y (minL (z :: r)) ≤ x
    rcases List.mem_cons.mp h with e | e
    · rw [e]; exact Nat.min_le_left _ _
    · exact Nat.le_trans (Nat.min_le_right _ _) (minL_le e)
theorem minL_mem : ∀ {l : List Nat}, l ≠ [] → minL l ∈ l
  | [], h => absurd rfl h
  | [y], _ => List.mem_cons_self
  | y :: z :: r, _ => by
    show min y (minL (z :: r)) ∈ _
    rcases Nat.le_total y (minL (z :: r)) with e | e
    · rw [Nat.min_eq_left e]; exact List.mem_cons_self
    · rw [Nat.min_eq_right e]; exact List.mem_cons_of_mem _ (minL_mem (by simp))
def th (ths : List (Nat × Nat)) (k : Nat) : Nat × Nat := ths.getD k (0, 1)
def endf (ths : List (Nat × Nat)) (s : Nat) (o : List Nat) : Nat := o.foldl (fun e k => lb e (th ths k)) s
/-- the least end of a set by its last thing -/
def Tn (ths : List (Nat × Nat)) (s : Nat) : Nat → List Nat → Nat
  | 0, _ => s
  | f + 1, ns => minL (ns.map fun k => lb (Tn ths s f (ns.erase k)) (th ths k))
def TT (ths : List (Nat × Nat)) (s : Nat) (ns : List Nat) : Nat := Tn ths s ns.length ns
section
variable {ths : List (Nat × Nat)} {s : Nat}
theorem endf_snoc {o : List Nat} {x : Nat} : endf ths s (o ++ [x]) = lb (endf ths s o) (th ths x) := by
  unfold endf
  rw [List.foldl_append]
  rfl
theorem TT_nil : TT ths s [] = s := rfl
theorem TT_ne {ns : List Nat} (h : ns ≠ []) : TT ths s ns = minL (ns.map fun k => lb (TT ths s (ns.erase k)) (th ths k)) := by
  unfold TT
  obtain ⟨f, hf⟩ : ∃ f, ns.length = f + 1 := ⟨ns.length - 1, by have := List.length_pos_iff.mpr h; omega⟩
  rw [hf]
  show minL _ = _
  congr 1
  apply List.map_congr_left
  intro k hk
  rw [List.length_erase_of_mem hk, hf]
  rfl
theorem TT_le0 : ∀ (f : Nat) {o ns : List Nat}, o.length = f → o.Perm ns → TT ths s ns ≤ endf ths s o
  | 0, o, ns, hl, h => by
    rw [List.length_eq_zero_iff.mp hl] at h ⊢
    rw [List.nil_perm.mp h]
    exact Nat.le_refl _
  | f + 1, o, ns, hl, h => by
    have ho : o ≠ [] := fun z => by rw [z] at hl; cases hl
    have hd := List.dropLast_concat_getLast ho
    have hdl : o.dropLast.length = f := by rw [List.length_dropLast, hl]; rfl
    rw [← hd] at h ⊢
    generalize o.dropLast = o' at h hdl ⊢
    generalize o.getLast ho = x at h ⊢
    have hx : x ∈ ns := h.mem_iff.mp (by simp)
    have hne : ns ≠ [] := fun z => by rw [z] at hx; cases hx
    rw [TT_ne hne, endf_snoc]
    have h2 : o'.Perm (ns.erase x) := by
      have h3 : (x :: o').Perm ns := (List.perm_append_singleton x o').symm.trans h
      have h4 := h3.erase x
      rwa [List.erase_cons_head] at h4
    exact Nat.le_trans (minL_le (List.mem_map.mpr ⟨x, hx, rfl⟩)) (lb_mono (TT_le0 f hdl h2))
theorem TT_le {o ns : List Nat} (h : o.Perm ns) : TT ths s ns ≤ endf ths s o := TT_le0 _ rfl h
theorem flat_congr {α β : Type} {f g : α → List β} {l : List α} (h : ∀ x ∈ l, f x = g x) : l.flatMap f = l.flatMap g := by
  rw [List.flatMap_def, List.flatMap_def, List.map_congr_left h]
theorem TT_ach : ∀ (f : Nat) (ns : List Nat), ns.length = f → ∃ o : List Nat, o.Perm ns ∧ endf ths s o = TT ths s ns
  | 0, ns, h => ⟨[], by rw [List.length_eq_zero_iff.mp h], by rw [List.length_eq_zero_iff.mp h]; rfl⟩
  | f + 1, ns, h => by
    have hne : ns ≠ [] := fun z => by rw [z] at h; cases h
    have hm := minL_mem (l := ns.map fun k => lb (TT ths s (ns.erase k)) (th ths k)) (by simpa using hne)
    obtain ⟨x, hx, e⟩ := List.mem_map.mp hm
    obtain ⟨o, ho, e2⟩ := TT_ach f (ns.erase x) (by rw [List.length_erase_of_mem hx, h]; rfl)
    refine ⟨o ++ [x], ?_, ?_⟩
    · exact ((List.perm_append_singleton x o).trans (ho.cons x)).trans (List.perm_cons_erase hx).symm
    · rw [endf_snoc, e2, TT_ne hne]
      exact e
/-! the orders of a set, the least first -/
def kp : Nat → List Nat → List (List Nat)
  | 0, _ => [[]]
  | f + 1, ns => ns.flatMap fun x => (kp f (ns.erase x)).map (x :: ·)
theorem kp_perm : ∀ (f : Nat) {ns o : List Nat}, ns.length = f → (o ∈ kp f ns ↔ o.Perm ns)
  | 0, ns, o, h => by
    rw [List.length_eq_zero_iff.mp h]
    show o ∈ [[]] ↔ _
    rw [List.mem_singleton, List.perm_nil]
  | f + 1, ns, o, h => by
    show o ∈ ns.flatMap _ ↔ _
    rw [List.mem_flatMap]
    constructor
    · rintro ⟨x, hx, ho⟩
      obtain ⟨o', ho', rfl⟩ := List.mem_map.mp ho
      have := (kp_perm f (by rw [List.length_erase_of_mem hx, h]; rfl)).mp ho'
      exact (this.cons x).trans (List.perm_cons_erase hx).symm
    · intro hp
      cases o with
      | nil => rw [List.nil_perm.mp hp] at h; cases h
      | cons x o' =>
        have hx : x ∈ ns := hp.mem_iff.mp List.mem_cons_self
        refine ⟨x, hx, List.mem_map.mpr ⟨o', (kp_perm f (by rw [List.length_erase_of_mem hx, h]; rfl)).mpr ?_, rfl⟩⟩
        have h4 := hp.erase x
        rwa [List.erase_cons_head] at h4
/-- the first of the least orders -/
def fo (ths : List (Nat × Nat)) : Nat → Nat → List Nat → List Nat
  | 0, _, _ => []
  | f + 1, s, ns => match ns.find? fun x => TT ths (lb s (th ths x)) (ns.erase x) == TT ths s ns with
    | some x => x :: fo ths f (lb s (th ths x)) (ns.erase x)
    | none => []
theorem find_flat {α : Type} {β : Type} {p : β → Bool} {g : α → List β} : ∀ l : List α, (l.flatMap g).find? p = l.findSome? fun x => (g x).find? p
  | [] => rfl
  | x :: r => by
    rw [List.flatMap_cons, List.find?_append, find_flat r]
    show _ = (match (g x).find? p with | some b => some b | none => _)
    cases (g x).find? p <;> rfl
theorem TT_first {ns : List Nat} (hne : ns ≠ []) : ∃ x ∈ ns, TT ths (lb s (th ths x)) (ns.erase x) = TT ths s ns := by
  obtain ⟨o, ho, e⟩ := TT_ach (ths := ths) (s := s) ns.length ns rfl
  cases o with
  | nil => exact absurd (List.nil_perm.mp ho) hne
  | cons x o' =>
    have hx : x ∈ ns := ho.mem_iff.mp List.mem_cons_self
    have h4 := ho.erase x
    rw [List.erase_cons_head] at h4
    have h5 : TT ths (lb s (th ths x)) (ns.erase x) ≤ endf ths (lb s (th ths x)) o' := TT_le h4
    obtain ⟨o2, ho2, e2⟩ := TT_ach (ths := ths) (s := lb s (th ths x)) _ (ns.erase x) rfl
    have h6 : TT ths s ns ≤ endf ths s (x :: o2) := TT_le ((ho2.cons x).trans (List.perm_cons_erase hx).symm)
    refine ⟨x, hx, ?_⟩
    have h7 : endf ths s (x :: o2) = endf ths (lb s (th ths x)) o2 := rfl
    have h8 : endf ths s (x :: o') = endf ths (lb s (th ths x)) o' := rfl
    omega
theorem fo_first : ∀ (f : Nat) (s : Nat) (ns : List Nat), ns.length = f → (kp f ns).find? (fun o => endf ths s o == TT ths s ns) = some (fo ths f s ns)
  | 0, s, ns, h => by
    rw [List.length_eq_zero_iff.mp h]
    simp [kp, endf, TT, Tn, fo]
  | f + 1, s, ns, h => by
    have hne : ns ≠ [] := fun z => by rw [z] at h; cases h
    show (ns.flatMap _).find? _ = _
    rw [find_flat]
    have blk : ∀ x ∈ ns, ((kp f (ns.erase x)).map (x :: ·)).find? (fun o => endf ths s o == TT ths s ns) = if TT ths (lb s (th ths x)) (ns.erase x) == TT ths s ns then some (x :: fo ths f (lb s (th ths x)) (ns.erase x)) else none := fun x hx => by
      have hl : (ns.erase x).length = f := by rw [List.length_erase_of_mem hx, h]; rfl
      rw [List.find?_map]
      have e0 : ((fun o => endf ths s o == TT ths s ns) ∘ fun o => x :: o) = fun o => endf ths (lb s (th ths x)) o == TT ths s ns := rfl
      rw [e0]
      by_cases c : TT ths (lb s (th ths x)) (ns.erase x) = TT ths s ns
      · rw [← c, fo_first f _ _ hl, if_pos (beq_self_eq_true _)]
        rfl
      · rw [if_neg (fun z => c (eq_of_beq z))]
        rw [List.find?_eq_none.mpr]
        · rfl
        · intro o ho z
          have hp := (kp_perm f hl).mp ho
          have h1 : TT ths (lb s (th ths x)) (ns.erase x) ≤ endf ths (lb s (th ths x)) o := TT_le hp
          obtain ⟨o2, ho2, e2⟩ := TT_ach (ths := ths) (s := lb s (th ths x)) _ (ns.erase x) rfl
          have h6 : TT ths s ns ≤ endf ths s (x :: o2) := TT_le ((ho2.cons x).trans (List.perm_cons_erase hx).symm)
          have h7 : endf ths s (x :: o2) = endf ths (lb s (th ths x)) o2 := rfl
          have := eq_of_beq z
          omega
    obtain ⟨x0, hx0, hc0⟩ := TT_first (ths := ths) (s := s) hne
    have gen : ∀ l : List Nat, (∀ x ∈ l, x ∈ ns) → (l.findSome? fun x => ((kp f (ns.erase x)).map (x :: ·)).find? (fun o => endf ths s o == TT ths s ns)) = (l.find? fun x => TT ths (lb s (th ths x)) (ns.erase x) == TT ths s ns).map fun x => x :: fo ths f (lb s (th ths x)) (ns.erase x) := fun l => by
      induction l with
      | nil => intro _; rfl
      | cons x r ih =>
        intro hl
        rw [List.findSome?_cons, blk x (hl x List.mem_cons_self), List.find?_cons]
        cases c : (TT ths (lb s (th ths x)) (ns.erase x) == TT ths s ns) with
        | true => rfl
        | false => exact ih fun y hy => hl y (List.mem_cons_of_mem _ hy)
    rw [gen ns fun _ z => z]
    show _ = some (match ns.find? fun x => TT ths (lb s (th ths x)) (ns.erase x) == TT ths s ns with
      | some x => x :: fo ths f (lb s (th ths x)) (ns.erase x)
      | none => [])
    cases hfd : ns.find? fun x => TT ths (lb s (th ths x)) (ns.erase x) == TT ths s ns with
    | some x => rfl
    | none =>
      have := List.find?_eq_none.mp hfd x0 hx0
      rw [hc0] at this
      exact absurd (beq_self_eq_true _) this
/-! the law's orders, place by place -/
def ext (ns o : List Nat) : List (List Nat) := (ns.filter fun y => !(o.contains y)).map fun y => o ++ [y]
theorem kp_ext : ∀ (f : Nat) {ns : List Nat}, ns.Nodup → (kp f ns).flatMap (ext ns) = kp (f + 1) ns
  | 0, ns, h => by
    show ext ns [] ++ [] = ns.flatMap fun x => [[x]]
    rw [List.append_nil]
    unfold ext
    have e : ns.filter (fun y => !(([] : List Nat).contains y)) = ns := List.filter_eq_self.mpr fun a _ => rfl
    rw [e]
    clear e
    induction ns with
    | nil => rfl
    | cons x r ih =>
      rw [List.map_cons, List.flatMap_cons, ih (List.nodup_cons.mp h).2]
      rfl
  | f + 1, ns, h => by
    show (ns.flatMap fun x => (kp f (ns.erase x)).map (x :: ·)).flatMap (ext ns) = ns.flatMap fun x => (kp (f + 1) (ns.erase x)).map (x :: ·)
    rw [List.flatMap_assoc]
    apply flat_congr
    intro x hx
    rw [← kp_ext f (h.erase x), List.flatMap_map, List.map_flatMap]
    apply flat_congr
    intro o _
    unfold ext
    rw [List.map_map, h.erase_eq_filter, List.filter_filter]
    have e1 : (ns.filter fun y => !((x :: o).contains y)) = ns.filter fun y => (!(o.contains y) && (y != x)) := by
      apply List.filter_congr
      intro y _
      rw [List.contains_cons, Bool.not_or, Bool.and_comm]
      rfl
    rw [e1]
    rfl
/-! the law's choice among the orders -/
def stepO (ths : List (Nat × Nat)) (s : Nat) (b : Int × List Nat) (o : List Nat) : Int × List Nat := if b.1 < 0 ∨ (endf ths s o : Int) < b.1 then ((endf ths s o : Int), o) else b
theorem fold_stay {t : Nat} {o0 : List Nat} : ∀ l : List (List Nat), (∀ o ∈ l, t ≤ endf ths s o) → l.foldl (stepO ths s) ((t : Int), o0) = ((t : Int), o0)
  | [], _ => rfl
  | x :: r, h => by
    have hx := h x List.mem_cons_self
    rw [List.foldl_cons]
    unfold stepO
    rw [if_neg (by show ¬ ((t : Int) < 0 ∨ ((endf ths s x : Nat) : Int) < (t : Int)); omega)]
    exact fold_stay r fun o ho => h o (List.mem_cons_of_mem _ ho)
theorem fold_first {t : Nat} {o0 : List Nat} : ∀ (l : List (List Nat)) (b : Int) (a : List Nat), (∀ o ∈ l, t ≤ endf ths s o) → l.find? (fun o => endf ths s o == t) = some o0 → (b < 0 ∨ (t : Int) < b) → l.foldl (stepO ths s) (b, a) = ((t : Int), o0)
  | [], _, _, _, h, _ => by cases h
  | x :: r, b, a, h, hf, hb => by
    have hx := h x List.mem_cons_self
    rw [List.find?_cons] at hf
    rw [List.foldl_cons]
    by_cases c : endf ths s x = t
    · rw [c, beq_self_eq_true] at hf
      cases hf
      unfold stepO
      rw [if_pos (by show b < 0 ∨ ((endf ths s o0 : Nat) : Int) < b; omega), c]
      exact fold_stay r fun o ho => h o (List.mem_cons_of_mem _ ho)
    · rw [beq_false_of_ne c] at hf
      unfold stepO
      by_cases d : b < 0 ∨ ((endf ths s x : Nat) : Int) < b
      · rw [if_pos d]
        exact fold_first r _ _ (fun o ho => h o (List.mem_cons_of_mem _ ho)) hf (.inr (by omega))
      · rw [if_neg d]
        exact fold_first r _ _ (fun o ho => h o (List.mem_cons_of_mem _ ho)) hf hb
theorem fold_due {ns : List Nat} : (kp ns.length ns).foldl (stepO ths s) ((-1 : Int), []) = ((TT ths s ns : Int), fo ths ns.length s ns) :=
  fold_first _ _ _ (fun o ho => TT_le ((kp_perm ns.length rfl).mp ho)) (fo_first ns.length s ns rfl) (.inl (by decide))
end
/-! sets as numbers -/
theorem bit_off {m k j : Nat} (h : m / 2 ^ k % 2 = 1) : (m - 2 ^ k) / 2 ^ j % 2 = if j = k then 0 else m / 2 ^ j % 2 := by
  have pk : 0 < 2 ^ k := Nat.two_pow_pos k
  have pj : 0 < 2 ^ j := Nat.two_pow_pos j
  have base : ∀ a : Nat, (m - 2 ^ k) / 2 ^ k = m / 2 ^ k - 1 := fun _ => by
    have := Nat.sub_mul_div m (2 ^ k) 1
    rwa [Nat.mul_one] at this
  rcases Nat.lt_trichotomy j k with z | z | z
  · rw [if_neg (by omega)]
    obtain ⟨d, rfl⟩ : ∃ d, k = j + (d + 1) := ⟨k - j - 1, by omega⟩
    have e1 : (m - 2 ^ (j + (d + 1))) / 2 ^ j = m / 2 ^ j - 2 ^ (d + 1) := by
      rw [Nat.pow_add]
      exact Nat.sub_mul_div m (2 ^ j) (2 ^ (d + 1))
    have e2 : m / 2 ^ (j + (d + 1)) = m / 2 ^ j / 2 ^ (d + 1) := by rw [Nat.pow_add, Nat.div_div_eq_div_mul]
    rw [e2] at h
    rw [e1]
    have e3 : 2 ^ (d + 1) = 2 * 2 ^ d := by rw [Nat.pow_succ, Nat.mul_comm]
    have e4 : 2 ^ (d + 1) ≤ m / 2 ^ j := by
      rcases Nat.lt_or_ge (m / 2 ^ j) (2 ^ (d + 1)) with y | y
      · rw [Nat.div_eq_of_lt y] at h
        cases h
      · exact y
    rw [e3] at e4 ⊢
    omega
  · subst z
    rw [if_pos rfl, base 0]
    omega
  · rw [if_neg (by omega)]
    obtain ⟨d, rfl⟩ : ∃ d, j = k + (d + 1) := ⟨j - k - 1, by omega⟩
    have e1 : ∀ x : Nat, x / 2 ^ (k + (d + 1)) = x / 2 ^ k / 2 / 2 ^ d := fun x => by rw [Nat.pow_add, ← Nat.div_div_eq_div_mul, Nat.pow_succ, Nat.mul_comm, ← Nat.div_div_eq_div_mul]
    rw [e1, e1, base 0]
    have odd : ∀ a : Nat, a % 2 = 1 → (a - 1) / 2 = a / 2 := fun a y => by omega
    rw [odd _ h]
theorem numsN_off {m k n : Nat} (hk : k ∈ numsN m n) : numsN (m - 2 ^ k) n = (numsN m n).erase k := by
  have hb := (List.mem_filter.mp hk).2
  have hb : m / 2 ^ k % 2 = 1 := eq_of_beq hb
  have hnd : (numsN m n).Nodup := List.nodup_range.filter _
  rw [hnd.erase_eq_filter]
  unfold numsN
  rw [List.filter_filter]
  apply List.filter_congr
  intro j _
  rw [bit_off hb]
  by_cases z : j = k
  · rw [if_pos z, z]
    simp
  · rw [if_neg z]
    simp [z]
theorem numsN_zero (n : Nat) : numsN 0 n = [] := by
  unfold numsN
  rw [List.filter_eq_nil_iff]
  intro k _
  rw [Nat.zero_div]
  decide
theorem pow_le_of {m k n : Nat} (hk : k ∈ numsN m n) : 2 ^ k ≤ m := by
  have hb := (List.mem_filter.mp hk).2
  have hb : m / 2 ^ k % 2 = 1 := eq_of_beq hb
  rcases Nat.lt_or_ge m (2 ^ k) with y | y
  · rw [Nat.div_eq_of_lt y] at hb
    cases hb
  · exact y
theorem numsN_ne {n : Nat} : ∀ {m : Nat}, 0 < m → m < 2 ^ n → numsN m n ≠ [] := fun {m} h0 h1 z => by
  have hz : ∀ k, k < n → m / 2 ^ k % 2 = 0 := fun k hk => by
    have := List.filter_eq_nil_iff.mp z k (List.mem_range.mpr hk)
    have h3 : ¬ m / 2 ^ k % 2 = 1 := fun y => this (by rw [y]; rfl)
    omega
  have : ∀ j, j ≤ n → m % 2 ^ j = 0 := fun j => by
    induction j with
    | zero => intro _; rw [Nat.pow_zero, Nat.mod_one]
    | succ j ih =>
      intro hj
      have h2 := ih (by omega)
      have h3 := hz j (by omega)
      rw [Nat.pow_succ, Nat.mod_mul, h2, h3, Nat.mul_zero]
  have h2 := this n (Nat.le_refl _)
  rw [Nat.mod_eq_of_lt h1] at h2
  omega
/-- the table of ends as a list -/
def lbm (ths : List (Nat × Nat)) (es : List Nat) (m : Nat) : Nat := minL ((numsN m ths.length).map fun k => lb (es.getD (m - 2 ^ k) 0) (th ths k))
def tabT (ths : List (Nat × Nat)) (s j : Nat) : List Nat := (List.range (j + 1)).map fun m => TT ths s (numsN m ths.length)
theorem tab_get {ths : List (Nat × Nat)} {s j m : Nat} (h : m ≤ j) : (tabT ths s j).getD m 0 = TT ths s (numsN m ths.length) := by
  unfold tabT
  rw [List.getD_eq_getElem?_getD, List.getElem?_map, List.getElem?_range (by omega)]
  rfl
theorem tab_next {ths : List (Nat × Nat)} {s j : Nat} {es : List Nat} (he : ∀ m, m ≤ j → es.getD m 0 = TT ths s (numsN m ths.length)) (h : j + 1 < 2 ^ ths.length) : lbm ths es (j + 1) = TT ths s (numsN (j + 1) ths.length) := by
  rw [TT_ne (numsN_ne (Nat.succ_pos j) h)]
  unfold lbm
  congr 1
  apply List.map_congr_left
  intro k hk
  have h2 := pow_le_of hk
  have h3 : 0 < 2 ^ k := Nat.two_pow_pos k
  rw [he _ (by omega), numsN_off hk]
theorem tab_snoc (ths : List (Nat × Nat)) (s j : Nat) : tabT ths s (j + 1) = tabT ths s j ++ [TT ths s (numsN (j + 1) ths.length)] := by
  unfold tabT
  rw [List.range_succ, List.map_append]
  rfl
theorem tab_zero (ths : List (Nat × Nat)) (s : Nat) : tabT ths s 0 = [s] := by
  unfold tabT
  show [TT ths s (numsN 0 ths.length)] = [s]
  rw [numsN_zero]
  rfl
end PT

namespace PT
/-! ### the first of the cheapest -/
def lsB {α : Type} (c : α → Nat) (x : α) : Option α → Prop
  | none => True
  | some y => c x < c y
instance {α : Type} (c : α → Nat) (x : α) (b : Option α) : Decidable (lsB c x b) := by cases b <;> (unfold lsB; infer_instance)
def stepS {α : Type} (p : α → Bool) (c : α → Nat) (b : Option α) (x : α) : Option α := if p x = true ∧ lsB c x b then some x else b
theorem gL {α : Type} {a b : List α} {i : Nat} {d : α} (h : i < a.length) : (a ++ b).getD i d = a.getD i d := by
  rw [List.getD_eq_getElem?_getD, List.getD_eq_getElem?_getD, List.getElem?_append_left h]
theorem gR {α : Type} {a b : List α} {i : Nat} {d : α} (h : a.length ≤ i) : (a ++ b).getD i d = b.getD (i - a.length) d := by
  rw [List.getD_eq_getElem?_getD, List.getD_eq_getElem?_getD, List.getElem?_append_right h]
structure Fst {α : Type} (l : List α) (x : α) (c : α → Nat) : Prop where
  split : ∃ pre post, l = pre ++ x :: post ∧ ∀ y ∈ pre, c x < c y
  least : ∀ y ∈ l, c x ≤ c y
theorem fold_keep {α : Type} {p : α → Bool} {c : α → Nat} : ∀ (l : List α) (b : Option α), (∀ y ∈ l, p y = true → ∃ z, b = some z ∧ c z ≤ c y) → l.foldl (stepS p c) b = b
  | [], _, _ => rfl
  | y :: r, b, h => by
    have e : stepS p c b y = b := by
      unfold stepS
      by_cases hp : p y = true
      · obtain ⟨z, rfl, hz⟩ := h y List.mem_cons_self hp
        rw [if_neg (fun q => absurd (show c y < c z from q.2) (by omega))]
      · rw [if_neg (fun q => hp q.1)]
    rw [List.foldl_cons, e]
    exact fold_keep r b fun y hy => h y (List.mem_cons_of_mem _ hy)
/-- what stands ahead of the first one is dearer -/
theorem fold_pre {α : Type} {p : α → Bool} {c : α → Nat} {x : α} : ∀ (l : List α) (b : Option α), (∀ y ∈ l, c x < c y) → lsB c x b → lsB c x (l.foldl (stepS p c) b)
  | [], _, _, hb => hb
  | y :: r, b, h, hb => by
    rw [List.foldl_cons]
    refine fold_pre r _ (fun z hz => h z (List.mem_cons_of_mem _ hz)) ?_
    unfold stepS
    split
    · exact h y List.mem_cons_self
    · exact hb
theorem fold_group {α : Type} {p : α → Bool} {c : α → Nat} {l : List α} {x : α} (f : Fst l x c) (hp : ∀ y ∈ l, p y = true → p x = true) (b : Option α) : l.foldl (stepS p c) b = stepS p c b x := by
  by_cases hx : p x = true
  · by_cases hb : lsB c x b
    · obtain ⟨pre, post, e, hpre⟩ := f.split
      have h1 := fold_pre (p := p) pre b hpre hb
      have e1 : stepS p c b x = some x := by
        unfold stepS
        rw [if_pos ⟨hx, hb⟩]
      rw [e, List.foldl_append, List.foldl_cons, e1]
      have e2 : stepS p c (pre.foldl (stepS p c) b) x = some x := by
        unfold stepS
        rw [if_pos ⟨hx, h1⟩]
      rw [e2]
      refine fold_keep _ _ fun y hy _ => ⟨x, rfl, f.least y ?_⟩
      rw [e]
      exact List.mem_append_right _ (List.mem_cons_of_mem _ hy)
    · cases b with
      | none => exact absurd trivial hb
      | some z =>
        have hz : c z ≤ c x := Nat.le_of_not_lt hb
        have e1 : stepS p c (some z) x = some z := by
          unfold stepS
          rw [if_neg (fun q => hb q.2)]
        rw [e1]
        exact fold_keep _ _ fun y hy _ => ⟨z, rfl, Nat.le_trans hz (f.least y hy)⟩
  · have e1 : stepS p c b x = b := by
      unfold stepS
      rw [if_neg (fun q => hx q.1)]
    rw [e1]
    exact fold_keep _ _ fun y hy h => absurd (hp y hy h) hx
theorem foldl_flat {α β γ : Type} (f : γ → β → γ) (g : α → List β) : ∀ (l : List α) (b : γ), (l.flatMap g).foldl f b = l.foldl (fun b x => (g x).foldl f b) b
  | [], _ => rfl
  | x :: r, b => by
    rw [List.flatMap_cons, List.foldl_append, List.foldl_cons]
    exact foldl_flat f g r _
/-- of all groups the first of the cheapest: that of the groups' first ones -/
theorem fold_groups {α β : Type} {p : β → Bool} {c : β → Nat} {g : α → List β} {h : α → β} : ∀ (l : List α) (b : Option β), (∀ x ∈ l, Fst (g x) (h x) c ∧ ∀ y ∈ g x, p y = true → p (h x) = true) → (l.flatMap g).foldl (stepS p c) b = (l.map h).foldl (stepS p c) b
  | [], _, _ => rfl
  | x :: r, b, hh => by
    rw [List.flatMap_cons, List.foldl_append, List.map_cons, List.foldl_cons, fold_group (hh x List.mem_cons_self).1 (hh x List.mem_cons_self).2 b]
    exact fold_groups r _ fun y hy => hh y (List.mem_cons_of_mem _ hy)
/-- products: a row and one more -/
theorem Fst.prod {α β : Type} {rows : List (List α)} {r : List α} {c c2 : List α → Nat} {os : List α} {o : α} {e : α → Nat} (f1 : Fst rows r c) (f2 : Fst os o e) (hc : ∀ r ∈ rows, ∀ o ∈ os, c2 (r ++ [o]) = c r + e o) : Fst (rows.flatMap fun r => os.map fun o => r ++ [o]) (r ++ [o]) c2 := by
  obtain ⟨p1, q1, e1, h1⟩ := f1.split
  obtain ⟨p2, q2, e2, h2⟩ := f2.split
  have hr : r ∈ rows := by rw [e1]; exact List.mem_append_right _ List.mem_cons_self
  have ho : o ∈ os := by rw [e2]; exact List.mem_append_right _ List.mem_cons_self
  refine ⟨⟨(p1.flatMap fun r => os.map fun o => r ++ [o]) ++ p2.map (fun o => r ++ [o]), q2.map (fun o => r ++ [o]) ++ q1.flatMap fun r => os.map fun o => r ++ [o], ?_, fun y hy => ?_⟩, fun y hy => ?_⟩
  · conv => lhs; rw [e1]
    rw [List.flatMap_append, List.flatMap_cons]
    conv => lhs; rhs; lhs; rw [e2]
    rw [List.map_append, List.map_cons]
    simp only [List.append_assoc, List.cons_append]
  · rw [hc r hr o ho]
    rcases List.mem_append.mp hy with hy | hy
    · obtain ⟨r', hr', hy⟩ := List.mem_flatMap.mp hy
      obtain ⟨o', ho', rfl⟩ := List.mem_map.mp hy
      rw [hc r' (by rw [e1]; exact List.mem_append_left _ hr') o' ho']
      have := h1 r' hr'
      have := f2.least o' ho'
      omega
    · obtain ⟨o', ho', rfl⟩ := List.mem_map.mp hy
      rw [hc r hr o' (by rw [e2]; exact List.mem_append_left _ ho')]
      have := h2 o' ho'
      omega
  · obtain ⟨r', hr', hy⟩ := List.mem_flatMap.mp hy
    obtain ⟨o', ho', rfl⟩ := List.mem_map.mp hy
    rw [hc r hr o ho, hc r' hr' o' ho']
    have := f1.least r' hr'
    have := f2.least o' ho'
    omega
/-! ### dealings, orders of rooms -/
def dls (chs : List (List Nat)) : List (List Nat) := chs.foldl (fun rows ch => rows.flatMap fun r => ch.map fun x => r ++ [x]) [[]]
def grp (dl : List Nat) (r : Nat) : List Nat := (List.range dl.length).filter fun k => dl.getD k 0 == r
def rwP (dl : List Nat) : Nat → List (List (List Nat))
  | 0 => [[]]
  | i + 1 => (rwP dl i).flatMap fun row => (kp (grp dl i).length (grp dl i)).map fun o => row ++ [o]
def enP (ths : List (Nat × Nat)) (ss : List Nat) (os : List (List Nat)) : List Nat := (List.range os.length).map fun r => endf ths (ss.getD r 0) (os.getD r [])
def loP (ths : List (Nat × Nat)) (ss dl : List Nat) (i : Nat) : List (List Nat) := (List.range i).map fun r => fo ths (grp dl r).length (ss.getD r 0) (grp dl r)
theorem grp_nodup (dl : List Nat) (r : Nat) : (grp dl r).Nodup := List.Nodup.sublist List.filter_sublist List.nodup_range
theorem kp_first (ths : List (Nat × Nat)) (s : Nat) (ns : List Nat) : Fst (kp ns.length ns) (fo ths ns.length s ns) (endf ths s) := by
  have hf := fo_first (ths := ths) ns.length s ns rfl
  obtain ⟨hp, pre, post, e, hpre⟩ := List.find?_eq_some_iff_append.mp hf
  have he : endf ths s (fo ths ns.length s ns) = TT ths s ns := by simpa using hp
  have hle : ∀ y ∈ kp ns.length ns, TT ths s ns ≤ endf ths s y := fun y hy => TT_le ((kp_perm _ rfl).mp hy)
  refine ⟨⟨pre, post, e, fun y hy => ?_⟩, fun y hy => ?_⟩
  · have h1 := hpre y hy
    have h2 := hle y (by rw [e]; exact List.mem_append_left _ hy)
    have h3 : endf ths s y ≠ TT ths s ns := by simpa using h1
    omega
  · rw [he]
    exact hle y hy
theorem rwP_len {dl : List Nat} : ∀ (i : Nat) {os : List (List Nat)}, os ∈ rwP dl i → os.length = i
  | 0, os, h => by rw [List.mem_singleton.mp h]; rfl
  | i + 1, os, h => by
    obtain ⟨r, hr, h⟩ := List.mem_flatMap.mp h
    obtain ⟨o, _, rfl⟩ := List.mem_map.mp h
    rw [List.length_append, rwP_len i hr]
    rfl
theorem enP_snoc (ths : List (Nat × Nat)) (ss : List Nat) (os : List (List Nat)) (o : List Nat) : enP ths ss (os ++ [o]) = enP ths ss os ++ [endf ths (ss.getD os.length 0) o] := by
  unfold enP
  rw [List.length_append]
  show (List.range (os.length + 1)).map _ = _
  rw [List.range_succ, List.map_append]
  congr 1
  · refine List.map_congr_left fun i hi => ?_
    have := List.mem_range.mp hi
    rw [gL this]
  · show [endf ths (ss.getD os.length 0) ((os ++ [o]).getD os.length [])] = _
    rw [gR (Nat.le_refl _), Nat.sub_self]
    rfl
theorem loP_succ (ths : List (Nat × Nat)) (ss dl : List Nat) (i : Nat) : loP ths ss dl (i + 1) = loP ths ss dl i ++ [fo ths (grp dl i).length (ss.getD i 0) (grp dl i)] := by
  unfold loP
  rw [List.range_succ, List.map_append]
  rfl
theorem loP_len (ths : List (Nat × Nat)) (ss dl : List Nat) (i : Nat) : (loP ths ss dl i).length = i := by unfold loP; rw [List.length_map, List.length_range]
theorem rwP_first (ths : List (Nat × Nat)) (ss dl : List Nat) : ∀ i, Fst (rwP dl i) (loP ths ss dl i) fun os => (enP ths ss os).sum
  | 0 => ⟨⟨[], [], rfl, fun y h => by cases h⟩, fun y h => by rw [List.mem_singleton.mp h]; exact Nat.le_refl _⟩
  | i + 1 => by
    rw [loP_succ]
    refine Fst.prod (β := Nat) (rwP_first ths ss dl i) (kp_first ths (ss.getD i 0) (grp dl i)) fun r hr o _ => ?_
    rw [enP_snoc, List.sum_append, rwP_len i hr]
    simp
theorem rwP_ends {ths : List (Nat × Nat)} {ss dl : List Nat} : ∀ (i : Nat) {os : List (List Nat)}, os ∈ rwP dl i → ∀ r, r < i → (enP ths ss (loP ths ss dl i)).getD r 0 ≤ (enP ths ss os).getD r 0
  | 0, _, _, r, h => by omega
  | i + 1, os, h, r, hr => by
    obtain ⟨row, hrow, h⟩ := List.mem_flatMap.mp h
    obtain ⟨o, ho, rfl⟩ := List.mem_map.mp h
    have l1 := rwP_len i hrow
    have l2 := loP_len ths ss dl i
    have e1 : (enP ths ss (loP ths ss dl i)).length = i := by unfold enP; rw [List.length_map, List.length_range, l2]
    have e2 : (enP ths ss row).length = i := by unfold enP; rw [List.length_map, List.length_range, l1]
    rw [loP_succ, enP_snoc, enP_snoc, l1, l2]
    rcases Nat.lt_or_ge r i with z | z
    · rw [gL (by omega), gL (by omega)]
      exact rwP_ends i hrow r z
    · have : r = i := by omega
      subst this
      rw [gR (by omega), gR (by omega), e1, e2, Nat.sub_self]
      exact (kp_first ths (ss.getD r 0) (grp dl r)).least o ho
/-! sets as numbers -/
def smN (q : Nat → Bool) : Nat → Nat
  | 0 => 0
  | n + 1 => smN q n + if q n = true then 2 ^ n else 0
theorem smN_lt (q : Nat → Bool) : ∀ n, smN q n < 2 ^ n
  | 0 => Nat.one_pos
  | n + 1 => by
    have := smN_lt q n
    have e : 2 ^ (n + 1) = 2 ^ n + 2 ^ n := by rw [Nat.pow_succ]; omega
    show smN q n + _ < _
    split <;> omega
theorem smN_bit (q : Nat → Bool) : ∀ n k, k < n → smN q n / 2 ^ k % 2 = if q k = true then 1 else 0
  | 0, k, h => by omega
  | n + 1, k, h => by
    have hl := smN_lt q n
    have hp : 0 < 2 ^ k := Nat.two_pow_pos k
    show (smN q n + _) / 2 ^ k % 2 = _
    rcases Nat.lt_or_ge k n with z | z
    · rw [← smN_bit q n k z]
      split
      · obtain ⟨j, hj⟩ : ∃ j, n = k + 1 + j := ⟨n - k - 1, by omega⟩
        have e : 2 ^ n = 2 ^ k * (2 * 2 ^ j) := by rw [hj, Nat.pow_add, Nat.pow_succ, Nat.mul_assoc]
        rw [e, Nat.add_mul_div_left _ _ hp]
        omega
      · rfl
    · have : k = n := by omega
      subst this
      split
      · rw [Nat.add_div_right _ hp, Nat.div_eq_of_lt hl]
      · rw [Nat.add_zero, Nat.div_eq_of_lt hl]
theorem sum_pow (q : Nat → Bool) : ∀ n, (((List.range n).filter q).map fun k => 2 ^ k).sum = smN q n
  | 0 => rfl
  | n + 1 => by
    rw [List.range_succ, List.filter_append, List.map_append, List.sum_append, sum_pow q n]
    show _ = smN q n + _
    congr 1
    by_cases h : q n = true
    · rw [if_pos h, List.filter_cons_of_pos h]
      rfl
    · rw [if_neg h, List.filter_cons_of_neg h]
      rfl
theorem nums_smN (q : Nat → Bool) (n : Nat) : numsN (smN q n) n = (List.range n).filter q := by
  unfold numsN
  refine List.filter_congr fun k hk => ?_
  rw [smN_bit q n k (List.mem_range.mp hk)]
  cases q k <;> rfl
def chN (dl : List Nat) (r : Nat) : Nat := ((grp dl r).map fun k => 2 ^ k).sum
theorem chN_lt (dl : List Nat) (r : Nat) : chN dl r < 2 ^ dl.length := by
  unfold chN grp
  rw [sum_pow]
  exact smN_lt _ _
theorem nums_chN (dl : List Nat) (r : Nat) : numsN (chN dl r) dl.length = grp dl r := by
  unfold chN grp
  rw [sum_pow, nums_smN]
theorem Fst.map {α β : Type} {l : List α} {x : α} {c : α → Nat} {c2 : β → Nat} {g : α → β} (f : Fst l x c) (h : ∀ y, c2 (g y) = c y) : Fst (l.map g) (g x) c2 := by
  obtain ⟨pre, post, e, hp⟩ := f.split
  refine ⟨⟨pre.map g, post.map g, by rw [e, List.map_append, List.map_cons], fun y hy => ?_⟩, fun y hy => ?_⟩
  · obtain ⟨z, hz, rfl⟩ := List.mem_map.mp hy
    rw [h, h]
    exact hp z hz
  · obtain ⟨z, hz, rfl⟩ := List.mem_map.mp hy
    rw [h, h]
    exact f.least z hz
abbrev Pk := List Nat × List (List Nat)
def coP (ths : List (Nat × Nat)) (ss : List Nat) (q : Pk) : Nat := (enP ths ss q.2).sum
def wiP (ths : List (Nat × Nat)) (ss : List Nat) (ls : List Int) (q : Pk) : Bool := (List.range ls.length).all fun r => decide ((((enP ths ss q.2).getD r 0 : Nat) : Int) ≤ ls.getD r 0)
def allP (chs : List (List Nat)) (nr : Nat) : List Pk := (dls chs).flatMap fun dl => (rwP dl nr).map fun os => (dl, os)
def leaP (ths : List (Nat × Nat)) (ss : List Nat) (chs : List (List Nat)) (nr : Nat) : List Pk := (dls chs).map fun dl => (dl, loP ths ss dl nr)
theorem pack_same (ths : List (Nat × Nat)) (ss : List Nat) (ls : List Int) (chs : List (List Nat)) : (allP chs ls.length).foldl (stepS (wiP ths ss ls) (coP ths ss)) none = (leaP ths ss chs ls.length).foldl (stepS (wiP ths ss ls) (coP ths ss)) none := by
  refine fold_groups _ _ fun dl _ => ⟨(rwP_first ths ss dl ls.length).map fun _ => rfl, fun y hy hp => ?_⟩
  obtain ⟨os, hos, rfl⟩ := List.mem_map.mp hy
  refine List.all_eq_true.mpr fun r hr => ?_
  have h1 := of_decide_eq_true (List.all_eq_true.mp hp r hr)
  have h2 := rwP_ends (ths := ths) (ss := ss) ls.length hos r (List.mem_range.mp hr)
  exact decide_eq_true (Int.le_trans (Int.ofNat_le.mpr h2) h1)
end PT

namespace RK
open PySem PySem.Spec PyProof.Rows L2
/-! words as text: each a comma and four digits -/
def txW (ws : List Nat) : List Nat := ws.flatMap fun w => 44 :: hexd w
theorem txW_nil : txW [] = [] := rfl
theorem txW_cons (w : Nat) (ws : List Nat) : txW (w :: ws) = 44 :: (hexd w ++ txW ws) := by
  unfold txW
  rw [List.flatMap_cons]
  rfl
theorem hexd_len (w : Nat) : (hexd w).length = 4 := rfl
theorem txW_len : ∀ ws : List Nat, (txW ws).length = 5 * ws.length
  | [] => rfl
  | w :: r => by
    rw [txW_cons, List.length_cons, List.length_append, hexd_len, txW_len r, List.length_cons]
    omega
theorem txW_app (a b : List Nat) : txW (a ++ b) = txW a ++ txW b := by
  unfold txW
  rw [List.flatMap_append]
theorem txW_drop (ws : List Nat) (k : Nat) : (txW ws).drop (5 * k) = txW (ws.drop k) := by
  by_cases h : k ≤ ws.length
  · have e : txW ws = txW (ws.take k) ++ txW (ws.drop k) := by rw [← txW_app, List.take_append_drop]
    have l : (txW (ws.take k)).length = 5 * k := by rw [txW_len, List.length_take, Nat.min_eq_left h]
    rw [e, List.drop_append_of_le_length (by omega), List.drop_of_length_le (by omega)]
    rfl
  · rw [List.drop_of_length_le (by rw [txW_len]; omega), List.drop_of_length_le (by omega)]
    rfl
theorem txW_take (ws : List Nat) (k : Nat) : (txW ws).take (5 * k) = txW (ws.take k) := by
  by_cases h : k ≤ ws.length
  · have e : txW ws = txW (ws.take k) ++ txW (ws.drop k) := by rw [← txW_app, List.take_append_drop]
    have l : (txW (ws.take k)).length = 5 * k := by rw [txW_len, List.length_take, Nat.min_eq_left h]
    rw [e, List.take_append_of_le_length (by omega), List.take_of_length_le (by omega)]
  · rw [List.take_of_length_le (by rw [txW_len]; omega), List.take_of_length_le (by omega)]
theorem hexd_inj {a b : Nat} (ha : a ≤ 65535) (hb : b ≤ 65535) (h : hexd a = hexd b) : a = b := by
  rw [← val4_hexd ha, ← val4_hexd hb, h]
theorem txW_inj : ∀ {a b : List Nat}, (∀ w ∈ a, w ≤ 65535) → (∀ w ∈ b, w ≤ 65535) → txW a = txW b → a = b
  | [], [], _, _, _ => rfl
  | [], b :: r, _, _, h => by rw [txW_cons] at h; cases h
  | a :: r, [], _, _, h => by rw [txW_cons] at h; cases h
  | a :: r, b :: t, ha, hb, h => by
    rw [txW_cons, txW_cons] at h
    have h1 := List.cons.inj h
    have h2 := List.append_inj h1.2 rfl
    rw [hexd_inj (ha _ List.mem_cons_self) (hb _ List.mem_cons_self) h2.1, txW_inj (fun w hw => ha w (List.mem_cons_of_mem _ hw)) (fun w hw => hb w (List.mem_cons_of_mem _ hw)) h2.2]
theorem hx_no (k : Nat) : hx k ≠ 44 := by
  unfold hx
  split <;> omega
theorem txW_comma : ∀ (ws : List Nat) (j : Nat), (txW ws)[j]? = some 44 → j % 5 = 0
  | [], j, h => by cases h
  | w :: r, j, h => by
    rw [txW_cons] at h
    match j, h with
    | 0, _ => rfl
    | 1, h => exact absurd (Option.some.inj h) (hx_no _)
    | 2, h => exact absurd (Option.some.inj h) (hx_no _)
    | 3, h => exact absurd (Option.some.inj h) (hx_no _)
    | 4, h => exact absurd (Option.some.inj h) (hx_no _)
    | j + 5, h =>
      have := txW_comma r j h
      omega
/-- the words stand at a place -/
def occW (E w : List Nat) (a : Nat) : Prop := (E.drop a).take w.length = w
instance (E w : List Nat) (a : Nat) : Decidable (occW E w a) := by unfold occW; infer_instance
theorem subAt_txW {E w : List Nat} {i : Nat} : Builtin.Str.subAt (sO (txW E)) (sO (txW w)) i = true ↔ ((txW E).drop i).take (5 * w.length) = txW w := by
  rw [StrLaws.subAt_eq]
  show (((txW E).drop i).take (txW w).length == txW w) = true ↔ _
  rw [beq_iff_eq, txW_len]
theorem at_txW {E w : List Nat} {i : Nat} (hE : ∀ x ∈ E, x ≤ 65535) (hw : ∀ x ∈ w, x ≤ 65535) (hne : w ≠ []) : StrLaws.At (sO (txW E)) (sO (txW w)) (sO (txW E)).length i ↔ ∃ a, i = 5 * a ∧ occW E w a := by
  constructor
  · rintro ⟨_, h2⟩
    have h := subAt_txW.mp h2
    obtain ⟨x, r, rfl⟩ := List.exists_cons_of_ne_nil hne
    have hc : (txW E)[i]? = some 44 := by
      have e1 : (((txW E).drop i).take (5 * (x :: r).length))[0]? = some 44 := by rw [h, txW_cons]; rfl
      rw [List.getElem?_take_of_lt (by rw [List.length_cons]; omega), List.getElem?_drop] at e1
      exact e1
    have h5 := txW_comma _ _ hc
    obtain ⟨a, rfl⟩ : ∃ a, i = 5 * a := ⟨i / 5, by omega⟩
    refine ⟨a, rfl, ?_⟩
    rw [txW_drop, txW_take] at h
    exact txW_inj (fun y hy => hE y (List.mem_of_mem_drop (List.mem_of_mem_take hy))) hw h
  · rintro ⟨a, rfl, h⟩
    unfold occW at h
    refine ⟨?_, subAt_txW.mpr ?_⟩
    · rw [sO_len, sO_len, txW_len, txW_len]
      have := congrArg List.length h
      rw [List.length_take, List.length_drop] at this
      have : 0 < w.length := List.length_pos_iff.mpr hne
      omega
    · rw [txW_drop, txW_take, h]
theorem find_none {E w : List Nat} (hE : ∀ x ∈ E, x ≤ 65535) (hw : ∀ x ∈ w, x ≤ 65535) (hne : w ≠ []) (h : ∀ a, ¬ occW E w a) : Txt.find (sO (txW E)) (sO (txW w)) = -1 := by
  unfold Txt.find
  rcases StrLaws.occ_head (sO (txW E)) (sO (txW w)) 1 (Nat.le_refl _) with ⟨h0, _⟩ | ⟨i, r, _, h1, _⟩
  · rw [h0]
  · obtain ⟨a, _, ha⟩ := (at_txW hE hw hne).mp h1
    exact absurd ha (h a)
theorem find_some {E w : List Nat} {a : Nat} (hE : ∀ x ∈ E, x ≤ 65535) (hw : ∀ x ∈ w, x ≤ 65535) (hne : w ≠ []) (h : occW E w a) (hb : ∀ b, b < a → ¬ occW E w b) : Txt.find (sO (txW E)) (sO (txW w)) = ((5 * a : Nat) : Int) := by
  unfold Txt.find
  rcases StrLaws.occ_head (sO (txW E)) (sO (txW w)) 1 (Nat.le_refl _) with ⟨_, h0⟩ | ⟨i, r, e, h1, h2⟩
  · exact absurd ((at_txW hE hw hne).mpr ⟨a, rfl, h⟩) (h0 _)
  · rw [e]
    obtain ⟨b, rfl, hb2⟩ := (at_txW hE hw hne).mp h1
    have h3 : ¬ b < a := fun z => hb b z hb2
    have h4 : ¬ a < b := fun z => h2 (5 * a) (by omega) ((at_txW hE hw hne).mpr ⟨a, rfl, h⟩)
    show ((5 * b : Nat) : Int) = _
    rw [show a = b by omega]
theorem find_nil (E : List Nat) : Txt.find (sO E) (sO []) = 0 := by
  unfold Txt.find
  rcases StrLaws.occ_head (sO E) (sO []) 1 (Nat.le_refl _) with ⟨_, h0⟩ | ⟨i, r, e, h1, h2⟩
  · refine absurd ⟨Nat.zero_le _, ?_⟩ (h0 0)
    rw [StrLaws.subAt_eq]
    rfl
  · rw [e]
    have : ¬ 0 < i := fun z => h2 0 z ⟨Nat.zero_le _, by rw [StrLaws.subAt_eq]; rfl⟩
    show ((i : Nat) : Int) = 0
    omega
end RK

namespace DL
open PT
/-! ### the longest copies -/
def lcp : List Nat → List Nat → Nat
  | a :: r, b :: t => if a = b then lcp r t + 1 else 0
  | _, _ => 0
def lcn : List Nat → List Nat → Nat
  | [], _ => 0
  | e :: E, X => max (lcp (e :: E) X) (lcn E X)
def fat : List Nat → List Nat → Nat
  | [], _ => 0
  | e :: E, X => if lcn E X ≤ lcp (e :: E) X then 0 else fat E X + 1
theorem lcp_le : ∀ (a b : List Nat), lcp a b ≤ a.length ∧ lcp a b ≤ b.length
  | [], _ => ⟨Nat.le_refl _, Nat.zero_le _⟩
  | _ :: _, [] => ⟨Nat.zero_le _, Nat.le_refl _⟩
  | a :: r, b :: t => by
    have := lcp_le r t
    unfold lcp
    split
    · exact ⟨Nat.succ_le_succ this.1, Nat.succ_le_succ this.2⟩
    · exact ⟨Nat.zero_le _, Nat.zero_le _⟩
theorem lcp_iff : ∀ (c : Nat) (a b : List Nat), c ≤ b.length → (a.take c = b.take c ↔ c ≤ lcp a b)
  | 0, a, b, _ => by rw [List.take_zero, List.take_zero]; exact ⟨fun _ => Nat.zero_le _, fun _ => rfl⟩
  | c + 1, a, [], h => by cases h
  | c + 1, [], b :: t, h => by
    constructor
    · intro z
      rw [List.take_nil, List.take_succ_cons] at z
      cases z
    · intro z
      exact absurd z (Nat.not_succ_le_zero _)
  | c + 1, a :: r, b :: t, h => by
    rw [List.take_succ_cons, List.take_succ_cons]
    have ih := lcp_iff c r t (Nat.le_of_succ_le_succ h)
    unfold lcp
    split
    · rename_i e
      subst e
      constructor
      · intro z
        exact Nat.succ_le_succ (ih.mp (List.cons.inj z).2)
      · intro z
        rw [ih.mpr (Nat.le_of_succ_le_succ z)]
    · rename_i e
      constructor
      · intro z
        exact absurd (List.cons.inj z).1 e
      · intro z
        exact absurd z (Nat.not_succ_le_zero _)
theorem lcp_nil (X : List Nat) : lcp [] X = 0 := by unfold lcp; rfl
theorem lcn_le : ∀ (E X : List Nat), lcn E X ≤ X.length
  | [], _ => Nat.zero_le _
  | e :: E, X => Nat.max_le.mpr ⟨(lcp_le _ _).2, lcn_le E X⟩
theorem lcp_lcn : ∀ (E X : List Nat) (a : Nat), lcp (E.drop a) X ≤ lcn E X
  | [], X, a => by rw [List.drop_nil, lcp_nil]; exact Nat.zero_le _
  | e :: E, X, 0 => Nat.le_max_left _ _
  | e :: E, X, a + 1 => Nat.le_trans (lcp_lcn E X a) (Nat.le_max_right _ _)
theorem fat_at : ∀ (E X : List Nat), lcp (E.drop (fat E X)) X = lcn E X
  | [], X => lcp_nil X
  | e :: E, X => by
    show lcp ((e :: E).drop (if lcn E X ≤ lcp (e :: E) X then 0 else fat E X + 1)) X = max (lcp (e :: E) X) (lcn E X)
    by_cases h : lcn E X ≤ lcp (e :: E) X
    · rw [if_pos h, List.drop_zero]
      omega
    · rw [if_neg h, List.drop_succ_cons, fat_at E X]
      omega
theorem fat_first : ∀ (E X : List Nat) (b : Nat), b < fat E X → lcp (E.drop b) X < lcn E X
  | [], X, b, h => by cases h
  | e :: E, X, b, h => by
    unfold fat at h
    unfold lcn
    split at h
    · cases h
    · rename_i h2
      cases b with
      | zero =>
        rw [List.drop_zero]
        omega
      | succ b =>
        rw [List.drop_succ_cons]
        have := fat_first E X b (by omega)
        omega
theorem fat_len (E X : List Nat) : fat E X + lcn E X ≤ E.length := by
  have h1 := fat_at E X
  have h2 := (lcp_le (E.drop (fat E X)) X).1
  rw [h1, List.length_drop] at h2
  by_cases z : lcn E X = 0
  · have : ∀ b, b < fat E X → False := fun b hb => by
      have := fat_first E X b hb
      omega
    have : fat E X = 0 := by
      rcases Nat.eq_zero_or_pos (fat E X) with h | h
      · exact h
      · exact (this 0 h).elim
    omega
  · omega
theorem lcp_cons_le (a X : List Nat) (x : Nat) : lcp a (x :: X) ≤ lcp (a.drop 1) X + 1 := by
  cases a with
  | nil => rw [lcp_nil]; exact Nat.zero_le _
  | cons e r =>
    rw [List.drop_succ_cons, List.drop_zero]
    show (if e = x then lcp r X + 1 else 0) ≤ _
    split
    · exact Nat.le_refl _
    · exact Nat.zero_le _
theorem lcn_slide (E X : List Nat) (x : Nat) : lcn E (x :: X) ≤ lcn E X + 1 := by
  have h1 := fat_at E (x :: X)
  have h2 := lcp_cons_le (E.drop (fat E (x :: X))) X x
  rw [List.drop_drop] at h2
  have h3 := lcp_lcn E X (fat E (x :: X) + 1)
  omega
/-! ### prices -/
def mm : List Nat → Nat
  | [] => 0
  | [x] => 2 + x
  | x :: y :: r => min (2 + x) (1 + mm (y :: r))
def bp : List Nat → Nat
  | [] => 0
  | [_] => 1
  | x :: y :: r => if 1 + mm (y :: r) ≤ 2 + x then 1 + bp (y :: r) else 1
theorem mm_le : ∀ (R : List Nat) (c : Nat), c < R.length → mm R ≤ 2 + c + R.getD c 0
  | [], c, h => by cases h
  | [x], c, h => by
    have : c = 0 := by simp at h; exact h
    subst this
    exact Nat.le_refl _
  | x :: y :: r, 0, h => by
    show min _ _ ≤ 2 + 0 + x
    omega
  | x :: y :: r, c + 1, h => by
    have := mm_le (y :: r) c (Nat.lt_of_succ_lt_succ h)
    show min _ _ ≤ 2 + (c + 1) + (y :: r).getD c 0
    omega
theorem bp_at : ∀ (R : List Nat), R ≠ [] → 1 ≤ bp R ∧ bp R ≤ R.length ∧ mm R = 1 + bp R + R.getD (bp R - 1) 0
  | [], h => absurd rfl h
  | [x], _ => ⟨Nat.le_refl _, Nat.le_refl _, rfl⟩
  | x :: y :: r, _ => by
    obtain ⟨h1, h2, h3⟩ := bp_at (y :: r) (by simp)
    show 1 ≤ (if 1 + mm (y :: r) ≤ 2 + x then 1 + bp (y :: r) else 1) ∧ (if 1 + mm (y :: r) ≤ 2 + x then 1 + bp (y :: r) else 1) ≤ _ ∧ min (2 + x) (1 + mm (y :: r)) = 1 + (if 1 + mm (y :: r) ≤ 2 + x then 1 + bp (y :: r) else 1) + (x :: y :: r).getD ((if 1 + mm (y :: r) ≤ 2 + x then 1 + bp (y :: r) else 1) - 1) 0
    by_cases h : 1 + mm (y :: r) ≤ 2 + x
    · rw [if_pos h]
      refine ⟨by omega, ?_, ?_⟩
      · rw [List.length_cons]
        omega
      · have e : (x :: y :: r).getD (1 + bp (y :: r) - 1) 0 = (y :: r).getD (bp (y :: r) - 1) 0 := by
          rw [show 1 + bp (y :: r) - 1 = (bp (y :: r) - 1) + 1 by omega]
          rfl
        rw [e]
        omega
    · rw [if_neg h]
      refine ⟨Nat.le_refl _, by rw [List.length_cons]; omega, ?_⟩
      show min _ _ = 1 + 1 + x
      omega
theorem bp_last : ∀ (R : List Nat) (c : Nat), bp R ≤ c → c < R.length → mm R < 2 + c + R.getD c 0
  | [], c, _, h => by cases h
  | [x], c, h1, h2 => by
    have : c = 0 := by simp at h2; exact h2
    subst this
    exact absurd h1 (by unfold bp; omega)
  | x :: y :: r, 0, h1, h2 => by
    have := (bp_at (x :: y :: r) (by simp)).1
    omega
  | x :: y :: r, c + 1, h1, h2 => by
    have ih := bp_last (y :: r) c
    show min _ _ < 2 + (c + 1) + (y :: r).getD c 0
    unfold bp at h1
    split at h1
    · have := ih (by omega) (Nat.lt_of_succ_lt_succ h2)
      omega
    · have := mm_le (y :: r) c (Nat.lt_of_succ_lt_succ h2)
      omega
def nx (R : List Nat) (c0 : Nat) : Nat := if 0 < c0 ∧ 2 + R.getD (c0 - 1) 0 < mm R then 2 + R.getD (c0 - 1) 0 else mm R
def RP (E : List Nat) : List Nat → List Nat
  | [] => [0]
  | x :: X => nx (RP E X) (lcn E (x :: X)) :: RP E X
theorem RP_len (E : List Nat) : ∀ X, (RP E X).length = X.length + 1
  | [] => rfl
  | x :: X => by
    show (RP E X).length + 1 = _
    rw [RP_len E X]
    rfl
theorem RP_ne (E X : List Nat) : RP E X ≠ [] := fun h => by
  have := RP_len E X
  rw [h] at this
  cases this
theorem RP_drop (E : List Nat) : ∀ (X : List Nat) (k : Nat), k ≤ X.length → (RP E X).drop k = RP E (X.drop k)
  | X, 0, _ => rfl
  | [], k + 1, h => by cases h
  | x :: X, k + 1, h => by
    show (RP E X).drop k = RP E (X.drop k)
    exact RP_drop E X k (Nat.le_of_succ_le_succ h)
theorem RP_get (E X : List Nat) (k : Nat) (h : k ≤ X.length) : (RP E X).getD k 0 = (RP E (X.drop k)).getD 0 0 := by
  rw [← RP_drop E X k h, List.getD_eq_getElem?_getD, List.getD_eq_getElem?_getD, List.getElem?_drop]
  rfl
/-- prices never rise -/
theorem RP_mono (E : List Nat) : ∀ X : List Nat, (RP E X).Pairwise (· ≥ ·)
  | [] => List.pairwise_singleton ..
  | x :: X => by
    have ih := RP_mono E X
    refine List.pairwise_cons.mpr ⟨fun z hz => ?_, ih⟩
    have key : (RP E X).getD 0 0 ≤ nx (RP E X) (lcn E (x :: X)) := by
      cases X with
      | nil => exact Nat.zero_le _
      | cons y Y =>
        have ih2 := (List.pairwise_cons.mp ih).2
        have hy : (RP E (y :: Y)).getD 0 0 = nx (RP E Y) (lcn E (y :: Y)) := rfl
        have hyl : nx (RP E Y) (lcn E (y :: Y)) ≤ mm (RP E Y) := by unfold nx; split <;> omega
        have hput : ∀ c, c < (RP E (y :: Y)).length → (RP E (y :: Y)).getD 0 0 ≤ 2 + c + (RP E (y :: Y)).getD c 0 := fun c hc => by
          cases c with
          | zero => omega
          | succ c =>
            have h1 := mm_le (RP E Y) c (Nat.lt_of_succ_lt_succ hc)
            have e : (RP E (y :: Y)).getD (c + 1) 0 = (RP E Y).getD c 0 := rfl
            omega
        have hm : (RP E (y :: Y)).getD 0 0 ≤ mm (RP E (y :: Y)) := by
          obtain ⟨h1, h2, h3⟩ := bp_at _ (RP_ne E (y :: Y))
          have := hput (bp (RP E (y :: Y)) - 1) (by omega)
          omega
        have hc : 0 < lcn E (x :: y :: Y) → (RP E (y :: Y)).getD 0 0 ≤ 2 + (RP E (y :: Y)).getD (lcn E (x :: y :: Y) - 1) 0 := fun h0 => by
          have hs := lcn_slide E (y :: Y) x
          have hle := lcn_le E (x :: y :: Y)
          rw [List.length_cons, List.length_cons] at hle
          generalize lcn E (x :: y :: Y) = c0 at *
          have hgt : ∀ i j, i < j → j < (RP E (y :: Y)).length → (RP E (y :: Y)).getD j 0 ≤ (RP E (y :: Y)).getD i 0 := fun i j hij hj => by
            rw [List.getD_eq_getElem?_getD, List.getD_eq_getElem?_getD, List.getElem?_eq_getElem hj, List.getElem?_eq_getElem (show i < _ by omega)]
            exact List.pairwise_iff_getElem.mp ih i j (by omega) hj hij
          have hl := RP_len E (y :: Y)
          rw [List.length_cons] at hl
          rcases Nat.lt_or_ge 1 c0 with z | z
          · have hd : 0 < lcn E (y :: Y) := by omega
            have hdl := lcn_le E (y :: Y)
            rw [List.length_cons] at hdl
            have e1 : nx (RP E Y) (lcn E (y :: Y)) ≤ 2 + (RP E Y).getD (lcn E (y :: Y) - 1) 0 := by
              unfold nx
              split
              · omega
              · rename_i h
                have : ¬ 2 + (RP E Y).getD (lcn E (y :: Y) - 1) 0 < mm (RP E Y) := fun q => h ⟨hd, q⟩
                omega
            have e2 : (RP E Y).getD (lcn E (y :: Y) - 1) 0 = (RP E (y :: Y)).getD (lcn E (y :: Y)) 0 := by
              rw [show lcn E (y :: Y) = (lcn E (y :: Y) - 1) + 1 by omega]
              rfl
            have e3 : (RP E (y :: Y)).getD (lcn E (y :: Y)) 0 ≤ (RP E (y :: Y)).getD (c0 - 1) 0 := by
              rcases Nat.lt_or_ge (c0 - 1) (lcn E (y :: Y)) with q | q
              · exact hgt _ _ q (by omega)
              · rw [show c0 - 1 = lcn E (y :: Y) by omega]
                exact Nat.le_refl _
            omega
          · rw [show c0 - 1 = 0 by omega]
            omega
        unfold nx at hm hc ⊢
        split
        · rename_i h
          exact hc h.1
        · exact hm
    obtain ⟨i, hi, rfl⟩ := List.mem_iff_getElem.mp hz
    show (RP E X)[i] ≤ _
    have h0 : (RP E X)[i] ≤ (RP E X).getD 0 0 := by
      rcases Nat.eq_zero_or_pos i with q | q
      · subst q
        rw [List.getD_eq_getElem?_getD, List.getElem?_eq_getElem hi]
        exact Nat.le_refl _
      · rw [List.getD_eq_getElem?_getD, List.getElem?_eq_getElem (show 0 < _ by omega)]
        exact List.pairwise_iff_getElem.mp ih 0 i (by omega) hi q
    omega
theorem RP_anti (E X : List Nat) {i j : Nat} (h : i ≤ j) (hj : j ≤ X.length) : (RP E X).getD j 0 ≤ (RP E X).getD i 0 := by
  have hl := RP_len E X
  rcases Nat.lt_or_ge i j with z | z
  · rw [List.getD_eq_getElem?_getD, List.getD_eq_getElem?_getD, List.getElem?_eq_getElem (show j < _ by omega), List.getElem?_eq_getElem (show i < _ by omega)]
    exact List.pairwise_iff_getElem.mp (RP_mono E X) i j (by omega) (by omega) z
  · rw [show i = j by omega]
    exact Nat.le_refl _
/-! ### pieces -/
inductive Pc where
  | cp (a n : Nat)
  | pt (ws : List Nat)
def isCopy (R : List Nat) (c0 : Nat) : Prop := 0 < c0 ∧ 2 + R.getD (c0 - 1) 0 ≤ mm R
instance (R : List Nat) (c0 : Nat) : Decidable (isCopy R c0) := by unfold isCopy; infer_instance
/-- what stands first: the piece and its words -/
def fstP (E : List Nat) (R : List Nat) (X : List Nat) : Pc × Nat := if isCopy R (lcn E X) then (.cp (fat E X) (lcn E X), lcn E X) else (.pt (X.take (bp R)), bp R)
def PP (E : List Nat) : List Nat → List (List Pc)
  | [] => [[]]
  | x :: X => ((fstP E (RP E X) (x :: X)).1 :: (PP E X).getD ((fstP E (RP E X) (x :: X)).2 - 1) []) :: PP E X
def pcs (E X : List Nat) : List Pc := (PP E X).getD 0 []
theorem PP_len (E : List Nat) : ∀ X, (PP E X).length = X.length + 1
  | [] => rfl
  | x :: X => by
    show (PP E X).length + 1 = _
    rw [PP_len E X]
    rfl
theorem PP_get (E : List Nat) : ∀ (X : List Nat) (k : Nat), k ≤ X.length → (PP E X).getD k [] = pcs E (X.drop k)
  | X, 0, _ => rfl
  | [], k + 1, h => by cases h
  | x :: X, k + 1, h => by
    show (PP E X).getD k [] = pcs E (X.drop k)
    exact PP_get E X k (Nat.le_of_succ_le_succ h)
theorem fstP_le (E X : List Nat) (x : Nat) : 1 ≤ (fstP E (RP E X) (x :: X)).2 ∧ (fstP E (RP E X) (x :: X)).2 ≤ X.length + 1 := by
  unfold fstP
  split
  · rename_i h
    exact ⟨h.1, lcn_le E (x :: X)⟩
  · obtain ⟨h1, h2, _⟩ := bp_at _ (RP_ne E X)
    rw [RP_len] at h2
    exact ⟨h1, h2⟩
theorem pcs_cons (E X : List Nat) (x : Nat) : pcs E (x :: X) = (fstP E (RP E X) (x :: X)).1 :: pcs E ((x :: X).drop (fstP E (RP E X) (x :: X)).2) := by
  obtain ⟨h1, h2⟩ := fstP_le E X x
  show _ :: (PP E X).getD _ [] = _
  rw [PP_get E X _ (by omega)]
  congr 1
  rw [show (x :: X).drop (fstP E (RP E X) (x :: X)).2 = X.drop ((fstP E (RP E X) (x :: X)).2 - 1) from by
    conv => lhs; rw [show (fstP E (RP E X) (x :: X)).2 = ((fstP E (RP E X) (x :: X)).2 - 1) + 1 by omega]
    rfl]
theorem pcs_nil (E : List Nat) : pcs E [] = [] := rfl
/-- the price tells it -/
theorem nx_copy (R : List Nat) (c0 : Nat) : (0 < c0 ∧ nx R c0 = 2 + R.getD (c0 - 1) 0) ↔ isCopy R c0 := by
  unfold nx isCopy
  constructor
  · rintro ⟨h0, h⟩
    refine ⟨h0, ?_⟩
    split at h
    · rename_i h2
      omega
    · omega
  · rintro ⟨h0, h⟩
    refine ⟨h0, ?_⟩
    split
    · rfl
    · rename_i h2
      have : ¬ 2 + R.getD (c0 - 1) 0 < mm R := fun z => h2 ⟨h0, z⟩
      omega
theorem nx_put {R : List Nat} {c0 : Nat} (h : ¬ isCopy R c0) : nx R c0 = mm R := by
  unfold nx
  split
  · rename_i h2
    exact absurd ⟨h2.1, Nat.le_of_lt h2.2⟩ h
  · rfl
def Pc.cost : Pc → Nat
  | .cp _ _ => 2
  | .pt ws => 1 + ws.length
def putAt (el : List Nat) : Nat → List Pc → List Nat → Nat ⊕ List Nat
  | _, [], acc => .inr acc
  | k, .pt ws :: r, acc => putAt el (k + 1) r (acc ++ ws)
  | k, .cp a n :: r, acc => if a + n > el.length then .inl k else putAt el (k + 1) r (acc ++ (el.drop a).take n)
theorem fstP_put (E X : List Nat) (x k : Nat) (r : List Pc) (acc : List Nat) : putAt E k ((fstP E (RP E X) (x :: X)).1 :: r) acc = putAt E (k + 1) r (acc ++ (x :: X).take (fstP E (RP E X) (x :: X)).2) := by
  unfold fstP
  split
  · rename_i h
    show (if fat E (x :: X) + lcn E (x :: X) > E.length then _ else _) = _
    rw [if_neg (by have := fat_len E (x :: X); omega)]
    have h1 : ((E.drop (fat E (x :: X))).take (lcn E (x :: X))) = (x :: X).take (lcn E (x :: X)) := (lcp_iff _ _ _ (lcn_le E (x :: X))).mpr (by rw [fat_at]; exact Nat.le_refl _)
    rw [h1]
  · rfl
theorem put_pcs (E : List Nat) : ∀ (n : Nat) (X : List Nat), X.length ≤ n → ∀ (k : Nat) (acc : List Nat), putAt E k (pcs E X) acc = .inr (acc ++ X)
  | n, [], _, k, acc => by
    rw [pcs_nil, List.append_nil]
    rfl
  | 0, x :: X, h, _, _ => by cases h
  | n + 1, x :: X, h, k, acc => by
    obtain ⟨h1, h2⟩ := fstP_le E X x
    rw [List.length_cons] at h
    rw [pcs_cons, fstP_put, put_pcs E n _ (by rw [List.length_drop, List.length_cons]; omega), List.append_assoc, List.take_append_drop]
theorem cost_pcs (E : List Nat) : ∀ (n : Nat) (X : List Nat), X.length ≤ n → ((pcs E X).map Pc.cost).sum = (RP E X).getD 0 0
  | n, [], _ => rfl
  | 0, x :: X, h => by cases h
  | n + 1, x :: X, h => by
    obtain ⟨h1, h2⟩ := fstP_le E X x
    rw [List.length_cons] at h
    rw [pcs_cons, List.map_cons, List.sum_cons, cost_pcs E n _ (by rw [List.length_drop, List.length_cons]; omega), ← RP_get E (x :: X) _ (by rw [List.length_cons]; omega)]
    show _ = nx (RP E X) (lcn E (x :: X))
    have e : (RP E (x :: X)).getD (fstP E (RP E X) (x :: X)).2 0 = (RP E X).getD ((fstP E (RP E X) (x :: X)).2 - 1) 0 := by
      rw [show (fstP E (RP E X) (x :: X)).2 = ((fstP E (RP E X) (x :: X)).2 - 1) + 1 by omega]
      rfl
    rw [e]
    unfold fstP at h1 h2 ⊢
    by_cases hc : isCopy (RP E X) (lcn E (x :: X))
    · rw [if_pos hc]
      exact ((nx_copy _ _).mpr hc).2.symm
    · rw [if_neg hc] at h1 h2 ⊢
      rw [nx_put hc]
      obtain ⟨b1, b2, b3⟩ := bp_at _ (RP_ne E X)
      show 1 + ((x :: X).take (bp (RP E X))).length + (RP E X).getD (bp (RP E X) - 1) 0 = _
      rw [List.length_take, List.length_cons, Nat.min_eq_left (by rw [RP_len] at b2; exact b2), b3]
theorem pcs_len (E : List Nat) : ∀ (n : Nat) (X : List Nat), X.length ≤ n → (pcs E X).length ≤ X.length ∧ ∀ ws, Pc.pt ws ∈ pcs E X → ws.length ≤ X.length
  | n, [], _ => ⟨Nat.le_refl _, fun ws h => by cases h⟩
  | 0, x :: X, h => by cases h
  | n + 1, x :: X, h => by
    obtain ⟨h1, h2⟩ := fstP_le E X x
    rw [List.length_cons] at h
    obtain ⟨i1, i2⟩ := pcs_len E n ((x :: X).drop (fstP E (RP E X) (x :: X)).2) (by rw [List.length_drop, List.length_cons]; omega)
    rw [List.length_drop, List.length_cons] at i1
    rw [pcs_cons]
    refine ⟨by rw [List.length_cons, List.length_cons]; omega, fun ws hw => ?_⟩
    rcases List.mem_cons.mp hw with z | z
    · unfold fstP at z
      split at z
      · cases z
      · have := Pc.pt.inj z
        rw [this, List.length_take]
        omega
    · have := i2 ws z
      rw [List.length_drop] at this
      omega
/-! ### the law's choices -/
structure Ch where
  pc : Pc
  n : Nat
  c : Nat
def chC (R : List Nat) (ch : Ch) : Nat := ch.c + R.getD (ch.n - 1) 0
def cpsL (E X : List Nat) (c : Nat) : List Ch := ((List.range (E.length + 1 - c)).filter fun a => decide ((E.drop a).take c = X.take c)).map fun a => ⟨.cp a c, c, 2⟩
def cps (E X : List Nat) : List Ch := (List.range X.length).flatMap fun less => cpsL E X (X.length - less)
def ptL (X : List Nat) (c : Nat) : Ch := ⟨.pt (X.take c), c, 1 + c⟩
def pts (X : List Nat) : List Ch := (List.range X.length).map fun less => ptL X (X.length - less)
theorem head_flat {β : Type} {g : Nat → List β} {m k : Nat} {y : β} {ys : List β} (hk : k < m) (e : g k = y :: ys) (h : ∀ j, j < k → g j = []) : ∃ t, (List.range m).flatMap g = y :: t := by
  obtain ⟨d, rfl⟩ : ∃ d, m = k + (d + 1) := ⟨m - k - 1, by omega⟩
  rw [List.range_add, List.flatMap_append]
  have h0 : (List.range k).flatMap g = [] := List.flatMap_eq_nil_iff.mpr fun j hj => h j (List.mem_range.mp hj)
  rw [h0, List.nil_append, List.range_succ_eq_map, List.map_cons, List.flatMap_cons, Nat.add_zero, e]
  exact ⟨_, rfl⟩
theorem head_filt {p : Nat → Bool} {m k : Nat} (hk : k < m) (e : p k = true) (h : ∀ j, j < k → p j = false) : ∃ t, (List.range m).filter p = k :: t := by
  obtain ⟨d, rfl⟩ : ∃ d, m = k + (d + 1) := ⟨m - k - 1, by omega⟩
  rw [List.range_add, List.filter_append]
  have h0 : (List.range k).filter p = [] := List.filter_eq_nil_iff.mpr fun j hj => by rw [h j (List.mem_range.mp hj)]; decide
  rw [h0, List.nil_append, List.range_succ_eq_map, List.map_cons, Nat.add_zero, List.filter_cons_of_pos e]
  exact ⟨_, rfl⟩
theorem cpsL_mem {E X : List Nat} {c : Nat} {ch : Ch} (hc : c ≤ X.length) (h : ch ∈ cpsL E X c) : ch.n = c ∧ ch.c = 2 ∧ c ≤ lcn E X := by
  obtain ⟨a, ha, rfl⟩ := List.mem_map.mp h
  have := of_decide_eq_true (List.mem_filter.mp ha).2
  exact ⟨rfl, rfl, Nat.le_trans ((lcp_iff _ _ _ hc).mp this) (lcp_lcn E X a)⟩
theorem cps_nil {E X : List Nat} (h : lcn E X = 0) : cps E X = [] := by
  refine List.flatMap_eq_nil_iff.mpr fun j hj => ?_
  have hj := List.mem_range.mp hj
  rcases hl : cpsL E X (X.length - j) with _ | ⟨y, ys⟩
  · rfl
  · have := cpsL_mem (show X.length - j ≤ X.length by omega) (show y ∈ cpsL E X (X.length - j) by rw [hl]; exact List.mem_cons_self)
    omega
theorem cps_first (E X : List Nat) (x : Nat) (h : 0 < lcn E (x :: X)) : Fst (cps E (x :: X)) ⟨.cp (fat E (x :: X)) (lcn E (x :: X)), lcn E (x :: X), 2⟩ (chC (RP E X)) := by
  have hle := lcn_le E (x :: X)
  have hfl := fat_len E (x :: X)
  have hx : (x :: X).length - ((x :: X).length - lcn E (x :: X)) = lcn E (x :: X) := by omega
  obtain ⟨t1, e1⟩ := head_filt (p := fun a => decide ((E.drop a).take (lcn E (x :: X)) = (x :: X).take (lcn E (x :: X)))) (m := E.length + 1 - lcn E (x :: X)) (k := fat E (x :: X)) (by omega) (decide_eq_true ((lcp_iff _ _ _ hle).mpr (by rw [fat_at]; exact Nat.le_refl _))) fun j hj => decide_eq_false fun z => by
    have h1 := (lcp_iff _ _ _ hle).mp z
    have h2 := fat_first E (x :: X) j hj
    omega
  have e2 : cpsL E (x :: X) (lcn E (x :: X)) = ⟨.cp (fat E (x :: X)) (lcn E (x :: X)), lcn E (x :: X), 2⟩ :: t1.map fun a => ⟨.cp a (lcn E (x :: X)), lcn E (x :: X), 2⟩ := by
    unfold cpsL
    rw [e1, List.map_cons]
  obtain ⟨t, e3⟩ := head_flat (g := fun less => cpsL E (x :: X) ((x :: X).length - less)) (m := (x :: X).length) (k := (x :: X).length - lcn E (x :: X)) (by omega) (by rw [hx]; exact e2) fun j hj => by
    rcases hl : cpsL E (x :: X) ((x :: X).length - j) with _ | ⟨y, ys⟩
    · rfl
    · have := cpsL_mem (show (x :: X).length - j ≤ (x :: X).length by omega) (show y ∈ cpsL E (x :: X) ((x :: X).length - j) by rw [hl]; exact List.mem_cons_self)
      omega
  refine ⟨⟨[], t, e3, fun y hy => by cases hy⟩, fun y hy => ?_⟩
  obtain ⟨j, hj, hy⟩ := List.mem_flatMap.mp hy
  have hj := List.mem_range.mp hj
  obtain ⟨h1, h2, h3⟩ := cpsL_mem (show (x :: X).length - j ≤ (x :: X).length by omega) hy
  show 2 + (RP E X).getD (lcn E (x :: X) - 1) 0 ≤ y.c + (RP E X).getD (y.n - 1) 0
  rw [List.length_cons] at hle
  have := RP_anti E X (i := y.n - 1) (j := lcn E (x :: X) - 1) (by omega) (by omega)
  omega
theorem pts_first (E X : List Nat) (x : Nat) : Fst (pts (x :: X)) (ptL (x :: X) (bp (RP E X))) (chC (RP E X)) := by
  obtain ⟨b1, b2, b3⟩ := bp_at _ (RP_ne E X)
  have hl := RP_len E X
  have hcost : ∀ c, 1 ≤ c → chC (RP E X) (ptL (x :: X) c) = 2 + (c - 1) + (RP E X).getD (c - 1) 0 := fun c hc => by
    show 1 + c + (RP E X).getD (c - 1) 0 = _
    omega
  have hb : chC (RP E X) (ptL (x :: X) (bp (RP E X))) = mm (RP E X) := by rw [hcost _ b1]; omega
  obtain ⟨d, hd⟩ : ∃ d, (x :: X).length = ((x :: X).length - bp (RP E X)) + (d + 1) := ⟨bp (RP E X) - 1, by rw [List.length_cons]; omega⟩
  have hxl : (x :: X).length = X.length + 1 := rfl
  refine ⟨⟨(List.range ((x :: X).length - bp (RP E X))).map fun less => ptL (x :: X) ((x :: X).length - less), ((List.range d).map fun k => (x :: X).length - bp (RP E X) + (k + 1)).map fun less => ptL (x :: X) ((x :: X).length - less), ?_, fun y hy => ?_⟩, fun y hy => ?_⟩
  · unfold pts
    conv => lhs; rw [show List.range (x :: X).length = List.range (((x :: X).length - bp (RP E X)) + (d + 1)) from by rw [← hd], List.range_add, List.map_append, List.range_succ_eq_map, List.map_cons, List.map_cons, Nat.add_zero]
    congr 1
    rw [show (x :: X).length - ((x :: X).length - bp (RP E X)) = bp (RP E X) by omega, List.map_map, List.map_map, List.map_map]
    rfl
  · obtain ⟨j, hj, rfl⟩ := List.mem_map.mp hy
    have hj := List.mem_range.mp hj
    rw [hb, hcost _ (by omega)]
    exact bp_last _ _ (by omega) (by omega)
  · obtain ⟨j, hj, rfl⟩ := List.mem_map.mp hy
    have hj := List.mem_range.mp hj
    rw [hb, hcost _ (by omega)]
    exact mm_le _ _ (by omega)
abbrev stC (R : List Nat) := stepS (fun (_ : Ch) => true) (chC R)
/-- a first copy, if there is one -/
def cp0 (E X : List Nat) : Option Ch := if 0 < lcn E X then some ⟨.cp (fat E X) (lcn E X), lcn E X, 2⟩ else none
def best (E X : List Nat) (R : List Nat) : Ch := ⟨(fstP E R X).1, (fstP E R X).2, (fstP E R X).1.cost⟩
theorem best_puts (E X : List Nat) (x : Nat) : (pts (x :: X)).foldl (stC (RP E X)) (cp0 E (x :: X)) = some (best E (x :: X) (RP E X)) := by
  rw [fold_group (pts_first E X x) (fun _ _ _ => rfl)]
  obtain ⟨b1, b2, b3⟩ := bp_at _ (RP_ne E X)
  have hl := RP_len E X
  have hp : chC (RP E X) (ptL (x :: X) (bp (RP E X))) = mm (RP E X) := by
    show 1 + bp (RP E X) + (RP E X).getD (bp (RP E X) - 1) 0 = _
    omega
  have hw : (⟨Pc.pt ((x :: X).take (bp (RP E X))), bp (RP E X), (Pc.pt ((x :: X).take (bp (RP E X)))).cost⟩ : Ch) = ptL (x :: X) (bp (RP E X)) := by
    unfold ptL Pc.cost
    have : ((x :: X).take (bp (RP E X))).length = bp (RP E X) := by
      rw [List.length_take, List.length_cons]
      omega
    simp only [this]
  unfold stepS best fstP cp0
  by_cases hc : isCopy (RP E X) (lcn E (x :: X))
  · rw [if_pos hc.1, if_pos hc, if_neg]
    · rfl
    · rintro ⟨_, h⟩
      have h : chC (RP E X) (ptL (x :: X) (bp (RP E X))) < 2 + (RP E X).getD (lcn E (x :: X) - 1) 0 := h
      have := hc.2
      omega
  · rw [if_neg hc, if_pos]
    · rw [hw]
    · refine ⟨rfl, ?_⟩
      by_cases h0 : 0 < lcn E (x :: X)
      · rw [if_pos h0]
        show chC (RP E X) (ptL (x :: X) (bp (RP E X))) < 2 + (RP E X).getD (lcn E (x :: X) - 1) 0
        have : ¬ 2 + (RP E X).getD (lcn E (x :: X) - 1) 0 ≤ mm (RP E X) := fun z => hc ⟨h0, z⟩
        omega
      · rw [if_neg h0]
        exact trivial
theorem best_all (E X : List Nat) (x : Nat) : (cps E (x :: X) ++ pts (x :: X)).foldl (stC (RP E X)) none = some (best E (x :: X) (RP E X)) := by
  rw [List.foldl_append, ← best_puts]
  congr 1
  unfold cp0
  by_cases h0 : 0 < lcn E (x :: X)
  · rw [if_pos h0, fold_group (cps_first E X x h0) (fun _ _ _ => rfl)]
    unfold stepS
    rw [if_pos ⟨rfl, trivial⟩]
  · rw [if_neg h0, cps_nil (by omega)]
    rfl
theorem best_cost (E X : List Nat) (x : Nat) : chC (RP E X) (best E (x :: X) (RP E X)) = nx (RP E X) (lcn E (x :: X)) := by
  unfold best chC fstP
  by_cases hc : isCopy (RP E X) (lcn E (x :: X))
  · rw [if_pos hc]
    exact ((nx_copy _ _).mpr hc).2.symm
  · rw [if_neg hc, nx_put hc]
    obtain ⟨b1, b2, b3⟩ := bp_at _ (RP_ne E X)
    have hl := RP_len E X
    show 1 + ((x :: X).take (bp (RP E X))).length + (RP E X).getD (bp (RP E X) - 1) 0 = _
    rw [List.length_take, List.length_cons, Nat.min_eq_left (by omega), b3]
end DL

namespace RK
open PySem PySem.Spec PyProof.Rows L2
/-! finding up to a place -/
theorem at_txWh {E w : List Nat} {i h : Nat} (hE : ∀ x ∈ E, x ≤ 65535) (hw : ∀ x ∈ w, x ≤ 65535) (hne : w ≠ []) (hh : h ≤ E.length) : StrLaws.At (sO (txW E)) (sO (txW w)) (5 * h) i ↔ ∃ a, i = 5 * a ∧ occW E w a ∧ a + w.length ≤ h := by
  have hl : (sO (txW w)).length = 5 * w.length := by rw [sO_len, txW_len]
  have hL : (sO (txW E)).length = 5 * E.length := by rw [sO_len, txW_len]
  constructor
  · rintro ⟨h1, h2⟩
    obtain ⟨a, rfl, ha⟩ := (at_txW hE hw hne).mp ⟨by rw [hL]; rw [hl] at h1 ⊢; omega, h2⟩
    exact ⟨a, rfl, ha, by rw [hl] at h1; omega⟩
  · rintro ⟨a, rfl, ha, hb⟩
    obtain ⟨_, h2⟩ := (at_txW hE hw hne).mpr ⟨a, rfl, ha⟩
    exact ⟨by rw [hl]; omega, h2⟩
theorem occ_headH (x y : Str) (hi limit : Nat) (hl : 1 ≤ limit) :
    (Builtin.Str.occurrences x y 0 hi limit = [] ∧ ∀ i, ¬ StrLaws.At x y hi i) ∨ ∃ i r, Builtin.Str.occurrences x y 0 hi limit = i :: r ∧ StrLaws.At x y hi i ∧ ∀ k, k < i → ¬ StrLaws.At x y hi k := by
  rw [StrLaws.occ_eq]
  rcases StrLaws.occ_first x y hi limit hl (List.range' 0 (hi + 1 - 0)) 0 (fun _ _ => Nat.zero_le _) with ⟨h0, hn⟩ | ⟨pre, a, post, e, h0, ha, hn⟩
  · refine .inl ⟨by rw [h0], fun i hi' => ?_⟩
    exact hn i (by have := hi'.1; simp [List.mem_range'] <;> omega) hi'
  · refine .inr ⟨a, ((forIn (List.range' 0 (hi + 1 - 0)) ((#[] : Array Nat), 0) (StrLaws.occBody x y hi limit)).run.fst.toList).tail, ?_, ha, fun k hk => hn k (StrLaws.range'_split e k hk)⟩
    generalize (forIn (List.range' 0 (hi + 1 - 0)) ((#[] : Array Nat), 0) (StrLaws.occBody x y hi limit)).run.fst = arr at h0
    have h1 : arr.toList[0]? = some a := by simpa using h0
    cases hL : arr.toList with
    | nil => rw [hL] at h1; cases h1
    | cons b t => rw [hL] at h1; simp at h1; rw [h1]; rfl
theorem toW {len j : Nat} (h : j ≤ len) : PySem.toIndexW len ((j : Nat) : Int) = j := by
  unfold PySem.toIndexW
  rw [if_neg (by omega)]
  omega
theorem fromZ (len : Nat) : PySem.fromIndex len 0 = 0 := by
  unfold PySem.fromIndex
  rw [if_neg (by omega)]
  rfl
theorem findH_ge {E w : List Nat} {h a : Nat} (hE : ∀ x ∈ E, x ≤ 65535) (hw : ∀ x ∈ w, x ≤ 65535) (hne : w ≠ []) (hh : h ≤ E.length) (ha : occW E w a) (hb : a + w.length ≤ h) : 0 ≤ Txt.findIn (sO (txW E)) (sO (txW w)) 0 ((5 * h : Nat) : Int) := by
  unfold Txt.findIn
  rw [fromZ, toW (by rw [sO_len, txW_len]; omega)]
  rcases occ_headH (sO (txW E)) (sO (txW w)) (5 * h) 1 (Nat.le_refl _) with ⟨_, h0⟩ | ⟨i, r, e, _, _⟩
  · exact absurd ((at_txWh hE hw hne hh).mpr ⟨a, rfl, ha, hb⟩) (h0 _)
  · rw [e]
    show (0 : Int) ≤ ((i : Nat) : Int)
    omega
theorem findH_no {E w : List Nat} {h : Nat} (hE : ∀ x ∈ E, x ≤ 65535) (hw : ∀ x ∈ w, x ≤ 65535) (hne : w ≠ []) (hh : h ≤ E.length) (hn : ∀ a, occW E w a → ¬ a + w.length ≤ h) : Txt.findIn (sO (txW E)) (sO (txW w)) 0 ((5 * h : Nat) : Int) = -1 := by
  unfold Txt.findIn
  rw [fromZ, toW (by rw [sO_len, txW_len]; omega)]
  rcases occ_headH (sO (txW E)) (sO (txW w)) (5 * h) 1 (Nat.le_refl _) with ⟨h0, _⟩ | ⟨i, r, _, h1, _⟩
  · rw [h0]
  · obtain ⟨a, _, ha, hb⟩ := (at_txWh hE hw hne hh).mp h1
    exact absurd hb (hn a ha)
/-- the last one -/
theorem last_specH (x y : Str) (hi : Nat) : (Builtin.Str.lastOccurrence x y 0 hi = none ∧ ∀ i, ¬ StrLaws.At x y hi i) ∨ ∃ i, Builtin.Str.lastOccurrence x y 0 hi = some i ∧ StrLaws.At x y hi i ∧ ∀ k, i < k → ¬ StrLaws.At x y hi k := by
  rw [StrLaws.last_eq]
  have key := StrLaws.last_run x y hi (List.range' 0 (hi + 1 - 0)) [] none (fun _ h => nomatch h) (fun _ h => nomatch h) (by simpa using List.pairwise_lt_range' (s := 0) (n := hi + 1 - 0))
  have mem : ∀ i, StrLaws.At x y hi i → i ∈ [] ++ List.range' 0 (hi + 1 - 0) := fun i hi' => by have := hi'.1; simp [List.mem_range'] <;> omega
  cases hr : (forIn (List.range' 0 (hi + 1 - 0)) none (StrLaws.lastBody x y hi)).run with
  | none => rw [hr] at key; exact .inl ⟨rfl, fun i hi => key i (mem i hi) hi⟩
  | some a => rw [hr] at key; exact .inr ⟨a, rfl, key.1, fun k hk hA => key.2 k (mem k hA) hk hA⟩
theorem rfindH {E w : List Nat} {h a : Nat} (hE : ∀ x ∈ E, x ≤ 65535) (hw : ∀ x ∈ w, x ≤ 65535) (hne : w ≠ []) (hh : h ≤ E.length) (ha : occW E w a) (hb : a + w.length ≤ h) (hl : ∀ b, a < b → b + w.length ≤ h → ¬ occW E w b) : Txt.rfindIn (sO (txW E)) (sO (txW w)) 0 ((5 * h : Nat) : Int) = ((5 * a : Nat) : Int) := by
  unfold Txt.rfindIn
  rw [fromZ, toW (by rw [sO_len, txW_len]; omega)]
  rcases last_specH (sO (txW E)) (sO (txW w)) (5 * h) with ⟨_, h0⟩ | ⟨i, e, h1, h2⟩
  · exact absurd ((at_txWh hE hw hne hh).mpr ⟨a, rfl, ha, hb⟩) (h0 _)
  · rw [e]
    obtain ⟨b, rfl, hb1, hb2⟩ := (at_txWh hE hw hne hh).mp h1
    have h3 : ¬ a < b := fun z => hl b z hb2 hb1
    have h4 : ¬ b < a := fun z => h2 (5 * a) (by omega) ((at_txWh hE hw hne hh).mpr ⟨a, rfl, ha, hb⟩)
    show ((5 * b : Nat) : Int) = _
    rw [show b = a by omega]
end RK

namespace SZ
open PT DL
/-! ### what stands before -/
/-- the longest of the places before m -/
def bkA (W X : List Nat) : Nat → Nat
  | 0 => 0
  | m + 1 => max (bkA W X m) (lcp (W.drop m) X)
/-- the last place of the longest -/
def lsA (W X : List Nat) : Nat → Nat
  | 0 => 0
  | m + 1 => if bkA W X m ≤ lcp (W.drop m) X then m else lsA W X m
theorem bkA_le (W X : List Nat) : ∀ m, bkA W X m ≤ X.length
  | 0 => Nat.zero_le _
  | m + 1 => Nat.max_le.mpr ⟨bkA_le W X m, (lcp_le _ _).2⟩
theorem bkA_ge (W X : List Nat) : ∀ (m a : Nat), a < m → lcp (W.drop a) X ≤ bkA W X m
  | 0, a, h => by cases h
  | m + 1, a, h => by
    rcases Nat.lt_succ_iff_lt_or_eq.mp h with z | z
    · exact Nat.le_trans (bkA_ge W X m a z) (Nat.le_max_left _ _)
    · subst z
      exact Nat.le_max_right _ _
theorem lsA_at (W X : List Nat) : ∀ m, 0 < m → lsA W X m < m ∧ lcp (W.drop (lsA W X m)) X = bkA W X m ∧ ∀ a, lsA W X m < a → a < m → lcp (W.drop a) X < bkA W X m
  | 0, h => by cases h
  | m + 1, _ => by
    show (if bkA W X m ≤ lcp (W.drop m) X then m else lsA W X m) < m + 1 ∧ lcp (W.drop (if bkA W X m ≤ lcp (W.drop m) X then m else lsA W X m)) X = max (bkA W X m) (lcp (W.drop m) X) ∧ ∀ a, (if bkA W X m ≤ lcp (W.drop m) X then m else lsA W X m) < a → a < m + 1 → lcp (W.drop a) X < max (bkA W X m) (lcp (W.drop m) X)
    by_cases h : bkA W X m ≤ lcp (W.drop m) X
    · rw [if_pos h]
      exact ⟨Nat.lt_succ_self _, by omega, fun a h1 h2 => by omega⟩
    · rw [if_neg h]
      have hm : 0 < m := by
        rcases Nat.eq_zero_or_pos m with z | z
        · subst z
          exact absurd (Nat.zero_le _) h
        · exact z
      obtain ⟨h1, h2, h3⟩ := lsA_at W X m hm
      refine ⟨by omega, by omega, fun a ha hb => ?_⟩
      rcases Nat.lt_succ_iff_lt_or_eq.mp hb with z | z
      · have := h3 a ha z
        omega
      · subst z
        omega
def bk (W : List Nat) (p : Nat) : Nat := bkA W (W.drop p) p
def dst (W : List Nat) (p : Nat) : Nat := p - lsA W (W.drop p) p
theorem bk_le (W : List Nat) (p : Nat) : bk W p ≤ W.length - p := by
  have := bkA_le W (W.drop p) p
  rw [List.length_drop] at this
  exact this
theorem bk_slide (W : List Nat) (p : Nat) (h : p < W.length) : bk W p ≤ bk W (p + 1) + 1 := by
  rcases Nat.eq_zero_or_pos p with z | z
  · subst z
    exact Nat.zero_le _
  · obtain ⟨h1, h2, _⟩ := lsA_at W (W.drop p) p z
    have e : W.drop p = W[p] :: W.drop (p + 1) := List.drop_eq_getElem_cons h
    have h3 := lcp_cons_le (W.drop (lsA W (W.drop p) p)) (W.drop (p + 1)) W[p]
    rw [← e, List.drop_drop] at h3
    have h4 := bkA_ge W (W.drop (p + 1)) (p + 1) (lsA W (W.drop p) p + 1) (by omega)
    show bkA W (W.drop p) p ≤ bkA W (W.drop (p + 1)) (p + 1) + 1
    omega
theorem bk_dst {W : List Nat} {p : Nat} (h : 0 < bk W p) : 1 ≤ dst W p ∧ dst W p ≤ p ∧ lcp (W.drop (p - dst W p)) (W.drop p) = bk W p ∧ ∀ d, 1 ≤ d → d < dst W p → lcp (W.drop (p - d)) (W.drop p) < bk W p := by
  have hp : 0 < p := by
    rcases Nat.eq_zero_or_pos p with z | z
    · subst z
      exact absurd h (by unfold bk bkA; omega)
    · exact z
  obtain ⟨h1, h2, h3⟩ := lsA_at W (W.drop p) p hp
  unfold dst
  refine ⟨by omega, by omega, ?_, fun d hd1 hd2 => ?_⟩
  · rw [show p - (p - lsA W (W.drop p) p) = lsA W (W.drop p) p by omega]
    exact h2
  · exact h3 _ (by omega) (by omega)
theorem bk_ge {W : List Nat} {p d : Nat} (h1 : 1 ≤ d) (h2 : d ≤ p) : lcp (W.drop (p - d)) (W.drop p) ≤ bk W p := bkA_ge W (W.drop p) p (p - d) (by omega)
/-! ### runs -/
def rl : List Nat → Nat
  | [] => 0
  | [_] => 1
  | x :: y :: r => if x = y then rl (y :: r) + 1 else 1
theorem rl_le : ∀ X : List Nat, rl X ≤ X.length
  | [] => Nat.le_refl _
  | [_] => Nat.le_refl _
  | x :: y :: r => by
    have := rl_le (y :: r)
    show (if x = y then rl (y :: r) + 1 else 1) ≤ (y :: r).length + 1
    split <;> omega
theorem rl_pos (x : Nat) (X : List Nat) : 1 ≤ rl (x :: X) := by
  cases X with
  | nil => exact Nat.le_refl _
  | cons y r =>
    show 1 ≤ (if x = y then rl (y :: r) + 1 else 1)
    split <;> omega
theorem rl_slide (x : Nat) (X : List Nat) : rl (x :: X) ≤ rl X + 1 := by
  cases X with
  | nil => exact Nat.le_refl _
  | cons y r =>
    show (if x = y then rl (y :: r) + 1 else 1) ≤ _
    split <;> omega
/-- a run of c words -/
theorem rl_iff : ∀ (x : Nat) (X : List Nat) (c : Nat), c ≤ (x :: X).length → ((x :: X).take c = List.replicate c x ↔ c ≤ rl (x :: X))
  | x, [], c, h => by
    have : c = 0 ∨ c = 1 := by
      simp at h
      omega
    rcases this with z | z <;> subst z
    · exact ⟨fun _ => Nat.zero_le _, fun _ => rfl⟩
    · exact ⟨fun _ => Nat.le_refl _, fun _ => rfl⟩
  | x, y :: r, 0, _ => ⟨fun _ => Nat.zero_le _, fun _ => rfl⟩
  | x, y :: r, c + 1, h => by
    rw [List.take_succ_cons, List.replicate_succ]
    have hl : c ≤ (y :: r).length := Nat.le_of_succ_le_succ h
    have ih := rl_iff y r c hl
    show _ ↔ c + 1 ≤ (if x = y then rl (y :: r) + 1 else 1)
    by_cases e : x = y
    · rw [if_pos e]
      subst e
      constructor
      · intro z
        exact Nat.succ_le_succ (ih.mp (List.cons.inj z).2)
      · intro z
        rw [ih.mpr (Nat.le_of_succ_le_succ z)]
    · rw [if_neg e]
      constructor
      · intro z
        cases c with
        | zero => exact Nat.le_refl _
        | succ c =>
          have z2 := (List.cons.inj z).2
          rw [List.take_succ_cons, List.replicate_succ] at z2
          exact absurd (List.cons.inj z2).1.symm e
      · intro z
        have : c = 0 := by omega
        subst this
        rfl
/-! ### prices -/
def st1 (R : List Nat) (c m : Nat) : Nat := if 0 < c ∧ 2 + R.getD (c - 1) 0 < m then 2 + R.getD (c - 1) 0 else m
def nx2 (R : List Nat) (b r : Nat) : Nat := st1 R r (st1 R b (mm R))
def RG (b r : Nat → Nat) (n : Nat) : Nat → List Nat
  | 0 => [0]
  | k + 1 => nx2 (RG b r n k) (b (n - k - 1)) (r (n - k - 1)) :: RG b r n k
theorem RG_len (b r : Nat → Nat) (n : Nat) : ∀ k, (RG b r n k).length = k + 1
  | 0 => rfl
  | k + 1 => congrArg (· + 1) (RG_len b r n k)
theorem RG_ne (b r : Nat → Nat) (n k : Nat) : RG b r n k ≠ [] := fun h => by
  have := RG_len b r n k
  rw [h] at this
  cases this
theorem RG_drop (b r : Nat → Nat) (n : Nat) : ∀ (k j : Nat), j ≤ k → (RG b r n k).drop j = RG b r n (k - j)
  | k, 0, _ => rfl
  | 0, j + 1, h => by cases h
  | k + 1, j + 1, h => by
    show (RG b r n k).drop j = _
    rw [RG_drop b r n k j (Nat.le_of_succ_le_succ h), Nat.succ_sub_succ]
theorem RG_get (b r : Nat → Nat) (n k j : Nat) (h : j ≤ k) : (RG b r n k).getD j 0 = (RG b r n (k - j)).getD 0 0 := by
  rw [← RG_drop b r n k j h, List.getD_eq_getElem?_getD, List.getD_eq_getElem?_getD, List.getElem?_drop]
  rfl
theorem st1_le (R : List Nat) (c m : Nat) : st1 R c m ≤ m := by unfold st1; split <;> omega
theorem st1_le2 (R : List Nat) {c m : Nat} (h : 0 < c) : st1 R c m ≤ 2 + R.getD (c - 1) 0 := by
  unfold st1
  split
  · omega
  · rename_i z
    have : ¬ 2 + R.getD (c - 1) 0 < m := fun w => z ⟨h, w⟩
    omega
theorem nx2_mm (R : List Nat) (b r : Nat) : nx2 R b r ≤ mm R := Nat.le_trans (st1_le _ _ _) (st1_le _ _ _)
theorem nx2_b (R : List Nat) {b r : Nat} (h : 0 < b) : nx2 R b r ≤ 2 + R.getD (b - 1) 0 := Nat.le_trans (st1_le _ _ _) (st1_le2 _ h)
theorem nx2_r (R : List Nat) {b r : Nat} (h : 0 < r) : nx2 R b r ≤ 2 + R.getD (r - 1) 0 := st1_le2 _ h
theorem st1_ge (R : List Nat) (c m z : Nat) (h1 : z ≤ m) (h2 : 0 < c → z ≤ 2 + R.getD (c - 1) 0) : z ≤ st1 R c m := by
  unfold st1
  split
  · rename_i h
    exact h2 h.1
  · exact h1
theorem nx2_ge (R : List Nat) (b r z : Nat) (h1 : z ≤ mm R) (h2 : 0 < b → z ≤ 2 + R.getD (b - 1) 0) (h3 : 0 < r → z ≤ 2 + R.getD (r - 1) 0) : z ≤ nx2 R b r := st1_ge _ _ _ _ (st1_ge _ _ _ _ h1 h2) h3
structure Sl (b r : Nat → Nat) (n : Nat) : Prop where
  bl : ∀ p, p < n → b p ≤ n - p
  rl : ∀ p, p < n → r p ≤ n - p
  bs : ∀ p, p + 1 < n → b p ≤ b (p + 1) + 1
  rs : ∀ p, p + 1 < n → r p ≤ r (p + 1) + 1
theorem RG_mono {b r : Nat → Nat} {n : Nat} (S : Sl b r n) : ∀ k, k ≤ n → (RG b r n k).Pairwise (· ≥ ·)
  | 0, _ => List.pairwise_singleton ..
  | k + 1, hk => by
    have ih := RG_mono S k (by omega)
    refine List.pairwise_cons.mpr ⟨fun z hz => ?_, ih⟩
    have hl := RG_len b r n k
    have hgt : ∀ i j, i ≤ j → j ≤ k → (RG b r n k).getD j 0 ≤ (RG b r n k).getD i 0 := fun i j hij hj => by
      rcases Nat.lt_or_ge i j with q | q
      · rw [List.getD_eq_getElem?_getD, List.getD_eq_getElem?_getD, List.getElem?_eq_getElem (show j < _ by omega), List.getElem?_eq_getElem (show i < _ by omega)]
        exact List.pairwise_iff_getElem.mp ih i j (by omega) (by omega) q
      · rw [show i = j by omega]
        exact Nat.le_refl _
    have key : (RG b r n k).getD 0 0 ≤ nx2 (RG b r n k) (b (n - k - 1)) (r (n - k - 1)) := by
      cases k with
      | zero => exact Nat.zero_le _
      | succ k =>
        have hy : (RG b r n (k + 1)).getD 0 0 = nx2 (RG b r n k) (b (n - k - 1)) (r (n - k - 1)) := rfl
        have htl : ∀ c, (RG b r n (k + 1)).getD (c + 1) 0 = (RG b r n k).getD c 0 := fun c => rfl
        have hlk := RG_len b r n k
        have hp : n - (k + 1) - 1 + 1 = n - k - 1 := by omega
        have step : ∀ c c', 0 < c → c ≤ c' + 1 → c' ≤ k + 1 → c ≤ k + 2 → (0 < c' → (RG b r n (k + 1)).getD 0 0 ≤ 2 + (RG b r n k).getD (c' - 1) 0) → (RG b r n (k + 1)).getD 0 0 ≤ 2 + (RG b r n (k + 1)).getD (c - 1) 0 := fun c c' h0 h1 h2 h3 h4 => by
          rcases Nat.lt_or_ge 1 c with z | z
          · have h5 := h4 (by omega)
            have e2 : (RG b r n k).getD (c' - 1) 0 = (RG b r n (k + 1)).getD c' 0 := by
              rw [← htl, show c' - 1 + 1 = c' by omega]
            have e3 := hgt (c - 1) c' (by omega) (by omega)
            omega
          · rw [show c - 1 = 0 by omega]
            omega
        refine nx2_ge _ _ _ _ ?_ (fun h => ?_) (fun h => ?_)
        · obtain ⟨b1, b2, b3⟩ := bp_at _ (RG_ne b r n (k + 1))
          rw [b3]
          rcases Nat.eq_zero_or_pos (bp (RG b r n (k + 1)) - 1) with z | z
          · rw [z]
            omega
          · have h1 := mm_le (RG b r n k) (bp (RG b r n (k + 1)) - 1 - 1) (by omega)
            have h2 := nx2_mm (RG b r n k) (b (n - k - 1)) (r (n - k - 1))
            have h3 := htl (bp (RG b r n (k + 1)) - 1 - 1)
            rw [show bp (RG b r n (k + 1)) - 1 - 1 + 1 = bp (RG b r n (k + 1)) - 1 by omega] at h3
            omega
        · refine step _ (b (n - k - 1)) h ?_ ?_ ?_ fun h' => ?_
          · have := S.bs (n - (k + 1) - 1) (by omega)
            rw [hp] at this
            exact this
          · have := S.bl (n - k - 1) (by omega)
            omega
          · have := S.bl (n - (k + 1) - 1) (by omega)
            omega
          · rw [hy]
            exact nx2_b _ h'
        · refine step _ (r (n - k - 1)) h ?_ ?_ ?_ fun h' => ?_
          · have := S.rs (n - (k + 1) - 1) (by omega)
            rw [hp] at this
            exact this
          · have := S.rl (n - k - 1) (by omega)
            omega
          · have := S.rl (n - (k + 1) - 1) (by omega)
            omega
          · rw [hy]
            exact nx2_r _ h'
    obtain ⟨i, hi, rfl⟩ := List.mem_iff_getElem.mp hz
    have h0 := hgt 0 i (Nat.zero_le _) (by omega)
    rw [List.getD_eq_getElem?_getD, List.getElem?_eq_getElem hi] at h0
    exact Nat.le_trans h0 key
theorem RG_anti {b r : Nat → Nat} {n : Nat} (S : Sl b r n) {k i j : Nat} (hk : k ≤ n) (h : i ≤ j) (hj : j ≤ k) : (RG b r n k).getD j 0 ≤ (RG b r n k).getD i 0 := by
  have hl := RG_len b r n k
  rcases Nat.lt_or_ge i j with q | q
  · rw [List.getD_eq_getElem?_getD, List.getD_eq_getElem?_getD, List.getElem?_eq_getElem (show j < _ by omega), List.getElem?_eq_getElem (show i < _ by omega)]
    exact List.pairwise_iff_getElem.mp (RG_mono S k hk) i j (by omega) (by omega) q
  · rw [show i = j by omega]
    exact Nat.le_refl _
theorem sl_of (W : List Nat) : Sl (bk W) (fun p => rl (W.drop p)) W.length where
  bl := fun p _ => bk_le W p
  rl := fun p h => by have := SZ.rl_le (W.drop p); rw [List.length_drop] at this; exact this
  bs := fun p h => bk_slide W p (by omega)
  rs := fun p h => by
    have e : W.drop p = W[p] :: W.drop (p + 1) := List.drop_eq_getElem_cons (by omega)
    show SZ.rl (W.drop p) ≤ SZ.rl (W.drop (p + 1)) + 1
    rw [e]
    exact rl_slide _ _
end SZ

namespace SZ
open PT DL
inductive Pz where
  | bk (n d : Nat)
  | rn (n w : Nat)
  | pt (ws : List Nat)
def Pz.own : Pz → List Nat
  | .bk n d => [32768 + n, d]
  | .rn n w => [16384 + n, w]
  | .pt ws => ws.length :: ws
def Pz.cnt : Pz → Nat
  | .bk n _ => n
  | .rn n _ => n
  | .pt ws => ws.length
structure Cz where
  pc : Pz
  n : Nat
  c : Nat
def czC (R : List Nat) (ch : Cz) : Nat := ch.c + R.getD (ch.n - 1) 0
abbrev szS (R : List Nat) := stepS (fun (_ : Cz) => true) (czC R)
/-! ### the choices -/
def bkL (W : List Nat) (p c : Nat) : List Cz := ((List.range p).filter fun i => decide ((W.drop p).take c = (W.drop (p - (i + 1))).take c)).map fun i => ⟨.bk c (i + 1), c, 2⟩
def bks (W : List Nat) (p : Nat) : List Cz := (List.range (W.length - p)).flatMap fun less => bkL W p (W.length - p - less)
def rnC (x c : Nat) : Cz := ⟨.rn c x, c, 2⟩
def rns (W : List Nat) (p : Nat) : List Cz := ((List.range (W.length - p)).filter fun less => decide ((W.drop p).take (W.length - p - less) = List.replicate (W.length - p - less) (W.getD p 0))).map fun less => rnC (W.getD p 0) (W.length - p - less)
def ptC (X : List Nat) (c : Nat) : Cz := ⟨.pt (X.take c), c, 1 + c⟩
def ptz (W : List Nat) (p : Nat) : List Cz := (List.range (W.length - p)).map fun less => ptC (W.drop p) (W.length - p - less)
theorem bkL_mem {W : List Nat} {p c : Nat} {ch : Cz} (hc : c ≤ W.length - p) (h : ch ∈ bkL W p c) : ch.n = c ∧ ch.c = 2 ∧ c ≤ bk W p := by
  obtain ⟨i, hi, rfl⟩ := List.mem_map.mp h
  obtain ⟨h1, h2⟩ := List.mem_filter.mp hi
  have h1 := List.mem_range.mp h1
  have h2 := of_decide_eq_true h2
  have h3 := (lcp_iff c (W.drop (p - (i + 1))) (W.drop p) (by rw [List.length_drop]; exact hc)).mp h2.symm
  exact ⟨rfl, rfl, Nat.le_trans h3 (bk_ge (by omega) (by omega))⟩
theorem bks_nil {W : List Nat} {p : Nat} (h : bk W p = 0) : bks W p = [] := by
  refine List.flatMap_eq_nil_iff.mpr fun j hj => ?_
  have hj := List.mem_range.mp hj
  rcases hl : bkL W p (W.length - p - j) with _ | ⟨y, ys⟩
  · rfl
  · have := bkL_mem (show W.length - p - j ≤ W.length - p by omega) (show y ∈ bkL W p (W.length - p - j) by rw [hl]; exact List.mem_cons_self)
    omega
section
variable {W R : List Nat} {p : Nat} (hR : R.length = W.length - p) (hm : ∀ i j, i ≤ j → j < W.length - p → R.getD j 0 ≤ R.getD i 0) (hp : p < W.length)
include hm hp
theorem bks_first (h : 0 < bk W p) : Fst (bks W p) ⟨.bk (bk W p) (dst W p), bk W p, 2⟩ (czC R) := by
  have hle := bk_le W p
  obtain ⟨d1, d2, d3, d4⟩ := bk_dst h
  have hx : W.length - p - (W.length - p - bk W p) = bk W p := by omega
  have hX : bk W p ≤ (W.drop p).length := by rw [List.length_drop]; exact hle
  obtain ⟨t1, e1⟩ := head_filt (p := fun i => decide ((W.drop p).take (bk W p) = (W.drop (p - (i + 1))).take (bk W p))) (m := p) (k := dst W p - 1) (by omega) (decide_eq_true (by rw [show dst W p - 1 + 1 = dst W p by omega]; exact ((lcp_iff _ _ _ hX).mpr (by rw [d3]; exact Nat.le_refl _)).symm)) fun j hj => decide_eq_false fun z => by
    have h1 := (lcp_iff _ _ _ hX).mp z.symm
    have h2 := d4 (j + 1) (by omega) (by omega)
    omega
  have e2 : bkL W p (bk W p) = ⟨.bk (bk W p) (dst W p), bk W p, 2⟩ :: t1.map fun i => ⟨.bk (bk W p) (i + 1), bk W p, 2⟩ := by
    unfold bkL
    rw [e1, List.map_cons, show dst W p - 1 + 1 = dst W p by omega]
  obtain ⟨t, e3⟩ := head_flat (g := fun less => bkL W p (W.length - p - less)) (m := W.length - p) (k := W.length - p - bk W p) (by omega) (by rw [hx]; exact e2) fun j hj => by
    rcases hl : bkL W p (W.length - p - j) with _ | ⟨y, ys⟩
    · rfl
    · have := bkL_mem (show W.length - p - j ≤ W.length - p by omega) (show y ∈ bkL W p (W.length - p - j) by rw [hl]; exact List.mem_cons_self)
      omega
  refine ⟨⟨[], t, e3, fun y hy => by cases hy⟩, fun y hy => ?_⟩
  obtain ⟨j, hj, hy⟩ := List.mem_flatMap.mp hy
  have hj := List.mem_range.mp hj
  obtain ⟨h1, h2, h3⟩ := bkL_mem (show W.length - p - j ≤ W.length - p by omega) hy
  show 2 + R.getD (bk W p - 1) 0 ≤ y.c + R.getD (y.n - 1) 0
  have := hm (y.n - 1) (bk W p - 1) (by omega) (by omega)
  omega
theorem rns_first : Fst (rns W p) (rnC (W.getD p 0) (rl (W.drop p))) (czC R) := by
  have e : W.drop p = W.getD p 0 :: W.drop (p + 1) := by
    rw [List.drop_eq_getElem_cons hp, List.getD_eq_getElem?_getD, List.getElem?_eq_getElem hp]
    rfl
  have hle := SZ.rl_le (W.drop p)
  have hpos : 1 ≤ rl (W.drop p) := by rw [e]; exact rl_pos _ _
  rw [List.length_drop] at hle
  have hiff : ∀ c, c ≤ W.length - p → ((W.drop p).take c = List.replicate c (W.getD p 0) ↔ c ≤ rl (W.drop p)) := fun c hc => by
    have := rl_iff (W.getD p 0) (W.drop (p + 1)) c (by rw [← e, List.length_drop]; exact hc)
    rw [← e] at this
    exact this
  obtain ⟨t, e1⟩ := head_filt (p := fun less => decide ((W.drop p).take (W.length - p - less) = List.replicate (W.length - p - less) (W.getD p 0))) (m := W.length - p) (k := W.length - p - rl (W.drop p)) (by omega) (decide_eq_true ((hiff _ (by omega)).mpr (by omega))) fun j hj => decide_eq_false fun z => by
    have := (hiff _ (by omega)).mp z
    omega
  refine ⟨⟨[], t.map fun less => rnC (W.getD p 0) (W.length - p - less), ?_, fun y hy => by cases hy⟩, fun y hy => ?_⟩
  · unfold rns
    rw [e1, List.map_cons, show W.length - p - (W.length - p - rl (W.drop p)) = rl (W.drop p) by omega]
    rfl
  · obtain ⟨j, hj, rfl⟩ := List.mem_map.mp hy
    obtain ⟨h1, h2⟩ := List.mem_filter.mp hj
    have h1 := List.mem_range.mp h1
    have h2 := (hiff _ (by omega)).mp (of_decide_eq_true h2)
    show 2 + R.getD (rl (W.drop p) - 1) 0 ≤ 2 + R.getD (W.length - p - j - 1) 0
    have := hm (W.length - p - j - 1) (rl (W.drop p) - 1) (by omega) (by omega)
    omega
omit hm
include hR
theorem ptz_first : Fst (ptz W p) (ptC (W.drop p) (bp R)) (czC R) := by
  have hne : R ≠ [] := fun z => by rw [z] at hR; simp at hR; omega
  obtain ⟨b1, b2, b3⟩ := bp_at R hne
  have hcost : ∀ c, 1 ≤ c → czC R (ptC (W.drop p) c) = 2 + (c - 1) + R.getD (c - 1) 0 := fun c hc => by
    show 1 + c + R.getD (c - 1) 0 = _
    omega
  have hb : czC R (ptC (W.drop p) (bp R)) = mm R := by rw [hcost _ b1]; omega
  obtain ⟨L, hL⟩ : ∃ L, L = W.length - p := ⟨_, rfl⟩
  unfold ptz
  rw [← hL] at hR ⊢
  obtain ⟨d, hd⟩ : ∃ d, L = (L - bp R) + (d + 1) := ⟨bp R - 1, by omega⟩
  refine ⟨⟨(List.range (L - bp R)).map fun less => ptC (W.drop p) (L - less), ((List.range d).map fun k => L - bp R + (k + 1)).map fun less => ptC (W.drop p) (L - less), ?_, fun y hy => ?_⟩, fun y hy => ?_⟩
  · conv => lhs; rw [show List.range L = List.range ((L - bp R) + (d + 1)) from by rw [← hd], List.range_add, List.map_append, List.range_succ_eq_map, List.map_cons, List.map_cons, Nat.add_zero]
    congr 1
    rw [show L - (L - bp R) = bp R by omega, List.map_map, List.map_map, List.map_map]
    rfl
  · obtain ⟨j, hj, rfl⟩ := List.mem_map.mp hy
    have hj := List.mem_range.mp hj
    rw [hb, hcost _ (by omega)]
    exact bp_last _ _ (by omega) (by omega)
  · obtain ⟨j, hj, rfl⟩ := List.mem_map.mp hy
    have hj := List.mem_range.mp hj
    rw [hb, hcost _ (by omega)]
    exact mm_le _ _ (by omega)
end
/-- back or run -/
def preZ (W R : List Nat) (p : Nat) : Cz := if 0 < bk W p ∧ 2 + R.getD (bk W p - 1) 0 ≤ 2 + R.getD (rl (W.drop p) - 1) 0 then ⟨.bk (bk W p) (dst W p), bk W p, 2⟩ else rnC (W.getD p 0) (rl (W.drop p))
def bstZ (W R : List Nat) (p : Nat) : Cz := if czC R (preZ W R p) ≤ mm R then preZ W R p else ptC (W.drop p) (bp R)
section
variable {W R : List Nat} {p : Nat} (hR : R.length = W.length - p) (hm : ∀ i j, i ≤ j → j < W.length - p → R.getD j 0 ≤ R.getD i 0) (hp : p < W.length)
include hR hm hp
theorem pre_fold : (bks W p ++ rns W p).foldl (szS R) none = some (preZ W R p) := by
  rw [List.foldl_append, fold_group (rns_first hm hp) (fun _ _ _ => rfl)]
  unfold preZ
  by_cases h0 : 0 < bk W p
  · rw [fold_group (bks_first hm hp h0) (fun _ _ _ => rfl)]
    have e : stepS (fun (_ : Cz) => true) (czC R) none ⟨.bk (bk W p) (dst W p), bk W p, 2⟩ = some ⟨.bk (bk W p) (dst W p), bk W p, 2⟩ := by
      unfold stepS
      rw [if_pos ⟨rfl, trivial⟩]
    rw [e]
    unfold stepS
    by_cases h1 : 2 + R.getD (bk W p - 1) 0 ≤ 2 + R.getD (rl (W.drop p) - 1) 0
    · rw [if_neg (fun z => by
        have h : 2 + R.getD (rl (W.drop p) - 1) 0 < 2 + R.getD (bk W p - 1) 0 := z.2
        omega), if_pos ⟨h0, h1⟩]
    · rw [if_pos ⟨rfl, show 2 + R.getD (rl (W.drop p) - 1) 0 < 2 + R.getD (bk W p - 1) 0 by omega⟩, if_neg (fun z => h1 z.2)]
  · rw [bks_nil (by omega), if_neg (fun z => h0 z.1)]
    unfold stepS
    rw [if_pos ⟨rfl, trivial⟩]
omit hm
theorem bst_puts : (ptz W p).foldl (szS R) (some (preZ W R p)) = some (bstZ W R p) := by
  rw [fold_group (ptz_first hR hp) (fun _ _ _ => rfl)]
  have hne : R ≠ [] := fun z => by rw [z] at hR; simp at hR; omega
  obtain ⟨b1, b2, b3⟩ := bp_at R hne
  have hb : czC R (ptC (W.drop p) (bp R)) = mm R := by
    show 1 + bp R + R.getD (bp R - 1) 0 = _
    omega
  unfold stepS bstZ
  by_cases h : czC R (preZ W R p) ≤ mm R
  · rw [if_pos h, if_neg]
    rintro ⟨_, z⟩
    have z : czC R (ptC (W.drop p) (bp R)) < czC R (preZ W R p) := z
    omega
  · rw [if_neg h, if_pos]
    refine ⟨rfl, ?_⟩
    show czC R (ptC (W.drop p) (bp R)) < czC R (preZ W R p)
    omega
include hm
theorem bst_all : (bks W p ++ rns W p ++ ptz W p).foldl (szS R) none = some (bstZ W R p) := by
  rw [List.foldl_append, pre_fold hR hm hp, bst_puts hR hp]
omit hm
theorem bst_cost : czC R (bstZ W R p) = nx2 R (bk W p) (rl (W.drop p)) := by
  have hne : R ≠ [] := fun z => by rw [z] at hR; simp at hR; omega
  obtain ⟨b1, b2, b3⟩ := bp_at R hne
  have hb : czC R (ptC (W.drop p) (bp R)) = mm R := by
    show 1 + bp R + R.getD (bp R - 1) 0 = _
    omega
  have hpos : 1 ≤ rl (W.drop p) := by
    rw [List.drop_eq_getElem_cons hp]
    exact rl_pos _ _
  have hc : czC R (preZ W R p) = if 0 < bk W p ∧ 2 + R.getD (bk W p - 1) 0 ≤ 2 + R.getD (rl (W.drop p) - 1) 0 then 2 + R.getD (bk W p - 1) 0 else 2 + R.getD (rl (W.drop p) - 1) 0 := by
    unfold preZ
    split <;> rfl
  have e : czC R (bstZ W R p) = if czC R (preZ W R p) ≤ mm R then czC R (preZ W R p) else mm R := by
    unfold bstZ
    split
    · rfl
    · exact hb
  have i1 : st1 R (bk W p) (mm R) = if 0 < bk W p ∧ 2 + R.getD (bk W p - 1) 0 < mm R then 2 + R.getD (bk W p - 1) 0 else mm R := rfl
  have i2 : ∀ m, st1 R (rl (W.drop p)) m = if 0 < rl (W.drop p) ∧ 2 + R.getD (rl (W.drop p) - 1) 0 < m then 2 + R.getD (rl (W.drop p) - 1) 0 else m := fun _ => rfl
  unfold nx2
  rw [e, hc, i2, i1]
  generalize 2 + R.getD (bk W p - 1) 0 = cb
  generalize 2 + R.getD (rl (W.drop p) - 1) 0 = cr
  generalize mm R = m
  (repeat' split) <;> omega
theorem pre_tell : (preZ W R p).n ≥ 1 ∧ (preZ W R p).n ≤ W.length - p ∧ (preZ W R p).c = (preZ W R p).pc.own.length ∧ (preZ W R p).pc.cnt = (preZ W R p).n := by
  have hpos : 1 ≤ rl (W.drop p) := by
    rw [List.drop_eq_getElem_cons hp]
    exact rl_pos _ _
  have hle := SZ.rl_le (W.drop p)
  rw [List.length_drop] at hle
  have hbl := bk_le W p
  unfold preZ
  split
  · rename_i h
    exact ⟨h.1, hbl, rfl, rfl⟩
  · exact ⟨hpos, hle, rfl, rfl⟩
/-- what the prices tell -/
theorem bst_tell : (bstZ W R p).n ≥ 1 ∧ (bstZ W R p).n ≤ W.length - p ∧ (bstZ W R p).c = (bstZ W R p).pc.own.length ∧ (bstZ W R p).pc.cnt = (bstZ W R p).n := by
  have hne : R ≠ [] := fun z => by rw [z] at hR; simp at hR; omega
  obtain ⟨b1, b2, b3⟩ := bp_at R hne
  unfold bstZ
  split
  · exact pre_tell hR hp
  · have hl : ((W.drop p).take (bp R)).length = bp R := by rw [List.length_take, List.length_drop]; omega
    refine ⟨b1, by show bp R ≤ _; omega, ?_, hl⟩
    show 1 + bp R = ((W.drop p).take (bp R)).length + 1
    omega
end
end SZ

namespace SZ
open PT DL
abbrev RZ (W : List Nat) (k : Nat) : List Nat := RG (bk W) (fun p => rl (W.drop p)) W.length k
def bst (W : List Nat) (k : Nat) : Cz := bstZ W (RZ W k) (W.length - k - 1)
def FQ (W : List Nat) : Nat → List (List Nat)
  | 0 => [[]]
  | k + 1 => ((bst W k).pc.own ++ (FQ W k).getD ((bst W k).n - 1) []) :: FQ W k
def PQ (W : List Nat) : Nat → List (List Pz)
  | 0 => [[]]
  | k + 1 => ((bst W k).pc :: (PQ W k).getD ((bst W k).n - 1) []) :: PQ W k
def frm (W : List Nat) (k : Nat) : List Nat := (FQ W k).getD 0 []
def pcz (W : List Nat) (k : Nat) : List Pz := (PQ W k).getD 0 []
theorem FQ_len (W : List Nat) : ∀ k, (FQ W k).length = k + 1
  | 0 => rfl
  | k + 1 => congrArg (· + 1) (FQ_len W k)
theorem PQ_len (W : List Nat) : ∀ k, (PQ W k).length = k + 1
  | 0 => rfl
  | k + 1 => congrArg (· + 1) (PQ_len W k)
theorem FQ_get (W : List Nat) : ∀ k j, j ≤ k → (FQ W k).getD j [] = frm W (k - j)
  | k, 0, _ => rfl
  | 0, j + 1, h => by cases h
  | k + 1, j + 1, h => by
    show (FQ W k).getD j [] = _
    rw [FQ_get W k j (Nat.le_of_succ_le_succ h), Nat.succ_sub_succ]
theorem PQ_get (W : List Nat) : ∀ k j, j ≤ k → (PQ W k).getD j [] = pcz W (k - j)
  | k, 0, _ => rfl
  | 0, j + 1, h => by cases h
  | k + 1, j + 1, h => by
    show (PQ W k).getD j [] = _
    rw [PQ_get W k j (Nat.le_of_succ_le_succ h), Nat.succ_sub_succ]
theorem RZ_len (W : List Nat) (k : Nat) : (RZ W k).length = k + 1 := RG_len _ _ _ k
section
variable {W : List Nat} {k : Nat} (hk : k < W.length)
include hk
theorem hRz : (RZ W k).length = W.length - (W.length - k - 1) := by rw [RZ_len]; omega
theorem hMz : ∀ i j, i ≤ j → j < W.length - (W.length - k - 1) → (RZ W k).getD j 0 ≤ (RZ W k).getD i 0 := fun i j h1 h2 => RG_anti (sl_of W) (by omega) h1 (by omega)
theorem bst_ok : (bst W k).n ≥ 1 ∧ (bst W k).n ≤ k + 1 ∧ (bst W k).c = (bst W k).pc.own.length ∧ (bst W k).pc.cnt = (bst W k).n := by
  have := bst_tell (W := W) (R := RZ W k) (p := W.length - k - 1) (hRz hk) (by omega)
  refine ⟨this.1, Nat.le_trans this.2.1 (by omega), this.2.2.1, this.2.2.2⟩
theorem RZ_succ : RZ W (k + 1) = czC (RZ W k) (bst W k) :: RZ W k := by
  have := bst_cost (W := W) (R := RZ W k) (p := W.length - k - 1) (hRz hk) (by omega)
  show nx2 _ _ _ :: _ = _
  unfold bst
  rw [this]
theorem frm_succ : frm W (k + 1) = (bst W k).pc.own ++ frm W (k + 1 - (bst W k).n) := by
  obtain ⟨h1, h2, _⟩ := bst_ok hk
  show _ ++ (FQ W k).getD _ [] = _
  rw [FQ_get W k _ (by omega), show k - ((bst W k).n - 1) = k + 1 - (bst W k).n by omega]
theorem pcz_succ : pcz W (k + 1) = (bst W k).pc :: pcz W (k + 1 - (bst W k).n) := by
  obtain ⟨h1, h2, _⟩ := bst_ok hk
  show _ :: (PQ W k).getD _ [] = _
  rw [PQ_get W k _ (by omega), show k - ((bst W k).n - 1) = k + 1 - (bst W k).n by omega]
end
theorem frm_len {W : List Nat} : ∀ (m k : Nat), k ≤ m → k ≤ W.length → (frm W k).length = (RZ W k).getD 0 0
  | m, 0, _, _ => rfl
  | 0, k + 1, h, _ => by cases h
  | m + 1, k + 1, h, hn => by
    obtain ⟨h1, h2, h3, _⟩ := bst_ok (W := W) (k := k) (by omega)
    rw [frm_succ (by omega), List.length_append, frm_len m _ (by omega) (by omega), RZ_succ (by omega), ← h3]
    show _ = (bst W k).c + (RZ W k).getD ((bst W k).n - 1) 0
    rw [RG_get _ _ _ k _ (by omega), show k - ((bst W k).n - 1) = k + 1 - (bst W k).n by omega]
/-! ### forms read -/
def tkZ (l : List Nat) (tot : Nat) : Option Pz := match l with
  | [] => none
  | w :: r => if w % 16384 = 0 ∨ 49152 ≤ w ∨ 2048 < tot + w % 16384 then none
    else if w < 16384 then (if w ≤ r.length then some (.pt (r.take w)) else none)
    else match r with
      | [] => none
      | o :: _ => if w < 32768 then some (.rn (w % 16384) o) else if o = 0 ∨ tot < o then none else some (.bk (w % 16384) o)
def prZ : Nat → Nat → List Nat → Nat → List Pz → Nat ⊕ List Pz
  | 0, _, _, _, acc => .inr acc
  | _ + 1, _, [], _, acc => .inr acc
  | f + 1, at', w :: r, tot, acc => match tkZ (w :: r) tot with
    | none => .inl at'
    | some pc => prZ f (at' + pc.own.length) ((w :: r).drop pc.own.length) (tot + pc.cnt) (acc ++ [pc])
def bkX : Nat → Nat → List Nat → List Nat
  | 0, _, acc => acc
  | n + 1, d, acc => bkX n d (acc ++ [acc.getD (acc.length - d) 0])
def exP : Pz → List Nat → List Nat
  | .pt ws, acc => acc ++ ws
  | .rn n w, acc => acc ++ List.replicate n w
  | .bk n d, acc => bkX n d acc
def exZ (ps : List Pz) (acc : List Nat) : List Nat := ps.foldl (fun a pc => exP pc a) acc
theorem bkX_len : ∀ (n d : Nat) (acc : List Nat), (bkX n d acc).length = acc.length + n
  | 0, _, _ => rfl
  | n + 1, d, acc => by
    show (bkX n d _).length = _
    rw [bkX_len n, List.length_append]
    show acc.length + 1 + n = _
    omega
theorem exP_len (pc : Pz) (acc : List Nat) : (exP pc acc).length = acc.length + pc.cnt := by
  cases pc with
  | bk n d => exact bkX_len n d acc
  | rn n w => show (acc ++ List.replicate n w).length = _; rw [List.length_append, List.length_replicate]; rfl
  | pt ws => exact List.length_append
theorem lcp_get {a b : List Nat} {c i : Nat} (h : c ≤ lcp a b) (hi : i < c) : a[i]? = b[i]? := by
  have hb := (lcp_le a b).2
  have e := (lcp_iff c a b (by omega)).mpr h
  have e1 : (a.take c)[i]? = (b.take c)[i]? := by rw [e]
  rw [List.getElem?_take_of_lt hi, List.getElem?_take_of_lt hi] at e1
  exact e1
theorem bkX_take {W : List Nat} {p d : Nat} (h1 : 1 ≤ d) (h2 : d ≤ p) : ∀ (n m : Nat), n + m ≤ lcp (W.drop (p - d)) (W.drop p) → bkX n d (W.take (p + m)) = W.take (p + m + n)
  | 0, m, _ => rfl
  | n + 1, m, h => by
    have hl := (lcp_le (W.drop (p - d)) (W.drop p)).2
    rw [List.length_drop] at hl
    have hlen : (W.take (p + m)).length = p + m := by rw [List.length_take]; omega
    have hg : (W.take (p + m)).getD ((W.take (p + m)).length - d) 0 = W[p + m]'(by omega) := by
      rw [hlen, List.getD_eq_getElem?_getD, List.getElem?_take_of_lt (by omega), show p + m - d = p - d + m by omega, ← List.getElem?_drop, lcp_get (i := m) h (by omega), List.getElem?_drop, List.getElem?_eq_getElem (by omega)]
      rfl
    show bkX n d (W.take (p + m) ++ [_]) = _
    rw [hg, show W.take (p + m) ++ [W[p + m]'(by omega)] = W.take (p + (m + 1)) from by rw [← Nat.add_assoc, List.take_add_one, List.getElem?_eq_getElem (show p + m < W.length by omega)]; rfl, bkX_take h1 h2 n (m + 1) (by omega), show p + (m + 1) + n = p + m + (n + 1) by omega]
/-- the piece tells the words there -/
theorem bst_ex {W : List Nat} {k : Nat} (hk : k < W.length) : exP (bst W k).pc (W.take (W.length - k - 1)) = W.take (W.length - k - 1 + (bst W k).n) := by
  obtain ⟨p, hp⟩ : ∃ p, p = W.length - k - 1 := ⟨_, rfl⟩
  have hpl : p < W.length := by omega
  unfold bst
  rw [← hp]
  have htk : ∀ c, W.take p ++ (W.drop p).take c = W.take (p + c) := fun c => by
    rw [List.take_add]
  have e : W.drop p = W.getD p 0 :: W.drop (p + 1) := by
    rw [List.drop_eq_getElem_cons hpl, List.getD_eq_getElem?_getD, List.getElem?_eq_getElem hpl]
    rfl
  unfold bstZ
  split
  · unfold preZ
    split
    · rename_i h
      obtain ⟨d1, d2, d3, _⟩ := bk_dst h.1
      exact bkX_take d1 d2 (bk W p) 0 (by omega)
    · show W.take p ++ List.replicate (rl (W.drop p)) (W.getD p 0) = W.take (p + rl (W.drop p))
      have := (rl_iff (W.getD p 0) (W.drop (p + 1)) (rl (W.drop p)) (by rw [← e]; exact SZ.rl_le _)).mpr (by rw [← e]; exact Nat.le_refl _)
      rw [← this, ← e, htk]
  · exact htk _
theorem ex_pcz {W : List Nat} : ∀ (m k : Nat), k ≤ m → k ≤ W.length → exZ (pcz W k) (W.take (W.length - k)) = W
  | m, 0, _, _ => by
    show W.take (W.length - 0) = W
    rw [Nat.sub_zero, List.take_length]
  | 0, k + 1, h, _ => by cases h
  | m + 1, k + 1, h, hn => by
    obtain ⟨h1, h2, h3, _⟩ := bst_ok (W := W) (k := k) (by omega)
    rw [pcz_succ (by omega)]
    show exZ _ (exP (bst W k).pc (W.take (W.length - (k + 1)))) = W
    rw [show W.length - (k + 1) = W.length - k - 1 by omega, bst_ex (by omega), show W.length - k - 1 + (bst W k).n = W.length - (k + 1 - (bst W k).n) by omega, ex_pcz m _ (by omega) (by omega)]
theorem tk_own {pc : Pz} {rest : List Nat} {tot : Nat} (h1 : 1 ≤ pc.cnt) (h2 : tot + pc.cnt ≤ 2048) (h3 : ∀ n d, pc = .bk n d → 1 ≤ d ∧ d ≤ tot) : tkZ (pc.own ++ rest) tot = some pc := by
  cases pc with
  | bk n d =>
    obtain ⟨d1, d2⟩ := h3 n d rfl
    have hn : (32768 + n) % 16384 = n := by have : n ≤ 2048 := Nat.le_trans (Nat.le_add_left _ _) h2; omega
    have h1' : 1 ≤ n := h1
    have h2' : tot + n ≤ 2048 := h2
    show (if (32768 + n) % 16384 = 0 ∨ 49152 ≤ 32768 + n ∨ 2048 < tot + (32768 + n) % 16384 then none else if 32768 + n < 16384 then _ else if 32768 + n < 32768 then some (Pz.rn ((32768 + n) % 16384) d) else if d = 0 ∨ tot < d then none else some (Pz.bk ((32768 + n) % 16384) d)) = _
    rw [hn, if_neg (by omega), if_neg (by omega), if_neg (by omega), if_neg (by omega)]
  | rn n w =>
    have hn : (16384 + n) % 16384 = n := by have : n ≤ 2048 := Nat.le_trans (Nat.le_add_left _ _) h2; omega
    have h1' : 1 ≤ n := h1
    have h2' : tot + n ≤ 2048 := h2
    show (if (16384 + n) % 16384 = 0 ∨ 49152 ≤ 16384 + n ∨ 2048 < tot + (16384 + n) % 16384 then none else if 16384 + n < 16384 then _ else if 16384 + n < 32768 then some (Pz.rn ((16384 + n) % 16384) w) else _) = _
    rw [hn, if_neg (by omega), if_neg (by omega), if_pos (by omega)]
  | pt ws =>
    have h1' : 1 ≤ ws.length := h1
    have h2' : tot + ws.length ≤ 2048 := h2
    have hn : ws.length % 16384 = ws.length := Nat.mod_eq_of_lt (by omega)
    show (if ws.length % 16384 = 0 ∨ 49152 ≤ ws.length ∨ 2048 < tot + ws.length % 16384 then none else if ws.length < 16384 then (if ws.length ≤ (ws ++ rest).length then some (Pz.pt ((ws ++ rest).take ws.length)) else none) else _) = _
    rw [hn, if_neg (by omega), if_pos (by omega), if_pos (by rw [List.length_append]; omega), List.take_left]
theorem bst_bk {W : List Nat} {k n d : Nat} (h : (bst W k).pc = .bk n d) : 1 ≤ d ∧ d ≤ W.length - k - 1 := by
  unfold bst bstZ at h
  split at h
  · unfold preZ at h
    split at h
    · rename_i h0
      obtain ⟨d1, d2, _⟩ := bk_dst h0.1
      cases h
      exact ⟨d1, d2⟩
    · cases h
  · cases h
theorem own_pos (pc : Pz) : ∃ w r, pc.own = w :: r := by cases pc <;> exact ⟨_, _, rfl⟩
theorem pr_frm {W : List Nat} (hW : W.length ≤ 2048) : ∀ (m k f at' : Nat) (acc : List Pz), k ≤ m → k ≤ W.length → (frm W k).length < f → prZ f at' (frm W k) (W.length - k) acc = .inr (acc ++ pcz W k)
  | m, 0, f + 1, at', acc, _, _, _ => by
    show Sum.inr acc = _
    rw [show pcz W 0 = [] from rfl, List.append_nil]
  | 0, k + 1, _, _, _, h, _, _ => by cases h
  | m + 1, k + 1, f + 1, at', acc, h, hn, hf => by
    obtain ⟨h1, h2, h3, h4⟩ := bst_ok (W := W) (k := k) (by omega)
    rw [frm_succ (by omega)] at hf ⊢
    rw [pcz_succ (by omega)]
    have htk := tk_own (pc := (bst W k).pc) (rest := frm W (k + 1 - (bst W k).n)) (tot := W.length - (k + 1)) (by omega) (by omega) fun n d e => by
      have := bst_bk e
      omega
    obtain ⟨w, r, ew⟩ := own_pos (bst W k).pc
    rw [List.length_append] at hf
    have hol : 1 ≤ (bst W k).pc.own.length := by rw [ew]; exact Nat.succ_pos _
    have e1 : prZ (f + 1) at' ((bst W k).pc.own ++ frm W (k + 1 - (bst W k).n)) (W.length - (k + 1)) acc = prZ f (at' + (bst W k).pc.own.length) (((bst W k).pc.own ++ frm W (k + 1 - (bst W k).n)).drop (bst W k).pc.own.length) (W.length - (k + 1) + (bst W k).pc.cnt) (acc ++ [(bst W k).pc]) := by
      generalize bst W k = bb at *
      rw [ew] at htk ⊢
      rw [List.cons_append] at htk ⊢
      show (match tkZ (w :: (r ++ frm W (k + 1 - bb.n))) (W.length - (k + 1)) with
        | none => Sum.inl at'
        | some pc => prZ f (at' + pc.own.length) ((w :: (r ++ frm W (k + 1 - bb.n))).drop pc.own.length) (W.length - (k + 1) + pc.cnt) (acc ++ [pc])) = _
      rw [htk]
      show prZ f (at' + bb.pc.own.length) ((w :: (r ++ frm W (k + 1 - bb.n))).drop bb.pc.own.length) _ _ = _
      rw [ew]
    rw [e1, List.drop_left, show W.length - (k + 1) + (bst W k).pc.cnt = W.length - (k + 1 - (bst W k).n) by omega, pr_frm hW m _ f _ _ (by omega) (by omega) (by omega), List.append_assoc]
    rfl
end SZ

namespace R1
open PySem PySem.Spec PyProof.Rows L2 RK
local macro_rules | `(tactic| walk_at "sq") => `(tactic| first
  | exact SqL.of upd_same | exact upd_same | exact SqL.of (by assumption) | exact SqL.of (by rw [upd_ne (by assumption)]; assumption) | assumption)
local macro_rules | `(tactic| walk_at "sd") => `(tactic| first
  | assumption | omega | (refine Or.inl ⟨?_, ?_⟩ <;> omega) | (show _ ∧ _; constructor <;> omega) | (show _ ≠ _; simp; omega) | (exact Or.inl ⟨by decide, by decide⟩) | (exact Or.inr ⟨by decide, by decide⟩) | (show _ < _; decide) | (show _ ≤ _; decide))
local macro_rules | `(tactic| walk_at "at") => `(tactic| first | rfl | (refine atI_intV ?_ ?_ <;> omega) | assumption)
local macro_rules | `(tactic| walk_at "s1") => `(tactic| first
  | refine ⟨_, rfl, ?_⟩ | refine ⟨_, _, rfl, rfl, ?_⟩ | refine ⟨rfl, ?_⟩
  | refine ⟨_, _, _, _, rfl, rfl, by walk_at "sq", by walk_at "at", ?_⟩
  | refine Or.inl ⟨_, rfl, ?_⟩
  | refine ⟨_, _, rfl, Or.inl (by walk_at "sq"), ?_⟩
  | refine And.intro (by walk_at "sd") ?_)
local macro_rules | `(tactic| walk_at "s") => `(tactic| repeat walk_at "s1")

def topS (i : Nat) : Stmt := PySem.Challenge.pw_romwright_k61_whole_squeezed_least.main.body.getD i (.Pass ⟨0, 0, 0, 0⟩)
abbrev s_text_to_find : Stmt := topS 2
abbrev N_text_to_find : List Str := ["words", "word"]
theorem sc_text_to_find : FnScope N_text_to_find ["words"] (defScope s_text_to_find) := ⟨rfl, rfl, rfl, by decide +kernel, rfl, by decide +kernel, by decide +kernel⟩
abbrev s_part_of_text : Stmt := topS 3
abbrev N_part_of_text : List Str := ["text", "place", "count"]
theorem sc_part_of_text : FnScope N_part_of_text ["text", "place", "count"] (defScope s_part_of_text) := ⟨rfl, rfl, rfl, by decide +kernel, rfl, by decide +kernel, by decide +kernel⟩
abbrev s_TooMany_init : Stmt := inClass (topS 6) 0
abbrev N_TooMany_init : List Str := ["self", "limit"]
theorem sc_TooMany_init : FnScope N_TooMany_init ["self", "limit"] (defScope s_TooMany_init) := ⟨rfl, rfl, rfl, by decide +kernel, rfl, by decide +kernel, by decide +kernel⟩
abbrev s_BadForm_init : Stmt := inClass (topS 7) 0
abbrev N_BadForm_init : List Str := ["self", "place"]
theorem sc_BadForm_init : FnScope N_BadForm_init ["self", "place"] (defScope s_BadForm_init) := ⟨rfl, rfl, rfl, by decide +kernel, rfl, by decide +kernel, by decide +kernel⟩
abbrev s_squeeze : Stmt := topS 13
abbrev N_squeeze : List Str := ["words", "backs", "runs", "prices", "form", "place", "back", "run", "count"]
theorem sc_squeeze : FnScope N_squeeze ["words"] (defScope s_squeeze) := ⟨rfl, rfl, rfl, by decide +kernel, rfl, by decide +kernel, by decide +kernel⟩
abbrev s_longest_backs : Stmt := topS 14
abbrev N_longest_backs : List Str := ["words", "text", "counts", "count", "place"]
theorem sc_longest_backs : FnScope N_longest_backs ["words"] (defScope s_longest_backs) := ⟨rfl, rfl, rfl, by decide +kernel, rfl, by decide +kernel, by decide +kernel⟩
abbrev s_least_distance : Stmt := topS 15
abbrev N_least_distance : List Str := ["words", "place", "count", "text", "at"]
theorem sc_least_distance : FnScope N_least_distance ["words", "place", "count"] (defScope s_least_distance) := ⟨rfl, rfl, rfl, by decide +kernel, rfl, by decide +kernel, by decide +kernel⟩
abbrev s_longest_runs : Stmt := topS 16
abbrev N_longest_runs : List Str := ["words", "counts", "count", "place", "same"]
theorem sc_longest_runs : FnScope N_longest_runs ["words"] (defScope s_longest_runs) := ⟨rfl, rfl, rfl, by decide +kernel, rfl, by decide +kernel, by decide +kernel⟩
abbrev s_fewest_from : Stmt := topS 17
abbrev N_fewest_from : List Str := ["backs", "runs", "prices", "least", "place", "price_here", "count"]
theorem sc_fewest_from : FnScope N_fewest_from ["backs", "runs"] (defScope s_fewest_from) := ⟨rfl, rfl, rfl, by decide +kernel, rfl, by decide +kernel, by decide +kernel⟩
abbrev s_most_put : Stmt := topS 18
abbrev N_most_put : List Str := ["prices", "place", "count"]
theorem sc_most_put : FnScope N_most_put ["prices", "place"] (defScope s_most_put) := ⟨rfl, rfl, rfl, by decide +kernel, rfl, by decide +kernel, by decide +kernel⟩
abbrev s_fewest : Stmt := topS 19
abbrev N_fewest : List Str := ["words"]
theorem sc_fewest : FnScope N_fewest ["words"] (defScope s_fewest) := ⟨rfl, rfl, rfl, by decide +kernel, rfl, by decide +kernel, by decide +kernel⟩
abbrev s_piece_at : Stmt := topS 20
abbrev N_piece_at : List Str := ["form", "at", "count", "n", "kind", "operand"]
theorem sc_piece_at : FnScope N_piece_at ["form", "at", "count"] (defScope s_piece_at) := ⟨rfl, rfl, rfl, by decide +kernel, rfl, by decide +kernel, by decide +kernel⟩
abbrev s_words_in : Stmt := topS 21
abbrev N_words_in : List Str := ["piece"]
theorem sc_words_in : FnScope N_words_in ["piece"] (defScope s_words_in) := ⟨rfl, rfl, rfl, by decide +kernel, rfl, by decide +kernel, by decide +kernel⟩
abbrev s_pieces_of : Stmt := topS 22
abbrev N_pieces_of : List Str := ["form", "pieces", "at", "count", "piece"]
theorem sc_pieces_of : FnScope N_pieces_of ["form"] (defScope s_pieces_of) := ⟨rfl, rfl, rfl, by decide +kernel, rfl, by decide +kernel, by decide +kernel⟩
abbrev s_opened : Stmt := topS 23
abbrev N_opened : List Str := ["form", "words", "piece", "_"]
theorem sc_opened : FnScope N_opened ["form"] (defScope s_opened) := ⟨rfl, rfl, rfl, by decide +kernel, rfl, by decide +kernel, by decide +kernel⟩
abbrev s_law_source : Stmt := topS 25
abbrev N_law_source : List Str := ["_law_script", "_law_cell", "_law_cells", "_law_mixed"]
theorem sc_law_source : FnScope N_law_source ["_law_script"] (defScope s_law_source) := ⟨rfl, rfl, rfl, by decide +kernel, rfl, by decide +kernel, by decide +kernel⟩
abbrev s_law_draw : Stmt := topS 26
abbrev N_law_draw : List Str := ["_law_source_here", "_law_below", "_law_cells", "_law_place", "_law_digits", "_law_count", "_law_seed", "_law_number"]
theorem sc_law_draw : FnScope N_law_draw ["_law_source_here", "_law_below"] (defScope s_law_draw) := ⟨rfl, rfl, rfl, by decide +kernel, rfl, by decide +kernel, by decide +kernel⟩
abbrev s_law_word : Stmt := topS 27
abbrev N_law_word : List Str := ["_law_source_here", "_law_way"]
theorem sc_law_word : FnScope N_law_word ["_law_source_here"] (defScope s_law_word) := ⟨rfl, rfl, rfl, by decide +kernel, rfl, by decide +kernel, by decide +kernel⟩
abbrev s_law_plain : Stmt := topS 28
abbrev N_law_plain : List Str := ["_law_thing", "_law_one"]
theorem sc_law_plain : FnScope N_law_plain ["_law_thing"] (defScope s_law_plain) := ⟨rfl, rfl, rfl, by decide +kernel, rfl, by decide +kernel, by decide +kernel⟩
abbrev s_law_pool : Stmt := topS 29
abbrev N_law_pool : List Str := ["_law_source_here", "_law_count", "_law_step", "_law_pool_here"]
theorem sc_law_pool : FnScope N_law_pool ["_law_source_here", "_law_count"] (defScope s_law_pool) := ⟨rfl, rfl, rfl, by decide +kernel, rfl, by decide +kernel, by decide +kernel⟩
abbrev s_law_words : Stmt := topS 30
abbrev N_law_words : List Str := ["_law_source_here", "_law_pool_here", "_law_words_here", "_law_step", "_law_way", "_law_count", "_law_distance", "_law_more"]
theorem sc_law_words : FnScope N_law_words ["_law_source_here", "_law_pool_here"] (defScope s_law_words) := ⟨rfl, rfl, rfl, by decide +kernel, rfl, by decide +kernel, by decide +kernel⟩
abbrev s_law_choices : Stmt := topS 31
abbrev N_law_choices : List Str := ["_law_words_here", "_law_place", "_law_found", "_law_left", "_law_less", "_law_count", "_law_distance", "_law_k", "_law_piece"]
theorem sc_law_choices : FnScope N_law_choices ["_law_words_here", "_law_place"] (defScope s_law_choices) := ⟨rfl, rfl, rfl, by decide +kernel, rfl, by decide +kernel, by decide +kernel⟩
abbrev s_law_table : Stmt := topS 32
abbrev N_law_table : List Str := ["_law_words_here", "_law_least", "_law_forms", "_law_rows", "_law_step", "_law_place", "_law_form", "_law_row", "_law_own", "_law_count", "_law_piece"]
theorem sc_law_table : FnScope N_law_table ["_law_words_here"] (defScope s_law_table) := ⟨rfl, rfl, rfl, by decide +kernel, rfl, by decide +kernel, by decide +kernel⟩
abbrev s_law_quick : Stmt := topS 33
abbrev N_law_quick : List Str := ["_law_words_here", "_law_least", "_law_forms", "_law_rows", "_law_ahead", "_law_run", "_law_step", "_law_place", "_law_row", "_law_longest", "_law_first", "_law_distance", "_law_form", "_law_piece", "_law_less", "_law_count"]
theorem sc_law_quick : FnScope N_law_quick ["_law_words_here"] (defScope s_law_quick) := ⟨rfl, rfl, rfl, by decide +kernel, rfl, by decide +kernel, by decide +kernel⟩
abbrev s_law_longer : Stmt := topS 34
abbrev N_law_longer : List Str := ["_law_source_here", "_law_pool_here", "_law_words_here", "_law_step", "_law_way", "_law_count", "_law_distance", "_law_more", "_law_k"]
theorem sc_law_longer : FnScope N_law_longer ["_law_source_here", "_law_pool_here"] (defScope s_law_longer) := ⟨rfl, rfl, rfl, by decide +kernel, rfl, by decide +kernel, by decide +kernel⟩
abbrev s_law_take : Stmt := topS 35
abbrev N_law_take : List Str := ["_law_form", "_law_place", "_law_total", "_law_first", "_law_count"]
theorem sc_law_take : FnScope N_law_take ["_law_form", "_law_place", "_law_total"] (defScope s_law_take) := ⟨rfl, rfl, rfl, by decide +kernel, rfl, by decide +kernel, by decide +kernel⟩
abbrev s_law_opened : Stmt := topS 36
abbrev N_law_opened : List Str := ["_law_form", "_law_words_here", "_law_pieces", "_law_place", "_law_step", "_law_piece", "_law_more"]
theorem sc_law_opened : FnScope N_law_opened ["_law_form"] (defScope s_law_opened) := ⟨rfl, rfl, rfl, by decide +kernel, rfl, by decide +kernel, by decide +kernel⟩
abbrev s_law_opened_told : Stmt := topS 37
abbrev N_law_opened_told : List Str := ["_law_form", "_law_places", "_law_told", "_law_pieces", "e"]
theorem sc_law_opened_told : FnScope N_law_opened_told ["_law_form"] (defScope s_law_opened_told) := ⟨rfl, rfl, rfl, by decide +kernel, rfl, by decide +kernel, by decide +kernel⟩
abbrev s_law_same : Stmt := topS 38
abbrev N_law_same : List Str := ["_law_form"]
theorem sc_law_same : FnScope N_law_same ["_law_form"] (defScope s_law_same) := ⟨rfl, rfl, rfl, by decide +kernel, rfl, by decide +kernel, by decide +kernel⟩
abbrev s_law_refused : Stmt := topS 39
abbrev N_law_refused : List Str := ["_law_words_here", "e"]
theorem sc_law_refused : FnScope N_law_refused ["_law_words_here"] (defScope s_law_refused) := ⟨rfl, rfl, rfl, by decide +kernel, rfl, by decide +kernel, by decide +kernel⟩
abbrev s_law : Stmt := topS 40
abbrev N_law : List Str := ["_law_script", "_law_source_here", "_law_pool_here", "_law_words_here", "_law_least", "_law_form", "_law_pieces", "_law_step", "_law_menu", "_law_row", "_law_count", "_law_head", "_law_more"]
theorem sc_law : FnScope N_law ["_law_script"] (defScope s_law) := ⟨rfl, rfl, rfl, by decide +kernel, rfl, by decide +kernel, by decide +kernel⟩
/-- where things stand -/
structure Ads where
  a_text_to_find : Addr
  d_text_to_find : FuncData
  a_part_of_text : Addr
  d_part_of_text : FuncData
  a_squeeze : Addr
  d_squeeze : FuncData
  a_longest_backs : Addr
  d_longest_backs : FuncData
  a_least_distance : Addr
  d_least_distance : FuncData
  a_longest_runs : Addr
  d_longest_runs : FuncData
  a_fewest_from : Addr
  d_fewest_from : FuncData
  a_most_put : Addr
  d_most_put : FuncData
  a_fewest : Addr
  d_fewest : FuncData
  a_piece_at : Addr
  d_piece_at : FuncData
  a_words_in : Addr
  d_words_in : FuncData
  a_pieces_of : Addr
  d_pieces_of : FuncData
  a_opened : Addr
  d_opened : FuncData
  a_law_source : Addr
  d_law_source : FuncData
  a_law_draw : Addr
  d_law_draw : FuncData
  a_law_word : Addr
  d_law_word : FuncData
  a_law_plain : Addr
  d_law_plain : FuncData
  a_law_pool : Addr
  d_law_pool : FuncData
  a_law_words : Addr
  d_law_words : FuncData
  a_law_choices : Addr
  d_law_choices : FuncData
  a_law_table : Addr
  d_law_table : FuncData
  a_law_quick : Addr
  d_law_quick : FuncData
  a_law_longer : Addr
  d_law_longer : FuncData
  a_law_take : Addr
  d_law_take : FuncData
  a_law_opened : Addr
  d_law_opened : FuncData
  a_law_opened_told : Addr
  d_law_opened_told : FuncData
  a_law_same : Addr
  d_law_same : FuncData
  a_law_refused : Addr
  d_law_refused : FuncData
  a_law : Addr
  d_law : FuncData
  c_TooMany : Addr
  a_TooMany_init : Addr
  d_TooMany_init : FuncData
  c_BadForm : Addr
  a_BadForm_init : Addr
  d_BadForm_init : FuncData
  c_RomError : Addr
  t_WIDTH : Tok
  t_MOST_WORDS : Tok
  t_MOST_COUNT : Tok
  t_RUN : Tok
  t_BACK : Tok
structure Txt (K : PySem.W.Frag) (mg : Str → Option Value) (A : Ads) : Prop where
  F_text_to_find : Fun K "text_to_find" "text_to_find" s_text_to_find A.a_text_to_find A.d_text_to_find
  g_text_to_find : mg "text_to_find" = some (.ref A.a_text_to_find)
  b_text_to_find : Binds K A.d_text_to_find ["words"] []
  F_part_of_text : Fun K "part_of_text" "part_of_text" s_part_of_text A.a_part_of_text A.d_part_of_text
  g_part_of_text : mg "part_of_text" = some (.ref A.a_part_of_text)
  b_part_of_text : Binds K A.d_part_of_text ["text", "place", "count"] []
  F_squeeze : Fun K "squeeze" "squeeze" s_squeeze A.a_squeeze A.d_squeeze
  g_squeeze : mg "squeeze" = some (.ref A.a_squeeze)
  b_squeeze : Binds K A.d_squeeze ["words"] []
  F_longest_backs : Fun K "longest_backs" "longest_backs" s_longest_backs A.a_longest_backs A.d_longest_backs
  g_longest_backs : mg "longest_backs" = some (.ref A.a_longest_backs)
  b_longest_backs : Binds K A.d_longest_backs ["words"] []
  F_least_distance : Fun K "least_distance" "least_distance" s_least_distance A.a_least_distance A.d_least_distance
  g_least_distance : mg "least_distance" = some (.ref A.a_least_distance)
  b_least_distance : Binds K A.d_least_distance ["words", "place", "count"] []
  F_longest_runs : Fun K "longest_runs" "longest_runs" s_longest_runs A.a_longest_runs A.d_longest_runs
  g_longest_runs : mg "longest_runs" = some (.ref A.a_longest_runs)
  b_longest_runs : Binds K A.d_longest_runs ["words"] []
  F_fewest_from : Fun K "fewest_from" "fewest_from" s_fewest_from A.a_fewest_from A.d_fewest_from
  g_fewest_from : mg "fewest_from" = some (.ref A.a_fewest_from)
  b_fewest_from : Binds K A.d_fewest_from ["backs", "runs"] []
  F_most_put : Fun K "most_put" "most_put" s_most_put A.a_most_put A.d_most_put
  g_most_put : mg "most_put" = some (.ref A.a_most_put)
  b_most_put : Binds K A.d_most_put ["prices", "place"] []
  F_fewest : Fun K "fewest" "fewest" s_fewest A.a_fewest A.d_fewest
  g_fewest : mg "fewest" = some (.ref A.a_fewest)
  b_fewest : Binds K A.d_fewest ["words"] []
  F_piece_at : Fun K "piece_at" "piece_at" s_piece_at A.a_piece_at A.d_piece_at
  g_piece_at : mg "piece_at" = some (.ref A.a_piece_at)
  b_piece_at : Binds K A.d_piece_at ["form", "at", "count"] []
  F_words_in : Fun K "words_in" "words_in" s_words_in A.a_words_in A.d_words_in
  g_words_in : mg "words_in" = some (.ref A.a_words_in)
  b_words_in : Binds K A.d_words_in ["piece"] []
  F_pieces_of : Fun K "pieces_of" "pieces_of" s_pieces_of A.a_pieces_of A.d_pieces_of
  g_pieces_of : mg "pieces_of" = some (.ref A.a_pieces_of)
  b_pieces_of : Binds K A.d_pieces_of ["form"] []
  F_opened : Fun K "opened" "opened" s_opened A.a_opened A.d_opened
  g_opened : mg "opened" = some (.ref A.a_opened)
  b_opened : Binds K A.d_opened ["form"] []
  F_law_source : Fun K "_law_source" "_law_source" s_law_source A.a_law_source A.d_law_source
  g_law_source : mg "_law_source" = some (.ref A.a_law_source)
  b_law_source : Binds K A.d_law_source ["_law_script"] []
  F_law_draw : Fun K "_law_draw" "_law_draw" s_law_draw A.a_law_draw A.d_law_draw
  g_law_draw : mg "_law_draw" = some (.ref A.a_law_draw)
  b_law_draw : Binds K A.d_law_draw ["_law_source_here", "_law_below"] []
  F_law_word : Fun K "_law_word" "_law_word" s_law_word A.a_law_word A.d_law_word
  g_law_word : mg "_law_word" = some (.ref A.a_law_word)
  b_law_word : Binds K A.d_law_word ["_law_source_here"] []
  F_law_plain : Fun K "_law_plain" "_law_plain" s_law_plain A.a_law_plain A.d_law_plain
  g_law_plain : mg "_law_plain" = some (.ref A.a_law_plain)
  b_law_plain : Binds K A.d_law_plain ["_law_thing"] []
  F_law_pool : Fun K "_law_pool" "_law_pool" s_law_pool A.a_law_pool A.d_law_pool
  g_law_pool : mg "_law_pool" = some (.ref A.a_law_pool)
  b_law_pool : Binds K A.d_law_pool ["_law_source_here", "_law_count"] []
  F_law_words : Fun K "_law_words" "_law_words" s_law_words A.a_law_words A.d_law_words
  g_law_words : mg "_law_words" = some (.ref A.a_law_words)
  b_law_words : Binds K A.d_law_words ["_law_source_here", "_law_pool_here"] []
  F_law_choices : Fun K "_law_choices" "_law_choices" s_law_choices A.a_law_choices A.d_law_choices
  g_law_choices : mg "_law_choices" = some (.ref A.a_law_choices)
  b_law_choices : Binds K A.d_law_choices ["_law_words_here", "_law_place"] []
  F_law_table : Fun K "_law_table" "_law_table" s_law_table A.a_law_table A.d_law_table
  g_law_table : mg "_law_table" = some (.ref A.a_law_table)
  b_law_table : Binds K A.d_law_table ["_law_words_here"] []
  F_law_quick : Fun K "_law_quick" "_law_quick" s_law_quick A.a_law_quick A.d_law_quick
  g_law_quick : mg "_law_quick" = some (.ref A.a_law_quick)
  b_law_quick : Binds K A.d_law_quick ["_law_words_here"] []
  F_law_longer : Fun K "_law_longer" "_law_longer" s_law_longer A.a_law_longer A.d_law_longer
  g_law_longer : mg "_law_longer" = some (.ref A.a_law_longer)
  b_law_longer : Binds K A.d_law_longer ["_law_source_here", "_law_pool_here"] []
  F_law_take : Fun K "_law_take" "_law_take" s_law_take A.a_law_take A.d_law_take
  g_law_take : mg "_law_take" = some (.ref A.a_law_take)
  b_law_take : Binds K A.d_law_take ["_law_form", "_law_place", "_law_total"] []
  F_law_opened : Fun K "_law_opened" "_law_opened" s_law_opened A.a_law_opened A.d_law_opened
  g_law_opened : mg "_law_opened" = some (.ref A.a_law_opened)
  b_law_opened : Binds K A.d_law_opened ["_law_form"] []
  F_law_opened_told : Fun K "_law_opened_told" "_law_opened_told" s_law_opened_told A.a_law_opened_told A.d_law_opened_told
  g_law_opened_told : mg "_law_opened_told" = some (.ref A.a_law_opened_told)
  b_law_opened_told : Binds K A.d_law_opened_told ["_law_form"] []
  F_law_same : Fun K "_law_same" "_law_same" s_law_same A.a_law_same A.d_law_same
  g_law_same : mg "_law_same" = some (.ref A.a_law_same)
  b_law_same : Binds K A.d_law_same ["_law_form"] []
  F_law_refused : Fun K "_law_refused" "_law_refused" s_law_refused A.a_law_refused A.d_law_refused
  g_law_refused : mg "_law_refused" = some (.ref A.a_law_refused)
  b_law_refused : Binds K A.d_law_refused ["_law_words_here"] []
  F_law : Fun K "law" "law" s_law A.a_law A.d_law
  g_law : mg "law" = some (.ref A.a_law)
  b_law : Binds K A.d_law ["_law_script"] []
  F_TooMany_init : Fun K "__init__" "TooMany.__init__" s_TooMany_init A.a_TooMany_init A.d_TooMany_init
  x_TooMany : ErrC K mg "TooMany" "limit" A.c_TooMany A.a_TooMany_init A.d_TooMany_init
  F_BadForm_init : Fun K "__init__" "BadForm.__init__" s_BadForm_init A.a_BadForm_init A.d_BadForm_init
  x_BadForm : ErrC K mg "BadForm" "place" A.c_BadForm A.a_BadForm_init A.d_BadForm_init
  g_TooMany : mg "TooMany" = some (.ref A.c_TooMany)
  g_BadForm : mg "BadForm" = some (.ref A.c_BadForm)
  g_RomError : mg "RomError" = some (.ref A.c_RomError)
  g_WIDTH : mg "WIDTH" = some (.int 5 A.t_WIDTH)
  g_MOST_WORDS : mg "MOST_WORDS" = some (.int 2048 A.t_MOST_WORDS)
  g_MOST_COUNT : mg "MOST_COUNT" = some (.int 16383 A.t_MOST_COUNT)
  g_RUN : mg "RUN" = some (.int 16384 A.t_RUN)
  g_BACK : mg "BACK" = some (.int 32768 A.t_BACK)
  k_BadForm_RomError : PySem.W.kitOne K (.ref A.c_BadForm) (.ref A.c_RomError) = some true
  k_BadForm_ValueError : PySem.W.kitOne K (.ref A.c_BadForm) (.type "ValueError") = some true
  n_ValueError : mg "ValueError" = none
  n_abs : mg "abs" = none
  n_bool : mg "bool" = none
  n_int : mg "int" = none
  n_isinstance : mg "isinstance" = none
  n_len : mg "len" = none
  n_list : mg "list" = none
  n_max : mg "max" = none
  n_min : mg "min" = none
  n_range : mg "range" = none
  n_tuple : mg "tuple" = none
theorem ok_TooMany_init {P : Program} {w : World} {K : PySem.W.Frag} {mg : Str → Option Value} {base : Heap} {A : Ads} (T : Txt K mg A) : FnOk P w K mg base CX0 1 A.a_TooMany_init A.d_TooMany_init ["self", "limit"] (spKeep "limit" A.c_TooMany) := by
  refine T.F_TooMany_init.ok sc_TooMany_init (fun vs H Q E h => ?_) (fun cdv B outer s H vs Q E hr h => ?_)
  · obtain ⟨a, v, rfl, _⟩ := h
    rfl
  · obtain ⟨a, v, rfl, e, q⟩ := h
    refine ⟨_, pss_one (ps_ost (pv 0) (pv 1)), ?_⟩
    exact ⟨_, rfl, _, rfl, a, A.c_TooMany, rfl, T.x_TooMany.ox, T.x_TooMany.no, .inl ⟨e, q⟩⟩
theorem ok_BadForm_init {P : Program} {w : World} {K : PySem.W.Frag} {mg : Str → Option Value} {base : Heap} {A : Ads} (T : Txt K mg A) : FnOk P w K mg base CX0 1 A.a_BadForm_init A.d_BadForm_init ["self", "place"] (spKeep "place" A.c_BadForm) := by
  refine T.F_BadForm_init.ok sc_BadForm_init (fun vs H Q E h => ?_) (fun cdv B outer s H vs Q E hr h => ?_)
  · obtain ⟨a, v, rfl, _⟩ := h
    rfl
  · obtain ⟨a, v, rfl, e, q⟩ := h
    refine ⟨_, pss_one (ps_ost (pv 0) (pv 1)), ?_⟩
    exact ⟨_, rfl, _, rfl, a, A.c_BadForm, rfl, T.x_BadForm.ox, T.x_BadForm.no, .inl ⟨e, q⟩⟩

/-! ### the law's source of draws -/
def Src (c : Addr) (H : Hp) (p : Addr) : Prop := ∃ (cs : List Int) (pl dg ct mx : Int), H p = some (.lst [.ref c, .int pl, .int dg, .int ct, .int mx]) ∧ H c = some (.lst (cs.map V.int)) ∧ 0 < cs.length ∧ 0 ≤ pl
theorem src_ne {H : Hp} {c p : Addr} (h : Src c H p) : H p ≠ none := by
  obtain ⟨cs, pl, dg, ct, mx, e, _⟩ := h
  rw [e]
  exact fun z => nomatch z
theorem src_cne {H : Hp} {c p : Addr} (h : Src c H p) : H c ≠ none := by
  obtain ⟨cs, pl, dg, ct, mx, _, e, _⟩ := h
  rw [e]
  exact fun z => nomatch z
theorem src_up {H H' : Hp} {c p : Addr} (h : Src c H p) (e : Same H H') : Src c H' p := by
  obtain ⟨cs, pl, dg, ct, mx, h1, h2, h3⟩ := h
  exact ⟨cs, pl, dg, ct, mx, e _ _ h1, e _ _ h2, h3⟩
/-- what is neither of its two lists may change -/
theorem src_put {H : Hp} {c p D : Addr} {o : HO} (h : Src c H p) (hp : D ≠ p) (hc : D ≠ c) : Src c (upd H D o) p := by
  obtain ⟨cs, pl, dg, ct, mx, h1, h2, h3⟩ := h
  exact ⟨cs, pl, dg, ct, mx, by rw [upd_ne (Ne.symm hp)]; exact h1, by rw [upd_ne (Ne.symm hc)]; exact h2, h3⟩
/-- a list of numbers is not the source -/
theorem src_ints {H : Hp} {c p D : Addr} {l : List Nat} (h : Src c H p) (e : H D = some (.lst (intV l))) : D ≠ p := fun z => by
  obtain ⟨cs, pl, dg, ct, mx, h1, _⟩ := h
  subst z
  rw [e] at h1
  have := HO.lst.inj (Option.some.inj h1)
  cases l with
  | nil => cases this
  | cons a r =>
    have := (List.cons.inj this).1
    cases this
def spDraw : Sp := fun vs H Q _ => ∃ (c p : Addr) (b : Int), vs = [.ref p, .int b] ∧ Src c H p ∧ 0 < b ∧ b < 1000000 ∧ ∀ H' (r : Nat), (r : Int) < b → Src c H' p → But p H H' → Q (.int (r : Int)) H'
def spSource (K : PySem.W.Frag) : Sp := fun vs H Q _ => ∃ (a : Addr) (ns : List Int), vs = [.ref a] ∧ SqL K H a (ns.map V.int) ∧ ns.length ≤ 63 ∧ ∀ H' c p, Same H H' → H c = none → H p = none → Src c H' p → Q (.ref p) H'
theorem get_int {cs : List Int} {i : Int} (h0 : 0 ≤ i) (h1 : i < cs.length) : ∃ z, atI (cs.map V.int) i = some (.int z) := by
  obtain ⟨j, rfl⟩ : ∃ j : Nat, i = (j : Int) := ⟨i.toNat, by omega⟩
  have hj : j < cs.length := by omega
  exact ⟨cs[j], atI_nat (by rw [List.getElem?_map, List.getElem?_eq_getElem hj]; rfl)⟩
/-! plain: a value with what tells its kind -/
mutual
def plD : PyData → PyData
  | .list xs => .tuple [.bool true, .list (plA xs)]
  | .tuple xs => .tuple [.bool false, .list (plA xs)]
  | .bool b => .tuple [.bool true, .bool b]
  | .none => .tuple [.bool false, .none]
  | .int i => .tuple [.bool false, .int i]
  | .str x => .tuple [.bool false, .str x]
  | .dict kvs => .tuple [.bool false, .dict kvs]
def plA : List PyData → List PyData
  | [] => []
  | x :: r => plD x :: plA r
end
theorem plA_map : ∀ xs : List PyData, plA xs = xs.map plD
  | [] => rfl
  | x :: r => by
    show plD x :: plA r = plD x :: r.map plD
    rw [plA_map r]
mutual
theorem plD_depth : ∀ d : PyData, (plD d).depth ≤ 2 * d.depth + 1
  | .list xs => by
    have h := plA_depth xs
    show max 0 (max (PyData.depthAll (plA xs) + 1) 0) + 1 ≤ 2 * (PyData.depthAll xs + 1) + 1
    omega
  | .tuple xs => by
    have h := plA_depth xs
    show max 0 (max (PyData.depthAll (plA xs) + 1) 0) + 1 ≤ 2 * (PyData.depthAll xs + 1) + 1
    omega
  | .bool b => by show 1 ≤ 1; omega
  | .none => by show 1 ≤ 1; omega
  | .int i => by show 1 ≤ 1; omega
  | .str x => by show 1 ≤ 1; omega
  | .dict kvs => by
    show max 0 (max (PyData.depthKv kvs + 1) 0) + 1 ≤ 2 * (PyData.depthKv kvs + 1) + 1
    omega
theorem plA_depth : ∀ ds : List PyData, (PyData.depthAll (plA ds)) ≤ 2 * (PyData.depthAll ds) + 1
  | [] => Nat.zero_le _
  | x :: r => by
    have h1 := plD_depth x
    have h2 := plA_depth r
    show max (plD x).depth (PyData.depthAll (plA r)) ≤ 2 * (max x.depth (PyData.depthAll r)) + 1
    omega
end
mutual
theorem plD_lay : ∀ d : PyData, d.canLay0 = true → (plD d).canLay0 = true
  | .list xs, h => by
    show (true && (PyData.canLayAll0 (plA xs) && true)) = true
    rw [plA_lay xs h]
    rfl
  | .tuple xs, h => by
    show (true && (PyData.canLayAll0 (plA xs) && true)) = true
    rw [plA_lay xs h]
    rfl
  | .bool b, h => rfl
  | .none, h => rfl
  | .int i, h => rfl
  | .str x, h => by
    show (true && ((PyData.str x).canLay0 && true)) = true
    rw [h]
    rfl
  | .dict kvs, h => by cases h
theorem plA_lay : ∀ ds : List PyData, PyData.canLayAll0 ds = true → PyData.canLayAll0 (plA ds) = true
  | [], _ => rfl
  | x :: r, h => by
    have h' := Bool.and_eq_true_iff.mp h
    show ((plD x).canLay0 && PyData.canLayAll0 (plA r)) = true
    rw [plD_lay x h'.1, plA_lay r h'.2]
    rfl
end
theorem plD_shaped {d : PyData} (h : d.canLay0 = true) (hd : d.depth ≤ 20) : SeqAt.shaped (plD d) = true := by
  have h2 := plD_depth d
  unfold SeqAt.shaped
  rw [plD_lay d h, Bool.true_and]
  exact decide_eq_true (by omega)
def spPlain (K : PySem.W.Frag) : Nat → Sp
  | 0 => fun _ _ _ _ => False
  | n + 1 => fun vs H Q _ => ∃ (v : V) (d : PyData) (S : ASet), vs = [v] ∧ (∀ a, S a → H a ≠ none) ∧ Dx K H S v d ∧ d.depth ≤ n ∧ wdB d = true ∧ ∀ H' v', Same H H' → Dx K H' S v' (plD d) → Q v' H'

section
variable {P : Program} {w : World} {K : PySem.W.Frag} {mg : Str → Option Value} {base : Heap} {A : Ads}
theorem ok_law_draw (T : Txt K mg A) : FnOk P w K mg base CX0 1 A.a_law_draw A.d_law_draw ["_law_source_here", "_law_below"] spDraw := by
  refine T.F_law_draw.ok sc_law_draw (fun vs H Q E h => ?_) (fun cdv B outer s H vs Q E hr h => ?_)
  · obtain ⟨c, p, b, rfl, _⟩ := h
    rfl
  · obtain ⟨c, p, b, rfl, ⟨cs, pl, dg, ct, mx, hp, hc, hn, hpl⟩, hb, hb2, q⟩ := h
    refine ⟨_, (pss_cons (ps_set (i := 2) sc_law_draw.nd rfl (.inl rfl) (pe_ix ix_list (pv 0) pe_int (fun _ _ => rfl)))
    (pss_cons (ps_set (i := 3) sc_law_draw.nd rfl (.inl rfl) (pe_ix ix_list (pv 0) pe_int (fun _ _ => rfl)))
    (pss_cons (ps_set (i := 4) sc_law_draw.nd rfl (.inl rfl) (pe_ix ix_list (pv 0) pe_int (fun _ _ => rfl)))
    (pss_cons (ps_set (i := 5) sc_law_draw.nd rfl (.inl rfl) (pe_ix ix_list (pv 0) pe_int (fun _ _ => rfl)))
    (pss_cons (ps_asg (pe_op op_add (pv 5) pe_int) (pg_sub (pv 0) pe_int set_list))
    (pss_cons (ps_if (PW.pt (pw_and (pt_cmpR op_eq (pe_ix ix_list (pv 0) pe_int (fun _ _ => rfl)) pe_int (nomark _)) (pw_and1 (pt_cmpR op_lt (pv 3) (pe_callB len_seq (by rfl) T.n_len (by decide +kernel) (pa_cons (pv 2) pa_nil)) (nomark _))))) (pss_cons (ps_asg (pe_op op_fdivN (pv 4) (pv 1)) (pg_sub (pv 0) pe_int set_list))
    (pss_cons (ps_if (pt_cmpR op_eq (pe_ix ix_list (pv 0) pe_int (fun _ _ => rfl)) pe_int (nomark _)) (pss_cons (ps_asg (pe_op op_add (pv 3) pe_int) (pg_sub (pv 0) pe_int set_list))
    (pss_one (ps_if (pt_cmpR op_lt (pe_op op_add (pv 3) pe_int) (pe_callB len_seq (by rfl) T.n_len (by decide +kernel) (pa_cons (pv 2) pa_nil)) (nomark _)) (pss_one (ps_asg (pe_ix ix_list (pv 2) (pe_op op_add (pv 3) pe_int) (fun _ _ => rfl)) (pg_sub (pv 0) pe_int set_list))) pss_nil))) pss_nil)
    (pss_one (ps_ret (pe_op op_modN (pe_callTy call_int1 (by rfl) T.n_int (by decide +kernel) (pa_cons (pv 4) pa_nil)) (pv 1)))))) pss_nil)
    (pss_cons (ps_set (i := 6) sc_law_draw.nd rfl (.inl rfl) (pe_op op_add (pe_op op_add (pe_ix ix_list (pv 2) (pe_op op_modN (pe_callTy call_int1 (by rfl) T.n_int (by decide +kernel) (pa_cons (pv 5) pa_nil)) (pe_callB len_seq (by rfl) T.n_len (by decide +kernel) (pa_cons (pv 2) pa_nil))) (fun _ _ => rfl)) (pe_op op_mul pe_int (pv 5))) pe_int))
    (pss_cons (ps_set (i := 7) sc_law_draw.nd rfl (.inl rfl) (pe_op op_mod (pe_callTy call_int1 (by rfl) T.n_int (by decide +kernel) (pa_cons (pe_op op_add (pe_op op_mul (pv 6) pe_int) (pe_op op_mul (pe_op op_add (pv 5) pe_int) pe_int)) pa_nil)) pe_int))
    (pss_cons (ps_set (i := 7) sc_law_draw.nd rfl (.inl rfl) (pe_op op_mod (pe_callTy call_int1 (by rfl) T.n_int (by decide +kernel) (pa_cons (pe_op op_add (pe_op op_mul (pv 7) (pe_op op_add (pe_op op_add (pe_op op_mod (pe_callTy call_int1 (by rfl) T.n_int (by decide +kernel) (pa_cons (pv 7) pa_nil)) pe_int) (pv 5)) pe_int)) (pv 6)) pa_nil)) pe_int))
    (pss_one (ps_ret (pe_op op_modN (pe_callTy call_int1 (by rfl) T.n_int (by decide +kernel) (pa_cons (pe_op op_fdiv (pv 7) pe_int) pa_nil)) (pv 1))))))))))))), ?_⟩
    have nc : c ≠ p := ne_of hc hp (by intro z; have := HO.lst.inj z; cases cs with | nil => cases hn | cons a r => cases this)
    have hmod : ∀ i : Int, 0 ≤ i.fmod b ∧ i.fmod b < b := fun i => ⟨Int.fmod_nonneg_of_pos _ hb, Int.fmod_lt_of_pos _ hb⟩
    have cat : ∀ {H1}, But p H H1 → H1 c = some (.lst (cs.map V.int)) := fun h => h c _ nc hc
    have fin : ∀ {H1} {x1 x2 x3 x4 : Int} (i : Int), But p H H1 → 0 ≤ x1 → H1 p = some (.lst [.ref c, .int x1, .int x2, .int x3, .int x4]) → Q (.int (i.fmod b)) H1 := fun i bt h e => by
      have := q _ (i.fmod b).toNat (by have := hmod i; omega) ⟨cs, _, _, _, _, e, cat bt, hn, h⟩ bt
      rw [Int.toNat_of_nonneg (hmod i).1] at this
      exact this
    have hb3 : b ≠ 0 ∧ b.natAbs < 1073741824 := ⟨by omega, by omega⟩
    have hl : 0 < (cs.map V.int).length := by rw [List.length_map]; exact hn
    have tail : ∀ i : Int, 0 ≤ i.fmod ((cs.map V.int).length : Int) ∧ i.fmod ((cs.map V.int).length : Int) < cs.length := fun i => by
      rw [List.length_map]
      exact ⟨Int.fmod_nonneg_of_pos _ (by omega), Int.fmod_lt_of_pos _ (by omega)⟩
    obtain ⟨z, hz⟩ := get_int (cs := cs) (tail ct).1 (tail ct).2
    walk_at "s"
    have b1 : ∀ o, But p H (upd H p o) := fun o => (But.refl p H).upd
    have c1 : ∀ o, SqL K (upd H p o) c (cs.map V.int) := fun o => SqL.of (cat (b1 o))
    refine ite2 (fun e => ?_) (fun e => ?_)
    · refine ⟨_, rfl, .ref c, rfl, c, _, rfl, .inl (c1 _), ?_⟩
      walk_at "s"
      refine ite2 (fun e => ?_) (fun e => ?_)
      · walk_at "s"
        refine ite2 (fun e => ?_) (fun e => ?_)
        · walk_at "s"
          refine ⟨c, _, rfl, .inl (SqL.of (cat (b1 _).upd.upd)), ?_⟩
          walk_at "s"
          refine ite2 (fun e3 => ?_) (fun e3 => ?_)
          · have e4 : pl + 1 < ((cs.map V.int).length : Int) := of_decide_eq_true e3
            obtain ⟨z2, hz2⟩ := get_int (cs := cs) (i := pl + 1) (by omega) (by rw [List.length_map] at e4; exact e4)
            walk_at "s"
            refine ⟨_, _, _, _, rfl, rfl, SqL.of (cat (b1 _).upd.upd), hz2, ?_⟩
            walk_at "s"
            exact fin _ (b1 _).upd.upd.upd (by omega) upd_same
          · walk_at "s"
            exact fin _ (b1 _).upd.upd (by omega) upd_same
        · walk_at "s"
          exact fin _ (b1 _).upd hpl upd_same
      · walk_at "s"
        try (refine ⟨_, _, _, _, rfl, rfl, c1 _, hz, ?_⟩)
        walk_at "s"
        exact fin _ (b1 _) hpl upd_same
    · walk_at "s"
      try (refine ⟨_, _, _, _, rfl, rfl, c1 _, hz, ?_⟩)
      walk_at "s"
      exact fin _ (b1 _) hpl upd_same

theorem ok_law_source (T : Txt K mg A) : FnOk P w K mg base CX0 1 A.a_law_source A.d_law_source ["_law_script"] (spSource K) := by
  refine T.F_law_source.ok sc_law_source (fun vs H Q E h => ?_) (fun cdv A outer s H vs Q E hr h => ?_)
  · obtain ⟨a, ns, rfl, _⟩ := h
    rfl
  · obtain ⟨a, ns, rfl, hS, hl, q⟩ := h
    refine ⟨_, (pss_cons (ps_setLc (i := 2) (own := [("_law_cell", 1)]) rfl sc_law_source.nd rfl rfl (sw_true rfl rfl rfl (by decide +kernel)) (pi_list (pv 0)) (blkOk_by (own := [("_law_cell", 1)]) (N := N_law_source) (sc := defScope s_law_source) (by decide +kernel)) (fun _ _ _ _ _ => pg_name (i := 1) sc_law_source.nd rfl (Or.inl rfl)) (fun _ _ _ _ _ => pts_nil) (fun _ _ _ _ _ => by exact (pe_callB call_abs (by rfl) T.n_abs (by decide +kernel) (pa_cons (pe_callTy call_int1 (by rfl) T.n_int (by decide +kernel) (pa_cons (pv 1) pa_nil)) pa_nil))))
    (pss_cons (ps_if (pt_cmpR op_eq (pe_callB len_seq (by rfl) T.n_len (by decide +kernel) (pa_cons (pv 2) pa_nil)) pe_int (nomark _)) (pss_one (ps_set (i := 2) sc_law_source.nd rfl (.inl rfl) (pe_lst (pa_cons pe_int pa_nil)))) pss_nil)
    (pss_cons (ps_set (i := 3) sc_law_source.nd rfl (.inl rfl) pe_int)
    (pss_cons (ps_if (pt_cmpR op_lt (pe_ix ix_list (pv 2) pe_int (fun _ _ => rfl)) (pe_op op_pow pe_int pe_int) (nomark _)) (pss_one (ps_set (i := 3) sc_law_source.nd rfl (.inl rfl) (pe_op op_mod (pe_callTy call_int1 (by rfl) T.n_int (by decide +kernel) (pa_cons (pe_ix ix_list (pv 2) pe_int (fun _ _ => rfl)) pa_nil)) pe_int))) pss_nil)
    (pss_one (ps_ret (pe_lst (pa_cons (pv 2) (pa_cons pe_int (pa_cons (pe_ix ix_list (pv 2) pe_int (fun _ _ => rfl)) (pa_cons pe_int (pa_cons (pv 3) pa_nil)))))))))))), ?_⟩
    have w := walk_list (K := K) (a := a) (xs := ns.map V.int)
    refine ⟨_, rfl, a, rfl, ⟨_, hS⟩, fun D hD => ?_⟩
    have hx : ∀ {i : Nat} {x : V}, (ns.map V.int)[i]? = some x → x = .int (ns.getD i 0) := fun {i x} e => by
      rw [List.getElem?_map] at e
      cases h : ns[i]? with
      | none => rw [h] at e; cases e
      | some z =>
        rw [h] at e
        rw [List.getD_eq_getElem?_getD, h]
        exact (Option.some.inj e).symm
    refine lc_vals w (fun i x => (ns.map V.int)[i]? = some x) (fun i => .int (if ns.getD i 0 < 0 then -ns.getD i 0 else ns.getD i 0)) hD (fun H' e => e.seq hS) (by rw [List.length_map]; omega) (fun i H x H' _ y => y) (fun i x H' hi sm e Q q => ?_) (fun H1 s1 e1 => ?_)
    · rw [hx e]
      exact ⟨_, rfl, .inl ⟨_, rfl, _, rfl, q _ (Same.refl _)⟩⟩
    have e2 : H1 D = some (.lst (((List.range ns.length).map fun i => if ns.getD i 0 < 0 then -ns.getD i 0 else ns.getD i 0).map V.int)) := by
      rw [e1, List.map_map, List.length_map]
      rfl
    generalize hcs : ((List.range ns.length).map fun i => if ns.getD i 0 < 0 then -ns.getD i 0 else ns.getD i 0) = cs at e2
    clear hcs e1
    refine ⟨_, rfl, D, _, rfl, .inl (SqL.of e2), rfl, _, rfl, ite2 (fun e => ?_) (fun e => ?_)⟩
    · refine ⟨by decide, fun c hc => ?_⟩
      generalize hH : upd H1 c (.lst [V.int 5]) = H2
      have fc : H c = none := s1.free hc
      have ec : H2 c = some (.lst (([5] : List Int).map V.int)) := by rw [← hH]; exact upd_same
      have s2 : Same H1 H2 := by rw [← hH]; exact same_new hc
      have sm : Same H H2 := s1.trans s2
      have hl : 0 < ([5] : List Int).length := by decide
      generalize ([5] : List Int) = cs at ec hl
      clear hH hc
      obtain ⟨z, h0⟩ := get_int (cs := cs) (i := 0) (Int.le_refl 0) (by omega)
      have fin : ∀ (x1 x2 x3 x4 : Int) {H3 : Hp}, 0 ≤ x1 → Same H1 H3 → H3 = H2 → ∀ p, H3 p = none → Q (.ref p) (upd H3 p (.lst [.ref c, .int x1, .int x2, .int x3, .int x4])) := fun x1 x2 x3 x4 H3 h1 s3 e3 p hp => by
        subst e3
        exact q _ c _ (sm.trans (same_new hp)) fc (sm.free hp) ⟨cs, x1, x2, x3, x4, upd_same, by rw [upd_ne (ne_of_none ec hp)]; exact ec, hl, h1⟩
      refine ⟨.ref c, rfl, c, _, _, _, rfl, rfl, SqL.of ec, h0, _, _, rfl, rfl, ⟨by decide, by decide, by decide⟩, _, _, rfl, rfl, _, rfl, ite2 (fun e => ?_) (fun e => ?_)⟩
      · refine ⟨.ref c, rfl, c, _, _, _, rfl, rfl, SqL.of ec, h0, .inl ⟨_, rfl, _, _, rfl, rfl, (by show (0 : Int) < 2; decide), ?_⟩⟩
        refine ⟨.ref c, rfl, .ref c, rfl, c, _, _, _, rfl, rfl, SqL.of ec, h0, _, rfl, lenOk (n := 5) rfl (by decide), fun p hp => ?_⟩
        exact fin _ _ _ _ (Int.le_refl 0) s2 rfl p hp
      · refine ⟨.ref c, rfl, .ref c, rfl, c, _, _, _, rfl, rfl, SqL.of ec, h0, _, rfl, lenOk (n := 5) rfl (by decide), fun p hp => ?_⟩
        exact fin _ _ _ _ (Int.le_refl 0) s2 rfl p hp
    · have hl : 0 < cs.length := by
        cases cs with
        | nil => exact absurd (decide_eq_true rfl) e
        | cons => exact Nat.succ_pos _
      have ec := e2
      have fc : H D = none := hD
      generalize D = c at ec fc
      generalize hH : H1 = H2 at ec
      have s2 : Same H1 H2 := by rw [← hH]; exact Same.refl _
      have sm : Same H H2 := s1.trans s2
      obtain ⟨z, h0⟩ := get_int (cs := cs) (i := 0) (Int.le_refl 0) (by omega)
      have fin : ∀ (x1 x2 x3 x4 : Int) {H3 : Hp}, 0 ≤ x1 → Same H1 H3 → H3 = H2 → ∀ p, H3 p = none → Q (.ref p) (upd H3 p (.lst [.ref c, .int x1, .int x2, .int x3, .int x4])) := fun x1 x2 x3 x4 H3 h1 s3 e3 p hp => by
        subst e3
        exact q _ c _ (sm.trans (same_new hp)) fc (sm.free hp) ⟨cs, x1, x2, x3, x4, upd_same, by rw [upd_ne (ne_of_none ec hp)]; exact ec, hl, h1⟩
      refine ⟨.ref c, rfl, c, _, _, _, rfl, rfl, SqL.of ec, h0, _, _, rfl, rfl, ⟨by decide, by decide, by decide⟩, _, _, rfl, rfl, _, rfl, ite2 (fun e => ?_) (fun e => ?_)⟩
      · refine ⟨.ref c, rfl, c, _, _, _, rfl, rfl, SqL.of ec, h0, .inl ⟨_, rfl, _, _, rfl, rfl, (by show (0 : Int) < 2; decide), ?_⟩⟩
        refine ⟨.ref c, rfl, .ref c, rfl, c, _, _, _, rfl, rfl, SqL.of ec, h0, _, rfl, lenOk (n := 5) rfl (by decide), fun p hp => ?_⟩
        exact fin _ _ _ _ (Int.le_refl 0) s2 rfl p hp
      · refine ⟨.ref c, rfl, .ref c, rfl, c, _, _, _, rfl, rfl, SqL.of ec, h0, _, rfl, lenOk (n := 5) rfl (by decide), fun p hp => ?_⟩
        exact fin _ _ _ _ (Int.le_refl 0) s2 rfl p hp
def spNone : Sp := fun _ _ _ _ => False
theorem ok_plain (T : Txt K mg A) : ∀ n : Nat, FnOk P w K mg base CX0 n A.a_law_plain A.d_law_plain ["_law_thing"] (spPlain K n)
  | 0 => ⟨fun _ _ _ _ h => h.elim, fun _ _ _ _ _ _ _ _ _ _ _ _ _ h => h.elim⟩
  | n + 1 => by
    have G0 : FnOk P w K mg base CX0 n A.a_law_plain A.d_law_plain ["_law_thing"] (spPlain K n) := ok_plain T n
    refine T.F_law_plain.ok sc_law_plain (fun vs H Q E h => ?_) (fun cdv A outer s H vs Q E hr h => ?_)
    · obtain ⟨v, d, S, rfl, _⟩ := h
      rfl
    · obtain ⟨v, d, S, rfl, hS, hd, hn, hw, q⟩ := h
      refine ⟨_, (pss_cons (ps_if (pt_val (pe_callB call_isiT (by rfl) T.n_isinstance (by decide +kernel) (pa_cons (pv 0) (pa_cons (pe_tup (pa_cons (pe_bltn (v := .ty "list") (u := .type "list") (by rfl) T.n_list (by decide +kernel) rfl) (pa_cons (pe_bltn (v := .ty "tuple") (u := .type "tuple") (by rfl) T.n_tuple (by decide +kernel) rfl) pa_nil))) pa_nil)))) (pss_one (ps_ret (pe_tup (pa_cons (pe_callB call_isi (by rfl) T.n_isinstance (by decide +kernel) (pa_cons (pv 0) (pa_cons (pe_bltn (v := .ty "list") (u := .type "list") (by rfl) T.n_list (by decide +kernel) rfl) pa_nil))) (pa_cons (pe_lc (own := [("_law_one", 1)]) rfl sc_law_plain.nd (PI_or (pi_list (pv 0)) (pi_tup (pv 0))) (blkOk_by (own := [("_law_one", 1)]) (N := N_law_plain) (sc := defScope s_law_plain) (by decide +kernel)) (fun _ _ _ _ _ => pg_name (i := 1) sc_law_plain.nd rfl (Or.inl rfl)) (fun _ _ _ _ _ => pts_nil) (fun _ _ _ _ _ => by exact (pe_call G0 (hr.mono (by omega)) rfl T.g_law_plain T.F_law_plain.kp T.b_law_plain .nil pass0 (pa_cons (pv 1) pa_nil)))) pa_nil))))) pss_nil)
    (pss_one (ps_ret (pe_tup (pa_cons (pe_callB call_isi (by rfl) T.n_isinstance (by decide +kernel) (pa_cons (pv 0) (pa_cons (pe_bltn (v := .ty "bool") (u := .type "bool") (by rfl) T.n_bool (by decide +kernel) rfl) pa_nil))) (pa_cons (pv 0) pa_nil)))))), ?_⟩
      have out : ∀ (b : Bool), tn d ≠ "list" → tn d ≠ "tuple" → b = isB (tn d) "bool" → plD d = .tuple [.bool b, d] := fun b h1 h2 h3 => by
        subst h3
        cases hd with
        | non => rfl
        | bl => rfl
        | int => rfl
        | str => rfl
        | lst _ _ => exact absurd rfl h1
        | tup _ _ => exact absurd rfl h2
      refine ⟨_, rfl, lenOk rfl (by decide), fun tp htp => ?_⟩
      have hd1 : Dx K _ S v d := Dx.up (Out.of (same_new (o := .tup (["list", "tuple"].map V.ty)) htp)) hd
      refine ⟨v, tp, _, _, _, _, rfl, upd_same, paired_ty ["list", "tuple"], dp_ty hd1.dp, kit_any (dp_tn hd1.dp) ["list", "tuple"] (by decide), ?_⟩
      have sm0 : Same H (upd H tp (.tup [V.ty "list", V.ty "tuple"])) := same_new htp
      refine ⟨_, rfl, ite2 (fun e => ?_) (fun e => ?_)⟩
      · refine ⟨_, rfl, v, .ty "list", _, _, _, rfl, .ty "list", dp_ty hd1.dp, kit_ty (kitT _ (dp_tn hd1.dp) "list" (by decide)), ?_⟩
        have htt : tn d = "list" ∨ tn d = "tuple" := by
          have hb := dp_tn hd.dp
          rcases List.mem_cons.mp hb with h | hb
          · rw [h] at e; exact absurd e (by decide)
          rcases List.mem_cons.mp hb with h | hb
          · rw [h] at e; exact absurd e (by decide)
          rcases List.mem_cons.mp hb with h | hb
          · rw [h] at e; exact absurd e (by decide)
          rcases List.mem_cons.mp hb with h | hb
          · rw [h] at e; exact absurd e (by decide)
          rcases List.mem_cons.mp hb with h | hb
          · exact .inl h
          · exact .inr (List.mem_singleton.mp hb)
        generalize hH1 : upd H tp (.tup (["list", "tuple"].map V.ty)) = H1 at hd1
        have hH2 : upd H tp (.tup [V.ty "list", V.ty "tuple"]) = H1 := hH1
        rw [hH2] at sm0 ⊢
        have hS1 : ∀ a, S a → H1 a ≠ none := fun a z y => hS a z (sm0.free y)
        cases n with
        | zero =>
          cases hd with
          | lst h t => exact absurd hn (Nat.not_succ_le_zero _)
          | tup h t => exact absurd hn (Nat.not_succ_le_zero _)
          | non => rcases htt with z | z <;> exact absurd z (by show ¬ "NoneType" = _; decide)
          | bl => rcases htt with z | z <;> exact absurd z (by show ¬ "bool" = _; decide)
          | int => rcases htt with z | z <;> exact absurd z (by show ¬ "int" = _; decide)
          | str => rcases htt with z | z <;> exact absurd z (by show ¬ "str" = _; decide)
        | succ n =>
          cases hd1 with
          | non => rcases htt with z | z <;> exact absurd z (by show ¬ "NoneType" = _; decide)
          | bl => rcases htt with z | z <;> exact absurd z (by show ¬ "bool" = _; decide)
          | int => rcases htt with z | z <;> exact absurd z (by show ¬ "int" = _; decide)
          | str => rcases htt with z | z <;> exact absurd z (by show ¬ "str" = _; decide)
          | @lst a xs ds h t =>
            have hw' : wdA ds = true := (Bool.and_eq_true_iff.mp hw).2
            have hl : xs.length ≤ 1000000 := by
              have := of_decide_eq_true (Bool.and_eq_true_iff.mp hw).1
              rw [dxAll_len t]
              omega
            refine .inl ⟨_, rfl, a, rfl, ⟨_, h.sq⟩, fun D hD => ?_⟩
            refine lc_data (S := S) (K := K) (walk_list (K := K) (a := a) (xs := xs)) (fun i x => xs[i]? = some x) (fun i => plD (ds.getD i .none)) hS1 hD (fun H' e => (h.up (Out.of e)).sq) hl (fun i H x H' _ y => y) (fun i x H' hi sm hDn e Q q => ?_) (fun H2 s2 d2 => ?_)
            · obtain ⟨di, h1, h2⟩ := dxAll_get (DxAll.up (Out.of sm) t) e
              have h3 : di.depth ≤ n := by
                have := depth_get h1
                have hn' : PyData.depthAll ds + 1 ≤ n + 1 := hn
                omega
              refine ⟨_, rfl, x, di, inS S D, rfl, fun a z => ?_, ?_, h3, wdA_get hw' h1, fun H' v' s3 d3 => ?_⟩
              · rcases z with z | z
                · exact fun y => hS1 a z (sm.free y)
                · rw [z]; exact hDn
              · exact Dx.up (Out.of sm) (Dx.add hD (Dx.of_get t e h1))
              · refine q _ _ s3 ?_
                rw [List.getD_eq_getElem?_getD, h1]
                exact d3
            refine ⟨lenOk (n := 2) rfl (by decide), fun l hl2 => ?_⟩
            have hSl : ¬ S l := fun z => hS l z (((sm0.trans s2)).free hl2)
            refine q _ _ ((sm0.trans s2).trans (same_new hl2)) ?_
            have e3 : (List.range xs.length).map (fun i => plD (ds.getD i .none)) = plA ds := by
              rw [dxAll_len t, range_getD plD .none ds, plA_map]
            rw [e3] at d2
            exact .tup (XT.of upd_same hSl) (.cons (.bl _) (.cons (Dx.up (Out.of (same_new hl2)) d2) .nil))
          | @tup a xs ds h t =>
            have hw' : wdA ds = true := (Bool.and_eq_true_iff.mp hw).2
            have hl : xs.length ≤ 1000000 := by
              have := of_decide_eq_true (Bool.and_eq_true_iff.mp hw).1
              rw [dxAll_len t]
              omega
            refine .inr ⟨_, rfl, a, rfl, ⟨_, h.sq⟩, fun D hD => ?_⟩
            refine lc_data (S := S) (K := K) (walk_tup (K := K) (a := a) (xs := xs)) (fun i x => xs[i]? = some x) (fun i => plD (ds.getD i .none)) hS1 hD (fun H' e => (h.up (Out.of e)).sq) hl (fun i H x H' _ y => y) (fun i x H' hi sm hDn e Q q => ?_) (fun H2 s2 d2 => ?_)
            · obtain ⟨di, h1, h2⟩ := dxAll_get (DxAll.up (Out.of sm) t) e
              have h3 : di.depth ≤ n := by
                have := depth_get h1
                have hn' : PyData.depthAll ds + 1 ≤ n + 1 := hn
                omega
              refine ⟨_, rfl, x, di, inS S D, rfl, fun a z => ?_, ?_, h3, wdA_get hw' h1, fun H' v' s3 d3 => ?_⟩
              · rcases z with z | z
                · exact fun y => hS1 a z (sm.free y)
                · rw [z]; exact hDn
              · exact Dx.up (Out.of sm) (Dx.add hD (Dx.of_get t e h1))
              · refine q _ _ s3 ?_
                rw [List.getD_eq_getElem?_getD, h1]
                exact d3
            refine ⟨lenOk (n := 2) rfl (by decide), fun l hl2 => ?_⟩
            have hSl : ¬ S l := fun z => hS l z (((sm0.trans s2)).free hl2)
            refine q _ _ ((sm0.trans s2).trans (same_new hl2)) ?_
            have e3 : (List.range xs.length).map (fun i => plD (ds.getD i .none)) = plA ds := by
              rw [dxAll_len t, range_getD plD .none ds, plA_map]
            rw [e3] at d2
            exact .tup (XT.of upd_same hSl) (.cons (.bl _) (.cons (Dx.up (Out.of (same_new hl2)) d2) .nil))
      · refine ⟨_, rfl, v, .ty "bool", _, _, _, rfl, .ty "bool", dp_ty hd1.dp, kit_ty (kitT _ (dp_tn hd1.dp) "bool" (by decide)), _, rfl, lenOk (n := 2) rfl (by decide), fun l hl => ?_⟩
        have n1 : tn d ≠ "list" := fun z => e (by rw [z]; decide)
        have n2 : tn d ≠ "tuple" := fun z => e (by rw [z]; decide)
        have hS2 : ¬ S l := fun z => hS l z (sm0.free hl)
        refine q _ _ (sm0.trans (same_new hl)) ?_
        rw [out _ n1 n2 rfl]
        exact .tup (XT.of upd_same hS2) (.cons (.bl _) (.cons (Dx.up (Out.of (same_new hl)) hd1) .nil))
theorem okH_plain (T : Txt K mg A) : ∀ n : Nat, L2H.FnH P w K mg base CX0 n A.a_law_plain A.d_law_plain ["_law_thing"] (spPlain K n)
  | 0 => ⟨fun _ _ _ _ h => h.elim, fun _ _ _ _ _ _ _ _ _ _ _ _ _ _ _ _ h => h.elim⟩
  | n + 1 => by
    have G0 : L2H.FnH P w K mg base CX0 n A.a_law_plain A.d_law_plain ["_law_thing"] (spPlain K n) := okH_plain T n
    refine Fun.okH T.F_law_plain sc_law_plain (fun vs H Q E h => ?_) (fun cdv A outer s H vs Q E p hot hr h => ?_)
    · obtain ⟨v, d, S, rfl, _⟩ := h
      rfl
    · obtain ⟨v, d, S, rfl, hS, hd, hn, hw, q⟩ := h
      refine ⟨_, (pss_cons (ps_if (pt_val (pe_callB (r := rIsiT K) call_isiT (by rfl) T.n_isinstance (by decide +kernel) (pa_cons (pv 0) (pa_cons (pe_tup (pa_cons (pe_bltn (v := .ty "list") (u := .type "list") (by rfl) T.n_list (by decide +kernel) rfl) (pa_cons (pe_bltn (v := .ty "tuple") (u := .type "tuple") (by rfl) T.n_tuple (by decide +kernel) rfl) pa_nil))) pa_nil)))) (pss_one (ps_ret (pe_tup (pa_cons (pe_callB (r := rIsi K) call_isi (by rfl) T.n_isinstance (by decide +kernel) (pa_cons (pv 0) (pa_cons (pe_bltn (v := .ty "list") (u := .type "list") (by rfl) T.n_list (by decide +kernel) rfl) pa_nil))) (pa_cons (pe_lcH (own := [("_law_one", 1)]) rfl hot List.mem_cons_self sc_law_plain.nd (PIH_or (pi_listH (pv 0)) (pi_tupH (pv 0))) (blkOk_by (own := [("_law_one", 1)]) (N := N_law_plain) (sc := defScope s_law_plain) (by decide +kernel)) (fun _ _ _ _ _ => pg_name (i := 1) sc_law_plain.nd rfl (Or.inl rfl)) (fun _ _ _ _ _ => pts_nil) (fun _ _ _ _ _ => by exact (L2H.pe_callH G0 (hr.mono (by omega)) ⟨p, hot, List.mem_cons_self⟩ rfl T.g_law_plain T.F_law_plain.kp T.b_law_plain (fun _ => pass_at0) (pa_cons (pv 1) pa_nil)))) pa_nil))))) pss_nil)
    (pss_one (ps_ret (pe_tup (pa_cons (pe_callB (r := rIsi K) call_isi (by rfl) T.n_isinstance (by decide +kernel) (pa_cons (pv 0) (pa_cons (pe_bltn (v := .ty "bool") (u := .type "bool") (by rfl) T.n_bool (by decide +kernel) rfl) pa_nil))) (pa_cons (pv 0) pa_nil)))))), ?_⟩
      have out : ∀ (b : Bool), tn d ≠ "list" → tn d ≠ "tuple" → b = isB (tn d) "bool" → plD d = .tuple [.bool b, d] := fun b h1 h2 h3 => by
        subst h3
        cases hd with
        | non => rfl
        | bl => rfl
        | int => rfl
        | str => rfl
        | lst _ _ => exact absurd rfl h1
        | tup _ _ => exact absurd rfl h2
      refine ⟨_, rfl, lenOk rfl (by decide), fun tp htp => ?_⟩
      have hd1 : Dx K _ S v d := Dx.up (Out.of (same_new (o := .tup (["list", "tuple"].map V.ty)) htp)) hd
      refine ⟨v, tp, _, _, _, _, rfl, upd_same, paired_ty ["list", "tuple"], dp_ty hd1.dp, kit_any (dp_tn hd1.dp) ["list", "tuple"] (by decide), ?_⟩
      have sm0 : Same H (upd H tp (.tup [V.ty "list", V.ty "tuple"])) := same_new htp
      refine ⟨_, rfl, ite2 (fun e => ?_) (fun e => ?_)⟩
      · refine ⟨_, rfl, v, .ty "list", _, _, _, rfl, .ty "list", dp_ty hd1.dp, kit_ty (kitT _ (dp_tn hd1.dp) "list" (by decide)), ?_⟩
        have htt : tn d = "list" ∨ tn d = "tuple" := by
          have hb := dp_tn hd.dp
          rcases List.mem_cons.mp hb with h | hb
          · rw [h] at e; exact absurd e (by decide)
          rcases List.mem_cons.mp hb with h | hb
          · rw [h] at e; exact absurd e (by decide)
          rcases List.mem_cons.mp hb with h | hb
          · rw [h] at e; exact absurd e (by decide)
          rcases List.mem_cons.mp hb with h | hb
          · rw [h] at e; exact absurd e (by decide)
          rcases List.mem_cons.mp hb with h | hb
          · exact .inl h
          · exact .inr (List.mem_singleton.mp hb)
        generalize hH1 : upd H tp (.tup (["list", "tuple"].map V.ty)) = H1 at hd1
        have hH2 : upd H tp (.tup [V.ty "list", V.ty "tuple"]) = H1 := hH1
        rw [hH2] at sm0 ⊢
        have hS1 : ∀ a, S a → H1 a ≠ none := fun a z y => hS a z (sm0.free y)
        cases n with
        | zero =>
          cases hd with
          | lst h t => exact absurd hn (Nat.not_succ_le_zero _)
          | tup h t => exact absurd hn (Nat.not_succ_le_zero _)
          | non => rcases htt with z | z <;> exact absurd z (by show ¬ "NoneType" = _; decide)
          | bl => rcases htt with z | z <;> exact absurd z (by show ¬ "bool" = _; decide)
          | int => rcases htt with z | z <;> exact absurd z (by show ¬ "int" = _; decide)
          | str => rcases htt with z | z <;> exact absurd z (by show ¬ "str" = _; decide)
        | succ n =>
          cases hd1 with
          | non => rcases htt with z | z <;> exact absurd z (by show ¬ "NoneType" = _; decide)
          | bl => rcases htt with z | z <;> exact absurd z (by show ¬ "bool" = _; decide)
          | int => rcases htt with z | z <;> exact absurd z (by show ¬ "int" = _; decide)
          | str => rcases htt with z | z <;> exact absurd z (by show ¬ "str" = _; decide)
          | @lst a xs ds h t =>
            have hw' : wdA ds = true := (Bool.and_eq_true_iff.mp hw).2
            have hl : xs.length ≤ 1000000 := by
              have := of_decide_eq_true (Bool.and_eq_true_iff.mp hw).1
              rw [dxAll_len t]
              omega
            refine .inl ⟨_, rfl, a, rfl, ⟨_, h.sq⟩, fun D hD => ?_⟩
            refine lc_data (S := S) (K := K) (walk_list (K := K) (a := a) (xs := xs)) (fun i x => xs[i]? = some x) (fun i => plD (ds.getD i .none)) hS1 hD (fun H' e => (h.up (Out.of e)).sq) hl (fun i H x H' _ y => y) (fun i x H' hi sm hDn e Q q => ?_) (fun H2 s2 d2 => ?_)
            · obtain ⟨di, h1, h2⟩ := dxAll_get (DxAll.up (Out.of sm) t) e
              have h3 : di.depth ≤ n := by
                have := depth_get h1
                have hn' : PyData.depthAll ds + 1 ≤ n + 1 := hn
                omega
              refine ⟨_, rfl, x, di, inS S D, rfl, fun a z => ?_, ?_, h3, wdA_get hw' h1, fun H' v' s3 d3 => ?_⟩
              · rcases z with z | z
                · exact fun y => hS1 a z (sm.free y)
                · rw [z]; exact hDn
              · exact Dx.up (Out.of sm) (Dx.add hD (Dx.of_get t e h1))
              · refine q _ _ s3 ?_
                rw [List.getD_eq_getElem?_getD, h1]
                exact d3
            refine ⟨lenOk (n := 2) rfl (by decide), fun l hl2 => ?_⟩
            have hSl : ¬ S l := fun z => hS l z (((sm0.trans s2)).free hl2)
            refine q _ _ ((sm0.trans s2).trans (same_new hl2)) ?_
            have e3 : (List.range xs.length).map (fun i => plD (ds.getD i .none)) = plA ds := by
              rw [dxAll_len t, range_getD plD .none ds, plA_map]
            rw [e3] at d2
            exact .tup (XT.of upd_same hSl) (.cons (.bl _) (.cons (Dx.up (Out.of (same_new hl2)) d2) .nil))
          | @tup a xs ds h t =>
            have hw' : wdA ds = true := (Bool.and_eq_true_iff.mp hw).2
            have hl : xs.length ≤ 1000000 := by
              have := of_decide_eq_true (Bool.and_eq_true_iff.mp hw).1
              rw [dxAll_len t]
              omega
            refine .inr ⟨_, rfl, a, rfl, ⟨_, h.sq⟩, fun D hD => ?_⟩
            refine lc_data (S := S) (K := K) (walk_tup (K := K) (a := a) (xs := xs)) (fun i x => xs[i]? = some x) (fun i => plD (ds.getD i .none)) hS1 hD (fun H' e => (h.up (Out.of e)).sq) hl (fun i H x H' _ y => y) (fun i x H' hi sm hDn e Q q => ?_) (fun H2 s2 d2 => ?_)
            · obtain ⟨di, h1, h2⟩ := dxAll_get (DxAll.up (Out.of sm) t) e
              have h3 : di.depth ≤ n := by
                have := depth_get h1
                have hn' : PyData.depthAll ds + 1 ≤ n + 1 := hn
                omega
              refine ⟨_, rfl, x, di, inS S D, rfl, fun a z => ?_, ?_, h3, wdA_get hw' h1, fun H' v' s3 d3 => ?_⟩
              · rcases z with z | z
                · exact fun y => hS1 a z (sm.free y)
                · rw [z]; exact hDn
              · exact Dx.up (Out.of sm) (Dx.add hD (Dx.of_get t e h1))
              · refine q _ _ s3 ?_
                rw [List.getD_eq_getElem?_getD, h1]
                exact d3
            refine ⟨lenOk (n := 2) rfl (by decide), fun l hl2 => ?_⟩
            have hSl : ¬ S l := fun z => hS l z (((sm0.trans s2)).free hl2)
            refine q _ _ ((sm0.trans s2).trans (same_new hl2)) ?_
            have e3 : (List.range xs.length).map (fun i => plD (ds.getD i .none)) = plA ds := by
              rw [dxAll_len t, range_getD plD .none ds, plA_map]
            rw [e3] at d2
            exact .tup (XT.of upd_same hSl) (.cons (.bl _) (.cons (Dx.up (Out.of (same_new hl2)) d2) .nil))
      · refine ⟨_, rfl, v, .ty "bool", _, _, _, rfl, .ty "bool", dp_ty hd1.dp, kit_ty (kitT _ (dp_tn hd1.dp) "bool" (by decide)), _, rfl, lenOk (n := 2) rfl (by decide), fun l hl => ?_⟩
        have n1 : tn d ≠ "list" := fun z => e (by rw [z]; decide)
        have n2 : tn d ≠ "tuple" := fun z => e (by rw [z]; decide)
        have hS2 : ¬ S l := fun z => hS l z (sm0.free hl)
        refine q _ _ (sm0.trans (same_new hl)) ?_
        rw [out _ n1 n2 rfl]
        exact .tup (XT.of upd_same hS2) (.cons (.bl _) (.cons (Dx.up (Out.of (same_new hl)) hd1) .nil))
end
end R1

namespace R1
open PySem PySem.Spec PyProof.Rows L2 RK DL SZ
local macro_rules | `(tactic| walk_at "sq") => `(tactic| first
  | exact SqL.of upd_same | exact upd_same | exact SqL.of (by assumption) | exact SqL.of (by rw [upd_ne (by assumption)]; assumption) | assumption)
local macro_rules | `(tactic| walk_at "sd") => `(tactic| first
  | assumption | omega | (refine Or.inl ⟨?_, ?_⟩ <;> omega) | (show _ ∧ _; constructor <;> omega) | (show _ ≠ _; simp; omega) | (exact Or.inl ⟨by decide, by decide⟩) | (exact Or.inr ⟨by decide, by decide⟩) | (show _ < _; decide) | (show _ ≤ _; decide))
local macro_rules | `(tactic| walk_at "at") => `(tactic| first | rfl | (refine atI_intV ?_ ?_ <;> omega) | assumption)
local macro_rules | `(tactic| walk_at "s1") => `(tactic| first
  | refine ⟨_, rfl, ?_⟩ | refine ⟨_, _, rfl, rfl, ?_⟩ | refine ⟨rfl, ?_⟩
  | refine ⟨_, _, _, _, rfl, rfl, by walk_at "sq", by walk_at "at", ?_⟩
  | refine Or.inl ⟨_, rfl, ?_⟩
  | refine ⟨_, _, rfl, Or.inl (by walk_at "sq"), ?_⟩
  | refine And.intro (by walk_at "sd") ?_)
local macro_rules | `(tactic| walk_at "s") => `(tactic| repeat walk_at "s1")

theorem intV_app (a b : List Nat) : intV (a ++ b) = intV a ++ intV b := List.map_append ..
theorem intV_len (a : List Nat) : (intV a).length = a.length := List.length_map ..
theorem intV_at {ws : List Nat} {i : Nat} (h : i < ws.length) : (intV ws)[i]? = some (.int ((ws.getD i 0 : Nat) : Int)) := by
  unfold intV
  rw [List.getElem?_map, List.getElem?_eq_getElem h, List.getD_eq_getElem?_getD, List.getElem?_eq_getElem h]
  rfl
theorem lt_line {n : Nat} (h : n ≤ 1000000) : n < sizeLine := Nat.lt_of_le_of_lt h (by decide)
theorem le_line {n : Nat} (h : n ≤ 1000000) : n ≤ sizeLine := Nat.le_of_lt (lt_line h)
theorem back_iff {W : List Nat} {p a c : Nat} (hc : c ≤ W.length - p) : occW W ((W.drop p).take c) a ↔ c ≤ lcp (W.drop a) (W.drop p) := by
  unfold occW
  rw [List.length_take, List.length_drop, Nat.min_eq_left hc]
  exact lcp_iff _ _ _ (by rw [List.length_drop]; exact hc)
theorem take_ne {W : List Nat} {p c : Nat} (hc : c ≤ W.length - p) (h0 : 0 < c) : (W.drop p).take c ≠ [] := fun z => by
  have := congrArg List.length z
  rw [List.length_take, List.length_drop, Nat.min_eq_left hc] at this
  simp at this
  omega
section
variable {W : List Nat} (hW : ∀ x ∈ W, x ≤ 65535) {p : Nat} (hp : p < W.length)
include hW hp
theorem part_w : ∀ c, ∀ x ∈ (W.drop p).take c, x ≤ 65535 := fun c x hx => hW x (List.mem_of_mem_drop (List.mem_of_mem_take hx))
theorem fb_ge {c : Nat} (h0 : 0 < c) (h : c ≤ bk W p) : 0 ≤ Txt.findIn (sO (txW W)) (sO (txW ((W.drop p).take c))) 0 ((5 * (p + (c - 1)) : Nat) : Int) := by
  have hb := bk_le W p
  obtain ⟨d1, d2, d3, _⟩ := bk_dst (W := W) (p := p) (by omega)
  have hl : ((W.drop p).take c).length = c := by rw [List.length_take, List.length_drop]; omega
  exact findH_ge hW (part_w hW hp c) (take_ne (by omega) h0) (by omega) ((back_iff (a := p - dst W p) (by omega)).mpr (by omega)) (by rw [hl]; omega)
theorem fb_lt {c : Nat} (h0 : 0 < c) (hc : c ≤ W.length - p) (h : bk W p < c) : Txt.findIn (sO (txW W)) (sO (txW ((W.drop p).take c))) 0 ((5 * (p + (c - 1)) : Nat) : Int) = -1 := by
  have hl : ((W.drop p).take c).length = c := by rw [List.length_take, List.length_drop]; omega
  refine findH_no hW (part_w hW hp c) (take_ne hc h0) (by omega) fun a ha hb => ?_
  have h1 := (back_iff hc).mp ha
  rw [hl] at hb
  have h2 := bkA_ge W (W.drop p) p a (by omega)
  have h3 : bkA W (W.drop p) p = bk W p := rfl
  omega
theorem fb_last (h : 0 < bk W p) : Txt.rfindIn (sO (txW W)) (sO (txW ((W.drop p).take (bk W p)))) 0 ((5 * (p + (bk W p - 1)) : Nat) : Int) = ((5 * (p - dst W p) : Nat) : Int) := by
  have hb := bk_le W p
  obtain ⟨d1, d2, d3, d4⟩ := bk_dst h
  have hl : ((W.drop p).take (bk W p)).length = bk W p := by rw [List.length_take, List.length_drop]; omega
  refine rfindH hW (part_w hW hp _) (take_ne hb h) (by omega) ((back_iff hb).mpr (by omega)) (by rw [hl]; omega) fun b hb1 hb2 hb3 => ?_
  have h1 := (back_iff hb).mp hb3
  rw [hl] at hb2
  have h2 := d4 (p - b) (by omega) (by omega)
  rw [show p - (p - b) = b by omega] at h2
  omega
end
def spText (K : PySem.W.Frag) : Sp := fun vs H Q _ => ∃ (a : Addr) (ws : List Nat), vs = [.ref a] ∧ SqT K H a (intV ws) ∧ (∀ w ∈ ws, w ≤ 65535) ∧ ws.length ≤ 3000 ∧ ∀ H', Same H H' → Q (.str (sO (txW ws))) H'
def spPart : Sp := fun vs H Q _ => ∃ (ws : List Nat) (p c : Nat), vs = [.str (sO (txW ws)), .int (p : Int), .int (c : Int)] ∧ ws.length ≤ 3000 ∧ Q (.str (sO (txW ((ws.drop p).take c)))) H
def WT (K : PySem.W.Frag) (H : Hp) (a : Addr) (W : List Nat) : Prop := SqT K H a (intV W) ∧ (∀ w ∈ W, w ≤ 65535) ∧ W.length ≤ 3000
def bksL (W : List Nat) : List Nat := (List.range W.length).map (bk W)
def rlsL (W : List Nat) : List Nat := (List.range W.length).map fun p => rl (W.drop p)
def spBacks (K : PySem.W.Frag) : Sp := fun vs H Q _ => ∃ (a : Addr) (W : List Nat), vs = [.ref a] ∧ WT K H a W ∧ ∀ H' l, Same H H' → H' l = some (.lst (intV (bksL W))) → Q (.ref l) H'
def spRuns (K : PySem.W.Frag) : Sp := fun vs H Q _ => ∃ (a : Addr) (W : List Nat), vs = [.ref a] ∧ WT K H a W ∧ ∀ H' l, Same H H' → H' l = some (.lst (intV (rlsL W))) → Q (.ref l) H'
def spDist (K : PySem.W.Frag) : Sp := fun vs H Q _ => ∃ (a : Addr) (W : List Nat) (p : Nat), vs = [.ref a, .int (p : Int), .int ((bk W p : Nat) : Int)] ∧ WT K H a W ∧ p < W.length ∧ 0 < bk W p ∧ ∀ H', Same H H' → Q (.int ((dst W p : Nat) : Int)) H'
def spFew : Sp := fun vs H Q _ => ∃ (a b : Addr) (W : List Nat), vs = [.ref a, .ref b] ∧ H a = some (.lst (intV (bksL W))) ∧ H b = some (.lst (intV (rlsL W))) ∧ W.length ≤ 3000 ∧ ∀ H' l, Same H H' → H' l = some (.lst (intV (RZ W W.length))) → Q (.ref l) H'
def spMost : Sp := fun vs H Q _ => ∃ (l : Addr) (p : Nat) (W : List Nat), vs = [.ref l, .int (p : Int)] ∧ H l = some (.lst (intV (RZ W W.length))) ∧ p < W.length ∧ W.length ≤ 3000 ∧ (RZ W W.length).getD p 0 = mm (RZ W (W.length - p - 1)) ∧ Q (.int ((bp (RZ W (W.length - p - 1)) : Nat) : Int)) H
def spFewest (K : PySem.W.Frag) : Sp := fun vs H Q _ => ∃ (a : Addr) (W : List Nat), vs = [.ref a] ∧ WT K H a W ∧ ∀ H' l, Same H H' → H' l = some (.lst (intV (RZ W W.length))) → Q (.ref l) H'
theorem bksL_at {W : List Nat} {p : Nat} (h : p < W.length) : (bksL W).getD p 0 = bk W p := by
  unfold bksL
  rw [List.getD_eq_getElem?_getD, List.getElem?_map, List.getElem?_range h]
  rfl
theorem rlsL_at {W : List Nat} {p : Nat} (h : p < W.length) : (rlsL W).getD p 0 = rl (W.drop p) := by
  unfold rlsL
  rw [List.getD_eq_getElem?_getD, List.getElem?_map, List.getElem?_range h]
  rfl
theorem bksL_len (W : List Nat) : (bksL W).length = W.length := by unfold bksL; rw [List.length_map, List.length_range]
theorem rlsL_len (W : List Nat) : (rlsL W).length = W.length := by unfold rlsL; rw [List.length_map, List.length_range]
section
variable {P : Program} {w : World} {K : PySem.W.Frag} {mg : Str → Option Value} {base : Heap} {A : Ads}
theorem ok_text_to_find (T : Txt K mg A) : FnOk P w K mg base CX0 1 A.a_text_to_find A.d_text_to_find ["words"] (spText K) := by
  refine T.F_text_to_find.ok sc_text_to_find (fun vs H Q E h => ?_) (fun cdv B outer s H vs Q E hr h => ?_)
  · obtain ⟨a, ws, rfl, _⟩ := h
    rfl
  · obtain ⟨a, ws, rfl, ha, hw, hl, q⟩ := h
    refine ⟨_, (pss_one (ps_ret (pe_bm PySem.F.plainAttrs_str PySem.F.slot_str_join PySem.F.type_str_join mt_join pe_str (pa_cons (pe_lc (own := [("word", 1)]) rfl sc_text_to_find.nd (pi_tup (pv 0)) (blkOk_by (own := [("word", 1)]) (N := N_text_to_find) (sc := defScope s_text_to_find) (by decide +kernel)) (fun _ _ _ _ _ => pg_name (i := 1) sc_text_to_find.nd rfl (Or.inl rfl)) (fun _ _ _ _ _ => pts_nil) (fun _ _ _ _ _ => by exact (pe_joined (.cons pe_str (.cons (pe_fmt4 (pv 1) (pe_joined1 pe_str)) .nil))))) pa_nil)))), ?_⟩
    have hil := intV_len ws
    refine ⟨rfl, _, rfl, a, rfl, ⟨_, ha⟩, fun D hD => ?_⟩
    refine lc_vals (walk_tup (K := K) (a := a) (xs := intV ws)) (te := fun σ H Q => tJs [tC (V.str (Str.ofString ",")), tF4 (tVar 1)] Str.empty σ H fun out H1 => Q (.str out) H1) (fun i v => (intV ws)[i]? = some v) (fun i => .str (sO (44 :: hexd (ws.getD i 0)))) hD (fun H4 s4 => sqT_up ha s4) (by omega) (fun i H1 v H2 hi y => y) (fun i v H4 hi sm hv Q q => ?_) (fun H4 s4 e4 => ?_)
    · rw [hil] at hi
      rw [intV_at hi] at hv
      cases hv
      have hwi : ws.getD i 0 ≤ 65535 := by
        rw [List.getD_eq_getElem?_getD, List.getElem?_eq_getElem hi]
        exact hw _ (List.getElem_mem hi)
      refine ⟨_, rfl, le_line (by decide +kernel), _, rfl, ws.getD i 0, rfl, by omega, _, rfl, ?_, ?_⟩
      · rw [show Str.empty ++ Str.ofString "," = sO [44] by decide +kernel, sO_app, sO_len]
        exact le_line (n := 5) (by decide)
      · rw [show Str.empty ++ Str.ofString "," = sO [44] by decide +kernel, sO_app]
        exact q _ (Same.refl _)
    · have e4' : H4 D = some (.lst ((ws.map fun w => sO (44 :: hexd w)).map V.str)) := by
        rw [e4, hil, List.map_map]
        exact congrArg (fun z => some (HO.lst z)) (range_getD (fun w : Nat => V.str (sO (44 :: hexd w))) 0 ws)
      have hj : Txt.join (Str.ofString "") (ws.map fun w => sO (44 :: hexd w)) = sO (txW ws) := by
        rw [show Str.ofString "" = sO [] by decide +kernel, RK.join_nil, List.map_map]
        unfold txW
        rw [List.flatMap_def]
        rfl
      refine ⟨_, _, _, rfl, rfl, .inl (SqL.of e4'), ?_, ?_⟩
      · rw [show (Str.ofString "").length = 0 by decide +kernel, Nat.mul_zero, List.map_map]
        have : ∀ l : List Nat, (l.map ((fun x : Str => x.length) ∘ fun w => sO (44 :: hexd w))).sum = 5 * l.length := fun l => by
          induction l with
          | nil => rfl
          | cons x r ih =>
            rw [List.map_cons, List.sum_cons, ih, List.length_cons]
            show 5 + _ = _
            omega
        rw [this]
        omega
      · rw [hj]
        exact q _ s4
theorem ok_part_of_text (T : Txt K mg A) : FnOk P w K mg base CX0 1 A.a_part_of_text A.d_part_of_text ["text", "place", "count"] spPart := by
  refine T.F_part_of_text.ok sc_part_of_text (fun vs H Q E h => ?_) (fun cdv B outer s H vs Q E hr h => ?_)
  · obtain ⟨a, p, c, rfl, _⟩ := h
    rfl
  · obtain ⟨ws, p, c, rfl, hl, q⟩ := h
    refine ⟨_, (pss_one (ps_ret (pe_slice sl_str (pv 0) (po_some (pe_op op_mul (pe_glob (v := .int 5) rfl T.g_WIDTH ⟨_, rfl⟩) (pv 1))) (po_some (pe_op op_mul (pe_glob (v := .int 5) rfl T.g_WIDTH ⟨_, rfl⟩) (pe_op op_add (pv 1) (pv 2))))))), ?_⟩
    walk_at "s"
    refine ⟨by rw [sO_len, txW_len]; exact le_line (by omega), ?_⟩
    rw [show (5 : Int) * (p : Int) = ((5 * p : Nat) : Int) by omega, show (5 : Int) * ((p : Int) + (c : Int)) = ((5 * (p + c) : Nat) : Int) by omega, cut_mid _ _ _ (by omega), txW_drop, show 5 * (p + c) - 5 * p = 5 * c by omega, txW_take]
    exact q
theorem ok_longest_backs (T : Txt K mg A) : FnOk P w K mg base CX0 2 A.a_longest_backs A.d_longest_backs ["words"] (spBacks K) := by
  refine T.F_longest_backs.ok sc_longest_backs (fun vs H Q E h => ?_) (fun cdv B outer s H vs Q E' hr h => ?_)
  · obtain ⟨a, W, rfl, _⟩ := h
    rfl
  · obtain ⟨a, W, rfl, ⟨ha, hW, hWl⟩, q⟩ := h
    refine ⟨_, (pss_cons (ps_set (i := 1) sc_longest_backs.nd rfl (.inl rfl) (pe_call (ok_text_to_find T) (hr.mono (by omega)) rfl T.g_text_to_find T.F_text_to_find.kp T.b_text_to_find .nil pass0 (pa_cons (pv 0) pa_nil)))
    (pss_cons (ps_set (i := 2) sc_longest_backs.nd rfl (.inl rfl) (pe_lst pa_nil))
    (pss_cons (ps_set (i := 3) sc_longest_backs.nd rfl (.inl rfl) pe_int)
    (pss_cons (ps_for PassesOwn.never rfl (pi_range1 (by rfl) T.n_range (pa_cons (pe_callB len_seq (by rfl) T.n_len (by decide +kernel) (pa_cons (pv 0) pa_nil)) pa_nil)) (pg_name (i := 4) sc_longest_backs.nd rfl (.inl rfl))
      (pss_cons (ps_set (i := 3) sc_longest_backs.nd rfl (.inl rfl) (pe_callB (call_max2 rfl) (by rfl) T.n_max (by decide +kernel) (pa_cons pe_int (pa_cons (pe_op op_sub (pv 3) pe_int) pa_nil))))
    (pss_cons (ps_while PassesOwn.never (PW.pt (pw_and (pt_cmpR op_lt (pv 3) (pe_glob (v := .int 16383) rfl T.g_MOST_COUNT ⟨_, rfl⟩) (nomark _)) (pw_and1 (pt_cmpR op_lt (pe_op op_add (pv 4) (pv 3)) (pe_callB len_seq (by rfl) T.n_len (by decide +kernel) (pa_cons (pv 0) pa_nil)) (nomark _))))) (pss_cons (ps_if (pt_cmpR op_lt (pe_bm PySem.F.plainAttrs_str PySem.F.slot_str_find PySem.F.type_str_find mt_find4 (pv 1) (pa_cons (pe_call (ok_part_of_text T) (hr.mono (by omega)) rfl T.g_part_of_text T.F_part_of_text.kp T.b_part_of_text .nil pass0 (pa_cons (pv 1) (pa_cons (pv 4) (pa_cons (pe_op op_add (pv 3) pe_int) pa_nil)))) (pa_cons pe_int (pa_cons (pe_op op_mul (pe_glob (v := .int 5) rfl T.g_WIDTH ⟨_, rfl⟩) (pe_op op_add (pv 4) (pv 3))) pa_nil)))) pe_int (nomark _)) (pss_one ps_break) pss_nil)
    (pss_one (ps_aug (i := 3) sc_longest_backs.nd rfl (.inl rfl) pe_int ip_add))))
    (pss_one (ps_expr (pe_bm PySem.F.plainAttrs_list PySem.F.slot_list_append PySem.F.type_list_append mt_append (pv 2) (pa_cons (pv 3) pa_nil)))))))
    (pss_one (ps_ret (pv 2))))))), ?_⟩
    have hil := intV_len W
    refine ⟨_, rfl, a, W, rfl, ha, hW, hWl, fun H1 s1 => ?_⟩
    refine ⟨lenOk (n := 0) rfl (by decide), fun rw hrw => ?_⟩
    have s3 := same_new (o := .lst []) hrw
    have e3 : upd H1 rw (.lst []) rw = some (.lst (intV [])) := upd_same
    generalize upd H1 rw (.lst []) = H3 at s3 e3 ⊢
    have s13 := s1.trans s3
    have hrH := s1.free hrw
    refine ⟨_, rfl, a, _, rfl, .inr (sqT_up ha s13), _, rfl, by omega, by omega, ?_⟩
    rw [Int.toNat_natCast, hil]
    refine for_it (walk_range (lo := 0) (n := W.length)) (fun i σ Hc => ∃ (c : Nat) (o4 : Option V), σ = [some (.ref a), some (.str (sO (txW W))), some (.ref rw), some (.int (c : Int)), o4] ∧ Same H Hc ∧ Hc rw = some (.lst (intV ((List.range i).map (bk W)))) ∧ c ≤ bk W i + 1)
      ⟨0, _, rfl, s13, e3, Nat.zero_le _⟩ (fun _ _ _ _ _ => trivial) (fun i x σ Hc Hd hi y e => ?_) (fun σ Hc y => ?_)
    · obtain ⟨rfl, ex⟩ := e
      obtain ⟨c, o4, rfl, sm, er, hc⟩ := y
      have ex : x = .int (i : Int) := by rw [ex]; exact congrArg V.int (by omega)
      subst ex
      have hbl := bk_le W i
      have hsl := bk_slide W i hi
      have hge := fun c => fb_ge (c := c) hW hi
      have hlt := fun c => fb_lt (c := c) hW hi
      have hNs : intV ((List.range (i + 1)).map (bk W)) = intV ((List.range i).map (bk W)) ++ [.int ((bk W i : Nat) : Int)] := by
        rw [List.range_succ, List.map_append, intV_app]
        rfl
      have hll : ((List.range i).map (bk W)).length = i := by rw [List.length_map, List.length_range]
      rw [hNs]
      generalize (List.range i).map (bk W) = pre at *
      refine ⟨_, rfl, _, _, rfl, rfl, 0, (c : Int) - 1, rfl, ?_⟩
      obtain ⟨c1, hc1, ec1⟩ : ∃ c1 : Nat, c1 ≤ bk W i ∧ (if (c : Int) - 1 > 0 then (c : Int) - 1 else 0) = (c1 : Int) := by
        by_cases z : (c : Int) - 1 > 0
        · exact ⟨c - 1, by omega, by rw [if_pos z]; omega⟩
        · exact ⟨0, Nat.zero_le _, by rw [if_neg z]; rfl⟩
      rw [ec1]
      generalize hLL : bk W i = L at *
      refine ⟨fun m σ Hz => ∃ c1 : Nat, σ = [some (.ref a), some (.str (sO (txW W))), some (.ref rw), some (.int (c1 : Int)), some (.int (i : Int))] ∧ Hz = Hd ∧ c1 ≤ L ∧ m = W.length - c1, ⟨_, c1, rfl, rfl, hc1, rfl⟩, fun m σ Hz y => ?_⟩
      obtain ⟨c1, rfl, rfl, hc1, rfl⟩ := y
      refine ⟨_, rfl, _, _, rfl, rfl, true, congrArg V.bl (decide_eq_true (show (c1 : Int) < 16383 by omega)), ifT rfl ?_⟩
      refine ⟨_, rfl, _, rfl, _, _, rfl, rfl, _, rfl, a, _, rfl, .inr (sqT_up ha sm), _, _, rfl, rfl, _, rfl, ?_⟩
      rw [hil]
      refine ifB (fun e => ?_) (fun e => ?_)
      · have e := of_decide_eq_true e
        refine ⟨_, fun _ _ h => h, ?_⟩
        refine ⟨_, rfl, rfl, _, rfl, _, rfl, _, rfl, _, _, rfl, rfl, W, i, c1 + 1, rfl, hWl, ?_⟩
        refine ⟨_, rfl, _, rfl, _, _, rfl, rfl, _, _, rfl, rfl, .inl ⟨by decide, by decide⟩, _, sO (txW ((W.drop i).take (c1 + 1))), 0, ((5 * (i + (c1 + 1 - 1)) : Nat) : Int), rfl, congrArg (fun z => [V.str (sO (txW ((W.drop i).take (c1 + 1)))), V.int 0, V.int z]) (show (5 : Int) * ((i : Int) + (c1 : Int)) = ((5 * (i + (c1 + 1 - 1)) : Nat) : Int) by omega), _, _, rfl, rfl, _, rfl, ifB (fun e1 => ?_) (fun e1 => ?_)⟩
        · have e1 := of_decide_eq_true e1
          have : c1 = L := by
            apply Decidable.byContradiction
            intro z
            have := hge (c1 + 1) (by omega) (by omega)
            omega
          subst this
          refine ⟨_, rfl, .inl ⟨rfl, _, SqL.of er⟩, _, rfl, rw, _, _, rfl, rfl, er, lt_line (by rw [intV_len]; omega), ?_⟩
          exact ⟨c1, _, rfl, same_mut sm hrH, upd_same, by omega⟩
        · have e1 := of_decide_eq_false e1
          have : c1 < L := by
            apply Decidable.byContradiction
            intro z
            have := hlt (c1 + 1) (by omega) (by omega) (by omega)
            rw [this] at e1
            exact e1 (by decide)
          refine ⟨_, rfl, _, _, rfl, rfl, W.length - (c1 + 1), by omega, c1 + 1, rfl, rfl, by omega, rfl⟩
      · have e := of_decide_eq_false e
        have : c1 = L := by omega
        subst this
        refine ⟨_, rfl, .inl ⟨rfl, _, SqL.of er⟩, _, rfl, rw, _, _, rfl, rfl, er, lt_line (by rw [intV_len]; omega), ?_⟩
        exact ⟨c1, _, rfl, same_mut sm hrH, upd_same, by omega⟩
    · obtain ⟨c, o4, rfl, sm, er, hc⟩ := y
      exact ⟨_, rfl, q _ rw sm er⟩
theorem ok_least_distance (T : Txt K mg A) : FnOk P w K mg base CX0 2 A.a_least_distance A.d_least_distance ["words", "place", "count"] (spDist K) := by
  refine T.F_least_distance.ok sc_least_distance (fun vs H Q E h => ?_) (fun cdv B outer s H vs Q E' hr h => ?_)
  · obtain ⟨a, W, p, rfl, _⟩ := h
    rfl
  · obtain ⟨a, W, p, rfl, ⟨ha, hW, hWl⟩, hp, h0, q⟩ := h
    refine ⟨_, (pss_cons (ps_set (i := 3) sc_least_distance.nd rfl (.inl rfl) (pe_call (ok_text_to_find T) (hr.mono (by omega)) rfl T.g_text_to_find T.F_text_to_find.kp T.b_text_to_find .nil pass0 (pa_cons (pv 0) pa_nil)))
    (pss_cons (ps_set (i := 4) sc_least_distance.nd rfl (.inl rfl) (pe_bm PySem.F.plainAttrs_str PySem.F.slot_str_rfind PySem.F.type_str_rfind mt_rfind4 (pv 3) (pa_cons (pe_call (ok_part_of_text T) (hr.mono (by omega)) rfl T.g_part_of_text T.F_part_of_text.kp T.b_part_of_text .nil pass0 (pa_cons (pv 3) (pa_cons (pv 1) (pa_cons (pv 2) pa_nil)))) (pa_cons pe_int (pa_cons (pe_op op_mul (pe_glob (v := .int 5) rfl T.g_WIDTH ⟨_, rfl⟩) (pe_op op_sub (pe_op op_add (pv 1) (pv 2)) pe_int)) pa_nil)))))
    (pss_one (ps_ret (pe_op op_sub (pv 1) (pe_op op_fdivN (pv 4) (pe_glob (v := .int 5) rfl T.g_WIDTH ⟨_, rfl⟩))))))), ?_⟩
    have hl := fb_last hW hp h0
    obtain ⟨d1, d2, _⟩ := bk_dst h0
    have hbl := bk_le W p
    refine ⟨_, rfl, a, W, rfl, ha, hW, hWl, fun H1 s1 => ?_⟩
    refine ⟨_, rfl, rfl, _, rfl, _, rfl, _, rfl, W, p, bk W p, rfl, hWl, ?_⟩
    refine ⟨_, rfl, _, rfl, _, _, rfl, rfl, _, _, rfl, rfl, _, _, rfl, rfl, .inl ⟨by decide, by decide⟩, _, sO (txW ((W.drop p).take (bk W p))), 0, ((5 * (p + (bk W p - 1)) : Nat) : Int), rfl, congrArg (fun z => [V.str (sO (txW ((W.drop p).take (bk W p)))), V.int 0, V.int z]) (show (5 : Int) * ((p : Int) + ((bk W p : Nat) : Int) - 1) = ((5 * (p + (bk W p - 1)) : Nat) : Int) by omega), ?_⟩
    rw [hl]
    refine ⟨_, rfl, _, rfl, _, _, rfl, rfl, ⟨by decide, by decide⟩, _, _, rfl, rfl, ?_⟩
    have e : (p : Int) - (((5 * (p - dst W p) : Nat) : Int)).fdiv 5 = ((dst W p : Nat) : Int) := by
      rw [Int.fdiv_eq_ediv_of_nonneg _ (by decide)]
      omega
    have := q _ s1
    rw [← e] at this
    exact this
theorem ok_longest_runs (T : Txt K mg A) : FnOk P w K mg base CX0 1 A.a_longest_runs A.d_longest_runs ["words"] (spRuns K) := by
  refine T.F_longest_runs.ok sc_longest_runs (fun vs H Q E h => ?_) (fun cdv B outer s H vs Q E' hr h => ?_)
  · obtain ⟨a, W, rfl, _⟩ := h
    rfl
  · obtain ⟨a, W, rfl, ⟨ha, hW, hWl⟩, q⟩ := h
    refine ⟨_, (pss_cons (ps_set (i := 1) sc_longest_runs.nd rfl (.inl rfl) (pe_lst pa_nil))
    (pss_cons (ps_set (i := 2) sc_longest_runs.nd rfl (.inl rfl) pe_int)
    (pss_cons (ps_for PassesOwn.never rfl (pi_range3 (by rfl) T.n_range (pa_cons (pe_op op_sub (pe_callB len_seq (by rfl) T.n_len (by decide +kernel) (pa_cons (pv 0) pa_nil)) pe_int) (pa_cons (pe_un un_neg pe_int) (pa_cons (pe_un un_neg pe_int) pa_nil)))) (pg_name (i := 3) sc_longest_runs.nd rfl (.inl rfl))
      (pss_cons (ps_set (i := 4) sc_longest_runs.nd rfl (.inl rfl) (pe_and (pe_cmpR op_lt (pe_op op_add (pv 3) pe_int) (pe_callB len_seq (by rfl) T.n_len (by decide +kernel) (pa_cons (pv 0) pa_nil)) (nomark _)) (pe_and (pe_cmpR op_eq (pe_ix ix_tup (pv 0) (pv 3) (fun _ _ => rfl)) (pe_ix ix_tup (pv 0) (pe_op op_add (pv 3) pe_int) (fun _ _ => rfl)) (nomark _)) (pe_one (pe_cmpR op_lt (pv 2) (pe_glob (v := .int 16383) rfl T.g_MOST_COUNT ⟨_, rfl⟩) (nomark _))))))
    (pss_cons (ps_set (i := 2) sc_longest_runs.nd rfl (.inl rfl) (pe_ifExp (pt_val (pv 4)) (pe_op op_add (pv 2) pe_int) pe_int))
    (pss_one (ps_expr (pe_bm PySem.F.plainAttrs_list PySem.F.slot_list_append PySem.F.type_list_append mt_append (pv 1) (pa_cons (pv 2) pa_nil)))))))
    (pss_one (ps_ret (pe_revL (pv 1))))))), ?_⟩
    have hil := intV_len W
    refine ⟨lenOk (n := 0) rfl (by decide), fun rw hrw => ?_⟩
    have s1 := same_new (o := .lst []) hrw
    have e1 : upd H rw (.lst []) rw = some (.lst (intV [])) := upd_same
    generalize upd H rw (.lst []) = H1 at s1 e1 ⊢
    refine ⟨_, rfl, a, _, rfl, .inr (sqT_up ha s1), _, _, rfl, rfl, _, rfl, _, rfl, _, _, _, _, rfl, RgC.neg (by omega) (by omega) (by decide) (by decide), ?_⟩
    rw [hil, show ((W.length : Nat) : Int) - 1 - -1 = ((W.length : Nat) : Int) by omega, Int.toNat_natCast]
    refine for_it (walk_rangeC (lo := ((W.length : Nat) : Int) - 1) (c := -1) (n := W.length)) (fun i σ Hc => ∃ (o3 o4 : Option V), σ = [some (.ref a), some (.ref rw), some (.int ((rl (W.drop (W.length - i)) : Nat) : Int)), o3, o4] ∧ Same H Hc ∧ Hc rw = some (.lst (intV ((List.range i).map fun j => rl (W.drop (W.length - (j + 1)))))))
      ⟨none, none, ?_, s1, e1⟩ (fun _ _ _ _ _ => trivial) (fun i x σ Hc Hd hi y e => ?_) (fun σ Hc y => ?_)
    · rw [Nat.sub_zero, List.drop_length]
      rfl
    · obtain ⟨rfl, ex⟩ := e
      obtain ⟨o3, o4, rfl, sm, er⟩ := y
      obtain ⟨pl, hpl⟩ : ∃ pl, pl = W.length - 1 - i := ⟨_, rfl⟩
      have hplt : pl < W.length := by omega
      have ex : x = .int (pl : Int) := by rw [ex]; exact congrArg V.int (by omega)
      subst ex
      have ha1 := sqT_up ha sm
      have ed : W.drop (W.length - (i + 1)) = W.getD pl 0 :: W.drop (W.length - i) := by
        rw [show W.length - (i + 1) = pl by omega, List.drop_eq_getElem_cons hplt, show pl + 1 = W.length - i by omega, List.getD_eq_getElem?_getD, List.getElem?_eq_getElem hplt]
        rfl
      have hrle := SZ.rl_le (W.drop (W.length - i))
      rw [List.length_drop] at hrle
      have hll : ((List.range i).map fun j => rl (W.drop (W.length - (j + 1)))).length = i := by rw [List.length_map, List.length_range]
      have hNs : intV ((List.range (i + 1)).map fun j => rl (W.drop (W.length - (j + 1)))) = intV ((List.range i).map fun j => rl (W.drop (W.length - (j + 1)))) ++ [.int ((rl (W.drop (W.length - (i + 1))) : Nat) : Int)] := by
        rw [List.range_succ, List.map_append, intV_app]
        rfl
      rw [hNs]
      generalize (List.range i).map (fun j => rl (W.drop (W.length - (j + 1)))) = pre at *
      have hc63 : ((rl (W.drop (W.length - i)) : Nat) : Int) < 16383 := by omega
      by_cases z0 : i = 0
      · subst z0
        have e1 : rl (W.drop (W.length - (0 + 1))) = 1 := by
          rw [ed, Nat.sub_zero, List.drop_length]
          rfl
        rw [e1]
        refine ⟨_, rfl, _, _, rfl, rfl, _, rfl, a, _, rfl, .inr ha1, _, _, rfl, rfl, false, congrArg V.bl (decide_eq_false (by rw [hil]; omega)), ifF rfl ?_⟩
        refine ⟨_, rfl, _, rfl, ifF rfl ?_⟩
        refine ⟨_, rfl, .inl ⟨rfl, _, SqL.of er⟩, _, rfl, rw, _, _, rfl, rfl, er, lt_line (by rw [intV_len]; omega), ?_⟩
        refine ⟨_, _, rfl, same_mut sm hrw, ?_⟩
        exact upd_same
      · have hat1 := atI_nat (intV_at (ws := W) hplt)
        have hat2 : atI (intV W) ((pl : Int) + 1) = some (.int ((W.getD (pl + 1) 0 : Nat) : Int)) := atI_nat (j := pl + 1) (intV_at (by omega))
        have ed2 : W.drop (W.length - i) = W.getD (pl + 1) 0 :: W.drop (pl + 2) := by
          rw [show W.length - i = pl + 1 by omega, List.drop_eq_getElem_cons (by omega), List.getD_eq_getElem?_getD, List.getElem?_eq_getElem (by omega)]
          rfl
        have erl : rl (W.drop (W.length - (i + 1))) = if W.getD pl 0 = W.getD (pl + 1) 0 then rl (W.drop (W.length - i)) + 1 else 1 := by
          rw [ed, ed2]
          rfl
        rw [erl]
        refine ⟨_, rfl, _, _, rfl, rfl, _, rfl, a, _, rfl, .inr ha1, _, _, rfl, rfl, true, congrArg V.bl (decide_eq_true (by rw [hil]; omega)), ifT rfl ?_⟩
        refine ⟨_, rfl, _, rfl, a, _, _, _, rfl, rfl, ha1, hat1, _, rfl, _, rfl, _, _, rfl, rfl, a, _, _, _, rfl, rfl, ha1, hat2, rfl, ?_⟩
        by_cases hx : W.getD pl 0 = W.getD (pl + 1) 0
        · rw [if_pos hx]
          refine ⟨true, congrArg V.bl (decide_eq_true (by rw [hx])), ifT rfl ?_⟩
          refine ⟨_, rfl, _, _, rfl, rfl, ?_⟩
          have e9 : V.bl (decide (((rl (W.drop (W.length - i)) : Nat) : Int) < 16383)) = V.bl true := congrArg V.bl (decide_eq_true hc63)
          dsimp only
          rw [e9]
          rw [show (((rl (W.drop (W.length - i)) + 1 : Nat)) : Int) = ((rl (W.drop (W.length - i)) : Nat) : Int) + 1 by omega]
          refine ⟨_, rfl, _, rfl, ifT rfl ⟨_, rfl, _, _, rfl, rfl, ?_⟩⟩
          refine ⟨_, rfl, .inl ⟨rfl, _, SqL.of er⟩, _, rfl, rw, _, _, rfl, rfl, er, lt_line (by rw [intV_len]; omega), ?_⟩
          refine ⟨_, _, rfl, same_mut sm hrw, ?_⟩
          exact upd_same
        · rw [if_neg hx]
          refine ⟨false, congrArg V.bl (decide_eq_false fun z => hx (by have := V.int.inj z; omega)), ifF rfl ?_⟩
          refine ⟨_, rfl, _, rfl, ifF rfl ?_⟩
          refine ⟨_, rfl, .inl ⟨rfl, _, SqL.of er⟩, _, rfl, rw, _, _, rfl, rfl, er, lt_line (by rw [intV_len]; omega), ?_⟩
          refine ⟨_, _, rfl, same_mut sm hrw, ?_⟩
          exact upd_same
    · obtain ⟨o3, o4, rfl, sm, er⟩ := y
      refine ⟨_, rfl, rw, _, rfl, SqL.of er, fun p9 hp9 => ?_⟩
      refine q _ p9 (sm.trans (same_new hp9)) ?_
      rw [upd_same]
      unfold intV
      rw [← List.map_reverse]
      refine congrArg (fun z : List Nat => some (HO.lst (z.map fun (n : Nat) => V.int (n : Int)))) ?_
      unfold rlsL
      refine List.ext_getElem (by rw [List.length_reverse, List.length_map, List.length_map]) fun j h1 h2 => ?_
      rw [List.length_map, List.length_range] at h2
      rw [List.getElem_reverse, List.getElem_map, List.getElem_map, List.getElem_range, List.getElem_range, List.length_map, List.length_range, show W.length - (W.length - 1 - j + 1) = j by omega]
theorem ok_fewest_from (T : Txt K mg A) : FnOk P w K mg base CX0 1 A.a_fewest_from A.d_fewest_from ["backs", "runs"] spFew := by
  refine T.F_fewest_from.ok sc_fewest_from (fun vs H Q E h => ?_) (fun cdv B outer s H vs Q E' hr h => ?_)
  · obtain ⟨a, b, W, rfl, _⟩ := h
    rfl
  · obtain ⟨a, b, W, rfl, ha, hb, hWl, q⟩ := h
    refine ⟨_, (pss_cons (ps_set (i := 2) sc_fewest_from.nd rfl (.inl rfl) (pe_lst (pa_cons pe_int pa_nil)))
    (pss_cons (ps_set (i := 3) sc_fewest_from.nd rfl (.inl rfl) (pe_callB len_seq (by rfl) T.n_len (by decide +kernel) (pa_cons (pv 0) pa_nil)))
    (pss_cons (ps_for PassesOwn.never rfl (pi_range3 (by rfl) T.n_range (pa_cons (pe_op op_sub (pe_callB len_seq (by rfl) T.n_len (by decide +kernel) (pa_cons (pv 0) pa_nil)) pe_int) (pa_cons (pe_un un_neg pe_int) (pa_cons (pe_un un_neg pe_int) pa_nil)))) (pg_name (i := 4) sc_fewest_from.nd rfl (.inl rfl))
      (pss_cons (ps_set (i := 5) sc_fewest_from.nd rfl (.inl rfl) (pe_op op_sub (pe_op op_add pe_int (pv 3)) (pv 4)))
    (pss_cons (ps_for PassesOwn.never rfl (pi_tup (pe_tup (pa_cons (pe_ix ix_list (pv 0) (pv 4) (fun _ _ => rfl)) (pa_cons (pe_ix ix_list (pv 1) (pv 4) (fun _ _ => rfl)) pa_nil)))) (pg_name (i := 6) sc_fewest_from.nd rfl (.inl rfl))
      (pss_one (ps_if (PW.pt (pw_and (pt_cmpR op_gt (pv 6) pe_int (nomark _)) (pw_and1 (pt_cmpR op_lt (pe_op op_add pe_int (pe_ix ix_list (pv 2) (pe_op op_sub (pe_callB len_seq (by rfl) T.n_len (by decide +kernel) (pa_cons (pv 2) pa_nil)) (pv 6)) (fun _ _ => rfl))) (pv 5) (nomark _))))) (pss_one (ps_set (i := 5) sc_fewest_from.nd rfl (.inl rfl) (pe_op op_add pe_int (pe_ix ix_list (pv 2) (pe_op op_sub (pe_callB len_seq (by rfl) T.n_len (by decide +kernel) (pa_cons (pv 2) pa_nil)) (pv 6)) (fun _ _ => rfl))))) pss_nil)))
    (pss_cons (ps_expr (pe_bm PySem.F.plainAttrs_list PySem.F.slot_list_append PySem.F.type_list_append mt_append (pv 2) (pa_cons (pv 5) pa_nil)))
    (pss_one (ps_if (pt_cmpR op_lt (pe_op op_add (pv 4) (pv 5)) (pv 3) (nomark _)) (pss_one (ps_set (i := 3) sc_fewest_from.nd rfl (.inl rfl) (pe_op op_add (pv 4) (pv 5)))) pss_nil))))))
    (pss_one (ps_ret (pe_revL (pv 2))))))), ?_⟩
    have hal : (intV (bksL W)).length = W.length := by rw [intV_len, bksL_len]
    refine ⟨lenOk (n := 1) rfl (by decide), fun pr hpr => ?_⟩
    have s1 := same_new (o := .lst [V.int 0]) hpr
    have e1 : upd H pr (.lst [V.int 0]) pr = some (.lst (intV (RZ W 0).reverse)) := upd_same
    generalize upd H pr (.lst [V.int 0]) = H1 at s1 e1 ⊢
    refine ⟨_, rfl, a, _, rfl, .inl (SqL.of (s1 _ _ ha)), _, rfl, a, _, rfl, .inl (SqL.of (s1 _ _ ha)), _, _, rfl, rfl, _, rfl, _, rfl, _, _, _, _, rfl, RgC.neg (by omega) (by omega) (by decide) (by decide), ?_⟩
    rw [hal, show ((W.length : Nat) : Int) - 1 - -1 = ((W.length : Nat) : Int) by omega, Int.toNat_natCast]
    refine for_it (walk_rangeC (lo := ((W.length : Nat) : Int) - 1) (c := -1) (n := W.length)) (fun i σ Hc => ∃ (le : Int) (o4 o5 o6 : Option V), σ = [some (.ref a), some (.ref b), some (.ref pr), some (.int le), o4, o5, o6] ∧ Same H Hc ∧ Hc pr = some (.lst (intV (RZ W i).reverse)) ∧ le = (mm (RZ W i) : Nat) + (W.length : Int) - 2 - i)
      ⟨_, none, none, none, rfl, s1, e1, ?_⟩ (fun _ _ _ _ _ => trivial) (fun i x σ Hc Hd hi y e => ?_) (fun σ Hc y => ?_)
    · show (W.length : Int) = ((2 : Nat) : Int) + (W.length : Int) - 2 - ((0 : Nat) : Int)
      omega
    · obtain ⟨rfl, ex⟩ := e
      obtain ⟨le, o4, o5, o6, rfl, sm, ep, hle⟩ := y
      obtain ⟨pl, hpl⟩ : ∃ pl, pl = W.length - i - 1 := ⟨_, rfl⟩
      have hplt : pl < W.length := by omega
      have ex : x = .int (pl : Int) := by rw [ex]; exact congrArg V.int (by omega)
      subst ex
      have eR : RZ W (i + 1) = nx2 (RZ W i) (bk W pl) (rl (W.drop pl)) :: RZ W i := by rw [hpl]; rfl
      have hRl := RZ_len W i
      have hRne : RZ W i ≠ [] := RG_ne (bk W) (fun p => rl (W.drop p)) W.length i
      have hbl := bk_le W pl
      have hrl := SZ.rl_le (W.drop pl)
      rw [List.length_drop] at hrl
      have hatb : atI (intV (bksL W)) (pl : Int) = some (.int ((bk W pl : Nat) : Int)) := by
        rw [← bksL_at hplt]
        exact atI_nat (intV_at (by rw [bksL_len]; exact hplt))
      have hatr : atI (intV (rlsL W)) (pl : Int) = some (.int ((rl (W.drop pl) : Nat) : Int)) := by
        rw [← rlsL_at hplt]
        exact atI_nat (intV_at (by rw [rlsL_len]; exact hplt))
      rw [eR]
      clear eR
      generalize RZ W i = R at *
      have hrl2 : (intV R.reverse).length = R.length := by rw [intV_len, List.length_reverse]
      have hatR : ∀ c0, 0 < c0 → c0 ≤ R.length → atI (intV R.reverse) ((R.length : Int) - (c0 : Int)) = some (.int ((R.getD (c0 - 1) 0 : Nat) : Int)) := fun c0 h0 h1 => by
        rw [show (R.length : Int) - (c0 : Int) = ((R.length - c0 : Nat) : Int) by omega]
        refine atI_nat ?_
        rw [intV_at (by rw [List.length_reverse]; omega)]
        congr 3
        rw [List.getD_eq_getElem?_getD, List.getElem?_reverse (by omega), List.getD_eq_getElem?_getD]
        congr 2
        omega
      refine ⟨_, rfl, _, _, rfl, rfl, _, rfl, _, _, rfl, rfl, ?_⟩
      dsimp only
      have hm0 : (1 : Int) + le - (pl : Int) = ((mm R : Nat) : Int) := by omega
      rw [hm0]
      refine ⟨_, rfl, _, rfl, a, _, _, _, rfl, rfl, SqL.of (sm _ _ ha), hatb, _, rfl, _, rfl, b, _, _, _, rfl, rfl, SqL.of (sm _ _ hb), hatr, lenOk (n := 2) rfl (by decide), fun tq htq => ?_⟩
      have s2 := same_new (o := .tup [V.int ((bk W pl : Nat) : Int), V.int ((rl (W.drop pl) : Nat) : Int)]) htq
      have e2 : upd Hd tq (.tup [V.int ((bk W pl : Nat) : Int), V.int ((rl (W.drop pl) : Nat) : Int)]) tq = some (.tup [V.int ((bk W pl : Nat) : Int), V.int ((rl (W.drop pl) : Nat) : Int)]) := upd_same
      generalize upd Hd tq (.tup [V.int ((bk W pl : Nat) : Int), V.int ((rl (W.drop pl) : Nat) : Int)]) = H2 at s2 e2 ⊢
      have ep2 := s2 _ _ ep
      refine ⟨tq, rfl, ⟨_, SqT.of e2⟩, ?_⟩
      refine for_it (walk_tup (K := K) (a := tq) (xs := [V.int ((bk W pl : Nat) : Int), V.int ((rl (W.drop pl) : Nat) : Int)])) (fun j σ Hc => ∃ (m : Nat) (o6 : Option V), σ = [some (.ref a), some (.ref b), some (.ref pr), some (.int le), some (.int (pl : Int)), some (.int (m : Int)), o6] ∧ Hc = H2 ∧ m = (if j = 0 then mm R else if j = 1 then st1 R (bk W pl) (mm R) else nx2 R (bk W pl) (rl (W.drop pl))))
        ⟨mm R, _, rfl, rfl, rfl⟩ (fun j σ Hc _ y => ?_) (fun j x σ Hc He hj y e => ?_) (fun σ Hc y => ?_)
      · obtain ⟨_, _, _, rfl, _⟩ := y
        exact SqT.of e2
      · obtain ⟨rfl, e⟩ := e
        obtain ⟨m, o6, rfl, rfl, hm⟩ := y
        obtain ⟨c0, rfl, hc0l, hnx⟩ : ∃ c0 : Nat, x = .int (c0 : Int) ∧ c0 ≤ R.length ∧ (if j + 1 = 0 then mm R else if j + 1 = 1 then st1 R (bk W pl) (mm R) else nx2 R (bk W pl) (rl (W.drop pl))) = st1 R c0 m := by
          match j, hj, e with
          | 0, _, e =>
            cases e
            exact ⟨_, rfl, by omega, by rw [hm]; rfl⟩
          | 1, _, e =>
            cases e
            exact ⟨_, rfl, by omega, by rw [hm]; rfl⟩
          | n + 2, h, _ => exact absurd h (by simp)
        rw [hnx]
        refine ⟨_, rfl, _, _, rfl, rfl, _, rfl, ifB (fun e1 => ?_) (fun e1 => ?_)⟩
        · have e1 : 0 < c0 := by
            have : (0 : Int) < (c0 : Int) := of_decide_eq_true e1
            omega
          have hat := hatR c0 e1 hc0l
          refine ⟨_, rfl, _, rfl, pr, _, rfl, .inl (SqL.of ep2), _, rfl, _, _, rfl, rfl, pr, _, _, _, rfl, rfl, SqL.of ep2, by rw [hrl2]; exact hat, _, _, rfl, rfl, _, rfl, _, _, rfl, rfl, _, rfl, ifB (fun e2 => ?_) (fun e2 => ?_)⟩
          · have e2 := of_decide_eq_true e2
            refine ⟨_, rfl, _, rfl, pr, _, rfl, .inl (SqL.of ep2), _, rfl, _, _, rfl, rfl, pr, _, _, _, rfl, rfl, SqL.of ep2, by rw [hrl2]; exact hat, _, _, rfl, rfl, ?_⟩
            refine ⟨st1 R c0 m, some (.int (c0 : Int)), ?_, rfl, rfl⟩
            unfold st1
            rw [if_pos ⟨e1, by omega⟩]
            exact congrArg (fun z => [some (V.ref a), some (V.ref b), some (V.ref pr), some (V.int le), some (V.int (pl : Int)), some (V.int z), _]) (show (2 : Int) + ((R.getD (c0 - 1) 0 : Nat) : Int) = ((2 + R.getD (c0 - 1) 0 : Nat) : Int) by omega)
          · have e2 := of_decide_eq_false e2
            refine ⟨m, _, rfl, rfl, ?_⟩
            unfold st1
            rw [if_neg (fun z => by omega)]
        · have e1 : ¬ 0 < c0 := by
            have : ¬ (0 : Int) < (c0 : Int) := of_decide_eq_false e1
            omega
          refine ⟨m, _, rfl, rfl, ?_⟩
          unfold st1
          rw [if_neg (fun z => e1 z.1)]
      · obtain ⟨m, o6, rfl, rfl, hm⟩ := y
        have hm : m = nx2 R (bk W pl) (rl (W.drop pl)) := hm
        rw [← hm]
        have emm : mm (m :: R) = min (2 + m) (1 + mm R) := by
          cases R with
          | nil => exact absurd rfl hRne
          | cons a r => rfl
        have sm2 := sm.trans s2
        have enl : upd Hc pr (.lst (intV R.reverse ++ [V.int (m : Int)])) pr = some (.lst (intV (m :: R).reverse)) := by
          rw [upd_same, List.reverse_cons, intV_app]
          rfl
        refine ⟨_, rfl, .inl ⟨rfl, _, SqL.of ep2⟩, _, rfl, pr, _, _, rfl, rfl, ep2, lt_line (by omega), ?_⟩
        refine ⟨_, rfl, _, rfl, _, _, rfl, rfl, _, rfl, _, _, rfl, rfl, _, rfl, ?_⟩
        refine ifB (fun e => ?_) (fun e => ?_)
        · have e := of_decide_eq_true e
          refine ⟨_, rfl, _, rfl, _, _, rfl, rfl, _, _, _, _, rfl, same_mut sm2 hpr, enl, ?_⟩
          rw [emm]
          omega
        · have e := of_decide_eq_false e
          refine ⟨_, _, _, _, rfl, same_mut sm2 hpr, enl, ?_⟩
          rw [emm]
          omega
    · obtain ⟨le, o4, o5, o6, rfl, sm, ep, hle⟩ := y
      refine ⟨_, rfl, pr, _, rfl, SqL.of ep, fun p9 hp9 => ?_⟩
      refine q _ p9 (sm.trans (same_new hp9)) ?_
      rw [upd_same]
      unfold intV
      rw [← List.map_reverse, List.reverse_reverse]
theorem ok_most_put (T : Txt K mg A) : FnOk P w K mg base CX0 1 A.a_most_put A.d_most_put ["prices", "place"] spMost := by
  refine T.F_most_put.ok sc_most_put (fun vs H Q E h => ?_) (fun cdv B outer s H vs Q E hr h => ?_)
  · obtain ⟨l, p, W, rfl, _⟩ := h
    rfl
  · obtain ⟨l, p, W, rfl, hl, hp, hn, hm, q⟩ := h
    refine ⟨_, (pss_cons (ps_set (i := 2) sc_most_put.nd rfl (.inl rfl) (pe_op op_sub (pe_op op_sub (pe_callB len_seq (by rfl) T.n_len (by decide +kernel) (pa_cons (pv 0) pa_nil)) pe_int) (pv 1)))
    (pss_cons (ps_while PassesOwn.never (pt_cmpR op_ne (pe_op op_add (pe_op op_add pe_int (pv 2)) (pe_ix ix_list (pv 0) (pe_op op_add (pv 1) (pv 2)) (fun _ _ => rfl))) (pe_ix ix_list (pv 0) (pv 1) (fun _ _ => rfl)) (nomark _)) (pss_one (ps_aug (i := 2) sc_most_put.nd rfl (.inl rfl) pe_int ip_sub)))
    (pss_one (ps_ret (pv 2))))), ?_⟩
    have hRl := RZ_len W W.length
    have hil := intV_len (RZ W W.length)
    have hat : ∀ i, i ≤ W.length → atI (intV (RZ W W.length)) (i : Int) = some (.int (((RZ W W.length).getD i 0 : Nat) : Int)) := fun i hi => atI_nat (intV_at (by omega))
    have hR1 := RZ_len W (W.length - p - 1)
    have hgt : ∀ c, 1 ≤ c → p + c ≤ W.length → (RZ W W.length).getD (p + c) 0 = (RZ W (W.length - p - 1)).getD (c - 1) 0 := fun c h1 h2 => by
      rw [RG_get _ _ _ _ _ h2, RG_get _ _ _ (W.length - p - 1) (c - 1) (by omega), show W.length - p - 1 - (c - 1) = W.length - (p + c) by omega]
    obtain ⟨b1, b2, b3⟩ := bp_at (RZ W (W.length - p - 1)) (RG_ne (bk W) (fun p => rl (W.drop p)) W.length (W.length - p - 1))
    have bl := bp_last (RZ W (W.length - p - 1))
    generalize hRR : RZ W (W.length - p - 1) = R at *
    refine ⟨_, rfl, l, _, rfl, .inl (SqL.of hl), _, _, rfl, rfl, _, rfl, _, _, rfl, rfl, ?_⟩
    rw [hil, hRl]
    refine ⟨fun m σ Hc => ∃ c : Nat, σ = [some (.ref l), some (.int (p : Int)), some (.int (c : Int))] ∧ Hc = H ∧ bp R ≤ c ∧ c ≤ R.length ∧ m = c, ⟨R.length, R.length, ?_, rfl, b2, Nat.le_refl _, rfl⟩, fun m σ Hc y => ?_⟩
    · exact congrArg (fun z => [some (V.ref l), some (V.int (p : Int)), some (V.int z)]) (show ((W.length + 1 : Nat) : Int) - 1 - (p : Int) = ((R.length : Nat) : Int) by omega)
    · obtain ⟨c, rfl, rfl, hc1, hc2, rfl⟩ := y
      refine ⟨_, rfl, _, _, rfl, rfl, _, rfl, _, rfl, _, rfl, _, _, rfl, rfl, l, _, _, _, rfl, rfl, SqL.of hl, by rw [show (p : Int) + (m : Int) = ((p + m : Nat) : Int) by omega]; exact hat (p + m) (by omega), _, _, rfl, rfl, _, rfl, _, rfl, l, _, _, _, rfl, rfl, SqL.of hl, hat p (by omega), ?_⟩
      rw [hgt m (by omega) (by omega), hm]
      refine ⟨rfl, ?_⟩
      by_cases hb : m = bp R
      · have e : decide (V.int (1 + (m : Int) + ((R.getD (m - 1) 0 : Nat) : Int)) = V.int ((mm R : Nat) : Int)) = true := decide_eq_true (congrArg V.int (by rw [b3, hb]; omega))
        rw [e]
        refine ⟨_, rfl, ifF rfl ?_⟩
        exact ⟨_, rfl, by rw [hb]; exact q⟩
      · have h1 := bl (m - 1) (by omega) (by omega)
        have e : decide (V.int (1 + (m : Int) + ((R.getD (m - 1) 0 : Nat) : Int)) = V.int ((mm R : Nat) : Int)) = false := decide_eq_false fun z => by
          have := V.int.inj z
          omega
        rw [e]
        refine ⟨_, rfl, ifT rfl ⟨_, fun _ _ h => h, _, rfl, _, _, rfl, rfl, ?_⟩⟩
        exact ⟨m - 1, by omega, m - 1, congrArg (fun z => [some (V.ref l), some (V.int (p : Int)), some (V.int z)]) (show (m : Int) - 1 = ((m - 1 : Nat) : Int) by omega), rfl, by omega, by omega, rfl⟩
theorem ok_fewest (T : Txt K mg A) : FnOk P w K mg base CX0 3 A.a_fewest A.d_fewest ["words"] (spFewest K) := by
  refine T.F_fewest.ok sc_fewest (fun vs H Q E h => ?_) (fun cdv B outer s H vs Q E' hr h => ?_)
  · obtain ⟨a, W, rfl, _⟩ := h
    rfl
  · obtain ⟨a, W, rfl, hw, q⟩ := h
    refine ⟨_, (pss_one (ps_ret (pe_call (ok_fewest_from T) (hr.mono (by omega)) rfl T.g_fewest_from T.F_fewest_from.kp T.b_fewest_from .nil pass0 (pa_cons (pe_call (ok_longest_backs T) (hr.mono (by omega)) rfl T.g_longest_backs T.F_longest_backs.kp T.b_longest_backs .nil pass0 (pa_cons (pv 0) pa_nil)) (pa_cons (pe_call (ok_longest_runs T) (hr.mono (by omega)) rfl T.g_longest_runs T.F_longest_runs.kp T.b_longest_runs .nil pass0 (pa_cons (pv 0) pa_nil)) pa_nil))))), ?_⟩
    refine ⟨_, rfl, a, W, rfl, hw, fun H1 l1 s1 e1 => ?_⟩
    refine ⟨_, rfl, a, W, rfl, ⟨sqT_up hw.1 s1, hw.2⟩, fun H2 l2 s2 e2 => ?_⟩
    exact ⟨l1, l2, W, rfl, s2 _ _ e1, e2, hw.2.2, fun H3 p s3 e3 => q _ p (s1.trans (s2.trans s3)) e3⟩
end
end R1

namespace R1
open PySem PySem.Spec PyProof.Rows L2 RK DL SZ
local macro_rules | `(tactic| walk_at "sq") => `(tactic| first
  | exact SqL.of upd_same | exact upd_same | exact SqL.of (by assumption) | exact SqL.of (by rw [upd_ne (by assumption)]; assumption) | assumption)
local macro_rules | `(tactic| walk_at "sd") => `(tactic| first
  | assumption | omega | (refine Or.inl ⟨?_, ?_⟩ <;> omega) | (show _ ∧ _; constructor <;> omega) | (show _ ≠ _; simp; omega) | (exact Or.inl ⟨by decide, by decide⟩) | (exact Or.inr ⟨by decide, by decide⟩) | (show _ < _; decide) | (show _ ≤ _; decide))
local macro_rules | `(tactic| walk_at "at") => `(tactic| first | rfl | (refine atI_intV ?_ ?_ <;> omega) | assumption)
local macro_rules | `(tactic| walk_at "s1") => `(tactic| first
  | refine ⟨_, rfl, ?_⟩ | refine ⟨_, _, rfl, rfl, ?_⟩ | refine ⟨rfl, ?_⟩
  | refine ⟨_, _, _, _, rfl, rfl, by walk_at "sq", by walk_at "at", ?_⟩
  | refine Or.inl ⟨_, rfl, ?_⟩
  | refine ⟨_, _, rfl, Or.inl (by walk_at "sq"), ?_⟩
  | refine And.intro (by walk_at "sd") ?_)
local macro_rules | `(tactic| walk_at "s") => `(tactic| repeat walk_at "s1")

theorem bst_kind {W R : List Nat} {p : Nat} (hR : R.length = W.length - p) (hp : p < W.length) :
    (0 < bk W p → nx2 R (bk W p) (rl (W.drop p)) = 2 + R.getD (bk W p - 1) 0 → bstZ W R p = ⟨.bk (bk W p) (dst W p), bk W p, 2⟩) ∧
    (¬ (0 < bk W p ∧ nx2 R (bk W p) (rl (W.drop p)) = 2 + R.getD (bk W p - 1) 0) → nx2 R (bk W p) (rl (W.drop p)) = 2 + R.getD (rl (W.drop p) - 1) 0 → bstZ W R p = rnC (W.getD p 0) (rl (W.drop p))) ∧
    (¬ (0 < bk W p ∧ nx2 R (bk W p) (rl (W.drop p)) = 2 + R.getD (bk W p - 1) 0) → nx2 R (bk W p) (rl (W.drop p)) ≠ 2 + R.getD (rl (W.drop p) - 1) 0 → bstZ W R p = ptC (W.drop p) (bp R) ∧ nx2 R (bk W p) (rl (W.drop p)) = mm R) := by
  have hx := bst_cost hR hp
  have hpos : 1 ≤ rl (W.drop p) := by
    rw [List.drop_eq_getElem_cons hp]
    exact rl_pos _ _
  have l1 := nx2_mm R (bk W p) (rl (W.drop p))
  have l2 := nx2_r R (b := bk W p) (r := rl (W.drop p)) (by omega)
  have l3 := fun h => nx2_b R (b := bk W p) (r := rl (W.drop p)) h
  have hpt : czC R (ptC (W.drop p) (bp R)) = mm R := by
    have hne : R ≠ [] := fun z => by rw [z] at hR; simp at hR; omega
    obtain ⟨b1, b2, b3⟩ := bp_at R hne
    show 1 + bp R + R.getD (bp R - 1) 0 = _
    omega
  rw [← hx] at *
  clear hx
  by_cases hQ : 0 < bk W p ∧ 2 + R.getD (bk W p - 1) 0 ≤ 2 + R.getD (rl (W.drop p) - 1) 0
  · have hpre : preZ W R p = ⟨.bk (bk W p) (dst W p), bk W p, 2⟩ := by unfold preZ; rw [if_pos hQ]
    have hcp : czC R (preZ W R p) = 2 + R.getD (bk W p - 1) 0 := by rw [hpre]; rfl
    by_cases hm : czC R (preZ W R p) ≤ mm R
    · have hb : bstZ W R p = preZ W R p := by unfold bstZ; rw [if_pos hm]
      have hc : czC R (bstZ W R p) = 2 + R.getD (bk W p - 1) 0 := by rw [hb, hcp]
      exact ⟨fun _ _ => by rw [hb, hpre], fun h => absurd ⟨hQ.1, hc⟩ h, fun h => absurd ⟨hQ.1, hc⟩ h⟩
    · have hb : bstZ W R p = ptC (W.drop p) (bp R) := by unfold bstZ; rw [if_neg hm]
      have hc : czC R (bstZ W R p) = mm R := by rw [hb, hpt]
      rw [hcp] at hm
      refine ⟨fun _ h => ?_, fun _ h => ?_, fun _ _ => ⟨hb, hc⟩⟩ <;> omega
  · have hpre : preZ W R p = rnC (W.getD p 0) (rl (W.drop p)) := by unfold preZ; rw [if_neg hQ]
    have hcp : czC R (preZ W R p) = 2 + R.getD (rl (W.drop p) - 1) 0 := by rw [hpre]; rfl
    by_cases hm : czC R (preZ W R p) ≤ mm R
    · have hb : bstZ W R p = preZ W R p := by unfold bstZ; rw [if_pos hm]
      have hc : czC R (bstZ W R p) = 2 + R.getD (rl (W.drop p) - 1) 0 := by rw [hb, hcp]
      refine ⟨fun h0 h => ?_, fun _ _ => by rw [hb, hpre], fun _ h => absurd hc h⟩
      exact absurd (⟨h0, by omega⟩ : 0 < bk W p ∧ _) hQ
    · have hb : bstZ W R p = ptC (W.drop p) (bp R) := by unfold bstZ; rw [if_neg hm]
      have hc : czC R (bstZ W R p) = mm R := by rw [hb, hpt]
      rw [hcp] at hm
      refine ⟨fun h0 h => ?_, fun _ h => ?_, fun _ _ => ⟨hb, hc⟩⟩
      · exact absurd (⟨h0, by omega⟩ : 0 < bk W p ∧ _) hQ
      · omega
theorem own_le (pc : Pz) (h : 1 ≤ pc.cnt) : pc.own.length ≤ 2 * pc.cnt := by
  cases pc with
  | bk n d => have h : 1 ≤ n := h; show 2 ≤ 2 * n; omega
  | rn n w => have h : 1 ≤ n := h; show 2 ≤ 2 * n; omega
  | pt ws => have h : 1 ≤ ws.length := h; show ws.length + 1 ≤ 2 * ws.length; omega
theorem drop_at {α : Type} {l : List α} {i : Nat} (h : i < l.length) : l.drop i = l[i] :: l.drop (i + 1) := List.drop_eq_getElem_cons h
theorem intV_cut (a : List Nat) (i n : Nat) : ((intV a).drop i).take n = intV ((a.drop i).take n) := by
  unfold intV
  rw [List.map_take, List.map_drop]
theorem cutV_any (ws : List Nat) (a b : Nat) : cutV (intV ws) (some (a : Int)) (some (b : Int)) = intV ((ws.drop a).take (b - a)) := by
  show ((intV ws).drop (HT.sIx (intV ws).length 0 (some (a : Int)))).take (HT.sIx (intV ws).length (intV ws).length (some (b : Int)) - HT.sIx (intV ws).length 0 (some (a : Int))) = _
  rw [HT.sIx_nat, HT.sIx_nat, intV_len, intV_cut]
  refine congrArg intV ?_
  by_cases h : b ≤ ws.length
  · rw [Nat.min_eq_left h]
    by_cases h2 : a ≤ ws.length
    · rw [Nat.min_eq_left h2]
    · rw [Nat.min_eq_right (by omega), List.drop_length, List.drop_of_length_le (show ws.length ≤ a by omega), List.take_nil, List.take_nil]
  · rw [Nat.min_eq_right (show ws.length ≤ b by omega)]
    by_cases h2 : a ≤ ws.length
    · rw [Nat.min_eq_left h2, List.take_of_length_le (by rw [List.length_drop]; omega), List.take_of_length_le (by rw [List.length_drop]; omega)]
    · rw [Nat.min_eq_right (by omega), List.drop_length, List.drop_of_length_le (show ws.length ≤ a by omega), List.take_nil, List.take_nil]
def spSqueeze (K : PySem.W.Frag) (C : Addr) : Sp := fun vs H Q F => ∃ (a : Addr) (W : List Nat), vs = [.ref a] ∧ WT K H a W ∧ (2048 < W.length → ∀ dz H', Same H H' → H dz = none → H' dz = some (.xd [("limit", .int 2048)]) → F (.ref C) (some dz) H') ∧ (W.length ≤ 2048 → ∀ H' q, Same H H' → H' q = some (.tup (intV (frm W W.length))) → Q (.ref q) H')
section
variable {P : Program} {w : World} {K : PySem.W.Frag} {mg : Str → Option Value} {base : Heap} {A : Ads}
theorem ok_squeeze (T : Txt K mg A) : FnOk P w K mg base (L2N.CX P w) 3 A.a_squeeze A.d_squeeze ["words"] (spSqueeze K A.c_TooMany) := by
  refine Fun.okN T.F_squeeze sc_squeeze (fun vs H Q E h => ?_) (fun cdv B outer s H vs Q F hr h => ?_)
  · obtain ⟨a, W, rfl, _⟩ := h
    rfl
  · obtain ⟨a, W, rfl, hwt, bad, good⟩ := h
    obtain ⟨ha, hW, hWl⟩ := id hwt
    refine ⟨_, (pss_cons (ps_if (pt_cmpR op_gt (pe_callB len_seq (by rfl) T.n_len (by decide +kernel) (pa_cons (pv 0) pa_nil)) (pe_glob (v := .int 2048) rfl T.g_MOST_WORDS ⟨_, rfl⟩) (nomark _)) (pss_one (L2N.ps_raise rfl (L2N.takes_of rfl rfl rfl rfl) (pmk_errN T.x_TooMany (ok_TooMany_init T) (hr.mono (by omega)) (pa_cons (pe_glob (v := .int 2048) rfl T.g_MOST_WORDS ⟨_, rfl⟩) pa_nil)))) pss_nil)
    (pss_cons (ps_par (i := 1) (j := 2) rfl sc_squeeze.nd rfl rfl (by decide) rfl rfl (pa_cons (pe_call (ok_longest_backs T) (hr.mono (by omega)) rfl T.g_longest_backs T.F_longest_backs.kp T.b_longest_backs .nil pass0 (pa_cons (pv 0) pa_nil)) (pa_cons (pe_call (ok_longest_runs T) (hr.mono (by omega)) rfl T.g_longest_runs T.F_longest_runs.kp T.b_longest_runs .nil pass0 (pa_cons (pv 0) pa_nil)) pa_nil)) (by rfl))
    (pss_cons (ps_set (i := 3) sc_squeeze.nd rfl (.inl rfl) (pe_call (ok_fewest_from T) (hr.mono (by omega)) rfl T.g_fewest_from T.F_fewest_from.kp T.b_fewest_from .nil pass0 (pa_cons (pv 1) (pa_cons (pv 2) pa_nil))))
    (pss_cons (ps_set (i := 4) sc_squeeze.nd rfl (.inl rfl) (pe_lst pa_nil))
    (pss_cons (ps_set (i := 5) sc_squeeze.nd rfl (.inl rfl) pe_int)
    (pss_cons (ps_while (passes_of rfl) (pt_cmpR op_lt (pv 5) (pe_callB len_seq (by rfl) T.n_len (by decide +kernel) (pa_cons (pv 0) pa_nil)) (nomark _)) (pss_cons (ps_par (i := 6) (j := 7) rfl sc_squeeze.nd rfl rfl (by decide) rfl rfl (pa_cons (pe_ix ix_list (pv 1) (pv 5) (fun _ _ => rfl)) (pa_cons (pe_ix ix_list (pv 2) (pv 5) (fun _ _ => rfl)) pa_nil)) (by rfl))
    (pss_one (ps_if (PW.pt (pw_and (pt_cmpR op_gt (pv 6) pe_int (nomark _)) (pw_and1 (pt_cmpR op_eq (pe_ix ix_list (pv 3) (pv 5) (fun _ _ => rfl)) (pe_op op_add pe_int (pe_ix ix_list (pv 3) (pe_op op_add (pv 5) (pv 6)) (fun _ _ => rfl))) (nomark _))))) (pss_cons (ps_expr (pe_bm PySem.F.plainAttrs_list PySem.F.slot_list_extend PySem.F.type_list_extend mt_extend (pv 4) (pa_cons (pe_lst (pa_cons (pe_op op_add (pe_glob (v := .int 32768) rfl T.g_BACK ⟨_, rfl⟩) (pv 6)) (pa_cons (pe_call (ok_least_distance T) (hr.mono (by omega)) rfl T.g_least_distance T.F_least_distance.kp T.b_least_distance .nil pass0 (pa_cons (pv 0) (pa_cons (pv 5) (pa_cons (pv 6) pa_nil)))) pa_nil))) pa_nil)))
    (pss_one (ps_aug (i := 5) sc_squeeze.nd rfl (.inl rfl) (pv 6) ip_add))) (pss_one (ps_if (pt_cmpR op_eq (pe_ix ix_list (pv 3) (pv 5) (fun _ _ => rfl)) (pe_op op_add pe_int (pe_ix ix_list (pv 3) (pe_op op_add (pv 5) (pv 7)) (fun _ _ => rfl))) (nomark _)) (pss_cons (ps_expr (pe_bm PySem.F.plainAttrs_list PySem.F.slot_list_extend PySem.F.type_list_extend mt_extend (pv 4) (pa_cons (pe_lst (pa_cons (pe_op op_add (pe_glob (v := .int 16384) rfl T.g_RUN ⟨_, rfl⟩) (pv 7)) (pa_cons (pe_ix ix_tup (pv 0) (pv 5) (fun _ _ => rfl)) pa_nil))) pa_nil)))
    (pss_one (ps_aug (i := 5) sc_squeeze.nd rfl (.inl rfl) (pv 7) ip_add))) (pss_cons (ps_set (i := 8) sc_squeeze.nd rfl (.inl rfl) (pe_call (ok_most_put T) (hr.mono (by omega)) rfl T.g_most_put T.F_most_put.kp T.b_most_put .nil pass0 (pa_cons (pv 3) (pa_cons (pv 5) pa_nil))))
    (pss_cons (ps_expr (pe_bm PySem.F.plainAttrs_list PySem.F.slot_list_append PySem.F.type_list_append mt_append (pv 4) (pa_cons (pv 8) pa_nil)))
    (pss_cons (ps_expr (pe_bm PySem.F.plainAttrs_list PySem.F.slot_list_extend PySem.F.type_list_extend mt_extendT (pv 4) (pa_cons (pe_slice sl_tupA (pv 0) (po_some (pv 5)) (po_some (pe_op op_add (pv 5) (pv 8)))) pa_nil)))
    (pss_one (ps_aug (i := 5) sc_squeeze.nd rfl (.inl rfl) (pv 8) ip_add)))))))))))
    (pss_one (ps_ret (pe_callTy tuple_of (by rfl) T.n_tuple (by decide +kernel) (pa_cons (pv 4) pa_nil)))))))))), ?_⟩
    have hil := intV_len W
    refine ⟨_, rfl, a, _, rfl, .inr ha, _, _, rfl, rfl, ?_⟩
    rw [hil]
    by_cases z1 : 2048 < W.length
    · refine ⟨true, congrArg V.bl (decide_eq_true (show (2048 : Int) < (W.length : Int) by omega)), ?_⟩
      refine ifT rfl ?_
      exact keep_end fun dz H2 s2 n2 e2 => bad z1 dz H2 s2 n2 e2
    refine ⟨false, congrArg V.bl (decide_eq_false (show ¬ (2048 : Int) < (W.length : Int) by omega)), ifF rfl ?_⟩
    have good := good (by omega)
    clear bad
    refine ⟨_, rfl, a, W, rfl, hwt, fun H1 bl s1 e1 => ?_⟩
    refine ⟨_, rfl, a, W, rfl, ⟨sqT_up ha s1, hW, hWl⟩, fun H2 rn s2 e2 => ⟨_, _, rfl, ?_⟩⟩
    have s12 := s1.trans s2
    have eb2 := s2 _ _ e1
    refine ⟨_, rfl, _, rfl, bl, rn, W, rfl, eb2, e2, hWl, fun H3 pr s3 e3 => ?_⟩
    have s13 := s12.trans s3
    refine ⟨lenOk (n := 0) rfl (by decide), fun D hD => ?_⟩
    have s4 := same_new (o := .lst []) hD
    have e4 : upd H3 D (.lst []) D = some (.lst (intV [])) := upd_same
    have hDH := s13.free hD
    have nDb : bl ≠ D := ne_of_none (s3 _ _ eb2) hD
    have nDr : rn ≠ D := ne_of_none (s3 _ _ e2) hD
    have nDp : pr ≠ D := ne_of_none e3 hD
    generalize upd H3 D (.lst []) = H4 at s4 e4 ⊢
    have s14 := s13.trans s4
    have hRl := RZ_len W W.length
    refine ⟨fun m σ Hz => ∃ (i : Nat) (o6 o7 o8 : Option V) (fs : List Nat), σ = [some (.ref a), some (.ref bl), some (.ref rn), some (.ref pr), some (.ref D), some (.int (i : Int)), o6, o7, o8] ∧ Same H Hz ∧ Hz bl = some (.lst (intV (bksL W))) ∧ Hz rn = some (.lst (intV (rlsL W))) ∧ Hz pr = some (.lst (intV (RZ W W.length))) ∧ Hz D = some (.lst (intV fs)) ∧ fs.length ≤ 2 * i ∧ i ≤ W.length ∧ fs ++ frm W (W.length - i) = frm W W.length ∧ m = W.length - i, ⟨_, 0, none, none, none, [], rfl, s14, s4 _ _ (s3 _ _ eb2), s4 _ _ (s3 _ _ e2), s4 _ _ e3, e4, Nat.le_refl _, Nat.zero_le _, rfl, rfl⟩, fun m σ Hz y => ?_⟩
    obtain ⟨i, o6, o7, o8, fs, rfl, sm, eb, er, ep, eD, hfl, hi, hfs, rfl⟩ := y
    have haz := sqT_up ha sm
    refine ⟨_, rfl, _, rfl, a, _, rfl, .inr haz, _, _, rfl, rfl, _, rfl, ?_⟩
    rw [hil]
    refine ifB (fun e => ?_) (fun e => ?_)
    · have e := of_decide_eq_true e
      have hi' : i < W.length := by omega
      refine ⟨_, fun _ _ h => h, ?_⟩
      obtain ⟨k, hk⟩ : ∃ k, k = W.length - i - 1 := ⟨_, rfl⟩
      have hkl : k < W.length := by omega
      have hki : W.length - k - 1 = i := by omega
      have hok := bst_ok hkl
      have hfr := frm_succ hkl
      have hRS := RZ_succ hkl
      have hbc := bst_cost (W := W) (R := RZ W k) (p := W.length - k - 1) (hRz hkl) (by omega)
      have hkd := bst_kind (W := W) (R := RZ W k) (p := W.length - k - 1) (hRz hkl) (by omega)
      have hbst : bst W k = bstZ W (RZ W k) (W.length - k - 1) := rfl
      rw [← hbst] at hbc hkd
      rw [hki] at hbc hkd
      have hP0 : (RZ W W.length).getD i 0 = czC (RZ W k) (bst W k) := by
        have e1 : (RZ W W.length).getD i 0 = (RZ W (W.length - i)).getD 0 0 := RG_get _ _ _ _ _ hi
        rw [e1, show W.length - i = k + 1 by omega, hRS]
        rfl
      have hPc : ∀ c, 1 ≤ c → i + c ≤ W.length → (RZ W W.length).getD (i + c) 0 = (RZ W k).getD (c - 1) 0 := fun c h1 h2 => by
        have e1 : (RZ W W.length).getD (i + c) 0 = (RZ W (W.length - (i + c))).getD 0 0 := RG_get _ _ _ _ _ h2
        have e2 : (RZ W k).getD (c - 1) 0 = (RZ W (k - (c - 1))).getD 0 0 := RG_get _ _ _ _ _ (by omega)
        rw [e1, e2, show W.length - (i + c) = k - (c - 1) by omega]
      have hat : ∀ j, j ≤ W.length → atI (intV (RZ W W.length)) (j : Int) = some (.int (((RZ W W.length).getD j 0 : Nat) : Int)) := fun j hj => atI_nat (intV_at (by omega))
      have hbl := bk_le W i
      have hrl := SZ.rl_le (W.drop i)
      rw [List.length_drop] at hrl
      have hrp : 1 ≤ rl (W.drop i) := by
        rw [List.drop_eq_getElem_cons hi']
        exact rl_pos _ _
      have hatb : atI (intV (bksL W)) (i : Int) = some (.int ((bk W i : Nat) : Int)) := by
        rw [← bksL_at hi']
        exact atI_nat (intV_at (by rw [bksL_len]; exact hi'))
      have hatr : atI (intV (rlsL W)) (i : Int) = some (.int ((rl (W.drop i) : Nat) : Int)) := by
        rw [← rlsL_at hi']
        exact atI_nat (intV_at (by rw [rlsL_len]; exact hi'))
      have fin0 : ∀ (ow : List Nat) (c : Nat) (G : Hp), Same H G → G bl = some (.lst (intV (bksL W))) → G rn = some (.lst (intV (rlsL W))) → G pr = some (.lst (intV (RZ W W.length))) → (bst W k).pc.own = ow → (bst W k).n = c → ∀ (p6 p7 p8 : Option V) (z : Int) (ys : List V), z = (i : Int) + (c : Int) → ys = intV (fs ++ ow) → ∃ m' : Nat, m' < W.length - i ∧ ∃ (i : Nat) (o6 o7 o8 : Option V) (fs : List Nat), [some (V.ref a), some (.ref bl), some (.ref rn), some (.ref pr), some (.ref D), some (.int z), p6, p7, p8] = [some (.ref a), some (.ref bl), some (.ref rn), some (.ref pr), some (.ref D), some (.int (i : Int)), o6, o7, o8] ∧ Same H (upd G D (.lst ys)) ∧ (upd G D (.lst ys)) bl = some (.lst (intV (bksL W))) ∧ (upd G D (.lst ys)) rn = some (.lst (intV (rlsL W))) ∧ (upd G D (.lst ys)) pr = some (.lst (intV (RZ W W.length))) ∧ (upd G D (.lst ys)) D = some (.lst (intV fs)) ∧ fs.length ≤ 2 * i ∧ i ≤ W.length ∧ fs ++ frm W (W.length - i) = frm W W.length ∧ m' = W.length - i := fun ow c G gs g1 g2 g3 ho hc p6 p7 p8 z ys hz hys => by
        have hol := own_le (bst W k).pc (by omega)
        rw [ho] at hol
        refine ⟨W.length - (i + c), by omega, i + c, p6, p7, p8, fs ++ ow, by rw [hz, Int.natCast_add], same_mut gs hDH, ?_, ?_, ?_, by rw [upd_same, hys], by rw [List.length_append]; omega, by omega, ?_, rfl⟩
        · rw [upd_ne nDb]
          exact g1
        · rw [upd_ne nDr]
          exact g2
        · rw [upd_ne nDp]
          exact g3
        · rw [List.append_assoc, ← hfs, ← ho, show W.length - (i + c) = k + 1 - (bst W k).n by omega, ← hfr, show k + 1 = W.length - i by omega]
      have fin := fun (ow : List Nat) (c : Nat) (G : Hp) (sG : Same Hz G) => fin0 ow c G (sm.trans sG) (sG _ _ eb) (sG _ _ er) (sG _ _ ep)
      rw [hbc] at hP0
      refine ⟨_, rfl, _, rfl, bl, _, _, _, rfl, rfl, SqL.of eb, hatb, _, rfl, _, rfl, rn, _, _, _, rfl, rfl, SqL.of er, hatr, _, _, rfl, ?_⟩
      refine ⟨_, rfl, _, _, rfl, rfl, _, rfl, ifB (fun e1 => ?_) (fun e1 => ?_)⟩
      · have e1 : 0 < bk W i := by
          have : (0 : Int) < ((bk W i : Nat) : Int) := of_decide_eq_true e1
          omega
        refine ⟨_, rfl, _, rfl, pr, _, _, _, rfl, rfl, SqL.of ep, hat i hi, _, rfl, _, rfl, _, rfl, _, _, rfl, rfl, pr, _, _, _, rfl, rfl, SqL.of ep, (by have := hat (i + bk W i) (by omega); rw [Int.natCast_add] at this; exact this), _, _, rfl, rfl, rfl, ?_⟩
        rw [hPc _ e1 (by omega), hP0]
        by_cases hc : nx2 (RZ W k) (bk W i) (rl (W.drop i)) = 2 + (RZ W k).getD (bk W i - 1) 0
        · have hb := hkd.1 e1 hc
          refine ⟨true, congrArg V.bl (decide_eq_true (congrArg V.int (by omega))), ifT rfl ?_⟩
          refine ⟨_, rfl, .inl ⟨rfl, _, SqL.of eD⟩, _, rfl, _, _, rfl, rfl, _, rfl, _, rfl, _, rfl, a, W, i, rfl, ⟨haz, hW, hWl⟩, hi', e1, fun G sG => ⟨lenOk (n := 2) rfl (by decide), fun l1 h1 => ?_⟩⟩
          have st := same_new (o := .lst [V.int (32768 + ((bk W i : Nat) : Int)), V.int ((dst W i : Nat) : Int)]) h1
          refine ⟨D, l1, _, _, rfl, rfl, st _ _ (sG _ _ eD), upd_same, le_line (by rw [intV_len]; show _ + 2 ≤ _; omega), ?_⟩
          refine ⟨_, rfl, _, rfl, _, _, rfl, rfl, ?_⟩
          refine fin [32768 + bk W i, dst W i] (bk W i) _ (sG.trans st) (by rw [hb]; rfl) (by rw [hb]) _ _ _ _ _ rfl ?_
          rw [intV_app]
          refine congrArg (intV fs ++ ·) ?_
          exact congrArg (fun z => [V.int z, V.int ((dst W i : Nat) : Int)]) (show (32768 : Int) + ((bk W i : Nat) : Int) = ((32768 + bk W i : Nat) : Int) by omega)
        · have hnb : ¬ (0 < bk W i ∧ nx2 (RZ W k) (bk W i) (rl (W.drop i)) = 2 + (RZ W k).getD (bk W i - 1) 0) := fun z => hc z.2
          refine ⟨false, congrArg V.bl (decide_eq_false fun z => hc (by have := V.int.inj z; omega)), ifF rfl ?_⟩
          refine ⟨_, rfl, _, rfl, pr, _, _, _, rfl, rfl, SqL.of ep, hat i hi, _, rfl, _, rfl, _, rfl, _, _, rfl, rfl, pr, _, _, _, rfl, rfl, SqL.of ep, (by have := hat (i + rl (W.drop i)) (by omega); rw [Int.natCast_add] at this; exact this), _, _, rfl, rfl, rfl, ?_⟩
          rw [hPc _ hrp (by omega), hP0]
          by_cases hc : nx2 (RZ W k) (bk W i) (rl (W.drop i)) = 2 + (RZ W k).getD (rl (W.drop i) - 1) 0
          · have hb := hkd.2.1 hnb hc
            refine ⟨true, congrArg V.bl (decide_eq_true (congrArg V.int (by omega))), ifT rfl ?_⟩
            have hatw := atI_nat (intV_at (ws := W) hi')
            refine ⟨_, rfl, .inl ⟨rfl, _, SqL.of eD⟩, _, rfl, _, _, rfl, rfl, _, rfl, _, rfl, a, _, _, _, rfl, rfl, haz, hatw, lenOk (n := 2) rfl (by decide), fun l1 h1 => ?_⟩
            have st := same_new (o := .lst [V.int (16384 + ((rl (W.drop i) : Nat) : Int)), V.int ((W.getD i 0 : Nat) : Int)]) h1
            refine ⟨D, l1, _, _, rfl, rfl, st _ _ eD, upd_same, le_line (by rw [intV_len]; show _ + 2 ≤ _; omega), ?_⟩
            refine ⟨_, rfl, _, rfl, _, _, rfl, rfl, ?_⟩
            refine fin [16384 + rl (W.drop i), W.getD i 0] (rl (W.drop i)) _ st (by rw [hb]; rfl) (by rw [hb]; rfl) _ _ _ _ _ rfl ?_
            rw [intV_app]
            refine congrArg (intV fs ++ ·) ?_
            exact congrArg (fun z => [V.int z, V.int ((W.getD i 0 : Nat) : Int)]) (show (16384 : Int) + ((rl (W.drop i) : Nat) : Int) = ((16384 + rl (W.drop i) : Nat) : Int) by omega)
          · obtain ⟨hb, hx⟩ := hkd.2.2 hnb hc
            refine ⟨false, congrArg V.bl (decide_eq_false fun z => hc (by have := V.int.inj z; omega)), ifF rfl ?_⟩
            have hbn : bp (RZ W k) ≤ k + 1 := by have := hok.2.1; rw [hb] at this; exact this
            refine ⟨_, rfl, _, rfl, pr, i, W, rfl, ep, hi', hWl, by rw [hP0, hx, hk], ?_⟩
            rw [← hk]
            refine ⟨_, rfl, .inl ⟨rfl, _, SqL.of eD⟩, _, rfl, D, _, _, rfl, rfl, eD, lt_line (by rw [intV_len]; omega), ?_⟩
            have eD5 : upd Hz D (.lst (intV fs ++ [V.int ((bp (RZ W k) : Nat) : Int)])) D = some (.lst (intV fs ++ [V.int ((bp (RZ W k) : Nat) : Int)])) := upd_same
            refine ⟨_, rfl, .inl ⟨rfl, _, SqL.of eD5⟩, _, rfl, _, rfl, _, rfl, _, rfl, _, rfl, _, _, rfl, rfl, _, rfl, slA_of (sqT_up ha (same_mut sm hDH)) fun p7 H7 s7 hp7 => ?_⟩
            rw [show (i : Int) + ((bp (RZ W k) : Nat) : Int) = ((i + bp (RZ W k) : Nat) : Int) by omega, cutV_any, show i + bp (RZ W k) - i = bp (RZ W k) by omega] at hp7
            have hwl : ((W.drop i).take (bp (RZ W k))).length = bp (RZ W k) := by rw [List.length_take, List.length_drop]; omega
            refine ⟨D, p7, _, _, rfl, rfl, s7 _ _ eD5, hp7, ?_, ?_⟩
            · rw [List.length_append, intV_len, intV_len, hwl]
              exact le_line (by show fs.length + 1 + _ ≤ _; omega)
            refine ⟨_, rfl, _, rfl, _, _, rfl, rfl, ?_⟩
            refine fin0 (bp (RZ W k) :: (W.drop i).take (bp (RZ W k))) (bp (RZ W k)) _ ((same_mut sm hDH).trans s7) (s7 _ _ (by rw [upd_ne nDb]; exact eb)) (s7 _ _ (by rw [upd_ne nDr]; exact er)) (s7 _ _ (by rw [upd_ne nDp]; exact ep)) (by rw [hb]; show _ :: _ = _; rw [hwl]) (by rw [hb]; rfl) _ _ _ _ _ rfl ?_
            rw [intV_app, List.append_assoc]
            rfl
      · have e1 : ¬ 0 < bk W i := by
          have : ¬ (0 : Int) < ((bk W i : Nat) : Int) := of_decide_eq_false e1
          omega
        have hnb : ¬ (0 < bk W i ∧ nx2 (RZ W k) (bk W i) (rl (W.drop i)) = 2 + (RZ W k).getD (bk W i - 1) 0) := fun z => e1 z.1
        refine ⟨_, rfl, _, rfl, pr, _, _, _, rfl, rfl, SqL.of ep, hat i hi, _, rfl, _, rfl, _, rfl, _, _, rfl, rfl, pr, _, _, _, rfl, rfl, SqL.of ep, (by have := hat (i + rl (W.drop i)) (by omega); rw [Int.natCast_add] at this; exact this), _, _, rfl, rfl, rfl, ?_⟩
        rw [hPc _ hrp (by omega), hP0]
        by_cases hc : nx2 (RZ W k) (bk W i) (rl (W.drop i)) = 2 + (RZ W k).getD (rl (W.drop i) - 1) 0
        · have hb := hkd.2.1 hnb hc
          refine ⟨true, congrArg V.bl (decide_eq_true (congrArg V.int (by omega))), ifT rfl ?_⟩
          have hatw := atI_nat (intV_at (ws := W) hi')
          refine ⟨_, rfl, .inl ⟨rfl, _, SqL.of eD⟩, _, rfl, _, _, rfl, rfl, _, rfl, _, rfl, a, _, _, _, rfl, rfl, haz, hatw, lenOk (n := 2) rfl (by decide), fun l1 h1 => ?_⟩
          have st := same_new (o := .lst [V.int (16384 + ((rl (W.drop i) : Nat) : Int)), V.int ((W.getD i 0 : Nat) : Int)]) h1
          refine ⟨D, l1, _, _, rfl, rfl, st _ _ eD, upd_same, le_line (by rw [intV_len]; show _ + 2 ≤ _; omega), ?_⟩
          refine ⟨_, rfl, _, rfl, _, _, rfl, rfl, ?_⟩
          refine fin [16384 + rl (W.drop i), W.getD i 0] (rl (W.drop i)) _ st (by rw [hb]; rfl) (by rw [hb]; rfl) _ _ _ _ _ rfl ?_
          rw [intV_app]
          refine congrArg (intV fs ++ ·) ?_
          exact congrArg (fun z => [V.int z, V.int ((W.getD i 0 : Nat) : Int)]) (show (16384 : Int) + ((rl (W.drop i) : Nat) : Int) = ((16384 + rl (W.drop i) : Nat) : Int) by omega)
        · obtain ⟨hb, hx⟩ := hkd.2.2 hnb hc
          refine ⟨false, congrArg V.bl (decide_eq_false fun z => hc (by have := V.int.inj z; omega)), ifF rfl ?_⟩
          have hbn : bp (RZ W k) ≤ k + 1 := by have := hok.2.1; rw [hb] at this; exact this
          refine ⟨_, rfl, _, rfl, pr, i, W, rfl, ep, hi', hWl, by rw [hP0, hx, hk], ?_⟩
          rw [← hk]
          refine ⟨_, rfl, .inl ⟨rfl, _, SqL.of eD⟩, _, rfl, D, _, _, rfl, rfl, eD, lt_line (by rw [intV_len]; omega), ?_⟩
          have eD5 : upd Hz D (.lst (intV fs ++ [V.int ((bp (RZ W k) : Nat) : Int)])) D = some (.lst (intV fs ++ [V.int ((bp (RZ W k) : Nat) : Int)])) := upd_same
          refine ⟨_, rfl, .inl ⟨rfl, _, SqL.of eD5⟩, _, rfl, _, rfl, _, rfl, _, rfl, _, rfl, _, _, rfl, rfl, _, rfl, slA_of (sqT_up ha (same_mut sm hDH)) fun p7 H7 s7 hp7 => ?_⟩
          rw [show (i : Int) + ((bp (RZ W k) : Nat) : Int) = ((i + bp (RZ W k) : Nat) : Int) by omega, cutV_any, show i + bp (RZ W k) - i = bp (RZ W k) by omega] at hp7
          have hwl : ((W.drop i).take (bp (RZ W k))).length = bp (RZ W k) := by rw [List.length_take, List.length_drop]; omega
          refine ⟨D, p7, _, _, rfl, rfl, s7 _ _ eD5, hp7, ?_, ?_⟩
          · rw [List.length_append, intV_len, intV_len, hwl]
            exact le_line (by show fs.length + 1 + _ ≤ _; omega)
          refine ⟨_, rfl, _, rfl, _, _, rfl, rfl, ?_⟩
          refine fin0 (bp (RZ W k) :: (W.drop i).take (bp (RZ W k))) (bp (RZ W k)) _ ((same_mut sm hDH).trans s7) (s7 _ _ (by rw [upd_ne nDb]; exact eb)) (s7 _ _ (by rw [upd_ne nDr]; exact er)) (s7 _ _ (by rw [upd_ne nDp]; exact ep)) (by rw [hb]; show _ :: _ = _; rw [hwl]) (by rw [hb]; rfl) _ _ _ _ _ rfl ?_
          rw [intV_app, List.append_assoc]
          rfl
    · have e := of_decide_eq_false e
      have : i = W.length := by omega
      subst this
      rw [Nat.sub_self, show frm W 0 = [] from rfl, List.append_nil] at hfs
      subst hfs
      refine ⟨_, rfl, D, _, rfl, .inl ⟨SqL.of eD, fun t ht => ?_⟩⟩
      exact good _ t (sm.trans (same_new ht)) upd_same
end
end R1

namespace R1
open PySem PySem.Spec PyProof.Rows L2 RK DL SZ
local macro_rules | `(tactic| walk_at "sq") => `(tactic| first
  | exact SqL.of upd_same | exact upd_same | exact SqL.of (by assumption) | exact SqL.of (by rw [upd_ne (by assumption)]; assumption) | assumption)
local macro_rules | `(tactic| walk_at "sd") => `(tactic| first
  | assumption | omega | (refine Or.inl ⟨?_, ?_⟩ <;> omega) | (show _ ∧ _; constructor <;> omega) | (show _ ≠ _; simp; omega) | (exact Or.inl ⟨by decide, by decide⟩) | (exact Or.inr ⟨by decide, by decide⟩) | (show _ < _; decide) | (show _ ≤ _; decide))
local macro_rules | `(tactic| walk_at "at") => `(tactic| first | rfl | (refine atI_intV ?_ ?_ <;> omega) | assumption)
local macro_rules | `(tactic| walk_at "s1") => `(tactic| first
  | refine ⟨_, rfl, ?_⟩ | refine ⟨_, _, rfl, rfl, ?_⟩ | refine ⟨rfl, ?_⟩
  | refine ⟨_, _, _, _, rfl, rfl, by walk_at "sq", by walk_at "at", ?_⟩
  | refine Or.inl ⟨_, rfl, ?_⟩
  | refine ⟨_, _, rfl, Or.inl (by walk_at "sq"), ?_⟩
  | refine And.intro (by walk_at "sd") ?_)
local macro_rules | `(tactic| walk_at "s") => `(tactic| repeat walk_at "s1")

/-! ### pieces -/
abbrev sBack : Str := Str.ofString "back"
abbrev sRun : Str := Str.ofString "run"
abbrev sPut : Str := Str.ofString "put"
def pzD : Pz → PyData
  | .bk n d => .tuple [.str sBack, .int (n : Int), .int (d : Int)]
  | .rn n w => .tuple [.str sRun, .int (n : Int), .int (w : Int)]
  | .pt ws => .tuple [.str sPut, intsD ws]
def pzsD (ps : List Pz) : PyData := .tuple (ps.map pzD)
theorem xt_sq {K : PySem.W.Frag} {H : Hp} {S : ASet} {r : Addr} {xs : List V} (h : SqT K H r xs) (n : ∀ a, S a → ∃ ys, H a = some (.lst ys)) : XT K H S r xs := by
  rcases h with h | h
  · refine .inl ⟨fun z => ?_, h⟩
    obtain ⟨ys, e⟩ := n r z
    rcases h with h | ⟨o, h⟩ <;> rw [e] at h <;> cases h
  · exact .inr (.inr h)
theorem ne_noS {K : PySem.W.Frag} {H : Hp} {r : Addr} {xs : List V} (h : SqT K H r xs) : XT K H noS r xs := xt_sq h fun _ z => z.elim
section
variable {K : PySem.W.Frag} {H H' : Hp} {S : ASet} {v : V} {a p : Addr}
theorem dx_pzs {ps : List Pz} (h : Dx K H S v (pzsD ps)) : ∃ a xs, v = .ref a ∧ XT K H S a xs ∧ xs.length = ps.length ∧ ∀ k (hk : k < ps.length), ∃ x, xs[k]? = some x ∧ Dx K H S x (pzD ps[k]) := by
  cases h with
  | tup h1 h2 =>
    refine ⟨_, _, rfl, h1, by have := dxAll_len h2; rw [List.length_map] at this; exact this, fun k hk => ?_⟩
    have hl := dxAll_len h2
    rw [List.length_map] at hl
    refine ⟨_, List.getElem?_eq_getElem (by omega), Dx.of_get h2 (List.getElem?_eq_getElem (by omega)) ?_⟩
    rw [List.getElem?_map, List.getElem?_eq_getElem hk]
    rfl
theorem dx_ints {ws : List Nat} (h : Dx K H S v (intsD ws)) : ∃ a, v = .ref a ∧ XT K H S a (intV ws) := by
  cases h with
  | tup h1 h2 =>
    rw [dxAll_ints_inv h2] at h1
    rw [← intV_ints] at h1
    exact ⟨_, rfl, h1⟩
theorem dx_three {t : Str} {i j : Int} (h : Dx K H S v (.tuple [.str t, .int i, .int j])) : ∃ q, v = .ref q ∧ SqT K H q [.str t, .int i, .int j] := by
  cases h with
  | tup h1 h2 =>
    cases h2 with
    | cons x1 h2 =>
      cases h2 with
      | cons x2 h2 =>
        cases h2 with
        | cons x3 h2 =>
          cases h2
          cases x1
          cases x2
          cases x3
          exact ⟨_, rfl, h1.sq⟩
theorem dx_ptz {ws : List Nat} (h : Dx K H S v (pzD (.pt ws))) : ∃ q r, v = .ref q ∧ SqT K H q [.str sPut, .ref r] ∧ SqT K H r (intV ws) := by
  cases h with
  | tup h1 h2 =>
    cases h2 with
    | cons x1 h2 =>
      cases h2 with
      | cons x2 h2 =>
        cases h2
        cases x1
        obtain ⟨r, rfl, hr⟩ := dx_ints x2
        exact ⟨_, r, rfl, h1.sq, hr.sq⟩
theorem mk_three {q : Addr} {t : Str} {i j : Int} (h : H q = some (.tup [.str t, .int i, .int j])) (nS : ¬ S q) : Dx K H S (.ref q) (.tuple [.str t, .int i, .int j]) :=
  .tup (XT.of h nS) (.cons (.str _) (.cons (.int _) (.cons (.int _) .nil)))
theorem mk_ptz {q r : Addr} {ws : List Nat} (h : H q = some (.tup [.str sPut, .ref r])) (nS : ¬ S q) (hr : XT K H S r (intV ws)) : Dx K H S (.ref q) (pzD (.pt ws)) := by
  refine .tup (XT.of h nS) (.cons (.str _) (.cons (.tup hr ?_) .nil))
  rw [intV_ints]
  exact dxAll_ints _
end
theorem put_put : decide (V.str sPut = V.str sPut) = true := by decide +kernel
theorem run_put : decide (V.str sRun = V.str sPut) = false := by decide +kernel
theorem back_put : decide (V.str sBack = V.str sPut) = false := by decide +kernel
theorem run_run : decide (V.str sRun = V.str sRun) = true := by decide +kernel
theorem back_run : decide (V.str sBack = V.str sRun) = false := by decide +kernel
/-- the piece without the limit -/
def tk0 (l : List Nat) (tot : Nat) : Option Pz := match l with
  | [] => none
  | w :: r => if w % 16384 = 0 ∨ 49152 ≤ w then none
    else if w < 16384 then (if w ≤ r.length then some (.pt (r.take w)) else none)
    else match r with
      | [] => none
      | o :: _ => if w < 32768 then some (.rn (w % 16384) o) else if o = 0 ∨ tot < o then none else some (.bk (w % 16384) o)
theorem tk_tk0 (w : Nat) (r : List Nat) (tot : Nat) : tkZ (w :: r) tot = match tk0 (w :: r) tot with
    | none => none
    | some pc => if 2048 < tot + pc.cnt then none else some pc := by
  show (if w % 16384 = 0 ∨ 49152 ≤ w ∨ 2048 < tot + w % 16384 then none else if w < 16384 then (if w ≤ r.length then some (Pz.pt (r.take w)) else none) else match r with
      | [] => none
      | o :: _ => if w < 32768 then some (Pz.rn (w % 16384) o) else if o = 0 ∨ tot < o then none else some (Pz.bk (w % 16384) o)) =
    match (if w % 16384 = 0 ∨ 49152 ≤ w then none else if w < 16384 then (if w ≤ r.length then some (Pz.pt (r.take w)) else none) else match r with
      | [] => none
      | o :: _ => if w < 32768 then some (Pz.rn (w % 16384) o) else if o = 0 ∨ tot < o then none else some (Pz.bk (w % 16384) o)) with
    | none => none
    | some pc => if 2048 < tot + pc.cnt then none else some pc
  by_cases h1 : w % 16384 = 0 ∨ 49152 ≤ w
  · rw [if_pos h1, if_pos (by omega)]
  · rw [if_neg h1]
    by_cases h2 : w < 16384
    · have hm : w % 16384 = w := Nat.mod_eq_of_lt h2
      simp only [if_pos h2, hm]
      by_cases h3 : w ≤ r.length
      · rw [if_pos h3]
        have hc : (Pz.pt (r.take w)).cnt = w := by show (r.take w).length = w; rw [List.length_take]; omega
        show _ = (if 2048 < tot + (Pz.pt (r.take w)).cnt then none else some _)
        rw [hc]
        by_cases h4 : 2048 < tot + w
        · rw [if_pos (by omega), if_pos h4]
        · rw [if_neg (by omega), if_neg h4]
      · rw [if_neg h3]
        show _ = none
        split <;> rfl
    · simp only [if_neg h2]
      cases r with
      | nil =>
        show _ = none
        split <;> rfl
      | cons o r =>
        show (if w % 16384 = 0 ∨ 49152 ≤ w ∨ 2048 < tot + w % 16384 then none else if w < 32768 then some (Pz.rn (w % 16384) o) else if o = 0 ∨ tot < o then none else some (Pz.bk (w % 16384) o)) = (match (if w < 32768 then some (Pz.rn (w % 16384) o) else if o = 0 ∨ tot < o then none else some (Pz.bk (w % 16384) o)) with
          | none => none
          | some pc => if 2048 < tot + pc.cnt then none else some pc)
        by_cases h3 : w < 32768
        · rw [if_pos h3]
          show _ = (if 2048 < tot + w % 16384 then none else some (Pz.rn (w % 16384) o))
          by_cases h4 : 2048 < tot + w % 16384
          · rw [if_pos (by omega), if_pos h4]
          · rw [if_neg (by omega), if_neg h4]
        · simp only [if_neg h3]
          by_cases h5 : o = 0 ∨ tot < o
          · simp only [if_pos h5]
            show _ = none
            split <;> rfl
          · simp only [if_neg h5]
            show _ = (if 2048 < tot + w % 16384 then none else some (Pz.bk (w % 16384) o))
            by_cases h4 : 2048 < tot + w % 16384
            · rw [if_pos (by omega), if_pos h4]
            · rw [if_neg (by omega), if_neg h4]
def spPieceAt (K : PySem.W.Frag) : Sp := fun vs H Q _ => ∃ (a : Addr) (ws : List Nat) (i tot : Nat), vs = [.ref a, .int (i : Int), .int (tot : Int)] ∧ SqT K H a (intV ws) ∧ (∀ w ∈ ws, w ≤ 65535) ∧ ws.length ≤ 100000 ∧ i < ws.length ∧ (tk0 (ws.drop i) tot = none → Q .non H) ∧ ∀ pc, tk0 (ws.drop i) tot = some pc → ∀ H' q, Same H H' → (∀ S : ASet, (∀ b, S b → ∃ ys, H b = some (.lst ys)) → Dx K H' S (.ref q) (pzD pc)) → Q (.ref q) H'
def spWordsIn (K : PySem.W.Frag) : Sp := fun vs H Q _ => ∃ (S : ASet) (v : V) (pc : Pz), vs = [v] ∧ Dx K H S v (pzD pc) ∧ Q (.int ((pc.cnt : Nat) : Int)) H
theorem modN (w : Nat) : (w : Int).fmod 16384 = ((w % 16384 : Nat) : Int) := by
  rw [Int.fmod_eq_emod_of_nonneg _ (by decide)]
  omega
theorem divN (w : Nat) : (w : Int).fdiv 16384 = ((w / 16384 : Nat) : Int) := by
  rw [Int.fdiv_eq_ediv_of_nonneg _ (by decide)]
  omega
theorem decT {p : Prop} [Decidable p] (h : p) : V.bl (decide p) = V.bl true := congrArg V.bl (decide_eq_true h)
theorem decF {p : Prop} [Decidable p] (h : ¬ p) : V.bl (decide p) = V.bl false := congrArg V.bl (decide_eq_false h)
theorem vint {a b : Int} (h : ¬ a = b) : ¬ V.int a = V.int b := fun z => h (V.int.inj z)
section
variable {P : Program} {w : World} {K : PySem.W.Frag} {mg : Str → Option Value} {base : Heap} {A : Ads}
theorem ok_words_in (T : Txt K mg A) : FnOk P w K mg base CX0 1 A.a_words_in A.d_words_in ["piece"] (spWordsIn K) := by
  refine T.F_words_in.ok sc_words_in (fun vs H Q E h => ?_) (fun cdv B outer s H vs Q E hr h => ?_)
  · obtain ⟨S, v, pc, rfl, _⟩ := h
    rfl
  · obtain ⟨S, v, pc, rfl, hd, q⟩ := h
    refine ⟨_, (pss_one (ps_ret (pe_ifExp (pt_cmpR op_eq (pe_ix ix_tup (pv 0) pe_int (fun _ _ => rfl)) pe_str (nomark _)) (pe_callB len_seq (by rfl) T.n_len (by decide +kernel) (pa_cons (pe_ix ix_tup (pv 0) pe_int (fun _ _ => rfl)) pa_nil)) (pe_ix ix_tup (pv 0) pe_int (fun _ _ => rfl))))), ?_⟩
    cases pc with
    | bk n d =>
      obtain ⟨r, rfl, hr⟩ := dx_three hd
      refine ⟨_, rfl, r, _, 0, _, rfl, rfl, hr, atI_nat (j := 0) rfl, rfl, _, rfl, ifF back_put ?_⟩
      exact ⟨_, rfl, r, _, 1, _, rfl, rfl, hr, atI_nat (j := 1) rfl, q⟩
    | rn n d =>
      obtain ⟨r, rfl, hr⟩ := dx_three hd
      refine ⟨_, rfl, r, _, 0, _, rfl, rfl, hr, atI_nat (j := 0) rfl, rfl, _, rfl, ifF run_put ?_⟩
      exact ⟨_, rfl, r, _, 1, _, rfl, rfl, hr, atI_nat (j := 1) rfl, q⟩
    | pt ws =>
      obtain ⟨r, t, rfl, hr, ht⟩ := dx_ptz hd
      refine ⟨_, rfl, r, _, 0, _, rfl, rfl, hr, atI_nat (j := 0) rfl, rfl, _, rfl, ifT put_put ?_⟩
      refine ⟨_, rfl, r, _, 1, _, rfl, rfl, hr, atI_nat (j := 1) rfl, t, _, rfl, .inr ht, ?_⟩
      rw [intV_len]
      exact q
theorem ok_piece_at (T : Txt K mg A) : FnOk P w K mg base CX0 1 A.a_piece_at A.d_piece_at ["form", "at", "count"] (spPieceAt K) := by
  refine T.F_piece_at.ok sc_piece_at (fun vs H Q E h => ?_) (fun cdv B outer s H vs Q E hr h => ?_)
  · obtain ⟨a, ws, i, tot, rfl, _⟩ := h
    rfl
  · obtain ⟨a, ws, i, tot, rfl, ha, hw, hwl, hi, qn, qs⟩ := h
    refine ⟨_, (pss_cons (ps_set (i := 3) sc_piece_at.nd rfl (.inl rfl) (pe_op op_modN (pe_ix ix_tup (pv 0) (pv 1) (fun _ _ => rfl)) (pe_glob (v := .int 16384) rfl T.g_RUN ⟨_, rfl⟩)))
    (pss_cons (ps_set (i := 4) sc_piece_at.nd rfl (.inl rfl) (pe_op op_fdivN (pe_ix ix_tup (pv 0) (pv 1) (fun _ _ => rfl)) (pe_glob (v := .int 16384) rfl T.g_RUN ⟨_, rfl⟩)))
    (pss_cons (ps_if (PW.pt (pw_or (pt_cmpR op_eq (pv 3) pe_int (nomark _)) (pw_or1 (pt_cmpR op_gt (pv 4) pe_int (nomark _))))) (pss_one (ps_ret pe_non)) pss_nil)
    (pss_cons (ps_if (pt_cmpR op_eq (pv 4) pe_int (nomark _)) (pss_one (ps_ret (pe_ifExp (pt_cmpR op_lt (pe_op op_add (pv 1) (pv 3)) (pe_callB len_seq (by rfl) T.n_len (by decide +kernel) (pa_cons (pv 0) pa_nil)) (nomark _)) (pe_tup (pa_cons pe_str (pa_cons (pe_callTy call_tupleT (by rfl) T.n_tuple (by decide +kernel) (pa_cons (pe_slice sl_tupA (pv 0) (po_some (pe_op op_add (pv 1) pe_int)) (po_some (pe_op op_add (pe_op op_add (pv 1) pe_int) (pv 3)))) pa_nil)) pa_nil))) pe_non))) pss_nil)
    (pss_cons (ps_if (pt_cmpR op_eq (pe_op op_add (pv 1) pe_int) (pe_callB len_seq (by rfl) T.n_len (by decide +kernel) (pa_cons (pv 0) pa_nil)) (nomark _)) (pss_one (ps_ret pe_non)) pss_nil)
    (pss_cons (ps_set (i := 5) sc_piece_at.nd rfl (.inl rfl) (pe_ix ix_tup (pv 0) (pe_op op_add (pv 1) pe_int) (fun _ _ => rfl)))
    (pss_cons (ps_if (pt_cmpR op_eq (pv 4) pe_int (nomark _)) (pss_one (ps_ret (pe_tup (pa_cons pe_str (pa_cons (pv 3) (pa_cons (pv 5) pa_nil)))))) pss_nil)
    (pss_one (ps_ret (pe_ifExp (pt_chain op_le op_le pe_int (pv 5) (pv 2)) (pe_tup (pa_cons pe_str (pa_cons (pv 3) (pa_cons (pv 5) pa_nil)))) pe_non)))))))))), ?_⟩
    have hil := intV_len ws
    have hat := atI_nat (intV_at hi)
    have hed : ws.drop i = ws.getD i 0 :: ws.drop (i + 1) := by
      rw [List.drop_eq_getElem_cons hi, List.getD_eq_getElem?_getD, List.getElem?_eq_getElem hi]
      rfl
    have hx : ws.getD i 0 ≤ 65535 := by
      rw [List.getD_eq_getElem?_getD, List.getElem?_eq_getElem hi]
      exact hw _ (List.getElem_mem hi)
    rw [hed] at qn qs
    generalize ws.getD i 0 = x at *
    have htk : tk0 (x :: ws.drop (i + 1)) tot = if x % 16384 = 0 ∨ 49152 ≤ x then none
      else if x < 16384 then (if x ≤ (ws.drop (i + 1)).length then some (Pz.pt ((ws.drop (i + 1)).take x)) else none)
      else match ws.drop (i + 1) with
        | [] => none
        | o :: _ => if x < 32768 then some (Pz.rn (x % 16384) o) else if o = 0 ∨ tot < o then none else some (Pz.bk (x % 16384) o) := rfl
    rw [htk] at qn qs
    clear htk
    refine ⟨_, rfl, _, rfl, a, _, _, _, rfl, rfl, ha, hat, _, _, rfl, rfl, (by show (16384 : Int) ≠ 0; decide), ?_⟩
    dsimp only
    rw [modN]
    refine ⟨_, rfl, _, rfl, a, _, _, _, rfl, rfl, ha, hat, _, _, rfl, rfl, ⟨by decide, by decide⟩, ?_⟩
    dsimp only
    rw [divN]
    refine ⟨_, rfl, rfl, ?_⟩
    by_cases h1 : x % 16384 = 0
    · rw [if_pos (.inl h1)] at qn
      exact ⟨true, decT (by rw [h1]; rfl), ifT rfl (qn rfl)⟩
    refine ⟨false, decF (vint (by omega)), ifF rfl ?_⟩
    refine ⟨_, rfl, _, _, rfl, rfl, ?_⟩
    by_cases h2 : 49152 ≤ x
    · rw [if_pos (.inr h2)] at qn
      exact ⟨true, decT (by omega), ifT rfl (qn rfl)⟩
    refine ⟨false, decF (by omega), ifF rfl ?_⟩
    rw [if_neg (by omega)] at qn qs
    refine ⟨_, rfl, rfl, ?_⟩
    by_cases h3 : x < 16384
    · rw [if_pos h3] at qn qs
      have hm : x % 16384 = x := Nat.mod_eq_of_lt h3
      rw [hm]
      refine ⟨true, decT (congrArg V.int (by omega)), ifT rfl ?_⟩
      refine ⟨_, rfl, _, rfl, _, _, rfl, rfl, _, rfl, a, _, rfl, .inr ha, _, _, rfl, rfl, ?_⟩
      dsimp only
      rw [hil]
      rw [List.length_drop] at qn qs
      by_cases h4 : x ≤ ws.length - (i + 1)
      · rw [if_pos h4] at qs
        refine ⟨true, decT (by omega), ifT rfl ?_⟩
        refine ⟨_, rfl, _, rfl, _, _, rfl, rfl, _, rfl, _, rfl, _, _, rfl, rfl, _, rfl, _, _, rfl, rfl, _, rfl, slA_of ha fun t1 H1 s1 ht1 => ?_⟩
        rw [show (i : Int) + 1 = ((i + 1 : Nat) : Int) by omega, show ((i + 1 : Nat) : Int) + (x : Int) = ((i + 1 + x : Nat) : Int) by omega, cutV_any, show i + 1 + x - (i + 1) = x by omega] at ht1
        refine ⟨t1, _, rfl, ht1, lenOk (n := 2) rfl (by decide), fun q1 hq1 => ?_⟩
        have s2 := same_new (o := .tup [V.str sPut, V.ref t1]) hq1
        exact qs _ rfl _ q1 (s1.trans s2) fun S nS => mk_ptz upd_same (fun z => by
          obtain ⟨ys, e⟩ := nS _ z
          rw [s1 _ _ e] at hq1
          cases hq1) (xt_sq (sqT_up ht1 s2) fun b z => by
          obtain ⟨ys, e⟩ := nS _ z
          exact ⟨ys, (s1.trans s2) _ _ e⟩)
      · rw [if_neg h4] at qn
        exact ⟨false, decF (by omega), ifF rfl (qn rfl)⟩
    rw [if_neg h3] at qn qs
    refine ⟨false, decF (vint (by omega)), ifF rfl ?_⟩
    refine ⟨_, rfl, _, _, rfl, rfl, _, rfl, a, _, rfl, .inr ha, rfl, ?_⟩
    dsimp only
    rw [hil]
    by_cases h4 : i + 1 = ws.length
    · rw [List.drop_of_length_le (by omega)] at qn
      exact ⟨true, decT (congrArg V.int (by omega)), ifT rfl (qn rfl)⟩
    refine ⟨false, decF (vint (by omega)), ifF rfl ?_⟩
    have hed2 : ws.drop (i + 1) = ws.getD (i + 1) 0 :: ws.drop (i + 1 + 1) := by
      rw [List.drop_eq_getElem_cons (by omega), List.getD_eq_getElem?_getD, List.getElem?_eq_getElem (by omega)]
      rfl
    have hat2 : atI (intV ws) ((i : Int) + 1) = some (.int ((ws.getD (i + 1) 0 : Nat) : Int)) := atI_nat (j := i + 1) (intV_at (by omega))
    rw [hed2] at qn qs
    generalize ws.getD (i + 1) 0 = o at *
    have qn : (if x < 32768 then some (Pz.rn (x % 16384) o) else if o = 0 ∨ tot < o then none else some (Pz.bk (x % 16384) o)) = none → Q .non H := qn
    have qs : ∀ pc, (if x < 32768 then some (Pz.rn (x % 16384) o) else if o = 0 ∨ tot < o then none else some (Pz.bk (x % 16384) o)) = some pc → ∀ H' q, Same H H' → (∀ S : ASet, (∀ b, S b → ∃ ys, H b = some (.lst ys)) → Dx K H' S (.ref q) (pzD pc)) → Q (.ref q) H' := qs
    refine ⟨_, rfl, _, rfl, _, _, rfl, rfl, a, _, _, _, rfl, rfl, ha, hat2, ?_⟩
    refine ⟨_, rfl, rfl, ?_⟩
    by_cases h5 : x < 32768
    · rw [if_pos h5] at qs
      refine ⟨true, decT (congrArg V.int (by omega)), ifT rfl ?_⟩
      refine ⟨_, rfl, _, rfl, lenOk (n := 3) rfl (by decide), fun q1 hq1 => ?_⟩
      exact qs _ rfl _ q1 (same_new hq1) fun S nS => mk_three upd_same fun z => by
          obtain ⟨ys, e⟩ := nS _ z
          rw [e] at hq1
          cases hq1
    rw [if_neg h5] at qn qs
    refine ⟨false, decF (vint (by omega)), ifF rfl ?_⟩
    refine ⟨_, rfl, _, _, rfl, rfl, ?_⟩
    by_cases h6 : o = 0
    · rw [if_pos (.inl h6)] at qn
      exact ⟨false, decF (by omega), ifF rfl ⟨_, rfl, ifF rfl (qn rfl)⟩⟩
    refine ⟨true, decT (by omega), ifT rfl ?_⟩
    refine ⟨_, rfl, _, _, rfl, rfl, ?_⟩
    by_cases h7 : tot < o
    · rw [if_pos (.inr h7)] at qn
      exact ⟨false, decF (by omega), ifF rfl (qn rfl)⟩
    · rw [if_neg (by omega)] at qs
      refine ⟨true, decT (by omega), ifT rfl ?_⟩
      refine ⟨_, rfl, _, rfl, lenOk (n := 3) rfl (by decide), fun q1 hq1 => ?_⟩
      exact qs _ rfl _ q1 (same_new hq1) fun S nS => mk_three upd_same fun z => by
          obtain ⟨ys, e⟩ := nS _ z
          rw [e] at hq1
          cases hq1
end
/-! all pieces -/
def okP : List Pz → Nat → Prop
  | [], _ => True
  | pc :: r, tot => tot + pc.cnt ≤ 2048 ∧ (∀ n d, pc = .bk n d → 1 ≤ d ∧ d ≤ tot) ∧ okP r (tot + pc.cnt)
theorem tk0_def (w : Nat) (r : List Nat) (tot : Nat) : tk0 (w :: r) tot = (if w % 16384 = 0 ∨ 49152 ≤ w then none else if w < 16384 then (if w ≤ r.length then some (Pz.pt (r.take w)) else none) else match r with
      | [] => none
      | o :: _ => if w < 32768 then some (Pz.rn (w % 16384) o) else if o = 0 ∨ tot < o then none else some (Pz.bk (w % 16384) o)) := rfl
theorem tk_ok {w : Nat} {r : List Nat} {tot : Nat} {pc : Pz} (h : tkZ (w :: r) tot = some pc) : tot + pc.cnt ≤ 2048 ∧ (∀ n d, pc = .bk n d → 1 ≤ d ∧ d ≤ tot) ∧ pc.own.length ≤ (w :: r).length ∧ 1 ≤ pc.cnt := by
  rw [tk_tk0] at h
  cases hk : tk0 (w :: r) tot with
  | none => rw [hk] at h; cases h
  | some q =>
    rw [hk] at h
    have h : (if 2048 < tot + q.cnt then none else some q) = some pc := h
    by_cases hl : 2048 < tot + q.cnt
    · rw [if_pos hl] at h; cases h
    rw [if_neg hl] at h
    cases h
    refine ⟨by omega, ?_⟩
    rw [tk0_def] at hk
    by_cases h1 : w % 16384 = 0 ∨ 49152 ≤ w
    · rw [if_pos h1] at hk; cases hk
    rw [if_neg h1] at hk
    by_cases h2 : w < 16384
    · rw [if_pos h2] at hk
      by_cases h3 : w ≤ r.length
      · rw [if_pos h3] at hk
        cases hk
        have hl2 : (r.take w).length = w := by rw [List.length_take]; omega
        refine ⟨fun n d e => (by cases e), ?_, ?_⟩
        · show (r.take w).length + 1 ≤ r.length + 1
          omega
        · show 1 ≤ (r.take w).length
          rw [hl2]
          have : w % 16384 = w := Nat.mod_eq_of_lt h2
          omega
      · rw [if_neg h3] at hk; cases hk
    rw [if_neg h2] at hk
    cases r with
    | nil => cases hk
    | cons o r =>
      have hk : (if w < 32768 then some (Pz.rn (w % 16384) o) else if o = 0 ∨ tot < o then none else some (Pz.bk (w % 16384) o)) = some pc := hk
      by_cases h3 : w < 32768
      · rw [if_pos h3] at hk
        cases hk
        refine ⟨fun n d e => (by cases e), ?_, ?_⟩
        · show 2 ≤ r.length + 1 + 1
          omega
        · show 1 ≤ w % 16384
          omega
      rw [if_neg h3] at hk
      by_cases h5 : o = 0 ∨ tot < o
      · rw [if_pos h5] at hk; cases hk
      rw [if_neg h5] at hk
      cases hk
      refine ⟨fun n d e => ?_, ?_, ?_⟩
      · cases e
        omega
      · show 2 ≤ r.length + 1 + 1
        omega
      · show 1 ≤ w % 16384
        omega
theorem okP_snoc : ∀ {ps : List Pz} {pc : Pz} {tot : Nat}, okP ps tot → tot + (ps.map Pz.cnt).sum + pc.cnt ≤ 2048 → (∀ n d, pc = .bk n d → 1 ≤ d ∧ d ≤ tot + (ps.map Pz.cnt).sum) → okP (ps ++ [pc]) tot
  | [], pc, tot, _, h2, h3 => ⟨by simpa using h2, by simpa using h3, trivial⟩
  | q :: r, pc, tot, ⟨a, b, c⟩, h2, h3 => by
    rw [List.map_cons, List.sum_cons] at h2 h3
    exact ⟨a, b, okP_snoc c (by omega) fun n d e => by have := h3 n d e; omega⟩
theorem prZ_ok : ∀ (f at' : Nat) (l : List Nat) (acc ps : List Pz), okP acc 0 → prZ f at' l (acc.map Pz.cnt).sum acc = .inr ps → (acc.map Pz.cnt).sum ≤ 2048 → acc.length ≤ (acc.map Pz.cnt).sum → okP ps 0 ∧ (ps.map Pz.cnt).sum ≤ 2048 ∧ ps.length ≤ (ps.map Pz.cnt).sum
  | 0, _, _, acc, ps, h, e, h1, h2 => by cases e; exact ⟨h, h1, h2⟩
  | _ + 1, _, [], acc, ps, h, e, h1, h2 => by cases e; exact ⟨h, h1, h2⟩
  | f + 1, at', w :: r, acc, ps, h, e, h1, h2 => by
    have e : (match tkZ (w :: r) (acc.map Pz.cnt).sum with
      | none => Sum.inl at'
      | some pc => prZ f (at' + pc.own.length) ((w :: r).drop pc.own.length) ((acc.map Pz.cnt).sum + pc.cnt) (acc ++ [pc])) = .inr ps := e
    cases hk : tkZ (w :: r) (acc.map Pz.cnt).sum with
    | none => rw [hk] at e; cases e
    | some pc =>
      rw [hk] at e
      obtain ⟨t1, t2, t3, t4⟩ := tk_ok hk
      have hs : ((acc ++ [pc]).map Pz.cnt).sum = (acc.map Pz.cnt).sum + pc.cnt := by
        rw [List.map_append, List.sum_append]
        simp
      refine prZ_ok f (at' + pc.own.length) ((w :: r).drop pc.own.length) (acc ++ [pc]) ps (okP_snoc h (by omega) fun n d ed => by have := t2 n d ed; omega) ?_ (by rw [hs]; omega) (by rw [hs, List.length_append]; show _ + 1 ≤ _; omega)
      rw [hs]
      exact e
def rdZ (ws : List Nat) : Nat ⊕ List Pz := prZ (ws.length + 1) 0 ws 0 []
theorem rdZ_ok {ws : List Nat} {ps : List Pz} (h : rdZ ws = .inr ps) : okP ps 0 ∧ (ps.map Pz.cnt).sum ≤ 2048 ∧ ps.length ≤ 2048 := by
  obtain ⟨a, b, c⟩ := prZ_ok _ _ _ [] ps trivial h (Nat.zero_le _) (Nat.zero_le _)
  exact ⟨a, b, by omega⟩
theorem okP_at : ∀ {ps : List Pz} {tot i : Nat} (_ : okP ps tot) (hi : i < ps.length), tot + ((ps.take i).map Pz.cnt).sum + ps[i].cnt ≤ 2048 ∧ (∀ n d, ps[i] = .bk n d → 1 ≤ d ∧ d ≤ tot + ((ps.take i).map Pz.cnt).sum)
  | [], _, i, _, hi => absurd hi (Nat.not_lt_zero _)
  | pc :: r, tot, 0, ⟨a, b, c⟩, hi => by
    rw [List.take_zero, List.map_nil, List.sum_nil, Nat.add_zero]
    exact ⟨a, b⟩
  | pc :: r, tot, i + 1, ⟨a, b, c⟩, hi => by
    have := okP_at c (Nat.lt_of_succ_lt_succ hi)
    rw [List.take_succ_cons, List.map_cons, List.sum_cons, ← Nat.add_assoc]
    exact this
theorem exZ_len : ∀ (ps : List Pz) (acc : List Nat), (exZ ps acc).length = acc.length + (ps.map Pz.cnt).sum
  | [], acc => rfl
  | pc :: r, acc => by
    show (exZ r (exP pc acc)).length = _
    rw [exZ_len r, exP_len, List.map_cons, List.sum_cons, Nat.add_assoc]
theorem exZ_take {ps : List Pz} {i : Nat} (hi : i < ps.length) (acc : List Nat) : exZ (ps.take (i + 1)) acc = exP ps[i] (exZ (ps.take i) acc) := by
  rw [List.take_succ_eq_append_getElem hi]
  unfold exZ
  rw [List.foldl_append]
  rfl
theorem bkX_snoc : ∀ (n d : Nat) (acc : List Nat), bkX (n + 1) d acc = bkX n d acc ++ [(bkX n d acc).getD ((bkX n d acc).length - d) 0]
  | 0, d, acc => rfl
  | n + 1, d, acc => by
    show bkX (n + 1) d _ = _
    rw [bkX_snoc n]
    rfl
def spPiecesOf (K : PySem.W.Frag) (C : Addr) : Sp := fun vs H Q F => ∃ (S : ASet) (a : Addr) (ws : List Nat), vs = [.ref a] ∧ (∀ b, S b → ∃ ys, H b = some (.lst ys)) ∧ SqT K H a (intV ws) ∧ (∀ w ∈ ws, w ≤ 65535) ∧ ws.length ≤ 100000 ∧
  (∀ n, rdZ ws = .inl n → ∀ dz H', Same H H' → H dz = none → H' dz = some (.xd [("place", .int (n : Int))]) → F (.ref C) (some dz) H') ∧
  (∀ ps, rdZ ws = .inr ps → ∀ H' q, Same H H' → Dx K H' S (.ref q) (pzsD ps) → Q (.ref q) H')
def spOpened (K : PySem.W.Frag) (C : Addr) : Sp := fun vs H Q F => ∃ (a : Addr) (ws : List Nat), vs = [.ref a] ∧ SqT K H a (intV ws) ∧ (∀ w ∈ ws, w ≤ 65535) ∧ ws.length ≤ 100000 ∧
  (∀ n, rdZ ws = .inl n → ∀ dz H', Same H H' → H dz = none → H' dz = some (.xd [("place", .int (n : Int))]) → F (.ref C) (some dz) H') ∧
  (∀ ps, rdZ ws = .inr ps → ∀ H' q, Same H H' → H' q = some (.tup (intV (exZ ps []))) → Q (.ref q) H')
section
variable {P : Program} {w : World} {K : PySem.W.Frag} {mg : Str → Option Value} {base : Heap} {A : Ads}
theorem ok_pieces_of (T : Txt K mg A) : FnOk P w K mg base (L2N.CX P w) 3 A.a_pieces_of A.d_pieces_of ["form"] (spPiecesOf K A.c_BadForm) := by
  refine Fun.okN T.F_pieces_of sc_pieces_of (fun vs H Q E h => ?_) (fun cdv B outer s H vs Q F hr h => ?_)
  · obtain ⟨S, a, ws, rfl, _⟩ := h
    rfl
  · obtain ⟨S, a, ws, rfl, nS, ha, hw, hl, bad, good⟩ := h
    have raise : ∀ n, rdZ ws = .inl n → ∀ Hc, Same H Hc → ∀ Q' : XK, Q' = F → ∀ dx H2, Same Hc H2 → Hc dx = none → H2 dx = some (.xd [("place", .int (n : Int))]) → Q' (.ref A.c_BadForm) (some dx) H2 := fun n h Hc s1 Q' eQ dx H2 s2 n2 e2 => by
      rw [eQ]
      exact bad n h dx H2 (s1.trans s2) (s1.free n2) e2
    refine ⟨_, (pss_cons (ps_set (i := 1) sc_pieces_of.nd rfl (.inl rfl) (pe_lst pa_nil))
    (pss_cons (ps_set (i := 2) sc_pieces_of.nd rfl (.inl rfl) pe_int)
    (pss_cons (ps_set (i := 3) sc_pieces_of.nd rfl (.inl rfl) pe_int)
    (pss_cons (ps_while (passes_of rfl) (pt_cmpR op_lt (pv 2) (pe_callB len_seq (by rfl) T.n_len (by decide +kernel) (pa_cons (pv 0) pa_nil)) (nomark _)) (pss_cons (ps_set (i := 4) sc_pieces_of.nd rfl (.inl rfl) (pe_call (ok_piece_at T) (hr.mono (by omega)) rfl T.g_piece_at T.F_piece_at.kp T.b_piece_at .nil pass0 (pa_cons (pv 0) (pa_cons (pv 2) (pa_cons (pv 3) pa_nil)))))
    (pss_cons (ps_if (PW.pt (pw_or (pt_cmpR op_isN (pv 4) pe_non (nomark _)) (pw_or1 (pt_cmpR op_gt (pe_op op_add (pv 3) (pe_call (ok_words_in T) (hr.mono (by omega)) rfl T.g_words_in T.F_words_in.kp T.b_words_in .nil pass0 (pa_cons (pv 4) pa_nil))) (pe_glob (v := .int 2048) rfl T.g_MOST_WORDS ⟨_, rfl⟩) (nomark _))))) (pss_one (L2N.ps_raise rfl (L2N.takes_of rfl rfl rfl rfl) (pmk_errN T.x_BadForm (ok_BadForm_init T) (hr.mono (by omega)) (pa_cons (pv 2) pa_nil)))) pss_nil)
    (pss_cons (ps_expr (pe_bm PySem.F.plainAttrs_list PySem.F.slot_list_append PySem.F.type_list_append mt_append (pv 1) (pa_cons (pv 4) pa_nil)))
    (pss_cons (ps_aug (i := 3) sc_pieces_of.nd rfl (.inl rfl) (pe_call (ok_words_in T) (hr.mono (by omega)) rfl T.g_words_in T.F_words_in.kp T.b_words_in .nil pass0 (pa_cons (pv 4) pa_nil)) ip_add)
    (pss_one (ps_aug (i := 2) sc_pieces_of.nd rfl (.inl rfl) (pe_ifExp (pt_cmpR op_eq (pe_ix ix_tup (pv 4) pe_int (fun _ _ => rfl)) pe_str (nomark _)) (pe_op op_add pe_int (pe_callB len_seq (by rfl) T.n_len (by decide +kernel) (pa_cons (pe_ix ix_tup (pv 4) pe_int (fun _ _ => rfl)) pa_nil))) pe_int) ip_add)))))))
    (pss_one (ps_ret (pe_callTy tuple_of (by rfl) T.n_tuple (by decide +kernel) (pa_cons (pv 1) pa_nil)))))))), ?_⟩
    have hil := intV_len ws
    refine ⟨lenOk (n := 0) rfl (by decide), fun D hD => ?_⟩
    have s1 := same_new (o := .lst []) hD
    have e1 : upd H D (.lst []) D = some (.lst []) := upd_same
    generalize upd H D (.lst []) = H1 at s1 e1 ⊢
    refine ⟨fun m σ Hc => ∃ (i f : Nat) (o4 : Option V) (acc : List V) (done : List Pz), σ = [some (.ref a), some (.ref D), some (.int (i : Int)), some (.int (((done.map Pz.cnt).sum : Nat) : Int)), o4] ∧ Same H Hc ∧ Hc D = some (.lst acc) ∧ acc.length ≤ i ∧ DxAll K Hc (inS S D) acc (done.map pzD) ∧ i ≤ ws.length ∧ ws.length < i + f ∧ prZ f i (ws.drop i) (done.map Pz.cnt).sum done = rdZ ws ∧ m = ws.length - i, ⟨_, 0, ws.length + 1, none, [], [], rfl, s1, e1, Nat.le_refl _, .nil, Nat.zero_le _, by omega, rfl, rfl⟩, fun m σ Hc y => ?_⟩
    obtain ⟨i, f, o4, acc, done, rfl, sm, eD, hal, hda, hi, hf, hrd, rfl⟩ := y
    have ha1 := sqT_up ha sm
    refine ⟨_, rfl, _, rfl, a, _, rfl, .inr ha1, _, _, rfl, rfl, _, rfl, ?_⟩
    rw [hil]
    refine ifB (fun ee => ?_) (fun ee => ?_)
    · have hi' : i < ws.length := by
        have := of_decide_eq_true ee
        omega
      refine ⟨_, fun _ _ h => h, ?_⟩
      obtain ⟨f, rfl⟩ : ∃ f', f = f' + 1 := ⟨f - 1, by omega⟩
      have hed : ws.drop i = ws[i] :: ws.drop (i + 1) := List.drop_eq_getElem_cons hi'
      have hstep : prZ (f + 1) i (ws.drop i) (done.map Pz.cnt).sum done = match tkZ (ws.drop i) (done.map Pz.cnt).sum with
          | none => Sum.inl i
          | some pc => prZ f (i + pc.own.length) ((ws.drop i).drop pc.own.length) ((done.map Pz.cnt).sum + pc.cnt) (done ++ [pc]) := by
        rw [hed]
        rfl
      rw [hstep] at hrd
      have htk : tkZ (ws.drop i) (done.map Pz.cnt).sum = match tk0 (ws.drop i) (done.map Pz.cnt).sum with
          | none => none
          | some pc => if 2048 < (done.map Pz.cnt).sum + pc.cnt then none else some pc := by
        rw [hed]
        exact tk_tk0 _ _ _
      have hsc : ∀ pc : Pz, ((done ++ [pc]).map Pz.cnt).sum = (done.map Pz.cnt).sum + pc.cnt := fun pc => by
        rw [List.map_append, List.sum_append]
        simp
      have htko : ∀ pc, tkZ (ws.drop i) (done.map Pz.cnt).sum = some pc → pc.own.length ≤ ws.length - i ∧ 1 ≤ pc.own.length := fun pc h => by
        rw [hed] at h
        obtain ⟨_, _, t3, _⟩ := tk_ok h
        rw [← hed, List.length_drop] at t3
        obtain ⟨w0, r0, ew⟩ := own_pos pc
        exact ⟨t3, by rw [ew]; exact Nat.succ_pos _⟩
      generalize hS : (done.map Pz.cnt).sum = tot at *
      refine ⟨_, rfl, _, rfl, _, rfl, a, ws, i, tot, rfl, ha1, hw, hl, hi', fun hn => ?_, fun pc hs G q sG dq => ?_⟩
      · rw [hn] at htk
        have htk : tkZ (ws.drop i) tot = none := htk
        rw [htk] at hrd
        refine ⟨_, rfl, rfl, _, rfl, ifT (decide_eq_true rfl) ?_⟩
        exact ⟨_, rfl, keep_end fun dx H2 s2 n2 e2 => raise i hrd.symm _ sm _ rfl dx H2 s2 n2 e2⟩
      · rw [hs] at htk
        have htk : tkZ (ws.drop i) tot = if 2048 < tot + pc.cnt then none else some pc := htk
        refine ⟨_, rfl, rfl, _, rfl, ifF (decide_eq_false fun w => nomatch w) ?_⟩
        refine ⟨_, rfl, _, rfl, noS, _, pc, rfl, dq noS (fun _ z => z.elim), _, _, rfl, rfl, _, _, rfl, rfl, ?_⟩
        by_cases hbig : 2048 < tot + pc.cnt
        · rw [if_pos hbig] at htk
          rw [htk] at hrd
          refine ⟨true, decT (by omega), ifT rfl ?_⟩
          exact ⟨_, rfl, keep_end fun dx H2 s2 n2 e2 => raise i hrd.symm _ (sm.trans sG) _ rfl dx H2 s2 n2 e2⟩
        · rw [if_neg hbig] at htk
          rw [htk] at hrd
          obtain ⟨ho1, ho2⟩ := htko pc htk
          refine ⟨false, decF (by omega), ifF rfl ?_⟩
          have eDG := sG _ _ eD
          refine ⟨_, rfl, .inl ⟨rfl, _, SqL.of eDG⟩, _, rfl, D, _, _, rfl, rfl, eDG, lt_line (by omega), ?_⟩
          have o : Out (inS S D) G (upd G D (.lst (acc ++ [V.ref q]))) := (Out.refl _ _).put (.inr rfl)
          have dq2 : Dx K (upd G D (.lst (acc ++ [V.ref q]))) (inS S D) (.ref q) (pzD pc) := by
            exact Dx.up o (dq _ fun b z => by
              rcases z with z | z
              · obtain ⟨ys, e⟩ := nS _ z
                exact ⟨ys, sm _ _ e⟩
              · exact ⟨acc, by rw [z]; exact eD⟩)
          have sG2 : Same H (upd G D (.lst (acc ++ [V.ref q]))) := same_mut (sm.trans sG) hD
          have hda2 : DxAll K (upd G D (.lst (acc ++ [V.ref q]))) (inS S D) (acc ++ [V.ref q]) ((done ++ [pc]).map pzD) := by
            rw [List.map_append]
            exact dxAll_app (DxAll.up o (DxAll.up (Out.of sG) hda)) (.cons dq2 .nil)
          have eD2 : upd G D (.lst (acc ++ [V.ref q])) D = some (.lst (acc ++ [V.ref q])) := upd_same
          generalize upd G D (.lst (acc ++ [V.ref q])) = G2 at sG2 hda2 eD2 dq2 ⊢
          refine ⟨_, rfl, _, rfl, _, _, pc, rfl, dq2, _, _, rfl, rfl, ?_⟩
          have fin : ∀ j : Nat, j = i + pc.own.length → ∃ m', m' < ws.length - i ∧ ∃ (i f : Nat) (o4 : Option V) (acc : List V) (done : List Pz), ([some (V.ref a), some (.ref D), some (.int (j : Int)), some (.int (((tot + pc.cnt : Nat) : Nat) : Int)), some (V.ref q)] : List (Option V)) = [some (.ref a), some (.ref D), some (.int (i : Int)), some (.int (((done.map Pz.cnt).sum : Nat) : Int)), o4] ∧ Same H G2 ∧ G2 D = some (.lst acc) ∧ acc.length ≤ i ∧ DxAll K G2 (inS S D) acc (done.map pzD) ∧ i ≤ ws.length ∧ ws.length < i + f ∧ prZ f i (ws.drop i) (done.map Pz.cnt).sum done = rdZ ws ∧ m' = ws.length - i := fun j hj => by
            refine ⟨_, ?_, j, f, _, _, done ++ [pc], by rw [hsc], sG2, eD2, by rw [List.length_append]; show _ + 1 ≤ _; omega, hda2, by omega, by omega, ?_, rfl⟩
            · omega
            · rw [hsc, hj, ← List.drop_drop]
              exact hrd
          refine ⟨_, rfl, ?_⟩
          cases pc with
          | bk n d =>
            obtain ⟨r, er, hr⟩ := dx_three dq2
            cases er
            refine ⟨_, rfl, q, _, 0, _, rfl, rfl, hr, atI_nat (j := 0) rfl, rfl, _, rfl, ifF back_put ?_⟩
            exact ⟨_, _, rfl, rfl, fin (i + 2) rfl⟩
          | rn n d =>
            obtain ⟨r, er, hr⟩ := dx_three dq2
            cases er
            refine ⟨_, rfl, q, _, 0, _, rfl, rfl, hr, atI_nat (j := 0) rfl, rfl, _, rfl, ifF run_put ?_⟩
            exact ⟨_, _, rfl, rfl, fin (i + 2) rfl⟩
          | pt ws' =>
            obtain ⟨r, t, er, hr, ht⟩ := dx_ptz dq2
            cases er
            refine ⟨_, rfl, q, _, 0, _, rfl, rfl, hr, atI_nat (j := 0) rfl, rfl, _, rfl, ifT put_put ?_⟩
            refine ⟨_, rfl, q, _, 1, _, rfl, rfl, hr, atI_nat (j := 1) rfl, t, _, rfl, .inr ht, _, _, rfl, rfl, _, _, rfl, rfl, ?_⟩
            dsimp only
            rw [intV_len]
            have := fin (i + (1 + ws'.length)) (by show _ = i + (ws'.length + 1); omega)
            rw [Int.natCast_add, Int.natCast_add] at this
            exact this
    · have : i = ws.length := by
        have := of_decide_eq_false ee
        omega
      subst this
      obtain ⟨f, rfl⟩ : ∃ f', f = f' + 1 := ⟨f - 1, by omega⟩
      rw [List.drop_length] at hrd
      have hrd : rdZ ws = .inr done := hrd.symm
      refine ⟨_, rfl, D, _, rfl, .inl ⟨SqL.of eD, fun l hl => ?_⟩⟩
      have hlD : D ≠ l := ne_of_none eD hl
      refine good done hrd _ l (sm.trans (same_new hl)) (.tup (XT.of upd_same fun z => by
        obtain ⟨ys, e⟩ := nS _ z
        rw [sm _ _ e] at hl
        cases hl) ?_)
      exact DxAll.less (fun _ z => .inl z) (DxAll.up (Out.of (same_new hl)) hda)
theorem ok_opened (T : Txt K mg A) : FnOk P w K mg base (L2N.CX P w) 4 A.a_opened A.d_opened ["form"] (spOpened K A.c_BadForm) := by
  refine Fun.okN T.F_opened sc_opened (fun vs H Q E h => ?_) (fun cdv B outer s H vs Q F hr h => ?_)
  · obtain ⟨a, ws, rfl, _⟩ := h
    rfl
  · obtain ⟨a, ws, rfl, ha, hw, hl, bad, good⟩ := h
    refine ⟨_, (pss_cons (ps_set (i := 1) sc_opened.nd rfl (.inl rfl) (pe_lst pa_nil))
    (pss_cons (ps_for (passes_of rfl) rfl (pi_tup (pe_call (ok_pieces_of T) (hr.mono (by omega)) rfl T.g_pieces_of T.F_pieces_of.kp T.b_pieces_of .nil (L2N.passes_call (L2N.takes_of rfl rfl rfl rfl) (fun _ _ _ _ h => h)) (pa_cons (pv 0) pa_nil))) (pg_name (i := 2) sc_opened.nd rfl (.inl rfl))
      (pss_one (ps_if (pt_cmpR op_eq (pe_ix ix_tup (pv 2) pe_int (fun _ _ => rfl)) pe_str (nomark _)) (pss_one (ps_expr (pe_bm PySem.F.plainAttrs_list PySem.F.slot_list_extend PySem.F.type_list_extend mt_extendT (pv 1) (pa_cons (pe_ix ix_tup (pv 2) pe_int (fun _ _ => rfl)) pa_nil)))) (pss_one (ps_if (pt_cmpR op_eq (pe_ix ix_tup (pv 2) pe_int (fun _ _ => rfl)) pe_str (nomark _)) (pss_one (ps_expr (pe_bm PySem.F.plainAttrs_list PySem.F.slot_list_extend PySem.F.type_list_extend mt_extend (pv 1) (pa_cons (pe_op op_rep (pe_lst (pa_cons (pe_ix ix_tup (pv 2) pe_int (fun _ _ => rfl)) pa_nil)) (pe_ix ix_tup (pv 2) pe_int (fun _ _ => rfl))) pa_nil)))) (pss_one (ps_for (passes_of rfl) rfl (pi_range1 (by rfl) T.n_range (pa_cons (pe_ix ix_tup (pv 2) pe_int (fun _ _ => rfl)) pa_nil)) (pg_name (i := 3) sc_opened.nd rfl (.inl rfl))
      (pss_one (ps_expr (pe_bm PySem.F.plainAttrs_list PySem.F.slot_list_append PySem.F.type_list_append mt_append (pv 1) (pa_cons (pe_ix ix_list (pv 1) (pe_op op_sub (pe_callB len_seq (by rfl) T.n_len (by decide +kernel) (pa_cons (pv 1) pa_nil)) (pe_ix ix_tup (pv 2) pe_int (fun _ _ => rfl))) (fun _ _ => rfl)) pa_nil)))))))))))
    (pss_one (ps_ret (pe_callTy tuple_of (by rfl) T.n_tuple (by decide +kernel) (pa_cons (pv 1) pa_nil)))))), ?_⟩
    refine ⟨lenOk (n := 0) rfl (by decide), fun D hD => ?_⟩
    have s1 := same_new (o := .lst []) hD
    have e1 : upd H D (.lst []) D = some (.lst (intV [])) := upd_same
    generalize upd H D (.lst []) = H1 at s1 e1 ⊢
    refine ⟨_, rfl, inS noS D, a, ws, rfl, fun b z => by
      rcases z with z | z
      · exact z.elim
      · exact ⟨_, by rw [z]; exact e1⟩, sqT_up ha s1, hw, hl, fun n hn dz H2 s2 n2 e2 => bad n hn dz H2 (s1.trans s2) (s1.free n2) e2, fun ps hps H2 q0 s2 dq => ?_⟩
    have good := good ps hps
    obtain ⟨ok1, ok2, ok3⟩ := rdZ_ok hps
    obtain ⟨q, xs, eq0, hx, hxl, hxe⟩ := dx_pzs dq
    cases eq0
    have e2 := s2 _ _ e1
    have s12 := s1.trans s2
    refine ⟨q0, rfl, ⟨_, hx.sq⟩, ?_⟩
    refine for_it (walk_tup (K := K) (a := q0) (xs := xs)) (fun i σ Hc => ∃ o2 o3, σ = [some (.ref a), some (.ref D), o2, o3] ∧ Same H Hc ∧ Out (inS noS D) H2 Hc ∧ Hc D = some (.lst (intV (exZ (ps.take i) [])))) ⟨_, _, rfl, s12, Out.refl _ _, e2⟩ (fun i σ Hc _ y => ?_) (fun i x σ H7 H8 hi y e => ?_) (fun σ H7 y => ?_)
    · obtain ⟨_, _, _, _, so, _⟩ := y
      exact (hx.up so).sq
    · obtain ⟨o2, o3, rfl, sm, so, hw⟩ := y
      obtain ⟨rfl, e⟩ := e
      rw [hxl] at hi
      obtain ⟨x', hx1, hx2⟩ := hxe i hi
      rw [hx1] at e
      cases e
      obtain ⟨k1, k2⟩ := okP_at ok1 hi
      have hlen := exZ_len (ps.take i) []
      rw [exZ_take hi]
      generalize exZ (ps.take i) [] = acc at *
      generalize ps[i] = pc at *
      have hx2 := Dx.up so hx2
      have hn : Same H8 H8 := fun _ _ h => h
      rw [List.length_nil] at hlen
      cases pc with
      | pt ws' =>
        obtain ⟨r, t, rfl, hr, ht⟩ := dx_ptz hx2
        have hc : (Pz.pt ws').cnt = ws'.length := rfl
        refine ⟨_, rfl, r, _, 0, _, rfl, rfl, hr, atI_nat (j := 0) rfl, rfl, _, rfl, ifT put_put ?_⟩
        refine ⟨_, rfl, .inl ⟨rfl, _, SqL.of hw⟩, _, rfl, r, _, 1, _, rfl, rfl, hr, atI_nat (j := 1) rfl, D, t, _, _, rfl, rfl, hw, ht, Nat.le_of_lt (lt_line (by rw [intV_len, intV_len]; omega)), ?_⟩
        refine ⟨_, _, rfl, same_mut sm hD, so.put (.inr rfl), ?_⟩
        rw [upd_same, ← intV_app]
        rfl
      | rn n v =>
        obtain ⟨r, rfl, hr⟩ := dx_three hx2
        have hc : (Pz.rn n v).cnt = n := rfl
        refine ⟨_, rfl, r, _, 0, _, rfl, rfl, hr, atI_nat (j := 0) rfl, rfl, _, rfl, ifF run_put ?_⟩
        refine ⟨_, rfl, r, _, 0, _, rfl, rfl, hr, atI_nat (j := 0) rfl, rfl, _, rfl, ifT run_run ?_⟩
        refine ⟨_, rfl, .inl ⟨rfl, _, SqL.of hw⟩, _, rfl, r, _, 2, _, rfl, rfl, hr, atI_nat (j := 2) rfl, lenOk (n := 1) rfl (by decide), fun l hl => ?_⟩
        have s3 := same_new (o := .lst [V.int (v : Int)]) hl
        refine ⟨_, rfl, r, _, 1, _, rfl, rfl, sqT_up hr s3, atI_nat (j := 1) rfl, l, _, _, rfl, rfl, upd_same, by omega, by omega, by rw [Int.toNat_natCast]; exact Nat.le_of_lt (lt_line (by show 1 * n ≤ _; omega)), fun l2 hl2 => ?_⟩
        have n1 : D ≠ l := ne_of_none hw hl
        have s4 := s3.trans (same_new (o := .lst (List.replicate (n : Int).toNat [V.int (v : Int)]).flatten) hl2)
        have n2 : D ≠ l2 := ne_of_none (s3 _ _ hw) hl2
        refine ⟨D, l2, _, _, rfl, rfl, s4 _ _ hw, upd_same, ?_, ?_⟩
        · rw [Int.toNat_natCast, List.flatten_replicate_singleton, List.length_replicate, intV_len]
          exact Nat.le_of_lt (lt_line (by omega))
        · refine ⟨_, _, rfl, same_mut (sm.trans s4) hD, (so.trans (Out.of s4)).put (.inr rfl), ?_⟩
          rw [upd_same, Int.toNat_natCast, List.flatten_replicate_singleton]
          show _ = some (HO.lst (intV (acc ++ List.replicate n v)))
          rw [intV_app]
          unfold intV
          rw [List.map_replicate]
      | bk n d =>
        obtain ⟨d1, d2⟩ := k2 n d rfl
        obtain ⟨r, rfl, hr⟩ := dx_three hx2
        have hc : (Pz.bk n d).cnt = n := rfl
        refine ⟨_, rfl, r, _, 0, _, rfl, rfl, hr, atI_nat (j := 0) rfl, rfl, _, rfl, ifF back_put ?_⟩
        refine ⟨_, rfl, r, _, 0, _, rfl, rfl, hr, atI_nat (j := 0) rfl, rfl, _, rfl, ifF back_run ?_⟩
        refine ⟨_, rfl, r, _, 1, _, rfl, rfl, hr, atI_nat (j := 1) rfl, _, rfl, by omega, by omega, ?_⟩
        rw [Int.toNat_natCast]
        refine for_it (walk_range (lo := 0) (n := n)) (fun k σ Hc => ∃ o3, σ = [some (.ref a), some (.ref D), some (.ref r), o3] ∧ Same H Hc ∧ Out (inS noS D) H2 Hc ∧ Out (inS noS D) H8 Hc ∧ Hc D = some (.lst (intV (bkX k d acc)))) ⟨_, rfl, sm, so, Out.refl _ _, hw⟩ (fun _ _ _ _ _ => trivial) (fun k x σ Hc Hd hk y e => ?_) (fun σ Hc y => ?_)
        · obtain ⟨rfl, ex⟩ := e
          obtain ⟨o3, rfl, smk, sok, so8, hwk⟩ := y
          rw [bkX_snoc]
          have hl := bkX_len k d acc
          generalize bkX k d acc = ac at hwk hl ⊢
          obtain ⟨r', er, hr'⟩ := dx_three (Dx.up so8 hx2)
          cases er
          have hj : d ≤ ac.length := by omega
          have hlt : ac.length - d < ac.length := by omega
          have hat : atI (intV ac) ((ac.length : Int) - (d : Int)) = some (.int ((ac.getD (ac.length - d) 0 : Nat) : Int)) := by
            rw [show (ac.length : Int) - (d : Int) = ((ac.length - d : Nat) : Int) by omega]
            exact atI_nat (intV_at hlt)
          refine ⟨_, rfl, .inl ⟨rfl, _, SqL.of hwk⟩, _, rfl, _, rfl, D, _, rfl, .inl (SqL.of hwk), _, rfl, r, _, 2, _, rfl, rfl, hr', atI_nat (j := 2) rfl, _, _, rfl, rfl, ?_⟩
          dsimp only
          rw [intV_len]
          refine ⟨D, _, _, _, rfl, rfl, SqL.of hwk, hat, D, _, _, rfl, rfl, hwk, lt_line (by rw [intV_len]; omega), ?_⟩
          refine ⟨_, rfl, same_mut smk hD, sok.put (.inr rfl), so8.put (.inr rfl), ?_⟩
          rw [upd_same, intV_app]
          rfl
        · obtain ⟨o3, rfl, smk, sok, so8, hwk⟩ := y
          exact ⟨_, _, rfl, smk, sok, hwk⟩
    · obtain ⟨o2, o3, rfl, sm, so, hw⟩ := y
      rw [hxl, List.take_length] at hw
      refine ⟨_, rfl, D, _, rfl, .inl ⟨SqL.of hw, fun l1 hl => ?_⟩⟩
      exact good _ l1 (sm.trans (same_new hl)) upd_same
end
end R1

namespace R1
open PySem PySem.Spec PyProof.Rows L2 RK DL SZ
local macro_rules | `(tactic| walk_at "sq") => `(tactic| first
  | exact SqL.of upd_same | exact upd_same | exact SqL.of (by assumption) | exact SqL.of (by rw [upd_ne (by assumption)]; assumption) | assumption)
local macro_rules | `(tactic| walk_at "sd") => `(tactic| first
  | assumption | omega | (refine Or.inl ⟨?_, ?_⟩ <;> omega) | (show _ ∧ _; constructor <;> omega) | (show _ ≠ _; simp; omega) | (exact Or.inl ⟨by decide, by decide⟩) | (exact Or.inr ⟨by decide, by decide⟩) | (show _ < _; decide) | (show _ ≤ _; decide))
local macro_rules | `(tactic| walk_at "at") => `(tactic| first | rfl | (refine atI_intV ?_ ?_ <;> omega) | assumption)
local macro_rules | `(tactic| walk_at "s1") => `(tactic| first
  | refine ⟨_, rfl, ?_⟩ | refine ⟨_, _, rfl, rfl, ?_⟩ | refine ⟨rfl, ?_⟩
  | refine ⟨_, _, _, _, rfl, rfl, by walk_at "sq", by walk_at "at", ?_⟩
  | refine Or.inl ⟨_, rfl, ?_⟩
  | refine ⟨_, _, rfl, Or.inl (by walk_at "sq"), ?_⟩
  | refine And.intro (by walk_at "sd") ?_)
local macro_rules | `(tactic| walk_at "s") => `(tactic| repeat walk_at "s1")

def spWord : Sp := fun vs H Q _ => ∃ (c p : Addr), vs = [.ref p] ∧ Src c H p ∧ ∀ H' (w : Nat), w ≤ 65535 → Src c H' p → But p H H' → Q (.int (w : Int)) H'
def natD (l : List Nat) : List PyData := l.map fun (n : Nat) => PyData.int (n : Int)
theorem eqv_nats : ∀ a b : List Nat, PyData.eqvAll (natD a) (natD b) = decide (a = b)
  | [], [] => rfl
  | [], _ :: _ => rfl
  | _ :: _, [] => rfl
  | x :: a, y :: b => by
    show (PyData.eqv (.int (x : Int)) (.int (y : Int)) && PyData.eqvAll (natD a) (natD b)) = _
    rw [eqv_nats a b]
    show (decide ((x : Int) = (y : Int)) && decide (a = b)) = _
    rw [Bool.eq_iff_iff, Bool.and_eq_true, decide_eq_true_eq, decide_eq_true_eq, decide_eq_true_eq, List.cons.injEq]
    constructor
    · rintro ⟨h1, h2⟩
      exact ⟨by omega, h2⟩
    · rintro ⟨h1, h2⟩
      exact ⟨by omega, h2⟩
theorem shaped_nats (a : List Nat) : SeqAt.shaped (.list (natD a)) = true := by
  unfold SeqAt.shaped
  have e : natD a = (a.map fun (n : Nat) => (n : Int)).map PyData.int := by
    unfold natD
    rw [List.map_map]
    rfl
  rw [show (PyData.list (natD a)).canLay0 = PyData.canLayAll0 (natD a) from rfl, show (PyData.list (natD a)).depth = PyData.depthAll (natD a) + 1 from rfl, e, lay_ints, dep_ints]
  rfl
theorem dxAll_nats {K : PySem.W.Frag} {H : Hp} {S : ASet} (a : List Nat) : DxAll K H S (intV a) (natD a) := by
  rw [intV_ints]
  have e : natD a = (a.map fun (n : Nat) => (n : Int)).map PyData.int := by
    unfold natD
    rw [List.map_map]
    rfl
  rw [e]
  exact dxAll_ints _
theorem dp_nats {K : PySem.W.Frag} {H : Hp} {p : Addr} {a : List Nat} (h : H p = some (.lst (intV a))) : Dp K H (.ref p) (.list (natD a)) :=
  Dx.dp (S := noS) (.lst (XL.of h fun z => z) (dxAll_nats a))
def LsK {α : Type} (E : Hp → Addr → α → Prop) (H : Hp) (xs : List V) (as : List α) : Prop := xs.length = as.length ∧ ∀ (k : Nat) (a : α), as[k]? = some a → ∃ p : Addr, xs[k]? = some (V.ref p) ∧ E H p a
theorem LsK.up {α : Type} {E : Hp → Addr → α → Prop} {H H' : Hp} {xs : List V} {as : List α} (h : LsK E H xs as) (st : ∀ p a, E H p a → E H' p a) : LsK E H' xs as := ⟨h.1, fun k a ha => let ⟨p, e, f⟩ := h.2 k a ha; ⟨p, e, st _ _ f⟩⟩
theorem LsK.nil {α : Type} {E : Hp → Addr → α → Prop} {H : Hp} : LsK E H [] ([] : List α) := ⟨rfl, fun k a h => by cases h⟩
theorem LsK.snoc {α : Type} {E : Hp → Addr → α → Prop} {H : Hp} {xs : List V} {as : List α} {p : Addr} {a : α} (h : LsK E H xs as) (e : E H p a) : LsK E H (xs ++ [.ref p]) (as ++ [a]) := by
  refine ⟨by rw [List.length_append, List.length_append, h.1]; rfl, fun k t ht => ?_⟩
  rcases Nat.lt_or_ge k as.length with z | z
  · rw [List.getElem?_append_left z] at ht
    obtain ⟨y, a, b⟩ := h.2 k t ht
    exact ⟨y, by rw [List.getElem?_append_left (by rw [h.1]; exact z)]; exact a, b⟩
  · have hk : k = as.length := by
      have := (List.getElem?_eq_some_iff.mp ht).1
      rw [List.length_append] at this
      simp at this
      omega
    subst hk
    rw [List.getElem?_append_right (Nat.le_refl _), Nat.sub_self] at ht
    cases ht
    exact ⟨p, by rw [← h.1, List.getElem?_append_right (Nat.le_refl _), Nat.sub_self]; rfl, e⟩
theorem LsK.cons {α : Type} {E : Hp → Addr → α → Prop} {H : Hp} {xs : List V} {as : List α} {p : Addr} {a : α} (h : LsK E H xs as) (e : E H p a) : LsK E H (.ref p :: xs) (a :: as) := by
  refine ⟨congrArg (· + 1) h.1, fun k t ht => ?_⟩
  cases k with
  | zero =>
    cases ht
    exact ⟨p, rfl, e⟩
  | succ k => exact h.2 k t ht
theorem LsK.get {α : Type} {E : Hp → Addr → α → Prop} {H : Hp} {xs : List V} {as : List α} {i : Nat} {v : V} (h : LsK E H xs as) (hi : i < as.length) (e : xs[i]? = some v) : ∃ p, v = .ref p ∧ E H p as[i] := by
  obtain ⟨p, a, b⟩ := h.2 i as[i] (List.getElem?_eq_getElem hi)
  rw [a] at e
  exact ⟨p, (Option.some.inj e).symm, b⟩
def ChZ (K : PySem.W.Frag) (S : ASet) (H : Hp) (p : Addr) (ch : Cz) : Prop := ∃ o r : Addr, ¬ S p ∧ H p = some (.tup [.ref o, .int (ch.n : Int), .ref r]) ∧ ¬ S o ∧ H o = some (.lst (intV ch.pc.own)) ∧ Dx K H S (.ref r) (pzD ch.pc)
theorem ChZ.up {K : PySem.W.Frag} {S : ASet} {H H' : Hp} (s : Out S H H') {p : Addr} {ch : Cz} (h : ChZ K S H p ch) : ChZ K S H' p ch := let ⟨o, r, n, a, no, b, c⟩ := h; ⟨o, r, n, s _ _ n a, no, s _ _ no b, Dx.up s c⟩
theorem ChZ.less {K : PySem.W.Frag} {S : ASet} {H : Hp} {p : Addr} {ch : Cz} (h : ChZ K S H p ch) : ChZ K noS H p ch := let ⟨o, r, n, a, no, b, c⟩ := h; ⟨o, r, fun z => z, a, fun z => z, b, Dx.less (fun _ z => z.elim) c⟩
def spWordsZ (m : Nat) : Sp := fun vs H Q _ => ∃ (c p a : Addr) (pl : List Nat), vs = [.ref p, .ref a] ∧ Src c H p ∧ H a = some (.lst (intV pl)) ∧ a ≠ p ∧ 1 ≤ pl.length ∧ pl.length ≤ 5 ∧ (∀ w ∈ pl, w ≤ 65535) ∧ ∀ H' l (ws : List Nat), Src c H' p → But p H H' → H l = none → H' l = some (.lst (intV ws)) → ws.length ≤ m → (∀ w ∈ ws, w ≤ 65535) → Q (.ref l) H'
def spPool : Sp := fun vs H Q _ => ∃ (c p : Addr) (n : Nat), vs = [.ref p, .int (n : Int)] ∧ Src c H p ∧ 1 ≤ n ∧ n ≤ 4 ∧ ∀ H' l (ws : List Nat), Src c H' p → But p H H' → H l = none → H' l = some (.lst (intV ws)) → 1 ≤ ws.length → ws.length ≤ 5 → (∀ w ∈ ws, w ≤ 65535) → Q (.ref l) H'
section
variable {P : Program} {w : World} {K : PySem.W.Frag} {mg : Str → Option Value} {base : Heap} {A : Ads}
theorem ok_law_word (T : Txt K mg A) : FnOk P w K mg base CX0 3 A.a_law_word A.d_law_word ["_law_source_here"] spWord := by
  refine T.F_law_word.ok sc_law_word (fun vs H Q E h => ?_) (fun cdv B outer s H vs Q E hr h => ?_)
  · obtain ⟨c, p, rfl, _⟩ := h
    rfl
  · obtain ⟨c, p, rfl, hs, q⟩ := h
    refine ⟨_, (pss_cons (ps_set (i := 1) sc_law_word.nd rfl (.inl rfl) (pe_call (ok_law_draw T) (hr.mono (by omega)) rfl T.g_law_draw T.F_law_draw.kp T.b_law_draw .nil pass0 (pa_cons (pv 0) (pa_cons pe_int pa_nil))))
    (pss_cons (ps_if (pt_cmpR op_lt (pv 1) pe_int (nomark _)) (pss_one (ps_ret (pe_call (ok_law_draw T) (hr.mono (by omega)) rfl T.g_law_draw T.F_law_draw.kp T.b_law_draw .nil pass0 (pa_cons (pv 0) (pa_cons pe_int pa_nil))))) pss_nil)
    (pss_cons (ps_if (pt_cmpR op_eq (pv 1) pe_int (nomark _)) (pss_one (ps_ret (pe_call (ok_law_draw T) (hr.mono (by omega)) rfl T.g_law_draw T.F_law_draw.kp T.b_law_draw .nil pass0 (pa_cons (pv 0) (pa_cons pe_int pa_nil))))) pss_nil)
    (pss_one (ps_ret (pe_op op_sub pe_int (pe_call (ok_law_draw T) (hr.mono (by omega)) rfl T.g_law_draw T.F_law_draw.kp T.b_law_draw .nil pass0 (pa_cons (pv 0) (pa_cons pe_int pa_nil))))))))), ?_⟩
    walk_at "s"
    refine ⟨c, p, 4, rfl, hs, by decide, by decide, fun H1 way lw hs1 b1 => ?_⟩
    walk_at "s"
    refine ite2 (fun e => ?_) (fun e => ?_)
    · walk_at "s"
      exact ⟨c, p, 10, rfl, hs1, by decide, by decide, fun H2 r l2 hs2 b2 => q _ r (by omega) hs2 (b1.trans b2)⟩
    walk_at "s"
    refine ite2 (fun e => ?_) (fun e => ?_)
    · walk_at "s"
      exact ⟨c, p, 65536, rfl, hs1, by decide, by decide, fun H2 r l2 hs2 b2 => q _ r (by omega) hs2 (b1.trans b2)⟩
    walk_at "s"
    refine ⟨c, p, 3, rfl, hs1, by decide, by decide, fun H2 r l2 hs2 b2 => ?_⟩
    have := q _ (65535 - r) (by omega) hs2 (b1.trans b2)
    rw [show ((65535 - r : Nat) : Int) = 65535 - (r : Int) by omega] at this
    exact ⟨_, _, rfl, rfl, this⟩
theorem ok_law_pool (T : Txt K mg A) : FnOk P w K mg base CX0 4 A.a_law_pool A.d_law_pool ["_law_source_here", "_law_count"] spPool := by
  refine T.F_law_pool.ok sc_law_pool (fun vs H Q E h => ?_) (fun cdv B outer s H vs Q E hr h => ?_)
  · obtain ⟨c, p, n, rfl, _⟩ := h
    rfl
  · obtain ⟨c, p, n, rfl, hs, hn1, hn4, q⟩ := h
    refine ⟨_, (pss_cons (ps_setLc (i := 3) (own := [("_law_step", 2)]) rfl sc_law_pool.nd rfl rfl (sw_true rfl rfl rfl (by decide +kernel)) (pi_range1 (by rfl) T.n_range (pa_cons (pv 1) pa_nil)) (blkOk_by (own := [("_law_step", 2)]) (N := N_law_pool) (sc := defScope s_law_pool) (by decide +kernel)) (fun _ _ _ _ _ => pg_name (i := 2) sc_law_pool.nd rfl (Or.inl rfl)) (fun _ _ _ _ _ => pts_nil) (fun _ _ _ _ _ => by exact (pe_call (ok_law_word T) (hr.mono (by omega)) rfl T.g_law_word T.F_law_word.kp T.b_law_word .nil pass0 (pa_cons (pv 0) pa_nil))))
    (pss_one (ps_ret (pe_op op_cat (pv 3) (pe_lst (pa_cons (pe_ix ix_list (pv 3) pe_int (fun _ _ => rfl)) pa_nil)))))), ?_⟩
    refine ⟨_, rfl, (n : Int), rfl, by omega, by omega, fun D hD => ?_⟩
    rw [Int.toNat_natCast]
    have nD : D ≠ p := fun z => src_ne hs (z ▸ hD)
    have ncD : D ≠ c := fun z => src_cne hs (z ▸ hD)
    refine lc_inv (walk_range (lo := 0) (n := n)) (fun i v => True) (fun i acc H4 => Src c H4 p ∧ But p H H4 ∧ ∃ ws : List Nat, acc = intV ws ∧ ∀ w ∈ ws, w ≤ 65535) (by omega) ⟨src_up hs (same_new hD), But.of (same_new hD), [], rfl, fun w h => by cases h⟩ (fun _ _ _ _ => trivial) (fun i H1 v H2 hi y => ⟨y.1, trivial⟩) (fun i v acc H4 hi hl pv e5 _ Q q => ?_) (fun acc H6 hl4 pv e6 => ?_)
    · obtain ⟨hs4, b4, ws, rfl, hw⟩ := pv
      refine ⟨_, rfl, c, p, rfl, hs4, fun H7 x hx hs7 b7 => ?_⟩
      refine q _ _ (b7 _ _ nD e5) ⟨src_put hs7 nD ncD, but_new (b4.trans b7) hD, ws ++ [x], by rw [intV_app]; rfl, fun w h => ?_⟩
      rcases List.mem_append.mp h with z | z
      · exact hw w z
      · rw [List.mem_singleton.mp z]
        exact hx
    · obtain ⟨hs6, b6, ws, rfl, hw⟩ := pv
      rw [intV_len] at hl4
      refine ⟨_, rfl, _, rfl, D, _, 0, _, rfl, rfl, SqL.of e6, atI_nat (j := 0) (intV_at (by omega)), lenOk (n := 1) rfl (by decide), fun l1 h1 => ?_⟩
      have n1 : D ≠ l1 := ne_of_none e6 h1
      refine ⟨D, l1, _, _, rfl, rfl, by rw [upd_ne n1]; exact e6, upd_same, le_line (by rw [intV_len]; show _ + 1 ≤ _; omega), fun l2 h2 => ?_⟩
      have s1 := same_new (o := .lst [V.int ((ws.getD 0 0 : Nat) : Int)]) h1
      have s2 := same_new (o := .lst (intV ws ++ [V.int ((ws.getD 0 0 : Nat) : Int)])) h2
      refine q _ l2 (ws ++ [ws.getD 0 0]) (src_up hs6 (s1.trans s2)) (b6.trans (But.of (s1.trans s2))) ?_ (by rw [upd_same, intV_app]; rfl) (by rw [List.length_append]; show 1 ≤ _ + 1; omega) (by rw [List.length_append]; show _ + 1 ≤ _; omega) fun w h => ?_
      · cases hh : H l2 with
        | none => rfl
        | some o =>
          have := b6 l2 o (fun z => src_ne (src_up hs6 s1) (z ▸ h2)) hh
          rw [s1 _ _ this] at h2
          cases h2
      · rcases List.mem_append.mp h with z | z
        · exact hw w z
        · rw [List.mem_singleton.mp z, List.getD_eq_getElem?_getD, List.getElem?_eq_getElem (by omega)]
          exact hw _ (List.getElem_mem _)
theorem ok_law_words (T : Txt K mg A) : FnOk P w K mg base CX0 3 A.a_law_words A.d_law_words ["_law_source_here", "_law_pool_here"] (spWordsZ 24) := by
  refine T.F_law_words.ok sc_law_words (fun vs H Q E h => ?_) (fun cdv B outer s H vs Q E hr h => ?_)
  · obtain ⟨c, p, a, pl, rfl, _⟩ := h
    rfl
  · obtain ⟨c, p, a, pl, rfl, hs, ha, nap, hp1, hpl, hpw, q⟩ := h
    refine ⟨_, (pss_cons (ps_set (i := 2) sc_law_words.nd rfl (.inl rfl) (pe_lst pa_nil))
    (pss_cons (ps_for PassesOwn.never rfl (pi_range1 (by rfl) T.n_range (pa_cons (pe_call (ok_law_draw T) (hr.mono (by omega)) rfl T.g_law_draw T.F_law_draw.kp T.b_law_draw .nil pass0 (pa_cons (pv 0) (pa_cons pe_int pa_nil))) pa_nil)) (pg_name (i := 3) sc_law_words.nd rfl (.inl rfl))
      (pss_cons (ps_set (i := 4) sc_law_words.nd rfl (.inl rfl) (pe_call (ok_law_draw T) (hr.mono (by omega)) rfl T.g_law_draw T.F_law_draw.kp T.b_law_draw .nil pass0 (pa_cons (pv 0) (pa_cons pe_int pa_nil))))
    (pss_cons (ps_set (i := 5) sc_law_words.nd rfl (.inl rfl) (pe_op op_add pe_int (pe_call (ok_law_draw T) (hr.mono (by omega)) rfl T.g_law_draw T.F_law_draw.kp T.b_law_draw .nil pass0 (pa_cons (pv 0) (pa_cons pe_int pa_nil)))))
    (pss_one (ps_if (pt_cmpR op_eq (pv 4) pe_int (nomark _)) (pss_one (ps_set (i := 2) sc_law_words.nd rfl (.inl rfl) (pe_op op_cat (pv 2) (pe_op op_rep (pe_lst (pa_cons (pe_ix ix_list (pv 1) (pe_call (ok_law_draw T) (hr.mono (by omega)) rfl T.g_law_draw T.F_law_draw.kp T.b_law_draw .nil pass0 (pa_cons (pv 0) (pa_cons (pe_callB len_seq (by rfl) T.n_len (by decide +kernel) (pa_cons (pv 1) pa_nil)) pa_nil))) (fun _ _ => rfl)) pa_nil)) (pv 5))))) (pss_one (ps_if (PW.pt (pw_and (pt_cmpR op_eq (pv 4) pe_int (nomark _)) (pw_and1 (pt_cmpR op_gt (pe_callB len_seq (by rfl) T.n_len (by decide +kernel) (pa_cons (pv 2) pa_nil)) pe_int (nomark _))))) (pss_cons (ps_set (i := 6) sc_law_words.nd rfl (.inl rfl) (pe_op op_add pe_int (pe_call (ok_law_draw T) (hr.mono (by omega)) rfl T.g_law_draw T.F_law_draw.kp T.b_law_draw .nil pass0 (pa_cons (pv 0) (pa_cons (pe_callB len_seq (by rfl) T.n_len (by decide +kernel) (pa_cons (pv 2) pa_nil)) pa_nil)))))
    (pss_one (ps_for PassesOwn.never rfl (pi_range1 (by rfl) T.n_range (pa_cons (pv 5) pa_nil)) (pg_name (i := 7) sc_law_words.nd rfl (.inl rfl))
      (pss_one (ps_set (i := 2) sc_law_words.nd rfl (.inl rfl) (pe_op op_cat (pv 2) (pe_lst (pa_cons (pe_ix ix_list (pv 2) (pe_op op_sub (pe_callB len_seq (by rfl) T.n_len (by decide +kernel) (pa_cons (pv 2) pa_nil)) (pv 6)) (fun _ _ => rfl)) pa_nil)))))))) (pss_one (ps_set (i := 2) sc_law_words.nd rfl (.inl rfl) (pe_op op_cat (pv 2) (pe_lc (own := [("_law_more", 7)]) rfl sc_law_words.nd (pi_range1 (by rfl) T.n_range (pa_cons (pe_callB (call_min2 rfl) (by rfl) T.n_min (by decide +kernel) (pa_cons (pv 5) (pa_cons pe_int pa_nil))) pa_nil)) (blkOk_by (own := [("_law_more", 7)]) (N := N_law_words) (sc := defScope s_law_words) (by decide +kernel)) (fun _ _ _ _ _ => pg_name (i := 7) sc_law_words.nd rfl (Or.inl rfl)) (fun _ _ _ _ _ => pts_nil) (fun _ _ _ _ _ => by exact (pe_ix (r := rIxL K) ix_list (pv 1) (pe_call (ok_law_draw T) (hr.mono (by omega)) rfl T.g_law_draw T.F_law_draw.kp T.b_law_draw .nil pass0 (pa_cons (pv 0) (pa_cons (pe_callB (r := Evl.rLenS K) len_seq (by rfl) T.n_len (by decide +kernel) (pa_cons (pv 1) pa_nil)) pa_nil))) (fun _ _ => rfl))))))))))))))
    (pss_one (ps_ret (pe_slice sl_list (pv 2) po_none (po_some pe_int)))))), ?_⟩
    refine ⟨lenOk (n := 0) rfl (by decide), fun D hD => ?_⟩
    have s1 := same_new (o := .lst []) hD
    have e1 : upd H D (.lst []) D = some (.lst (intV [])) := upd_same
    have nD : D ≠ p := fun z => src_ne hs (z ▸ hD)
    generalize upd H D (.lst []) = H1 at s1 e1 ⊢
    have hs1 := src_up hs s1
    have hpl2 := intV_len pl
    have fr : ∀ {G : Hp} {z : Addr}, But p H G → Src c G p → G z = none → H z = none := fun {G z} bb ss hz => by
      cases hh : H z with
      | none => rfl
      | some o => rw [bb z o (fun y => src_ne ss (y ▸ hz)) hh] at hz; cases hz
    refine ⟨_, rfl, c, p, 6, rfl, hs1, by decide, by decide, fun H2 n ln hs2 b2 => ⟨(n : Int), rfl, by omega, by omega, ?_⟩⟩
    rw [Int.toNat_natCast]
    refine for_it (walk_range (lo := 0) (n := n)) (fun i σ Hc => ∃ (l : Addr) (o3 o4 o5 o6 o7 : Option V) (ws : List Nat), σ = [some (.ref p), some (.ref a), some (.ref l), o3, o4, o5, o6, o7] ∧ Src c Hc p ∧ But p H Hc ∧ H l = none ∧ Hc l = some (.lst (intV ws)) ∧ ws.length ≤ 6 * i ∧ ∀ w ∈ ws, w ≤ 65535)
      ⟨D, _, _, _, _, _, [], rfl, hs2, (But.of s1).trans b2, hD, b2 _ _ nD e1, Nat.zero_le _, fun w h => by cases h⟩ (fun _ _ _ _ _ => trivial) (fun i x σ Hc Hd hi y e => ?_) (fun σ Hc y => ?_)
    · obtain ⟨rfl, rfl⟩ := e
      obtain ⟨l, o3, o4, o5, o6, o7, ws, rfl, hs3, b3, hl, el3, hwl, hww⟩ := y
      have nl : l ≠ p := fun z => src_ne hs (z ▸ hl)
      refine ⟨_, rfl, c, p, 4, rfl, hs3, by decide, by decide, fun H4 way lw hs4 b4 => ?_⟩
      refine ⟨_, rfl, c, p, 6, rfl, hs4, by decide, by decide, fun H5 n5 ln5 hs5 b5 => ⟨_, _, rfl, rfl, ?_⟩⟩
      obtain ⟨cn, hcn, hc1, hcl⟩ : ∃ cn : Nat, 1 + (n5 : Int) = (cn : Int) ∧ 1 ≤ cn ∧ cn ≤ 6 := ⟨1 + n5, by omega, by omega, by omega⟩
      dsimp (config := { proj := false }) only
      rw [hcn]
      have b5 := b3.trans (b4.trans b5)
      have ha5 := b5 _ _ nap ha
      have el5 : H5 l = some (.lst (intV ws)) := by
        have := b4
        exact ‹But p H4 H5› _ _ nl (b4 _ _ nl el3)
      have b35 : But p Hd H5 := b4.trans ‹But p H4 H5›
      clear hs3 el3 hs4 b4 b3
      have fin : ∀ (G : Hp) (l3 : Addr) (zs : List Nat), Src c G p → But p H5 G → G l3 = none → zs.length ≤ 6 → (∀ w ∈ zs, w ≤ 65535) → H l3 = none ∧ Src c (upd G l3 (.lst (intV ws ++ intV zs))) p ∧ But p H (upd G l3 (.lst (intV ws ++ intV zs))) ∧ upd G l3 (.lst (intV ws ++ intV zs)) l3 = some (.lst (intV (ws ++ zs))) ∧ (ws ++ zs).length ≤ 6 * (i + 1) ∧ ∀ w ∈ ws ++ zs, w ≤ 65535 := fun G l3 zs hsG bG h3 hz hzw => by
        have st := same_new (o := .lst (intV ws ++ intV zs)) h3
        exact ⟨fr (b5.trans bG) hsG h3, src_up hsG st, (b5.trans bG).trans (But.of st), by rw [upd_same, intV_app], by rw [List.length_append]; omega, fun w hw => (List.mem_append.mp hw).elim (hww w) (hzw w)⟩
      refine ⟨_, rfl, rfl, _, rfl, ifB (fun e0 => ?_) (fun e0 => ?_)⟩
      · refine ⟨_, rfl, _, rfl, _, rfl, _, rfl, a, _, rfl, .inl (SqL.of ha5), c, p, ((intV pl).length : Int), rfl, hs5, by omega, by omega, fun H6 x6 l6 hs6 b6 => ?_⟩
        refine ⟨a, _, _, _, rfl, rfl, SqL.of (b6 _ _ nap ha5), atI_nat (intV_at (by omega)), lenOk (n := 1) rfl (by decide), fun l1 h1 => ?_⟩
        have st1 := same_new (o := .lst [V.int ((pl.getD x6 0 : Nat) : Int)]) h1
        have hx : pl.getD x6 0 ≤ 65535 := by
          rw [List.getD_eq_getElem?_getD, List.getElem?_eq_getElem (by omega)]
          exact hpw _ (List.getElem_mem _)
        have ez1 : upd H6 l1 (.lst [V.int ((pl.getD x6 0 : Nat) : Int)]) l1 = some (.lst [V.int ((pl.getD x6 0 : Nat) : Int)]) := upd_same
        generalize pl.getD x6 0 = xx at *
        generalize upd H6 l1 (.lst [V.int (xx : Int)]) = H7 at st1 ez1 ⊢
        refine ⟨_, rfl, l1, _, _, rfl, rfl, ez1, by omega, by omega, le_line (by rw [Int.toNat_natCast]; show 1 * cn ≤ _; omega), fun l2 h2 => ?_⟩
        have st2 := same_new (o := .lst (List.replicate (cn : Int).toNat [V.int (xx : Int)]).flatten) h2
        have ez2 : upd H7 l2 (.lst (List.replicate (cn : Int).toNat [V.int (xx : Int)]).flatten) l2 = some (.lst (intV (List.replicate cn xx))) := by
          rw [upd_same, Int.toNat_natCast, List.flatten_replicate_singleton]
          unfold intV
          rw [List.map_replicate]
        generalize upd H7 l2 (.lst (List.replicate (cn : Int).toNat [V.int (xx : Int)]).flatten) = H8 at st2 ez2 ⊢
        have b58 := b6.trans (But.of (st1.trans st2))
        refine ⟨l, l2, _, _, rfl, rfl, b58 _ _ nl el5, ez2, le_line (by rw [intV_len, intV_len, List.length_replicate]; omega), fun l3 h3 => ?_⟩
        have := fin H8 l3 (List.replicate cn xx) (src_up hs6 (st1.trans st2)) b58 h3 (by rw [List.length_replicate]; omega) (fun w hw => by rw [List.eq_of_mem_replicate hw]; exact hx)
        exact ⟨l3, _, _, _, _, _, ws ++ List.replicate cn xx, rfl, this.2.1, this.2.2.1, this.1, this.2.2.2⟩
      refine ⟨_, rfl, rfl, _, rfl, ifB (fun e1 => ?_) (fun e1 => ?_)⟩
      · refine ⟨_, rfl, l, _, rfl, .inl (SqL.of el5), _, _, rfl, rfl, _, rfl, ifB (fun e2 => ?_) (fun e2 => ?_)⟩
        · have e2 := of_decide_eq_true e2
          rw [intV_len] at e2
          have hil := intV_len ws
          refine ⟨_, rfl, _, rfl, l, _, rfl, .inl (SqL.of el5), c, p, ((intV ws).length : Int), rfl, hs5, by omega, by omega, fun H6 d6 ld hs6 b6 => ⟨_, _, rfl, rfl, ?_⟩⟩
          refine ⟨_, rfl, _, rfl, by omega, by omega, ?_⟩
          rw [Int.toNat_natCast]
          dsimp (config := { proj := false }) only
          obtain ⟨dd, hdd, hd1, hd2⟩ : ∃ dd : Nat, 1 + (d6 : Int) = (dd : Int) ∧ 1 ≤ dd ∧ dd ≤ ws.length := ⟨1 + d6, by omega, by omega, by omega⟩
          rw [hdd]
          refine for_it (walk_range (lo := 0) (n := cn)) (fun k σ Hc => ∃ (l' : Addr) (o7 : Option V) (zs : List Nat), σ = [some (.ref p), some (.ref a), some (.ref l'), some (.int (0 + (i : Int))), some (.int (way : Int)), some (.int (cn : Int)), some (.int (dd : Int)), o7] ∧ Src c Hc p ∧ But p H Hc ∧ H l' = none ∧ Hc l' = some (.lst (intV zs)) ∧ zs.length = ws.length + k ∧ ∀ w ∈ zs, w ≤ 65535)
            ⟨l, _, ws, rfl, hs6, b5.trans b6, hl, b6 _ _ nl el5, rfl, hww⟩ (fun _ _ _ _ _ => trivial) (fun k x σ Hc Hd hk y e => ?_) (fun σ Hc y => ?_)
          · obtain ⟨rfl, rfl⟩ := e
            obtain ⟨l', o7, zs, rfl, hs7, b7, hl', el7, hzl, hzw⟩ := y
            have hzi := intV_len zs
            have hat : atI (intV zs) ((zs.length : Int) - (dd : Int)) = some (.int ((zs.getD (zs.length - dd) 0 : Nat) : Int)) := by
              rw [show (zs.length : Int) - (dd : Int) = ((zs.length - dd : Nat) : Int) by omega]
              exact atI_nat (intV_at (by omega))
            have hx : zs.getD (zs.length - dd) 0 ≤ 65535 := by
              rw [List.getD_eq_getElem?_getD, List.getElem?_eq_getElem (by omega)]
              exact hzw _ (List.getElem_mem _)
            refine ⟨_, rfl, _, rfl, _, rfl, l', _, rfl, .inl (SqL.of el7), _, rfl, _, _, rfl, rfl, ?_⟩
            dsimp only
            rw [hzi]
            refine ⟨l', _, _, _, rfl, rfl, SqL.of el7, hat, lenOk (n := 1) rfl (by decide), fun l1 h1 => ?_⟩
            have st1 := same_new (o := .lst [V.int ((zs.getD (zs.length - dd) 0 : Nat) : Int)]) h1
            have ez1 : upd Hd l1 (.lst [V.int ((zs.getD (zs.length - dd) 0 : Nat) : Int)]) l1 = some (.lst [V.int ((zs.getD (zs.length - dd) 0 : Nat) : Int)]) := upd_same
            generalize zs.getD (zs.length - dd) 0 = xx at *
            generalize upd Hd l1 (.lst [V.int (xx : Int)]) = H9 at st1 ez1 ⊢
            refine ⟨l', l1, _, _, rfl, rfl, st1 _ _ el7, ez1, le_line (by rw [hzi]; show _ + 1 ≤ _; omega), fun l2 h2 => ?_⟩
            have st2 := same_new (o := .lst (intV zs ++ [V.int (xx : Int)])) h2
            refine ⟨l2, _, zs ++ [xx], rfl, src_up hs7 (st1.trans st2), b7.trans (But.of (st1.trans st2)), fr (b7.trans (But.of st1)) (src_up hs7 st1) h2, by rw [upd_same, intV_app]; rfl, by rw [List.length_append]; show _ + 1 = _; omega, fun w hw => ?_⟩
            rcases List.mem_append.mp hw with z | z
            · exact hzw w z
            · rw [List.mem_singleton.mp z]
              exact hx
          · obtain ⟨l', o7, zs, rfl, hs7, b7, hl', el7, hzl, hzw⟩ := y
            exact ⟨l', _, _, _, _, _, zs, rfl, hs7, b7, hl', el7, by omega, hzw⟩
        · skip
          refine ⟨_, rfl, _, rfl, _, _, rfl, (if (3 : Int) < (cn : Int) then 3 else (cn : Int)), rfl, by split <;> omega, by split <;> omega, fun D2 hD2 => ?_⟩
          obtain ⟨m, hm, hm3⟩ : ∃ m : Nat, (if (3 : Int) < (cn : Int) then 3 else (cn : Int)).toNat = m ∧ m ≤ 3 := ⟨_, rfl, by split <;> omega⟩
          rw [hm]
          have nD2 : D2 ≠ p := fun z => src_ne hs5 (z ▸ hD2)
          have ncD2 : D2 ≠ c := fun z => src_cne hs5 (z ▸ hD2)
          refine lc_inv (walk_range (lo := 0) (n := m)) (fun i v => True) (fun i acc H4 => Src c H4 p ∧ But p H5 H4 ∧ ∃ zs : List Nat, acc = intV zs ∧ ∀ w ∈ zs, w ≤ 65535) (by omega) ⟨src_up hs5 (same_new hD2), But.of (same_new hD2), [], rfl, fun w h => by cases h⟩ (fun _ _ _ _ => trivial) (fun i H1 v H2 hi y => ⟨y.1, trivial⟩) (fun i v acc H6 hi hl pv e5 _ Q q => ?_) (fun acc H6 hl6 pv el1 => ?_)
          · obtain ⟨hs6, b6, zs, rfl, hz⟩ := pv
            have ha6 := b6 _ _ nap ha5
            refine ⟨_, rfl, _, rfl, _, rfl, a, _, rfl, .inl (SqL.of ha6), c, p, ((intV pl).length : Int), rfl, hs6, by omega, by omega, fun H7 x hx hs7 b7 => ?_⟩
            refine ⟨a, _, _, _, rfl, rfl, SqL.of (b7 _ _ nap ha6), atI_nat (intV_at (by omega)), ?_⟩
            refine q _ _ (b7 _ _ nD2 e5) ⟨src_put hs7 nD2 ncD2, but_new (b6.trans b7) hD2, zs ++ [pl.getD x 0], by rw [intV_app]; rfl, fun w h => ?_⟩
            rcases List.mem_append.mp h with z | z
            · exact hz w z
            · rw [List.mem_singleton.mp z, List.getD_eq_getElem?_getD, List.getElem?_eq_getElem (by omega)]
              exact hpw _ (List.getElem_mem _)
          · obtain ⟨hs6, b6, zs, rfl, hzs⟩ := pv
            rw [intV_len] at hl6
            have el6 := b6 _ _ nl el5
            refine ⟨l, D2, _, _, rfl, rfl, el6, el1, le_line (by rw [intV_len, intV_len]; omega), fun l2 h2 => ?_⟩
            have := fin H6 l2 zs hs6 b6 h2 (by omega) hzs
            exact ⟨l2, _, _, _, _, _, ws ++ zs, rfl, this.2.1, this.2.2.1, this.1, this.2.2.2⟩
      · skip
        refine ⟨_, rfl, _, rfl, _, _, rfl, (if (3 : Int) < (cn : Int) then 3 else (cn : Int)), rfl, by split <;> omega, by split <;> omega, fun D2 hD2 => ?_⟩
        obtain ⟨m, hm, hm3⟩ : ∃ m : Nat, (if (3 : Int) < (cn : Int) then 3 else (cn : Int)).toNat = m ∧ m ≤ 3 := ⟨_, rfl, by split <;> omega⟩
        rw [hm]
        have nD2 : D2 ≠ p := fun z => src_ne hs5 (z ▸ hD2)
        have ncD2 : D2 ≠ c := fun z => src_cne hs5 (z ▸ hD2)
        refine lc_inv (walk_range (lo := 0) (n := m)) (fun i v => True) (fun i acc H4 => Src c H4 p ∧ But p H5 H4 ∧ ∃ zs : List Nat, acc = intV zs ∧ ∀ w ∈ zs, w ≤ 65535) (by omega) ⟨src_up hs5 (same_new hD2), But.of (same_new hD2), [], rfl, fun w h => by cases h⟩ (fun _ _ _ _ => trivial) (fun i H1 v H2 hi y => ⟨y.1, trivial⟩) (fun i v acc H6 hi hl pv e5 _ Q q => ?_) (fun acc H6 hl6 pv el1 => ?_)
        · obtain ⟨hs6, b6, zs, rfl, hz⟩ := pv
          have ha6 := b6 _ _ nap ha5
          refine ⟨_, rfl, _, rfl, _, rfl, a, _, rfl, .inl (SqL.of ha6), c, p, ((intV pl).length : Int), rfl, hs6, by omega, by omega, fun H7 x hx hs7 b7 => ?_⟩
          refine ⟨a, _, _, _, rfl, rfl, SqL.of (b7 _ _ nap ha6), atI_nat (intV_at (by omega)), ?_⟩
          refine q _ _ (b7 _ _ nD2 e5) ⟨src_put hs7 nD2 ncD2, but_new (b6.trans b7) hD2, zs ++ [pl.getD x 0], by rw [intV_app]; rfl, fun w h => ?_⟩
          rcases List.mem_append.mp h with z | z
          · exact hz w z
          · rw [List.mem_singleton.mp z, List.getD_eq_getElem?_getD, List.getElem?_eq_getElem (by omega)]
            exact hpw _ (List.getElem_mem _)
        · obtain ⟨hs6, b6, zs, rfl, hzs⟩ := pv
          rw [intV_len] at hl6
          have el6 := b6 _ _ nl el5
          refine ⟨l, D2, _, _, rfl, rfl, el6, el1, le_line (by rw [intV_len, intV_len]; omega), fun l2 h2 => ?_⟩
          have := fin H6 l2 zs hs6 b6 h2 (by omega) hzs
          exact ⟨l2, _, _, _, _, _, ws ++ zs, rfl, this.2.1, this.2.2.1, this.1, this.2.2.2⟩
    · obtain ⟨l, o3, o4, o5, o6, o7, ws, rfl, hs3, b3, hl, el3, hwl, hww⟩ := y
      unfold tNoPart
      refine ⟨_, rfl, _, rfl, l, _, rfl, SqL.of el3, fun l9 h9 => ?_⟩
      rw [show cutV (intV ws) none (some (24 : Int)) = intV (ws.take 24) from by
        rw [show cutV (intV ws) none (some (24 : Int)) = (intV ws).take 24 from cutV_hi (xs := intV ws) 24]
        unfold intV
        rw [List.map_take]]
      have st := same_new (o := .lst (intV (ws.take 24))) h9
      exact q _ l9 (ws.take 24) (src_up hs3 st) (b3.trans (But.of st)) (fr b3 hs3 h9) upd_same (by rw [List.length_take]; omega) fun w hw => hww w (List.mem_of_mem_take hw)
theorem ok_law_longer (T : Txt K mg A) : FnOk P w K mg base CX0 3 A.a_law_longer A.d_law_longer ["_law_source_here", "_law_pool_here"] (spWordsZ 160) := by
  refine T.F_law_longer.ok sc_law_longer (fun vs H Q E h => ?_) (fun cdv B outer s H vs Q E hr h => ?_)
  · obtain ⟨c, p, a, pl, rfl, _⟩ := h
    rfl
  · obtain ⟨c, p, a, pl, rfl, hs, ha, nap, hp1, hpl, hpw, q⟩ := h
    refine ⟨_, (pss_cons (ps_set (i := 2) sc_law_longer.nd rfl (.inl rfl) (pe_lst pa_nil))
    (pss_cons (ps_for PassesOwn.never rfl (pi_range1 (by rfl) T.n_range (pa_cons (pe_op op_add pe_int (pe_call (ok_law_draw T) (hr.mono (by omega)) rfl T.g_law_draw T.F_law_draw.kp T.b_law_draw .nil pass0 (pa_cons (pv 0) (pa_cons pe_int pa_nil)))) pa_nil)) (pg_name (i := 3) sc_law_longer.nd rfl (.inl rfl))
      (pss_cons (ps_set (i := 4) sc_law_longer.nd rfl (.inl rfl) (pe_call (ok_law_draw T) (hr.mono (by omega)) rfl T.g_law_draw T.F_law_draw.kp T.b_law_draw .nil pass0 (pa_cons (pv 0) (pa_cons pe_int pa_nil))))
    (pss_cons (ps_set (i := 5) sc_law_longer.nd rfl (.inr rfl) (pe_op op_add pe_int (pe_call (ok_law_draw T) (hr.mono (by omega)) rfl T.g_law_draw T.F_law_draw.kp T.b_law_draw .nil pass0 (pa_cons (pv 0) (pa_cons pe_int pa_nil)))))
    (pss_one (ps_if (pt_cmpR op_eq (pv 4) pe_int (nomark _)) (pss_one (ps_set (i := 2) sc_law_longer.nd rfl (.inl rfl) (pe_op op_cat (pv 2) (pe_op op_rep (pe_lst (pa_cons (pe_ix ix_list (pv 1) (pe_call (ok_law_draw T) (hr.mono (by omega)) rfl T.g_law_draw T.F_law_draw.kp T.b_law_draw .nil pass0 (pa_cons (pv 0) (pa_cons (pe_callB len_seq (by rfl) T.n_len (by decide +kernel) (pa_cons (pv 1) pa_nil)) pa_nil))) (fun _ _ => rfl)) pa_nil)) (pv 5))))) (pss_one (ps_if (PW.pt (pw_and (pt_cmpR op_eq (pv 4) pe_int (nomark _)) (pw_and1 (pt_cmpR op_gt (pe_callB len_seq (by rfl) T.n_len (by decide +kernel) (pa_cons (pv 2) pa_nil)) pe_int (nomark _))))) (pss_cons (ps_set (i := 6) sc_law_longer.nd rfl (.inl rfl) (pe_op op_add pe_int (pe_call (ok_law_draw T) (hr.mono (by omega)) rfl T.g_law_draw T.F_law_draw.kp T.b_law_draw .nil pass0 (pa_cons (pv 0) (pa_cons (pe_callB len_seq (by rfl) T.n_len (by decide +kernel) (pa_cons (pv 2) pa_nil)) pa_nil)))))
    (pss_one (ps_for PassesOwn.never rfl (pi_range1 (by rfl) T.n_range (pa_cons (pv 5) pa_nil)) (pg_name (i := 7) sc_law_longer.nd rfl (.inl rfl))
      (pss_one (ps_set (i := 2) sc_law_longer.nd rfl (.inl rfl) (pe_op op_cat (pv 2) (pe_lst (pa_cons (pe_ix ix_list (pv 2) (pe_op op_sub (pe_callB len_seq (by rfl) T.n_len (by decide +kernel) (pa_cons (pv 2) pa_nil)) (pv 6)) (fun _ _ => rfl)) pa_nil)))))))) (pss_one (ps_set (i := 2) sc_law_longer.nd rfl (.inl rfl) (pe_op op_cat (pv 2) (pe_lc (own := [("_law_k", 8)]) rfl sc_law_longer.nd (pi_range1 (by rfl) T.n_range (pa_cons (pv 5) pa_nil)) (blkOk_by (own := [("_law_k", 8)]) (N := N_law_longer) (sc := defScope s_law_longer) (by decide +kernel)) (fun _ _ _ _ _ => pg_name (i := 8) sc_law_longer.nd rfl (Or.inl rfl)) (fun _ _ _ _ _ => pts_nil) (fun _ _ _ _ _ => by exact (pe_op op_mod (pe_callTy call_int1 (by rfl) T.n_int (by decide +kernel) (pa_cons (pe_op op_add (pe_ix (r := rIxL K) ix_list (pv 1) pe_int (fun _ _ => rfl)) (pe_op op_mul (pv 8) (pe_op op_add (pe_op op_mul pe_int (pv 5)) pe_int))) pa_nil)) pe_int)))))))))))))
    (pss_one (ps_ret (pe_slice sl_list (pv 2) po_none (po_some pe_int)))))), ?_⟩
    refine ⟨lenOk (n := 0) rfl (by decide), fun D hD => ?_⟩
    have s1 := same_new (o := .lst []) hD
    have e1 : upd H D (.lst []) D = some (.lst (intV [])) := upd_same
    have nD : D ≠ p := fun z => src_ne hs (z ▸ hD)
    generalize upd H D (.lst []) = H1 at s1 e1 ⊢
    have hs1 := src_up hs s1
    have hpl2 := intV_len pl
    have fr : ∀ {G : Hp} {z : Addr}, But p H G → Src c G p → G z = none → H z = none := fun {G z} bb ss hz => by
      cases hh : H z with
      | none => rfl
      | some o => rw [bb z o (fun y => src_ne ss (y ▸ hz)) hh] at hz; cases hz
    refine ⟨_, rfl, c, p, 4, rfl, hs1, by decide, by decide, fun H2 n ln hs2 b2 => ⟨_, _, rfl, rfl, 1 + (n : Int), rfl, by omega, by omega, ?_⟩⟩
    rw [show (1 + (n : Int)).toNat = 1 + n by omega]
    refine for_it (walk_range (lo := 0) (n := 1 + n)) (fun i σ Hc => ∃ (l : Addr) (o3 o4 o5 o6 o7 o8 : Option V) (ws : List Nat), σ = [some (.ref p), some (.ref a), some (.ref l), o3, o4, o5, o6, o7, o8] ∧ Src c Hc p ∧ But p H Hc ∧ H l = none ∧ Hc l = some (.lst (intV ws)) ∧ ws.length ≤ 50 * i ∧ ∀ w ∈ ws, w ≤ 65535)
      ⟨D, _, _, _, _, _, _, [], rfl, hs2, (But.of s1).trans b2, hD, b2 _ _ nD e1, Nat.zero_le _, fun w h => by cases h⟩ (fun _ _ _ _ _ => trivial) (fun i x σ Hc Hd hi y e => ?_) (fun σ Hc y => ?_)
    · obtain ⟨rfl, rfl⟩ := e
      obtain ⟨l, o3, o4, o5, o6, o7, o8, ws, rfl, hs3, b3, hl, el3, hwl, hww⟩ := y
      have nl : l ≠ p := fun z => src_ne hs (z ▸ hl)
      refine ⟨_, rfl, c, p, 3, rfl, hs3, by decide, by decide, fun H4 way lw hs4 b4 => ?_⟩
      refine ⟨_, rfl, c, p, 50, rfl, hs4, by decide, by decide, fun H5 n5 ln5 hs5 b5 => ⟨_, _, rfl, rfl, ?_⟩⟩
      obtain ⟨cn, hcn, hc1, hcl⟩ : ∃ cn : Nat, 1 + (n5 : Int) = (cn : Int) ∧ 1 ≤ cn ∧ cn ≤ 50 := ⟨1 + n5, by omega, by omega, by omega⟩
      dsimp (config := { proj := false }) only
      rw [hcn]
      have b5 := b3.trans (b4.trans b5)
      have ha5 := b5 _ _ nap ha
      have el5 : H5 l = some (.lst (intV ws)) := by
        have := b4
        exact ‹But p H4 H5› _ _ nl (b4 _ _ nl el3)
      have b35 : But p Hd H5 := b4.trans ‹But p H4 H5›
      clear hs3 el3 hs4 b4 b3
      have fin : ∀ (G : Hp) (l3 : Addr) (zs : List Nat), Src c G p → But p H5 G → G l3 = none → zs.length ≤ 50 → (∀ w ∈ zs, w ≤ 65535) → H l3 = none ∧ Src c (upd G l3 (.lst (intV ws ++ intV zs))) p ∧ But p H (upd G l3 (.lst (intV ws ++ intV zs))) ∧ upd G l3 (.lst (intV ws ++ intV zs)) l3 = some (.lst (intV (ws ++ zs))) ∧ (ws ++ zs).length ≤ 50 * (i + 1) ∧ ∀ w ∈ ws ++ zs, w ≤ 65535 := fun G l3 zs hsG bG h3 hz hzw => by
        have st := same_new (o := .lst (intV ws ++ intV zs)) h3
        exact ⟨fr (b5.trans bG) hsG h3, src_up hsG st, (b5.trans bG).trans (But.of st), by rw [upd_same, intV_app], by rw [List.length_append]; omega, fun w hw => (List.mem_append.mp hw).elim (hww w) (hzw w)⟩
      refine ⟨_, rfl, rfl, _, rfl, ifB (fun e0 => ?_) (fun e0 => ?_)⟩
      · refine ⟨_, rfl, _, rfl, _, rfl, _, rfl, a, _, rfl, .inl (SqL.of ha5), c, p, ((intV pl).length : Int), rfl, hs5, by omega, by omega, fun H6 x6 l6 hs6 b6 => ?_⟩
        refine ⟨a, _, _, _, rfl, rfl, SqL.of (b6 _ _ nap ha5), atI_nat (intV_at (by omega)), lenOk (n := 1) rfl (by decide), fun l1 h1 => ?_⟩
        have st1 := same_new (o := .lst [V.int ((pl.getD x6 0 : Nat) : Int)]) h1
        have hx : pl.getD x6 0 ≤ 65535 := by
          rw [List.getD_eq_getElem?_getD, List.getElem?_eq_getElem (by omega)]
          exact hpw _ (List.getElem_mem _)
        have ez1 : upd H6 l1 (.lst [V.int ((pl.getD x6 0 : Nat) : Int)]) l1 = some (.lst [V.int ((pl.getD x6 0 : Nat) : Int)]) := upd_same
        generalize pl.getD x6 0 = xx at *
        generalize upd H6 l1 (.lst [V.int (xx : Int)]) = H7 at st1 ez1 ⊢
        refine ⟨_, rfl, l1, _, _, rfl, rfl, ez1, by omega, by omega, le_line (by rw [Int.toNat_natCast]; show 1 * cn ≤ _; omega), fun l2 h2 => ?_⟩
        have st2 := same_new (o := .lst (List.replicate (cn : Int).toNat [V.int (xx : Int)]).flatten) h2
        have ez2 : upd H7 l2 (.lst (List.replicate (cn : Int).toNat [V.int (xx : Int)]).flatten) l2 = some (.lst (intV (List.replicate cn xx))) := by
          rw [upd_same, Int.toNat_natCast, List.flatten_replicate_singleton]
          unfold intV
          rw [List.map_replicate]
        generalize upd H7 l2 (.lst (List.replicate (cn : Int).toNat [V.int (xx : Int)]).flatten) = H8 at st2 ez2 ⊢
        have b58 := b6.trans (But.of (st1.trans st2))
        refine ⟨l, l2, _, _, rfl, rfl, b58 _ _ nl el5, ez2, le_line (by rw [intV_len, intV_len, List.length_replicate]; omega), fun l3 h3 => ?_⟩
        have := fin H8 l3 (List.replicate cn xx) (src_up hs6 (st1.trans st2)) b58 h3 (by rw [List.length_replicate]; omega) (fun w hw => by rw [List.eq_of_mem_replicate hw]; exact hx)
        exact ⟨l3, _, _, _, _, _, _, ws ++ List.replicate cn xx, rfl, this.2.1, this.2.2.1, this.1, this.2.2.2⟩
      refine ⟨_, rfl, rfl, _, rfl, ifB (fun e1 => ?_) (fun e1 => ?_)⟩
      · refine ⟨_, rfl, l, _, rfl, .inl (SqL.of el5), _, _, rfl, rfl, _, rfl, ifB (fun e2 => ?_) (fun e2 => ?_)⟩
        · have e2 := of_decide_eq_true e2
          rw [intV_len] at e2
          have hil := intV_len ws
          refine ⟨_, rfl, _, rfl, l, _, rfl, .inl (SqL.of el5), c, p, ((intV ws).length : Int), rfl, hs5, by omega, by omega, fun H6 d6 ld hs6 b6 => ⟨_, _, rfl, rfl, ?_⟩⟩
          refine ⟨_, rfl, _, rfl, by omega, by omega, ?_⟩
          rw [Int.toNat_natCast]
          dsimp (config := { proj := false }) only
          obtain ⟨dd, hdd, hd1, hd2⟩ : ∃ dd : Nat, 1 + (d6 : Int) = (dd : Int) ∧ 1 ≤ dd ∧ dd ≤ ws.length := ⟨1 + d6, by omega, by omega, by omega⟩
          rw [hdd]
          refine for_it (walk_range (lo := 0) (n := cn)) (fun k σ Hc => ∃ (l' : Addr) (o7 : Option V) (zs : List Nat), σ = [some (.ref p), some (.ref a), some (.ref l'), some (.int (0 + (i : Int))), some (.int (way : Int)), some (.int (cn : Int)), some (.int (dd : Int)), o7, o8] ∧ Src c Hc p ∧ But p H Hc ∧ H l' = none ∧ Hc l' = some (.lst (intV zs)) ∧ zs.length = ws.length + k ∧ ∀ w ∈ zs, w ≤ 65535)
            ⟨l, _, ws, rfl, hs6, b5.trans b6, hl, b6 _ _ nl el5, rfl, hww⟩ (fun _ _ _ _ _ => trivial) (fun k x σ Hc Hd hk y e => ?_) (fun σ Hc y => ?_)
          · obtain ⟨rfl, rfl⟩ := e
            obtain ⟨l', o7, zs, rfl, hs7, b7, hl', el7, hzl, hzw⟩ := y
            have hzi := intV_len zs
            have hat : atI (intV zs) ((zs.length : Int) - (dd : Int)) = some (.int ((zs.getD (zs.length - dd) 0 : Nat) : Int)) := by
              rw [show (zs.length : Int) - (dd : Int) = ((zs.length - dd : Nat) : Int) by omega]
              exact atI_nat (intV_at (by omega))
            have hx : zs.getD (zs.length - dd) 0 ≤ 65535 := by
              rw [List.getD_eq_getElem?_getD, List.getElem?_eq_getElem (by omega)]
              exact hzw _ (List.getElem_mem _)
            refine ⟨_, rfl, _, rfl, _, rfl, l', _, rfl, .inl (SqL.of el7), _, rfl, _, _, rfl, rfl, ?_⟩
            dsimp only
            rw [hzi]
            refine ⟨l', _, _, _, rfl, rfl, SqL.of el7, hat, lenOk (n := 1) rfl (by decide), fun l1 h1 => ?_⟩
            have st1 := same_new (o := .lst [V.int ((zs.getD (zs.length - dd) 0 : Nat) : Int)]) h1
            have ez1 : upd Hd l1 (.lst [V.int ((zs.getD (zs.length - dd) 0 : Nat) : Int)]) l1 = some (.lst [V.int ((zs.getD (zs.length - dd) 0 : Nat) : Int)]) := upd_same
            generalize zs.getD (zs.length - dd) 0 = xx at *
            generalize upd Hd l1 (.lst [V.int (xx : Int)]) = H9 at st1 ez1 ⊢
            refine ⟨l', l1, _, _, rfl, rfl, st1 _ _ el7, ez1, le_line (by rw [hzi]; show _ + 1 ≤ _; omega), fun l2 h2 => ?_⟩
            have st2 := same_new (o := .lst (intV zs ++ [V.int (xx : Int)])) h2
            refine ⟨l2, _, zs ++ [xx], rfl, src_up hs7 (st1.trans st2), b7.trans (But.of (st1.trans st2)), fr (b7.trans (But.of st1)) (src_up hs7 st1) h2, by rw [upd_same, intV_app]; rfl, by rw [List.length_append]; show _ + 1 = _; omega, fun w hw => ?_⟩
            rcases List.mem_append.mp hw with z | z
            · exact hzw w z
            · rw [List.mem_singleton.mp z]
              exact hx
          · obtain ⟨l', o7, zs, rfl, hs7, b7, hl', el7, hzl, hzw⟩ := y
            exact ⟨l', _, _, _, _, _, _, zs, rfl, hs7, b7, hl', el7, by omega, hzw⟩
        · skip
          refine ⟨_, rfl, _, rfl, (cn : Int), rfl, by omega, by omega, fun D2 hD2 => ?_⟩
          rw [Int.toNat_natCast]
          have hat0 : atI (intV pl) 0 = some (.int ((pl.getD 0 0 : Nat) : Int)) := atI_nat (j := 0) (intV_at (by omega))
          generalize pl.getD 0 0 = p0 at hat0
          refine lc_vals (walk_range (lo := 0) (n := cn)) (fun i v => v = .int (i : Int)) (fun i => .int (((p0 + i * (2 * cn + 1)) % 65536 : Nat) : Int)) hD2 (fun _ _ => trivial) (by omega) (fun i H1 v H2 hi y => ⟨y.1, by rw [y.2]; exact congrArg V.int (by omega)⟩) (fun i v H4 hi sm hv Q q => ?_) (fun H8 s8 e8 => ?_)
          · subst hv
            refine ⟨_, rfl, a, _, 0, _, rfl, rfl, SqL.of (sm _ _ ha5), hat0, _, rfl, _, rfl, _, _, rfl, rfl, .inl ⟨by omega, by omega⟩, _, _, rfl, rfl, _, _, rfl, rfl, .inl ⟨by omega, by omega⟩, _, _, rfl, rfl, .inl ⟨_, rfl, _, _, rfl, rfl, (by show (0 : Int) < 65536; decide), ?_⟩⟩
            have e : ((p0 : Int) + (i : Int) * (2 * (cn : Int) + 1)) % 65536 = (((p0 + i * (2 * cn + 1)) % 65536 : Nat) : Int) := by
              rw [Int.natCast_emod, Int.natCast_add, Int.natCast_mul, Int.natCast_add, Int.natCast_mul]
              rfl
            have := q H4 (Same.refl _)
            rw [← e] at this
            exact this
          · obtain ⟨zs, hzs⟩ : ∃ zs, zs = (List.range cn).map fun i => (p0 + i * (2 * cn + 1)) % 65536 := ⟨_, rfl⟩
            have e8' : H8 D2 = some (.lst (intV zs)) := by
              rw [e8, hzs]
              unfold intV
              rw [List.map_map]
              rfl
            have hzl : zs.length = cn := by rw [hzs, List.length_map, List.length_range]
            have hzw : ∀ w ∈ zs, w ≤ 65535 := fun w hw => by
              rw [hzs] at hw
              obtain ⟨i, _, rfl⟩ := List.mem_map.mp hw
              omega
            refine ⟨l, D2, _, _, rfl, rfl, s8 _ _ el5, e8', le_line (by rw [intV_len, intV_len]; omega), fun l2 h2 => ?_⟩
            have := fin H8 l2 zs (src_up hs5 s8) (But.of s8) h2 (by omega) hzw
            exact ⟨l2, _, _, _, _, _, _, ws ++ zs, rfl, this.2.1, this.2.2.1, this.1, this.2.2.2⟩
      · skip
        refine ⟨_, rfl, _, rfl, (cn : Int), rfl, by omega, by omega, fun D2 hD2 => ?_⟩
        rw [Int.toNat_natCast]
        have hat0 : atI (intV pl) 0 = some (.int ((pl.getD 0 0 : Nat) : Int)) := atI_nat (j := 0) (intV_at (by omega))
        generalize pl.getD 0 0 = p0 at hat0
        refine lc_vals (walk_range (lo := 0) (n := cn)) (fun i v => v = .int (i : Int)) (fun i => .int (((p0 + i * (2 * cn + 1)) % 65536 : Nat) : Int)) hD2 (fun _ _ => trivial) (by omega) (fun i H1 v H2 hi y => ⟨y.1, by rw [y.2]; exact congrArg V.int (by omega)⟩) (fun i v H4 hi sm hv Q q => ?_) (fun H8 s8 e8 => ?_)
        · subst hv
          refine ⟨_, rfl, a, _, 0, _, rfl, rfl, SqL.of (sm _ _ ha5), hat0, _, rfl, _, rfl, _, _, rfl, rfl, .inl ⟨by omega, by omega⟩, _, _, rfl, rfl, _, _, rfl, rfl, .inl ⟨by omega, by omega⟩, _, _, rfl, rfl, .inl ⟨_, rfl, _, _, rfl, rfl, (by show (0 : Int) < 65536; decide), ?_⟩⟩
          have e : ((p0 : Int) + (i : Int) * (2 * (cn : Int) + 1)) % 65536 = (((p0 + i * (2 * cn + 1)) % 65536 : Nat) : Int) := by
            rw [Int.natCast_emod, Int.natCast_add, Int.natCast_mul, Int.natCast_add, Int.natCast_mul]
            rfl
          have := q H4 (Same.refl _)
          rw [← e] at this
          exact this
        · obtain ⟨zs, hzs⟩ : ∃ zs, zs = (List.range cn).map fun i => (p0 + i * (2 * cn + 1)) % 65536 := ⟨_, rfl⟩
          have e8' : H8 D2 = some (.lst (intV zs)) := by
            rw [e8, hzs]
            unfold intV
            rw [List.map_map]
            rfl
          have hzl : zs.length = cn := by rw [hzs, List.length_map, List.length_range]
          have hzw : ∀ w ∈ zs, w ≤ 65535 := fun w hw => by
            rw [hzs] at hw
            obtain ⟨i, _, rfl⟩ := List.mem_map.mp hw
            omega
          refine ⟨l, D2, _, _, rfl, rfl, s8 _ _ el5, e8', le_line (by rw [intV_len, intV_len]; omega), fun l2 h2 => ?_⟩
          have := fin H8 l2 zs (src_up hs5 s8) (But.of s8) h2 (by omega) hzw
          exact ⟨l2, _, _, _, _, _, _, ws ++ zs, rfl, this.2.1, this.2.2.1, this.1, this.2.2.2⟩
    · obtain ⟨l, o3, o4, o5, o6, o7, o8, ws, rfl, hs3, b3, hl, el3, hwl, hww⟩ := y
      unfold tNoPart
      refine ⟨_, rfl, _, rfl, l, _, rfl, SqL.of el3, fun l9 h9 => ?_⟩
      rw [show cutV (intV ws) none (some (160 : Int)) = intV (ws.take 160) from by
        rw [show cutV (intV ws) none (some (160 : Int)) = (intV ws).take 160 from cutV_hi (xs := intV ws) 160]
        unfold intV
        rw [List.map_take]]
      have st := same_new (o := .lst (intV (ws.take 160))) h9
      exact q _ l9 (ws.take 160) (src_up hs3 st) (b3.trans (But.of st)) (fr b3 hs3 h9) upd_same (by rw [List.length_take]; omega) fun w hw => hww w (List.mem_of_mem_take hw)
end
end R1

namespace R1
open PySem PySem.Spec PyProof.Rows L2 RK DL SZ
local macro_rules | `(tactic| walk_at "sq") => `(tactic| first
  | exact SqL.of upd_same | exact upd_same | exact SqL.of (by assumption) | exact SqL.of (by rw [upd_ne (by assumption)]; assumption) | assumption)
local macro_rules | `(tactic| walk_at "sd") => `(tactic| first
  | assumption | omega | (refine Or.inl ⟨?_, ?_⟩ <;> omega) | (show _ ∧ _; constructor <;> omega) | (show _ ≠ _; simp; omega) | (exact Or.inl ⟨by decide, by decide⟩) | (exact Or.inr ⟨by decide, by decide⟩) | (show _ < _; decide) | (show _ ≤ _; decide))
local macro_rules | `(tactic| walk_at "at") => `(tactic| first | rfl | (refine atI_intV ?_ ?_ <;> omega) | assumption)
local macro_rules | `(tactic| walk_at "s1") => `(tactic| first
  | refine ⟨_, rfl, ?_⟩ | refine ⟨_, _, rfl, rfl, ?_⟩ | refine ⟨rfl, ?_⟩
  | refine ⟨_, _, _, _, rfl, rfl, by walk_at "sq", by walk_at "at", ?_⟩
  | refine Or.inl ⟨_, rfl, ?_⟩
  | refine ⟨_, _, rfl, Or.inl (by walk_at "sq"), ?_⟩
  | refine And.intro (by walk_at "sd") ?_)
local macro_rules | `(tactic| walk_at "s") => `(tactic| repeat walk_at "s1")

theorem take_flatR {β : Type} (g : Nat → List β) (i : Nat) : (List.range (i + 1)).flatMap g = (List.range i).flatMap g ++ g i := by
  rw [List.range_succ, List.flatMap_append]
  simp
def bkJ (W : List Nat) (p c j : Nat) : List Cz := ((List.range j).filter fun i => decide ((W.drop p).take c = (W.drop (p - (i + 1))).take c)).map fun i => ⟨.bk c (i + 1), c, 2⟩
theorem bkJ_succ (W : List Nat) (p c j : Nat) : bkJ W p c (j + 1) = bkJ W p c j ++ (if (W.drop p).take c = (W.drop (p - (j + 1))).take c then [⟨.bk c (j + 1), c, 2⟩] else []) := by
  unfold bkJ
  rw [List.range_succ, List.filter_append, List.map_append]
  congr 1
  by_cases h : (W.drop p).take c = (W.drop (p - (j + 1))).take c
  · rw [if_pos h, List.filter_cons_of_pos (by simpa using h)]
    rfl
  · rw [if_neg h, List.filter_cons_of_neg (by simpa using h)]
    rfl
theorem bkJ_len (W : List Nat) (p c j : Nat) : (bkJ W p c j).length ≤ j := by
  unfold bkJ
  rw [List.length_map]
  exact Nat.le_trans (List.length_filter_le _ _) (by rw [List.length_range]; exact Nat.le_refl _)
def rnJ (W : List Nat) (p j : Nat) : List Cz := ((List.range j).filter fun less => decide ((W.drop p).take (W.length - p - less) = List.replicate (W.length - p - less) (W.getD p 0))).map fun less => rnC (W.getD p 0) (W.length - p - less)
theorem rnJ_succ (W : List Nat) (p j : Nat) : rnJ W p (j + 1) = rnJ W p j ++ (if (W.drop p).take (W.length - p - j) = List.replicate (W.length - p - j) (W.getD p 0) then [rnC (W.getD p 0) (W.length - p - j)] else []) := by
  unfold rnJ
  rw [List.range_succ, List.filter_append, List.map_append]
  congr 1
  by_cases h : (W.drop p).take (W.length - p - j) = List.replicate (W.length - p - j) (W.getD p 0)
  · rw [if_pos h, List.filter_cons_of_pos (by simpa using h)]
    rfl
  · rw [if_neg h, List.filter_cons_of_neg (by simpa using h)]
    rfl
theorem rnJ_len (W : List Nat) (p j : Nat) : (rnJ W p j).length ≤ j := by
  unfold rnJ
  rw [List.length_map]
  exact Nat.le_trans (List.length_filter_le _ _) (by rw [List.length_range]; exact Nat.le_refl _)
theorem flat_le {β : Type} (g : Nat → List β) (m : Nat) (h : ∀ i, (g i).length ≤ m) : ∀ n, ((List.range n).flatMap g).length ≤ n * m
  | 0 => Nat.zero_le _
  | n + 1 => by
    rw [take_flatR, List.length_append, Nat.succ_mul]
    have := flat_le g m h n
    have := h n
    omega
def spChoices (K : PySem.W.Frag) : Sp := fun vs H Q _ => ∃ (a : Addr) (W : List Nat) (pl : Nat), vs = [.ref a, .int (pl : Int)] ∧ H a = some (.lst (intV W)) ∧ pl < W.length ∧ W.length ≤ 200 ∧ ∀ H' l xs, Same H H' → H' l = some (.lst xs) → LsK (ChZ K noS) H' xs (bks W pl ++ rns W pl ++ ptz W pl) → Q (.ref l) H'
section
variable {P : Program} {w : World} {K : PySem.W.Frag} {mg : Str → Option Value} {base : Heap} {A : Ads}
theorem ok_law_choices (T : Txt K mg A) : FnOk P w K mg base CX0 1 A.a_law_choices A.d_law_choices ["_law_words_here", "_law_place"] (spChoices K) := by
  refine T.F_law_choices.ok sc_law_choices (fun vs H Q E h => ?_) (fun cdv B outer s H vs Q F hr h => ?_)
  · obtain ⟨a, W, pl, rfl, _⟩ := h
    rfl
  · obtain ⟨a, W, pl, rfl, ha, hpl, hWl, q⟩ := h
    refine ⟨_, (pss_cons (ps_set (i := 2) sc_law_choices.nd rfl (.inl rfl) (pe_lst pa_nil))
    (pss_cons (ps_set (i := 3) sc_law_choices.nd rfl (.inl rfl) (pe_op op_sub (pe_callB len_seq (by rfl) T.n_len (by decide +kernel) (pa_cons (pv 0) pa_nil)) (pv 1)))
    (pss_cons (ps_for PassesOwn.never rfl (pi_range1 (by rfl) T.n_range (pa_cons (pv 3) pa_nil)) (pg_name (i := 4) sc_law_choices.nd rfl (.inl rfl))
      (pss_cons (ps_set (i := 5) sc_law_choices.nd rfl (.inl rfl) (pe_op op_sub (pv 3) (pv 4)))
    (pss_one (ps_for PassesOwn.never rfl (pi_range2 (by rfl) T.n_range (pa_cons pe_int (pa_cons (pe_op op_add (pv 1) pe_int) pa_nil))) (pg_name (i := 6) sc_law_choices.nd rfl (.inl rfl))
      (pss_one (ps_if (pt_cmpR (op_eqD hr.units) (pe_slice sl_list (pv 0) (po_some (pv 1)) (po_some (pe_op op_add (pv 1) (pv 5)))) (pe_slice sl_list (pv 0) (po_some (pe_op op_sub (pv 1) (pv 6))) (po_some (pe_op op_add (pe_op op_sub (pv 1) (pv 6)) (pv 5)))) (nomark _)) (pss_one (ps_expr (pe_bm PySem.F.plainAttrs_list PySem.F.slot_list_append PySem.F.type_list_append mt_append (pv 2) (pa_cons (pe_tup (pa_cons (pe_lst (pa_cons (pe_op op_add pe_int (pv 5)) (pa_cons (pv 6) pa_nil))) (pa_cons (pv 5) (pa_cons (pe_tup (pa_cons pe_str (pa_cons (pv 5) (pa_cons (pv 6) pa_nil)))) pa_nil)))) pa_nil)))) pss_nil))))))
    (pss_cons (ps_for PassesOwn.never rfl (pi_range1 (by rfl) T.n_range (pa_cons (pv 3) pa_nil)) (pg_name (i := 4) sc_law_choices.nd rfl (.inl rfl))
      (pss_cons (ps_set (i := 5) sc_law_choices.nd rfl (.inl rfl) (pe_op op_sub (pv 3) (pv 4)))
    (pss_one (ps_if (pt_cmpR (op_eqD hr.units) (pe_slice sl_list (pv 0) (po_some (pv 1)) (po_some (pe_op op_add (pv 1) (pv 5)))) (pe_lc (own := [("_law_k", 7)]) rfl sc_law_choices.nd (pi_range1 (by rfl) T.n_range (pa_cons (pv 5) pa_nil)) (blkOk_by (own := [("_law_k", 7)]) (N := N_law_choices) (sc := defScope s_law_choices) (by decide +kernel)) (fun _ _ _ _ _ => pg_name (i := 7) sc_law_choices.nd rfl (Or.inl rfl)) (fun _ _ _ _ _ => pts_nil) (fun _ _ _ _ _ => by exact (pe_ix (r := rIxL K) ix_list (pv 0) (pv 1) (fun _ _ => rfl)))) (nomark _)) (pss_one (ps_expr (pe_bm PySem.F.plainAttrs_list PySem.F.slot_list_append PySem.F.type_list_append mt_append (pv 2) (pa_cons (pe_tup (pa_cons (pe_lst (pa_cons (pe_op op_add pe_int (pv 5)) (pa_cons (pe_ix ix_list (pv 0) (pv 1) (fun _ _ => rfl)) pa_nil))) (pa_cons (pv 5) (pa_cons (pe_tup (pa_cons pe_str (pa_cons (pv 5) (pa_cons (pe_ix ix_list (pv 0) (pv 1) (fun _ _ => rfl)) pa_nil)))) pa_nil)))) pa_nil)))) pss_nil))))
    (pss_cons (ps_for PassesOwn.never rfl (pi_range1 (by rfl) T.n_range (pa_cons (pv 3) pa_nil)) (pg_name (i := 4) sc_law_choices.nd rfl (.inl rfl))
      (pss_cons (ps_set (i := 5) sc_law_choices.nd rfl (.inl rfl) (pe_op op_sub (pv 3) (pv 4)))
    (pss_cons (ps_set (i := 8) sc_law_choices.nd rfl (.inl rfl) (pe_tup (pa_cons pe_str (pa_cons (pe_callTy tuple_of (by rfl) T.n_tuple (by decide +kernel) (pa_cons (pe_slice sl_list (pv 0) (po_some (pv 1)) (po_some (pe_op op_add (pv 1) (pv 5)))) pa_nil)) pa_nil))))
    (pss_one (ps_expr (pe_bm PySem.F.plainAttrs_list PySem.F.slot_list_append PySem.F.type_list_append mt_append (pv 2) (pa_cons (pe_tup (pa_cons (pe_op op_cat (pe_lst (pa_cons (pv 5) pa_nil)) (pe_slice sl_list (pv 0) (po_some (pv 1)) (po_some (pe_op op_add (pv 1) (pv 5))))) (pa_cons (pv 5) (pa_cons (pv 8) pa_nil)))) pa_nil)))))))
    (pss_one (ps_ret (pv 2)))))))), ?_⟩
    have hiw := intV_len W
    refine ⟨lenOk (n := 0) rfl (by decide), fun D hD => ?_⟩
    have s1 := same_new (o := .lst []) hD
    have e1 : upd H D (.lst []) D = some (.lst []) := upd_same
    have nDa : a ≠ D := ne_of_none ha hD
    generalize upd H D (.lst []) = H1 at s1 e1 ⊢
    have nD2 : H D = none := hD
    refine ⟨_, rfl, a, _, rfl, .inl (SqL.of (s1 _ _ ha)), _, rfl, _, _, rfl, rfl, ?_⟩
    dsimp (config := { proj := false }) only
    rw [hiw, show (W.length : Int) - (pl : Int) = ((W.length - pl : Nat) : Int) by omega]
    obtain ⟨n, hn⟩ : ∃ n, n = W.length - pl := ⟨_, rfl⟩
    rw [← hn]
    refine ⟨_, rfl, (n : Int), rfl, by omega, by omega, ?_⟩
    rw [Int.toNat_natCast]
    have o0 : ∀ {G G' : Hp}, Same G G' → Out (inS noS D) G G' := fun h => Out.of h
    have app : ∀ (G : Hp) (acc : List V) (L : List Cz) (r : Addr) (ch : Cz), G D = some (.lst acc) → LsK (ChZ K (inS noS D)) G acc L → ChZ K (inS noS D) G r ch → LsK (ChZ K (inS noS D)) (upd G D (.lst (acc ++ [V.ref r]))) (acc ++ [V.ref r]) (L ++ [ch]) := fun G acc L r ch eD hk hc => by
      have o : Out (inS noS D) G (upd G D (.lst (acc ++ [V.ref r]))) := (Out.refl _ _).put (.inr rfl)
      exact (hk.up fun p a h => h.up o).snoc (hc.up o)
    have hbn : bks W pl = (List.range n).flatMap fun less => bkL W pl (n - less) := by rw [hn]; rfl
    have hrn : rns W pl = rnJ W pl n := by rw [hn]; rfl
    have hpn : ptz W pl = (List.range n).map fun less => ptC (W.drop pl) (n - less) := by rw [hn]; rfl
    have hWp : W.getD pl 0 = W.getD pl 0 := rfl
    have hatp : atI (intV W) (pl : Int) = some (.int ((W.getD pl 0 : Nat) : Int)) := atI_nat (intV_at hpl)
    refine for_it (walk_range (lo := 0) (n := n)) (fun i σ Hc => ∃ (o4 o5 o6 o7 o8 : Option V) (acc : List V), σ = [some (.ref a), some (.int (pl : Int)), some (.ref D), some (.int (n : Int)), o4, o5, o6, o7, o8] ∧ Same H Hc ∧ Hc D = some (.lst acc) ∧ LsK (ChZ K (inS noS D)) Hc acc ((List.range i).flatMap fun less => bkL W pl (n - less)))
      ⟨_, _, _, _, _, [], rfl, s1, e1, LsK.nil⟩ (fun _ _ _ _ _ => trivial) (fun i x σ Hc Hd hi y e => ?_) (fun σ Hc y => ?_)
    · obtain ⟨rfl, ex⟩ := e
      have ex : x = .int (i : Int) := by rw [ex]; exact congrArg V.int (by omega)
      subst ex
      obtain ⟨o4, o5, o6, o7, o8, acc, rfl, sm, eD, hk⟩ := y
      rw [take_flatR]
      have hpre : ((List.range i).flatMap fun less => bkL W pl (n - less)).length ≤ i * 201 := flat_le _ _ (fun k => Nat.le_trans (bkJ_len W pl (n - k) pl) (by omega)) i
      have hi200 : i * 201 ≤ 200 * 201 := Nat.mul_le_mul_right _ (by omega)
      have hcL : bkL W pl (n - i) = bkJ W pl (n - i) pl := rfl
      rw [hcL]
      generalize (List.range i).flatMap (fun less => bkL W pl (n - less)) = pre at *
      refine ⟨_, rfl, _, rfl, _, _, rfl, rfl, ?_⟩
      dsimp (config := { proj := false }) only
      rw [show (n : Int) - (i : Int) = ((n - i : Nat) : Int) by omega]
      obtain ⟨c, hc⟩ : ∃ c, c = n - i := ⟨_, rfl⟩
      rw [← hc]
      refine ⟨_, rfl, _, _, rfl, rfl, 1, (pl : Int) + 1, rfl, ⟨by decide, by decide, by omega, by omega⟩, ?_⟩
      rw [show ((pl : Int) + 1 - 1).toNat = pl by omega]
      refine for_it (walk_range (lo := 1) (n := pl)) (fun j σ Hc => ∃ (o6 : Option V) (acc : List V), σ = [some (.ref a), some (.int (pl : Int)), some (.ref D), some (.int (n : Int)), some (.int (i : Int)), some (.int (c : Int)), o6, o7, o8] ∧ Same H Hc ∧ Hc D = some (.lst acc) ∧ LsK (ChZ K (inS noS D)) Hc acc (pre ++ bkJ W pl c j))
        ⟨_, acc, rfl, sm, eD, by rw [show bkJ W pl c 0 = [] from rfl, List.append_nil]; exact hk⟩ (fun _ _ _ _ _ => trivial) (fun j x σ Hc He hj y e => ?_) (fun σ Hc y => ?_)
      · obtain ⟨rfl, ex⟩ := e
        have ex : x = .int ((j + 1 : Nat) : Int) := by rw [ex]; exact congrArg V.int (by omega)
        subst ex
        obtain ⟨o6, acc, rfl, smj, eDj, hkj⟩ := y
        rw [bkJ_succ, ← List.append_assoc]
        have hjl := bkJ_len W pl c j
        have hacl : acc.length ≤ 900000 := by rw [hkj.1, List.length_append]; omega
        generalize pre ++ bkJ W pl c j = L at *
        have haj := smj _ _ ha
        obtain ⟨d, hd⟩ : ∃ d, d = j + 1 := ⟨_, rfl⟩
        rw [← hd]
        refine ⟨_, rfl, _, rfl, _, rfl, _, rfl, _, rfl, _, _, rfl, rfl, _, rfl, a, _, rfl, SqL.of haj, fun l1 h1 => ?_⟩
        dsimp (config := { proj := false }) only
        rw [show (pl : Int) + (c : Int) = ((pl + c : Nat) : Int) by omega, cutV_any, show pl + c - pl = c by omega]
        have st1 := same_new (o := .lst (intV ((W.drop pl).take c))) h1
        have el1 : upd He l1 (.lst (intV ((W.drop pl).take c))) l1 = some (.lst (intV ((W.drop pl).take c))) := upd_same
        generalize upd He l1 (.lst (intV ((W.drop pl).take c))) = G1 at st1 el1 ⊢
        refine ⟨_, rfl, _, rfl, _, rfl, _, _, rfl, rfl, _, rfl, _, rfl, _, rfl, _, _, rfl, rfl, _, rfl, _, _, rfl, rfl, _, rfl, a, _, rfl, SqL.of (st1 _ _ haj), fun l2 h2 => ?_⟩
        dsimp (config := { proj := false }) only
        rw [show (pl : Int) - (d : Int) = ((pl - d : Nat) : Int) by omega, show ((pl - d : Nat) : Int) + (c : Int) = ((pl - d + c : Nat) : Int) by omega, cutV_any, show pl - d + c - (pl - d) = c by omega]
        have st2 := same_new (o := .lst (intV ((W.drop (pl - d)).take c))) h2
        have el2 : upd G1 l2 (.lst (intV ((W.drop (pl - d)).take c))) l2 = some (.lst (intV ((W.drop (pl - d)).take c))) := upd_same
        generalize upd G1 l2 (.lst (intV ((W.drop (pl - d)).take c))) = G2 at st2 el2 ⊢
        have st := st1.trans st2
        refine ⟨_, _, dp_nats (st2 _ _ el1), dp_nats el2, shaped_nats _, shaped_nats _, ?_⟩
        rw [show PyData.eqv (.list (natD ((W.drop pl).take c))) (.list (natD ((W.drop (pl - d)).take c))) = PyData.eqvAll (natD ((W.drop pl).take c)) (natD ((W.drop (pl - d)).take c)) from rfl, eqv_nats]
        have eD2 := st _ _ eDj
        have hk2 := hkj.up fun p a h => h.up (o0 st)
        by_cases hcc : (W.drop pl).take c = (W.drop (pl - d)).take c
        · rw [if_pos hcc]
          refine ⟨_, rfl, ifT (decide_eq_true hcc) ?_⟩
          refine ⟨_, rfl, .inl ⟨rfl, _, SqL.of eD2⟩, _, rfl, _, _, rfl, rfl, _, rfl, lenOk (n := 2) rfl (by decide), fun q0 hq0 => ?_⟩
          dsimp (config := { proj := false }) only
          have s3 := same_new (o := .lst [V.int (32768 + (c : Int)), V.int (d : Int)]) hq0
          have e3 : upd G2 q0 (.lst [V.int (32768 + (c : Int)), V.int (d : Int)]) q0 = some (.lst (intV [32768 + c, d])) := by
            rw [upd_same]
            show _ = some (HO.lst [V.int ((32768 + c : Nat) : Int), V.int (d : Int)])
            rw [Int.natCast_add]
            rfl
          generalize upd G2 q0 (.lst [V.int (32768 + (c : Int)), V.int (d : Int)]) = G2' at s3 e3 ⊢
          have eD2' := s3 _ _ eD2
          have nq0 : D ≠ q0 := ne_of_none eD2 hq0
          refine ⟨_, rfl, _, rfl, _, rfl, lenOk (n := 3) rfl (by decide), fun q1 hq1 => ?_⟩
          have s4 := same_new (o := .tup [V.str (Str.ofString "back"), V.int (c : Int), V.int (d : Int)]) hq1
          have e4 : upd G2' q1 (.tup [V.str (Str.ofString "back"), V.int (c : Int), V.int (d : Int)]) q1 = some (.tup [V.str sBack, V.int (c : Int), V.int (d : Int)]) := upd_same
          have nq1 : D ≠ q1 := ne_of_none eD2' hq1
          generalize upd G2' q1 (.tup [V.str (Str.ofString "back"), V.int (c : Int), V.int (d : Int)]) = G3 at s4 e4 ⊢
          refine ⟨lenOk (n := 3) rfl (by decide), fun q2 hq2 => ?_⟩
          have s5 := same_new (o := .tup [V.ref q0, V.int (c : Int), V.ref q1]) hq2
          have e5 : upd G3 q2 (.tup [V.ref q0, V.int (c : Int), V.ref q1]) q2 = some (.tup [V.ref q0, V.int (c : Int), V.ref q1]) := upd_same
          have eD3 := s4 _ _ eD2'
          have nq2 : D ≠ q2 := ne_of_none eD3 hq2
          generalize upd G3 q2 (.tup [V.ref q0, V.int (c : Int), V.ref q1]) = G4 at s5 e5 ⊢
          have eD4 := s5 _ _ eD3
          refine ⟨D, _, _, rfl, rfl, eD4, lt_line (by omega), ?_⟩
          refine ⟨_, _, rfl, same_mut (smj.trans (st.trans (s3.trans (s4.trans s5)))) hD, upd_same, ?_⟩
          refine app G4 acc L q2 ⟨.bk c d, c, 2⟩ eD4 (hk2.up fun p a h => h.up (o0 (s3.trans (s4.trans s5)))) ⟨q0, q1, fun z => z.elim (fun z => z) fun z => nq2 z.symm, e5, fun z => z.elim (fun z => z) fun z => nq0 z.symm, s5 _ _ (s4 _ _ e3), ?_⟩
          exact mk_three (s5 _ _ e4) fun z => z.elim (fun z => z) fun z => nq1 z.symm
        · rw [if_neg hcc, List.append_nil]
          refine ⟨_, rfl, ifF (decide_eq_false hcc) ?_⟩
          exact ⟨_, acc, rfl, smj.trans st, eD2, hk2⟩
      · obtain ⟨o6, acc, rfl, smj, eDj, hkj⟩ := y
        exact ⟨_, _, _, _, _, acc, rfl, smj, eDj, hkj⟩
    obtain ⟨o4, o5, o6, o7, o8, acc, rfl, sm, eD, hk⟩ := y
    rw [← hbn] at hk
    have hcl : (bks W pl).length ≤ 50000 := by
      rw [hbn]
      refine Nat.le_trans (flat_le _ 201 (fun k => Nat.le_trans (bkJ_len W pl (n - k) pl) (by omega)) n) ?_
      exact Nat.le_trans (Nat.mul_le_mul_right _ (show n ≤ 200 by omega)) (by decide)
    refine ⟨_, rfl, (n : Int), rfl, by omega, by omega, ?_⟩
    rw [Int.toNat_natCast]
    refine for_it (walk_range (lo := 0) (n := n)) (fun i σ Hc => ∃ (o4 o5 o6 o7 o8 : Option V) (acc : List V), σ = [some (.ref a), some (.int (pl : Int)), some (.ref D), some (.int (n : Int)), o4, o5, o6, o7, o8] ∧ Same H Hc ∧ Hc D = some (.lst acc) ∧ LsK (ChZ K (inS noS D)) Hc acc (bks W pl ++ rnJ W pl i))
      ⟨_, _, _, _, _, acc, rfl, sm, eD, by rw [show rnJ W pl 0 = [] from rfl, List.append_nil]; exact hk⟩ (fun _ _ _ _ _ => trivial) (fun i x σ Hc Hd hi y e => ?_) (fun σ Hc y => ?_)
    · obtain ⟨rfl, ex⟩ := e
      have ex : x = .int (i : Int) := by rw [ex]; exact congrArg V.int (by omega)
      subst ex
      obtain ⟨o4, o5, o6, o7, o8, acc, rfl, sm, eD, hk⟩ := y
      rw [rnJ_succ, ← List.append_assoc, ← hn]
      have hrl := rnJ_len W pl i
      have hacl : acc.length ≤ 900000 := by rw [hk.1, List.length_append]; omega
      generalize bks W pl ++ rnJ W pl i = L at *
      have hac := sm _ _ ha
      refine ⟨_, rfl, _, rfl, _, _, rfl, rfl, ?_⟩
      dsimp (config := { proj := false }) only
      rw [show (n : Int) - (i : Int) = ((n - i : Nat) : Int) by omega]
      obtain ⟨c, hc⟩ : ∃ c, c = n - i := ⟨_, rfl⟩
      rw [← hc]
      generalize W.getD pl 0 = xx at *
      refine ⟨_, rfl, _, rfl, _, rfl, _, rfl, _, rfl, _, _, rfl, rfl, _, rfl, a, _, rfl, SqL.of hac, fun l1 h1 => ?_⟩
      dsimp (config := { proj := false }) only
      rw [show (pl : Int) + (c : Int) = ((pl + c : Nat) : Int) by omega, cutV_any, show pl + c - pl = c by omega]
      have st1 := same_new (o := .lst (intV ((W.drop pl).take c))) h1
      have el1 : upd Hd l1 (.lst (intV ((W.drop pl).take c))) l1 = some (.lst (intV ((W.drop pl).take c))) := upd_same
      generalize upd Hd l1 (.lst (intV ((W.drop pl).take c))) = G1 at st1 el1 ⊢
      refine ⟨_, rfl, (c : Int), rfl, by omega, by omega, fun D3 hD3 => ?_⟩
      rw [Int.toNat_natCast]
      refine lc_vals (walk_range (lo := 0) (n := c)) (fun i v => True) (fun i => .int (xx : Int)) hD3 (fun _ _ => trivial) (by omega) (fun i H1 v H2 hi y => ⟨y.1, trivial⟩) (fun i v H4 hi sm4 hv Q q => ?_) (fun G2 s8 e8 => ?_)
      · exact ⟨_, rfl, _, rfl, a, _, _, _, rfl, rfl, SqL.of (sm4 _ _ (st1 _ _ hac)), hatp, q _ (Same.refl _)⟩
      have el2 : G2 D3 = some (.lst (intV (List.replicate c xx))) := by
        rw [e8]
        unfold intV
        rw [List.map_replicate, List.map_const', List.length_range]
      have st := st1.trans s8
      refine ⟨_, _, dp_nats (s8 _ _ el1), dp_nats el2, shaped_nats _, shaped_nats _, ?_⟩
      rw [show PyData.eqv (.list (natD ((W.drop pl).take c))) (.list (natD (List.replicate c xx))) = PyData.eqvAll (natD ((W.drop pl).take c)) (natD (List.replicate c xx)) from rfl, eqv_nats]
      have eD2 := st _ _ eD
      have hk2 := hk.up fun p a h => h.up (o0 st)
      have hac2 := st _ _ hac
      by_cases hcc : (W.drop pl).take c = List.replicate c xx
      · rw [if_pos hcc]
        refine ⟨_, rfl, ifT (decide_eq_true hcc) ?_⟩
        refine ⟨_, rfl, .inl ⟨rfl, _, SqL.of eD2⟩, _, rfl, _, _, rfl, rfl, _, rfl, _, rfl, a, _, _, _, rfl, rfl, SqL.of hac2, hatp, lenOk (n := 2) rfl (by decide), fun q0 hq0 => ?_⟩
        dsimp (config := { proj := false }) only
        have s3 := same_new (o := .lst [V.int (16384 + (c : Int)), V.int (xx : Int)]) hq0
        have e3 : upd G2 q0 (.lst [V.int (16384 + (c : Int)), V.int (xx : Int)]) q0 = some (.lst (intV [16384 + c, xx])) := by
          rw [upd_same]
          show _ = some (HO.lst [V.int ((16384 + c : Nat) : Int), V.int (xx : Int)])
          rw [Int.natCast_add]
          rfl
        generalize upd G2 q0 (.lst [V.int (16384 + (c : Int)), V.int (xx : Int)]) = G2' at s3 e3 ⊢
        have eD2' := s3 _ _ eD2
        have nq0 : D ≠ q0 := ne_of_none eD2 hq0
        refine ⟨_, rfl, _, rfl, _, rfl, _, rfl, a, _, _, _, rfl, rfl, SqL.of (s3 _ _ hac2), hatp, lenOk (n := 3) rfl (by decide), fun q1 hq1 => ?_⟩
        have s4 := same_new (o := .tup [V.str (Str.ofString "run"), V.int (c : Int), V.int (xx : Int)]) hq1
        have e4 : upd G2' q1 (.tup [V.str (Str.ofString "run"), V.int (c : Int), V.int (xx : Int)]) q1 = some (.tup [V.str sRun, V.int (c : Int), V.int (xx : Int)]) := upd_same
        have nq1 : D ≠ q1 := ne_of_none eD2' hq1
        generalize upd G2' q1 (.tup [V.str (Str.ofString "run"), V.int (c : Int), V.int (xx : Int)]) = G3 at s4 e4 ⊢
        refine ⟨lenOk (n := 3) rfl (by decide), fun q2 hq2 => ?_⟩
        have s5 := same_new (o := .tup [V.ref q0, V.int (c : Int), V.ref q1]) hq2
        have e5 : upd G3 q2 (.tup [V.ref q0, V.int (c : Int), V.ref q1]) q2 = some (.tup [V.ref q0, V.int (c : Int), V.ref q1]) := upd_same
        have eD3 := s4 _ _ eD2'
        have nq2 : D ≠ q2 := ne_of_none eD3 hq2
        generalize upd G3 q2 (.tup [V.ref q0, V.int (c : Int), V.ref q1]) = G4 at s5 e5 ⊢
        have eD4 := s5 _ _ eD3
        refine ⟨D, _, _, rfl, rfl, eD4, lt_line (by omega), ?_⟩
        refine ⟨_, _, _, _, _, _, rfl, same_mut (sm.trans (st.trans (s3.trans (s4.trans s5)))) hD, upd_same, ?_⟩
        refine app G4 acc L q2 (rnC xx c) eD4 (hk2.up fun p a h => h.up (o0 (s3.trans (s4.trans s5)))) ⟨q0, q1, fun z => z.elim (fun z => z) fun z => nq2 z.symm, e5, fun z => z.elim (fun z => z) fun z => nq0 z.symm, s5 _ _ (s4 _ _ e3), ?_⟩
        exact mk_three (s5 _ _ e4) fun z => z.elim (fun z => z) fun z => nq1 z.symm
      · rw [if_neg hcc, List.append_nil]
        refine ⟨_, rfl, ifF (decide_eq_false hcc) ?_⟩
        exact ⟨_, _, _, _, _, acc, rfl, sm.trans st, eD2, hk2⟩
    obtain ⟨o4, o5, o6, o7, o8, acc, rfl, sm, eD, hk⟩ := y
    rw [← hrn] at hk
    have hrl : (rns W pl).length ≤ n := by rw [hrn]; exact rnJ_len _ _ _
    have hBL : (bks W pl ++ rns W pl).length ≤ 60000 := by rw [List.length_append]; omega
    rw [hpn] at q
    generalize bks W pl ++ rns W pl = BL at *
    refine ⟨_, rfl, (n : Int), rfl, by omega, by omega, ?_⟩
    rw [Int.toNat_natCast]
    refine for_it (walk_range (lo := 0) (n := n)) (fun i σ Hc => ∃ (o4 o5 o6 o7 o8 : Option V) (acc : List V), σ = [some (.ref a), some (.int (pl : Int)), some (.ref D), some (.int (n : Int)), o4, o5, o6, o7, o8] ∧ Same H Hc ∧ Hc D = some (.lst acc) ∧ LsK (ChZ K (inS noS D)) Hc acc (BL ++ (List.range i).map fun less => ptC (W.drop pl) (n - less)))
      ⟨_, _, _, _, _, acc, rfl, sm, eD, by rw [List.range_zero, List.map_nil, List.append_nil]; exact hk⟩ (fun _ _ _ _ _ => trivial) (fun i x σ Hc Hd hi y e => ?_) (fun σ Hc y => ?_)
    · obtain ⟨rfl, ex⟩ := e
      have ex : x = .int (i : Int) := by rw [ex]; exact congrArg V.int (by omega)
      subst ex
      obtain ⟨o4, o5, o6, o7, o8, acc, rfl, sm, eD, hk⟩ := y
      rw [List.range_succ, List.map_append, ← List.append_assoc]
      have hacl : acc.length ≤ 900000 := by rw [hk.1, List.length_append, List.length_map, List.length_range]; omega
      generalize BL ++ (List.range i).map (fun less => ptC (W.drop pl) (n - less)) = L at *
      have hac := sm _ _ ha
      refine ⟨_, rfl, _, rfl, _, _, rfl, rfl, ?_⟩
      dsimp (config := { proj := false }) only
      rw [show (n : Int) - (i : Int) = ((n - i : Nat) : Int) by omega]
      obtain ⟨c, hc⟩ : ∃ c, c = n - i := ⟨_, rfl⟩
      have hm : ([i].map fun less => ptC (W.drop pl) (n - less)) = [ptC (W.drop pl) c] := by rw [hc]; rfl
      have hcl : ((W.drop pl).take c).length = c := by rw [List.length_take, List.length_drop]; omega
      rw [hm, ← hc]
      refine ⟨_, rfl, _, rfl, _, rfl, _, rfl, _, rfl, _, _, rfl, rfl, _, rfl, a, _, rfl, SqL.of hac, fun l1 h1 => ?_⟩
      dsimp (config := { proj := false }) only
      rw [show (pl : Int) + (c : Int) = ((pl + c : Nat) : Int) by omega, cutV_any, show pl + c - pl = c by omega]
      have st1 := same_new (o := .lst (intV ((W.drop pl).take c))) h1
      have el1 : upd Hd l1 (.lst (intV ((W.drop pl).take c))) l1 = some (.lst (intV ((W.drop pl).take c))) := upd_same
      generalize upd Hd l1 (.lst (intV ((W.drop pl).take c))) = G1 at st1 el1 ⊢
      refine ⟨l1, _, rfl, .inl ⟨SqL.of el1, fun t1 ht1 => ?_⟩⟩
      have st2 := same_new (o := .tup (intV ((W.drop pl).take c))) ht1
      have et1 : upd G1 t1 (.tup (intV ((W.drop pl).take c))) t1 = some (.tup (intV ((W.drop pl).take c))) := upd_same
      have nt1 : D ≠ t1 := ne_of_none (st1 _ _ eD) ht1
      generalize upd G1 t1 (.tup (intV ((W.drop pl).take c))) = G2 at st2 et1 ⊢
      have eD2 := st2 _ _ (st1 _ _ eD)
      have hac2 := st2 _ _ (st1 _ _ hac)
      refine ⟨lenOk (n := 2) rfl (by decide), fun q1 hq1 => ?_⟩
      have s4 := same_new (o := .tup [V.str (Str.ofString "put"), V.ref t1]) hq1
      have e4 : upd G2 q1 (.tup [V.str (Str.ofString "put"), V.ref t1]) q1 = some (.tup [V.str sPut, V.ref t1]) := upd_same
      have nq1 : D ≠ q1 := ne_of_none eD2 hq1
      generalize upd G2 q1 (.tup [V.str (Str.ofString "put"), V.ref t1]) = G3 at s4 e4 ⊢
      have eD3 := s4 _ _ eD2
      have hac3 := s4 _ _ hac2
      refine ⟨_, rfl, .inl ⟨rfl, _, SqL.of eD3⟩, _, rfl, lenOk (n := 1) rfl (by decide), fun y1 hy1 => ?_⟩
      have s5 := same_new (o := .lst [V.int (c : Int)]) hy1
      have e5 : upd G3 y1 (.lst [V.int (c : Int)]) y1 = some (.lst [V.int (c : Int)]) := upd_same
      generalize upd G3 y1 (.lst [V.int (c : Int)]) = G4 at s5 e5 ⊢
      refine ⟨_, rfl, _, rfl, _, rfl, _, rfl, _, rfl, _, _, rfl, rfl, _, rfl, a, _, rfl, SqL.of (s5 _ _ hac3), fun l2 h2 => ?_⟩
      dsimp (config := { proj := false }) only
      rw [show (pl : Int) + (c : Int) = ((pl + c : Nat) : Int) by omega, cutV_any, show pl + c - pl = c by omega]
      have s6 := same_new (o := .lst (intV ((W.drop pl).take c))) h2
      have el2 : upd G4 l2 (.lst (intV ((W.drop pl).take c))) l2 = some (.lst (intV ((W.drop pl).take c))) := upd_same
      generalize upd G4 l2 (.lst (intV ((W.drop pl).take c))) = G5 at s6 el2 ⊢
      refine ⟨y1, l2, _, _, rfl, rfl, s6 _ _ e5, el2, le_line (by rw [intV_len, hcl]; show 1 + c ≤ _; omega), fun q0 hq0 => ?_⟩
      have s7 := same_new (o := .lst ([V.int (c : Int)] ++ intV ((W.drop pl).take c))) hq0
      have e7 : upd G5 q0 (.lst ([V.int (c : Int)] ++ intV ((W.drop pl).take c))) q0 = some (.lst (intV (Pz.pt ((W.drop pl).take c)).own)) := by
        rw [upd_same]
        show _ = some (HO.lst (V.int ((((W.drop pl).take c).length : Nat) : Int) :: intV ((W.drop pl).take c)))
        rw [hcl]
        rfl
      have eD5 := s6 _ _ (s5 _ _ eD3)
      have nq0 : D ≠ q0 := ne_of_none eD5 hq0
      generalize upd G5 q0 (.lst ([V.int (c : Int)] ++ intV ((W.drop pl).take c))) = G6 at s7 e7 ⊢
      refine ⟨_, rfl, _, rfl, lenOk (n := 3) rfl (by decide), fun q2 hq2 => ?_⟩
      have s8 := same_new (o := .tup [V.ref q0, V.int (c : Int), V.ref q1]) hq2
      have e8 : upd G6 q2 (.tup [V.ref q0, V.int (c : Int), V.ref q1]) q2 = some (.tup [V.ref q0, V.int (c : Int), V.ref q1]) := upd_same
      have eD6 := s7 _ _ eD5
      have nq2 : D ≠ q2 := ne_of_none eD6 hq2
      generalize upd G6 q2 (.tup [V.ref q0, V.int (c : Int), V.ref q1]) = G7 at s8 e8 ⊢
      have eD7 := s8 _ _ eD6
      refine ⟨D, _, _, rfl, rfl, eD7, lt_line (by omega), ?_⟩
      have s48 := s5.trans (s6.trans (s7.trans s8))
      have sA := st1.trans (st2.trans (s4.trans s48))
      refine ⟨_, _, _, _, _, _, rfl, same_mut (sm.trans sA) hD, upd_same, ?_⟩
      refine app G7 acc L q2 (ptC (W.drop pl) c) eD7 (hk.up fun p a h => h.up (o0 sA)) ⟨q0, q1, fun z => z.elim (fun z => z) fun z => nq2 z.symm, e8, fun z => z.elim (fun z => z) fun z => nq0 z.symm, s8 _ _ e7, ?_⟩
      exact mk_ptz (s48 _ _ e4) (fun z => z.elim (fun z => z) fun z => nq1 z.symm) (XT.of (s48 _ _ (s4 _ _ et1)) fun z => z.elim (fun z => z) fun z => nt1 z.symm)
    · obtain ⟨o4, o5, o6, o7, o8, acc, rfl, sm, eD, hk⟩ := y
      exact ⟨_, rfl, q _ D acc sm eD ⟨hk.1, fun k a ha => let ⟨p, e, f⟩ := hk.2 k a ha; ⟨p, e, f.less⟩⟩⟩
end
end R1

namespace R1
open PySem PySem.Spec PyProof.Rows L2 RK DL SZ
local macro_rules | `(tactic| walk_at "sq") => `(tactic| first
  | exact SqL.of upd_same | exact upd_same | exact SqL.of (by assumption) | exact SqL.of (by rw [upd_ne (by assumption)]; assumption) | assumption)
local macro_rules | `(tactic| walk_at "sd") => `(tactic| first
  | assumption | omega | (refine Or.inl ⟨?_, ?_⟩ <;> omega) | (show _ ∧ _; constructor <;> omega) | (show _ ≠ _; simp; omega) | (exact Or.inl ⟨by decide, by decide⟩) | (exact Or.inr ⟨by decide, by decide⟩) | (show _ < _; decide) | (show _ ≤ _; decide))
local macro_rules | `(tactic| walk_at "at") => `(tactic| first | rfl | (refine atI_intV ?_ ?_ <;> omega) | assumption)
local macro_rules | `(tactic| walk_at "s1") => `(tactic| first
  | refine ⟨_, rfl, ?_⟩ | refine ⟨_, _, rfl, rfl, ?_⟩ | refine ⟨rfl, ?_⟩
  | refine ⟨_, _, _, _, rfl, rfl, by walk_at "sq", by walk_at "at", ?_⟩
  | refine Or.inl ⟨_, rfl, ?_⟩
  | refine ⟨_, _, rfl, Or.inl (by walk_at "sq"), ?_⟩
  | refine And.intro (by walk_at "sd") ?_)
local macro_rules | `(tactic| walk_at "s") => `(tactic| repeat walk_at "s1")

def PsZ (K : PySem.W.Frag) (H : Hp) (p : Addr) (ps : List Pz) : Prop := Dx K H noS (.ref p) (pzsD ps)
theorem PsZ.up {K : PySem.W.Frag} {H H' : Hp} (s : Same H H') {p : Addr} {ps : List Pz} (h : PsZ K H p ps) : PsZ K H' p ps := Dx.up (Out.of s) h
def FmE (H : Hp) (p : Addr) (ws : List Nat) : Prop := H p = some (.lst (intV ws))
theorem FmE.up {H H' : Hp} (s : Same H H') {p : Addr} {ws : List Nat} (h : FmE H p ws) : FmE H' p ws := s _ _ h
/-- one piece more ahead -/
theorem pz_cons {K : PySem.W.Frag} {H : Hp} {t1 q : Addr} {v : V} {pc : Pz} {ps : List Pz} {Q : VK} (e1 : H t1 = some (.tup [v])) (hv : Dx K H noS v (pzD pc)) (hq : PsZ K H q ps) (hl : ps.length ≤ 1000) (k : ∀ p H', Same H H' → PsZ K H' p (pc :: ps) → Q (.ref p) H') : rCatA K (.ref t1) (.ref q) H Q := by
  obtain ⟨a, xs, ea, h1, h2, h3⟩ := dx_pzs hq
  cases ea
  have hq' : Dx K H noS (.ref q) (pzsD ps) := hq
  cases hq' with
  | tup g1 g2 =>
    have hgl := dxAll_len g2
    rw [List.length_map] at hgl
    refine catA_of (SqT.of e1) g1.sq (by show 1 + _ ≤ _; omega) fun p H' s hp => k p H' s ?_
    refine .tup (ne_noS hp) ?_
    exact .cons (Dx.up (Out.of s) hv) (DxAll.up (Out.of s) g2)
theorem LsK.getD {α : Type} {E : Hp → Addr → α → Prop} {H : Hp} {xs : List V} {as : List α} {i : Nat} {d : α} (h : LsK E H xs as) (hi : i < as.length) : ∃ p, xs[i]? = some (.ref p) ∧ E H p (as.getD i d) := by
  obtain ⟨p, a, b⟩ := h.2 i as[i] (List.getElem?_eq_getElem hi)
  rw [List.getD_eq_getElem?_getD, List.getElem?_eq_getElem hi]
  exact ⟨p, a, b⟩
theorem take_foldG {α β : Type} (f : β → α → β) (b : β) (l : List α) (i : Nat) (h : i < l.length) : (l.take (i + 1)).foldl f b = f ((l.take i).foldl f b) l[i] := by
  rw [List.take_add_one, List.getElem?_eq_getElem h, List.foldl_append]
  rfl
theorem ch_ok {W : List Nat} {p : Nat} {ch : Cz} (hp : p < W.length) (h : ch ∈ bks W p ++ rns W p ++ ptz W p) : 1 ≤ ch.n ∧ ch.n ≤ W.length - p ∧ ch.c = ch.pc.own.length ∧ ch.pc.own.length ≤ 1 + ch.n := by
  rcases List.mem_append.mp h with h | h
  · rcases List.mem_append.mp h with h | h
    · obtain ⟨j, hj, h⟩ := List.mem_flatMap.mp h
      have hj := List.mem_range.mp hj
      obtain ⟨i, hi, rfl⟩ := List.mem_map.mp h
      show 1 ≤ W.length - p - j ∧ W.length - p - j ≤ W.length - p ∧ 2 = 2 ∧ 2 ≤ 1 + (W.length - p - j)
      omega
    · obtain ⟨j, hj, rfl⟩ := List.mem_map.mp h
      have hj := List.mem_range.mp (List.mem_filter.mp hj).1
      show 1 ≤ W.length - p - j ∧ W.length - p - j ≤ W.length - p ∧ 2 = 2 ∧ 2 ≤ 1 + (W.length - p - j)
      omega
  · obtain ⟨j, hj, rfl⟩ := List.mem_map.mp h
    have hj := List.mem_range.mp hj
    have hl : ((W.drop p).take (W.length - p - j)).length = W.length - p - j := by rw [List.length_take, List.length_drop]; omega
    show 1 ≤ W.length - p - j ∧ W.length - p - j ≤ W.length - p ∧ 1 + (W.length - p - j) = ((W.drop p).take (W.length - p - j)).length + 1 ∧ ((W.drop p).take (W.length - p - j)).length + 1 ≤ 1 + (W.length - p - j)
    omega
theorem frm_le {W : List Nat} : ∀ (m k : Nat), k ≤ m → k ≤ W.length → (frm W k).length ≤ 2 * k
  | m, 0, _, _ => Nat.le_refl _
  | 0, k + 1, h, _ => by cases h
  | m + 1, k + 1, h, hn => by
    obtain ⟨h1, h2, h3, h4⟩ := bst_ok (W := W) (k := k) (by omega)
    have := frm_le (W := W) m (k + 1 - (bst W k).n) (by omega) (by omega)
    have z := own_le (bst W k).pc (by omega)
    rw [frm_succ (by omega), List.length_append]
    omega
theorem pcz_le {W : List Nat} : ∀ (m k : Nat), k ≤ m → k ≤ W.length → (pcz W k).length ≤ k
  | m, 0, _, _ => Nat.le_refl _
  | 0, k + 1, h, _ => by cases h
  | m + 1, k + 1, h, hn => by
    obtain ⟨h1, h2, h3, h4⟩ := bst_ok (W := W) (k := k) (by omega)
    have := pcz_le (W := W) m (k + 1 - (bst W k).n) (by omega) (by omega)
    rw [pcz_succ (by omega), List.length_cons]
    omega
/-- the lists of the law's tables -/
structure Tb (K : PySem.W.Frag) (W : List Nat) (i : Nat) (H : Hp) (pr fl rl : Addr) : Prop where
  p : H pr = some (.lst (intV (RZ W i)))
  f : ∃ fs, H fl = some (.lst fs) ∧ LsK FmE H fs (FQ W i)
  r : ∃ xs, H rl = some (.lst xs) ∧ LsK (PsZ K) H xs (PQ W i)
theorem Tb.up {K : PySem.W.Frag} {W : List Nat} {i : Nat} {H H' : Hp} {pr fl rl : Addr} (s : Same H H') (h : Tb K W i H pr fl rl) : Tb K W i H' pr fl rl := by
  obtain ⟨fs, f1, f2⟩ := h.f
  obtain ⟨xs, r1, r2⟩ := h.r
  exact ⟨s _ _ h.p, ⟨fs, s _ _ f1, f2.up fun p a h => h.up s⟩, ⟨xs, s _ _ r1, r2.up fun p a h => h.up s⟩⟩
theorem Tb.get {K : PySem.W.Frag} {W : List Nat} {i n : Nat} {H : Hp} {pr fl rl : Addr} (h : Tb K W i H pr fl rl) (h1 : 1 ≤ n) (h2 : n ≤ i + 1) (hi : i ≤ W.length) : (∃ xs, H pr = some (.lst xs) ∧ atI xs ((n : Int) - 1) = some (.int (((RZ W i).getD (n - 1) 0 : Nat) : Int))) ∧ (∃ fs f, H fl = some (.lst fs) ∧ atI fs ((n : Int) - 1) = some (.ref f) ∧ H f = some (.lst (intV ((FQ W i).getD (n - 1) [])))) ∧ (∃ xs r, H rl = some (.lst xs) ∧ atI xs ((n : Int) - 1) = some (.ref r) ∧ PsZ K H r ((PQ W i).getD (n - 1) [])) ∧ ((FQ W i).getD (n - 1) []).length = (RZ W i).getD (n - 1) 0 ∧ ((FQ W i).getD (n - 1) []).length ≤ 2 * i ∧ ((PQ W i).getD (n - 1) []).length ≤ i := by
  obtain ⟨fs, f1, f2⟩ := h.f
  obtain ⟨xs, r1, r2⟩ := h.r
  have e : (n : Int) - 1 = ((n - 1 : Nat) : Int) := by omega
  rw [e]
  obtain ⟨f, f3, f4⟩ := f2.getD (i := n - 1) (d := []) (by rw [FQ_len]; omega)
  obtain ⟨r, r3, r4⟩ := r2.getD (i := n - 1) (d := []) (by rw [PQ_len]; omega)
  refine ⟨⟨_, h.p, atI_nat (intV_at (by rw [RZ_len]; omega))⟩, ⟨fs, f, f1, atI_nat f3, f4⟩, ⟨xs, r, r1, atI_nat r3, r4⟩, ?_, ?_, ?_⟩
  · rw [FQ_get W i _ (by omega), frm_len _ _ (Nat.le_refl _) (by omega), ← RG_get _ _ _ i _ (by omega)]
  · rw [FQ_get W i _ (by omega)]
    have := frm_le (W := W) _ (i - (n - 1)) (Nat.le_refl _) (by omega)
    omega
  · rw [PQ_get W i _ (by omega)]
    have := pcz_le (W := W) _ (i - (n - 1)) (Nat.le_refl _) (by omega)
    omega
/-- a row more -/
theorem Tb.cons {K : PySem.W.Frag} {W : List Nat} {i : Nat} {H : Hp} {pr fl rl pr' fl' rl' f r : Addr} {fs xs : List V} (h : Tb K W i H pr fl rl) (hi : i < W.length) (ef : H fl = some (.lst fs)) (er : H rl = some (.lst xs)) (p' : H pr' = some (.lst (intV (czC (RZ W i) (bst W i) :: RZ W i)))) (f' : H fl' = some (.lst (.ref f :: fs))) (r' : H rl' = some (.lst (.ref r :: xs)))
    (hf : H f = some (.lst (intV ((bst W i).pc.own ++ (FQ W i).getD ((bst W i).n - 1) [])))) (hr : PsZ K H r ((bst W i).pc :: (PQ W i).getD ((bst W i).n - 1) [])) : Tb K W (i + 1) H pr' fl' rl' := by
  obtain ⟨fs0, f1, f2⟩ := h.f
  obtain ⟨xs0, r1, r2⟩ := h.r
  rw [f1] at ef
  cases ef
  rw [r1] at er
  cases er
  refine ⟨?_, ⟨_, f', f2.cons hf⟩, ⟨_, r', r2.cons hr⟩⟩
  rw [RZ_succ hi]
  exact p'
/-- the best one so far -/
def BsZ (K : PySem.W.Frag) (W : List Nat) (i : Nat) (H : Hp) (vf : V) (q : Addr) : Option Cz → Prop
  | none => vf = .non ∧ PsZ K H q []
  | some ch => (∃ f, vf = .ref f ∧ H f = some (.lst (intV (ch.pc.own ++ (FQ W i).getD (ch.n - 1) [])))) ∧ PsZ K H q (ch.pc :: (PQ W i).getD (ch.n - 1) []) ∧ ch.c = ch.pc.own.length ∧ 1 ≤ ch.n ∧ ch.n ≤ i + 1 ∧ ch.pc.own.length ≤ 402
theorem BsZ.up {K : PySem.W.Frag} {W : List Nat} {i : Nat} {H H' : Hp} {vf : V} {q : Addr} (s : Same H H') : ∀ {bb : Option Cz}, BsZ K W i H vf q bb → BsZ K W i H' vf q bb
  | none, ⟨a, b⟩ => ⟨a, b.up s⟩
  | some ch, ⟨⟨f, a, b⟩, c, d⟩ => ⟨⟨f, a, s _ _ b⟩, c.up s, d⟩
theorem bst_tell' {W : List Nat} {i : Nat} (hi : i < W.length) : czC (RZ W i) (bst W i) = (bst W i).c + (RZ W i).getD ((bst W i).n - 1) 0 := rfl
def spTable (K : PySem.W.Frag) : Sp := fun vs H Q _ => ∃ (a : Addr) (W : List Nat), vs = [.ref a] ∧ H a = some (.lst (intV W)) ∧ W.length ≤ 200 ∧ ∀ H' t l f r, Same H H' → H' t = some (.tup [.ref l, .ref f, .ref r]) → H' l = some (.lst (intV (RZ W W.length))) → H' f = some (.lst (intV (frm W W.length))) → PsZ K H' r (pcz W W.length) → Q (.ref t) H'
section
variable {P : Program} {w : World} {K : PySem.W.Frag} {mg : Str → Option Value} {base : Heap} {A : Ads}
theorem ok_law_table (T : Txt K mg A) : FnOk P w K mg base CX0 2 A.a_law_table A.d_law_table ["_law_words_here"] (spTable K) := by
  refine T.F_law_table.ok sc_law_table (fun vs H Q E h => ?_) (fun cdv B outer s H vs Q F hr h => ?_)
  · obtain ⟨a, W, rfl, _⟩ := h
    rfl
  · obtain ⟨a, W, rfl, ha, hWl, q⟩ := h
    refine ⟨_, (pss_cons (ps_set (i := 1) sc_law_table.nd rfl (.inl rfl) (pe_lst (pa_cons pe_int pa_nil)))
    (pss_cons (ps_set (i := 2) sc_law_table.nd rfl (.inl rfl) (pe_lst (pa_cons (pe_lst pa_nil) pa_nil)))
    (pss_cons (ps_set (i := 3) sc_law_table.nd rfl (.inl rfl) (pe_lst (pa_cons (pe_tup pa_nil) pa_nil)))
    (pss_cons (ps_for PassesOwn.never rfl (pi_range1 (by rfl) T.n_range (pa_cons (pe_callB len_seq (by rfl) T.n_len (by decide +kernel) (pa_cons (pv 0) pa_nil)) pa_nil)) (pg_name (i := 4) sc_law_table.nd rfl (.inl rfl))
      (pss_cons (ps_set (i := 5) sc_law_table.nd rfl (.inl rfl) (pe_op op_sub (pe_op op_sub (pe_callB len_seq (by rfl) T.n_len (by decide +kernel) (pa_cons (pv 0) pa_nil)) pe_int) (pv 4)))
    (pss_cons (ps_set (i := 6) sc_law_table.nd rfl (.inl rfl) pe_non)
    (pss_cons (ps_set (i := 7) sc_law_table.nd rfl (.inl rfl) (pe_tup pa_nil))
    (pss_cons (ps_for PassesOwn.never rfl (pi_list (pe_call (ok_law_choices T) (hr.mono (by omega)) rfl T.g_law_choices T.F_law_choices.kp T.b_law_choices .nil pass0 (pa_cons (pv 0) (pa_cons (pv 5) pa_nil)))) (pg_tup (by rfl) (pgs_cons (pg_name (i := 8) sc_law_table.nd rfl (.inl rfl)) (pgs_cons (pg_name (i := 9) sc_law_table.nd rfl (.inl rfl)) (pgs_cons (pg_name (i := 10) sc_law_table.nd rfl (.inl rfl)) pgs_nil))))
      (pss_one (ps_if (PW.pt (pw_or (pt_cmpR op_isN (pv 6) pe_non (nomark _)) (pw_or1 (pt_cmpR op_lt (pe_op op_add (pe_callB len_seq (by rfl) T.n_len (by decide +kernel) (pa_cons (pv 8) pa_nil)) (pe_ix ix_list (pv 1) (pe_op op_sub (pv 9) pe_int) (fun _ _ => rfl))) (pe_callB len_seq (by rfl) T.n_len (by decide +kernel) (pa_cons (pv 6) pa_nil)) (nomark _))))) (pss_cons (ps_set (i := 6) sc_law_table.nd rfl (.inl rfl) (pe_op op_cat (pv 8) (pe_ix ix_list (pv 2) (pe_op op_sub (pv 9) pe_int) (fun _ _ => rfl))))
    (pss_one (ps_set (i := 7) sc_law_table.nd rfl (.inl rfl) (pe_op op_catA (pe_tup (pa_cons (pv 10) pa_nil)) (pe_ix ix_list (pv 3) (pe_op op_sub (pv 9) pe_int) (fun _ _ => rfl)))))) pss_nil)))
    (pss_cons (ps_set (i := 1) sc_law_table.nd rfl (.inl rfl) (pe_op op_cat (pe_lst (pa_cons (pe_callB len_seq (by rfl) T.n_len (by decide +kernel) (pa_cons (pv 6) pa_nil)) pa_nil)) (pv 1)))
    (pss_cons (ps_set (i := 2) sc_law_table.nd rfl (.inl rfl) (pe_op op_cat (pe_lst (pa_cons (pv 6) pa_nil)) (pv 2)))
    (pss_one (ps_set (i := 3) sc_law_table.nd rfl (.inl rfl) (pe_op op_cat (pe_lst (pa_cons (pv 7) pa_nil)) (pv 3)))))))))))
    (pss_one (ps_ret (pe_tup (pa_cons (pv 1) (pa_cons (pe_ix ix_list (pv 2) pe_int (fun _ _ => rfl)) (pa_cons (pe_ix ix_list (pv 3) pe_int (fun _ _ => rfl)) pa_nil)))))))))), ?_⟩
    have hiw := intV_len W
    refine ⟨lenOk (n := 1) rfl (by decide), fun pr0 hpr0 => ?_⟩
    have s1 := same_new (o := .lst [V.int 0]) hpr0
    have e1 : upd H pr0 (.lst [V.int 0]) pr0 = some (.lst (intV (RZ W 0))) := upd_same
    generalize upd H pr0 (.lst [V.int 0]) = H1 at s1 e1 ⊢
    refine ⟨lenOk (n := 0) rfl (by decide), fun f0 hf0 => ?_⟩
    have s2 := same_new (o := .lst []) hf0
    have e2 : upd H1 f0 (.lst []) f0 = some (.lst (intV [])) := upd_same
    generalize upd H1 f0 (.lst []) = H2 at s2 e2 ⊢
    refine ⟨lenOk (n := 1) rfl (by decide), fun fl0 hfl0 => ?_⟩
    have s3 := same_new (o := .lst [V.ref f0]) hfl0
    have e3 : upd H2 fl0 (.lst [V.ref f0]) fl0 = some (.lst [V.ref f0]) := upd_same
    generalize upd H2 fl0 (.lst [V.ref f0]) = H3 at s3 e3 ⊢
    refine ⟨lenOk (n := 0) rfl (by decide), fun t0 ht0 => ?_⟩
    have s4 := same_new (o := .tup []) ht0
    have e4 : upd H3 t0 (.tup []) t0 = some (.tup []) := upd_same
    generalize upd H3 t0 (.tup []) = H4 at s4 e4 ⊢
    refine ⟨lenOk (n := 1) rfl (by decide), fun rl0 hrl0 => ?_⟩
    have s5 := same_new (o := .lst [V.ref t0]) hrl0
    have e5 : upd H4 rl0 (.lst [V.ref t0]) rl0 = some (.lst [V.ref t0]) := upd_same
    generalize upd H4 rl0 (.lst [V.ref t0]) = H5 at s5 e5 ⊢
    have s15 := s1.trans (s2.trans (s3.trans (s4.trans s5)))
    have tb0 : Tb K W 0 H5 pr0 fl0 rl0 := ⟨s5 _ _ (s4 _ _ (s3 _ _ (s2 _ _ e1))), ⟨_, s5 _ _ (s4 _ _ e3), LsK.nil.snoc (s5 _ _ (s4 _ _ (s3 _ _ e2)))⟩, ⟨_, e5, LsK.nil.snoc (.tup (XT.of (s5 _ _ e4) fun z => z) .nil)⟩⟩
    refine ⟨_, rfl, a, _, rfl, .inl (SqL.of (s15 _ _ ha)), _, rfl, by omega, by omega, ?_⟩
    rw [Int.toNat_natCast, hiw]
    refine for_it (walk_range (lo := 0) (n := W.length)) (fun i σ Hc => ∃ (pr fl rl : Addr) (o4 o5 o6 o7 o8 o9 o10 : Option V), σ = [some (.ref a), some (.ref pr), some (.ref fl), some (.ref rl), o4, o5, o6, o7, o8, o9, o10] ∧ Same H Hc ∧ Tb K W i Hc pr fl rl)
      ⟨pr0, fl0, rl0, _, _, _, _, _, _, _, rfl, s15, tb0⟩ (fun _ _ _ _ _ => trivial) (fun i x σ Hc Hd hi y e => ?_) (fun σ Hc y => ?_)
    · obtain ⟨rfl, ex⟩ := e
      have ex : x = .int (i : Int) := by rw [ex]; exact congrArg V.int (by omega)
      subst ex
      obtain ⟨pr, fl, rl, o4, o5, o6, o7, o8, o9, o10, rfl, sm, tb⟩ := y
      obtain ⟨pl, hpl⟩ : ∃ pl, pl = W.length - i - 1 := ⟨_, rfl⟩
      have hplt : pl < W.length := by omega
      refine ⟨_, rfl, a, _, rfl, .inl (SqL.of (sm _ _ ha)), _, _, rfl, rfl, _, rfl, _, _, rfl, rfl, ?_⟩
      dsimp (config := { proj := false }) only
      rw [hiw, show (W.length : Int) - 1 - (i : Int) = (pl : Int) by omega]
      refine ⟨lenOk (n := 0) rfl (by decide), fun te hte => ?_⟩
      have s6 := same_new (o := .tup []) hte
      have e6 : upd Hd te (.tup []) te = some (.tup []) := upd_same
      generalize upd Hd te (.tup []) = G0 at s6 e6 ⊢
      have sm6 := sm.trans s6
      refine ⟨_, rfl, _, rfl, a, W, pl, rfl, sm6 _ _ ha, hplt, hWl, fun G1 cl cxs s7 ec hck => ⟨cl, rfl, ⟨_, SqL.of ec⟩, ?_⟩⟩
      have s67 := s6.trans s7
      have tb1 := tb.up s67
      have hall : (bks W pl ++ rns W pl ++ ptz W pl).foldl (szS (RZ W i)) none = some (bst W i) := by
        unfold bst
        rw [hpl]
        exact bst_all (hRz hi) (hMz hi) (by omega)
      have hok := fun ch h => ch_ok (W := W) (p := pl) (ch := ch) hplt h
      have hclen := hck.1
      generalize bks W pl ++ rns W pl ++ ptz W pl = L at *
      have hcost := bst_tell' hi
      refine for_it (walk_list (K := K) (a := cl) (xs := cxs)) (fun k σ Hc => ∃ (vf : V) (q : Addr) (o8 o9 o10 : Option V), σ = [some (.ref a), some (.ref pr), some (.ref fl), some (.ref rl), some (.int (i : Int)), some (.int (pl : Int)), some vf, some (.ref q), o8, o9, o10] ∧ Same G1 Hc ∧ BsZ K W i Hc vf q ((L.take k).foldl (szS (RZ W i)) none))
        ⟨.non, te, _, _, _, rfl, Same.refl _, rfl, .tup (XT.of (s7 _ _ e6) fun z => z) .nil⟩ (fun k σ Hc _ y => ?_) (fun k x σ Hc He hkk y e => ?_) (fun σ Hc y => ?_)
      · obtain ⟨_, _, _, _, _, _, s, _⟩ := y
        exact SqL.of (s _ _ ec)
      · obtain ⟨rfl, e⟩ := e
        obtain ⟨vf, q1, o8, o9, o10, rfl, sk, hbs⟩ := y
        rw [hclen] at hkk
        obtain ⟨pq, rfl, hch⟩ := hck.get hkk e
        obtain ⟨n1, n2, n3, n4⟩ := hok _ (List.getElem_mem hkk)
        rw [take_foldG _ _ _ _ hkk]
        generalize (L.take k).foldl (szS (RZ W i)) none = bb at *
        generalize L[k] = ch at *
        obtain ⟨oo, rr, _, hpq, _, hoo, hrr⟩ := hch.up (Out.of sk)
        have tbk := tb1.up sk
        obtain ⟨⟨ps, g1, g2⟩, ⟨fs, f, g3, g4, g5⟩, ⟨xs, rp, g6, g7, g8⟩, g9, g10, g11⟩ := tbk.get (n := ch.n) n1 (by omega) (by omega)
        refine ⟨pq, _, rfl, SqT.of hpq, rfl, _, _, rfl, _, _, rfl, _, _, rfl, rfl, ?_⟩
        have hio := intV_len ch.pc.own
        cases bb with
        | none =>
          obtain ⟨rfl, _⟩ := hbs
          have est : szS (RZ W i) none ch = some ch := by
            show PT.stepS _ _ _ _ = _
            unfold PT.stepS
            rw [if_pos ⟨rfl, trivial⟩]
          refine ⟨_, rfl, rfl, _, rfl, ifT (decide_eq_true rfl) ?_⟩
          refine ⟨_, rfl, _, rfl, _, rfl, _, _, rfl, rfl, fl, _, _, _, rfl, rfl, SqL.of g3, g4, oo, f, _, _, rfl, rfl, hoo, g5, le_line (by rw [hio, intV_len]; omega), fun nf hnf => ?_⟩
          have s8 := same_new (o := .lst (intV ch.pc.own ++ intV ((FQ W i).getD (ch.n - 1) []))) hnf
          have e8 : upd He nf (.lst (intV ch.pc.own ++ intV ((FQ W i).getD (ch.n - 1) []))) nf = some (.lst (intV (ch.pc.own ++ (FQ W i).getD (ch.n - 1) []))) := by rw [upd_same, intV_app]
          generalize upd He nf (.lst (intV ch.pc.own ++ intV ((FQ W i).getD (ch.n - 1) []))) = J1 at s8 e8 ⊢
          refine ⟨_, rfl, lenOk (n := 1) rfl (by decide), fun t1 ht1 => ?_⟩
          have s9 := same_new (o := .tup [V.ref rr]) ht1
          refine ⟨_, rfl, _, rfl, _, _, rfl, rfl, rl, _, _, _, rfl, rfl, SqL.of (s9 _ _ (s8 _ _ g6)), g7, ?_⟩
          refine pz_cons upd_same (Dx.up (Out.of (s8.trans s9)) hrr) (g8.up (s8.trans s9)) (by omega) fun p H9 s10 hp9 => ?_
          refine ⟨.ref nf, p, some (.ref oo), some (.int (ch.n : Int)), some (.ref rr), rfl, sk.trans (s8.trans (s9.trans s10)), ?_⟩
          rw [est]
          exact ⟨⟨nf, rfl, s10 _ _ (s9 _ _ e8)⟩, hp9, n3, n1, by omega, by omega⟩
        | some b0 =>
          obtain ⟨⟨bf, rfl, b1⟩, b2, b3, b4, b5, b6⟩ := id hbs
          refine ⟨_, rfl, rfl, _, rfl, ifF (decide_eq_false fun w => nomatch w) ?_⟩
          obtain ⟨_, _, _, c9, c10, _⟩ := tbk.get (n := b0.n) b4 b5 (by omega)
          refine ⟨_, rfl, oo, _, rfl, .inl (SqL.of hoo), _, rfl, _, rfl, _, _, rfl, rfl, pr, _, _, _, rfl, rfl, SqL.of g1, g2, _, _, rfl, rfl, _, rfl, bf, _, rfl, .inl (SqL.of b1), _, _, rfl, rfl, ?_⟩
          dsimp (config := { proj := false }) only
          rw [hio, intV_len, List.length_append]
          refine ⟨_, rfl, ifB (fun e => ?_) (fun e => ?_)⟩
          · have e := of_decide_eq_true e
            have est : szS (RZ W i) (some b0) ch = some ch := by
              show PT.stepS _ _ _ _ = _
              unfold PT.stepS
              rw [if_pos ⟨rfl, show czC (RZ W i) ch < czC (RZ W i) b0 by unfold czC; omega⟩]
            refine ⟨_, rfl, _, rfl, _, rfl, _, _, rfl, rfl, fl, _, _, _, rfl, rfl, SqL.of g3, g4, oo, f, _, _, rfl, rfl, hoo, g5, le_line (by rw [hio, intV_len]; omega), fun nf hnf => ?_⟩
            have s8 := same_new (o := .lst (intV ch.pc.own ++ intV ((FQ W i).getD (ch.n - 1) []))) hnf
            have e8 : upd He nf (.lst (intV ch.pc.own ++ intV ((FQ W i).getD (ch.n - 1) []))) nf = some (.lst (intV (ch.pc.own ++ (FQ W i).getD (ch.n - 1) []))) := by rw [upd_same, intV_app]
            generalize upd He nf (.lst (intV ch.pc.own ++ intV ((FQ W i).getD (ch.n - 1) []))) = J1 at s8 e8 ⊢
            refine ⟨_, rfl, lenOk (n := 1) rfl (by decide), fun t1 ht1 => ?_⟩
            have s9 := same_new (o := .tup [V.ref rr]) ht1
            refine ⟨_, rfl, _, rfl, _, _, rfl, rfl, rl, _, _, _, rfl, rfl, SqL.of (s9 _ _ (s8 _ _ g6)), g7, ?_⟩
            refine pz_cons upd_same (Dx.up (Out.of (s8.trans s9)) hrr) (g8.up (s8.trans s9)) (by omega) fun p H9 s10 hp9 => ?_
            refine ⟨.ref nf, p, some (.ref oo), some (.int (ch.n : Int)), some (.ref rr), rfl, sk.trans (s8.trans (s9.trans s10)), ?_⟩
            rw [est]
            exact ⟨⟨nf, rfl, s10 _ _ (s9 _ _ e8)⟩, hp9, n3, n1, by omega, by omega⟩
          · have e := of_decide_eq_false e
            have est : szS (RZ W i) (some b0) ch = some b0 := by
              show PT.stepS _ _ _ _ = _
              unfold PT.stepS
              rw [if_neg fun z => by
                have : czC (RZ W i) ch < czC (RZ W i) b0 := z.2
                unfold czC at this
                omega]
            rw [est]
            exact ⟨_, q1, _, _, _, rfl, sk, hbs⟩
      · obtain ⟨vf, q1, o8, o9, o10, rfl, sk, hbs⟩ := y
        rw [hclen, List.take_length, hall] at hbs
        obtain ⟨⟨bf, rfl, b1⟩, b2, b3, b4, b5, b6⟩ := hbs
        have tbk := tb1.up sk
        obtain ⟨_, _, _, c9, c10, _⟩ := tbk.get (n := (bst W i).n) b4 b5 (by omega)
        obtain ⟨fs, g3, g4⟩ := tbk.f
        obtain ⟨xs, g6, g7⟩ := tbk.r
        have g1 := tbk.p
        have hfl := g4.1
        have hxl := g7.1
        rw [FQ_len] at hfl
        rw [PQ_len] at hxl
        have smk := sm.trans (s67.trans sk)
        refine ⟨_, rfl, bf, _, rfl, .inl (SqL.of b1), lenOk (n := 1) rfl (by decide), fun l1 h1 => ?_⟩
        rw [intV_len, List.length_append, c9, ← b3, show (((bst W i).c + (RZ W i).getD ((bst W i).n - 1) 0 : Nat) : Int) = ((czC (RZ W i) (bst W i) : Nat) : Int) from rfl]
        have t1 := same_new (o := .lst [V.int ((czC (RZ W i) (bst W i) : Nat) : Int)]) h1
        have u1 : upd Hc l1 (.lst [V.int ((czC (RZ W i) (bst W i) : Nat) : Int)]) l1 = some (.lst [V.int ((czC (RZ W i) (bst W i) : Nat) : Int)]) := upd_same
        generalize upd Hc l1 (.lst [V.int ((czC (RZ W i) (bst W i) : Nat) : Int)]) = J1 at t1 u1 ⊢
        refine ⟨_, rfl, l1, pr, _, _, rfl, rfl, u1, t1 _ _ g1, le_line (by rw [intV_len, RZ_len]; show 1 + _ ≤ _; omega), fun l2 h2 => ?_⟩
        have t2 := same_new (o := .lst ([V.int ((czC (RZ W i) (bst W i) : Nat) : Int)] ++ intV (RZ W i))) h2
        have u2 : upd J1 l2 (.lst ([V.int ((czC (RZ W i) (bst W i) : Nat) : Int)] ++ intV (RZ W i))) l2 = some (.lst (intV (czC (RZ W i) (bst W i) :: RZ W i))) := upd_same
        generalize upd J1 l2 (.lst ([V.int ((czC (RZ W i) (bst W i) : Nat) : Int)] ++ intV (RZ W i))) = J2 at t2 u2 ⊢
        refine ⟨_, rfl, lenOk (n := 1) rfl (by decide), fun l3 h3 => ?_⟩
        have t3 := same_new (o := .lst [V.ref bf]) h3
        have u3 : upd J2 l3 (.lst [V.ref bf]) l3 = some (.lst [V.ref bf]) := upd_same
        generalize upd J2 l3 (.lst [V.ref bf]) = J3 at t3 u3 ⊢
        refine ⟨_, rfl, l3, fl, _, _, rfl, rfl, u3, t3 _ _ (t2 _ _ (t1 _ _ g3)), le_line (by rw [hfl]; show 1 + _ ≤ _; omega), fun l4 h4 => ?_⟩
        have t4 := same_new (o := .lst ([V.ref bf] ++ fs)) h4
        have u4 : upd J3 l4 (.lst ([V.ref bf] ++ fs)) l4 = some (.lst (V.ref bf :: fs)) := upd_same
        generalize upd J3 l4 (.lst ([V.ref bf] ++ fs)) = J4 at t4 u4 ⊢
        refine ⟨_, rfl, lenOk (n := 1) rfl (by decide), fun l5 h5 => ?_⟩
        have t5 := same_new (o := .lst [V.ref q1]) h5
        have u5 : upd J4 l5 (.lst [V.ref q1]) l5 = some (.lst [V.ref q1]) := upd_same
        generalize upd J4 l5 (.lst [V.ref q1]) = J5 at t5 u5 ⊢
        have t15 := t1.trans (t2.trans (t3.trans (t4.trans t5)))
        refine ⟨_, rfl, l5, rl, _, _, rfl, rfl, u5, t15 _ _ g6, le_line (by rw [hxl]; show 1 + _ ≤ _; omega), fun l6 h6 => ?_⟩
        have t6 := same_new (o := .lst ([V.ref q1] ++ xs)) h6
        have tA := t15.trans t6
        have t36 := t3.trans (t4.trans (t5.trans t6))
        refine ⟨l2, l4, l6, _, _, _, _, _, _, _, rfl, smk.trans tA, ?_⟩
        exact (tbk.up tA).cons hi (tA _ _ g3) (tA _ _ g6) (t36 _ _ u2) (t6 _ _ (t5 _ _ u4)) upd_same (tA _ _ b1) (b2.up tA)
    · obtain ⟨pr, fl, rl, o4, o5, o6, o7, o8, o9, o10, rfl, sm, tb⟩ := y
      obtain ⟨_, ⟨fs, f, g3, g4, g5⟩, ⟨xs, rp, g6, g7, g8⟩, _⟩ := tb.get (n := 1) (Nat.le_refl _) (by omega) (Nat.le_refl _)
      refine ⟨_, rfl, _, rfl, fl, _, 0, _, rfl, rfl, SqL.of g3, g4, _, rfl, rl, _, 0, _, rfl, rfl, SqL.of g6, g7, lenOk (n := 3) rfl (by decide), fun t ht => ?_⟩
      have s9 := same_new (o := .tup [V.ref pr, V.ref f, V.ref rp]) ht
      exact q _ t pr f rp (sm.trans s9) upd_same (s9 _ _ tb.p) (s9 _ _ g5) (g8.up s9)
end
end R1

namespace R1
open PySem PySem.Spec PyProof.Rows L2 RK DL SZ
local macro_rules | `(tactic| walk_at "sq") => `(tactic| first
  | exact SqL.of upd_same | exact upd_same | exact SqL.of (by assumption) | exact SqL.of (by rw [upd_ne (by assumption)]; assumption) | assumption)
local macro_rules | `(tactic| walk_at "sd") => `(tactic| first
  | assumption | omega | (refine Or.inl ⟨?_, ?_⟩ <;> omega) | (show _ ∧ _; constructor <;> omega) | (show _ ≠ _; simp; omega) | (exact Or.inl ⟨by decide, by decide⟩) | (exact Or.inr ⟨by decide, by decide⟩) | (show _ < _; decide) | (show _ ≤ _; decide))
local macro_rules | `(tactic| walk_at "at") => `(tactic| first | rfl | (refine atI_intV ?_ ?_ <;> omega) | assumption)
local macro_rules | `(tactic| walk_at "s1") => `(tactic| first
  | refine ⟨_, rfl, ?_⟩ | refine ⟨_, _, rfl, rfl, ?_⟩ | refine ⟨rfl, ?_⟩
  | refine ⟨_, _, _, _, rfl, rfl, by walk_at "sq", by walk_at "at", ?_⟩
  | refine Or.inl ⟨_, rfl, ?_⟩
  | refine ⟨_, _, rfl, Or.inl (by walk_at "sq"), ?_⟩
  | refine And.intro (by walk_at "sd") ?_)
local macro_rules | `(tactic| walk_at "s") => `(tactic| repeat walk_at "s1")

/-- how far the words a distance back agree -/
def lcd (W : List Nat) (q d : Nat) : Nat := lcp (W.drop (q - d)) (W.drop q)
theorem lcd_step {W : List Nat} {p d : Nat} (hp : p < W.length) (h1 : 1 ≤ d) (h2 : d ≤ p) : lcd W p d = if W.getD p 0 = W.getD (p - d) 0 then lcd W (p + 1) d + 1 else 0 := by
  have h3 : p - d < W.length := by omega
  unfold lcd
  rw [List.drop_eq_getElem_cons hp, List.drop_eq_getElem_cons h3, List.getD_eq_getElem?_getD, List.getD_eq_getElem?_getD, List.getElem?_eq_getElem hp, List.getElem?_eq_getElem h3, show p - d + 1 = p + 1 - d by omega]
  show (if W[p - d] = W[p] then lcp (W.drop (p + 1 - d)) (W.drop (p + 1)) + 1 else 0) = if W[p] = W[p - d] then _ else 0
  by_cases h : W[p] = W[p - d]
  · rw [if_pos h, if_pos h.symm]
  · rw [if_neg h, if_neg fun z => h z.symm]
def AhZ (W : List Nat) (kv : List (Key × V)) (q : Nat) : Prop := ∀ d : Nat, 1 ≤ d → d ≤ q → (valV kv (.inl (d : Int))).getD (.int 0) = .int ((lcd W q d : Nat) : Int)
def LoZ (W : List Nat) (p k lo fi : Nat) : Prop := (∀ d, 1 ≤ d → d ≤ k → lcd W p d ≤ lo) ∧ ((lo = 0 ∧ fi = 0) ∨ (0 < lo ∧ 1 ≤ fi ∧ fi ≤ k ∧ lcd W p fi = lo ∧ ∀ d, 1 ≤ d → d < fi → lcd W p d < lo))
theorem LoZ.fin {W : List Nat} {p lo fi : Nat} (h : LoZ W p p lo fi) : lo = bk W p ∧ (0 < lo → fi = dst W p) := by
  obtain ⟨h1, h2⟩ := h
  have hge : ∀ d, 1 ≤ d → d ≤ p → lcd W p d ≤ bk W p := fun d a b => bk_ge a b
  rcases h2 with ⟨e1, e2⟩ | ⟨e1, e2, e3, e4, e5⟩
  · refine ⟨?_, fun z => by omega⟩
    rcases Nat.eq_zero_or_pos (bk W p) with z | z
    · omega
    · obtain ⟨d1, d2, d3, _⟩ := bk_dst z
      have := h1 _ d1 d2
      unfold lcd at this
      omega
  · have g := hge fi e2 e3
    have hb : 0 < bk W p := by omega
    obtain ⟨d1, d2, d3, d4⟩ := bk_dst hb
    have g2 := h1 _ d1 d2
    have d3 : lcd W p (dst W p) = bk W p := d3
    have hlo : lo = bk W p := by omega
    refine ⟨hlo, fun _ => ?_⟩
    rcases Nat.lt_trichotomy fi (dst W p) with z | z | z
    · have : lcd W p fi < bk W p := d4 fi e2 z
      omega
    · exact z
    · have := e5 _ d1 z
      omega
theorem rl_step {W : List Nat} {p : Nat} (hp : p < W.length) : rl (W.drop p) = 1 + (if p + 1 < W.length ∧ W.getD p 0 = W.getD (p + 1) 0 then rl (W.drop (p + 1)) else 0) := by
  rw [List.drop_eq_getElem_cons hp]
  by_cases h : p + 1 < W.length
  · rw [List.drop_eq_getElem_cons h, List.getD_eq_getElem?_getD, List.getD_eq_getElem?_getD, List.getElem?_eq_getElem hp, List.getElem?_eq_getElem h]
    show (if W[p] = W[p + 1] then _ + 1 else 1) = 1 + if p + 1 < W.length ∧ W[p] = W[p + 1] then _ else 0
    by_cases h2 : W[p] = W[p + 1]
    · rw [if_pos h2, if_pos ⟨h, h2⟩, Nat.add_comm]
    · rw [if_neg h2, if_neg fun z => h2 z.2]
  · rw [List.drop_of_length_le (show W.length ≤ p + 1 by omega), if_neg fun z => h z.1]
    rfl
theorem fold_some {R : List Nat} : ∀ (l : List Cz) (b : Cz), ∃ x, l.foldl (szS R) (some b) = some x
  | [], b => ⟨b, rfl⟩
  | c :: l, b => by
    have : ∃ x, szS R (some b) c = some x := by
      show ∃ x, PT.stepS _ _ _ _ = _
      unfold PT.stepS
      split
      · exact ⟨_, rfl⟩
      · exact ⟨_, rfl⟩
    obtain ⟨x, e⟩ := this
    obtain ⟨y, f⟩ := fold_some l x
    refine ⟨y, ?_⟩
    rw [List.foldl_cons, e]
    exact f
theorem and_step {c : Bool} {tb : TE} {σ : L2.St} {H : Hp} {Q : VK} {v : Bool} (h1 : c = true → ∀ Q' : VK, Q' (V.bl v) H → tb σ H Q') (h0 : c = false → v = false) (q : Q (V.bl v) H) : if c = true then tb σ H Q else Q (.bl false) H := by
  cases c with
  | true =>
    rw [if_pos rfl]
    exact h1 rfl Q q
  | false =>
    rw [if_neg (fun z => nomatch z)]
    rw [h0 rfl] at q
    exact q
section
variable {P : Program} {w : World} {K : PySem.W.Frag} {mg : Str → Option Value} {base : Heap} {A : Ads}
theorem ok_law_quick (T : Txt K mg A) : FnOk P w K mg base CX0 2 A.a_law_quick A.d_law_quick ["_law_words_here"] (spTable K) := by
  refine T.F_law_quick.ok sc_law_quick (fun vs H Q E h => ?_) (fun cdv B outer s H vs Q F hr h => ?_)
  · obtain ⟨a, W, rfl, _⟩ := h
    rfl
  · obtain ⟨a, W, rfl, ha, hWl, q⟩ := h
    refine ⟨_, (pss_cons (ps_set (i := 1) sc_law_quick.nd rfl (.inl rfl) (pe_lst (pa_cons pe_int pa_nil)))
    (pss_cons (ps_set (i := 2) sc_law_quick.nd rfl (.inl rfl) (pe_lst (pa_cons (pe_lst pa_nil) pa_nil)))
    (pss_cons (ps_set (i := 3) sc_law_quick.nd rfl (.inl rfl) (pe_lst (pa_cons (pe_tup pa_nil) pa_nil)))
    (pss_cons (ps_set (i := 4) sc_law_quick.nd rfl (.inl rfl) pe_dnewK)
    (pss_cons (ps_set (i := 5) sc_law_quick.nd rfl (.inl rfl) pe_int)
    (pss_cons (ps_for PassesOwn.never rfl (pi_range1 (by rfl) T.n_range (pa_cons (pe_callB len_seq (by rfl) T.n_len (by decide +kernel) (pa_cons (pv 0) pa_nil)) pa_nil)) (pg_name (i := 6) sc_law_quick.nd rfl (.inl rfl))
      (pss_cons (ps_set (i := 7) sc_law_quick.nd rfl (.inl rfl) (pe_op op_sub (pe_op op_sub (pe_callB len_seq (by rfl) T.n_len (by decide +kernel) (pa_cons (pv 0) pa_nil)) pe_int) (pv 6)))
    (pss_cons (ps_set (i := 8) sc_law_quick.nd rfl (.inl rfl) pe_dnewK)
    (pss_cons (ps_set (i := 9) sc_law_quick.nd rfl (.inl rfl) pe_int)
    (pss_cons (ps_set (i := 10) sc_law_quick.nd rfl (.inl rfl) pe_int)
    (pss_cons (ps_for PassesOwn.never rfl (pi_range2 (by rfl) T.n_range (pa_cons pe_int (pa_cons (pe_op op_add (pv 7) pe_int) pa_nil))) (pg_name (i := 11) sc_law_quick.nd rfl (.inl rfl))
      (pss_one (ps_if (pt_cmpR op_eq (pe_ix ix_list (pv 0) (pv 7) (fun _ _ => rfl)) (pe_ix ix_list (pv 0) (pe_op op_sub (pv 7) (pv 11)) (fun _ _ => rfl)) (nomark _)) (pss_cons (ps_dput (hu_of hr) (pv 8) (pv 11) (pe_op op_add pe_int (pe_dget2 (hu_of hr) (pv 4) (pv 11) pe_int ⟨rfl, rfl, rfl, rfl⟩)) rfl)
    (pss_one (ps_if (pt_cmpR op_gt (pe_dget (hu_of hr) (pv 8) (pv 11) (fun _ _ => rfl)) (pv 9) (nomark _)) (pss_cons (ps_set (i := 9) sc_law_quick.nd rfl (.inl rfl) (pe_dget (hu_of hr) (pv 8) (pv 11) (fun _ _ => rfl)))
    (pss_one (ps_set (i := 10) sc_law_quick.nd rfl (.inl rfl) (pv 11)))) pss_nil))) pss_nil)))
    (pss_cons (ps_set (i := 4) sc_law_quick.nd rfl (.inl rfl) (pv 8))
    (pss_cons (ps_set (i := 5) sc_law_quick.nd rfl (.inl rfl) (pe_op op_add pe_int (pe_op op_mul (pv 5) (pe_callTy call_int1 (by rfl) T.n_int (by decide +kernel) (pa_cons (pe_and (pe_cmpR op_gt (pv 6) pe_int (nomark _)) (pe_one (pe_cmpR op_eq (pe_ix ix_list (pv 0) (pv 7) (fun _ _ => rfl)) (pe_ix ix_list (pv 0) (pe_callB (call_min2 rfl) (by rfl) T.n_min (by decide +kernel) (pa_cons (pe_op op_add (pv 7) pe_int) (pa_cons (pe_op op_sub (pe_callB len_seq (by rfl) T.n_len (by decide +kernel) (pa_cons (pv 0) pa_nil)) pe_int) pa_nil))) (fun _ _ => rfl)) (nomark _)))) pa_nil)))))
    (pss_cons (ps_set (i := 12) sc_law_quick.nd rfl (.inl rfl) (pe_op op_cat (pe_lst (pa_cons (pe_op op_add pe_int (pv 5)) (pa_cons (pe_ix ix_list (pv 0) (pv 7) (fun _ _ => rfl)) pa_nil))) (pe_ix ix_list (pv 2) (pe_op op_sub (pv 5) pe_int) (fun _ _ => rfl))))
    (pss_cons (ps_set (i := 13) sc_law_quick.nd rfl (.inl rfl) (pe_op op_catA (pe_tup (pa_cons (pe_tup (pa_cons pe_str (pa_cons (pv 5) (pa_cons (pe_ix ix_list (pv 0) (pv 7) (fun _ _ => rfl)) pa_nil)))) pa_nil)) (pe_ix ix_list (pv 3) (pe_op op_sub (pv 5) pe_int) (fun _ _ => rfl))))
    (pss_cons (ps_if (PW.pt (pw_and (pt_cmpR op_gt (pv 9) pe_int (nomark _)) (pw_and1 (pt_cmpR op_le (pe_op op_add pe_int (pe_ix ix_list (pv 1) (pe_op op_sub (pv 9) pe_int) (fun _ _ => rfl))) (pe_callB len_seq (by rfl) T.n_len (by decide +kernel) (pa_cons (pv 12) pa_nil)) (nomark _))))) (pss_cons (ps_set (i := 12) sc_law_quick.nd rfl (.inl rfl) (pe_op op_cat (pe_lst (pa_cons (pe_op op_add pe_int (pv 9)) (pa_cons (pv 10) pa_nil))) (pe_ix ix_list (pv 2) (pe_op op_sub (pv 9) pe_int) (fun _ _ => rfl))))
    (pss_one (ps_set (i := 13) sc_law_quick.nd rfl (.inl rfl) (pe_op op_catA (pe_tup (pa_cons (pe_tup (pa_cons pe_str (pa_cons (pv 9) (pa_cons (pv 10) pa_nil)))) pa_nil)) (pe_ix ix_list (pv 3) (pe_op op_sub (pv 9) pe_int) (fun _ _ => rfl)))))) pss_nil)
    (pss_cons (ps_for PassesOwn.never rfl (pi_range1 (by rfl) T.n_range (pa_cons (pe_op op_add (pv 6) pe_int) pa_nil)) (pg_name (i := 14) sc_law_quick.nd rfl (.inl rfl))
      (pss_cons (ps_set (i := 15) sc_law_quick.nd rfl (.inl rfl) (pe_op op_sub (pe_op op_add (pv 6) pe_int) (pv 14)))
    (pss_one (ps_if (pt_cmpR op_lt (pe_op op_add (pe_op op_add pe_int (pv 15)) (pe_ix ix_list (pv 1) (pe_op op_sub (pv 15) pe_int) (fun _ _ => rfl))) (pe_callB len_seq (by rfl) T.n_len (by decide +kernel) (pa_cons (pv 12) pa_nil)) (nomark _)) (pss_cons (ps_set (i := 12) sc_law_quick.nd rfl (.inl rfl) (pe_op op_cat (pe_op op_cat (pe_lst (pa_cons (pv 15) pa_nil)) (pe_slice sl_list (pv 0) (po_some (pv 7)) (po_some (pe_op op_add (pv 7) (pv 15))))) (pe_ix ix_list (pv 2) (pe_op op_sub (pv 15) pe_int) (fun _ _ => rfl))))
    (pss_one (ps_set (i := 13) sc_law_quick.nd rfl (.inl rfl) (pe_op op_catA (pe_tup (pa_cons (pe_tup (pa_cons pe_str (pa_cons (pe_callTy tuple_of (by rfl) T.n_tuple (by decide +kernel) (pa_cons (pe_slice sl_list (pv 0) (po_some (pv 7)) (po_some (pe_op op_add (pv 7) (pv 15)))) pa_nil)) pa_nil))) pa_nil)) (pe_ix ix_list (pv 3) (pe_op op_sub (pv 15) pe_int) (fun _ _ => rfl)))))) pss_nil))))
    (pss_cons (ps_set (i := 1) sc_law_quick.nd rfl (.inl rfl) (pe_op op_cat (pe_lst (pa_cons (pe_callB len_seq (by rfl) T.n_len (by decide +kernel) (pa_cons (pv 12) pa_nil)) pa_nil)) (pv 1)))
    (pss_cons (ps_set (i := 2) sc_law_quick.nd rfl (.inl rfl) (pe_op op_cat (pe_lst (pa_cons (pv 12) pa_nil)) (pv 2)))
    (pss_one (ps_set (i := 3) sc_law_quick.nd rfl (.inl rfl) (pe_op op_cat (pe_lst (pa_cons (pv 13) pa_nil)) (pv 3))))))))))))))))))
    (pss_one (ps_ret (pe_tup (pa_cons (pv 1) (pa_cons (pe_ix ix_list (pv 2) pe_int (fun _ _ => rfl)) (pa_cons (pe_ix ix_list (pv 3) pe_int (fun _ _ => rfl)) pa_nil)))))))))))), ?_⟩
    have hiw := intV_len W
    refine ⟨lenOk (n := 1) rfl (by decide), fun pr0 hpr0 => ?_⟩
    have s1 := same_new (o := .lst [V.int 0]) hpr0
    have e1 : upd H pr0 (.lst [V.int 0]) pr0 = some (.lst (intV (RZ W 0))) := upd_same
    generalize upd H pr0 (.lst [V.int 0]) = H1 at s1 e1 ⊢
    refine ⟨lenOk (n := 0) rfl (by decide), fun f0 hf0 => ?_⟩
    have s2 := same_new (o := .lst []) hf0
    have e2 : upd H1 f0 (.lst []) f0 = some (.lst (intV [])) := upd_same
    generalize upd H1 f0 (.lst []) = H2 at s2 e2 ⊢
    refine ⟨lenOk (n := 1) rfl (by decide), fun fl0 hfl0 => ?_⟩
    have s3 := same_new (o := .lst [V.ref f0]) hfl0
    have e3 : upd H2 fl0 (.lst [V.ref f0]) fl0 = some (.lst [V.ref f0]) := upd_same
    generalize upd H2 fl0 (.lst [V.ref f0]) = H3 at s3 e3 ⊢
    refine ⟨lenOk (n := 0) rfl (by decide), fun t0 ht0 => ?_⟩
    have s4 := same_new (o := .tup []) ht0
    have e4 : upd H3 t0 (.tup []) t0 = some (.tup []) := upd_same
    generalize upd H3 t0 (.tup []) = H4 at s4 e4 ⊢
    refine ⟨lenOk (n := 1) rfl (by decide), fun rl0 hrl0 => ?_⟩
    have s5 := same_new (o := .lst [V.ref t0]) hrl0
    have e5 : upd H4 rl0 (.lst [V.ref t0]) rl0 = some (.lst [V.ref t0]) := upd_same
    generalize upd H4 rl0 (.lst [V.ref t0]) = H5 at s5 e5 ⊢
    have s15 := s1.trans (s2.trans (s3.trans (s4.trans s5)))
    have tb0 : Tb K W 0 H5 pr0 fl0 rl0 := ⟨s5 _ _ (s4 _ _ (s3 _ _ (s2 _ _ e1))), ⟨_, s5 _ _ (s4 _ _ e3), LsK.nil.snoc (s5 _ _ (s4 _ _ (s3 _ _ e2)))⟩, ⟨_, e5, LsK.nil.snoc (.tup (XT.of (s5 _ _ e4) fun z => z) .nil)⟩⟩
    intro ad0 had0
    have s6 := same_new (o := .dK []) had0
    have e6 : upd H5 ad0 (.dK []) ad0 = some (.dK []) := upd_same
    generalize upd H5 ad0 (.dK []) = H6 at s6 e6 ⊢
    have s16 := s15.trans s6
    have tb0 := tb0.up s6
    refine ⟨_, rfl, a, _, rfl, .inl (SqL.of (s16 _ _ ha)), _, rfl, by omega, by omega, ?_⟩
    rw [Int.toNat_natCast, hiw]
    have lcp0 : ∀ L : List Nat, lcp L [] = 0 := fun L => by cases L <;> rfl
    refine for_it (walk_range (lo := 0) (n := W.length)) (fun i σ Hc => ∃ (pr fl rl ad : Addr) (run : Nat) (o6 o7 o8 o9 o10 o11 o12 o13 o14 o15 : Option V) (kv : List (Key × V)), σ = [some (.ref a), some (.ref pr), some (.ref fl), some (.ref rl), some (.ref ad), some (.int (run : Int)), o6, o7, o8, o9, o10, o11, o12, o13, o14, o15] ∧ Same H Hc ∧ Tb K W i Hc pr fl rl ∧ Hc ad = some (.dK kv) ∧ AhZ W kv (W.length - i) ∧ run = SZ.rl (W.drop (W.length - i)))
      ⟨pr0, fl0, rl0, ad0, 0, _, _, _, _, _, _, _, _, _, _, [], rfl, s16, tb0, e6, fun d h1 h2 => (by unfold lcd; rw [Nat.sub_zero, List.drop_length, lcp0]; rfl), by rw [Nat.sub_zero, List.drop_length]; rfl⟩ (fun _ _ _ _ _ => trivial) (fun i x σ Hc Hd hi y e => ?_) (fun σ Hc y => ?_)
    · obtain ⟨rfl, ex⟩ := e
      have ex : x = .int (i : Int) := by rw [ex]; exact congrArg V.int (by omega)
      subst ex
      obtain ⟨pr, fl, rl, ad, run, o6, o7, o8, o9, o10, o11, o12, o13, o14, o15, kv, rfl, sm, tb, ea, hah, hrun⟩ := y
      obtain ⟨p, hp⟩ : ∃ p, p = W.length - i - 1 := ⟨_, rfl⟩
      have hpl : p < W.length := by omega
      have hp1 : W.length - i = p + 1 := by omega
      rw [hp1] at hah hrun
      have had := sm _ _ ha
      have hatp : atI (intV W) (p : Int) = some (.int ((W.getD p 0 : Nat) : Int)) := atI_nat (intV_at hpl)
      refine ⟨_, rfl, a, _, rfl, .inl (SqL.of had), _, _, rfl, rfl, _, rfl, _, _, rfl, rfl, ?_⟩
      dsimp (config := { proj := false }) only
      rw [hiw, show (W.length : Int) - 1 - (i : Int) = (p : Int) by omega]
      intro rd hrd
      have r1 := same_new (o := .dK []) hrd
      have er1 : upd Hd rd (.dK []) rd = some (.dK []) := upd_same
      generalize upd Hd rd (.dK []) = G0 at r1 er1 ⊢
      refine ⟨_, rfl, _, _, rfl, rfl, 1, (p : Int) + 1, rfl, ⟨by decide, by decide, by omega, by omega⟩, ?_⟩
      rw [show ((p : Int) + 1 - 1).toNat = p by omega]
      refine for_it (walk_range (lo := 1) (n := p)) (fun k σ Hc => ∃ (lo fi : Nat) (o11 : Option V) (rv : List (Key × V)), σ = [some (.ref a), some (.ref pr), some (.ref fl), some (.ref rl), some (.ref ad), some (.int (run : Int)), some (.int (i : Int)), some (.int (p : Int)), some (.ref rd), some (.int (lo : Int)), some (.int (fi : Int)), o11, o12, o13, o14, o15] ∧ Same Hd Hc ∧ Hc rd = some (.dK rv) ∧ rv.length ≤ k ∧ LoZ W p k lo fi ∧ ∀ j : Nat, valV rv (.inl (j : Int)) = if 1 ≤ j ∧ j ≤ k ∧ 0 < lcd W p j then some (.int ((lcd W p j : Nat) : Int)) else none)
        ⟨0, 0, _, [], rfl, r1, er1, Nat.le_refl _, ⟨fun d h1 h2 => absurd h1 (by omega), .inl ⟨rfl, rfl⟩⟩, fun j => by rw [if_neg (by omega)]; rfl⟩ (fun _ _ _ _ _ => trivial) (fun k x σ Hc He hkk y e => ?_) (fun σ Hc y => ?_)
      · obtain ⟨rfl, ex⟩ := e
        have ex : x = .int ((k + 1 : Nat) : Int) := by rw [ex]; exact congrArg V.int (by omega)
        subst ex
        obtain ⟨lo, fi, o11, rv, rfl, sk, erk, hrl, hlo, hrv⟩ := y
        obtain ⟨d, hd⟩ : ∃ d, d = k + 1 := ⟨_, rfl⟩
        rw [← hd]
        have hstep := lcd_step (W := W) hpl (show 1 ≤ d by omega) (show d ≤ p by omega)
        have hatd : atI (intV W) ((p : Int) - (d : Int)) = some (.int ((W.getD (p - d) 0 : Nat) : Int)) := by
          rw [show (p : Int) - (d : Int) = ((p - d : Nat) : Int) by omega]
          exact atI_nat (intV_at (by omega))
        have hak := sk _ _ had
        generalize W.getD p 0 = xp at *
        generalize W.getD (p - d) 0 = xd at *
        refine ⟨_, rfl, _, rfl, a, _, _, _, rfl, rfl, SqL.of hak, hatp, _, rfl, _, rfl, _, rfl, _, _, rfl, rfl, a, _, _, _, rfl, rfl, SqL.of hak, hatd, rfl, ?_⟩
        by_cases hx : xp = xd
        · rw [if_pos hx] at hstep
          refine ⟨true, decT (by rw [hx]), ifT rfl ?_⟩
          refine ⟨_, rfl, ad, rfl, .inl ⟨_, .inl (sk _ _ ea)⟩, _, rfl, valV kv (.inl (d : Int)), DGet.k (k := .inl (d : Int)) (sk _ _ ea), _, _, rfl, hah d (by omega) (by omega), ?_⟩
          dsimp (config := { proj := false }) only
          rw [show (1 : Int) + ((lcd W (p + 1) d : Nat) : Int) = ((lcd W p d : Nat) : Int) by omega]
          have hel1 : 1 ≤ lcd W p d := by omega
          obtain ⟨el, hel⟩ : ∃ el, el = lcd W p d := ⟨_, rfl⟩
          rw [← hel] at hel1 ⊢
          refine ⟨_, rfl, _, rfl, rd, _, rfl, DPut.k (k := .inl (d : Int)) erk (lt_line (by omega)), ?_⟩
          have hps : ∀ j : Nat, valV (putK rv (.inl (d : Int)) (.int (el : Int))) (.inl (j : Int)) = if 1 ≤ j ∧ j ≤ d ∧ 0 < lcd W p j then some (.int ((lcd W p j : Nat) : Int)) else none := fun j => by
            rw [valV_put]
            by_cases hjj : j = d
            · subst hjj
              rw [if_pos rfl, if_pos ⟨by omega, Nat.le_refl _, by omega⟩, hel]
            · rw [if_neg (fun z => hjj (by have := Sum.inl.inj z; omega)), hrv]
              by_cases hm : 1 ≤ j ∧ j ≤ k ∧ 0 < lcd W p j
              · rw [if_pos hm, if_pos ⟨hm.1, by omega, hm.2.2⟩]
              · rw [if_neg hm, if_neg (fun z => hm ⟨z.1, by omega, z.2.2⟩)]
          have hpl2 := length_putK rv (.inl (d : Int)) (V.int (el : Int))
          have hget : valV (putK rv (.inl (d : Int)) (.int (el : Int))) (.inl (d : Int)) = some (.int (el : Int)) := by rw [valV_put, if_pos rfl]
          have sk2 : Same Hd (upd He rd (.dK (putK rv (.inl (d : Int)) (.int (el : Int))))) := same_mut sk hrd
          have erk2 : upd He rd (.dK (putK rv (.inl (d : Int)) (.int (el : Int)))) rd = some (.dK (putK rv (.inl (d : Int)) (.int (el : Int)))) := upd_same
          generalize upd He rd (.dK (putK rv (.inl (d : Int)) (.int (el : Int)))) = G2 at sk2 erk2 ⊢
          generalize putK rv (.inl (d : Int)) (.int (el : Int)) = rv2 at *
          have hdg : DGet G2 rd (.int (d : Int)) (some (.int (el : Int))) := by
            have := DGet.k (k := .inl (d : Int)) erk2
            rw [hget] at this
            exact this
          refine ⟨_, rfl, _, rfl, rd, _, rfl, hdg, _, rfl, _, _, rfl, rfl, _, rfl, ifB (fun e => ?_) (fun e => ?_)⟩
          · have e := of_decide_eq_true e
            refine ⟨_, rfl, _, rfl, rd, _, rfl, hdg, _, rfl, ?_⟩
            refine ⟨el, d, _, rv2, rfl, sk2, erk2, by omega, ⟨fun i' h1 h2 => ?_, .inr ⟨by omega, by omega, Nat.le_refl _, hel.symm, fun i' h1 hlt' => ?_⟩⟩, hps⟩
            · by_cases z : i' = d
              · rw [z]
                omega
              · have := hlo.1 i' h1 (by omega)
                omega
            · have := hlo.1 i' h1 (by omega)
              omega
          · have e := of_decide_eq_false e
            refine ⟨lo, fi, _, rv2, rfl, sk2, erk2, by omega, ⟨fun i' h1 h2 => ?_, hlo.2.imp id fun ⟨z1, z0, z2, z3, z4⟩ => ⟨z1, z0, by omega, z3, z4⟩⟩, hps⟩
            by_cases z : i' = d
            · rw [z]
              omega
            · exact hlo.1 i' h1 (by omega)
        · rw [if_neg hx] at hstep
          refine ⟨false, decF (fun z => hx (by have := V.int.inj z; omega)), ifF rfl ?_⟩
          refine ⟨lo, fi, _, rv, rfl, sk, erk, by omega, ⟨fun i' h1 h2 => ?_, hlo.2.imp id fun ⟨z1, z0, z2, z3, z4⟩ => ⟨z1, z0, by omega, z3, z4⟩⟩, fun j => ?_⟩
          · by_cases z : i' = d
            · rw [z]
              omega
            · exact hlo.1 i' h1 (by omega)
          · rw [hrv]
            by_cases hm : 1 ≤ j ∧ j ≤ k ∧ 0 < lcd W p j
            · rw [if_pos hm, if_pos ⟨hm.1, by omega, hm.2.2⟩]
            · rw [if_neg hm, if_neg (fun z => hm ⟨z.1, (by
                by_cases y : j = d
                · rw [y, hstep] at z
                  omega
                · omega), z.2.2⟩)]
      obtain ⟨lo, fi, o11, rv, rfl, sk, erk, hrl, hlo, hrv⟩ := y
      obtain ⟨hlb, hfd⟩ := hlo.fin
      have hah2 : AhZ W rv p := fun j h1 h2 => by
        rw [hrv j]
        by_cases hm : 0 < lcd W p j
        · rw [if_pos ⟨h1, h2, hm⟩]
          rfl
        · rw [if_neg fun z => hm z.2.2]
          have : lcd W p j = 0 := by omega
          rw [this]
          rfl
      clear hrv hrl hlo hah
      subst hlb
      have hak := sk _ _ had
      -- the run
      have hrs := rl_step hpl
      have hrp : 1 ≤ SZ.rl (W.drop p) ∧ SZ.rl (W.drop p) ≤ i + 1 := by
        have := SZ.rl_le (W.drop p)
        rw [List.length_drop] at this
        omega
      refine ⟨_, rfl, ?_⟩
      refine ⟨_, rfl, _, rfl, _, _, rfl, rfl, _, rfl, and_step (v := decide (p + 1 < W.length ∧ W.getD p 0 = W.getD (p + 1) 0)) (fun h Q' q' => ?_) (fun h => ?_) ?_⟩
      · have h := of_decide_eq_true h
        have hat2 : atI (intV W) ((p : Int) + 1) = some (.int ((W.getD (p + 1) 0 : Nat) : Int)) := atI_nat (j := p + 1) (intV_at (by omega))
        refine ⟨_, rfl, _, rfl, a, _, _, _, rfl, rfl, SqL.of hak, hatp, _, rfl, _, rfl, _, _, rfl, rfl, _, rfl, a, _, rfl, .inl (SqL.of hak), _, _, rfl, rfl, _, _, rfl, ?_⟩
        dsimp (config := { proj := false }) only
        rw [hiw, if_neg (by omega)]
        refine ⟨a, _, _, _, rfl, rfl, SqL.of hak, hat2, rfl, ?_⟩
        have e : decide (V.int ((W.getD p 0 : Nat) : Int) = V.int ((W.getD (p + 1) 0 : Nat) : Int)) = decide (p + 1 < W.length ∧ W.getD p 0 = W.getD (p + 1) 0) := by
          rw [Bool.eq_iff_iff, decide_eq_true_eq, decide_eq_true_eq]
          exact ⟨fun z => ⟨by omega, by have := V.int.inj z; omega⟩, fun z => by rw [z.2]⟩
        rw [e]
        exact q'
      · have h := of_decide_eq_false h
        exact decide_eq_false fun z => by omega
      have hrs2 : (1 : Int) + (run : Int) * (if decide (p + 1 < W.length ∧ W.getD p 0 = W.getD (p + 1) 0) = true then 1 else 0) = ((SZ.rl (W.drop p) : Nat) : Int) := by
        rw [hrs, ← hrun]
        by_cases z : p + 1 < W.length ∧ W.getD p 0 = W.getD (p + 1) 0
        · rw [if_pos (decide_eq_true z), if_pos z]
          omega
        · rw [if_neg (by rw [decide_eq_false z]; exact fun w => nomatch w), if_neg z]
          omega
      have hz01 : ∀ v : Bool, (-(2 ^ 64 : Int) < (if v = true then 1 else 0) ∧ (if v = true then (1 : Int) else 0) < 2 ^ 64) := fun v => by cases v <;> exact ⟨by decide, by decide⟩
      refine .inr ⟨_, rfl, _, _, rfl, rfl, .inr (hz01 _), _, _, rfl, rfl, ?_⟩
      dsimp (config := { proj := false }) only
      rw [hrs2]
      clear hrs hrs2 hz01
      obtain ⟨r, hrr⟩ : ∃ r, r = SZ.rl (W.drop p) := ⟨_, rfl⟩
      have hputs : ((List.range (i + 1)).map fun less => ptC (W.drop p) (i + 1 - less)).foldl (szS (RZ W i)) (some (preZ W (RZ W i) p)) = some (bst W i) := by
        have := bst_puts (hRz hi) (show W.length - i - 1 < W.length by omega)
        rw [← hp] at this
        have e : ptz W p = (List.range (i + 1)).map fun less => ptC (W.drop p) (i + 1 - less) := by
          unfold ptz
          rw [show W.length - p = i + 1 by omega]
        rw [e] at this
        rw [this]
        unfold bst
        rw [← hp]
      have hpre : preZ W (RZ W i) p = if 0 < bk W p ∧ 2 + (RZ W i).getD (bk W p - 1) 0 ≤ 2 + (RZ W i).getD (r - 1) 0 then ⟨.bk (bk W p) (dst W p), bk W p, 2⟩ else rnC (W.getD p 0) r := by
        rw [hrr]
        rfl
      rw [← hrr] at hrp ⊢
      have hcost := bst_tell' hi
      have tbk := tb.up sk
      obtain ⟨⟨ps, g1, g2⟩, ⟨fs, f, g3, g4, g5⟩, ⟨xs, rp, g6, g7, g8⟩, g9, g10, g11⟩ := tbk.get (n := r) hrp.1 hrp.2 (by omega)
      obtain ⟨x0, hx0⟩ : ∃ x0, x0 = W.getD p 0 := ⟨_, rfl⟩
      rw [← hx0] at hatp hpre
      refine ⟨_, rfl, _, _, rfl, rfl, _, rfl, _, rfl, a, _, _, _, rfl, rfl, SqL.of hak, hatp, lenOk (n := 2) rfl (by decide), fun y1 hy1 => ?_⟩
      dsimp (config := { proj := false }) only
      have w1 := same_new (o := .lst [V.int (16384 + (r : Int)), V.int (x0 : Int)]) hy1
      have v1 : upd Hc y1 (.lst [V.int (16384 + (r : Int)), V.int (x0 : Int)]) y1 = some (.lst (intV [16384 + r, x0])) := by
        rw [upd_same]
        show _ = some (HO.lst [V.int ((16384 + r : Nat) : Int), V.int (x0 : Int)])
        rw [Int.natCast_add]
        rfl
      generalize upd Hc y1 (.lst [V.int (16384 + (r : Int)), V.int (x0 : Int)]) = M1 at w1 v1 ⊢
      refine ⟨_, rfl, _, rfl, _, _, rfl, rfl, fl, _, _, _, rfl, rfl, SqL.of (w1 _ _ g3), g4, y1, f, _, _, rfl, rfl, v1, w1 _ _ g5, le_line (by rw [intV_len, intV_len]; show 2 + _ ≤ _; omega), fun nf hnf => ?_⟩
      have w2 := same_new (o := .lst (intV [16384 + r, x0] ++ intV ((FQ W i).getD (r - 1) []))) hnf
      have v2 : upd M1 nf (.lst (intV [16384 + r, x0] ++ intV ((FQ W i).getD (r - 1) []))) nf = some (.lst (intV ([16384 + r, x0] ++ (FQ W i).getD (r - 1) []))) := by rw [upd_same, intV_app]
      generalize upd M1 nf (.lst (intV [16384 + r, x0] ++ intV ((FQ W i).getD (r - 1) []))) = M2 at w2 v2 ⊢
      have w12 := w1.trans w2
      refine ⟨_, rfl, _, rfl, _, rfl, a, _, _, _, rfl, rfl, SqL.of (w12 _ _ hak), hatp, lenOk (n := 3) rfl (by decide), fun q3 hq3 => ?_⟩
      have w3 := same_new (o := .tup [V.str (Str.ofString "run"), V.int (r : Int), V.int (x0 : Int)]) hq3
      have v3 : upd M2 q3 (.tup [V.str (Str.ofString "run"), V.int (r : Int), V.int (x0 : Int)]) q3 = some (.tup [V.str sRun, V.int (r : Int), V.int (x0 : Int)]) := upd_same
      generalize upd M2 q3 (.tup [V.str (Str.ofString "run"), V.int (r : Int), V.int (x0 : Int)]) = M3 at w3 v3 ⊢
      refine ⟨lenOk (n := 1) rfl (by decide), fun q4 hq4 => ?_⟩
      have w4 := same_new (o := .tup [V.ref q3]) hq4
      have v4 : upd M3 q4 (.tup [V.ref q3]) q4 = some (.tup [V.ref q3]) := upd_same
      generalize upd M3 q4 (.tup [V.ref q3]) = M4 at w4 v4 ⊢
      have w14 := w12.trans (w3.trans w4)
      refine ⟨_, rfl, _, rfl, _, _, rfl, rfl, rl, _, _, _, rfl, rfl, SqL.of (w14 _ _ g6), g7, ?_⟩
      refine pz_cons (pc := .rn r x0) v4 (mk_three (w4 _ _ v3) fun z => z) (g8.up w14) (by omega) fun q5 M5 w5 hq5 => ?_
      have sR := w14.trans w5
      have hbr : BsZ K W i M5 (.ref nf) q5 (some (rnC x0 r)) := ⟨⟨nf, rfl, w5 _ _ (w4 _ _ (w3 _ _ v2))⟩, hq5, rfl, hrp.1, hrp.2, (show 2 ≤ 402 by decide)⟩
      have vnf : M5 nf = some (.lst (intV ([16384 + r, x0] ++ (FQ W i).getD (r - 1) []))) := w5 _ _ (w4 _ _ (w3 _ _ v2))
      clear w1 w2 w3 w4 w5 w12 w14 v1 v2 v3 v4 hq5
      refine ⟨_, rfl, _, _, rfl, rfl, _, rfl, ifB (fun e => ?_) (fun e => ?_)⟩
      · have e : 0 < bk W p := by
          have : (0 : Int) < ((bk W p : Nat) : Int) := of_decide_eq_true e
          omega
        have hbl := bk_le W p
        obtain ⟨⟨ps2, k1, k2⟩, ⟨fs2, f2, k3, k4, k5⟩, ⟨xs2, rp2, k6, k7, k8⟩, k9, k10, k11⟩ := (tbk.up sR).get (n := bk W p) e (by omega) (by omega)
        have hfd := hfd e
        subst hfd
        refine ⟨_, rfl, _, rfl, _, _, rfl, rfl, pr, _, _, _, rfl, rfl, SqL.of k1, k2, _, _, rfl, rfl, _, rfl, nf, _, rfl, .inl (SqL.of vnf), _, _, rfl, rfl, ?_⟩
        dsimp (config := { proj := false }) only
        rw [intV_len, List.length_append]
        refine ⟨_, rfl, ifB (fun e2 => ?_) (fun e2 => ?_)⟩
        · have e2 : (2 : Int) + (((RZ W i).getD (bk W p - 1) 0 : Nat) : Int) ≤ ((2 + ((FQ W i).getD (r - 1) []).length : Nat) : Int) := of_decide_eq_true e2
          rw [if_pos ⟨e, by omega⟩] at hpre
          refine ⟨_, rfl, _, _, rfl, rfl, _, rfl, lenOk (n := 2) rfl (by decide), fun y1 hy1 => ?_⟩
          dsimp (config := { proj := false }) only
          have w1 := same_new (o := .lst [V.int (32768 + ((bk W p : Nat) : Int)), V.int ((dst W p : Nat) : Int)]) hy1
          have v1 : upd M5 y1 (.lst [V.int (32768 + ((bk W p : Nat) : Int)), V.int ((dst W p : Nat) : Int)]) y1 = some (.lst (intV [32768 + bk W p, dst W p])) := by
            rw [upd_same]
            show _ = some (HO.lst [V.int ((32768 + bk W p : Nat) : Int), V.int ((dst W p : Nat) : Int)])
            rw [Int.natCast_add]
            rfl
          generalize upd M5 y1 (.lst [V.int (32768 + ((bk W p : Nat) : Int)), V.int ((dst W p : Nat) : Int)]) = M6 at w1 v1 ⊢
          refine ⟨_, rfl, _, rfl, _, _, rfl, rfl, fl, _, _, _, rfl, rfl, SqL.of (w1 _ _ k3), k4, y1, f2, _, _, rfl, rfl, v1, w1 _ _ k5, le_line (by rw [intV_len, intV_len]; show 2 + _ ≤ _; omega), fun nf2 hnf2 => ?_⟩
          have w2 := same_new (o := .lst (intV [32768 + bk W p, dst W p] ++ intV ((FQ W i).getD (bk W p - 1) []))) hnf2
          have v2 : upd M6 nf2 (.lst (intV [32768 + bk W p, dst W p] ++ intV ((FQ W i).getD (bk W p - 1) []))) nf2 = some (.lst (intV ([32768 + bk W p, dst W p] ++ (FQ W i).getD (bk W p - 1) []))) := by rw [upd_same, intV_app]
          generalize upd M6 nf2 (.lst (intV [32768 + bk W p, dst W p] ++ intV ((FQ W i).getD (bk W p - 1) []))) = M7 at w2 v2 ⊢
          have w12 := w1.trans w2
          refine ⟨_, rfl, _, rfl, lenOk (n := 3) rfl (by decide), fun q3 hq3 => ?_⟩
          have w3 := same_new (o := .tup [V.str (Str.ofString "back"), V.int ((bk W p : Nat) : Int), V.int ((dst W p : Nat) : Int)]) hq3
          have v3 : upd M7 q3 (.tup [V.str (Str.ofString "back"), V.int ((bk W p : Nat) : Int), V.int ((dst W p : Nat) : Int)]) q3 = some (.tup [V.str sBack, V.int ((bk W p : Nat) : Int), V.int ((dst W p : Nat) : Int)]) := upd_same
          generalize upd M7 q3 (.tup [V.str (Str.ofString "back"), V.int ((bk W p : Nat) : Int), V.int ((dst W p : Nat) : Int)]) = M8 at w3 v3 ⊢
          refine ⟨lenOk (n := 1) rfl (by decide), fun q4 hq4 => ?_⟩
          have w4 := same_new (o := .tup [V.ref q3]) hq4
          have v4 : upd M8 q4 (.tup [V.ref q3]) q4 = some (.tup [V.ref q3]) := upd_same
          generalize upd M8 q4 (.tup [V.ref q3]) = M9 at w4 v4 ⊢
          have w14 := w12.trans (w3.trans w4)
          refine ⟨_, rfl, _, rfl, _, _, rfl, rfl, rl, _, _, _, rfl, rfl, SqL.of (w14 _ _ k6), k7, ?_⟩
          refine pz_cons (pc := .bk (bk W p) (dst W p)) v4 (mk_three (w4 _ _ v3) fun z => z) (k8.up w14) (by omega) fun qq J w5 hqq => ?_
          have sJ := sR.trans (w14.trans w5)
          have hbs : BsZ K W i J (.ref nf2) qq (some (preZ W (RZ W i) p)) := by
            rw [hpre]
            exact ⟨⟨nf2, rfl, w5 _ _ (w4 _ _ (w3 _ _ v2))⟩, hqq, rfl, e, (show bk W p ≤ i + 1 by omega), (show 2 ≤ 402 by decide)⟩
          obtain ⟨fi, hfi⟩ : ∃ fi, fi = dst W p := ⟨_, rfl⟩
          rw [← hfi]
          generalize nf2 = f at *
          have hput := hputs
          refine ⟨_, rfl, _, _, rfl, rfl, (i : Int) + 1, rfl, by omega, by omega, ?_⟩
          rw [show ((i : Int) + 1).toNat = i + 1 by omega]
          refine for_it (walk_range (lo := 0) (n := i + 1)) (fun k σ Hc => ∃ (vf : V) (q : Addr) (o14 o15 : Option V), σ = [some (.ref a), some (.ref pr), some (.ref fl), some (.ref rl), some (.ref rd), some (.int (r : Int)), some (.int (i : Int)), some (.int (p : Int)), some (.ref rd), some (.int ((bk W p : Nat) : Int)), some (.int (fi : Int)), o11, some vf, some (.ref q), o14, o15] ∧ Same J Hc ∧ BsZ K W i Hc vf q (((List.range k).map fun less => ptC (W.drop p) (i + 1 - less)).foldl (szS (RZ W i)) (some (preZ W (RZ W i) p))))
            ⟨.ref f, qq, _, _, rfl, Same.refl _, hbs⟩ (fun _ _ _ _ _ => trivial) (fun k x σ Hc He hkk y e => ?_) (fun σ Hc y => ?_)
          · obtain ⟨rfl, ex⟩ := e
            have ex : x = .int (k : Int) := by rw [ex]; exact congrArg V.int (by omega)
            subst ex
            obtain ⟨vf, q1, o14, o15, rfl, sL, hbs⟩ := y
            have sJL := sJ.trans sL
            rw [List.range_succ, List.map_append, List.foldl_append]
            have tbL := tbk.up sJL
            have haL := sJL _ _ hak
            obtain ⟨bb, hbb⟩ : ∃ bb, ((List.range k).map fun less => ptC (W.drop p) (i + 1 - less)).foldl (szS (RZ W i)) (some (preZ W (RZ W i) p)) = some bb := fold_some _ _
            rw [hbb] at hbs ⊢
            clear hbb hput
            refine ⟨_, rfl, _, _, rfl, rfl, _, rfl, _, _, rfl, rfl, ?_⟩
            dsimp (config := { proj := false }) only
            obtain ⟨c, hc⟩ : ∃ c, c = i + 1 - k := ⟨_, rfl⟩
            rw [show (i : Int) + 1 - (k : Int) = (c : Int) by omega]
            have hm : ([k].map fun less => ptC (W.drop p) (i + 1 - less)).foldl (szS (RZ W i)) (some bb) = szS (RZ W i) (some bb) (ptC (W.drop p) c) := by rw [hc]; rfl
            rw [hm]
            obtain ⟨⟨ps, g1, g2⟩, ⟨fs, fc, g3, g4, g5⟩, ⟨xs, rp, g6, g7, g8⟩, g9, g10, g11⟩ := tbL.get (n := c) (by omega) (by omega) (by omega)
            obtain ⟨⟨bf, rfl, b1⟩, b2, b3, b4, b5, b6⟩ := id hbs
            obtain ⟨_, _, _, c9, c10, _⟩ := tbL.get (n := bb.n) b4 b5 (by omega)
            have hcl : ((W.drop p).take c).length = c := by rw [List.length_take, List.length_drop]; omega
            refine ⟨_, rfl, _, _, rfl, rfl, _, rfl, _, rfl, _, _, rfl, rfl, pr, _, _, _, rfl, rfl, SqL.of g1, g2, _, _, rfl, rfl, _, rfl, bf, _, rfl, .inl (SqL.of b1), _, _, rfl, rfl, ?_⟩
            dsimp (config := { proj := false }) only
            rw [intV_len, List.length_append]
            refine ⟨_, rfl, ifB (fun e => ?_) (fun e => ?_)⟩
            · have e := of_decide_eq_true e
              have est : szS (RZ W i) (some bb) (ptC (W.drop p) c) = some (ptC (W.drop p) c) := by
                show PT.stepS _ _ _ _ = _
                unfold PT.stepS
                rw [if_pos ⟨rfl, show czC (RZ W i) (ptC (W.drop p) c) < czC (RZ W i) bb by unfold czC; show 1 + c + (RZ W i).getD (c - 1) 0 < _; omega⟩]
              rw [est]
              refine ⟨_, rfl, lenOk (n := 1) rfl (by decide), fun y1 hy1 => ?_⟩
              have w1 := same_new (o := .lst [V.int (c : Int)]) hy1
              have v1 : upd He y1 (.lst [V.int (c : Int)]) y1 = some (.lst [V.int (c : Int)]) := upd_same
              generalize upd He y1 (.lst [V.int (c : Int)]) = M1 at w1 v1 ⊢
              refine ⟨_, rfl, _, rfl, _, rfl, _, rfl, _, rfl, _, _, rfl, rfl, _, rfl, a, _, rfl, SqL.of (w1 _ _ haL), fun l2 h2 => ?_⟩
              dsimp (config := { proj := false }) only
              rw [show (p : Int) + (c : Int) = ((p + c : Nat) : Int) by omega, cutV_any, show p + c - p = c by omega]
              have w2 := same_new (o := .lst (intV ((W.drop p).take c))) h2
              have v2 : upd M1 l2 (.lst (intV ((W.drop p).take c))) l2 = some (.lst (intV ((W.drop p).take c))) := upd_same
              generalize upd M1 l2 (.lst (intV ((W.drop p).take c))) = M2 at w2 v2 ⊢
              refine ⟨y1, l2, _, _, rfl, rfl, w2 _ _ v1, v2, le_line (by rw [intV_len, hcl]; show 1 + c ≤ _; omega), fun y3 hy3 => ?_⟩
              have w3 := same_new (o := .lst ([V.int (c : Int)] ++ intV ((W.drop p).take c))) hy3
              have v3 : upd M2 y3 (.lst ([V.int (c : Int)] ++ intV ((W.drop p).take c))) y3 = some (.lst (intV (Pz.pt ((W.drop p).take c)).own)) := by
                rw [upd_same]
                show _ = some (HO.lst (V.int ((((W.drop p).take c).length : Nat) : Int) :: intV ((W.drop p).take c)))
                rw [hcl]
                rfl
              generalize upd M2 y3 (.lst ([V.int (c : Int)] ++ intV ((W.drop p).take c))) = M3 at w3 v3 ⊢
              have w13 := w1.trans (w2.trans w3)
              have hol : (Pz.pt ((W.drop p).take c)).own.length = 1 + c := by show ((W.drop p).take c).length + 1 = _; omega
              refine ⟨_, rfl, _, rfl, _, _, rfl, rfl, fl, _, _, _, rfl, rfl, SqL.of (w13 _ _ g3), g4, y3, fc, _, _, rfl, rfl, v3, w13 _ _ g5, le_line (by rw [intV_len, intV_len, hol]; omega), fun nf hnf => ?_⟩
              have w4 := same_new (o := .lst (intV (Pz.pt ((W.drop p).take c)).own ++ intV ((FQ W i).getD (c - 1) []))) hnf
              have v4 : upd M3 nf (.lst (intV (Pz.pt ((W.drop p).take c)).own ++ intV ((FQ W i).getD (c - 1) []))) nf = some (.lst (intV ((Pz.pt ((W.drop p).take c)).own ++ (FQ W i).getD (c - 1) []))) := by rw [upd_same, intV_app]
              generalize upd M3 nf (.lst (intV (Pz.pt ((W.drop p).take c)).own ++ intV ((FQ W i).getD (c - 1) []))) = M4 at w4 v4 ⊢
              have w14 := w13.trans w4
              refine ⟨_, rfl, _, rfl, _, rfl, _, rfl, _, rfl, _, _, rfl, rfl, _, rfl, a, _, rfl, SqL.of (w14 _ _ haL), fun l5 h5 => ?_⟩
              dsimp (config := { proj := false }) only
              rw [show (p : Int) + (c : Int) = ((p + c : Nat) : Int) by omega, cutV_any, show p + c - p = c by omega]
              have w5 := same_new (o := .lst (intV ((W.drop p).take c))) h5
              have v5 : upd M4 l5 (.lst (intV ((W.drop p).take c))) l5 = some (.lst (intV ((W.drop p).take c))) := upd_same
              generalize upd M4 l5 (.lst (intV ((W.drop p).take c))) = M5 at w5 v5 ⊢
              refine ⟨l5, _, rfl, .inl ⟨SqL.of v5, fun t6 ht6 => ?_⟩⟩
              have w6 := same_new (o := .tup (intV ((W.drop p).take c))) ht6
              have v6 : upd M5 t6 (.tup (intV ((W.drop p).take c))) t6 = some (.tup (intV ((W.drop p).take c))) := upd_same
              generalize upd M5 t6 (.tup (intV ((W.drop p).take c))) = M6 at w6 v6 ⊢
              refine ⟨lenOk (n := 2) rfl (by decide), fun q7 hq7 => ?_⟩
              have w7 := same_new (o := .tup [V.str (Str.ofString "put"), V.ref t6]) hq7
              have v7 : upd M6 q7 (.tup [V.str (Str.ofString "put"), V.ref t6]) q7 = some (.tup [V.str sPut, V.ref t6]) := upd_same
              generalize upd M6 q7 (.tup [V.str (Str.ofString "put"), V.ref t6]) = M7 at w7 v7 ⊢
              refine ⟨lenOk (n := 1) rfl (by decide), fun q8 hq8 => ?_⟩
              have w8 := same_new (o := .tup [V.ref q7]) hq8
              have v8 : upd M7 q8 (.tup [V.ref q7]) q8 = some (.tup [V.ref q7]) := upd_same
              generalize upd M7 q8 (.tup [V.ref q7]) = M8 at w8 v8 ⊢
              have w58 := w5.trans (w6.trans (w7.trans w8))
              have w18 := w14.trans w58
              refine ⟨_, rfl, _, rfl, _, _, rfl, rfl, rl, _, _, _, rfl, rfl, SqL.of (w18 _ _ g6), g7, ?_⟩
              refine pz_cons v8 (mk_ptz (w8 _ _ v7) (fun z => z) (XT.of (w8 _ _ (w7 _ _ v6)) fun z => z)) (g8.up w18) (by omega) fun q9 M9 w9 hq9 => ?_
              refine ⟨.ref nf, q9, some (.int (k : Int)), some (.int (c : Int)), rfl, sL.trans (w18.trans w9), ?_⟩
              exact ⟨⟨nf, rfl, w9 _ _ (w58 _ _ v4)⟩, hq9, hol.symm, (show 1 ≤ c by omega), (show c ≤ i + 1 by omega), (show (Pz.pt ((W.drop p).take c)).own.length ≤ 402 by omega)⟩
            · have e := of_decide_eq_false e
              have est : szS (RZ W i) (some bb) (ptC (W.drop p) c) = some bb := by
                show PT.stepS _ _ _ _ = _
                unfold PT.stepS
                rw [if_neg fun z => by
                  have : czC (RZ W i) (ptC (W.drop p) c) < czC (RZ W i) bb := z.2
                  unfold czC at this
                  have : 1 + c + (RZ W i).getD (c - 1) 0 < bb.c + (RZ W i).getD (bb.n - 1) 0 := this
                  omega]
              rw [est]
              exact ⟨_, q1, _, _, rfl, sL, hbs⟩
          · obtain ⟨vf, q1, o14, o15, rfl, sL, hbs⟩ := y
            rw [hput] at hbs
            obtain ⟨⟨bf, rfl, b1⟩, b2, b3, b4, b5, b6⟩ := hbs
            have sJL := sJ.trans sL
            have tbL := tbk.up sJL
            obtain ⟨_, _, _, c9, c10, _⟩ := tbL.get (n := (bst W i).n) b4 b5 (by omega)
            obtain ⟨fs, g3, g4⟩ := tbL.f
            obtain ⟨xs, g6, g7⟩ := tbL.r
            have g1 := tbL.p
            have hfl := g4.1
            have hxl := g7.1
            rw [FQ_len] at hfl
            rw [PQ_len] at hxl
            have smk := sm.trans (sk.trans sJL)
            refine ⟨_, rfl, bf, _, rfl, .inl (SqL.of b1), lenOk (n := 1) rfl (by decide), fun l1 h1 => ?_⟩
            rw [intV_len, List.length_append, c9, ← b3, show (((bst W i).c + (RZ W i).getD ((bst W i).n - 1) 0 : Nat) : Int) = ((czC (RZ W i) (bst W i) : Nat) : Int) from rfl]
            have t1 := same_new (o := .lst [V.int ((czC (RZ W i) (bst W i) : Nat) : Int)]) h1
            have u1 : upd Hc l1 (.lst [V.int ((czC (RZ W i) (bst W i) : Nat) : Int)]) l1 = some (.lst [V.int ((czC (RZ W i) (bst W i) : Nat) : Int)]) := upd_same
            generalize upd Hc l1 (.lst [V.int ((czC (RZ W i) (bst W i) : Nat) : Int)]) = J1 at t1 u1 ⊢
            refine ⟨_, rfl, l1, pr, _, _, rfl, rfl, u1, t1 _ _ g1, le_line (by rw [intV_len, RZ_len]; show 1 + _ ≤ _; omega), fun l2 h2 => ?_⟩
            have t2 := same_new (o := .lst ([V.int ((czC (RZ W i) (bst W i) : Nat) : Int)] ++ intV (RZ W i))) h2
            have u2 : upd J1 l2 (.lst ([V.int ((czC (RZ W i) (bst W i) : Nat) : Int)] ++ intV (RZ W i))) l2 = some (.lst (intV (czC (RZ W i) (bst W i) :: RZ W i))) := upd_same
            generalize upd J1 l2 (.lst ([V.int ((czC (RZ W i) (bst W i) : Nat) : Int)] ++ intV (RZ W i))) = J2 at t2 u2 ⊢
            refine ⟨_, rfl, lenOk (n := 1) rfl (by decide), fun l3 h3 => ?_⟩
            have t3 := same_new (o := .lst [V.ref bf]) h3
            have u3 : upd J2 l3 (.lst [V.ref bf]) l3 = some (.lst [V.ref bf]) := upd_same
            generalize upd J2 l3 (.lst [V.ref bf]) = J3 at t3 u3 ⊢
            refine ⟨_, rfl, l3, fl, _, _, rfl, rfl, u3, t3 _ _ (t2 _ _ (t1 _ _ g3)), le_line (by rw [hfl]; show 1 + _ ≤ _; omega), fun l4 h4 => ?_⟩
            have t4 := same_new (o := .lst ([V.ref bf] ++ fs)) h4
            have u4 : upd J3 l4 (.lst ([V.ref bf] ++ fs)) l4 = some (.lst (V.ref bf :: fs)) := upd_same
            generalize upd J3 l4 (.lst ([V.ref bf] ++ fs)) = J4 at t4 u4 ⊢
            refine ⟨_, rfl, lenOk (n := 1) rfl (by decide), fun l5 h5 => ?_⟩
            have t5 := same_new (o := .lst [V.ref q1]) h5
            have u5 : upd J4 l5 (.lst [V.ref q1]) l5 = some (.lst [V.ref q1]) := upd_same
            generalize upd J4 l5 (.lst [V.ref q1]) = J5 at t5 u5 ⊢
            have t15 := t1.trans (t2.trans (t3.trans (t4.trans t5)))
            refine ⟨_, rfl, l5, rl, _, _, rfl, rfl, u5, t15 _ _ g6, le_line (by rw [hxl]; show 1 + _ ≤ _; omega), fun l6 h6 => ?_⟩
            have t6 := same_new (o := .lst ([V.ref q1] ++ xs)) h6
            have tA := t15.trans t6
            have t36 := t3.trans (t4.trans (t5.trans t6))
            refine ⟨l2, l4, l6, rd, r, _, _, _, _, _, _, _, _, _, _, rv, rfl, smk.trans tA, ?_, tA _ _ (sJL _ _ erk), ?_, ?_⟩
            · exact (tbL.up tA).cons hi (tA _ _ g3) (tA _ _ g6) (t36 _ _ u2) (t6 _ _ (t5 _ _ u4)) upd_same (tA _ _ b1) (b2.up tA)
            · rw [show W.length - (i + 1) = p by omega]
              exact hah2
            · rw [show W.length - (i + 1) = p by omega]
              exact hrr
        · have e2 : ¬ (2 : Int) + (((RZ W i).getD (bk W p - 1) 0 : Nat) : Int) ≤ ((2 + ((FQ W i).getD (r - 1) []).length : Nat) : Int) := of_decide_eq_false e2
          rw [if_neg (fun z => by omega)] at hpre
          rw [← hpre] at hbr
          generalize M5 = J at *
          generalize q5 = qq at *
          have sJ := sR
          have hbs := hbr
          clear g3 g4 g5 k3 k4 k5 f f2
          generalize nf = f at *
          obtain ⟨fi, hfi⟩ : ∃ fi, fi = dst W p := ⟨_, rfl⟩
          rw [← hfi]
          have hput := hputs
          refine ⟨_, rfl, _, _, rfl, rfl, (i : Int) + 1, rfl, by omega, by omega, ?_⟩
          rw [show ((i : Int) + 1).toNat = i + 1 by omega]
          refine for_it (walk_range (lo := 0) (n := i + 1)) (fun k σ Hc => ∃ (vf : V) (q : Addr) (o14 o15 : Option V), σ = [some (.ref a), some (.ref pr), some (.ref fl), some (.ref rl), some (.ref rd), some (.int (r : Int)), some (.int (i : Int)), some (.int (p : Int)), some (.ref rd), some (.int ((bk W p : Nat) : Int)), some (.int (fi : Int)), o11, some vf, some (.ref q), o14, o15] ∧ Same J Hc ∧ BsZ K W i Hc vf q (((List.range k).map fun less => ptC (W.drop p) (i + 1 - less)).foldl (szS (RZ W i)) (some (preZ W (RZ W i) p))))
            ⟨.ref f, qq, _, _, rfl, Same.refl _, hbs⟩ (fun _ _ _ _ _ => trivial) (fun k x σ Hc He hkk y e => ?_) (fun σ Hc y => ?_)
          · obtain ⟨rfl, ex⟩ := e
            have ex : x = .int (k : Int) := by rw [ex]; exact congrArg V.int (by omega)
            subst ex
            obtain ⟨vf, q1, o14, o15, rfl, sL, hbs⟩ := y
            have sJL := sJ.trans sL
            rw [List.range_succ, List.map_append, List.foldl_append]
            have tbL := tbk.up sJL
            have haL := sJL _ _ hak
            obtain ⟨bb, hbb⟩ : ∃ bb, ((List.range k).map fun less => ptC (W.drop p) (i + 1 - less)).foldl (szS (RZ W i)) (some (preZ W (RZ W i) p)) = some bb := fold_some _ _
            rw [hbb] at hbs ⊢
            clear hbb hput
            refine ⟨_, rfl, _, _, rfl, rfl, _, rfl, _, _, rfl, rfl, ?_⟩
            dsimp (config := { proj := false }) only
            obtain ⟨c, hc⟩ : ∃ c, c = i + 1 - k := ⟨_, rfl⟩
            rw [show (i : Int) + 1 - (k : Int) = (c : Int) by omega]
            have hm : ([k].map fun less => ptC (W.drop p) (i + 1 - less)).foldl (szS (RZ W i)) (some bb) = szS (RZ W i) (some bb) (ptC (W.drop p) c) := by rw [hc]; rfl
            rw [hm]
            obtain ⟨⟨ps, g1, g2⟩, ⟨fs, fc, g3, g4, g5⟩, ⟨xs, rp, g6, g7, g8⟩, g9, g10, g11⟩ := tbL.get (n := c) (by omega) (by omega) (by omega)
            obtain ⟨⟨bf, rfl, b1⟩, b2, b3, b4, b5, b6⟩ := id hbs
            obtain ⟨_, _, _, c9, c10, _⟩ := tbL.get (n := bb.n) b4 b5 (by omega)
            have hcl : ((W.drop p).take c).length = c := by rw [List.length_take, List.length_drop]; omega
            refine ⟨_, rfl, _, _, rfl, rfl, _, rfl, _, rfl, _, _, rfl, rfl, pr, _, _, _, rfl, rfl, SqL.of g1, g2, _, _, rfl, rfl, _, rfl, bf, _, rfl, .inl (SqL.of b1), _, _, rfl, rfl, ?_⟩
            dsimp (config := { proj := false }) only
            rw [intV_len, List.length_append]
            refine ⟨_, rfl, ifB (fun e => ?_) (fun e => ?_)⟩
            · have e := of_decide_eq_true e
              have est : szS (RZ W i) (some bb) (ptC (W.drop p) c) = some (ptC (W.drop p) c) := by
                show PT.stepS _ _ _ _ = _
                unfold PT.stepS
                rw [if_pos ⟨rfl, show czC (RZ W i) (ptC (W.drop p) c) < czC (RZ W i) bb by unfold czC; show 1 + c + (RZ W i).getD (c - 1) 0 < _; omega⟩]
              rw [est]
              refine ⟨_, rfl, lenOk (n := 1) rfl (by decide), fun y1 hy1 => ?_⟩
              have w1 := same_new (o := .lst [V.int (c : Int)]) hy1
              have v1 : upd He y1 (.lst [V.int (c : Int)]) y1 = some (.lst [V.int (c : Int)]) := upd_same
              generalize upd He y1 (.lst [V.int (c : Int)]) = M1 at w1 v1 ⊢
              refine ⟨_, rfl, _, rfl, _, rfl, _, rfl, _, rfl, _, _, rfl, rfl, _, rfl, a, _, rfl, SqL.of (w1 _ _ haL), fun l2 h2 => ?_⟩
              dsimp (config := { proj := false }) only
              rw [show (p : Int) + (c : Int) = ((p + c : Nat) : Int) by omega, cutV_any, show p + c - p = c by omega]
              have w2 := same_new (o := .lst (intV ((W.drop p).take c))) h2
              have v2 : upd M1 l2 (.lst (intV ((W.drop p).take c))) l2 = some (.lst (intV ((W.drop p).take c))) := upd_same
              generalize upd M1 l2 (.lst (intV ((W.drop p).take c))) = M2 at w2 v2 ⊢
              refine ⟨y1, l2, _, _, rfl, rfl, w2 _ _ v1, v2, le_line (by rw [intV_len, hcl]; show 1 + c ≤ _; omega), fun y3 hy3 => ?_⟩
              have w3 := same_new (o := .lst ([V.int (c : Int)] ++ intV ((W.drop p).take c))) hy3
              have v3 : upd M2 y3 (.lst ([V.int (c : Int)] ++ intV ((W.drop p).take c))) y3 = some (.lst (intV (Pz.pt ((W.drop p).take c)).own)) := by
                rw [upd_same]
                show _ = some (HO.lst (V.int ((((W.drop p).take c).length : Nat) : Int) :: intV ((W.drop p).take c)))
                rw [hcl]
                rfl
              generalize upd M2 y3 (.lst ([V.int (c : Int)] ++ intV ((W.drop p).take c))) = M3 at w3 v3 ⊢
              have w13 := w1.trans (w2.trans w3)
              have hol : (Pz.pt ((W.drop p).take c)).own.length = 1 + c := by show ((W.drop p).take c).length + 1 = _; omega
              refine ⟨_, rfl, _, rfl, _, _, rfl, rfl, fl, _, _, _, rfl, rfl, SqL.of (w13 _ _ g3), g4, y3, fc, _, _, rfl, rfl, v3, w13 _ _ g5, le_line (by rw [intV_len, intV_len, hol]; omega), fun nf hnf => ?_⟩
              have w4 := same_new (o := .lst (intV (Pz.pt ((W.drop p).take c)).own ++ intV ((FQ W i).getD (c - 1) []))) hnf
              have v4 : upd M3 nf (.lst (intV (Pz.pt ((W.drop p).take c)).own ++ intV ((FQ W i).getD (c - 1) []))) nf = some (.lst (intV ((Pz.pt ((W.drop p).take c)).own ++ (FQ W i).getD (c - 1) []))) := by rw [upd_same, intV_app]
              generalize upd M3 nf (.lst (intV (Pz.pt ((W.drop p).take c)).own ++ intV ((FQ W i).getD (c - 1) []))) = M4 at w4 v4 ⊢
              have w14 := w13.trans w4
              refine ⟨_, rfl, _, rfl, _, rfl, _, rfl, _, rfl, _, _, rfl, rfl, _, rfl, a, _, rfl, SqL.of (w14 _ _ haL), fun l5 h5 => ?_⟩
              dsimp (config := { proj := false }) only
              rw [show (p : Int) + (c : Int) = ((p + c : Nat) : Int) by omega, cutV_any, show p + c - p = c by omega]
              have w5 := same_new (o := .lst (intV ((W.drop p).take c))) h5
              have v5 : upd M4 l5 (.lst (intV ((W.drop p).take c))) l5 = some (.lst (intV ((W.drop p).take c))) := upd_same
              generalize upd M4 l5 (.lst (intV ((W.drop p).take c))) = M5 at w5 v5 ⊢
              refine ⟨l5, _, rfl, .inl ⟨SqL.of v5, fun t6 ht6 => ?_⟩⟩
              have w6 := same_new (o := .tup (intV ((W.drop p).take c))) ht6
              have v6 : upd M5 t6 (.tup (intV ((W.drop p).take c))) t6 = some (.tup (intV ((W.drop p).take c))) := upd_same
              generalize upd M5 t6 (.tup (intV ((W.drop p).take c))) = M6 at w6 v6 ⊢
              refine ⟨lenOk (n := 2) rfl (by decide), fun q7 hq7 => ?_⟩
              have w7 := same_new (o := .tup [V.str (Str.ofString "put"), V.ref t6]) hq7
              have v7 : upd M6 q7 (.tup [V.str (Str.ofString "put"), V.ref t6]) q7 = some (.tup [V.str sPut, V.ref t6]) := upd_same
              generalize upd M6 q7 (.tup [V.str (Str.ofString "put"), V.ref t6]) = M7 at w7 v7 ⊢
              refine ⟨lenOk (n := 1) rfl (by decide), fun q8 hq8 => ?_⟩
              have w8 := same_new (o := .tup [V.ref q7]) hq8
              have v8 : upd M7 q8 (.tup [V.ref q7]) q8 = some (.tup [V.ref q7]) := upd_same
              generalize upd M7 q8 (.tup [V.ref q7]) = M8 at w8 v8 ⊢
              have w58 := w5.trans (w6.trans (w7.trans w8))
              have w18 := w14.trans w58
              refine ⟨_, rfl, _, rfl, _, _, rfl, rfl, rl, _, _, _, rfl, rfl, SqL.of (w18 _ _ g6), g7, ?_⟩
              refine pz_cons v8 (mk_ptz (w8 _ _ v7) (fun z => z) (XT.of (w8 _ _ (w7 _ _ v6)) fun z => z)) (g8.up w18) (by omega) fun q9 M9 w9 hq9 => ?_
              refine ⟨.ref nf, q9, some (.int (k : Int)), some (.int (c : Int)), rfl, sL.trans (w18.trans w9), ?_⟩
              exact ⟨⟨nf, rfl, w9 _ _ (w58 _ _ v4)⟩, hq9, hol.symm, (show 1 ≤ c by omega), (show c ≤ i + 1 by omega), (show (Pz.pt ((W.drop p).take c)).own.length ≤ 402 by omega)⟩
            · have e := of_decide_eq_false e
              have est : szS (RZ W i) (some bb) (ptC (W.drop p) c) = some bb := by
                show PT.stepS _ _ _ _ = _
                unfold PT.stepS
                rw [if_neg fun z => by
                  have : czC (RZ W i) (ptC (W.drop p) c) < czC (RZ W i) bb := z.2
                  unfold czC at this
                  have : 1 + c + (RZ W i).getD (c - 1) 0 < bb.c + (RZ W i).getD (bb.n - 1) 0 := this
                  omega]
              rw [est]
              exact ⟨_, q1, _, _, rfl, sL, hbs⟩
          · obtain ⟨vf, q1, o14, o15, rfl, sL, hbs⟩ := y
            rw [hput] at hbs
            obtain ⟨⟨bf, rfl, b1⟩, b2, b3, b4, b5, b6⟩ := hbs
            have sJL := sJ.trans sL
            have tbL := tbk.up sJL
            obtain ⟨_, _, _, c9, c10, _⟩ := tbL.get (n := (bst W i).n) b4 b5 (by omega)
            obtain ⟨fs, g3, g4⟩ := tbL.f
            obtain ⟨xs, g6, g7⟩ := tbL.r
            have g1 := tbL.p
            have hfl := g4.1
            have hxl := g7.1
            rw [FQ_len] at hfl
            rw [PQ_len] at hxl
            have smk := sm.trans (sk.trans sJL)
            refine ⟨_, rfl, bf, _, rfl, .inl (SqL.of b1), lenOk (n := 1) rfl (by decide), fun l1 h1 => ?_⟩
            rw [intV_len, List.length_append, c9, ← b3, show (((bst W i).c + (RZ W i).getD ((bst W i).n - 1) 0 : Nat) : Int) = ((czC (RZ W i) (bst W i) : Nat) : Int) from rfl]
            have t1 := same_new (o := .lst [V.int ((czC (RZ W i) (bst W i) : Nat) : Int)]) h1
            have u1 : upd Hc l1 (.lst [V.int ((czC (RZ W i) (bst W i) : Nat) : Int)]) l1 = some (.lst [V.int ((czC (RZ W i) (bst W i) : Nat) : Int)]) := upd_same
            generalize upd Hc l1 (.lst [V.int ((czC (RZ W i) (bst W i) : Nat) : Int)]) = J1 at t1 u1 ⊢
            refine ⟨_, rfl, l1, pr, _, _, rfl, rfl, u1, t1 _ _ g1, le_line (by rw [intV_len, RZ_len]; show 1 + _ ≤ _; omega), fun l2 h2 => ?_⟩
            have t2 := same_new (o := .lst ([V.int ((czC (RZ W i) (bst W i) : Nat) : Int)] ++ intV (RZ W i))) h2
            have u2 : upd J1 l2 (.lst ([V.int ((czC (RZ W i) (bst W i) : Nat) : Int)] ++ intV (RZ W i))) l2 = some (.lst (intV (czC (RZ W i) (bst W i) :: RZ W i))) := upd_same
            generalize upd J1 l2 (.lst ([V.int ((czC (RZ W i) (bst W i) : Nat) : Int)] ++ intV (RZ W i))) = J2 at t2 u2 ⊢
            refine ⟨_, rfl, lenOk (n := 1) rfl (by decide), fun l3 h3 => ?_⟩
            have t3 := same_new (o := .lst [V.ref bf]) h3
            have u3 : upd J2 l3 (.lst [V.ref bf]) l3 = some (.lst [V.ref bf]) := upd_same
            generalize upd J2 l3 (.lst [V.ref bf]) = J3 at t3 u3 ⊢
            refine ⟨_, rfl, l3, fl, _, _, rfl, rfl, u3, t3 _ _ (t2 _ _ (t1 _ _ g3)), le_line (by rw [hfl]; show 1 + _ ≤ _; omega), fun l4 h4 => ?_⟩
            have t4 := same_new (o := .lst ([V.ref bf] ++ fs)) h4
            have u4 : upd J3 l4 (.lst ([V.ref bf] ++ fs)) l4 = some (.lst (V.ref bf :: fs)) := upd_same
            generalize upd J3 l4 (.lst ([V.ref bf] ++ fs)) = J4 at t4 u4 ⊢
            refine ⟨_, rfl, lenOk (n := 1) rfl (by decide), fun l5 h5 => ?_⟩
            have t5 := same_new (o := .lst [V.ref q1]) h5
            have u5 : upd J4 l5 (.lst [V.ref q1]) l5 = some (.lst [V.ref q1]) := upd_same
            generalize upd J4 l5 (.lst [V.ref q1]) = J5 at t5 u5 ⊢
            have t15 := t1.trans (t2.trans (t3.trans (t4.trans t5)))
            refine ⟨_, rfl, l5, rl, _, _, rfl, rfl, u5, t15 _ _ g6, le_line (by rw [hxl]; show 1 + _ ≤ _; omega), fun l6 h6 => ?_⟩
            have t6 := same_new (o := .lst ([V.ref q1] ++ xs)) h6
            have tA := t15.trans t6
            have t36 := t3.trans (t4.trans (t5.trans t6))
            refine ⟨l2, l4, l6, rd, r, _, _, _, _, _, _, _, _, _, _, rv, rfl, smk.trans tA, ?_, tA _ _ (sJL _ _ erk), ?_, ?_⟩
            · exact (tbL.up tA).cons hi (tA _ _ g3) (tA _ _ g6) (t36 _ _ u2) (t6 _ _ (t5 _ _ u4)) upd_same (tA _ _ b1) (b2.up tA)
            · rw [show W.length - (i + 1) = p by omega]
              exact hah2
            · rw [show W.length - (i + 1) = p by omega]
              exact hrr
      · have e : ¬ 0 < bk W p := by
          have : ¬ (0 : Int) < ((bk W p : Nat) : Int) := of_decide_eq_false e
          omega
        rw [if_neg (fun z => e z.1)] at hpre
        rw [← hpre] at hbr
        generalize M5 = J at *
        generalize q5 = qq at *
        have sJ := sR
        have hbs := hbr
        clear g3 g4 g5 f
        generalize nf = f at *
        have hput := hputs
        refine ⟨_, rfl, _, _, rfl, rfl, (i : Int) + 1, rfl, by omega, by omega, ?_⟩
        rw [show ((i : Int) + 1).toNat = i + 1 by omega]
        refine for_it (walk_range (lo := 0) (n := i + 1)) (fun k σ Hc => ∃ (vf : V) (q : Addr) (o14 o15 : Option V), σ = [some (.ref a), some (.ref pr), some (.ref fl), some (.ref rl), some (.ref rd), some (.int (r : Int)), some (.int (i : Int)), some (.int (p : Int)), some (.ref rd), some (.int ((bk W p : Nat) : Int)), some (.int (fi : Int)), o11, some vf, some (.ref q), o14, o15] ∧ Same J Hc ∧ BsZ K W i Hc vf q (((List.range k).map fun less => ptC (W.drop p) (i + 1 - less)).foldl (szS (RZ W i)) (some (preZ W (RZ W i) p))))
          ⟨.ref f, qq, _, _, rfl, Same.refl _, hbs⟩ (fun _ _ _ _ _ => trivial) (fun k x σ Hc He hkk y e => ?_) (fun σ Hc y => ?_)
        · obtain ⟨rfl, ex⟩ := e
          have ex : x = .int (k : Int) := by rw [ex]; exact congrArg V.int (by omega)
          subst ex
          obtain ⟨vf, q1, o14, o15, rfl, sL, hbs⟩ := y
          have sJL := sJ.trans sL
          rw [List.range_succ, List.map_append, List.foldl_append]
          have tbL := tbk.up sJL
          have haL := sJL _ _ hak
          obtain ⟨bb, hbb⟩ : ∃ bb, ((List.range k).map fun less => ptC (W.drop p) (i + 1 - less)).foldl (szS (RZ W i)) (some (preZ W (RZ W i) p)) = some bb := fold_some _ _
          rw [hbb] at hbs ⊢
          clear hbb hput
          refine ⟨_, rfl, _, _, rfl, rfl, _, rfl, _, _, rfl, rfl, ?_⟩
          dsimp (config := { proj := false }) only
          obtain ⟨c, hc⟩ : ∃ c, c = i + 1 - k := ⟨_, rfl⟩
          rw [show (i : Int) + 1 - (k : Int) = (c : Int) by omega]
          have hm : ([k].map fun less => ptC (W.drop p) (i + 1 - less)).foldl (szS (RZ W i)) (some bb) = szS (RZ W i) (some bb) (ptC (W.drop p) c) := by rw [hc]; rfl
          rw [hm]
          obtain ⟨⟨ps, g1, g2⟩, ⟨fs, fc, g3, g4, g5⟩, ⟨xs, rp, g6, g7, g8⟩, g9, g10, g11⟩ := tbL.get (n := c) (by omega) (by omega) (by omega)
          obtain ⟨⟨bf, rfl, b1⟩, b2, b3, b4, b5, b6⟩ := id hbs
          obtain ⟨_, _, _, c9, c10, _⟩ := tbL.get (n := bb.n) b4 b5 (by omega)
          have hcl : ((W.drop p).take c).length = c := by rw [List.length_take, List.length_drop]; omega
          refine ⟨_, rfl, _, _, rfl, rfl, _, rfl, _, rfl, _, _, rfl, rfl, pr, _, _, _, rfl, rfl, SqL.of g1, g2, _, _, rfl, rfl, _, rfl, bf, _, rfl, .inl (SqL.of b1), _, _, rfl, rfl, ?_⟩
          dsimp (config := { proj := false }) only
          rw [intV_len, List.length_append]
          refine ⟨_, rfl, ifB (fun e => ?_) (fun e => ?_)⟩
          · have e := of_decide_eq_true e
            have est : szS (RZ W i) (some bb) (ptC (W.drop p) c) = some (ptC (W.drop p) c) := by
              show PT.stepS _ _ _ _ = _
              unfold PT.stepS
              rw [if_pos ⟨rfl, show czC (RZ W i) (ptC (W.drop p) c) < czC (RZ W i) bb by unfold czC; show 1 + c + (RZ W i).getD (c - 1) 0 < _; omega⟩]
            rw [est]
            refine ⟨_, rfl, lenOk (n := 1) rfl (by decide), fun y1 hy1 => ?_⟩
            have w1 := same_new (o := .lst [V.int (c : Int)]) hy1
            have v1 : upd He y1 (.lst [V.int (c : Int)]) y1 = some (.lst [V.int (c : Int)]) := upd_same
            generalize upd He y1 (.lst [V.int (c : Int)]) = M1 at w1 v1 ⊢
            refine ⟨_, rfl, _, rfl, _, rfl, _, rfl, _, rfl, _, _, rfl, rfl, _, rfl, a, _, rfl, SqL.of (w1 _ _ haL), fun l2 h2 => ?_⟩
            dsimp (config := { proj := false }) only
            rw [show (p : Int) + (c : Int) = ((p + c : Nat) : Int) by omega, cutV_any, show p + c - p = c by omega]
            have w2 := same_new (o := .lst (intV ((W.drop p).take c))) h2
            have v2 : upd M1 l2 (.lst (intV ((W.drop p).take c))) l2 = some (.lst (intV ((W.drop p).take c))) := upd_same
            generalize upd M1 l2 (.lst (intV ((W.drop p).take c))) = M2 at w2 v2 ⊢
            refine ⟨y1, l2, _, _, rfl, rfl, w2 _ _ v1, v2, le_line (by rw [intV_len, hcl]; show 1 + c ≤ _; omega), fun y3 hy3 => ?_⟩
            have w3 := same_new (o := .lst ([V.int (c : Int)] ++ intV ((W.drop p).take c))) hy3
            have v3 : upd M2 y3 (.lst ([V.int (c : Int)] ++ intV ((W.drop p).take c))) y3 = some (.lst (intV (Pz.pt ((W.drop p).take c)).own)) := by
              rw [upd_same]
              show _ = some (HO.lst (V.int ((((W.drop p).take c).length : Nat) : Int) :: intV ((W.drop p).take c)))
              rw [hcl]
              rfl
            generalize upd M2 y3 (.lst ([V.int (c : Int)] ++ intV ((W.drop p).take c))) = M3 at w3 v3 ⊢
            have w13 := w1.trans (w2.trans w3)
            have hol : (Pz.pt ((W.drop p).take c)).own.length = 1 + c := by show ((W.drop p).take c).length + 1 = _; omega
            refine ⟨_, rfl, _, rfl, _, _, rfl, rfl, fl, _, _, _, rfl, rfl, SqL.of (w13 _ _ g3), g4, y3, fc, _, _, rfl, rfl, v3, w13 _ _ g5, le_line (by rw [intV_len, intV_len, hol]; omega), fun nf hnf => ?_⟩
            have w4 := same_new (o := .lst (intV (Pz.pt ((W.drop p).take c)).own ++ intV ((FQ W i).getD (c - 1) []))) hnf
            have v4 : upd M3 nf (.lst (intV (Pz.pt ((W.drop p).take c)).own ++ intV ((FQ W i).getD (c - 1) []))) nf = some (.lst (intV ((Pz.pt ((W.drop p).take c)).own ++ (FQ W i).getD (c - 1) []))) := by rw [upd_same, intV_app]
            generalize upd M3 nf (.lst (intV (Pz.pt ((W.drop p).take c)).own ++ intV ((FQ W i).getD (c - 1) []))) = M4 at w4 v4 ⊢
            have w14 := w13.trans w4
            refine ⟨_, rfl, _, rfl, _, rfl, _, rfl, _, rfl, _, _, rfl, rfl, _, rfl, a, _, rfl, SqL.of (w14 _ _ haL), fun l5 h5 => ?_⟩
            dsimp (config := { proj := false }) only
            rw [show (p : Int) + (c : Int) = ((p + c : Nat) : Int) by omega, cutV_any, show p + c - p = c by omega]
            have w5 := same_new (o := .lst (intV ((W.drop p).take c))) h5
            have v5 : upd M4 l5 (.lst (intV ((W.drop p).take c))) l5 = some (.lst (intV ((W.drop p).take c))) := upd_same
            generalize upd M4 l5 (.lst (intV ((W.drop p).take c))) = M5 at w5 v5 ⊢
            refine ⟨l5, _, rfl, .inl ⟨SqL.of v5, fun t6 ht6 => ?_⟩⟩
            have w6 := same_new (o := .tup (intV ((W.drop p).take c))) ht6
            have v6 : upd M5 t6 (.tup (intV ((W.drop p).take c))) t6 = some (.tup (intV ((W.drop p).take c))) := upd_same
            generalize upd M5 t6 (.tup (intV ((W.drop p).take c))) = M6 at w6 v6 ⊢
            refine ⟨lenOk (n := 2) rfl (by decide), fun q7 hq7 => ?_⟩
            have w7 := same_new (o := .tup [V.str (Str.ofString "put"), V.ref t6]) hq7
            have v7 : upd M6 q7 (.tup [V.str (Str.ofString "put"), V.ref t6]) q7 = some (.tup [V.str sPut, V.ref t6]) := upd_same
            generalize upd M6 q7 (.tup [V.str (Str.ofString "put"), V.ref t6]) = M7 at w7 v7 ⊢
            refine ⟨lenOk (n := 1) rfl (by decide), fun q8 hq8 => ?_⟩
            have w8 := same_new (o := .tup [V.ref q7]) hq8
            have v8 : upd M7 q8 (.tup [V.ref q7]) q8 = some (.tup [V.ref q7]) := upd_same
            generalize upd M7 q8 (.tup [V.ref q7]) = M8 at w8 v8 ⊢
            have w58 := w5.trans (w6.trans (w7.trans w8))
            have w18 := w14.trans w58
            refine ⟨_, rfl, _, rfl, _, _, rfl, rfl, rl, _, _, _, rfl, rfl, SqL.of (w18 _ _ g6), g7, ?_⟩
            refine pz_cons v8 (mk_ptz (w8 _ _ v7) (fun z => z) (XT.of (w8 _ _ (w7 _ _ v6)) fun z => z)) (g8.up w18) (by omega) fun q9 M9 w9 hq9 => ?_
            refine ⟨.ref nf, q9, some (.int (k : Int)), some (.int (c : Int)), rfl, sL.trans (w18.trans w9), ?_⟩
            exact ⟨⟨nf, rfl, w9 _ _ (w58 _ _ v4)⟩, hq9, hol.symm, (show 1 ≤ c by omega), (show c ≤ i + 1 by omega), (show (Pz.pt ((W.drop p).take c)).own.length ≤ 402 by omega)⟩
          · have e := of_decide_eq_false e
            have est : szS (RZ W i) (some bb) (ptC (W.drop p) c) = some bb := by
              show PT.stepS _ _ _ _ = _
              unfold PT.stepS
              rw [if_neg fun z => by
                have : czC (RZ W i) (ptC (W.drop p) c) < czC (RZ W i) bb := z.2
                unfold czC at this
                have : 1 + c + (RZ W i).getD (c - 1) 0 < bb.c + (RZ W i).getD (bb.n - 1) 0 := this
                omega]
            rw [est]
            exact ⟨_, q1, _, _, rfl, sL, hbs⟩
        · obtain ⟨vf, q1, o14, o15, rfl, sL, hbs⟩ := y
          rw [hput] at hbs
          obtain ⟨⟨bf, rfl, b1⟩, b2, b3, b4, b5, b6⟩ := hbs
          have sJL := sJ.trans sL
          have tbL := tbk.up sJL
          obtain ⟨_, _, _, c9, c10, _⟩ := tbL.get (n := (bst W i).n) b4 b5 (by omega)
          obtain ⟨fs, g3, g4⟩ := tbL.f
          obtain ⟨xs, g6, g7⟩ := tbL.r
          have g1 := tbL.p
          have hfl := g4.1
          have hxl := g7.1
          rw [FQ_len] at hfl
          rw [PQ_len] at hxl
          have smk := sm.trans (sk.trans sJL)
          refine ⟨_, rfl, bf, _, rfl, .inl (SqL.of b1), lenOk (n := 1) rfl (by decide), fun l1 h1 => ?_⟩
          rw [intV_len, List.length_append, c9, ← b3, show (((bst W i).c + (RZ W i).getD ((bst W i).n - 1) 0 : Nat) : Int) = ((czC (RZ W i) (bst W i) : Nat) : Int) from rfl]
          have t1 := same_new (o := .lst [V.int ((czC (RZ W i) (bst W i) : Nat) : Int)]) h1
          have u1 : upd Hc l1 (.lst [V.int ((czC (RZ W i) (bst W i) : Nat) : Int)]) l1 = some (.lst [V.int ((czC (RZ W i) (bst W i) : Nat) : Int)]) := upd_same
          generalize upd Hc l1 (.lst [V.int ((czC (RZ W i) (bst W i) : Nat) : Int)]) = J1 at t1 u1 ⊢
          refine ⟨_, rfl, l1, pr, _, _, rfl, rfl, u1, t1 _ _ g1, le_line (by rw [intV_len, RZ_len]; show 1 + _ ≤ _; omega), fun l2 h2 => ?_⟩
          have t2 := same_new (o := .lst ([V.int ((czC (RZ W i) (bst W i) : Nat) : Int)] ++ intV (RZ W i))) h2
          have u2 : upd J1 l2 (.lst ([V.int ((czC (RZ W i) (bst W i) : Nat) : Int)] ++ intV (RZ W i))) l2 = some (.lst (intV (czC (RZ W i) (bst W i) :: RZ W i))) := upd_same
          generalize upd J1 l2 (.lst ([V.int ((czC (RZ W i) (bst W i) : Nat) : Int)] ++ intV (RZ W i))) = J2 at t2 u2 ⊢
          refine ⟨_, rfl, lenOk (n := 1) rfl (by decide), fun l3 h3 => ?_⟩
          have t3 := same_new (o := .lst [V.ref bf]) h3
          have u3 : upd J2 l3 (.lst [V.ref bf]) l3 = some (.lst [V.ref bf]) := upd_same
          generalize upd J2 l3 (.lst [V.ref bf]) = J3 at t3 u3 ⊢
          refine ⟨_, rfl, l3, fl, _, _, rfl, rfl, u3, t3 _ _ (t2 _ _ (t1 _ _ g3)), le_line (by rw [hfl]; show 1 + _ ≤ _; omega), fun l4 h4 => ?_⟩
          have t4 := same_new (o := .lst ([V.ref bf] ++ fs)) h4
          have u4 : upd J3 l4 (.lst ([V.ref bf] ++ fs)) l4 = some (.lst (V.ref bf :: fs)) := upd_same
          generalize upd J3 l4 (.lst ([V.ref bf] ++ fs)) = J4 at t4 u4 ⊢
          refine ⟨_, rfl, lenOk (n := 1) rfl (by decide), fun l5 h5 => ?_⟩
          have t5 := same_new (o := .lst [V.ref q1]) h5
          have u5 : upd J4 l5 (.lst [V.ref q1]) l5 = some (.lst [V.ref q1]) := upd_same
          generalize upd J4 l5 (.lst [V.ref q1]) = J5 at t5 u5 ⊢
          have t15 := t1.trans (t2.trans (t3.trans (t4.trans t5)))
          refine ⟨_, rfl, l5, rl, _, _, rfl, rfl, u5, t15 _ _ g6, le_line (by rw [hxl]; show 1 + _ ≤ _; omega), fun l6 h6 => ?_⟩
          have t6 := same_new (o := .lst ([V.ref q1] ++ xs)) h6
          have tA := t15.trans t6
          have t36 := t3.trans (t4.trans (t5.trans t6))
          refine ⟨l2, l4, l6, rd, r, _, _, _, _, _, _, _, _, _, _, rv, rfl, smk.trans tA, ?_, tA _ _ (sJL _ _ erk), ?_, ?_⟩
          · exact (tbL.up tA).cons hi (tA _ _ g3) (tA _ _ g6) (t36 _ _ u2) (t6 _ _ (t5 _ _ u4)) upd_same (tA _ _ b1) (b2.up tA)
          · rw [show W.length - (i + 1) = p by omega]
            exact hah2
          · rw [show W.length - (i + 1) = p by omega]
            exact hrr
    · obtain ⟨pr, fl, rl, ad, run, o6, o7, o8, o9, o10, o11, o12, o13, o14, o15, kv, rfl, sm, tb, ea, hah, hrun⟩ := y
      obtain ⟨_, ⟨fs, f, g3, g4, g5⟩, ⟨xs, rp, g6, g7, g8⟩, _⟩ := tb.get (n := 1) (Nat.le_refl _) (by omega) (Nat.le_refl _)
      refine ⟨_, rfl, _, rfl, fl, _, 0, _, rfl, rfl, SqL.of g3, g4, _, rfl, rl, _, 0, _, rfl, rfl, SqL.of g6, g7, lenOk (n := 3) rfl (by decide), fun t ht => ?_⟩
      have s9 := same_new (o := .tup [V.ref pr, V.ref f, V.ref rp]) ht
      exact q _ t pr f rp (sm.trans s9) upd_same (s9 _ _ tb.p) (s9 _ _ g5) (g8.up s9)
end
end R1

namespace R1
open PySem PySem.Spec PyProof.Rows L2 RK DL SZ
local macro_rules | `(tactic| walk_at "sq") => `(tactic| first
  | exact SqL.of upd_same | exact upd_same | exact SqL.of (by assumption) | exact SqL.of (by rw [upd_ne (by assumption)]; assumption) | assumption)
local macro_rules | `(tactic| walk_at "sd") => `(tactic| first
  | assumption | omega | (refine Or.inl ⟨?_, ?_⟩ <;> omega) | (show _ ∧ _; constructor <;> omega) | (show _ ≠ _; simp; omega) | (exact Or.inl ⟨by decide, by decide⟩) | (exact Or.inr ⟨by decide, by decide⟩) | (show _ < _; decide) | (show _ ≤ _; decide))
local macro_rules | `(tactic| walk_at "at") => `(tactic| first | rfl | (refine atI_intV ?_ ?_ <;> omega) | assumption)
local macro_rules | `(tactic| walk_at "s1") => `(tactic| first
  | refine ⟨_, rfl, ?_⟩ | refine ⟨_, _, rfl, rfl, ?_⟩ | refine ⟨rfl, ?_⟩
  | refine ⟨_, _, _, _, rfl, rfl, by walk_at "sq", by walk_at "at", ?_⟩
  | refine Or.inl ⟨_, rfl, ?_⟩
  | refine ⟨_, _, rfl, Or.inl (by walk_at "sq"), ?_⟩
  | refine And.intro (by walk_at "sd") ?_)
local macro_rules | `(tactic| walk_at "s") => `(tactic| repeat walk_at "s1")

def spTake (K : PySem.W.Frag) : Sp := fun vs H Q _ => ∃ (a : Addr) (ws : List Nat) (i tot : Nat), vs = [.ref a, .int (i : Int), .int (tot : Int)] ∧ H a = some (.lst (intV ws)) ∧ (∀ w ∈ ws, w ≤ 65535) ∧ ws.length ≤ 100000 ∧ i < ws.length ∧ (tkZ (ws.drop i) tot = none → Q .non H) ∧ ∀ pc, tkZ (ws.drop i) tot = some pc → ∀ H' q, Same H H' → (∀ S : ASet, (∀ b, S b → ∃ ys, H b = some (.lst ys)) → Dx K H' S (.ref q) (pzD pc)) → Q (.ref q) H'
def rdD (ws : List Nat) : PyData := match rdZ ws with
  | .inl n => .int (n : Int)
  | .inr ps => .tuple [intsD (exZ ps []), pzsD ps]
def spRd (K : PySem.W.Frag) : Sp := fun vs H Q _ => ∃ (a : Addr) (ws : List Nat), vs = [.ref a] ∧ H a = some (.lst (intV ws)) ∧ (∀ w ∈ ws, w ≤ 65535) ∧ ws.length ≤ 100000 ∧ ∀ H' v, Same H H' → Dx K H' noS v (rdD ws) → Q v H'
def OpI (K : PySem.W.Frag) (H : Hp) (a D : Addr) (ws : List Nat) (k : Nat) (σ : L2.St) (Hc : Hp) : Prop := ∃ (L : Addr) (i f : Nat) (o4 o5 o6 : Option V) (acc : List V) (done : List Pz) (S : ASet), σ = [some (.ref a), some (.ref L), some (.ref D), some (.int (i : Int)), o4, o5, o6] ∧ Same H Hc ∧ H L = none ∧ L ≠ D ∧ Hc L = some (.lst (intV (exZ done []))) ∧ Hc D = some (.lst acc) ∧ acc.length ≤ i ∧ S L ∧ S D ∧ (∀ b, S b → ∃ ys, Hc b = some (.lst ys)) ∧ DxAll K Hc S acc (done.map pzD) ∧ k ≤ i ∧ i ≤ ws.length ∧ ws.length < i + f ∧ prZ f i (ws.drop i) (exZ done []).length done = rdZ ws
section
variable {P : Program} {w : World} {K : PySem.W.Frag} {mg : Str → Option Value} {base : Heap} {A : Ads}
theorem ok_law_take (T : Txt K mg A) : FnOk P w K mg base CX0 1 A.a_law_take A.d_law_take ["_law_form", "_law_place", "_law_total"] (spTake K) := by
  refine T.F_law_take.ok sc_law_take (fun vs H Q E h => ?_) (fun cdv B outer s H vs Q E hr h => ?_)
  · obtain ⟨a, ws, i, tot, rfl, _⟩ := h
    rfl
  · obtain ⟨a, ws, i, tot, rfl, ha, hw, hwl, hi, qn, qs⟩ := h
    refine ⟨_, (pss_cons (ps_set (i := 3) sc_law_take.nd rfl (.inl rfl) (pe_ix ix_list (pv 0) (pv 1) (fun _ _ => rfl)))
    (pss_cons (ps_set (i := 4) sc_law_take.nd rfl (.inl rfl) (pe_op op_mod (pe_callTy call_int1 (by rfl) T.n_int (by decide +kernel) (pa_cons (pv 3) pa_nil)) pe_int))
    (pss_cons (ps_if (PW.pt (pw_or (pt_cmpR op_ge (pv 3) pe_int (nomark _)) (pw_or (pt_cmpR op_eq (pv 4) pe_int (nomark _)) (pw_or1 (pt_cmpR op_gt (pe_op op_add (pv 2) (pv 4)) pe_int (nomark _)))))) (pss_one (ps_ret pe_non)) pss_nil)
    (pss_cons (ps_if (PW.pt (pw_and (pt_cmpR op_lt (pv 3) pe_int (nomark _)) (pw_and1 (pt_cmpR op_lt (pe_op op_add (pv 1) (pv 4)) (pe_callB len_seq (by rfl) T.n_len (by decide +kernel) (pa_cons (pv 0) pa_nil)) (nomark _))))) (pss_one (ps_ret (pe_tup (pa_cons pe_str (pa_cons (pe_callTy tuple_of (by rfl) T.n_tuple (by decide +kernel) (pa_cons (pe_slice sl_list (pv 0) (po_some (pe_op op_add (pv 1) pe_int)) (po_some (pe_op op_add (pe_op op_add (pv 1) pe_int) (pv 4)))) pa_nil)) pa_nil))))) pss_nil)
    (pss_cons (ps_if (PW.pt (pw_or (pt_cmpR op_lt (pv 3) pe_int (nomark _)) (pw_or1 (pt_cmpR op_eq (pe_op op_add (pv 1) pe_int) (pe_callB len_seq (by rfl) T.n_len (by decide +kernel) (pa_cons (pv 0) pa_nil)) (nomark _))))) (pss_one (ps_ret pe_non)) pss_nil)
    (pss_cons (ps_if (pt_cmpR op_lt (pv 3) pe_int (nomark _)) (pss_one (ps_ret (pe_tup (pa_cons pe_str (pa_cons (pv 4) (pa_cons (pe_ix ix_list (pv 0) (pe_op op_add (pv 1) pe_int) (fun _ _ => rfl)) pa_nil)))))) pss_nil)
    (pss_cons (ps_if (PW.pt (pw_or (pt_cmpR op_eq (pe_ix ix_list (pv 0) (pe_op op_add (pv 1) pe_int) (fun _ _ => rfl)) pe_int (nomark _)) (pw_or1 (pt_cmpR op_gt (pe_ix ix_list (pv 0) (pe_op op_add (pv 1) pe_int) (fun _ _ => rfl)) (pv 2) (nomark _))))) (pss_one (ps_ret pe_non)) pss_nil)
    (pss_one (ps_ret (pe_tup (pa_cons pe_str (pa_cons (pv 4) (pa_cons (pe_ix ix_list (pv 0) (pe_op op_add (pv 1) pe_int) (fun _ _ => rfl)) pa_nil))))))))))))), ?_⟩
    have hil := intV_len ws
    have hat := atI_nat (intV_at hi)
    have hed : ws.drop i = ws.getD i 0 :: ws.drop (i + 1) := by
      rw [List.drop_eq_getElem_cons hi, List.getD_eq_getElem?_getD, List.getElem?_eq_getElem hi]
      rfl
    have hx : ws.getD i 0 ≤ 65535 := by
      rw [List.getD_eq_getElem?_getD, List.getElem?_eq_getElem hi]
      exact hw _ (List.getElem_mem hi)
    rw [hed] at qn qs
    generalize ws.getD i 0 = x at *
    have htk : tkZ (x :: ws.drop (i + 1)) tot = if x % 16384 = 0 ∨ 49152 ≤ x ∨ 2048 < tot + x % 16384 then none
      else if x < 16384 then (if x ≤ (ws.drop (i + 1)).length then some (Pz.pt ((ws.drop (i + 1)).take x)) else none)
      else match ws.drop (i + 1) with
        | [] => none
        | o :: _ => if x < 32768 then some (Pz.rn (x % 16384) o) else if o = 0 ∨ tot < o then none else some (Pz.bk (x % 16384) o) := rfl
    rw [htk] at qn qs
    clear htk
    refine ⟨_, rfl, _, rfl, a, _, _, _, rfl, rfl, SqL.of ha, hat, ?_⟩
    refine ⟨_, rfl, .inl ⟨_, rfl, _, _, rfl, rfl, (by show (0 : Int) < 16384; decide), ?_⟩⟩
    dsimp (config := { proj := false }) only
    rw [show (x : Int) % 16384 = ((x % 16384 : Nat) : Int) by omega]
    refine ⟨_, rfl, _, _, rfl, rfl, ?_⟩
    by_cases h2 : 49152 ≤ x
    · rw [if_pos (.inr (.inl h2))] at qn
      exact ⟨true, decT (by omega), ifT rfl (qn rfl)⟩
    refine ⟨false, decF (by omega), ifF rfl ?_⟩
    refine ⟨_, rfl, rfl, ?_⟩
    by_cases h1 : x % 16384 = 0
    · rw [if_pos (.inl h1)] at qn
      exact ⟨true, decT (by rw [h1]; rfl), ifT rfl (qn rfl)⟩
    refine ⟨false, decF (vint (by omega)), ifF rfl ?_⟩
    refine ⟨_, rfl, _, rfl, _, _, rfl, rfl, _, _, rfl, rfl, ?_⟩
    by_cases h0 : 2048 < tot + x % 16384
    · rw [if_pos (.inr (.inr h0))] at qn
      exact ⟨true, decT (by omega), ifT rfl (qn rfl)⟩
    refine ⟨false, decF (by omega), ifF rfl ?_⟩
    rw [if_neg (by omega)] at qn qs
    refine ⟨_, rfl, _, _, rfl, rfl, ?_⟩
    by_cases h3 : x < 16384
    · rw [if_pos h3] at qn qs
      have hm : x % 16384 = x := Nat.mod_eq_of_lt h3
      rw [hm]
      refine ⟨true, decT (by omega), ifT rfl ?_⟩
      refine ⟨_, rfl, _, rfl, _, _, rfl, rfl, _, rfl, a, _, rfl, .inl (SqL.of ha), _, _, rfl, rfl, ?_⟩
      dsimp (config := { proj := false }) only
      rw [hil]
      rw [List.length_drop] at qn qs
      by_cases h4 : x ≤ ws.length - (i + 1)
      · rw [if_pos h4] at qs
        refine ⟨true, decT (by omega), ifT rfl ?_⟩
        refine ⟨_, rfl, _, rfl, _, _, rfl, rfl, _, rfl, _, rfl, _, _, rfl, rfl, _, rfl, _, _, rfl, rfl, _, rfl, a, _, rfl, SqL.of ha, fun l1 h1' => ?_⟩
        dsimp (config := { proj := false }) only
        rw [show (i : Int) + 1 = ((i + 1 : Nat) : Int) by omega, show ((i + 1 : Nat) : Int) + (x : Int) = ((i + 1 + x : Nat) : Int) by omega, cutV_any, show i + 1 + x - (i + 1) = x by omega]
        have s1 := same_new (o := .lst (intV ((ws.drop (i + 1)).take x))) h1'
        have e1 : upd H l1 (.lst (intV ((ws.drop (i + 1)).take x))) l1 = some (.lst (intV ((ws.drop (i + 1)).take x))) := upd_same
        generalize upd H l1 (.lst (intV ((ws.drop (i + 1)).take x))) = H1 at s1 e1 ⊢
        refine ⟨l1, _, rfl, .inl ⟨SqL.of e1, fun t1 ht1 => ?_⟩⟩
        have s2 := same_new (o := .tup (intV ((ws.drop (i + 1)).take x))) ht1
        have e2 : upd H1 t1 (.tup (intV ((ws.drop (i + 1)).take x))) t1 = some (.tup (intV ((ws.drop (i + 1)).take x))) := upd_same
        generalize upd H1 t1 (.tup (intV ((ws.drop (i + 1)).take x))) = H2 at s2 e2 ⊢
        refine ⟨lenOk (n := 2) rfl (by decide), fun q1 hq1 => ?_⟩
        have s3 := same_new (o := .tup [V.str sPut, V.ref t1]) hq1
        exact qs _ rfl _ q1 (s1.trans (s2.trans s3)) fun S nS => mk_ptz upd_same (fun z => by
          obtain ⟨ys, e⟩ := nS _ z
          rw [s2 _ _ (s1 _ _ e)] at hq1
          cases hq1) (XT.of (s3 _ _ e2) fun z => by
          obtain ⟨ys, e⟩ := nS _ z
          rw [s1 _ _ e] at ht1
          cases ht1)
      · rw [if_neg h4] at qn
        refine ⟨false, decF (by omega), ifF rfl ?_⟩
        refine ⟨_, rfl, _, _, rfl, rfl, ?_⟩
        exact ⟨true, decT (by omega), ifT rfl (qn rfl)⟩
    rw [if_neg h3] at qn qs
    refine ⟨false, decF (by omega), ifF rfl ?_⟩
    refine ⟨_, rfl, _, _, rfl, rfl, ?_⟩
    refine ⟨false, decF (by omega), ifF rfl ?_⟩
    refine ⟨_, rfl, _, _, rfl, rfl, _, rfl, a, _, rfl, .inl (SqL.of ha), rfl, ?_⟩
    dsimp (config := { proj := false }) only
    rw [hil]
    by_cases h4 : i + 1 = ws.length
    · rw [List.drop_of_length_le (by omega)] at qn
      exact ⟨true, decT (congrArg V.int (by omega)), ifT rfl (qn rfl)⟩
    refine ⟨false, decF (vint (by omega)), ifF rfl ?_⟩
    have hed2 : ws.drop (i + 1) = ws.getD (i + 1) 0 :: ws.drop (i + 1 + 1) := by
      rw [List.drop_eq_getElem_cons (by omega), List.getD_eq_getElem?_getD, List.getElem?_eq_getElem (by omega)]
      rfl
    have hat2 : atI (intV ws) ((i : Int) + 1) = some (.int ((ws.getD (i + 1) 0 : Nat) : Int)) := atI_nat (j := i + 1) (intV_at (by omega))
    rw [hed2] at qn qs
    generalize ws.getD (i + 1) 0 = o at *
    have qn : (if x < 32768 then some (Pz.rn (x % 16384) o) else if o = 0 ∨ tot < o then none else some (Pz.bk (x % 16384) o)) = none → Q .non H := qn
    have qs : ∀ pc, (if x < 32768 then some (Pz.rn (x % 16384) o) else if o = 0 ∨ tot < o then none else some (Pz.bk (x % 16384) o)) = some pc → ∀ H' q, Same H H' → (∀ S : ASet, (∀ b, S b → ∃ ys, H b = some (.lst ys)) → Dx K H' S (.ref q) (pzD pc)) → Q (.ref q) H' := qs
    refine ⟨_, rfl, _, _, rfl, rfl, ?_⟩
    by_cases h5 : x < 32768
    · rw [if_pos h5] at qs
      refine ⟨true, decT (by omega), ifT rfl ?_⟩
      refine ⟨_, rfl, _, rfl, _, rfl, _, _, rfl, rfl, a, _, _, _, rfl, rfl, SqL.of ha, hat2, lenOk (n := 3) rfl (by decide), fun q1 hq1 => ?_⟩
      exact qs _ rfl _ q1 (same_new hq1) fun S nS => mk_three upd_same fun z => by
          obtain ⟨ys, e⟩ := nS _ z
          rw [e] at hq1
          cases hq1
    rw [if_neg h5] at qn qs
    refine ⟨false, decF (by omega), ifF rfl ?_⟩
    refine ⟨_, rfl, _, rfl, _, _, rfl, rfl, a, _, _, _, rfl, rfl, SqL.of ha, hat2, rfl, ?_⟩
    by_cases h6 : o = 0
    · rw [if_pos (.inl h6)] at qn
      exact ⟨true, decT (by rw [h6]; rfl), ifT rfl (qn rfl)⟩
    refine ⟨false, decF (vint (by omega)), ifF rfl ?_⟩
    refine ⟨_, rfl, _, rfl, _, _, rfl, rfl, a, _, _, _, rfl, rfl, SqL.of ha, hat2, _, rfl, _, _, rfl, rfl, ?_⟩
    by_cases h7 : tot < o
    · rw [if_pos (.inr h7)] at qn
      exact ⟨true, decT (by omega), ifT rfl (qn rfl)⟩
    · rw [if_neg (by omega)] at qs
      refine ⟨false, decF (by omega), ifF rfl ?_⟩
      refine ⟨_, rfl, _, rfl, _, rfl, _, _, rfl, rfl, a, _, _, _, rfl, rfl, SqL.of ha, hat2, lenOk (n := 3) rfl (by decide), fun q1 hq1 => ?_⟩
      exact qs _ rfl _ q1 (same_new hq1) fun S nS => mk_three upd_same fun z => by
          obtain ⟨ys, e⟩ := nS _ z
          rw [e] at hq1
          cases hq1
theorem ok_law_opened (T : Txt K mg A) : FnOk P w K mg base CX0 2 A.a_law_opened A.d_law_opened ["_law_form"] (spRd K) := by
  refine T.F_law_opened.ok sc_law_opened (fun vs H Q E h => ?_) (fun cdv B outer s H vs Q E hr h => ?_)
  · obtain ⟨a, ws, rfl, _⟩ := h
    rfl
  · obtain ⟨a, ws, rfl, ha, hw, hwl, q⟩ := h
    refine ⟨_, (pss_cons (ps_set (i := 1) sc_law_opened.nd rfl (.inl rfl) (pe_lst pa_nil))
    (pss_cons (ps_set (i := 2) sc_law_opened.nd rfl (.inl rfl) (pe_lst pa_nil))
    (pss_cons (ps_set (i := 3) sc_law_opened.nd rfl (.inl rfl) pe_int)
    (pss_cons (ps_for PassesOwn.never rfl (pi_range1 (by rfl) T.n_range (pa_cons (pe_callB len_seq (by rfl) T.n_len (by decide +kernel) (pa_cons (pv 0) pa_nil)) pa_nil)) (pg_name (i := 4) sc_law_opened.nd rfl (.inl rfl))
      (pss_one (ps_if (pt_cmpR op_lt (pv 3) (pe_callB len_seq (by rfl) T.n_len (by decide +kernel) (pa_cons (pv 0) pa_nil)) (nomark _)) (pss_cons (ps_set (i := 5) sc_law_opened.nd rfl (.inl rfl) (pe_call (ok_law_take T) (hr.mono (by omega)) rfl T.g_law_take T.F_law_take.kp T.b_law_take .nil pass0 (pa_cons (pv 0) (pa_cons (pv 3) (pa_cons (pe_callB len_seq (by rfl) T.n_len (by decide +kernel) (pa_cons (pv 1) pa_nil)) pa_nil)))))
    (pss_cons (ps_if (pt_cmpR op_isN (pv 5) pe_non (nomark _)) (pss_one (ps_ret (pv 3))) pss_nil)
    (pss_cons (ps_expr (pe_bm PySem.F.plainAttrs_list PySem.F.slot_list_append PySem.F.type_list_append mt_append (pv 2) (pa_cons (pv 5) pa_nil)))
    (pss_cons (ps_set (i := 3) sc_law_opened.nd rfl (.inl rfl) (pe_op op_add (pv 3) pe_int))
    (pss_one (ps_if (pt_cmpR op_eq (pe_ix ix_tup (pv 5) pe_int (fun _ _ => rfl)) pe_str (nomark _)) (pss_cons (ps_set (i := 1) sc_law_opened.nd rfl (.inl rfl) (pe_op op_cat (pv 1) (pe_callTy list_of (by rfl) T.n_list (by decide +kernel) (pa_cons (pe_ix ix_tup (pv 5) pe_int (fun _ _ => rfl)) pa_nil))))
    (pss_one (ps_set (i := 3) sc_law_opened.nd rfl (.inl rfl) (pe_op op_sub (pe_op op_add (pv 3) (pe_callB len_seq (by rfl) T.n_len (by decide +kernel) (pa_cons (pe_ix ix_tup (pv 5) pe_int (fun _ _ => rfl)) pa_nil))) pe_int)))) (pss_one (ps_if (pt_cmpR op_eq (pe_ix ix_tup (pv 5) pe_int (fun _ _ => rfl)) pe_str (nomark _)) (pss_one (ps_set (i := 1) sc_law_opened.nd rfl (.inl rfl) (pe_op op_cat (pv 1) (pe_op op_rep (pe_lst (pa_cons (pe_ix ix_tup (pv 5) pe_int (fun _ _ => rfl)) pa_nil)) (pe_ix ix_tup (pv 5) pe_int (fun _ _ => rfl)))))) (pss_one (ps_for PassesOwn.never rfl (pi_range1 (by rfl) T.n_range (pa_cons (pe_ix ix_tup (pv 5) pe_int (fun _ _ => rfl)) pa_nil)) (pg_name (i := 6) sc_law_opened.nd rfl (.inl rfl))
      (pss_one (ps_expr (pe_bm PySem.F.plainAttrs_list PySem.F.slot_list_append PySem.F.type_list_append mt_append (pv 1) (pa_cons (pe_ix ix_list (pv 1) (pe_op op_sub (pe_callB len_seq (by rfl) T.n_len (by decide +kernel) (pa_cons (pv 1) pa_nil)) (pe_ix ix_tup (pv 5) pe_int (fun _ _ => rfl))) (fun _ _ => rfl)) pa_nil)))))))))))))) pss_nil)))
    (pss_one (ps_ret (pe_tup (pa_cons (pe_callTy tuple_of (by rfl) T.n_tuple (by decide +kernel) (pa_cons (pv 1) pa_nil)) (pa_cons (pe_callTy tuple_of (by rfl) T.n_tuple (by decide +kernel) (pa_cons (pv 2) pa_nil)) pa_nil))))))))), ?_⟩
    have hil := intV_len ws
    refine ⟨lenOk (n := 0) rfl (by decide), fun L0 hL0 => ?_⟩
    have s1 := same_new (o := .lst []) hL0
    have e1 : upd H L0 (.lst []) L0 = some (.lst (intV [])) := upd_same
    generalize upd H L0 (.lst []) = H1 at s1 e1 ⊢
    refine ⟨lenOk (n := 0) rfl (by decide), fun D hD1 => ?_⟩
    have hD : H D = none := s1.free hD1
    have nLD : L0 ≠ D := ne_of_none e1 hD1
    have s2 := same_new (o := .lst []) hD1
    have e2 : upd H1 D (.lst []) D = some (.lst []) := upd_same
    generalize upd H1 D (.lst []) = H2 at s2 e2 ⊢
    have s12 := s1.trans s2
    refine ⟨_, rfl, a, _, rfl, .inl (SqL.of (s12 _ _ ha)), _, rfl, by omega, by omega, ?_⟩
    rw [Int.toNat_natCast, hil]
    refine for_it (walk_range (lo := 0) (n := ws.length)) (OpI K H a D ws) ⟨L0, 0, ws.length + 1, _, _, _, [], [], fun b => b = L0 ∨ b = D, rfl, s12, hL0, nLD, s2 _ _ e1, e2, Nat.le_refl _, .inl rfl, .inr rfl, fun b z => (by
        rcases z with z | z
        · exact ⟨_, by rw [z]; exact s2 _ _ e1⟩
        · exact ⟨_, by rw [z]; exact e2⟩), .nil, Nat.le_refl _, Nat.zero_le _, by omega, rfl⟩ (fun _ _ _ _ _ => trivial) (fun k x σ Hc Hd hk y e => ?_) (fun σ Hc y => ?_)
    · obtain ⟨rfl, ex⟩ := e
      subst ex
      obtain ⟨L, i, f, o4, o5, o6, acc, done, S, rfl, sm, hL, nL, eL, eD, hal, SL, SD, nS, hda, hki, hi, hf, hrd⟩ := y
      have hac := sm _ _ ha
      refine ⟨_, rfl, _, rfl, a, _, rfl, .inl (SqL.of hac), _, _, rfl, rfl, ?_⟩
      dsimp (config := { proj := false }) only
      rw [hil]
      by_cases hi' : i < ws.length
      · refine ⟨_, rfl, ifT (decide_eq_true (by omega)) ?_⟩
        obtain ⟨f, rfl⟩ : ∃ f', f = f' + 1 := ⟨f - 1, by omega⟩
        have hed : ws.drop i = ws[i] :: ws.drop (i + 1) := List.drop_eq_getElem_cons hi'
        have hstep : ∀ tot, prZ (f + 1) i (ws.drop i) tot done = match tkZ (ws.drop i) tot with
            | none => Sum.inl i
            | some pc => prZ f (i + pc.own.length) ((ws.drop i).drop pc.own.length) (tot + pc.cnt) (done ++ [pc]) := fun tot => by
          rw [hed]
          rfl
        rw [hstep] at hrd
        have htko : ∀ pc, tkZ (ws.drop i) (exZ done []).length = some pc → (exZ done []).length + pc.cnt ≤ 2048 ∧ (∀ n d, pc = .bk n d → 1 ≤ d ∧ d ≤ (exZ done []).length) ∧ pc.own.length ≤ ws.length - i ∧ 1 ≤ pc.own.length := fun pc h => by
          rw [hed] at h
          obtain ⟨t1, t2, t3, _⟩ := tk_ok h
          rw [← hed, List.length_drop] at t3
          obtain ⟨w0, r0, ew⟩ := own_pos pc
          exact ⟨t1, t2, t3, by rw [ew]; exact Nat.succ_pos _⟩
        refine ⟨_, rfl, _, rfl, _, rfl, L, _, rfl, .inl (SqL.of eL), a, ws, i, (exZ done []).length, ?_, hac, hw, hwl, hi', fun hn => ?_, fun pc hs G q0 sG dq => ?_⟩
        · rw [intV_len]
          rfl
        · rw [hn] at hrd
          refine ⟨_, rfl, rfl, _, rfl, ifT (decide_eq_true rfl) ?_⟩
          refine ⟨_, rfl, q _ _ sm ?_⟩
          unfold rdD
          rw [← hrd]
          exact .int _
        · rw [hs] at hrd
          obtain ⟨t1, t2, t3, t4⟩ := htko pc hs
          refine ⟨_, rfl, rfl, _, rfl, ifF (decide_eq_false fun w => nomatch w) ?_⟩
          have eDG := sG _ _ eD
          have eLG := sG _ _ eL
          refine ⟨_, rfl, .inl ⟨rfl, _, SqL.of eDG⟩, _, rfl, D, _, _, rfl, rfl, eDG, lt_line (by omega), ?_⟩
          have o : Out S G (upd G D (.lst (acc ++ [V.ref q0]))) := (Out.refl _ _).put SD
          have dq2 : Dx K (upd G D (.lst (acc ++ [V.ref q0]))) S (.ref q0) (pzD pc) := Dx.up o (dq S nS)
          have hda2 : DxAll K (upd G D (.lst (acc ++ [V.ref q0]))) S (acc ++ [V.ref q0]) ((done ++ [pc]).map pzD) := by
            rw [List.map_append]
            exact dxAll_app (DxAll.up o (DxAll.up (Out.of sG) hda)) (.cons dq2 .nil)
          have sH : Same H (upd G D (.lst (acc ++ [V.ref q0]))) := same_mut (sm.trans sG) hD
          have eD2 : upd G D (.lst (acc ++ [V.ref q0])) D = some (.lst (acc ++ [V.ref q0])) := upd_same
          have eL2 : upd G D (.lst (acc ++ [V.ref q0])) L = some (.lst (intV (exZ done []))) := by rw [upd_ne nL]; exact eLG
          have nS2 : ∀ b, S b → ∃ ys, upd G D (.lst (acc ++ [V.ref q0])) b = some (.lst ys) := fun b z => by
            by_cases hb : b = D
            · exact ⟨_, by rw [hb]; exact upd_same⟩
            · obtain ⟨ys, e⟩ := nS b z
              exact ⟨ys, by rw [upd_ne hb]; exact sG _ _ e⟩
          generalize upd G D (.lst (acc ++ [V.ref q0])) = G2 at *
          have hex : exZ (done ++ [pc]) [] = exP pc (exZ done []) := by
            unfold exZ
            rw [List.foldl_append]
            rfl
          have hexl := exP_len pc (exZ done [])
          have fin : ∀ (L' : Addr) (j : Nat) (o4 o6 : Option V) (G' : Hp) (S' : ASet), j = i + pc.own.length → Same H G' → H L' = none → L' ≠ D → G' L' = some (.lst (intV (exP pc (exZ done [])))) → G' D = some (.lst (acc ++ [V.ref q0])) → S' L' → S' D → (∀ b, S' b → ∃ ys, G' b = some (.lst ys)) → DxAll K G' S' (acc ++ [V.ref q0]) ((done ++ [pc]).map pzD) → OpI K H a D ws (k + 1) [some (.ref a), some (.ref L'), some (.ref D), some (.int (j : Int)), o4, some (.ref q0), o6] G' := fun L' j o4 o6 G' S' hj g1 g2 g3 g4 g5 g6 g7 g8 g9 => by
            refine ⟨L', j, f, _, _, _, _, done ++ [pc], S', rfl, g1, g2, g3, by rw [hex]; exact g4, g5, by rw [List.length_append]; show _ + 1 ≤ _; omega, g6, g7, g8, g9, by omega, by omega, by omega, ?_⟩
            rw [hex, hexl, hj, ← List.drop_drop]
            exact hrd
          generalize exZ done [] = wa at *
          have hwa := intV_len wa
          refine ⟨_, rfl, _, _, rfl, rfl, ?_⟩
          cases pc with
          | pt ps =>
            obtain ⟨r, t, er, hr, ht⟩ := dx_ptz dq2
            cases er
            have hps := intV_len ps
            have hpc : (Pz.pt ps).cnt = ps.length := rfl
            refine ⟨_, rfl, q0, _, 0, _, rfl, rfl, hr, atI_nat (j := 0) rfl, rfl, _, rfl, ifT put_put ?_⟩
            refine ⟨_, rfl, _, rfl, q0, _, 1, _, rfl, rfl, hr, atI_nat (j := 1) rfl, t, _, rfl, .inr ht, fun l1 h1 => ?_⟩
            have w1 := same_new (o := .lst (intV ps)) h1
            have v1 : upd G2 l1 (.lst (intV ps)) l1 = some (.lst (intV ps)) := upd_same
            generalize upd G2 l1 (.lst (intV ps)) = M1 at w1 v1 ⊢
            refine ⟨L, l1, _, _, rfl, rfl, w1 _ _ eL2, v1, le_line (by rw [hwa, hps]; omega), fun l2 h2 => ?_⟩
            have w2 := same_new (o := .lst (intV wa ++ intV ps)) h2
            have v2 : upd M1 l2 (.lst (intV wa ++ intV ps)) l2 = some (.lst (intV (exP (.pt ps) wa))) := by
              rw [upd_same, ← intV_app]
              rfl
            have w12 := w1.trans w2
            have eD3 := w12 _ _ eD2
            have nl2 : l2 ≠ D := fun z => ne_of_none (w1 _ _ eD2) h2 z.symm
            have dd : DxAll K (upd M1 l2 (.lst (intV wa ++ intV ps))) (inS S l2) (acc ++ [V.ref q0]) ((done ++ [Pz.pt ps]).map pzD) := DxAll.up (Out.of w2) (DxAll.add h2 (DxAll.up (Out.of w1) hda2))
            have h2' := (sH.trans w1).free h2
            generalize upd M1 l2 (.lst (intV wa ++ intV ps)) = M2 at *
            refine ⟨_, rfl, _, rfl, q0, _, 1, _, rfl, rfl, sqT_up hr w12, atI_nat (j := 1) rfl, t, _, rfl, .inr (sqT_up ht w12), _, _, rfl, rfl, _, _, rfl, rfl, ?_⟩
            dsimp (config := { proj := false }) only
            rw [hps]
            have := fin l2 (i + 1 + ps.length) (some (.int (0 + (k : Int)))) o6 M2 (inS S l2) (by show _ = i + (ps.length + 1); omega) (sH.trans w12) h2' nl2 v2 eD3 (.inr rfl) (.inl SD) (fun b z => (by
              rcases z with z | z
              · obtain ⟨ys, e⟩ := nS2 b z
                exact ⟨ys, w12 _ _ e⟩
              · exact ⟨_, by rw [z]; exact v2⟩)) dd
            rw [show ((i + 1 + ps.length : Nat) : Int) = (i : Int) + 2 + (ps.length : Int) - 1 by omega] at this
            exact this
          | rn n v =>
            obtain ⟨r, er, hr⟩ := dx_three dq2
            cases er
            have hpc : (Pz.rn n v).cnt = n := rfl
            refine ⟨_, rfl, q0, _, 0, _, rfl, rfl, hr, atI_nat (j := 0) rfl, rfl, _, rfl, ifF run_put ?_⟩
            refine ⟨_, rfl, q0, _, 0, _, rfl, rfl, hr, atI_nat (j := 0) rfl, rfl, _, rfl, ifT run_run ?_⟩
            refine ⟨_, rfl, _, rfl, q0, _, 2, _, rfl, rfl, hr, atI_nat (j := 2) rfl, lenOk (n := 1) rfl (by decide), fun l1 h1 => ?_⟩
            have w1 := same_new (o := .lst [V.int (v : Int)]) h1
            have v1 : upd G2 l1 (.lst [V.int (v : Int)]) l1 = some (.lst [V.int (v : Int)]) := upd_same
            generalize upd G2 l1 (.lst [V.int (v : Int)]) = M1 at w1 v1 ⊢
            refine ⟨_, rfl, q0, _, 1, _, rfl, rfl, sqT_up hr w1, atI_nat (j := 1) rfl, l1, _, _, rfl, rfl, v1, by omega, by omega, le_line (by rw [Int.toNat_natCast]; show 1 * n ≤ _; omega), fun l2 h2 => ?_⟩
            have w2 := same_new (o := .lst (List.replicate (n : Int).toNat [V.int (v : Int)]).flatten) h2
            have v2 : upd M1 l2 (.lst (List.replicate (n : Int).toNat [V.int (v : Int)]).flatten) l2 = some (.lst (intV (List.replicate n v))) := by
              rw [upd_same, Int.toNat_natCast, List.flatten_replicate_singleton]
              unfold intV
              rw [List.map_replicate]
            generalize upd M1 l2 (.lst (List.replicate (n : Int).toNat [V.int (v : Int)]).flatten) = M2 at w2 v2 ⊢
            have w12 := w1.trans w2
            refine ⟨L, l2, _, _, rfl, rfl, w12 _ _ eL2, v2, le_line (by rw [hwa, intV_len, List.length_replicate]; omega), fun l3 h3 => ?_⟩
            have w3 := same_new (o := .lst (intV wa ++ intV (List.replicate n v))) h3
            have v3 : upd M2 l3 (.lst (intV wa ++ intV (List.replicate n v))) l3 = some (.lst (intV (exP (.rn n v) wa))) := by
              rw [upd_same, ← intV_app]
              rfl
            have w13 := w12.trans w3
            have eD3 := w13 _ _ eD2
            have nl3 : l3 ≠ D := fun z => ne_of_none (w12 _ _ eD2) h3 z.symm
            have dd : DxAll K (upd M2 l3 (.lst (intV wa ++ intV (List.replicate n v)))) (inS S l3) (acc ++ [V.ref q0]) ((done ++ [Pz.rn n v]).map pzD) := DxAll.up (Out.of w3) (DxAll.add h3 (DxAll.up (Out.of w12) hda2))
            have h3' := (sH.trans w12).free h3
            generalize upd M2 l3 (.lst (intV wa ++ intV (List.replicate n v))) = M3 at *
            exact fin l3 (i + 2) _ o6 M3 (inS S l3) rfl (sH.trans w13) h3' nl3 v3 eD3 (.inr rfl) (.inl SD) (fun b z => (by
              rcases z with z | z
              · obtain ⟨ys, e⟩ := nS2 b z
                exact ⟨ys, w13 _ _ e⟩
              · exact ⟨_, by rw [z]; exact v3⟩)) dd
          | bk n d =>
            obtain ⟨d1, d2⟩ := t2 n d rfl
            obtain ⟨r, er, hr⟩ := dx_three dq2
            cases er
            have hpc : (Pz.bk n d).cnt = n := rfl
            refine ⟨_, rfl, q0, _, 0, _, rfl, rfl, hr, atI_nat (j := 0) rfl, rfl, _, rfl, ifF back_put ?_⟩
            refine ⟨_, rfl, q0, _, 0, _, rfl, rfl, hr, atI_nat (j := 0) rfl, rfl, _, rfl, ifF back_run ?_⟩
            refine ⟨_, rfl, q0, _, 1, _, rfl, rfl, hr, atI_nat (j := 1) rfl, _, rfl, by omega, by omega, ?_⟩
            rw [Int.toNat_natCast]
            refine for_it (walk_range (lo := 0) (n := n)) (fun m σ Hc => ∃ o6, σ = [some (.ref a), some (.ref L), some (.ref D), some (.int ((i + 2 : Nat) : Int)), some (.int (0 + (k : Int))), some (.ref q0), o6] ∧ Same H Hc ∧ Out S G2 Hc ∧ Hc D = some (.lst (acc ++ [V.ref q0])) ∧ (∀ b, S b → ∃ ys, Hc b = some (.lst ys)) ∧ Hc L = some (.lst (intV (bkX m d wa)))) ⟨_, rfl, sH, Out.refl _ _, eD2, nS2, eL2⟩ (fun _ _ _ _ _ => trivial) (fun m x σ Hc Hd hk y e => ?_) (fun σ Hc y => ?_)
            · obtain ⟨rfl, ex⟩ := e
              obtain ⟨o3, rfl, smk, so8, eDk, nSk, hwk⟩ := y
              rw [bkX_snoc]
              have hl := bkX_len m d wa
              generalize bkX m d wa = ac at hwk hl ⊢
              obtain ⟨r', er, hr'⟩ := dx_three (Dx.up so8 dq2)
              cases er
              have hlt : ac.length - d < ac.length := by omega
              have hat : atI (intV ac) ((ac.length : Int) - (d : Int)) = some (.int ((ac.getD (ac.length - d) 0 : Nat) : Int)) := by
                rw [show (ac.length : Int) - (d : Int) = ((ac.length - d : Nat) : Int) by omega]
                exact atI_nat (intV_at hlt)
              refine ⟨_, rfl, .inl ⟨rfl, _, SqL.of hwk⟩, _, rfl, _, rfl, L, _, rfl, .inl (SqL.of hwk), _, rfl, q0, _, 2, _, rfl, rfl, hr', atI_nat (j := 2) rfl, _, _, rfl, rfl, ?_⟩
              dsimp (config := { proj := false }) only
              rw [intV_len]
              refine ⟨L, _, _, _, rfl, rfl, SqL.of hwk, hat, L, _, _, rfl, rfl, hwk, lt_line (by rw [intV_len]; omega), ?_⟩
              refine ⟨_, rfl, same_mut smk hL, so8.put SL, by rw [upd_ne nL.symm]; exact eDk, fun b z => ?_, ?_⟩
              · by_cases hb : b = L
                · exact ⟨_, by rw [hb]; exact upd_same⟩
                · obtain ⟨ys, e⟩ := nSk b z
                  exact ⟨ys, by rw [upd_ne hb]; exact e⟩
              · rw [upd_same, intV_app]
                rfl
            · obtain ⟨o6, rfl, smk, so8, eDk, nSk, hwk⟩ := y
              exact fin L (i + 2) _ o6 Hc S rfl smk hL nL hwk eDk SL SD nSk (DxAll.up so8 hda2)
      · refine ⟨_, rfl, ifF (decide_eq_false (by omega)) ?_⟩
        exact ⟨L, i, f, _, _, _, acc, done, S, rfl, sm, hL, nL, eL, eD, hal, SL, SD, nS, hda, by omega, hi, hf, hrd⟩
    · obtain ⟨L, i, f, o4, o5, o6, acc, done, S, rfl, sm, hL, nL, eL, eD, hal, SL, SD, nS, hda, hki, hi, hf, hrd⟩ := y
      have : i = ws.length := by omega
      subst this
      obtain ⟨f, rfl⟩ : ∃ f', f = f' + 1 := ⟨f - 1, by omega⟩
      rw [List.drop_length] at hrd
      have hrd : rdZ ws = .inr done := hrd.symm
      refine ⟨_, rfl, L, _, rfl, .inl ⟨SqL.of eL, fun t1 h1 => ?_⟩⟩
      have w1 := same_new (o := .tup (intV (exZ done []))) h1
      have v1 : upd Hc t1 (.tup (intV (exZ done []))) t1 = some (.tup (intV (exZ done []))) := upd_same
      generalize upd Hc t1 (.tup (intV (exZ done []))) = M1 at w1 v1 ⊢
      refine ⟨_, rfl, D, _, rfl, .inl ⟨SqL.of (w1 _ _ eD), fun t2 h2 => ?_⟩⟩
      have w2 := same_new (o := .tup acc) h2
      have v2 : upd M1 t2 (.tup acc) t2 = some (.tup acc) := upd_same
      generalize upd M1 t2 (.tup acc) = M2 at w2 v2 ⊢
      refine ⟨lenOk (n := 2) rfl (by decide), fun t3 h3 => ?_⟩
      have w3 := same_new (o := .tup [V.ref t1, V.ref t2]) h3
      have w13 := w1.trans (w2.trans w3)
      refine q _ _ (sm.trans w13) ?_
      unfold rdD
      rw [hrd]
      refine .tup (XT.of upd_same fun z => z) (.cons (.tup (XT.of (w3 _ _ (w2 _ _ v1)) fun z => z) ?_) (.cons (.tup (XT.of (w3 _ _ v2) fun z => z) ?_) .nil))
      · rw [intV_ints]
        exact dxAll_ints _
      · exact DxAll.less (fun _ z => z.elim) (DxAll.up (Out.of w13) hda)
end
end R1

namespace R1
open PySem PySem.Spec PyProof.Rows L2 RK DL SZ
local macro_rules | `(tactic| walk_at "sq") => `(tactic| first
  | exact SqL.of upd_same | exact upd_same | exact SqL.of (by assumption) | exact SqL.of (by rw [upd_ne (by assumption)]; assumption) | assumption)
local macro_rules | `(tactic| walk_at "sd") => `(tactic| first
  | assumption | omega | (refine Or.inl ⟨?_, ?_⟩ <;> omega) | (show _ ∧ _; constructor <;> omega) | (show _ ≠ _; simp; omega) | (exact Or.inl ⟨by decide, by decide⟩) | (exact Or.inr ⟨by decide, by decide⟩) | (show _ < _; decide) | (show _ ≤ _; decide))
local macro_rules | `(tactic| walk_at "at") => `(tactic| first | rfl | (refine atI_intV ?_ ?_ <;> omega) | assumption)
local macro_rules | `(tactic| walk_at "s1") => `(tactic| first
  | refine ⟨_, rfl, ?_⟩ | refine ⟨_, _, rfl, rfl, ?_⟩ | refine ⟨rfl, ?_⟩
  | refine ⟨_, _, _, _, rfl, rfl, by walk_at "sq", by walk_at "at", ?_⟩
  | refine Or.inl ⟨_, rfl, ?_⟩
  | refine ⟨_, _, rfl, Or.inl (by walk_at "sq"), ?_⟩
  | refine And.intro (by walk_at "sd") ?_)
local macro_rules | `(tactic| walk_at "s") => `(tactic| repeat walk_at "s1")

theorem lay_pzA : ∀ ps : List Pz, PyData.canLayAll0 (ps.map pzD) = true
  | [] => rfl
  | pc :: r => by
    show ((pzD pc).canLay0 && PyData.canLayAll0 (r.map pzD)) = true
    rw [lay_pzA r, Bool.and_true]
    cases pc with
    | bk a n =>
      show (PyData.canLay0 (.str _) && (true && (true && true))) = true
      rw [show PyData.canLay0 (.str sBack) = true by decide +kernel]
      rfl
    | rn a n =>
      show (PyData.canLay0 (.str _) && (true && (true && true))) = true
      rw [show PyData.canLay0 (.str sRun) = true by decide +kernel]
      rfl
    | pt ws =>
      show (PyData.canLay0 (.str _) && ((intsD ws).canLay0 && true)) = true
      rw [lay_intsD, show PyData.canLay0 (.str sPut) = true by decide +kernel]
      rfl
theorem lay_pzs (ps : List Pz) : (pzsD ps).canLay0 = true := lay_pzA ps
theorem dep_pzA : ∀ ps : List Pz, PyData.depthAll (ps.map pzD) ≤ 2
  | [] => Nat.zero_le _
  | pc :: r => by
    have h := dep_pzA r
    show max (pzD pc).depth (PyData.depthAll (r.map pzD)) ≤ 2
    have : (pzD pc).depth ≤ 2 := by
      cases pc with
      | bk a n => show max 0 (max 0 (max 0 0)) + 1 ≤ 2; decide
      | rn a n => show max 0 (max 0 (max 0 0)) + 1 ≤ 2; decide
      | pt ws =>
        have := dep_intsD ws
        show max 0 (max (intsD ws).depth 0) + 1 ≤ 2
        omega
    omega
theorem dep_pzs (ps : List Pz) : (pzsD ps).depth ≤ 3 := Nat.succ_le_succ (dep_pzA ps)
theorem wd_pzA : ∀ ps : List Pz, (∀ ws, Pz.pt ws ∈ ps → ws.length ≤ 3000) → wdA (ps.map pzD) = true
  | [], _ => rfl
  | pc :: r, h => by
    show (wdB (pzD pc) && wdA (r.map pzD)) = true
    rw [wd_pzA r fun x hx => h x (List.mem_cons_of_mem _ hx), Bool.and_true]
    cases pc with
    | bk a n => rfl
    | rn a n => rfl
    | pt ws =>
      show (true && (true && (wdB (intsD ws) && true))) = true
      rw [wd_intsD (Nat.le_trans (h ws List.mem_cons_self) (by decide))]
      rfl
def fitD (d : PyData) : Prop := d.canLay0 = true ∧ d.depth ≤ 4 ∧ wdB d = true
theorem fit_int (i : Int) : fitD (.int i) := ⟨rfl, Nat.zero_le _, rfl⟩
theorem fit_ints {ws : List Nat} (h : ws.length ≤ 100000) : fitD (intsD ws) := ⟨lay_intsD _, Nat.le_trans (dep_intsD _) (by decide), wd_intsD h⟩
theorem fit_pzs {ps : List Pz} (h : ∀ ws, Pz.pt ws ∈ ps → ws.length ≤ 3000) (hl : ps.length ≤ 3000) : fitD (pzsD ps) := ⟨lay_pzs _, Nat.le_trans (dep_pzs _) (by decide), by
  show (decide ((ps.map pzD).length ≤ 100000) && wdA (ps.map pzD)) = true
  rw [wd_pzA ps h, List.length_map, decide_eq_true (by omega)]
  rfl⟩
theorem fit_list {ws : List Nat} (h : ws.length ≤ 100000) : fitD (.list (natD ws)) := by
  have e : natD ws = (ws.map fun (n : Nat) => (n : Int)).map PyData.int := by
    unfold natD
    rw [List.map_map]
    rfl
  have f := fit_ints h
  unfold intsD at f
  rw [← e] at f
  exact f
/-- two plain forms are the same -/
theorem eq_fin {K : PySem.W.Frag} {H H' : Hp} {S S' : ASet} {v v' : V} {d : PyData} (f : fitD d) (h1 : Dx K H S v (plD d)) (s : Same H H') (h2 : Dx K H' S' v' (plD d)) : Dp K H' v (plD d) ∧ Dp K H' v' (plD d) ∧ SeqAt.shaped (plD d) = true ∧ PyData.eqv (plD d) (plD d) = true :=
  ⟨(Dx.up (Out.of s) h1).dp, h2.dp, plD_shaped f.1 (Nat.le_trans f.2.1 (by decide)), SeqAt.eqv_refl _ (plD_lay d f.1)⟩
theorem dx_tupN {K : PySem.W.Frag} {H : Hp} {q : Addr} {ws : List Nat} (h : H q = some (.tup (intV ws))) : Dx K H noS (.ref q) (intsD ws) := by
  rw [intV_ints] at h
  exact .tup (XT.of h fun z => z) (dxAll_ints _)
theorem dx_lstN {K : PySem.W.Frag} {H : Hp} {q : Addr} {ws : List Nat} (h : H q = some (.lst (intV ws))) : Dx K H noS (.ref q) (.list (natD ws)) := .lst (XL.of h fun z => z) (dxAll_nats ws)

def spRef : Sp := fun vs H Q _ => ∃ (a : Addr) (W : List Nat), vs = [.ref a] ∧ H a = some (.lst (intV W)) ∧ (∀ w ∈ W, w ≤ 65535) ∧ W.length ≤ 3000 ∧ 2048 < W.length ∧ ∀ H', Same H H' → Q (.int 2048) H'
section
variable {P : Program} {w : World} {K : PySem.W.Frag} {mg : Str → Option Value} {base : Heap} {A : Ads}
theorem ok_law_refused (T : Txt K mg A) : FnOk P w K mg base CX0 5 A.a_law_refused A.d_law_refused ["_law_words_here"] spRef := by
  refine T.F_law_refused.ok sc_law_refused (fun vs H Q E h => ?_) (fun cdv B outer s H vs Q F hr h => ?_)
  · obtain ⟨a, W, rfl, _⟩ := h
    rfl
  · obtain ⟨a, W, rfl, ha, hW, hWl, hbig, q⟩ := h
    refine ⟨_, (pss_cons (ps_try_hitN (i := 1) rfl rfl sc_law_refused.nd rfl rfl ⟨rfl, by decide, .inl T.g_TooMany⟩ (fun W pn xe tk _ => (pss_one (ps_expr (pe_callS (ok_squeeze T) (hr.mono (by omega)) rfl T.g_squeeze T.F_squeeze.kp T.b_squeeze (fun σ => L2N.passAt tk σ) (pa_cons (pe_callTy (r := rTupOf K) tuple_of (by rfl) T.n_tuple (by decide +kernel) (pa_cons (pv 0) pa_nil)) pa_nil)))))
      (fun a o cls d ps hz hf => (pss_one (ps_ret (pe_xf T.x_TooMany.xf T.x_TooMany.no hz.zc hf (pv 1))))))
    (pss_one (ps_ret pe_non))), ?_⟩
    refine ⟨_, rfl, a, _, rfl, .inl ⟨SqL.of ha, fun t1 ht1 => ?_⟩⟩
    have s1 := same_new (o := .tup (intV W)) ht1
    have e1 : upd H t1 (.tup (intV W)) t1 = some (.tup (intV W)) := upd_same
    generalize upd H t1 (.tup (intV W)) = H1 at s1 e1 ⊢
    refine ⟨t1, W, rfl, ⟨SqT.of e1, hW, by omega⟩, fun _ dx H3 s3 n3 e3 => ?_, fun h1 => by omega⟩
    have s03 := s1.trans s3
    refine ⟨T.x_TooMany.te, fun a ha => ?_⟩
    exact ⟨_, rfl, rfl, rfl, dx, _, _, rfl, e3, rfl, q _ s03⟩
theorem ok_law_opened_told (T : Txt K mg A) : FnOk P w K mg base CX0 5 A.a_law_opened_told A.d_law_opened_told ["_law_form"] (spRd K) := by
  refine T.F_law_opened_told.ok sc_law_opened_told (fun vs H Q E h => ?_) (fun cdv B outer s H vs Q E hr h => ?_)
  · obtain ⟨a, ws, rfl, _⟩ := h
    rfl
  · obtain ⟨a, ws, rfl, ha, hw, hwl, q⟩ := h
    refine ⟨_, (pss_cons (ps_set (i := 1) sc_law_opened_told.nd rfl (.inl rfl) (pe_lst pa_nil))
    (pss_cons (ps_set (i := 2) sc_law_opened_told.nd rfl (.inl rfl) pe_non)
    (pss_cons (ps_set (i := 3) sc_law_opened_told.nd rfl (.inl rfl) pe_non)
    (pss_cons (ps_try_hitN (i := 4) rfl rfl sc_law_opened_told.nd rfl rfl ⟨rfl, by decide, .inl T.g_BadForm⟩ (fun W pn xe tk _ => (pss_one (ps_set (i := 2) sc_law_opened_told.nd rfl (.inl rfl) (pe_callS (ok_opened T) (hr.mono (by omega)) rfl T.g_opened T.F_opened.kp T.b_opened (fun σ => L2N.passAt tk σ) (pa_cons (pe_callTy (r := rTupOf K) tuple_of (by rfl) T.n_tuple (by decide +kernel) (pa_cons (pv 0) pa_nil)) pa_nil)))))
      (fun a o cls d ps hz hf => (pss_one (ps_if (PW.pt (pw_and (pt_val (pe_callB (call_isEx T.x_BadForm.ex hz.zc hf) (by rfl) T.n_isinstance (by decide +kernel) (pa_cons (pv 4) (pa_cons (pe_glob (v := .ref A.c_RomError) rfl T.g_RomError rfl) pa_nil)))) (pw_and1 (pt_val (pe_callB (call_isEx T.x_BadForm.ex hz.zc hf) (by rfl) T.n_isinstance (by decide +kernel) (pa_cons (pv 4) (pa_cons (pe_bltn (v := .ty "ValueError") (u := .type "ValueError") (by rfl) T.n_ValueError (by decide +kernel) rfl) pa_nil))))))) (pss_one (ps_expr (show PE _ _ (tBM K _ _ _ _) from (pe_bm PySem.F.plainAttrs_list PySem.F.slot_list_append PySem.F.type_list_append mt_append (pv 1) (pa_cons (pe_xf T.x_BadForm.xf T.x_BadForm.no hz.zc hf (pv 4)) pa_nil))))) pss_nil))))
    (pss_cons (ps_try_hitN (i := 4) rfl rfl sc_law_opened_told.nd rfl rfl ⟨rfl, by decide, .inl T.g_BadForm⟩ (fun W pn xe tk _ => (pss_one (ps_set (i := 3) sc_law_opened_told.nd rfl (.inl rfl) (pe_callS (ok_pieces_of T) (hr.mono (by omega)) rfl T.g_pieces_of T.F_pieces_of.kp T.b_pieces_of (fun σ => L2N.passAt tk σ) (pa_cons (pe_callTy (r := rTupOf K) tuple_of (by rfl) T.n_tuple (by decide +kernel) (pa_cons (pv 0) pa_nil)) pa_nil)))))
      (fun a o cls d ps hz hf => (pss_one (ps_expr (show PE _ _ (tBM K _ _ _ _) from (pe_bm PySem.F.plainAttrs_list PySem.F.slot_list_append PySem.F.type_list_append mt_append (pv 1) (pa_cons (pe_xf T.x_BadForm.xf T.x_BadForm.no hz.zc hf (pv 4)) pa_nil)))))))
    (pss_cons (ps_if (PW.pt (pw_and (pt_cmpR op_eq (pe_callB len_seq (by rfl) T.n_len (by decide +kernel) (pa_cons (pv 1) pa_nil)) pe_int (nomark _)) (pw_and1 (pt_cmpR op_eq (pe_ix ix_list (pv 1) pe_int (fun _ _ => rfl)) (pe_ix ix_list (pv 1) pe_int (fun _ _ => rfl)) (nomark _))))) (pss_one (ps_ret (pe_ix ix_list (pv 1) pe_int (fun _ _ => rfl)))) pss_nil)
    (pss_one (ps_ret (pe_tup (pa_cons (pv 2) (pa_cons (pv 3) pa_nil))))))))))), ?_⟩
    refine ⟨lenOk (n := 0) rfl (by decide), fun D hD => ?_⟩
    have s1 := same_new (o := .lst []) hD
    have e1 : upd H D (.lst []) D = some (.lst []) := upd_same
    generalize upd H D (.lst []) = H1 at s1 e1 ⊢
    refine ⟨_, rfl, a, _, rfl, .inl ⟨SqL.of (s1 _ _ ha), fun t1 ht1 => ?_⟩⟩
    have s2 := same_new (o := .tup (intV ws)) ht1
    have e2 : upd H1 t1 (.tup (intV ws)) t1 = some (.tup (intV ws)) := upd_same
    generalize upd H1 t1 (.tup (intV ws)) = H2 at s2 e2 ⊢
    have s12 := s1.trans s2
    refine ⟨t1, ws, rfl, SqT.of e2, hw, hwl, fun n hn dx H3 s3 n3 e3 => ?_, fun ps hps H3 q1 s3 eq1 => ?_⟩
    · refine ⟨T.x_BadForm.te, fun ea hea => ?_⟩
      refine ⟨_, rfl, dx, rfl, rfl, .ref A.c_RomError, .ref A.c_RomError, true, _, rfl, fun _ h => h, T.k_BadForm_RomError, e3, true, rfl, ifT rfl ?_⟩
      refine ⟨_, rfl, dx, rfl, rfl, .ty "ValueError", .type "ValueError", true, _, rfl, fun _ h => h, T.k_BadForm_ValueError, e3, true, rfl, ifT rfl ?_⟩
      have eD := s3 _ _ (s2 _ _ e1)
      refine ⟨_, rfl, .inl ⟨rfl, _, SqL.of eD⟩, _, rfl, rfl, rfl, dx, _, _, rfl, e3, rfl, D, _, _, rfl, rfl, eD, lt_line (by decide), ?_⟩
      have s4 : Same H (upd H3 D (.lst ([] ++ [V.int (n : Int)]))) := same_mut (s12.trans s3) hD
      have e4 : upd H3 D (.lst ([] ++ [V.int (n : Int)])) D = some (.lst [V.int (n : Int)]) := upd_same
      generalize upd H3 D (.lst ([] ++ [V.int (n : Int)])) = H4 at s4 e4 ⊢
      refine ⟨_, rfl, a, _, rfl, .inl ⟨SqL.of (s4 _ _ ha), fun t2 ht2 => ?_⟩⟩
      have s5 := same_new (o := .tup (intV ws)) ht2
      have e5 : upd H4 t2 (.tup (intV ws)) t2 = some (.tup (intV ws)) := upd_same
      generalize upd H4 t2 (.tup (intV ws)) = H5 at s5 e5 ⊢
      refine ⟨noS, t2, ws, rfl, fun _ z => z.elim, SqT.of e5, hw, hwl, fun n' hn' dy H6 s6 n6 e6 => ?_, fun ps hps => by rw [hn] at hps; cases hps⟩
      rw [hn] at hn'
      cases hn'
      refine ⟨T.x_BadForm.te, fun eb heb => ?_⟩
      have eD6 := s6 _ _ (s5 _ _ e4)
      refine ⟨_, rfl, .inl ⟨rfl, _, SqL.of eD6⟩, _, rfl, rfl, rfl, dy, _, _, rfl, e6, rfl, D, _, _, rfl, rfl, eD6, lt_line (by show 1 ≤ 1000000; decide), ?_⟩
      have s7 : Same H (upd H6 D (.lst ([V.int (n : Int)] ++ [V.int (n : Int)]))) := same_mut (s4.trans (s5.trans s6)) hD
      have e7 : upd H6 D (.lst ([V.int (n : Int)] ++ [V.int (n : Int)])) D = some (.lst [V.int (n : Int), V.int (n : Int)]) := upd_same
      generalize upd H6 D (.lst ([V.int (n : Int)] ++ [V.int (n : Int)])) = H7 at s7 e7 ⊢
      refine ⟨_, rfl, D, _, rfl, .inl (SqL.of e7), rfl, _, rfl, ifT (decide_eq_true rfl) ?_⟩
      refine ⟨_, rfl, D, _, 0, _, rfl, rfl, SqL.of e7, atI_nat (j := 0) rfl, _, rfl, D, _, 1, _, rfl, rfl, SqL.of e7, atI_nat (j := 1) rfl, rfl, _, rfl, ifT (decide_eq_true rfl) ?_⟩
      refine ⟨_, rfl, D, _, 0, _, rfl, rfl, SqL.of e7, atI_nat (j := 0) rfl, q _ _ s7 ?_⟩
      unfold rdD
      rw [hn]
      exact .int _
    · have s13 := s12.trans s3
      refine ⟨_, rfl, a, _, rfl, .inl ⟨SqL.of (s13 _ _ ha), fun t2 ht2 => ?_⟩⟩
      have s5 := same_new (o := .tup (intV ws)) ht2
      have e5 : upd H3 t2 (.tup (intV ws)) t2 = some (.tup (intV ws)) := upd_same
      generalize upd H3 t2 (.tup (intV ws)) = H5 at s5 e5 ⊢
      refine ⟨noS, t2, ws, rfl, fun _ z => z.elim, SqT.of e5, hw, hwl, fun n hn => (by rw [hps] at hn; cases hn), fun ps' hps' H6 q2 s6 dq2 => ?_⟩
      rw [hps] at hps'
      cases hps'
      have eD6 := s6 _ _ (s5 _ _ (s3 _ _ (s2 _ _ e1)))
      refine ⟨_, rfl, D, _, rfl, .inl (SqL.of eD6), rfl, _, rfl, ifF (decide_eq_false (fun z => by cases z)) ?_⟩
      refine ⟨_, rfl, _, rfl, lenOk (n := 2) rfl (by decide), fun t3 h3 => ?_⟩
      have s7 := same_new (o := .tup [V.ref q1, V.ref q2]) h3
      refine q _ _ (s13.trans (s5.trans (s6.trans s7))) ?_
      unfold rdD
      rw [hps]
      exact .tup (XT.of upd_same fun z => z) (.cons (dx_tupN (s7 _ _ (s6 _ _ (s5 _ _ eq1)))) (.cons (Dx.up (Out.of s7) dq2) .nil))
end
end R1

namespace R1
open PySem PySem.Spec PyProof.Rows L2 RK DL SZ
local macro_rules | `(tactic| walk_at "sq") => `(tactic| first
  | exact SqL.of upd_same | exact upd_same | exact SqL.of (by assumption) | exact SqL.of (by rw [upd_ne (by assumption)]; assumption) | assumption)
local macro_rules | `(tactic| walk_at "sd") => `(tactic| first
  | assumption | omega | (refine Or.inl ⟨?_, ?_⟩ <;> omega) | (show _ ∧ _; constructor <;> omega) | (show _ ≠ _; simp; omega) | (exact Or.inl ⟨by decide, by decide⟩) | (exact Or.inr ⟨by decide, by decide⟩) | (show _ < _; decide) | (show _ ≤ _; decide))
local macro_rules | `(tactic| walk_at "at") => `(tactic| first | rfl | (refine atI_intV ?_ ?_ <;> omega) | assumption)
local macro_rules | `(tactic| walk_at "s1") => `(tactic| first
  | refine ⟨_, rfl, ?_⟩ | refine ⟨_, _, rfl, rfl, ?_⟩ | refine ⟨rfl, ?_⟩
  | refine ⟨_, _, _, _, rfl, rfl, by walk_at "sq", by walk_at "at", ?_⟩
  | refine Or.inl ⟨_, rfl, ?_⟩
  | refine ⟨_, _, rfl, Or.inl (by walk_at "sq"), ?_⟩
  | refine And.intro (by walk_at "sd") ?_)
local macro_rules | `(tactic| walk_at "s") => `(tactic| repeat walk_at "s1")

theorem sum_mem : ∀ {ps : List Pz} {pc : Pz}, pc ∈ ps → pc.cnt ≤ (ps.map Pz.cnt).sum
  | q :: r, pc, h => by
    rw [List.map_cons, List.sum_cons]
    rcases List.mem_cons.mp h with z | z
    · rw [z]
      exact Nat.le_add_right _ _
    · have := sum_mem z
      omega
theorem fit_pair {W : List Nat} {ps : List Pz} (h1 : W.length ≤ 100000) (h2 : ∀ ws, Pz.pt ws ∈ ps → ws.length ≤ 3000) (hl : ps.length ≤ 3000) : fitD (.tuple [intsD W, pzsD ps]) := by
  have f1 := fit_ints h1
  have f2 := fit_pzs h2 hl
  refine ⟨?_, ?_, ?_⟩
  · show ((intsD W).canLay0 && ((pzsD ps).canLay0 && true)) = true
    rw [f1.1, f2.1]
    rfl
  · show max (intsD W).depth (max (pzsD ps).depth 0) + 1 ≤ 4
    have := dep_intsD W
    have := dep_pzs ps
    omega
  · show (decide ((2 : Nat) ≤ 100000) && (wdB (intsD W) && (wdB (pzsD ps) && true))) = true
    rw [f1.2.2, f2.2.2]
    rfl
theorem fit_rd (ws : List Nat) : fitD (rdD ws) := by
  unfold rdD
  cases h : rdZ ws with
  | inl n => exact fit_int _
  | inr ps =>
    obtain ⟨_, h1, h2⟩ := rdZ_ok h
    refine fit_pair (by rw [exZ_len, List.length_nil]; omega) (fun ws hm => ?_) (by omega)
    have := sum_mem hm
    have e : (Pz.pt ws).cnt = ws.length := rfl
    omega
theorem rd_frm {W : List Nat} (hW : W.length ≤ 2048) : rdD (frm W W.length) = .tuple [intsD W, pzsD (pcz W W.length)] := by
  have h := pr_frm hW W.length W.length ((frm W W.length).length + 1) 0 [] (Nat.le_refl _) (Nat.le_refl _) (Nat.lt_succ_self _)
  rw [Nat.sub_self, List.nil_append] at h
  have h : rdZ (frm W W.length) = .inr (pcz W W.length) := h
  have e := ex_pcz (W := W) W.length W.length (Nat.le_refl _) (Nat.le_refl _)
  rw [Nat.sub_self, List.take_zero] at e
  unfold rdD
  rw [h]
  show PyData.tuple [intsD (exZ (pcz W W.length) []), pzsD (pcz W W.length)] = _
  rw [e]
theorem own_w {W : List Nat} {k : Nat} (hk : k < W.length) (hl : W.length ≤ 2048) (hw : ∀ w ∈ W, w ≤ 65535) : ∀ w ∈ (bst W k).pc.own, w ≤ 65535 := by
  have hp : W.length - k - 1 < W.length := by omega
  obtain ⟨b1, b2, b3, b4⟩ := bst_ok hk
  have hbk := fun n d h => bst_bk (W := W) (k := k) (n := n) (d := d) h
  have hg : (∀ n x, (bst W k).pc = .rn n x → x ≤ 65535) ∧ (∀ ws, (bst W k).pc = .pt ws → ∀ x ∈ ws, x ≤ 65535) := by
    unfold bst bstZ
    split
    · unfold preZ
      split
      · exact ⟨fun n x e => (by cases e), fun ws e => by cases e⟩
      · refine ⟨fun n x e => ?_, fun ws e => by cases e⟩
        cases e
        rw [List.getD_eq_getElem?_getD, List.getElem?_eq_getElem hp]
        exact hw _ (List.getElem_mem _)
    · refine ⟨fun n x e => (by cases e), fun ws e x hx => ?_⟩
      cases e
      exact hw x (List.mem_of_mem_drop (List.mem_of_mem_take hx))
  obtain ⟨g1, g2⟩ := hg
  generalize (bst W k) = b at *
  obtain ⟨pc, n, c⟩ := b
  simp only at b1 b2 b3 b4 hbk g1 g2 ⊢
  intro w h
  cases pc with
  | bk n d =>
    have := hbk n d rfl
    have : n ≤ 2048 := by have : n = _ := b4; omega
    rcases List.mem_cons.mp h with z | z
    · omega
    · rw [List.mem_singleton.mp z]
      omega
  | rn n x =>
    have : n ≤ 2048 := by have : n = _ := b4; omega
    rcases List.mem_cons.mp h with z | z
    · omega
    · rw [List.mem_singleton.mp z]
      exact g1 n x rfl
  | pt ws =>
    have : ws.length ≤ 2048 := by have : ws.length = _ := b4; omega
    rcases List.mem_cons.mp h with z | z
    · omega
    · exact g2 ws rfl w z
theorem frm_w {W : List Nat} (hl : W.length ≤ 2048) (hw : ∀ w ∈ W, w ≤ 65535) : ∀ (m k : Nat), k ≤ m → k ≤ W.length → ∀ w ∈ frm W k, w ≤ 65535
  | m, 0, _, _ => fun w h => by cases h
  | 0, k + 1, h, _ => by cases h
  | m + 1, k + 1, h, hn => fun w hm => by
    obtain ⟨h1, h2, h3, _⟩ := bst_ok (W := W) (k := k) (by omega)
    rw [frm_succ (by omega)] at hm
    rcases List.mem_append.mp hm with z | z
    · exact own_w (by omega) hl hw w z
    · exact frm_w hl hw m _ (by omega) (by omega) w z
theorem pcz_pt {W : List Nat} (hl : W.length ≤ 2048) : ∀ ws, Pz.pt ws ∈ pcz W W.length → ws.length ≤ 3000 := fun ws hm => by
  have h := pr_frm hl W.length W.length ((frm W W.length).length + 1) 0 [] (Nat.le_refl _) (Nat.le_refl _) (Nat.lt_succ_self _)
  rw [Nat.sub_self, List.nil_append] at h
  have h : rdZ (frm W W.length) = .inr (pcz W W.length) := h
  obtain ⟨_, h1, h2⟩ := rdZ_ok h
  have := sum_mem hm
  have e : (Pz.pt ws).cnt = ws.length := rfl
  omega
theorem xt_but {K : PySem.W.Frag} {H H' : Hp} {p a : Addr} {ys xs : List V} (hp : H p = some (.lst ys)) (b : But p H H') (h : XT K H noS a xs) : XT K H' noS a xs := by
  rcases h with ⟨n, h⟩ | h
  · have na : a ≠ p := fun z => by
      subst z
      rcases h with h | ⟨o, h⟩ <;> rw [hp] at h <;> cases h
    refine .inl ⟨n, ?_⟩
    rcases h with h | ⟨o, h⟩
    · exact .inl (b _ _ na h)
    · exact .inr ⟨o, b _ _ na h⟩
  · exact .inr h
theorem ints_but {K : PySem.W.Frag} {H H' : Hp} {p : Addr} {ys : List V} {v : V} {ws : List Nat} (hp : H p = some (.lst ys)) (b : But p H H') (h : Dx K H noS v (intsD ws)) : Dx K H' noS v (intsD ws) := by
  obtain ⟨a, rfl, hx⟩ := dx_ints h
  refine .tup (xt_but hp b hx) ?_
  rw [intV_ints]
  exact dxAll_ints _
theorem pz_but1 {K : PySem.W.Frag} {H H' : Hp} {p : Addr} {ys : List V} {v : V} {pc : Pz} (hp : H p = some (.lst ys)) (b : But p H H') (h : Dx K H noS v (pzD pc)) : Dx K H' noS v (pzD pc) := by
  cases pc with
  | bk n d =>
    cases h with
    | tup h1 h2 =>
      cases h2 with
      | cons x1 h2 =>
        cases h2 with
        | cons x2 h2 =>
          cases h2 with
          | cons x3 h2 =>
            cases h2
            cases x1
            cases x2
            cases x3
            exact .tup (xt_but hp b h1) (.cons (.str _) (.cons (.int _) (.cons (.int _) .nil)))
  | rn n d =>
    cases h with
    | tup h1 h2 =>
      cases h2 with
      | cons x1 h2 =>
        cases h2 with
        | cons x2 h2 =>
          cases h2 with
          | cons x3 h2 =>
            cases h2
            cases x1
            cases x2
            cases x3
            exact .tup (xt_but hp b h1) (.cons (.str _) (.cons (.int _) (.cons (.int _) .nil)))
  | pt ws =>
    cases h with
    | tup h1 h2 =>
      cases h2 with
      | cons x1 h2 =>
        cases h2 with
        | cons x2 h2 =>
          cases h2
          cases x1
          exact .tup (xt_but hp b h1) (.cons (.str _) (.cons (ints_but hp b x2) .nil))
theorem pz_butA {K : PySem.W.Frag} {H H' : Hp} {p : Addr} {ys : List V} (hp : H p = some (.lst ys)) (b : But p H H') : ∀ {xs : List V} {ps : List Pz}, DxAll K H noS xs (ps.map pzD) → DxAll K H' noS xs (ps.map pzD)
  | xs, [], h => by
    cases h
    exact .nil
  | xs, pc :: r, h => by
    cases h with
    | cons h1 h2 => exact .cons (pz_but1 hp b h1) (pz_butA hp b h2)
theorem ps_but {K : PySem.W.Frag} {H H' : Hp} {p q : Addr} {ys : List V} {ps : List Pz} (hp : H p = some (.lst ys)) (b : But p H H') (h : PsZ K H q ps) : PsZ K H' q ps := by
  have h : Dx K H noS (.ref q) (pzsD ps) := h
  cases h with
  | tup h1 h2 => exact .tup (xt_but hp b h1) (pz_butA hp b h2)
theorem sqT_but {K : PySem.W.Frag} {c : Addr} {H H' : Hp} {p a : Addr} {xs : List V} (hs : Src c H p) (b : But p H H') (h : SqT K H a xs) : SqT K H' a xs := by
  obtain ⟨cs, pl, dg, ct, mx, h1, _⟩ := hs
  exact (xt_but h1 b (ne_noS h)).sq
def spSame : Sp := fun vs H Q _ => ∃ (a : Addr) (ws : List Nat), vs = [.ref a] ∧ H a = some (.lst (intV ws)) ∧ (∀ w ∈ ws, w ≤ 65535) ∧ ws.length ≤ 100000 ∧ ∀ H', Same H H' → Q (.bl true) H'
def spLaw (K : PySem.W.Frag) : Sp := fun vs H Q _ => ∃ (a : Addr) (ns : List Int), vs = [.ref a] ∧ SqL K H a (ns.map V.int) ∧ ns.length ≤ 63 ∧ ∀ H', Q (.bl true) H'
section
variable {P : Program} {w : World} {K : PySem.W.Frag} {mg : Str → Option Value} {base : Heap} {A : Ads}
theorem ok_law_same (T : Txt K mg A) : FnOk P w K mg base CX0 7 A.a_law_same A.d_law_same ["_law_form"] spSame := by
  refine T.F_law_same.ok sc_law_same (fun vs H Q E h => ?_) (fun cdv B outer s H vs Q F hr h => ?_)
  · obtain ⟨a, ws, rfl, _⟩ := h
    rfl
  · obtain ⟨a, ws, rfl, ha, hw, hwl, q⟩ := h
    refine ⟨_, (pss_one (ps_ret (pe_cmpR (op_eqD hr.units) (pe_call (ok_plain T 5) (hr.mono (by omega)) rfl T.g_law_plain T.F_law_plain.kp T.b_law_plain .nil pass0 (pa_cons (pe_call (ok_law_opened_told T) (hr.mono (by omega)) rfl T.g_law_opened_told T.F_law_opened_told.kp T.b_law_opened_told .nil pass0 (pa_cons (pv 0) pa_nil)) pa_nil)) (pe_call (ok_plain T 5) (hr.mono (by omega)) rfl T.g_law_plain T.F_law_plain.kp T.b_law_plain .nil pass0 (pa_cons (pe_call (ok_law_opened T) (hr.mono (by omega)) rfl T.g_law_opened T.F_law_opened.kp T.b_law_opened .nil pass0 (pa_cons (pv 0) pa_nil)) pa_nil)) (nomark _)))), ?_⟩
    have hf := fit_rd ws
    refine ⟨_, rfl, a, ws, rfl, ha, hw, hwl, fun H1 v1 s1 d1 => ?_⟩
    refine ⟨_, rdD ws, noS, rfl, (fun _ z => z.elim), d1, hf.2.1, hf.2.2, fun H2 v2 s2 d2 => ?_⟩
    have s12 := s1.trans s2
    refine ⟨_, rfl, a, ws, rfl, s12 _ _ ha, hw, hwl, fun H3 v3 s3 d3 => ?_⟩
    refine ⟨_, rdD ws, noS, rfl, (fun _ z => z.elim), d3, hf.2.1, hf.2.2, fun H4 v4 s4 d4 => ?_⟩
    have s34 := s3.trans s4
    have ef := eq_fin hf d2 s34 d4
    refine ⟨_, _, ef.1, ef.2.1, ef.2.2.1, ef.2.2.1, ?_⟩
    rw [ef.2.2.2]
    exact q _ (s12.trans s34)
theorem ok_law (T : Txt K mg A) : FnOk P w K mg base CX0 9 A.a_law A.d_law ["_law_script"] (spLaw K) := by
  refine T.F_law.ok sc_law (fun vs H Q E h => ?_) (fun cdv B outer s H vs Q E hr h => ?_)
  · obtain ⟨a, ns, rfl, _⟩ := h
    rfl
  · obtain ⟨a, ns, rfl, hS, hl, q⟩ := h
    refine ⟨_, (pss_cons (ps_set (i := 1) sc_law.nd rfl (.inr rfl) (pe_call (ok_law_source T) (hr.mono (by omega)) rfl T.g_law_source T.F_law_source.kp T.b_law_source .nil pass0 (pa_cons (pv 0) pa_nil)))
    (pss_cons (ps_set (i := 2) sc_law.nd rfl (.inl rfl) (pe_call (ok_law_pool T) (hr.mono (by omega)) rfl T.g_law_pool T.F_law_pool.kp T.b_law_pool .nil pass0 (pa_cons (pv 1) (pa_cons (pe_op op_add pe_int (pe_call (ok_law_draw T) (hr.mono (by omega)) rfl T.g_law_draw T.F_law_draw.kp T.b_law_draw .nil pass0 (pa_cons (pv 1) (pa_cons pe_int pa_nil)))) pa_nil))))
    (pss_cons (ps_set (i := 3) sc_law.nd rfl (.inl rfl) (pe_call (ok_law_words T) (hr.mono (by omega)) rfl T.g_law_words T.F_law_words.kp T.b_law_words .nil pass0 (pa_cons (pv 1) (pa_cons (pv 2) pa_nil))))
    (pss_cons (ps_asg (pe_call (ok_law_table T) (hr.mono (by omega)) rfl T.g_law_table T.F_law_table.kp T.b_law_table .nil pass0 (pa_cons (pv 3) pa_nil)) (pg_tup (by rfl) (pgs_cons (pg_name (i := 4) sc_law.nd rfl (.inl rfl)) (pgs_cons (pg_name (i := 5) sc_law.nd rfl (.inl rfl)) (pgs_cons (pg_name (i := 6) sc_law.nd rfl (.inl rfl)) pgs_nil)))))
    (pss_cons (ps_if (pt_cmpR op_eq (pe_call (ok_law_draw T) (hr.mono (by omega)) rfl T.g_law_draw T.F_law_draw.kp T.b_law_draw .nil pass0 (pa_cons (pv 1) (pa_cons pe_int pa_nil))) pe_int (nomark _)) (pss_cons (ps_set (i := 3) sc_law.nd rfl (.inl rfl) (pe_call (ok_law_longer T) (hr.mono (by omega)) rfl T.g_law_longer T.F_law_longer.kp T.b_law_longer .nil pass0 (pa_cons (pv 1) (pa_cons (pv 2) pa_nil))))
    (pss_one (ps_asg (pe_call (ok_law_quick T) (hr.mono (by omega)) rfl T.g_law_quick T.F_law_quick.kp T.b_law_quick .nil pass0 (pa_cons (pv 3) pa_nil)) (pg_tup (by rfl) (pgs_cons (pg_name (i := 4) sc_law.nd rfl (.inl rfl)) (pgs_cons (pg_name (i := 5) sc_law.nd rfl (.inl rfl)) (pgs_cons (pg_name (i := 6) sc_law.nd rfl (.inl rfl)) pgs_nil))))))) pss_nil)
    (pss_cons (ps_for PassesOwn.never rfl (pi_range1 (by rfl) T.n_range (pa_cons pe_int pa_nil)) (pg_name (i := 7) sc_law.nd rfl (.inl rfl))
      (pss_cons (ps_if (pt_cmpR (op_neD hr.units) (pe_call (ok_plain T 5) (hr.mono (by omega)) rfl T.g_law_plain T.F_law_plain.kp T.b_law_plain .nil pass0 (pa_cons (pe_call (ok_squeeze T) (hr.mono (by omega)) rfl T.g_squeeze T.F_squeeze.kp T.b_squeeze .nil passN (pa_cons (pe_callTy tuple_of (by rfl) T.n_tuple (by decide +kernel) (pa_cons (pv 3) pa_nil)) pa_nil)) pa_nil)) (pe_call (ok_plain T 5) (hr.mono (by omega)) rfl T.g_law_plain T.F_law_plain.kp T.b_law_plain .nil pass0 (pa_cons (pe_callTy tuple_of (by rfl) T.n_tuple (by decide +kernel) (pa_cons (pv 5) pa_nil)) pa_nil)) (nomark _)) (pss_one (ps_ret pe_bl)) pss_nil)
    (pss_one (ps_if (pt_cmpR (op_neD hr.units) (pe_call (ok_plain T 5) (hr.mono (by omega)) rfl T.g_law_plain T.F_law_plain.kp T.b_law_plain .nil pass0 (pa_cons (pe_call (ok_fewest T) (hr.mono (by omega)) rfl T.g_fewest T.F_fewest.kp T.b_fewest .nil pass0 (pa_cons (pe_callTy tuple_of (by rfl) T.n_tuple (by decide +kernel) (pa_cons (pv 3) pa_nil)) pa_nil)) pa_nil)) (pe_call (ok_plain T 5) (hr.mono (by omega)) rfl T.g_law_plain T.F_law_plain.kp T.b_law_plain .nil pass0 (pa_cons (pv 4) pa_nil)) (nomark _)) (pss_one (ps_ret pe_bl)) pss_nil))))
    (pss_cons (ps_if (pt_cmpR (op_neD hr.units) (pe_call (ok_plain T 5) (hr.mono (by omega)) rfl T.g_law_plain T.F_law_plain.kp T.b_law_plain .nil pass0 (pa_cons (pe_call (ok_law_opened_told T) (hr.mono (by omega)) rfl T.g_law_opened_told T.F_law_opened_told.kp T.b_law_opened_told .nil pass0 (pa_cons (pv 5) pa_nil)) pa_nil)) (pe_call (ok_plain T 5) (hr.mono (by omega)) rfl T.g_law_plain T.F_law_plain.kp T.b_law_plain .nil pass0 (pa_cons (pe_tup (pa_cons (pe_callTy tuple_of (by rfl) T.n_tuple (by decide +kernel) (pa_cons (pv 3) pa_nil)) (pa_cons (pv 6) pa_nil))) pa_nil)) (nomark _)) (pss_one (ps_ret pe_bl)) pss_nil)
    (pss_cons (ps_set (i := 8) sc_law.nd rfl (.inr rfl) (pe_tup (pa_cons pe_int (pa_cons pe_int (pa_cons pe_int (pa_cons pe_int (pa_cons pe_int (pa_cons pe_int (pa_cons pe_int (pa_cons pe_int (pa_cons pe_int (pa_cons pe_int (pa_cons pe_int (pa_cons pe_int (pa_cons pe_int (pa_cons pe_int (pa_cons pe_int (pa_cons pe_int pa_nil))))))))))))))))))
    (pss_cons (ps_set (i := 8) sc_law.nd rfl (.inr rfl) (pe_op op_catA (pv 8) (pe_tup (pa_cons (pe_call (ok_law_draw T) (hr.mono (by omega)) rfl T.g_law_draw T.F_law_draw.kp T.b_law_draw .nil pass0 (pa_cons (pv 1) (pa_cons pe_int pa_nil))) (pa_cons (pe_op op_add pe_int (pe_call (ok_law_draw T) (hr.mono (by omega)) rfl T.g_law_draw T.F_law_draw.kp T.b_law_draw .nil pass0 (pa_cons (pv 1) (pa_cons pe_int pa_nil)))) (pa_cons (pe_op op_add pe_int (pe_call (ok_law_draw T) (hr.mono (by omega)) rfl T.g_law_draw T.F_law_draw.kp T.b_law_draw .nil pass0 (pa_cons (pv 1) (pa_cons pe_int pa_nil)))) (pa_cons pe_int pa_nil)))))))
    (pss_cons (ps_setLc (i := 9) (own := [("_law_step", 7)]) rfl sc_law.nd rfl rfl (sw_true rfl rfl rfl (by decide +kernel)) (pi_range1 (by rfl) T.n_range (pa_cons (pe_call (ok_law_draw T) (hr.mono (by omega)) rfl T.g_law_draw T.F_law_draw.kp T.b_law_draw .nil pass0 (pa_cons (pv 1) (pa_cons pe_int pa_nil))) pa_nil)) (blkOk_by (own := [("_law_step", 7)]) (N := N_law) (sc := defScope s_law) (by decide +kernel)) (fun _ _ _ _ _ => pg_name (i := 7) sc_law.nd rfl (Or.inl rfl)) (fun _ _ _ _ _ => pts_nil) (fun _ _ _ _ _ => by exact (pe_ix (r := rIxT K) ix_tup (pv 8) (pe_call (ok_law_draw T) (hr.mono (by omega)) rfl T.g_law_draw T.F_law_draw.kp T.b_law_draw .nil pass0 (pa_cons (pv 1) (pa_cons pe_int pa_nil))) (fun _ _ => rfl))))
    (pss_cons (ps_if (PW.pt (pw_or (pt_not (pt_val (pe_call (ok_law_same T) (hr.mono (by omega)) rfl T.g_law_same T.F_law_same.kp T.b_law_same .nil pass0 (pa_cons (pv 9) pa_nil)))) (pw_or1 (pt_not (pt_val (pe_call (ok_law_same T) (hr.mono (by omega)) rfl T.g_law_same T.F_law_same.kp T.b_law_same .nil pass0 (pa_cons (pe_op op_cat (pv 5) (pv 9)) pa_nil))))))) (pss_one (ps_ret pe_bl)) pss_nil)
    (pss_cons (ps_if (pt_cmpR op_ne (pe_call (ok_law_draw T) (hr.mono (by omega)) rfl T.g_law_draw T.F_law_draw.kp T.b_law_draw .nil pass0 (pa_cons (pv 1) (pa_cons pe_int pa_nil))) pe_int (nomark _)) (pss_one (ps_ret pe_bl)) pss_nil)
    (pss_cons (ps_set (i := 10) sc_law.nd rfl (.inl rfl) (pe_op op_add pe_int (pe_call (ok_law_draw T) (hr.mono (by omega)) rfl T.g_law_draw T.F_law_draw.kp T.b_law_draw .nil pass0 (pa_cons (pv 1) (pa_cons pe_int pa_nil)))))
    (pss_cons (ps_set (i := 11) sc_law.nd rfl (.inl rfl) (pe_lst (pa_cons (pe_op op_add pe_int (pv 10)) (pa_cons (pe_ix ix_list (pv 2) pe_int (fun _ _ => rfl)) pa_nil))))
    (pss_cons (ps_for PassesOwn.never rfl (pi_tup (pe_tup (pa_cons (pe_op op_sub pe_int (pv 10)) (pa_cons (pe_op op_sub pe_int (pv 10)) pa_nil)))) (pg_name (i := 12) sc_law.nd rfl (.inl rfl))
      (pss_cons (ps_if (PW.pt (pw_or (pt_not (pt_val (pe_call (ok_law_same T) (hr.mono (by omega)) rfl T.g_law_same T.F_law_same.kp T.b_law_same .nil pass0 (pa_cons (pe_op op_cat (pv 11) (pe_lst (pa_cons (pe_op op_add pe_int (pv 12)) (pa_cons (pe_ix ix_list (pv 2) pe_int (fun _ _ => rfl)) (pa_cons pe_int pa_nil))))) pa_nil)))) (pw_or1 (pt_not (pt_val (pe_call (ok_law_same T) (hr.mono (by omega)) rfl T.g_law_same T.F_law_same.kp T.b_law_same .nil pass0 (pa_cons (pe_op op_cat (pv 11) (pe_lst (pa_cons (pe_op op_add pe_int (pv 12)) (pa_cons (pv 10) pa_nil)))) pa_nil))))))) (pss_one (ps_ret pe_bl)) pss_nil)
    (pss_one (ps_if (pt_not (pt_val (pe_call (ok_law_same T) (hr.mono (by omega)) rfl T.g_law_same T.F_law_same.kp T.b_law_same .nil pass0 (pa_cons (pe_op op_cat (pe_op op_cat (pv 11) (pe_lst (pa_cons (pv 12) pa_nil))) (pe_op op_rep (pe_lst (pa_cons (pe_ix ix_list (pv 2) pe_int (fun _ _ => rfl)) pa_nil)) (pv 12))) pa_nil)))) (pss_one (ps_ret pe_bl)) pss_nil))))
    (pss_one (ps_ret (pe_cmpR op_eq (pe_call (ok_law_refused T) (hr.mono (by omega)) rfl T.g_law_refused T.F_law_refused.kp T.b_law_refused .nil pass0 (pa_cons (pe_op op_rep (pe_lst (pa_cons (pe_ix ix_list (pv 2) pe_int (fun _ _ => rfl)) pa_nil)) pe_int) pa_nil)) pe_int (nomark _))))))))))))))))))), ?_⟩
    refine ⟨_, rfl, a, ns, rfl, hS, hl, fun H1 c p s1 nc np hs1 => ?_⟩
    refine ⟨_, rfl, _, rfl, c, p, 4, rfl, hs1, by decide, by decide, fun H3 n3 l3 hs3 b3 => ⟨_, _, rfl, rfl, ?_⟩⟩
    dsimp (config := { proj := false }) only
    rw [show (1 : Int) + (n3 : Int) = ((1 + n3 : Nat) : Int) by omega]
    refine ⟨c, p, 1 + n3, rfl, hs3, by omega, by omega, fun H4 pa pool hs4 b4 nlp0 epa hp1 hp5 hpw => ?_⟩
    have npa : pa ≠ p := fun z => src_ne hs3 (z ▸ nlp0)
    refine ⟨_, rfl, _, rfl, c, p, pa, pool, rfl, hs4, epa, npa, hp1, hp5, hpw, fun H5 wl W hs5 b5 nwl ewl hWl hWw => ?_⟩
    refine ⟨_, rfl, wl, W, rfl, ewl, by omega, fun H6 t l f r s6 et el ef dr => ?_⟩
    refine ⟨t, _, rfl, SqT.of et, rfl, _, _, rfl, _, _, rfl, _, _, rfl, rfl, ?_⟩
    have hs6 := src_up hs5 s6
    have epa6 := s6 _ _ (b5 _ _ npa epa)
    have ewl6 := s6 _ _ ewl
    have nwlp : wl ≠ p := src_ints hs6 ewl6
    have nlp : l ≠ p := src_ints hs6 el
    have nfp : f ≠ p := src_ints hs6 ef
    refine ⟨_, rfl, c, p, 5, rfl, hs6, by decide, by decide, fun H7 n7 l7 hs7 b7 => ⟨rfl, _, rfl, ifB (fun e => ?_) (fun e => ?_)⟩⟩
    · have epa7 := b7 _ _ npa epa6
      refine ⟨_, rfl, _, rfl, c, p, pa, pool, rfl, hs7, epa7, npa, hp1, hp5, hpw, fun H8 wl2 W2 hs8 b8 nwl2 ewl2 hWl2 hWw2 => ?_⟩
      refine ⟨_, rfl, wl2, W2, rfl, ewl2, by omega, fun H9 t2 l2 f2 r2 s9 et2 el2 ef2 dr2 => ?_⟩
      refine ⟨t2, _, rfl, SqT.of et2, rfl, _, _, rfl, _, _, rfl, _, _, rfl, rfl, ?_⟩
      have hsJ := src_up hs8 s9
      have epaJ := s9 _ _ (b8 _ _ npa epa7)
      have ewlJ := s9 _ _ ewl2
      have elJ := el2
      have efJ := ef2
      have drJ := dr2
      have hWw := hWw2
      have hWl : W2.length ≤ 160 := by omega
      have hff := frm_le (W := W2) _ W2.length (Nat.le_refl _) (Nat.le_refl _)
      have hfw := frm_w (W := W2) (by omega) hWw _ W2.length (Nat.le_refl _) (Nat.le_refl _)
      have hpl := pcz_le (W := W2) _ W2.length (Nat.le_refl _) (Nat.le_refl _)
      have hf1 : fitD (intsD (frm W2 W2.length)) := fit_ints (by omega)
      have hf2 : fitD (.list (natD (RZ W2 W2.length))) := fit_list (by rw [RZ_len]; omega)
      have hf3 : fitD (.tuple [intsD W2, pzsD (pcz W2 W2.length)]) := fit_pair (by omega) (pcz_pt (by omega)) (by omega)
      have hrd := rd_frm (W := W2) (by omega)
      have nfp : f2 ≠ p := src_ints hsJ efJ
      refine ⟨(2 : Int), rfl, by decide, by decide, ?_⟩
      refine for_it (walk_range (lo := 0) (n := 2)) (fun i σ Hc => ∃ (o7 : Option V), σ = [some (.ref a), some (.ref p), some (.ref pa), some (.ref wl2), some (.ref l2), some (.ref f2), some (.ref r2), o7, none, none, none, none, none] ∧ Same H9 Hc)
        ⟨_, rfl, Same.refl _⟩ (fun _ _ _ _ _ => trivial) (fun i x σ Hc Hd hi y e => ?_) (fun σ Hc y => ?_)
      · obtain ⟨rfl, ex⟩ := e
        obtain ⟨o7, rfl, sm⟩ := y
        refine ⟨_, rfl, wl2, _, rfl, .inl ⟨SqL.of (sm _ _ ewlJ), fun t1 ht1 => ?_⟩⟩
        have s1 := same_new (o := .tup (intV W2)) ht1
        have e1 : upd Hd t1 (.tup (intV W2)) t1 = some (.tup (intV W2)) := upd_same
        generalize upd Hd t1 (.tup (intV W2)) = I1 at s1 e1 ⊢
        refine ⟨t1, W2, rfl, ⟨SqT.of e1, hWw, by omega⟩, fun h => by omega, fun _ I2 q2 s2 e2 => ?_⟩
        refine ⟨_, intsD (frm W2 W2.length), noS, rfl, (fun _ z => z.elim), dx_tupN e2, hf1.2.1, hf1.2.2, fun I3 v3 s3 d3 => ?_⟩
        have s13 := s1.trans (s2.trans s3)
        refine ⟨_, rfl, f2, _, rfl, .inl ⟨SqL.of (s13 _ _ (sm _ _ efJ)), fun t4 ht4 => ?_⟩⟩
        have s4 := same_new (o := .tup (intV (frm W2 W2.length))) ht4
        have e4 : upd I3 t4 (.tup (intV (frm W2 W2.length))) t4 = some (.tup (intV (frm W2 W2.length))) := upd_same
        generalize upd I3 t4 (.tup (intV (frm W2 W2.length))) = I4 at s4 e4 ⊢
        refine ⟨_, intsD (frm W2 W2.length), noS, rfl, (fun _ z => z.elim), dx_tupN e4, hf1.2.1, hf1.2.2, fun I5 v5 s5 d5 => ?_⟩
        have ef5 := eq_fin hf1 d3 (s4.trans s5) d5
        refine ⟨_, _, ef5.1, ef5.2.1, ef5.2.2.1, ef5.2.2.1, ?_⟩
        rw [ef5.2.2.2]
        refine ⟨_, rfl, ifF rfl ?_⟩
        have s15 := sm.trans (s13.trans (s4.trans s5))
        clear ef5 d3 d5 s1 s2 s3 s4 s5 s13 e1 e2 e4
        refine ⟨_, rfl, wl2, _, rfl, .inl ⟨SqL.of (s15 _ _ ewlJ), fun t1 ht1 => ?_⟩⟩
        have s1 := same_new (o := .tup (intV W2)) ht1
        have e1 : upd I5 t1 (.tup (intV W2)) t1 = some (.tup (intV W2)) := upd_same
        generalize upd I5 t1 (.tup (intV W2)) = I6 at s1 e1 ⊢
        refine ⟨t1, W2, rfl, ⟨SqT.of e1, hWw, by omega⟩, fun I7 l7 s7 e7 => ?_⟩
        refine ⟨_, .list (natD (RZ W2 W2.length)), noS, rfl, (fun _ z => z.elim), dx_lstN e7, hf2.2.1, hf2.2.2, fun I8 v8 s8 d8 => ?_⟩
        have s18 := s15.trans (s1.trans (s7.trans s8))
        refine ⟨_, rfl, _, .list (natD (RZ W2 W2.length)), noS, rfl, (fun _ z => z.elim), dx_lstN (s18 _ _ elJ), hf2.2.1, hf2.2.2, fun I9 v9 s9 d9 => ?_⟩
        have ef9 := eq_fin hf2 d8 s9 d9
        refine ⟨_, _, ef9.1, ef9.2.1, ef9.2.2.1, ef9.2.2.1, ?_⟩
        rw [ef9.2.2.2]
        exact ⟨_, rfl, ifF rfl ⟨_, rfl, s18.trans s9⟩⟩
      obtain ⟨o7, rfl, sm⟩ := y
      have hs0 := src_up hsJ sm
      have ewl0 := sm _ _ ewlJ
      have ef0 := sm _ _ efJ
      have epa0 := sm _ _ epaJ
      have dr0 := PsZ.up sm drJ
      clear sm ewlJ efJ epaJ drJ elJ hsJ hf1 hf2
      refine ⟨_, rfl, f2, frm W2 W2.length, rfl, ef0, hfw, by omega, fun I1 v1 s1 d1 => ?_⟩
      rw [hrd] at d1
      refine ⟨_, _, noS, rfl, (fun _ z => z.elim), d1, hf3.2.1, hf3.2.2, fun I2 v2 s2 d2 => ?_⟩
      have s12 := s1.trans s2
      refine ⟨_, rfl, wl2, _, rfl, .inl ⟨SqL.of (s12 _ _ ewl0), fun t3 ht3 => ?_⟩⟩
      have s3 := same_new (o := .tup (intV W2)) ht3
      have e3 : upd I2 t3 (.tup (intV W2)) t3 = some (.tup (intV W2)) := upd_same
      generalize upd I2 t3 (.tup (intV W2)) = I3 at s3 e3 ⊢
      refine ⟨_, rfl, lenOk (n := 2) rfl (by decide), fun t4 ht4 => ?_⟩
      have s4 := same_new (o := .tup [V.ref t3, V.ref r2]) ht4
      have e4 : upd I3 t4 (.tup [V.ref t3, V.ref r2]) t4 = some (.tup [V.ref t3, V.ref r2]) := upd_same
      generalize upd I3 t4 (.tup [V.ref t3, V.ref r2]) = I4 at s4 e4 ⊢
      have s14 := s12.trans (s3.trans s4)
      refine ⟨_, .tuple [intsD W2, pzsD (pcz W2 W2.length)], noS, rfl, (fun _ z => z.elim), .tup (XT.of e4 fun z => z) (.cons (dx_tupN (s4 _ _ e3)) (.cons (dr0.up s14) .nil)), hf3.2.1, hf3.2.2, fun I5 v5 s5 d5 => ?_⟩
      have ef5 := eq_fin hf3 d2 (s3.trans (s4.trans s5)) d5
      refine ⟨_, _, ef5.1, ef5.2.1, ef5.2.2.1, ef5.2.2.1, ?_⟩
      rw [ef5.2.2.2]
      refine ⟨_, rfl, ifF rfl ?_⟩
      have s05 := s14.trans s5
      have hs5 := src_up hs0 s05
      have ef1 := s05 _ _ ef0
      have epa1 := s05 _ _ epa0
      clear ef5 d1 d2 d5 dr0 s1 s2 s3 s4 s5 s12 s14 s05 e3 e4 ewl0 ef0 epa0 hs0 hrd hf3
      -- forms made
      refine ⟨lenOk (n := 16) rfl (by decide), fun m1 hm1 => ?_⟩
      have s1 := same_new (o := .tup [V.int 0, V.int 1, V.int 2, V.int 3, V.int 16384, V.int 16385, V.int 16387, V.int 32767, V.int 32768, V.int 32769, V.int 32771, V.int 49151, V.int 49152, V.int 65535, V.int 1, V.int 2]) hm1
      have e1 : upd I5 m1 (.tup [V.int 0, V.int 1, V.int 2, V.int 3, V.int 16384, V.int 16385, V.int 16387, V.int 32767, V.int 32768, V.int 32769, V.int 32771, V.int 49151, V.int 49152, V.int 65535, V.int 1, V.int 2]) m1 = some (.tup (intV [0, 1, 2, 3, 16384, 16385, 16387, 32767, 32768, 32769, 32771, 49151, 49152, 65535, 1, 2])) := upd_same
      generalize upd I5 m1 (.tup [V.int 0, V.int 1, V.int 2, V.int 3, V.int 16384, V.int 16385, V.int 16387, V.int 32767, V.int 32768, V.int 32769, V.int 32771, V.int 49151, V.int 49152, V.int 65535, V.int 1, V.int 2]) = I6 at s1 e1 ⊢
      have hs6 := src_up hs5 s1
      have nm1 : m1 ≠ p := fun z => src_ne hs5 (z ▸ hm1)
      refine ⟨_, rfl, _, rfl, c, p, 65536, rfl, hs6, by decide, by decide, fun I7 d1 ld1 hs7 b7 => ?_⟩
      refine ⟨_, rfl, c, p, 2100, rfl, hs7, by decide, by decide, fun I8 d2 ld2 hs8 b8 => ⟨_, _, rfl, rfl, ?_⟩⟩
      refine ⟨_, rfl, c, p, 2100, rfl, hs8, by decide, by decide, fun I9 d3 ld3 hs9 b9 => ⟨_, _, rfl, rfl, ?_⟩⟩
      refine ⟨lenOk (n := 4) rfl (by decide), fun m2 hm2 => ?_⟩
      have b69 := b7.trans (b8.trans b9)
      have e19 := b69 _ _ nm1 e1
      have s2 := same_new (o := .tup [V.int (d1 : Int), V.int (32768 + (d2 : Int)), V.int (16384 + (d3 : Int)), V.int 1]) hm2
      have e2 : upd I9 m2 (.tup [V.int (d1 : Int), V.int (32768 + (d2 : Int)), V.int (16384 + (d3 : Int)), V.int 1]) m2 = some (.tup (intV [d1, 32768 + d2, 16384 + d3, 1])) := by
        rw [upd_same]
        show _ = some (HO.tup [V.int (d1 : Int), V.int ((32768 + d2 : Nat) : Int), V.int ((16384 + d3 : Nat) : Int), V.int 1])
        rw [Int.natCast_add, Int.natCast_add]
        rfl
      dsimp (config := { proj := false }) only
      generalize upd I9 m2 (.tup [V.int (d1 : Int), V.int (32768 + (d2 : Int)), V.int (16384 + (d3 : Int)), V.int 1]) = I10 at s2 e2 ⊢
      have hs10 := src_up hs9 s2
      refine catA_of (SqT.of (s2 _ _ e19)) (SqT.of e2) (by rw [intV_len, intV_len]; show 16 + 4 ≤ _; decide) fun mn I11 s11 hmn => ?_
      rw [← intV_app] at hmn
      have hM : ∀ w ∈ [0, 1, 2, 3, 16384, 16385, 16387, 32767, 32768, 32769, 32771, 49151, 49152, 65535, 1, 2] ++ [d1, 32768 + d2, 16384 + d3, 1], w ≤ 65535 := fun w hw => by
        rcases List.mem_append.mp hw with z | z
        · have : ∀ w ∈ [0, 1, 2, 3, 16384, 16385, 16387, 32767, 32768, 32769, 32771, 49151, 49152, 65535, 1, 2], w ≤ 65535 := by decide
          exact this w z
        · simp at z
          omega
      have hMl : ([0, 1, 2, 3, 16384, 16385, 16387, 32767, 32768, 32769, 32771, 49151, 49152, 65535, 1, 2] ++ [d1, 32768 + d2, 16384 + d3, 1]).length = 20 := rfl
      have hs11 := src_up hs10 s11
      have b611 := b69.trans (But.of (s2.trans s11))
      have ef11 := b611 _ _ nfp (s1 _ _ ef1)
      have epa11 := b611 _ _ npa (s1 _ _ epa1)
      generalize [0, 1, 2, 3, 16384, 16385, 16387, 32767, 32768, 32769, 32771, 49151, 49152, 65535, 1, 2] ++ [d1, 32768 + d2, 16384 + d3, 1] = M at *
      have hpl5 := intV_len pool
      have hp0 : pool.getD 0 0 ≤ 65535 := by
        rw [List.getD_eq_getElem?_getD, List.getElem?_eq_getElem (by omega)]
        exact hpw _ (List.getElem_mem _)
      have hat0 : atI (intV pool) 0 = some (.int ((pool.getD 0 0 : Nat) : Int)) := atI_nat (j := 0) (intV_at (by omega))
      generalize pool.getD 0 0 = p0 at *
      refine ⟨_, rfl, c, p, 9, rfl, hs11, by decide, by decide, fun I12 n12 l12 hs12 b12 => ⟨(n12 : Int), rfl, by omega, by omega, fun D hD => ?_⟩⟩
      rw [Int.toNat_natCast]
      have nD : D ≠ p := fun z => src_ne hs12 (z ▸ hD)
      have ncD : D ≠ c := fun z => src_cne hs12 (z ▸ hD)
      have hmn12 := sqT_but hs11 b12 hmn
      refine lc_inv (walk_range (lo := 0) (n := n12)) (fun i v => True) (fun i acc H4 => Src c H4 p ∧ But p I12 H4 ∧ ∃ zs : List Nat, acc = intV zs ∧ ∀ w ∈ zs, w ≤ 65535) (by omega) ⟨src_up hs12 (same_new hD), But.of (same_new hD), [], rfl, fun w h => by cases h⟩ (fun _ _ _ _ => trivial) (fun i H1 v H2 hi y => ⟨y.1, trivial⟩) (fun i v acc H6 hi hl pv e5 _ Q q => ?_) (fun acc I13 hl6 pv elD => ?_)
      · obtain ⟨hs6, b6, zs, rfl, hz⟩ := pv
        refine ⟨_, rfl, _, rfl, c, p, 20, rfl, hs6, by decide, by decide, fun H7 x hx hs7 b7 => ?_⟩
        refine ⟨mn, _, _, _, rfl, rfl, sqT_but hs12 (b6.trans b7) hmn12, atI_nat (intV_at (by omega)), ?_⟩
        refine q _ _ (b7 _ _ nD e5) ⟨src_put hs7 nD ncD, but_new (b6.trans b7) hD, zs ++ [M.getD x 0], by rw [intV_app]; rfl, fun w h => ?_⟩
        rcases List.mem_append.mp h with z | z
        · exact hz w z
        · rw [List.mem_singleton.mp z, List.getD_eq_getElem?_getD, List.getElem?_eq_getElem (by omega)]
          exact hM _ (List.getElem_mem _)
      obtain ⟨hs13, b13, zs, rfl, hzw⟩ := pv
      rw [intV_len] at hl6
      have ef13 := b13 _ _ nfp (b12 _ _ nfp ef11)
      have epa13 := b13 _ _ npa (b12 _ _ npa epa11)
      clear hmn12 hs12 b12 b13 ef11 epa11 hs11 hmn b611 hs10 s11 e19 e1 e2 b69 s2 hs9 b9 b8 hs8 b7 hs7 hs6
      refine ⟨_, rfl, D, zs, rfl, elD, hzw, by omega, fun I14 s14 => ?_⟩
      refine ⟨true, rfl, ifF rfl ?_⟩
      have ef14 := s14 _ _ ef13
      have elD14 := s14 _ _ elD
      refine ⟨_, rfl, _, rfl, f2, D, _, _, rfl, rfl, ef14, elD14, le_line (by rw [intV_len, intV_len]; omega), fun fr hfr => ?_⟩
      have s15 := same_new (o := .lst (intV (frm W2 W2.length) ++ intV zs)) hfr
      have e15 : upd I14 fr (.lst (intV (frm W2 W2.length) ++ intV zs)) fr = some (.lst (intV (frm W2 W2.length ++ zs))) := by rw [upd_same, intV_app]
      generalize upd I14 fr (.lst (intV (frm W2 W2.length) ++ intV zs)) = I15 at s15 e15 ⊢
      refine ⟨fr, frm W2 W2.length ++ zs, rfl, e15, fun w hw => (List.mem_append.mp hw).elim (hfw w) (hzw w), by rw [List.length_append]; omega, fun I16 s16 => ?_⟩
      refine ⟨true, rfl, ifF rfl ?_⟩
      have s1316 := s14.trans (s15.trans s16)
      have hs16 := src_up hs13 s1316
      have epa16 := s1316 _ _ epa13
      clear ef14 elD14 s15 e15 s16 s1316 s14 ef13 elD epa13 hs13 hfw
      refine ⟨_, rfl, c, p, 6, rfl, hs16, by decide, by decide, fun I17 n17 l17 hs17 b17 => ⟨rfl, _, rfl, ifB (fun e => q _) (fun e => ?_)⟩⟩
      refine ⟨_, rfl, c, p, 2046, rfl, hs17, by decide, by decide, fun I18 n18 l18 hs18 b18 => ⟨_, _, rfl, rfl, ?_⟩⟩
      have epa18 := b18 _ _ npa (b17 _ _ npa epa16)
      clear b17 b18 epa16 hs16 hs17 hs18
      dsimp (config := { proj := false }) only
      obtain ⟨cn, hcn, hc1, hc2⟩ : ∃ cn : Nat, (1 : Int) + (n18 : Int) = (cn : Int) ∧ 1 ≤ cn ∧ cn ≤ 2046 := ⟨1 + n18, by omega, by omega, by omega⟩
      rw [hcn]
      refine ⟨_, rfl, _, _, rfl, rfl, _, rfl, pa, _, 0, _, rfl, rfl, SqL.of epa18, hat0, lenOk (n := 2) rfl (by decide), fun hd hhd => ?_⟩
      dsimp (config := { proj := false }) only
      have s19 := same_new (o := .lst [V.int (16384 + (cn : Int)), V.int (p0 : Int)]) hhd
      have e19 : upd I18 hd (.lst [V.int (16384 + (cn : Int)), V.int (p0 : Int)]) hd = some (.lst (intV [16384 + cn, p0])) := by
        rw [upd_same]
        show _ = some (HO.lst [V.int ((16384 + cn : Nat) : Int), V.int (p0 : Int)])
        rw [Int.natCast_add]
        rfl
      generalize upd I18 hd (.lst [V.int (16384 + (cn : Int)), V.int (p0 : Int)]) = I19 at s19 e19 ⊢
      have epa19 := s19 _ _ epa18
      clear s19 epa18 hhd
      refine ⟨_, rfl, _, _, rfl, rfl, _, rfl, _, _, rfl, rfl, lenOk (n := 2) rfl (by decide), fun tq htq => ⟨tq, rfl, ⟨_, SqT.of upd_same⟩, ?_⟩⟩
      dsimp (config := { proj := false }) only
      have s20 := same_new (o := .tup [V.int (2048 - (cn : Int)), V.int (2049 - (cn : Int))]) htq
      have e20 : upd I19 tq (.tup [V.int (2048 - (cn : Int)), V.int (2049 - (cn : Int))]) tq = some (.tup [V.int (2048 - (cn : Int)), V.int (2049 - (cn : Int))]) := upd_same
      generalize upd I19 tq (.tup [V.int (2048 - (cn : Int)), V.int (2049 - (cn : Int))]) = I20 at s20 e20 ⊢
      have epa20 := s20 _ _ epa19
      have e1920 := s20 _ _ e19
      clear s20 epa19 e19 htq
      refine for_it (walk_tup (K := K) (a := tq) (xs := [V.int (2048 - (cn : Int)), V.int (2049 - (cn : Int))])) (fun i σ Hc => ∃ (o12 : Option V), σ = [some (.ref a), some (.ref p), some (.ref pa), some (.ref wl2), some (.ref l2), some (.ref f2), some (.ref r2), o7, some (.ref mn), some (.ref D), some (.int (cn : Int)), some (.ref hd), o12] ∧ Same I20 Hc)
        ⟨_, rfl, Same.refl _⟩ (fun i σ Hc _ y => ?_) (fun i x σ Hc Hd hi y e => ?_) (fun σ Hc y => ?_)
      · obtain ⟨_, _, s⟩ := y
        exact sqT_up (SqT.of e20) s
      · obtain ⟨rfl, ex⟩ := e
        obtain ⟨mv, rfl, hm1', hm2'⟩ : ∃ mv : Nat, x = .int (mv : Int) ∧ 1 ≤ mv ∧ mv ≤ 2048 := by
          match i, ex with
          | 0, ex =>
            cases ex
            exact ⟨2048 - cn, congrArg V.int (by omega), by omega, by omega⟩
          | 1, ex =>
            cases ex
            exact ⟨2049 - cn, congrArg V.int (by omega), by omega, by omega⟩
          | k + 2, ex => cases ex
        obtain ⟨o12, rfl, sm⟩ := y
        have ep := sm _ _ epa20
        have eh := sm _ _ e1920
        -- a run behind the head
        refine ⟨_, rfl, _, rfl, _, _, rfl, rfl, _, rfl, pa, _, 0, _, rfl, rfl, SqL.of ep, hat0, lenOk (n := 3) rfl (by decide), fun y1 hy1 => ?_⟩
        dsimp (config := { proj := false }) only
        have w1 := same_new (o := .lst [V.int (16384 + (mv : Int)), V.int (p0 : Int), V.int 1]) hy1
        have v1 : upd Hd y1 (.lst [V.int (16384 + (mv : Int)), V.int (p0 : Int), V.int 1]) y1 = some (.lst (intV [16384 + mv, p0, 1])) := by
          rw [upd_same]
          show _ = some (HO.lst [V.int ((16384 + mv : Nat) : Int), V.int (p0 : Int), V.int 1])
          rw [Int.natCast_add]
          rfl
        generalize upd Hd y1 (.lst [V.int (16384 + (mv : Int)), V.int (p0 : Int), V.int 1]) = M1 at w1 v1 ⊢
        refine ⟨hd, y1, _, _, rfl, rfl, w1 _ _ eh, v1, le_line (by show 2 + 3 ≤ _; decide), fun y2 hy2 => ?_⟩
        have w2 := same_new (o := .lst (intV [16384 + cn, p0] ++ intV [16384 + mv, p0, 1])) hy2
        have v2 : upd M1 y2 (.lst (intV [16384 + cn, p0] ++ intV [16384 + mv, p0, 1])) y2 = some (.lst (intV [16384 + cn, p0, 16384 + mv, p0, 1])) := by
          rw [upd_same, ← intV_app]
          rfl
        generalize upd M1 y2 (.lst (intV [16384 + cn, p0] ++ intV [16384 + mv, p0, 1])) = M2 at w2 v2 ⊢
        refine ⟨y2, [16384 + cn, p0, 16384 + mv, p0, 1], rfl, v2, fun w hw => (by simp at hw; omega), by show 5 ≤ _; decide, fun M3 w3 => ?_⟩
        refine ⟨true, rfl, ifF rfl ?_⟩
        have w13 := w1.trans (w2.trans w3)
        have eh3 := w13 _ _ eh
        -- a back
        refine ⟨_, rfl, _, rfl, _, _, rfl, rfl, _, rfl, lenOk (n := 2) rfl (by decide), fun y4 hy4 => ?_⟩
        dsimp (config := { proj := false }) only
        have w4 := same_new (o := .lst [V.int (32768 + (mv : Int)), V.int (cn : Int)]) hy4
        have v4 : upd M3 y4 (.lst [V.int (32768 + (mv : Int)), V.int (cn : Int)]) y4 = some (.lst (intV [32768 + mv, cn])) := by
          rw [upd_same]
          show _ = some (HO.lst [V.int ((32768 + mv : Nat) : Int), V.int (cn : Int)])
          rw [Int.natCast_add]
          rfl
        generalize upd M3 y4 (.lst [V.int (32768 + (mv : Int)), V.int (cn : Int)]) = M4 at w4 v4 ⊢
        refine ⟨hd, y4, _, _, rfl, rfl, w4 _ _ eh3, v4, le_line (by show 2 + 2 ≤ _; decide), fun y5 hy5 => ?_⟩
        have w5 := same_new (o := .lst (intV [16384 + cn, p0] ++ intV [32768 + mv, cn])) hy5
        have v5 : upd M4 y5 (.lst (intV [16384 + cn, p0] ++ intV [32768 + mv, cn])) y5 = some (.lst (intV [16384 + cn, p0, 32768 + mv, cn])) := by
          rw [upd_same, ← intV_app]
          rfl
        generalize upd M4 y5 (.lst (intV [16384 + cn, p0] ++ intV [32768 + mv, cn])) = M5 at w5 v5 ⊢
        refine ⟨y5, [16384 + cn, p0, 32768 + mv, cn], rfl, v5, fun w hw => (by simp at hw; omega), by show 4 ≤ _; decide, fun M6 w6 => ?_⟩
        refine ⟨true, rfl, ifF rfl ?_⟩
        have w16 := w13.trans (w4.trans (w5.trans w6))
        have eh6 := w16 _ _ eh
        have ep6 := w16 _ _ ep
        clear w1 w2 w3 w4 w5 w6 v1 v2 v4 v5 eh3 w13
        -- words put
        refine ⟨_, rfl, _, rfl, lenOk (n := 1) rfl (by decide), fun y1 hy1 => ?_⟩
        have w1 := same_new (o := .lst [V.int (mv : Int)]) hy1
        have v1 : upd M6 y1 (.lst [V.int (mv : Int)]) y1 = some (.lst (intV [mv])) := upd_same
        generalize upd M6 y1 (.lst [V.int (mv : Int)]) = M7 at w1 v1 ⊢
        refine ⟨hd, y1, _, _, rfl, rfl, w1 _ _ eh6, v1, le_line (by show 2 + 1 ≤ _; decide), fun y2 hy2 => ?_⟩
        have w2 := same_new (o := .lst (intV [16384 + cn, p0] ++ intV [mv])) hy2
        have v2 : upd M7 y2 (.lst (intV [16384 + cn, p0] ++ intV [mv])) y2 = some (.lst (intV [16384 + cn, p0, mv])) := by
          rw [upd_same, ← intV_app]
          rfl
        generalize upd M7 y2 (.lst (intV [16384 + cn, p0] ++ intV [mv])) = M8 at w2 v2 ⊢
        refine ⟨_, rfl, pa, _, 0, _, rfl, rfl, SqL.of (w2 _ _ (w1 _ _ ep6)), hat0, lenOk (n := 1) rfl (by decide), fun y3 hy3 => ?_⟩
        have w3 := same_new (o := .lst [V.int (p0 : Int)]) hy3
        have v3 : upd M8 y3 (.lst [V.int (p0 : Int)]) y3 = some (.lst [V.int (p0 : Int)]) := upd_same
        generalize upd M8 y3 (.lst [V.int (p0 : Int)]) = M9 at w3 v3 ⊢
        refine ⟨_, rfl, y3, _, _, rfl, rfl, v3, by omega, by omega, le_line (by rw [Int.toNat_natCast]; show 1 * mv ≤ _; omega), fun y4 hy4 => ?_⟩
        have w4 := same_new (o := .lst (List.replicate (mv : Int).toNat [V.int (p0 : Int)]).flatten) hy4
        have v4 : upd M9 y4 (.lst (List.replicate (mv : Int).toNat [V.int (p0 : Int)]).flatten) y4 = some (.lst (intV (List.replicate mv p0))) := by
          rw [upd_same, Int.toNat_natCast, List.flatten_replicate_singleton]
          unfold intV
          rw [List.map_replicate]
        generalize upd M9 y4 (.lst (List.replicate (mv : Int).toNat [V.int (p0 : Int)]).flatten) = M10 at w4 v4 ⊢
        refine ⟨y2, y4, _, _, rfl, rfl, w4 _ _ (w3 _ _ v2), v4, le_line (by rw [intV_len, intV_len, List.length_replicate]; show 3 + mv ≤ _; omega), fun y5 hy5 => ?_⟩
        have w5 := same_new (o := .lst (intV [16384 + cn, p0, mv] ++ intV (List.replicate mv p0))) hy5
        have v5 : upd M10 y5 (.lst (intV [16384 + cn, p0, mv] ++ intV (List.replicate mv p0))) y5 = some (.lst (intV ([16384 + cn, p0, mv] ++ List.replicate mv p0))) := by rw [upd_same, ← intV_app]
        generalize upd M10 y5 (.lst (intV [16384 + cn, p0, mv] ++ intV (List.replicate mv p0))) = M11 at w5 v5 ⊢
        refine ⟨y5, [16384 + cn, p0, mv] ++ List.replicate mv p0, rfl, v5, fun w hw => ?_, by rw [List.length_append, List.length_replicate]; show 3 + mv ≤ _; omega, fun M12 w6 => ?_⟩
        · rcases List.mem_append.mp hw with z | z
          · simp at z
            omega
          · rw [List.eq_of_mem_replicate z]
            exact hp0
        refine ⟨true, rfl, ifF rfl ?_⟩
        exact ⟨_, rfl, sm.trans (w16.trans (w1.trans (w2.trans (w3.trans (w4.trans (w5.trans w6))))))⟩
      obtain ⟨o12, rfl, sm⟩ := y
      have ep := sm _ _ epa20
      refine ⟨_, rfl, pa, _, 0, _, rfl, rfl, SqL.of ep, hat0, lenOk (n := 1) rfl (by decide), fun y3 hy3 => ?_⟩
      have w3 := same_new (o := .lst [V.int (p0 : Int)]) hy3
      have v3 : upd Hc y3 (.lst [V.int (p0 : Int)]) y3 = some (.lst [V.int (p0 : Int)]) := upd_same
      generalize upd Hc y3 (.lst [V.int (p0 : Int)]) = M9 at w3 v3 ⊢
      have hN : (2049 : Int).toNat = 2049 := rfl
      refine ⟨y3, 2049, _, rfl, rfl, v3, by decide, by decide, le_line (by rw [hN]; show 1 * 2049 ≤ _; decide), fun y4 hy4 => ?_⟩
      generalize (2049 : Int).toNat = N at hN ⊢
      have w4 := same_new (o := .lst (List.replicate N [V.int (p0 : Int)]).flatten) hy4
      have v4 : upd M9 y4 (.lst (List.replicate N [V.int (p0 : Int)]).flatten) y4 = some (.lst (intV (List.replicate N p0))) := by
        rw [upd_same, List.flatten_replicate_singleton]
        unfold intV
        rw [List.map_replicate]
      generalize upd M9 y4 (.lst (List.replicate N [V.int (p0 : Int)]).flatten) = M10 at w4 v4 ⊢
      refine ⟨y4, List.replicate N p0, rfl, v4, fun w hw => (by rw [List.eq_of_mem_replicate hw]; exact hp0), by rw [List.length_replicate, hN]; decide, by rw [List.length_replicate, hN]; decide, fun M11 w5 => ⟨rfl, ?_⟩⟩
      rw [show (V.bl (decide (V.int 2048 = V.int 2048))) = V.bl true from congrArg V.bl (decide_eq_true rfl)]
      exact q _
    · have epaJ := b7 _ _ npa epa6
      have ewlJ := b7 _ _ nwlp ewl6
      have elJ := b7 _ _ nlp el
      have efJ := b7 _ _ nfp ef
      have drJ : PsZ K H7 r (pcz W W.length) := by
        obtain ⟨cs, pl, dg, ct, mx, h1, _⟩ := hs6
        exact ps_but h1 b7 dr
      have hsJ := hs7
      clear s6 et el ef dr hs6 epa6 ewl6 nwlp nlp nfp
      generalize H7 = J at *
      have hWl : W.length ≤ 160 := by omega
      have hff := frm_le (W := W) _ W.length (Nat.le_refl _) (Nat.le_refl _)
      have hfw := frm_w (W := W) (by omega) hWw _ W.length (Nat.le_refl _) (Nat.le_refl _)
      have hpl := pcz_le (W := W) _ W.length (Nat.le_refl _) (Nat.le_refl _)
      have hf1 : fitD (intsD (frm W W.length)) := fit_ints (by omega)
      have hf2 : fitD (.list (natD (RZ W W.length))) := fit_list (by rw [RZ_len]; omega)
      have hf3 : fitD (.tuple [intsD W, pzsD (pcz W W.length)]) := fit_pair (by omega) (pcz_pt (by omega)) (by omega)
      have hrd := rd_frm (W := W) (by omega)
      have nfp : f ≠ p := src_ints hsJ efJ
      refine ⟨(2 : Int), rfl, by decide, by decide, ?_⟩
      refine for_it (walk_range (lo := 0) (n := 2)) (fun i σ Hc => ∃ (o7 : Option V), σ = [some (.ref a), some (.ref p), some (.ref pa), some (.ref wl), some (.ref l), some (.ref f), some (.ref r), o7, none, none, none, none, none] ∧ Same J Hc)
        ⟨_, rfl, Same.refl _⟩ (fun _ _ _ _ _ => trivial) (fun i x σ Hc Hd hi y e => ?_) (fun σ Hc y => ?_)
      · obtain ⟨rfl, ex⟩ := e
        obtain ⟨o7, rfl, sm⟩ := y
        refine ⟨_, rfl, wl, _, rfl, .inl ⟨SqL.of (sm _ _ ewlJ), fun t1 ht1 => ?_⟩⟩
        have s1 := same_new (o := .tup (intV W)) ht1
        have e1 : upd Hd t1 (.tup (intV W)) t1 = some (.tup (intV W)) := upd_same
        generalize upd Hd t1 (.tup (intV W)) = I1 at s1 e1 ⊢
        refine ⟨t1, W, rfl, ⟨SqT.of e1, hWw, by omega⟩, fun h => by omega, fun _ I2 q2 s2 e2 => ?_⟩
        refine ⟨_, intsD (frm W W.length), noS, rfl, (fun _ z => z.elim), dx_tupN e2, hf1.2.1, hf1.2.2, fun I3 v3 s3 d3 => ?_⟩
        have s13 := s1.trans (s2.trans s3)
        refine ⟨_, rfl, f, _, rfl, .inl ⟨SqL.of (s13 _ _ (sm _ _ efJ)), fun t4 ht4 => ?_⟩⟩
        have s4 := same_new (o := .tup (intV (frm W W.length))) ht4
        have e4 : upd I3 t4 (.tup (intV (frm W W.length))) t4 = some (.tup (intV (frm W W.length))) := upd_same
        generalize upd I3 t4 (.tup (intV (frm W W.length))) = I4 at s4 e4 ⊢
        refine ⟨_, intsD (frm W W.length), noS, rfl, (fun _ z => z.elim), dx_tupN e4, hf1.2.1, hf1.2.2, fun I5 v5 s5 d5 => ?_⟩
        have ef5 := eq_fin hf1 d3 (s4.trans s5) d5
        refine ⟨_, _, ef5.1, ef5.2.1, ef5.2.2.1, ef5.2.2.1, ?_⟩
        rw [ef5.2.2.2]
        refine ⟨_, rfl, ifF rfl ?_⟩
        have s15 := sm.trans (s13.trans (s4.trans s5))
        clear ef5 d3 d5 s1 s2 s3 s4 s5 s13 e1 e2 e4
        refine ⟨_, rfl, wl, _, rfl, .inl ⟨SqL.of (s15 _ _ ewlJ), fun t1 ht1 => ?_⟩⟩
        have s1 := same_new (o := .tup (intV W)) ht1
        have e1 : upd I5 t1 (.tup (intV W)) t1 = some (.tup (intV W)) := upd_same
        generalize upd I5 t1 (.tup (intV W)) = I6 at s1 e1 ⊢
        refine ⟨t1, W, rfl, ⟨SqT.of e1, hWw, by omega⟩, fun I7 l7 s7 e7 => ?_⟩
        refine ⟨_, .list (natD (RZ W W.length)), noS, rfl, (fun _ z => z.elim), dx_lstN e7, hf2.2.1, hf2.2.2, fun I8 v8 s8 d8 => ?_⟩
        have s18 := s15.trans (s1.trans (s7.trans s8))
        refine ⟨_, rfl, _, .list (natD (RZ W W.length)), noS, rfl, (fun _ z => z.elim), dx_lstN (s18 _ _ elJ), hf2.2.1, hf2.2.2, fun I9 v9 s9 d9 => ?_⟩
        have ef9 := eq_fin hf2 d8 s9 d9
        refine ⟨_, _, ef9.1, ef9.2.1, ef9.2.2.1, ef9.2.2.1, ?_⟩
        rw [ef9.2.2.2]
        exact ⟨_, rfl, ifF rfl ⟨_, rfl, s18.trans s9⟩⟩
      obtain ⟨o7, rfl, sm⟩ := y
      have hs0 := src_up hsJ sm
      have ewl0 := sm _ _ ewlJ
      have ef0 := sm _ _ efJ
      have epa0 := sm _ _ epaJ
      have dr0 := PsZ.up sm drJ
      clear sm ewlJ efJ epaJ drJ elJ hsJ hf1 hf2
      refine ⟨_, rfl, f, frm W W.length, rfl, ef0, hfw, by omega, fun I1 v1 s1 d1 => ?_⟩
      rw [hrd] at d1
      refine ⟨_, _, noS, rfl, (fun _ z => z.elim), d1, hf3.2.1, hf3.2.2, fun I2 v2 s2 d2 => ?_⟩
      have s12 := s1.trans s2
      refine ⟨_, rfl, wl, _, rfl, .inl ⟨SqL.of (s12 _ _ ewl0), fun t3 ht3 => ?_⟩⟩
      have s3 := same_new (o := .tup (intV W)) ht3
      have e3 : upd I2 t3 (.tup (intV W)) t3 = some (.tup (intV W)) := upd_same
      generalize upd I2 t3 (.tup (intV W)) = I3 at s3 e3 ⊢
      refine ⟨_, rfl, lenOk (n := 2) rfl (by decide), fun t4 ht4 => ?_⟩
      have s4 := same_new (o := .tup [V.ref t3, V.ref r]) ht4
      have e4 : upd I3 t4 (.tup [V.ref t3, V.ref r]) t4 = some (.tup [V.ref t3, V.ref r]) := upd_same
      generalize upd I3 t4 (.tup [V.ref t3, V.ref r]) = I4 at s4 e4 ⊢
      have s14 := s12.trans (s3.trans s4)
      refine ⟨_, .tuple [intsD W, pzsD (pcz W W.length)], noS, rfl, (fun _ z => z.elim), .tup (XT.of e4 fun z => z) (.cons (dx_tupN (s4 _ _ e3)) (.cons (dr0.up s14) .nil)), hf3.2.1, hf3.2.2, fun I5 v5 s5 d5 => ?_⟩
      have ef5 := eq_fin hf3 d2 (s3.trans (s4.trans s5)) d5
      refine ⟨_, _, ef5.1, ef5.2.1, ef5.2.2.1, ef5.2.2.1, ?_⟩
      rw [ef5.2.2.2]
      refine ⟨_, rfl, ifF rfl ?_⟩
      have s05 := s14.trans s5
      have hs5 := src_up hs0 s05
      have ef1 := s05 _ _ ef0
      have epa1 := s05 _ _ epa0
      clear ef5 d1 d2 d5 dr0 s1 s2 s3 s4 s5 s12 s14 s05 e3 e4 ewl0 ef0 epa0 hs0 hrd hf3
      -- forms made
      refine ⟨lenOk (n := 16) rfl (by decide), fun m1 hm1 => ?_⟩
      have s1 := same_new (o := .tup [V.int 0, V.int 1, V.int 2, V.int 3, V.int 16384, V.int 16385, V.int 16387, V.int 32767, V.int 32768, V.int 32769, V.int 32771, V.int 49151, V.int 49152, V.int 65535, V.int 1, V.int 2]) hm1
      have e1 : upd I5 m1 (.tup [V.int 0, V.int 1, V.int 2, V.int 3, V.int 16384, V.int 16385, V.int 16387, V.int 32767, V.int 32768, V.int 32769, V.int 32771, V.int 49151, V.int 49152, V.int 65535, V.int 1, V.int 2]) m1 = some (.tup (intV [0, 1, 2, 3, 16384, 16385, 16387, 32767, 32768, 32769, 32771, 49151, 49152, 65535, 1, 2])) := upd_same
      generalize upd I5 m1 (.tup [V.int 0, V.int 1, V.int 2, V.int 3, V.int 16384, V.int 16385, V.int 16387, V.int 32767, V.int 32768, V.int 32769, V.int 32771, V.int 49151, V.int 49152, V.int 65535, V.int 1, V.int 2]) = I6 at s1 e1 ⊢
      have hs6 := src_up hs5 s1
      have nm1 : m1 ≠ p := fun z => src_ne hs5 (z ▸ hm1)
      refine ⟨_, rfl, _, rfl, c, p, 65536, rfl, hs6, by decide, by decide, fun I7 d1 ld1 hs7 b7 => ?_⟩
      refine ⟨_, rfl, c, p, 2100, rfl, hs7, by decide, by decide, fun I8 d2 ld2 hs8 b8 => ⟨_, _, rfl, rfl, ?_⟩⟩
      refine ⟨_, rfl, c, p, 2100, rfl, hs8, by decide, by decide, fun I9 d3 ld3 hs9 b9 => ⟨_, _, rfl, rfl, ?_⟩⟩
      refine ⟨lenOk (n := 4) rfl (by decide), fun m2 hm2 => ?_⟩
      have b69 := b7.trans (b8.trans b9)
      have e19 := b69 _ _ nm1 e1
      have s2 := same_new (o := .tup [V.int (d1 : Int), V.int (32768 + (d2 : Int)), V.int (16384 + (d3 : Int)), V.int 1]) hm2
      have e2 : upd I9 m2 (.tup [V.int (d1 : Int), V.int (32768 + (d2 : Int)), V.int (16384 + (d3 : Int)), V.int 1]) m2 = some (.tup (intV [d1, 32768 + d2, 16384 + d3, 1])) := by
        rw [upd_same]
        show _ = some (HO.tup [V.int (d1 : Int), V.int ((32768 + d2 : Nat) : Int), V.int ((16384 + d3 : Nat) : Int), V.int 1])
        rw [Int.natCast_add, Int.natCast_add]
        rfl
      dsimp (config := { proj := false }) only
      generalize upd I9 m2 (.tup [V.int (d1 : Int), V.int (32768 + (d2 : Int)), V.int (16384 + (d3 : Int)), V.int 1]) = I10 at s2 e2 ⊢
      have hs10 := src_up hs9 s2
      refine catA_of (SqT.of (s2 _ _ e19)) (SqT.of e2) (by rw [intV_len, intV_len]; show 16 + 4 ≤ _; decide) fun mn I11 s11 hmn => ?_
      rw [← intV_app] at hmn
      have hM : ∀ w ∈ [0, 1, 2, 3, 16384, 16385, 16387, 32767, 32768, 32769, 32771, 49151, 49152, 65535, 1, 2] ++ [d1, 32768 + d2, 16384 + d3, 1], w ≤ 65535 := fun w hw => by
        rcases List.mem_append.mp hw with z | z
        · have : ∀ w ∈ [0, 1, 2, 3, 16384, 16385, 16387, 32767, 32768, 32769, 32771, 49151, 49152, 65535, 1, 2], w ≤ 65535 := by decide
          exact this w z
        · simp at z
          omega
      have hMl : ([0, 1, 2, 3, 16384, 16385, 16387, 32767, 32768, 32769, 32771, 49151, 49152, 65535, 1, 2] ++ [d1, 32768 + d2, 16384 + d3, 1]).length = 20 := rfl
      have hs11 := src_up hs10 s11
      have b611 := b69.trans (But.of (s2.trans s11))
      have ef11 := b611 _ _ nfp (s1 _ _ ef1)
      have epa11 := b611 _ _ npa (s1 _ _ epa1)
      generalize [0, 1, 2, 3, 16384, 16385, 16387, 32767, 32768, 32769, 32771, 49151, 49152, 65535, 1, 2] ++ [d1, 32768 + d2, 16384 + d3, 1] = M at *
      have hpl5 := intV_len pool
      have hp0 : pool.getD 0 0 ≤ 65535 := by
        rw [List.getD_eq_getElem?_getD, List.getElem?_eq_getElem (by omega)]
        exact hpw _ (List.getElem_mem _)
      have hat0 : atI (intV pool) 0 = some (.int ((pool.getD 0 0 : Nat) : Int)) := atI_nat (j := 0) (intV_at (by omega))
      generalize pool.getD 0 0 = p0 at *
      refine ⟨_, rfl, c, p, 9, rfl, hs11, by decide, by decide, fun I12 n12 l12 hs12 b12 => ⟨(n12 : Int), rfl, by omega, by omega, fun D hD => ?_⟩⟩
      rw [Int.toNat_natCast]
      have nD : D ≠ p := fun z => src_ne hs12 (z ▸ hD)
      have ncD : D ≠ c := fun z => src_cne hs12 (z ▸ hD)
      have hmn12 := sqT_but hs11 b12 hmn
      refine lc_inv (walk_range (lo := 0) (n := n12)) (fun i v => True) (fun i acc H4 => Src c H4 p ∧ But p I12 H4 ∧ ∃ zs : List Nat, acc = intV zs ∧ ∀ w ∈ zs, w ≤ 65535) (by omega) ⟨src_up hs12 (same_new hD), But.of (same_new hD), [], rfl, fun w h => by cases h⟩ (fun _ _ _ _ => trivial) (fun i H1 v H2 hi y => ⟨y.1, trivial⟩) (fun i v acc H6 hi hl pv e5 _ Q q => ?_) (fun acc I13 hl6 pv elD => ?_)
      · obtain ⟨hs6, b6, zs, rfl, hz⟩ := pv
        refine ⟨_, rfl, _, rfl, c, p, 20, rfl, hs6, by decide, by decide, fun H7 x hx hs7 b7 => ?_⟩
        refine ⟨mn, _, _, _, rfl, rfl, sqT_but hs12 (b6.trans b7) hmn12, atI_nat (intV_at (by omega)), ?_⟩
        refine q _ _ (b7 _ _ nD e5) ⟨src_put hs7 nD ncD, but_new (b6.trans b7) hD, zs ++ [M.getD x 0], by rw [intV_app]; rfl, fun w h => ?_⟩
        rcases List.mem_append.mp h with z | z
        · exact hz w z
        · rw [List.mem_singleton.mp z, List.getD_eq_getElem?_getD, List.getElem?_eq_getElem (by omega)]
          exact hM _ (List.getElem_mem _)
      obtain ⟨hs13, b13, zs, rfl, hzw⟩ := pv
      rw [intV_len] at hl6
      have ef13 := b13 _ _ nfp (b12 _ _ nfp ef11)
      have epa13 := b13 _ _ npa (b12 _ _ npa epa11)
      clear hmn12 hs12 b12 b13 ef11 epa11 hs11 hmn b611 hs10 s11 e19 e1 e2 b69 s2 hs9 b9 b8 hs8 b7 hs7 hs6
      refine ⟨_, rfl, D, zs, rfl, elD, hzw, by omega, fun I14 s14 => ?_⟩
      refine ⟨true, rfl, ifF rfl ?_⟩
      have ef14 := s14 _ _ ef13
      have elD14 := s14 _ _ elD
      refine ⟨_, rfl, _, rfl, f, D, _, _, rfl, rfl, ef14, elD14, le_line (by rw [intV_len, intV_len]; omega), fun fr hfr => ?_⟩
      have s15 := same_new (o := .lst (intV (frm W W.length) ++ intV zs)) hfr
      have e15 : upd I14 fr (.lst (intV (frm W W.length) ++ intV zs)) fr = some (.lst (intV (frm W W.length ++ zs))) := by rw [upd_same, intV_app]
      generalize upd I14 fr (.lst (intV (frm W W.length) ++ intV zs)) = I15 at s15 e15 ⊢
      refine ⟨fr, frm W W.length ++ zs, rfl, e15, fun w hw => (List.mem_append.mp hw).elim (hfw w) (hzw w), by rw [List.length_append]; omega, fun I16 s16 => ?_⟩
      refine ⟨true, rfl, ifF rfl ?_⟩
      have s1316 := s14.trans (s15.trans s16)
      have hs16 := src_up hs13 s1316
      have epa16 := s1316 _ _ epa13
      clear ef14 elD14 s15 e15 s16 s1316 s14 ef13 elD epa13 hs13 hfw
      refine ⟨_, rfl, c, p, 6, rfl, hs16, by decide, by decide, fun I17 n17 l17 hs17 b17 => ⟨rfl, _, rfl, ifB (fun e => q _) (fun e => ?_)⟩⟩
      refine ⟨_, rfl, c, p, 2046, rfl, hs17, by decide, by decide, fun I18 n18 l18 hs18 b18 => ⟨_, _, rfl, rfl, ?_⟩⟩
      have epa18 := b18 _ _ npa (b17 _ _ npa epa16)
      clear b17 b18 epa16 hs16 hs17 hs18
      dsimp (config := { proj := false }) only
      obtain ⟨cn, hcn, hc1, hc2⟩ : ∃ cn : Nat, (1 : Int) + (n18 : Int) = (cn : Int) ∧ 1 ≤ cn ∧ cn ≤ 2046 := ⟨1 + n18, by omega, by omega, by omega⟩
      rw [hcn]
      refine ⟨_, rfl, _, _, rfl, rfl, _, rfl, pa, _, 0, _, rfl, rfl, SqL.of epa18, hat0, lenOk (n := 2) rfl (by decide), fun hd hhd => ?_⟩
      dsimp (config := { proj := false }) only
      have s19 := same_new (o := .lst [V.int (16384 + (cn : Int)), V.int (p0 : Int)]) hhd
      have e19 : upd I18 hd (.lst [V.int (16384 + (cn : Int)), V.int (p0 : Int)]) hd = some (.lst (intV [16384 + cn, p0])) := by
        rw [upd_same]
        show _ = some (HO.lst [V.int ((16384 + cn : Nat) : Int), V.int (p0 : Int)])
        rw [Int.natCast_add]
        rfl
      generalize upd I18 hd (.lst [V.int (16384 + (cn : Int)), V.int (p0 : Int)]) = I19 at s19 e19 ⊢
      have epa19 := s19 _ _ epa18
      clear s19 epa18 hhd
      refine ⟨_, rfl, _, _, rfl, rfl, _, rfl, _, _, rfl, rfl, lenOk (n := 2) rfl (by decide), fun tq htq => ⟨tq, rfl, ⟨_, SqT.of upd_same⟩, ?_⟩⟩
      dsimp (config := { proj := false }) only
      have s20 := same_new (o := .tup [V.int (2048 - (cn : Int)), V.int (2049 - (cn : Int))]) htq
      have e20 : upd I19 tq (.tup [V.int (2048 - (cn : Int)), V.int (2049 - (cn : Int))]) tq = some (.tup [V.int (2048 - (cn : Int)), V.int (2049 - (cn : Int))]) := upd_same
      generalize upd I19 tq (.tup [V.int (2048 - (cn : Int)), V.int (2049 - (cn : Int))]) = I20 at s20 e20 ⊢
      have epa20 := s20 _ _ epa19
      have e1920 := s20 _ _ e19
      clear s20 epa19 e19 htq
      refine for_it (walk_tup (K := K) (a := tq) (xs := [V.int (2048 - (cn : Int)), V.int (2049 - (cn : Int))])) (fun i σ Hc => ∃ (o12 : Option V), σ = [some (.ref a), some (.ref p), some (.ref pa), some (.ref wl), some (.ref l), some (.ref f), some (.ref r), o7, some (.ref mn), some (.ref D), some (.int (cn : Int)), some (.ref hd), o12] ∧ Same I20 Hc)
        ⟨_, rfl, Same.refl _⟩ (fun i σ Hc _ y => ?_) (fun i x σ Hc Hd hi y e => ?_) (fun σ Hc y => ?_)
      · obtain ⟨_, _, s⟩ := y
        exact sqT_up (SqT.of e20) s
      · obtain ⟨rfl, ex⟩ := e
        obtain ⟨mv, rfl, hm1', hm2'⟩ : ∃ mv : Nat, x = .int (mv : Int) ∧ 1 ≤ mv ∧ mv ≤ 2048 := by
          match i, ex with
          | 0, ex =>
            cases ex
            exact ⟨2048 - cn, congrArg V.int (by omega), by omega, by omega⟩
          | 1, ex =>
            cases ex
            exact ⟨2049 - cn, congrArg V.int (by omega), by omega, by omega⟩
          | k + 2, ex => cases ex
        obtain ⟨o12, rfl, sm⟩ := y
        have ep := sm _ _ epa20
        have eh := sm _ _ e1920
        -- a run behind the head
        refine ⟨_, rfl, _, rfl, _, _, rfl, rfl, _, rfl, pa, _, 0, _, rfl, rfl, SqL.of ep, hat0, lenOk (n := 3) rfl (by decide), fun y1 hy1 => ?_⟩
        dsimp (config := { proj := false }) only
        have w1 := same_new (o := .lst [V.int (16384 + (mv : Int)), V.int (p0 : Int), V.int 1]) hy1
        have v1 : upd Hd y1 (.lst [V.int (16384 + (mv : Int)), V.int (p0 : Int), V.int 1]) y1 = some (.lst (intV [16384 + mv, p0, 1])) := by
          rw [upd_same]
          show _ = some (HO.lst [V.int ((16384 + mv : Nat) : Int), V.int (p0 : Int), V.int 1])
          rw [Int.natCast_add]
          rfl
        generalize upd Hd y1 (.lst [V.int (16384 + (mv : Int)), V.int (p0 : Int), V.int 1]) = M1 at w1 v1 ⊢
        refine ⟨hd, y1, _, _, rfl, rfl, w1 _ _ eh, v1, le_line (by show 2 + 3 ≤ _; decide), fun y2 hy2 => ?_⟩
        have w2 := same_new (o := .lst (intV [16384 + cn, p0] ++ intV [16384 + mv, p0, 1])) hy2
        have v2 : upd M1 y2 (.lst (intV [16384 + cn, p0] ++ intV [16384 + mv, p0, 1])) y2 = some (.lst (intV [16384 + cn, p0, 16384 + mv, p0, 1])) := by
          rw [upd_same, ← intV_app]
          rfl
        generalize upd M1 y2 (.lst (intV [16384 + cn, p0] ++ intV [16384 + mv, p0, 1])) = M2 at w2 v2 ⊢
        refine ⟨y2, [16384 + cn, p0, 16384 + mv, p0, 1], rfl, v2, fun w hw => (by simp at hw; omega), by show 5 ≤ _; decide, fun M3 w3 => ?_⟩
        refine ⟨true, rfl, ifF rfl ?_⟩
        have w13 := w1.trans (w2.trans w3)
        have eh3 := w13 _ _ eh
        -- a back
        refine ⟨_, rfl, _, rfl, _, _, rfl, rfl, _, rfl, lenOk (n := 2) rfl (by decide), fun y4 hy4 => ?_⟩
        dsimp (config := { proj := false }) only
        have w4 := same_new (o := .lst [V.int (32768 + (mv : Int)), V.int (cn : Int)]) hy4
        have v4 : upd M3 y4 (.lst [V.int (32768 + (mv : Int)), V.int (cn : Int)]) y4 = some (.lst (intV [32768 + mv, cn])) := by
          rw [upd_same]
          show _ = some (HO.lst [V.int ((32768 + mv : Nat) : Int), V.int (cn : Int)])
          rw [Int.natCast_add]
          rfl
        generalize upd M3 y4 (.lst [V.int (32768 + (mv : Int)), V.int (cn : Int)]) = M4 at w4 v4 ⊢
        refine ⟨hd, y4, _, _, rfl, rfl, w4 _ _ eh3, v4, le_line (by show 2 + 2 ≤ _; decide), fun y5 hy5 => ?_⟩
        have w5 := same_new (o := .lst (intV [16384 + cn, p0] ++ intV [32768 + mv, cn])) hy5
        have v5 : upd M4 y5 (.lst (intV [16384 + cn, p0] ++ intV [32768 + mv, cn])) y5 = some (.lst (intV [16384 + cn, p0, 32768 + mv, cn])) := by
          rw [upd_same, ← intV_app]
          rfl
        generalize upd M4 y5 (.lst (intV [16384 + cn, p0] ++ intV [32768 + mv, cn])) = M5 at w5 v5 ⊢
        refine ⟨y5, [16384 + cn, p0, 32768 + mv, cn], rfl, v5, fun w hw => (by simp at hw; omega), by show 4 ≤ _; decide, fun M6 w6 => ?_⟩
        refine ⟨true, rfl, ifF rfl ?_⟩
        have w16 := w13.trans (w4.trans (w5.trans w6))
        have eh6 := w16 _ _ eh
        have ep6 := w16 _ _ ep
        clear w1 w2 w3 w4 w5 w6 v1 v2 v4 v5 eh3 w13
        -- words put
        refine ⟨_, rfl, _, rfl, lenOk (n := 1) rfl (by decide), fun y1 hy1 => ?_⟩
        have w1 := same_new (o := .lst [V.int (mv : Int)]) hy1
        have v1 : upd M6 y1 (.lst [V.int (mv : Int)]) y1 = some (.lst (intV [mv])) := upd_same
        generalize upd M6 y1 (.lst [V.int (mv : Int)]) = M7 at w1 v1 ⊢
        refine ⟨hd, y1, _, _, rfl, rfl, w1 _ _ eh6, v1, le_line (by show 2 + 1 ≤ _; decide), fun y2 hy2 => ?_⟩
        have w2 := same_new (o := .lst (intV [16384 + cn, p0] ++ intV [mv])) hy2
        have v2 : upd M7 y2 (.lst (intV [16384 + cn, p0] ++ intV [mv])) y2 = some (.lst (intV [16384 + cn, p0, mv])) := by
          rw [upd_same, ← intV_app]
          rfl
        generalize upd M7 y2 (.lst (intV [16384 + cn, p0] ++ intV [mv])) = M8 at w2 v2 ⊢
        refine ⟨_, rfl, pa, _, 0, _, rfl, rfl, SqL.of (w2 _ _ (w1 _ _ ep6)), hat0, lenOk (n := 1) rfl (by decide), fun y3 hy3 => ?_⟩
        have w3 := same_new (o := .lst [V.int (p0 : Int)]) hy3
        have v3 : upd M8 y3 (.lst [V.int (p0 : Int)]) y3 = some (.lst [V.int (p0 : Int)]) := upd_same
        generalize upd M8 y3 (.lst [V.int (p0 : Int)]) = M9 at w3 v3 ⊢
        refine ⟨_, rfl, y3, _, _, rfl, rfl, v3, by omega, by omega, le_line (by rw [Int.toNat_natCast]; show 1 * mv ≤ _; omega), fun y4 hy4 => ?_⟩
        have w4 := same_new (o := .lst (List.replicate (mv : Int).toNat [V.int (p0 : Int)]).flatten) hy4
        have v4 : upd M9 y4 (.lst (List.replicate (mv : Int).toNat [V.int (p0 : Int)]).flatten) y4 = some (.lst (intV (List.replicate mv p0))) := by
          rw [upd_same, Int.toNat_natCast, List.flatten_replicate_singleton]
          unfold intV
          rw [List.map_replicate]
        generalize upd M9 y4 (.lst (List.replicate (mv : Int).toNat [V.int (p0 : Int)]).flatten) = M10 at w4 v4 ⊢
        refine ⟨y2, y4, _, _, rfl, rfl, w4 _ _ (w3 _ _ v2), v4, le_line (by rw [intV_len, intV_len, List.length_replicate]; show 3 + mv ≤ _; omega), fun y5 hy5 => ?_⟩
        have w5 := same_new (o := .lst (intV [16384 + cn, p0, mv] ++ intV (List.replicate mv p0))) hy5
        have v5 : upd M10 y5 (.lst (intV [16384 + cn, p0, mv] ++ intV (List.replicate mv p0))) y5 = some (.lst (intV ([16384 + cn, p0, mv] ++ List.replicate mv p0))) := by rw [upd_same, ← intV_app]
        generalize upd M10 y5 (.lst (intV [16384 + cn, p0, mv] ++ intV (List.replicate mv p0))) = M11 at w5 v5 ⊢
        refine ⟨y5, [16384 + cn, p0, mv] ++ List.replicate mv p0, rfl, v5, fun w hw => ?_, by rw [List.length_append, List.length_replicate]; show 3 + mv ≤ _; omega, fun M12 w6 => ?_⟩
        · rcases List.mem_append.mp hw with z | z
          · simp at z
            omega
          · rw [List.eq_of_mem_replicate z]
            exact hp0
        refine ⟨true, rfl, ifF rfl ?_⟩
        exact ⟨_, rfl, sm.trans (w16.trans (w1.trans (w2.trans (w3.trans (w4.trans (w5.trans w6))))))⟩
      obtain ⟨o12, rfl, sm⟩ := y
      have ep := sm _ _ epa20
      refine ⟨_, rfl, pa, _, 0, _, rfl, rfl, SqL.of ep, hat0, lenOk (n := 1) rfl (by decide), fun y3 hy3 => ?_⟩
      have w3 := same_new (o := .lst [V.int (p0 : Int)]) hy3
      have v3 : upd Hc y3 (.lst [V.int (p0 : Int)]) y3 = some (.lst [V.int (p0 : Int)]) := upd_same
      generalize upd Hc y3 (.lst [V.int (p0 : Int)]) = M9 at w3 v3 ⊢
      have hN : (2049 : Int).toNat = 2049 := rfl
      refine ⟨y3, 2049, _, rfl, rfl, v3, by decide, by decide, le_line (by rw [hN]; show 1 * 2049 ≤ _; decide), fun y4 hy4 => ?_⟩
      generalize (2049 : Int).toNat = N at hN ⊢
      have w4 := same_new (o := .lst (List.replicate N [V.int (p0 : Int)]).flatten) hy4
      have v4 : upd M9 y4 (.lst (List.replicate N [V.int (p0 : Int)]).flatten) y4 = some (.lst (intV (List.replicate N p0))) := by
        rw [upd_same, List.flatten_replicate_singleton]
        unfold intV
        rw [List.map_replicate]
      generalize upd M9 y4 (.lst (List.replicate N [V.int (p0 : Int)]).flatten) = M10 at w4 v4 ⊢
      refine ⟨y4, List.replicate N p0, rfl, v4, fun w hw => (by rw [List.eq_of_mem_replicate hw]; exact hp0), by rw [List.length_replicate, hN]; decide, by rw [List.length_replicate, hN]; decide, fun M11 w5 => ⟨rfl, ?_⟩⟩
      rw [show (V.bl (decide (V.int 2048 = V.int 2048))) = V.bl true from congrArg V.bl (decide_eq_true rfl)]
      exact q _
end
/-! ### what the top has left; the end -/
theorem all_mk {l : PySem.W.OpenLaw} {w : World} {K : PySem.W.Frag} {h : Heap} {mg : Str → Option Value} {fa f1 f2 f3 f4 f5 f6 f7 f8 f9 f10 f11 f12 f13 f14 f15 f16 f17 f18 f19 f20 f21 f22 f23 f24 f25 f26 f27 f28 f29 f30 f31 C_TooMany C_BadForm C_RomError : Addr} (X : K.In h) (G : h.Ns mainGlobals mg) (hfa : mg "law" = some (.ref fa))
    {t_WIDTH t_MOST_WORDS t_MOST_COUNT t_RUN t_BACK : Tok}
    {od1 an1 od2 an2 od3 an3 od4 an4 od5 an5 od6 an6 od7 an7 od8 an8 od9 an9 od10 an10 od11 an11 od12 an12 od13 an13 od14 an14 od15 an15 od16 an16 od17 an17 od18 an18 od19 an19 od20 an20 od21 an21 od22 an22 od23 an23 od24 an24 od25 an25 od26 an26 od27 an27 od28 an28 od29 an29 od30 an30 od31 an31 : Option Addr} {sl1 sl2 sl3 sl4 sl5 sl6 sl7 sl8 sl9 sl10 sl11 sl12 sl13 sl14 sl15 sl16 sl17 sl18 sl19 sl20 sl21 sl22 sl23 sl24 sl25 sl26 sl27 sl28 sl29 sl30 sl31 : Array (Option Value)} {oc1 kV1 dc1 pm1 cd1 ct1 oc2 kV2 dc2 pm2 cd2 ct2 oc3 kV3 dc3 pm3 cd3 ct3 oc4 kV4 dc4 pm4 cd4 ct4 oc5 kV5 dc5 pm5 cd5 ct5 oc6 kV6 dc6 pm6 cd6 ct6 oc7 kV7 dc7 pm7 cd7 ct7 oc8 kV8 dc8 pm8 cd8 ct8 oc9 kV9 dc9 pm9 cd9 ct9 oc10 kV10 dc10 pm10 cd10 ct10 oc11 kV11 dc11 pm11 cd11 ct11 oc12 kV12 dc12 pm12 cd12 ct12 oc13 kV13 dc13 pm13 cd13 ct13 oc14 kV14 dc14 pm14 cd14 ct14 oc15 kV15 dc15 pm15 cd15 ct15 oc16 kV16 dc16 pm16 cd16 ct16 oc17 kV17 dc17 pm17 cd17 ct17 oc18 kV18 dc18 pm18 cd18 ct18 oc19 kV19 dc19 pm19 cd19 ct19 oc20 kV20 dc20 pm20 cd20 ct20 oc21 kV21 dc21 pm21 cd21 ct21 oc22 kV22 dc22 pm22 cd22 ct22 oc23 kV23 dc23 pm23 cd23 ct23 oc24 kV24 dc24 pm24 cd24 ct24 oc25 kV25 dc25 pm25 cd25 ct25 oc26 kV26 dc26 pm26 cd26 ct26 oc27 kV27 dc27 pm27 cd27 ct27 oc28 kV28 dc28 pm28 cd28 ct28 oc29 kV29 dc29 pm29 cd29 ct29 oc30 kV30 dc30 pm30 cd30 ct30 oc31 kV31 dc31 pm31 cd31 ct31 : Value}
    {nm_TooMany qq_TooMany : Str} {N_TooMany : Addr} {bs_TooMany bm_TooMany : List Value} {sn_TooMany : List Str} {sub_TooMany : List Value} {ab_TooMany : Bool} {col_TooMany : Option Bool} {dd_TooMany : Option Addr} {m0_TooMany m1_TooMany m2_TooMany m3_TooMany m5_TooMany : Option Value}
    {nm_BadForm qq_BadForm : Str} {N_BadForm : Addr} {bs_BadForm bm_BadForm : List Value} {sn_BadForm : List Str} {sub_BadForm : List Value} {ab_BadForm : Bool} {col_BadForm : Option Bool} {dd_BadForm : Option Addr} {m0_BadForm m1_BadForm m2_BadForm m3_BadForm m5_BadForm : Option Value}
    (a1 : PySem.W.nsIn K mainGlobals "text_to_find" = some (some (.ref f1)))
    (l1 : K.lookup f1 = some ⟨oc1, od1, .func (PySem.W.fnOf "text_to_find" "text_to_find" (defArgs s_text_to_find) (defBody s_text_to_find) (defScope s_text_to_find) .none kV1 dc1 pm1 an1 cd1 ct1), sl1⟩)
    (c1 : PySem.W.codeIn K cd1 "text_to_find" = true)
    (k1 : PySem.W.keepIn K (.ref f1) = true)
    (a2 : PySem.W.nsIn K mainGlobals "part_of_text" = some (some (.ref f2)))
    (l2 : K.lookup f2 = some ⟨oc2, od2, .func (PySem.W.fnOf "part_of_text" "part_of_text" (defArgs s_part_of_text) (defBody s_part_of_text) (defScope s_part_of_text) .none kV2 dc2 pm2 an2 cd2 ct2), sl2⟩)
    (c2 : PySem.W.codeIn K cd2 "part_of_text" = true)
    (k2 : PySem.W.keepIn K (.ref f2) = true)
    (a3 : PySem.W.nsIn K mainGlobals "squeeze" = some (some (.ref f3)))
    (l3 : K.lookup f3 = some ⟨oc3, od3, .func (PySem.W.fnOf "squeeze" "squeeze" (defArgs s_squeeze) (defBody s_squeeze) (defScope s_squeeze) .none kV3 dc3 pm3 an3 cd3 ct3), sl3⟩)
    (c3 : PySem.W.codeIn K cd3 "squeeze" = true)
    (k3 : PySem.W.keepIn K (.ref f3) = true)
    (a4 : PySem.W.nsIn K mainGlobals "longest_backs" = some (some (.ref f4)))
    (l4 : K.lookup f4 = some ⟨oc4, od4, .func (PySem.W.fnOf "longest_backs" "longest_backs" (defArgs s_longest_backs) (defBody s_longest_backs) (defScope s_longest_backs) .none kV4 dc4 pm4 an4 cd4 ct4), sl4⟩)
    (c4 : PySem.W.codeIn K cd4 "longest_backs" = true)
    (k4 : PySem.W.keepIn K (.ref f4) = true)
    (a5 : PySem.W.nsIn K mainGlobals "least_distance" = some (some (.ref f5)))
    (l5 : K.lookup f5 = some ⟨oc5, od5, .func (PySem.W.fnOf "least_distance" "least_distance" (defArgs s_least_distance) (defBody s_least_distance) (defScope s_least_distance) .none kV5 dc5 pm5 an5 cd5 ct5), sl5⟩)
    (c5 : PySem.W.codeIn K cd5 "least_distance" = true)
    (k5 : PySem.W.keepIn K (.ref f5) = true)
    (a6 : PySem.W.nsIn K mainGlobals "longest_runs" = some (some (.ref f6)))
    (l6 : K.lookup f6 = some ⟨oc6, od6, .func (PySem.W.fnOf "longest_runs" "longest_runs" (defArgs s_longest_runs) (defBody s_longest_runs) (defScope s_longest_runs) .none kV6 dc6 pm6 an6 cd6 ct6), sl6⟩)
    (c6 : PySem.W.codeIn K cd6 "longest_runs" = true)
    (k6 : PySem.W.keepIn K (.ref f6) = true)
    (a7 : PySem.W.nsIn K mainGlobals "fewest_from" = some (some (.ref f7)))
    (l7 : K.lookup f7 = some ⟨oc7, od7, .func (PySem.W.fnOf "fewest_from" "fewest_from" (defArgs s_fewest_from) (defBody s_fewest_from) (defScope s_fewest_from) .none kV7 dc7 pm7 an7 cd7 ct7), sl7⟩)
    (c7 : PySem.W.codeIn K cd7 "fewest_from" = true)
    (k7 : PySem.W.keepIn K (.ref f7) = true)
    (a8 : PySem.W.nsIn K mainGlobals "most_put" = some (some (.ref f8)))
    (l8 : K.lookup f8 = some ⟨oc8, od8, .func (PySem.W.fnOf "most_put" "most_put" (defArgs s_most_put) (defBody s_most_put) (defScope s_most_put) .none kV8 dc8 pm8 an8 cd8 ct8), sl8⟩)
    (c8 : PySem.W.codeIn K cd8 "most_put" = true)
    (k8 : PySem.W.keepIn K (.ref f8) = true)
    (a9 : PySem.W.nsIn K mainGlobals "fewest" = some (some (.ref f9)))
    (l9 : K.lookup f9 = some ⟨oc9, od9, .func (PySem.W.fnOf "fewest" "fewest" (defArgs s_fewest) (defBody s_fewest) (defScope s_fewest) .none kV9 dc9 pm9 an9 cd9 ct9), sl9⟩)
    (c9 : PySem.W.codeIn K cd9 "fewest" = true)
    (k9 : PySem.W.keepIn K (.ref f9) = true)
    (a10 : PySem.W.nsIn K mainGlobals "piece_at" = some (some (.ref f10)))
    (l10 : K.lookup f10 = some ⟨oc10, od10, .func (PySem.W.fnOf "piece_at" "piece_at" (defArgs s_piece_at) (defBody s_piece_at) (defScope s_piece_at) .none kV10 dc10 pm10 an10 cd10 ct10), sl10⟩)
    (c10 : PySem.W.codeIn K cd10 "piece_at" = true)
    (k10 : PySem.W.keepIn K (.ref f10) = true)
    (a11 : PySem.W.nsIn K mainGlobals "words_in" = some (some (.ref f11)))
    (l11 : K.lookup f11 = some ⟨oc11, od11, .func (PySem.W.fnOf "words_in" "words_in" (defArgs s_words_in) (defBody s_words_in) (defScope s_words_in) .none kV11 dc11 pm11 an11 cd11 ct11), sl11⟩)
    (c11 : PySem.W.codeIn K cd11 "words_in" = true)
    (k11 : PySem.W.keepIn K (.ref f11) = true)
    (a12 : PySem.W.nsIn K mainGlobals "pieces_of" = some (some (.ref f12)))
    (l12 : K.lookup f12 = some ⟨oc12, od12, .func (PySem.W.fnOf "pieces_of" "pieces_of" (defArgs s_pieces_of) (defBody s_pieces_of) (defScope s_pieces_of) .none kV12 dc12 pm12 an12 cd12 ct12), sl12⟩)
    (c12 : PySem.W.codeIn K cd12 "pieces_of" = true)
    (k12 : PySem.W.keepIn K (.ref f12) = true)
    (a13 : PySem.W.nsIn K mainGlobals "opened" = some (some (.ref f13)))
    (l13 : K.lookup f13 = some ⟨oc13, od13, .func (PySem.W.fnOf "opened" "opened" (defArgs s_opened) (defBody s_opened) (defScope s_opened) .none kV13 dc13 pm13 an13 cd13 ct13), sl13⟩)
    (c13 : PySem.W.codeIn K cd13 "opened" = true)
    (k13 : PySem.W.keepIn K (.ref f13) = true)
    (a14 : PySem.W.nsIn K mainGlobals "_law_source" = some (some (.ref f14)))
    (l14 : K.lookup f14 = some ⟨oc14, od14, .func (PySem.W.fnOf "_law_source" "_law_source" (defArgs s_law_source) (defBody s_law_source) (defScope s_law_source) .none kV14 dc14 pm14 an14 cd14 ct14), sl14⟩)
    (c14 : PySem.W.codeIn K cd14 "_law_source" = true)
    (k14 : PySem.W.keepIn K (.ref f14) = true)
    (a15 : PySem.W.nsIn K mainGlobals "_law_draw" = some (some (.ref f15)))
    (l15 : K.lookup f15 = some ⟨oc15, od15, .func (PySem.W.fnOf "_law_draw" "_law_draw" (defArgs s_law_draw) (defBody s_law_draw) (defScope s_law_draw) .none kV15 dc15 pm15 an15 cd15 ct15), sl15⟩)
    (c15 : PySem.W.codeIn K cd15 "_law_draw" = true)
    (k15 : PySem.W.keepIn K (.ref f15) = true)
    (a16 : PySem.W.nsIn K mainGlobals "_law_word" = some (some (.ref f16)))
    (l16 : K.lookup f16 = some ⟨oc16, od16, .func (PySem.W.fnOf "_law_word" "_law_word" (defArgs s_law_word) (defBody s_law_word) (defScope s_law_word) .none kV16 dc16 pm16 an16 cd16 ct16), sl16⟩)
    (c16 : PySem.W.codeIn K cd16 "_law_word" = true)
    (k16 : PySem.W.keepIn K (.ref f16) = true)
    (a17 : PySem.W.nsIn K mainGlobals "_law_plain" = some (some (.ref f17)))
    (l17 : K.lookup f17 = some ⟨oc17, od17, .func (PySem.W.fnOf "_law_plain" "_law_plain" (defArgs s_law_plain) (defBody s_law_plain) (defScope s_law_plain) .none kV17 dc17 pm17 an17 cd17 ct17), sl17⟩)
    (c17 : PySem.W.codeIn K cd17 "_law_plain" = true)
    (k17 : PySem.W.keepIn K (.ref f17) = true)
    (a18 : PySem.W.nsIn K mainGlobals "_law_pool" = some (some (.ref f18)))
    (l18 : K.lookup f18 = some ⟨oc18, od18, .func (PySem.W.fnOf "_law_pool" "_law_pool" (defArgs s_law_pool) (defBody s_law_pool) (defScope s_law_pool) .none kV18 dc18 pm18 an18 cd18 ct18), sl18⟩)
    (c18 : PySem.W.codeIn K cd18 "_law_pool" = true)
    (k18 : PySem.W.keepIn K (.ref f18) = true)
    (a19 : PySem.W.nsIn K mainGlobals "_law_words" = some (some (.ref f19)))
    (l19 : K.lookup f19 = some ⟨oc19, od19, .func (PySem.W.fnOf "_law_words" "_law_words" (defArgs s_law_words) (defBody s_law_words) (defScope s_law_words) .none kV19 dc19 pm19 an19 cd19 ct19), sl19⟩)
    (c19 : PySem.W.codeIn K cd19 "_law_words" = true)
    (k19 : PySem.W.keepIn K (.ref f19) = true)
    (a20 : PySem.W.nsIn K mainGlobals "_law_choices" = some (some (.ref f20)))
    (l20 : K.lookup f20 = some ⟨oc20, od20, .func (PySem.W.fnOf "_law_choices" "_law_choices" (defArgs s_law_choices) (defBody s_law_choices) (defScope s_law_choices) .none kV20 dc20 pm20 an20 cd20 ct20), sl20⟩)
    (c20 : PySem.W.codeIn K cd20 "_law_choices" = true)
    (k20 : PySem.W.keepIn K (.ref f20) = true)
    (a21 : PySem.W.nsIn K mainGlobals "_law_table" = some (some (.ref f21)))
    (l21 : K.lookup f21 = some ⟨oc21, od21, .func (PySem.W.fnOf "_law_table" "_law_table" (defArgs s_law_table) (defBody s_law_table) (defScope s_law_table) .none kV21 dc21 pm21 an21 cd21 ct21), sl21⟩)
    (c21 : PySem.W.codeIn K cd21 "_law_table" = true)
    (k21 : PySem.W.keepIn K (.ref f21) = true)
    (a22 : PySem.W.nsIn K mainGlobals "_law_quick" = some (some (.ref f22)))
    (l22 : K.lookup f22 = some ⟨oc22, od22, .func (PySem.W.fnOf "_law_quick" "_law_quick" (defArgs s_law_quick) (defBody s_law_quick) (defScope s_law_quick) .none kV22 dc22 pm22 an22 cd22 ct22), sl22⟩)
    (c22 : PySem.W.codeIn K cd22 "_law_quick" = true)
    (k22 : PySem.W.keepIn K (.ref f22) = true)
    (a23 : PySem.W.nsIn K mainGlobals "_law_longer" = some (some (.ref f23)))
    (l23 : K.lookup f23 = some ⟨oc23, od23, .func (PySem.W.fnOf "_law_longer" "_law_longer" (defArgs s_law_longer) (defBody s_law_longer) (defScope s_law_longer) .none kV23 dc23 pm23 an23 cd23 ct23), sl23⟩)
    (c23 : PySem.W.codeIn K cd23 "_law_longer" = true)
    (k23 : PySem.W.keepIn K (.ref f23) = true)
    (a24 : PySem.W.nsIn K mainGlobals "_law_take" = some (some (.ref f24)))
    (l24 : K.lookup f24 = some ⟨oc24, od24, .func (PySem.W.fnOf "_law_take" "_law_take" (defArgs s_law_take) (defBody s_law_take) (defScope s_law_take) .none kV24 dc24 pm24 an24 cd24 ct24), sl24⟩)
    (c24 : PySem.W.codeIn K cd24 "_law_take" = true)
    (k24 : PySem.W.keepIn K (.ref f24) = true)
    (a25 : PySem.W.nsIn K mainGlobals "_law_opened" = some (some (.ref f25)))
    (l25 : K.lookup f25 = some ⟨oc25, od25, .func (PySem.W.fnOf "_law_opened" "_law_opened" (defArgs s_law_opened) (defBody s_law_opened) (defScope s_law_opened) .none kV25 dc25 pm25 an25 cd25 ct25), sl25⟩)
    (c25 : PySem.W.codeIn K cd25 "_law_opened" = true)
    (k25 : PySem.W.keepIn K (.ref f25) = true)
    (a26 : PySem.W.nsIn K mainGlobals "_law_opened_told" = some (some (.ref f26)))
    (l26 : K.lookup f26 = some ⟨oc26, od26, .func (PySem.W.fnOf "_law_opened_told" "_law_opened_told" (defArgs s_law_opened_told) (defBody s_law_opened_told) (defScope s_law_opened_told) .none kV26 dc26 pm26 an26 cd26 ct26), sl26⟩)
    (c26 : PySem.W.codeIn K cd26 "_law_opened_told" = true)
    (k26 : PySem.W.keepIn K (.ref f26) = true)
    (a27 : PySem.W.nsIn K mainGlobals "_law_same" = some (some (.ref f27)))
    (l27 : K.lookup f27 = some ⟨oc27, od27, .func (PySem.W.fnOf "_law_same" "_law_same" (defArgs s_law_same) (defBody s_law_same) (defScope s_law_same) .none kV27 dc27 pm27 an27 cd27 ct27), sl27⟩)
    (c27 : PySem.W.codeIn K cd27 "_law_same" = true)
    (k27 : PySem.W.keepIn K (.ref f27) = true)
    (a28 : PySem.W.nsIn K mainGlobals "_law_refused" = some (some (.ref f28)))
    (l28 : K.lookup f28 = some ⟨oc28, od28, .func (PySem.W.fnOf "_law_refused" "_law_refused" (defArgs s_law_refused) (defBody s_law_refused) (defScope s_law_refused) .none kV28 dc28 pm28 an28 cd28 ct28), sl28⟩)
    (c28 : PySem.W.codeIn K cd28 "_law_refused" = true)
    (k28 : PySem.W.keepIn K (.ref f28) = true)
    (a29 : PySem.W.nsIn K mainGlobals "law" = some (some (.ref f29)))
    (l29 : K.lookup f29 = some ⟨oc29, od29, .func (PySem.W.fnOf "law" "law" (defArgs s_law) (defBody s_law) (defScope s_law) .none kV29 dc29 pm29 an29 cd29 ct29), sl29⟩)
    (c29 : PySem.W.codeIn K cd29 "law" = true)
    (k29 : PySem.W.keepIn K (.ref f29) = true)
    (l30 : K.lookup f30 = some ⟨oc30, od30, .func (PySem.W.fnOf "__init__" "TooMany.__init__" (defArgs s_TooMany_init) (defBody s_TooMany_init) (defScope s_TooMany_init) .none kV30 dc30 pm30 an30 cd30 ct30), sl30⟩)
    (c30 : PySem.W.codeIn K cd30 "TooMany.__init__" = true)
    (k30 : PySem.W.keepIn K (.ref f30) = true)
    (l31 : K.lookup f31 = some ⟨oc31, od31, .func (PySem.W.fnOf "__init__" "BadForm.__init__" (defArgs s_BadForm_init) (defBody s_BadForm_init) (defScope s_BadForm_init) .none kV31 dc31 pm31 an31 cd31 ct31), sl31⟩)
    (c31 : PySem.W.codeIn K cd31 "BadForm.__init__" = true)
    (k31 : PySem.W.keepIn K (.ref f31) = true)
    (gc_TooMany : PySem.W.nsIn K mainGlobals "TooMany" = some (some (.ref C_TooMany)))
    (xl_TooMany : K.lookup C_TooMany = some (excClassObj nm_TooMany qq_TooMany C_TooMany N_TooMany bs_TooMany bm_TooMany true sn_TooMany sub_TooMany ab_TooMany col_TooMany dd_TooMany m0_TooMany m1_TooMany m2_TooMany m3_TooMany m5_TooMany "ValueError.__new__"))
    (vb_TooMany : PySem.HandSPX.refsVE bm_TooMany = true)
    (sa_TooMany : PySem.W.findIn K (.ref C_TooMany) "__setattr__" = some (some (.builtin "object.__setattr__")))
    (ec_TooMany : PySem.W.subIn K (.ref C_TooMany) (.type "BaseException") = some true)
    (tc_TooMany : PySem.W.typeIn K (.ref C_TooMany) = some (.type "type"))
    (kc_TooMany : PySem.W.keepIn K (.ref C_TooMany) = true)
    (no_TooMany : PySem.W.findIn K (.ref C_TooMany) "limit" = some none)
    (ic_TooMany : PySem.W.findIn K (.ref C_TooMany) "__init__" = some (some (.ref f30)))
    (ti_TooMany : PySem.W.typeIn K (.ref f30) = some (.type "function"))
    (ga_TooMany : PySem.W.findIn K (.ref C_TooMany) "__getattribute__" = some (some (.builtin "BaseException.__getattribute__")))
    (gg_TooMany : PySem.W.findIn K (.ref C_TooMany) "__getattr__" = some none)
    (hd_TooMany : PySem.W.hasDictIn K C_TooMany = true)
    (ha_TooMany : PySem.W.findIn K (.ref C_TooMany) "__class__" = some (some (.builtin "object.__class__")))
    (hm_TooMany : PySem.W.mroIn K C_TooMany (.type "object") = some true)
    (ss_TooMany : PySem.W.subIn K (.ref C_TooMany) (.ref C_TooMany) = some true)
    (gc_BadForm : PySem.W.nsIn K mainGlobals "BadForm" = some (some (.ref C_BadForm)))
    (xl_BadForm : K.lookup C_BadForm = some (excClassObj nm_BadForm qq_BadForm C_BadForm N_BadForm bs_BadForm bm_BadForm true sn_BadForm sub_BadForm ab_BadForm col_BadForm dd_BadForm m0_BadForm m1_BadForm m2_BadForm m3_BadForm m5_BadForm "ValueError.__new__"))
    (vb_BadForm : PySem.HandSPX.refsVE bm_BadForm = true)
    (sa_BadForm : PySem.W.findIn K (.ref C_BadForm) "__setattr__" = some (some (.builtin "object.__setattr__")))
    (ec_BadForm : PySem.W.subIn K (.ref C_BadForm) (.type "BaseException") = some true)
    (tc_BadForm : PySem.W.typeIn K (.ref C_BadForm) = some (.type "type"))
    (kc_BadForm : PySem.W.keepIn K (.ref C_BadForm) = true)
    (no_BadForm : PySem.W.findIn K (.ref C_BadForm) "place" = some none)
    (ic_BadForm : PySem.W.findIn K (.ref C_BadForm) "__init__" = some (some (.ref f31)))
    (ti_BadForm : PySem.W.typeIn K (.ref f31) = some (.type "function"))
    (ga_BadForm : PySem.W.findIn K (.ref C_BadForm) "__getattribute__" = some (some (.builtin "BaseException.__getattribute__")))
    (gg_BadForm : PySem.W.findIn K (.ref C_BadForm) "__getattr__" = some none)
    (hd_BadForm : PySem.W.hasDictIn K C_BadForm = true)
    (ha_BadForm : PySem.W.findIn K (.ref C_BadForm) "__class__" = some (some (.builtin "object.__class__")))
    (hm_BadForm : PySem.W.mroIn K C_BadForm (.type "object") = some true)
    (ss_BadForm : PySem.W.subIn K (.ref C_BadForm) (.ref C_BadForm) = some true)
    (hn0 : PySem.W.specialIn K (.builtin "object.__class__") "__get__" = some (some (.builtin "getset_descriptor.__get__")))
    (ht0 : PySem.W.takesIn K (.builtin "object.__class__") = some true)
    (gc_RomError : PySem.W.nsIn K mainGlobals "RomError" = some (some (.ref C_RomError)))
    (gc_WIDTH : PySem.W.nsIn K mainGlobals "WIDTH" = some (some (.int 5 t_WIDTH)))
    (gc_MOST_WORDS : PySem.W.nsIn K mainGlobals "MOST_WORDS" = some (some (.int 2048 t_MOST_WORDS)))
    (gc_MOST_COUNT : PySem.W.nsIn K mainGlobals "MOST_COUNT" = some (some (.int 16383 t_MOST_COUNT)))
    (gc_RUN : PySem.W.nsIn K mainGlobals "RUN" = some (some (.int 16384 t_RUN)))
    (gc_BACK : PySem.W.nsIn K mainGlobals "BACK" = some (some (.int 32768 t_BACK)))
    (ki_BadForm_RomError : PySem.W.kitOne K (.ref C_BadForm) (.ref C_RomError) = some true)
    (ki_BadForm_ValueError : PySem.W.kitOne K (.ref C_BadForm) (.type "ValueError") = some true)
    (z_ValueError : PySem.W.nsIn K mainGlobals "ValueError" = some none)
    (z_abs : PySem.W.nsIn K mainGlobals "abs" = some none)
    (z_bool : PySem.W.nsIn K mainGlobals "bool" = some none)
    (z_int : PySem.W.nsIn K mainGlobals "int" = some none)
    (z_isinstance : PySem.W.nsIn K mainGlobals "isinstance" = some none)
    (z_len : PySem.W.nsIn K mainGlobals "len" = some none)
    (z_list : PySem.W.nsIn K mainGlobals "list" = some none)
    (z_max : PySem.W.nsIn K mainGlobals "max" = some none)
    (z_min : PySem.W.nsIn K mainGlobals "min" = some none)
    (z_range : PySem.W.nsIn K mainGlobals "range" = some none)
    (z_tuple : PySem.W.nsIn K mainGlobals "tuple" = some none) :
    ∃ fd : FuncData, (∀ (s : Shared) (v : Value), BindsTo s fd ⟨[v], []⟩ [("_law_script", v)]) ∧ ∀ base : Heap, K.In base → base.Ns mainGlobals mg → FnOk l.prog w K mg base CX0 9 fa fd ["_law_script"] (spLaw K) := by
  have e : f29 = fa := Value.ref.inj (Option.some.inj ((PySem.W.mg_of X G a29).symm.trans hfa))
  subst e
  have T : Txt K mg ⟨f1, (PySem.W.fnOf "text_to_find" "text_to_find" (defArgs s_text_to_find) (defBody s_text_to_find) (defScope s_text_to_find) .none kV1 dc1 pm1 an1 cd1 ct1), f2, (PySem.W.fnOf "part_of_text" "part_of_text" (defArgs s_part_of_text) (defBody s_part_of_text) (defScope s_part_of_text) .none kV2 dc2 pm2 an2 cd2 ct2), f3, (PySem.W.fnOf "squeeze" "squeeze" (defArgs s_squeeze) (defBody s_squeeze) (defScope s_squeeze) .none kV3 dc3 pm3 an3 cd3 ct3), f4, (PySem.W.fnOf "longest_backs" "longest_backs" (defArgs s_longest_backs) (defBody s_longest_backs) (defScope s_longest_backs) .none kV4 dc4 pm4 an4 cd4 ct4), f5, (PySem.W.fnOf "least_distance" "least_distance" (defArgs s_least_distance) (defBody s_least_distance) (defScope s_least_distance) .none kV5 dc5 pm5 an5 cd5 ct5), f6, (PySem.W.fnOf "longest_runs" "longest_runs" (defArgs s_longest_runs) (defBody s_longest_runs) (defScope s_longest_runs) .none kV6 dc6 pm6 an6 cd6 ct6), f7, (PySem.W.fnOf "fewest_from" "fewest_from" (defArgs s_fewest_from) (defBody s_fewest_from) (defScope s_fewest_from) .none kV7 dc7 pm7 an7 cd7 ct7), f8, (PySem.W.fnOf "most_put" "most_put" (defArgs s_most_put) (defBody s_most_put) (defScope s_most_put) .none kV8 dc8 pm8 an8 cd8 ct8), f9, (PySem.W.fnOf "fewest" "fewest" (defArgs s_fewest) (defBody s_fewest) (defScope s_fewest) .none kV9 dc9 pm9 an9 cd9 ct9), f10, (PySem.W.fnOf "piece_at" "piece_at" (defArgs s_piece_at) (defBody s_piece_at) (defScope s_piece_at) .none kV10 dc10 pm10 an10 cd10 ct10), f11, (PySem.W.fnOf "words_in" "words_in" (defArgs s_words_in) (defBody s_words_in) (defScope s_words_in) .none kV11 dc11 pm11 an11 cd11 ct11), f12, (PySem.W.fnOf "pieces_of" "pieces_of" (defArgs s_pieces_of) (defBody s_pieces_of) (defScope s_pieces_of) .none kV12 dc12 pm12 an12 cd12 ct12), f13, (PySem.W.fnOf "opened" "opened" (defArgs s_opened) (defBody s_opened) (defScope s_opened) .none kV13 dc13 pm13 an13 cd13 ct13), f14, (PySem.W.fnOf "_law_source" "_law_source" (defArgs s_law_source) (defBody s_law_source) (defScope s_law_source) .none kV14 dc14 pm14 an14 cd14 ct14), f15, (PySem.W.fnOf "_law_draw" "_law_draw" (defArgs s_law_draw) (defBody s_law_draw) (defScope s_law_draw) .none kV15 dc15 pm15 an15 cd15 ct15), f16, (PySem.W.fnOf "_law_word" "_law_word" (defArgs s_law_word) (defBody s_law_word) (defScope s_law_word) .none kV16 dc16 pm16 an16 cd16 ct16), f17, (PySem.W.fnOf "_law_plain" "_law_plain" (defArgs s_law_plain) (defBody s_law_plain) (defScope s_law_plain) .none kV17 dc17 pm17 an17 cd17 ct17), f18, (PySem.W.fnOf "_law_pool" "_law_pool" (defArgs s_law_pool) (defBody s_law_pool) (defScope s_law_pool) .none kV18 dc18 pm18 an18 cd18 ct18), f19, (PySem.W.fnOf "_law_words" "_law_words" (defArgs s_law_words) (defBody s_law_words) (defScope s_law_words) .none kV19 dc19 pm19 an19 cd19 ct19), f20, (PySem.W.fnOf "_law_choices" "_law_choices" (defArgs s_law_choices) (defBody s_law_choices) (defScope s_law_choices) .none kV20 dc20 pm20 an20 cd20 ct20), f21, (PySem.W.fnOf "_law_table" "_law_table" (defArgs s_law_table) (defBody s_law_table) (defScope s_law_table) .none kV21 dc21 pm21 an21 cd21 ct21), f22, (PySem.W.fnOf "_law_quick" "_law_quick" (defArgs s_law_quick) (defBody s_law_quick) (defScope s_law_quick) .none kV22 dc22 pm22 an22 cd22 ct22), f23, (PySem.W.fnOf "_law_longer" "_law_longer" (defArgs s_law_longer) (defBody s_law_longer) (defScope s_law_longer) .none kV23 dc23 pm23 an23 cd23 ct23), f24, (PySem.W.fnOf "_law_take" "_law_take" (defArgs s_law_take) (defBody s_law_take) (defScope s_law_take) .none kV24 dc24 pm24 an24 cd24 ct24), f25, (PySem.W.fnOf "_law_opened" "_law_opened" (defArgs s_law_opened) (defBody s_law_opened) (defScope s_law_opened) .none kV25 dc25 pm25 an25 cd25 ct25), f26, (PySem.W.fnOf "_law_opened_told" "_law_opened_told" (defArgs s_law_opened_told) (defBody s_law_opened_told) (defScope s_law_opened_told) .none kV26 dc26 pm26 an26 cd26 ct26), f27, (PySem.W.fnOf "_law_same" "_law_same" (defArgs s_law_same) (defBody s_law_same) (defScope s_law_same) .none kV27 dc27 pm27 an27 cd27 ct27), f28, (PySem.W.fnOf "_law_refused" "_law_refused" (defArgs s_law_refused) (defBody s_law_refused) (defScope s_law_refused) .none kV28 dc28 pm28 an28 cd28 ct28), f29, (PySem.W.fnOf "law" "law" (defArgs s_law) (defBody s_law) (defScope s_law) .none kV29 dc29 pm29 an29 cd29 ct29), C_TooMany, f30, (PySem.W.fnOf "__init__" "TooMany.__init__" (defArgs s_TooMany_init) (defBody s_TooMany_init) (defScope s_TooMany_init) .none kV30 dc30 pm30 an30 cd30 ct30), C_BadForm, f31, (PySem.W.fnOf "__init__" "BadForm.__init__" (defArgs s_BadForm_init) (defBody s_BadForm_init) (defScope s_BadForm_init) .none kV31 dc31 pm31 an31 cd31 ct31), C_RomError, t_WIDTH, t_MOST_WORDS, t_MOST_COUNT, t_RUN, t_BACK⟩ :=
    { F_text_to_find := fun_mk (st := s_text_to_find) l1 c1 k1,
      g_text_to_find := PySem.W.mg_of X G a1,
      b_text_to_find := (fun_mk (st := s_text_to_find) l1 c1 k1).binds (ps := ["words"]) fun _ _ _ _ _ _ us hl => match us, hl with | [_], _ => rfl,
      F_part_of_text := fun_mk (st := s_part_of_text) l2 c2 k2,
      g_part_of_text := PySem.W.mg_of X G a2,
      b_part_of_text := (fun_mk (st := s_part_of_text) l2 c2 k2).binds (ps := ["text", "place", "count"]) fun _ _ _ _ _ _ us hl => match us, hl with | [_, _, _], _ => rfl,
      F_squeeze := fun_mk (st := s_squeeze) l3 c3 k3,
      g_squeeze := PySem.W.mg_of X G a3,
      b_squeeze := (fun_mk (st := s_squeeze) l3 c3 k3).binds (ps := ["words"]) fun _ _ _ _ _ _ us hl => match us, hl with | [_], _ => rfl,
      F_longest_backs := fun_mk (st := s_longest_backs) l4 c4 k4,
      g_longest_backs := PySem.W.mg_of X G a4,
      b_longest_backs := (fun_mk (st := s_longest_backs) l4 c4 k4).binds (ps := ["words"]) fun _ _ _ _ _ _ us hl => match us, hl with | [_], _ => rfl,
      F_least_distance := fun_mk (st := s_least_distance) l5 c5 k5,
      g_least_distance := PySem.W.mg_of X G a5,
      b_least_distance := (fun_mk (st := s_least_distance) l5 c5 k5).binds (ps := ["words", "place", "count"]) fun _ _ _ _ _ _ us hl => match us, hl with | [_, _, _], _ => rfl,
      F_longest_runs := fun_mk (st := s_longest_runs) l6 c6 k6,
      g_longest_runs := PySem.W.mg_of X G a6,
      b_longest_runs := (fun_mk (st := s_longest_runs) l6 c6 k6).binds (ps := ["words"]) fun _ _ _ _ _ _ us hl => match us, hl with | [_], _ => rfl,
      F_fewest_from := fun_mk (st := s_fewest_from) l7 c7 k7,
      g_fewest_from := PySem.W.mg_of X G a7,
      b_fewest_from := (fun_mk (st := s_fewest_from) l7 c7 k7).binds (ps := ["backs", "runs"]) fun _ _ _ _ _ _ us hl => match us, hl with | [_, _], _ => rfl,
      F_most_put := fun_mk (st := s_most_put) l8 c8 k8,
      g_most_put := PySem.W.mg_of X G a8,
      b_most_put := (fun_mk (st := s_most_put) l8 c8 k8).binds (ps := ["prices", "place"]) fun _ _ _ _ _ _ us hl => match us, hl with | [_, _], _ => rfl,
      F_fewest := fun_mk (st := s_fewest) l9 c9 k9,
      g_fewest := PySem.W.mg_of X G a9,
      b_fewest := (fun_mk (st := s_fewest) l9 c9 k9).binds (ps := ["words"]) fun _ _ _ _ _ _ us hl => match us, hl with | [_], _ => rfl,
      F_piece_at := fun_mk (st := s_piece_at) l10 c10 k10,
      g_piece_at := PySem.W.mg_of X G a10,
      b_piece_at := (fun_mk (st := s_piece_at) l10 c10 k10).binds (ps := ["form", "at", "count"]) fun _ _ _ _ _ _ us hl => match us, hl with | [_, _, _], _ => rfl,
      F_words_in := fun_mk (st := s_words_in) l11 c11 k11,
      g_words_in := PySem.W.mg_of X G a11,
      b_words_in := (fun_mk (st := s_words_in) l11 c11 k11).binds (ps := ["piece"]) fun _ _ _ _ _ _ us hl => match us, hl with | [_], _ => rfl,
      F_pieces_of := fun_mk (st := s_pieces_of) l12 c12 k12,
      g_pieces_of := PySem.W.mg_of X G a12,
      b_pieces_of := (fun_mk (st := s_pieces_of) l12 c12 k12).binds (ps := ["form"]) fun _ _ _ _ _ _ us hl => match us, hl with | [_], _ => rfl,
      F_opened := fun_mk (st := s_opened) l13 c13 k13,
      g_opened := PySem.W.mg_of X G a13,
      b_opened := (fun_mk (st := s_opened) l13 c13 k13).binds (ps := ["form"]) fun _ _ _ _ _ _ us hl => match us, hl with | [_], _ => rfl,
      F_law_source := fun_mk (st := s_law_source) l14 c14 k14,
      g_law_source := PySem.W.mg_of X G a14,
      b_law_source := (fun_mk (st := s_law_source) l14 c14 k14).binds (ps := ["_law_script"]) fun _ _ _ _ _ _ us hl => match us, hl with | [_], _ => rfl,
      F_law_draw := fun_mk (st := s_law_draw) l15 c15 k15,
      g_law_draw := PySem.W.mg_of X G a15,
      b_law_draw := (fun_mk (st := s_law_draw) l15 c15 k15).binds (ps := ["_law_source_here", "_law_below"]) fun _ _ _ _ _ _ us hl => match us, hl with | [_, _], _ => rfl,
      F_law_word := fun_mk (st := s_law_word) l16 c16 k16,
      g_law_word := PySem.W.mg_of X G a16,
      b_law_word := (fun_mk (st := s_law_word) l16 c16 k16).binds (ps := ["_law_source_here"]) fun _ _ _ _ _ _ us hl => match us, hl with | [_], _ => rfl,
      F_law_plain := fun_mk (st := s_law_plain) l17 c17 k17,
      g_law_plain := PySem.W.mg_of X G a17,
      b_law_plain := (fun_mk (st := s_law_plain) l17 c17 k17).binds (ps := ["_law_thing"]) fun _ _ _ _ _ _ us hl => match us, hl with | [_], _ => rfl,
      F_law_pool := fun_mk (st := s_law_pool) l18 c18 k18,
      g_law_pool := PySem.W.mg_of X G a18,
      b_law_pool := (fun_mk (st := s_law_pool) l18 c18 k18).binds (ps := ["_law_source_here", "_law_count"]) fun _ _ _ _ _ _ us hl => match us, hl with | [_, _], _ => rfl,
      F_law_words := fun_mk (st := s_law_words) l19 c19 k19,
      g_law_words := PySem.W.mg_of X G a19,
      b_law_words := (fun_mk (st := s_law_words) l19 c19 k19).binds (ps := ["_law_source_here", "_law_pool_here"]) fun _ _ _ _ _ _ us hl => match us, hl with | [_, _], _ => rfl,
      F_law_choices := fun_mk (st := s_law_choices) l20 c20 k20,
      g_law_choices := PySem.W.mg_of X G a20,
      b_law_choices := (fun_mk (st := s_law_choices) l20 c20 k20).binds (ps := ["_law_words_here", "_law_place"]) fun _ _ _ _ _ _ us hl => match us, hl with | [_, _], _ => rfl,
      F_law_table := fun_mk (st := s_law_table) l21 c21 k21,
      g_law_table := PySem.W.mg_of X G a21,
      b_law_table := (fun_mk (st := s_law_table) l21 c21 k21).binds (ps := ["_law_words_here"]) fun _ _ _ _ _ _ us hl => match us, hl with | [_], _ => rfl,
      F_law_quick := fun_mk (st := s_law_quick) l22 c22 k22,
      g_law_quick := PySem.W.mg_of X G a22,
      b_law_quick := (fun_mk (st := s_law_quick) l22 c22 k22).binds (ps := ["_law_words_here"]) fun _ _ _ _ _ _ us hl => match us, hl with | [_], _ => rfl,
      F_law_longer := fun_mk (st := s_law_longer) l23 c23 k23,
      g_law_longer := PySem.W.mg_of X G a23,
      b_law_longer := (fun_mk (st := s_law_longer) l23 c23 k23).binds (ps := ["_law_source_here", "_law_pool_here"]) fun _ _ _ _ _ _ us hl => match us, hl with | [_, _], _ => rfl,
      F_law_take := fun_mk (st := s_law_take) l24 c24 k24,
      g_law_take := PySem.W.mg_of X G a24,
      b_law_take := (fun_mk (st := s_law_take) l24 c24 k24).binds (ps := ["_law_form", "_law_place", "_law_total"]) fun _ _ _ _ _ _ us hl => match us, hl with | [_, _, _], _ => rfl,
      F_law_opened := fun_mk (st := s_law_opened) l25 c25 k25,
      g_law_opened := PySem.W.mg_of X G a25,
      b_law_opened := (fun_mk (st := s_law_opened) l25 c25 k25).binds (ps := ["_law_form"]) fun _ _ _ _ _ _ us hl => match us, hl with | [_], _ => rfl,
      F_law_opened_told := fun_mk (st := s_law_opened_told) l26 c26 k26,
      g_law_opened_told := PySem.W.mg_of X G a26,
      b_law_opened_told := (fun_mk (st := s_law_opened_told) l26 c26 k26).binds (ps := ["_law_form"]) fun _ _ _ _ _ _ us hl => match us, hl with | [_], _ => rfl,
      F_law_same := fun_mk (st := s_law_same) l27 c27 k27,
      g_law_same := PySem.W.mg_of X G a27,
      b_law_same := (fun_mk (st := s_law_same) l27 c27 k27).binds (ps := ["_law_form"]) fun _ _ _ _ _ _ us hl => match us, hl with | [_], _ => rfl,
      F_law_refused := fun_mk (st := s_law_refused) l28 c28 k28,
      g_law_refused := PySem.W.mg_of X G a28,
      b_law_refused := (fun_mk (st := s_law_refused) l28 c28 k28).binds (ps := ["_law_words_here"]) fun _ _ _ _ _ _ us hl => match us, hl with | [_], _ => rfl,
      F_law := fun_mk (st := s_law) l29 c29 k29,
      g_law := PySem.W.mg_of X G a29,
      b_law := (fun_mk (st := s_law) l29 c29 k29).binds (ps := ["_law_script"]) fun _ _ _ _ _ _ us hl => match us, hl with | [_], _ => rfl,
      F_TooMany_init := fun_mk (st := s_TooMany_init) l30 c30 k30,
      x_TooMany := ⟨PySem.W.mg_of X G gc_TooMany, ⟨⟨_, _, _, _, _, _, _, _, _, _, _, _, _, _, _, xl_TooMany, vb_TooMany⟩, sa_TooMany, ec_TooMany, tc_TooMany, kc_TooMany⟩, no_TooMany, ic_TooMany, ti_TooMany, (fun_mk (st := s_TooMany_init) l30 c30 k30).binds (ps := ["self", "limit"]) fun _ _ _ _ _ _ us hl => match us, hl with | [_, _], _ => rfl, ⟨ga_TooMany, gg_TooMany, ec_TooMany, hd_TooMany⟩, ⟨ga_TooMany, gg_TooMany, ec_TooMany, hd_TooMany, ha_TooMany, hn0, ht0, hm_TooMany⟩, PySem.W.exm_ref ec_TooMany hd_TooMany tc_TooMany ss_TooMany⟩,
      F_BadForm_init := fun_mk (st := s_BadForm_init) l31 c31 k31,
      x_BadForm := ⟨PySem.W.mg_of X G gc_BadForm, ⟨⟨_, _, _, _, _, _, _, _, _, _, _, _, _, _, _, xl_BadForm, vb_BadForm⟩, sa_BadForm, ec_BadForm, tc_BadForm, kc_BadForm⟩, no_BadForm, ic_BadForm, ti_BadForm, (fun_mk (st := s_BadForm_init) l31 c31 k31).binds (ps := ["self", "place"]) fun _ _ _ _ _ _ us hl => match us, hl with | [_, _], _ => rfl, ⟨ga_BadForm, gg_BadForm, ec_BadForm, hd_BadForm⟩, ⟨ga_BadForm, gg_BadForm, ec_BadForm, hd_BadForm, ha_BadForm, hn0, ht0, hm_BadForm⟩, PySem.W.exm_ref ec_BadForm hd_BadForm tc_BadForm ss_BadForm⟩,
      g_TooMany := PySem.W.mg_of X G gc_TooMany,
      g_BadForm := PySem.W.mg_of X G gc_BadForm,
      g_RomError := PySem.W.mg_of X G gc_RomError,
      g_WIDTH := PySem.W.mg_of X G gc_WIDTH,
      g_MOST_WORDS := PySem.W.mg_of X G gc_MOST_WORDS,
      g_MOST_COUNT := PySem.W.mg_of X G gc_MOST_COUNT,
      g_RUN := PySem.W.mg_of X G gc_RUN,
      g_BACK := PySem.W.mg_of X G gc_BACK,
      k_BadForm_RomError := ki_BadForm_RomError,
      k_BadForm_ValueError := ki_BadForm_ValueError,
      n_ValueError := PySem.W.mg_none_of X G z_ValueError,
      n_abs := PySem.W.mg_none_of X G z_abs,
      n_bool := PySem.W.mg_none_of X G z_bool,
      n_int := PySem.W.mg_none_of X G z_int,
      n_isinstance := PySem.W.mg_none_of X G z_isinstance,
      n_len := PySem.W.mg_none_of X G z_len,
      n_list := PySem.W.mg_none_of X G z_list,
      n_max := PySem.W.mg_none_of X G z_max,
      n_min := PySem.W.mg_none_of X G z_min,
      n_range := PySem.W.mg_none_of X G z_range,
      n_tuple := PySem.W.mg_none_of X G z_tuple }
  exact ⟨(PySem.W.fnOf "law" "law" (defArgs s_law) (defBody s_law) (defScope s_law) .none kV29 dc29 pm29 an29 cd29 ct29), fun s v => .of_eq rfl, fun base _ _ => ok_law T⟩
end R1
open PySem PySem.W PyProof.Rows
set_option maxHeartbeats 0 in
theorem PySem.Challenge.cw_romwright_k61_whole_squeezed_least_holds : PySem.Challenge.rw_romwright_k61_whole_squeezed_least.Holds := by
  w_on; o_law; k_head; (case hw => w_witness2)
  k_fill
  refine L2.walk_of (l := PySem.Challenge.rw_romwright_k61_whole_squeezed_least) (n := 63) (k := 9) (x := "_law_script") (CX := fun _ => L2.CX0) (sp := fun w => R1.spLaw _) rfl (by decide) rfl ⟨rfl, by decide, by decide⟩ (fun w h Y => PySem.W.kIn_of Y) ?F (fun _ _ a ns hl _ hS => ⟨a, ns, rfl, hS, hl, fun _ => rfl⟩) (fun _ _ _ _ _ h => h)
  case F =>
    intro w mg fa h KX G hmg
    refine' R1.all_mk KX G hmg ?a1 ?l1 ?c1 ?k1 ?a2 ?l2 ?c2 ?k2 ?a3 ?l3 ?c3 ?k3 ?a4 ?l4 ?c4 ?k4 ?a5 ?l5 ?c5 ?k5 ?a6 ?l6 ?c6 ?k6 ?a7 ?l7 ?c7 ?k7 ?a8 ?l8 ?c8 ?k8 ?a9 ?l9 ?c9 ?k9 ?a10 ?l10 ?c10 ?k10 ?a11 ?l11 ?c11 ?k11 ?a12 ?l12 ?c12 ?k12 ?a13 ?l13 ?c13 ?k13 ?a14 ?l14 ?c14 ?k14 ?a15 ?l15 ?c15 ?k15 ?a16 ?l16 ?c16 ?k16 ?a17 ?l17 ?c17 ?k17 ?a18 ?l18 ?c18 ?k18 ?a19 ?l19 ?c19 ?k19 ?a20 ?l20 ?c20 ?k20 ?a21 ?l21 ?c21 ?k21 ?a22 ?l22 ?c22 ?k22 ?a23 ?l23 ?c23 ?k23 ?a24 ?l24 ?c24 ?k24 ?a25 ?l25 ?c25 ?k25 ?a26 ?l26 ?c26 ?k26 ?a27 ?l27 ?c27 ?k27 ?a28 ?l28 ?c28 ?k28 ?a29 ?l29 ?c29 ?k29 ?l30 ?c30 ?k30 ?l31 ?c31 ?k31 ?gc_TooMany ?xl_TooMany ?vb_TooMany ?sa_TooMany ?ec_TooMany ?tc_TooMany ?kc_TooMany ?no_TooMany ?ic_TooMany ?ti_TooMany ?ga_TooMany ?gg_TooMany ?hd_TooMany ?ha_TooMany ?hm_TooMany ?ss_TooMany ?gc_BadForm ?xl_BadForm ?vb_BadForm ?sa_BadForm ?ec_BadForm ?tc_BadForm ?kc_BadForm ?no_BadForm ?ic_BadForm ?ti_BadForm ?ga_BadForm ?gg_BadForm ?hd_BadForm ?ha_BadForm ?hm_BadForm ?ss_BadForm ?hn0 ?ht0 ?gc_RomError ?gc_WIDTH ?gc_MOST_WORDS ?gc_MOST_COUNT ?gc_RUN ?gc_BACK ?ki_BadForm_RomError ?ki_BadForm_ValueError ?z_ValueError ?z_abs ?z_bool ?z_int ?z_isinstance ?z_len ?z_list ?z_max ?z_min ?z_range ?z_tuple
    (case a1 => k_is)
    (case a2 => k_is)
    (case a3 => k_is)
    (case a4 => k_is)
    (case a5 => k_is)
    (case a6 => k_is)
    (case a7 => k_is)
    (case a8 => k_is)
    (case a9 => k_is)
    (case a10 => k_is)
    (case a11 => k_is)
    (case a12 => k_is)
    (case a13 => k_is)
    (case a14 => k_is)
    (case a15 => k_is)
    (case a16 => k_is)
    (case a17 => k_is)
    (case a18 => k_is)
    (case a19 => k_is)
    (case a20 => k_is)
    (case a21 => k_is)
    (case a22 => k_is)
    (case a23 => k_is)
    (case a24 => k_is)
    (case a25 => k_is)
    (case a26 => k_is)
    (case a27 => k_is)
    (case a28 => k_is)
    (case a29 => k_is)
    (case gc_TooMany => k_is)
    (case gc_BadForm => k_is)
    (case gc_RomError => k_is)
    (case gc_WIDTH => k_is)
    (case gc_MOST_WORDS => k_is)
    (case gc_MOST_COUNT => k_is)
    (case gc_RUN => k_is)
    (case gc_BACK => k_is)
    (case ic_TooMany => k_is)
    (case ic_BadForm => k_is)
    (case l1 => k_is)
    (case c1 => k_is)
    (case k1 => k_is)
    (case l2 => k_is)
    (case c2 => k_is)
    (case k2 => k_is)
    (case l3 => k_is)
    (case c3 => k_is)
    (case k3 => k_is)
    (case l4 => k_is)
    (case c4 => k_is)
    (case k4 => k_is)
    (case l5 => k_is)
    (case c5 => k_is)
    (case k5 => k_is)
    (case l6 => k_is)
    (case c6 => k_is)
    (case k6 => k_is)
    (case l7 => k_is)
    (case c7 => k_is)
    (case k7 => k_is)
    (case l8 => k_is)
    (case c8 => k_is)
    (case k8 => k_is)
    (case l9 => k_is)
    (case c9 => k_is)
    (case k9 => k_is)
    (case l10 => k_is)
    (case c10 => k_is)
    (case k10 => k_is)
    (case l11 => k_is)
    (case c11 => k_is)
    (case k11 => k_is)
    (case l12 => k_is)
    (case c12 => k_is)
    (case k12 => k_is)
    (case l13 => k_is)
    (case c13 => k_is)
    (case k13 => k_is)
    (case l14 => k_is)
    (case c14 => k_is)
    (case k14 => k_is)
    (case l15 => k_is)
    (case c15 => k_is)
    (case k15 => k_is)
    (case l16 => k_is)
    (case c16 => k_is)
    (case k16 => k_is)
    (case l17 => k_is)
    (case c17 => k_is)
    (case k17 => k_is)
    (case l18 => k_is)
    (case c18 => k_is)
    (case k18 => k_is)
    (case l19 => k_is)
    (case c19 => k_is)
    (case k19 => k_is)
    (case l20 => k_is)
    (case c20 => k_is)
    (case k20 => k_is)
    (case l21 => k_is)
    (case c21 => k_is)
    (case k21 => k_is)
    (case l22 => k_is)
    (case c22 => k_is)
    (case k22 => k_is)
    (case l23 => k_is)
    (case c23 => k_is)
    (case k23 => k_is)
    (case l24 => k_is)
    (case c24 => k_is)
    (case k24 => k_is)
    (case l25 => k_is)
    (case c25 => k_is)
    (case k25 => k_is)
    (case l26 => k_is)
    (case c26 => k_is)
    (case k26 => k_is)
    (case l27 => k_is)
    (case c27 => k_is)
    (case k27 => k_is)
    (case l28 => k_is)
    (case c28 => k_is)
    (case k28 => k_is)
    (case l29 => k_is)
    (case c29 => k_is)
    (case k29 => k_is)
    (case l30 => k_is)
    (case c30 => k_is)
    (case k30 => k_is)
    (case l31 => k_is)
    (case c31 => k_is)
    (case k31 => k_is)
    (case xl_TooMany => k_is)
    (case vb_TooMany => first | k_is | decide +kernel)
    (case sa_TooMany => k_is)
    (case ec_TooMany => k_is)
    (case tc_TooMany => k_is)
    (case kc_TooMany => k_is)
    (case no_TooMany => k_is)
    (case ti_TooMany => k_is)
    (case ga_TooMany => k_is)
    (case gg_TooMany => k_is)
    (case hd_TooMany => k_is)
    (case ha_TooMany => k_is)
    (case hm_TooMany => k_is)
    (case ss_TooMany => k_is)
    (case xl_BadForm => k_is)
    (case vb_BadForm => first | k_is | decide +kernel)
    (case sa_BadForm => k_is)
    (case ec_BadForm => k_is)
    (case tc_BadForm => k_is)
    (case kc_BadForm => k_is)
    (case no_BadForm => k_is)
    (case ti_BadForm => k_is)
    (case ga_BadForm => k_is)
    (case gg_BadForm => k_is)
    (case hd_BadForm => k_is)
    (case ha_BadForm => k_is)
    (case hm_BadForm => k_is)
    (case ss_BadForm => k_is)
    (case hn0 => k_is)
    (case ht0 => k_is)
    (case ki_BadForm_RomError => first | k_is | kit_is | decide +kernel)
    (case ki_BadForm_ValueError => first | k_is | kit_is | decide +kernel)
    (case z_ValueError => k_is)
    (case z_abs => k_is)
    (case z_bool => k_is)
    (case z_int => k_is)
    (case z_isinstance => k_is)
    (case z_len => k_is)
    (case z_list => k_is)
    (case z_max => k_is)
    (case z_min => k_is)
    (case z_range => k_is)
    (case z_tuple => k_is)

