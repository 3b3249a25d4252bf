import PyProof.Rows.All
import Wide.All
import OpenK.AllK
import Wide.FinOn
import HandS.ForMost
import HandS.Wide
import HandS.IsInst
import HandS.Flow
import HandS.Codes
import HandS.StrMore
import HandS.Walk
import HandS.Style
import HandS.Exc
import HandS.DictComp
import HandS.TupAny
import HandS.More
import HandS.SortInts
import HandS.ExcInit
import HandS.ExcField
import HandS.ExcCtx
import HandS.HotCalls
import HandS.ExcInitHot
import HandS.ExcIs
import HandS.Deep
import HandS.Remove
import KE.DataFind
import HandS.Zip
import HandS.Replace
import KE.BitLaws
import KE.KExcIs
import KE.KStateDown
import HandS.Head0
import HandS.Head1
import HandS.Head2
import HandS.HeadEnd
import HandS.HeadHook1
import HandS.HeadHook2
import HandS.SetKeys
import PyProof.Rows.SetFrom
import PyProof.WalksMore
import PyProof.FactsAll.set_2
import PyProof.FactsAll.subtypes_5
import HandS.CallLocal
import KE.KEqDict
import HandS.SetFor
import HandS.TupSets
import KE.KSortTupG
import PyProof.EqAt
import HandS.SortOrd
import KE.KEqNest
import PySem.Challenge.RW_lenstree_k11_difference
set_option Elab.async false
set_option linter.all false
set_option maxRecDepth 100000
set_option maxHeartbeats 4000000
set_option autoImplicit false
set_option autoImplicit false
namespace Lt
open PySem L2 TL
open C8 (pss_cut)
/-! ## what every law of Lenstree leans on -/
/-- a def that has been walked: how it is called -/
structure Cal (P : Program) (w : World) (K : PySem.W.Frag) (mg : Str → Option Value) (base : Heap) (n : Nat) (x : Str) (ps : List Str) (sp : Sp) (g : Addr) (gd : FuncData) : Prop where
  G : FnOk P w K mg base CX0 n g gd ps sp
  m : mg x = some (.ref g)
  kp : PySem.W.keepIn K (.ref g) = true
  b : Binds K gd ps []
/-- a def as the top has made it -/
structure Kn (K : PySem.W.Frag) (mg : Str → Option Value) (x : Str) (st : Stmt) (ps : List Str) (g : Addr) (gd : FuncData) : Prop where
  F : Fun K x x st g gd
  b : Binds K gd ps []
  m : mg x = some (.ref g)
theorem Kn.cal {P : Program} {w : World} {K : PySem.W.Frag} {mg : Str → Option Value} {base : Heap} {n : Nat} {x : Str} {st : Stmt} {ps : List Str} {sp : Sp} {g : Addr} {gd : FuncData}
    (k : Kn K mg x st ps g gd) (G : FnOk P w K mg base CX0 n g gd ps sp) : Cal P w K mg base n x ps sp g gd := ⟨G, k.m, k.F.kp, k.b⟩

/-! ### heaps that differ at one place -/
def SameX (t : Addr) (H H' : Hp) : Prop := ∀ b o, H b = some o → b ≠ t → H' b = some o
theorem SameX.refl (t : Addr) (H : Hp) : SameX t H H := fun _ _ h _ => h
theorem SameX.trans {t : Addr} {H H1 H2 : Hp} (a : SameX t H H1) (b : SameX t H1 H2) : SameX t H H2 := fun c o h n => b c o (a c o h n) n
theorem SameX.of {t : Addr} {H H1 : Hp} (a : Same H H1) : SameX t H H1 := fun c o h _ => a c o h
theorem SameX.upd {t : Addr} {H : Hp} (o : HO) : SameX t H (upd H t o) := fun b u h n => by rw [upd_ne n]; exact h
theorem same_new {H : Hp} {p : Addr} (h : H p = none) (o : HO) : Same H (upd H p o) := fun b u q => by rw [upd_ne (ne_of_none q h)]; exact q
theorem SameX.free {t : Addr} {H H' : Hp} (e : SameX t H H') {l : Addr} (hl : l ≠ t) (h : H' l = none) : H l = none := by
  cases q : H l with
  | none => rfl
  | some o => rw [e l o q hl] at h; cases h

theorem iteDT {c A B : Prop} [Decidable c] (hc : c) (h : A) : if decide c = true then A else B := by
  rw [decide_eq_true hc]; exact iteT h
theorem iteDF {c A B : Prop} [Decidable c] (hc : ¬ c) (h : B) : if decide c = true then A else B := by
  rw [decide_eq_false hc]; exact iteF h
theorem iteNF {c A B : Prop} [Decidable c] (hc : ¬ c) (h : A) : if (!decide c) = true then A else B := by
  rw [decide_eq_false hc]; exact iteT h
theorem ifD {c A B : Prop} [Decidable c] (h1 : c → A) (h2 : ¬ c → B) : if decide c = true then A else B := by
  by_cases h : c
  · exact iteDT h (h1 h)
  · exact iteDF h (h2 h)
theorem ifN {c A B : Prop} [Decidable c] (h1 : ¬ c → A) (h2 : c → B) : if (!decide c) = true then A else B := by
  by_cases h : c
  · exact iteNS h (h2 h)
  · exact iteNF h (h1 h)
theorem bl_T {c : Prop} [Decidable c] {Q : VK} {H : Hp} (hc : c) (h : Q (.bl true) H) : Q (.bl (decide c)) H := by rw [decide_eq_true hc]; exact h
theorem bl_F {c : Prop} [Decidable c] {Q : VK} {H : Hp} (hc : ¬ c) (h : Q (.bl false) H) : Q (.bl (decide c)) H := by rw [decide_eq_false hc]; exact h
theorem int_at {ns : List Int} {i : Nat} {x : V} (h : (ns.map V.int)[i]? = some x) : ∃ z, x = V.int z ∧ ns[i]? = some z := by
  rw [List.getElem?_map] at h
  cases e : ns[i]? with
  | none => rw [e] at h; cases h
  | some z => rw [e] at h; exact ⟨z, (Option.some.inj h).symm, rfl⟩
theorem same_upd {H H1 : Hp} {p : Addr} (h : H p = none) (o : HO) (e : Same H H1) : Same H (upd H1 p o) := fun b u q => by rw [upd_ne (ne_of_none q h)]; exact e _ _ q
theorem samex_upd {t : Addr} {H H1 : Hp} {p : Addr} (h : H p = none) (o : HO) (e : SameX t H H1) : SameX t H (upd H1 p o) := fun b u q n => by rw [upd_ne (ne_of_none q h)]; exact e _ _ q n
/-- isinstance(x, T) -/
theorem isi {K : PySem.W.Frag} {H : Hp} {Q : VK} {x : V} {a b : String} (r : Bool) (hT : TyX K H x (.type a)) (h : kitB a b = some r) (q : Q (.bl r) H) : rIsi K [x, .ty b] H Q :=
  ⟨_, _, _, _, r, rfl, .ty _, hT, kit_ty h, q⟩
/-- xs[i] of a list or a tuple -/
theorem ixq {K : PySem.W.Frag} {H : Hp} {Q : VK} {a : Addr} {xs : List V} {i : Int} {v : V} (h : SqL K H a xs ∨ SqT K H a xs) (e : atI xs i = some v) (q : Q v H) : rIx K (.ref a) (.int i) H Q := by
  rcases h with h | h
  · exact .inl ⟨a, xs, i, v, rfl, rfl, h, e, q⟩
  · exact .inr (.inl ⟨a, xs, i, v, rfl, rfl, h, e, q⟩)
theorem at_in {α : Type} {xs : List α} {i : Int} (h0 : 0 ≤ i) (h1 : i < xs.length) : ∃ v, atI xs i = some v ∧ v ∈ xs := by
  have hk : i.toNat < xs.length := by omega
  refine ⟨xs[i.toNat], ?_, List.getElem_mem hk⟩
  have e : i = ((i.toNat : Nat) : Int) := by omega
  have q : atI xs ((i.toNat : Nat) : Int) = some xs[i.toNat] := atI_nat (List.getElem?_eq_getElem hk)
  rw [← e] at q
  exact q
/-! ### texts -/
def one (c : Nat) : Str := ⟨#[c]⟩
def chOk (c : Nat) : Prop := 32 ≤ c ∧ c ≤ 126 ∧ c ≠ 37
instance (c : Nat) : Decidable (chOk c) := by unfold chOk; exact inferInstance
theorem tl_one (c : Nat) : tl (one c) = [c] := rfl
theorem join_ones : ∀ chs : List Nat, joinL [] ((chs.map one).map tl) = chs
  | [] => rfl
  | [c] => rfl
  | c :: d :: r => by
    have q := join_ones (d :: r)
    show [c] ++ ([] ++ joinL [] (((d :: r).map one).map tl)) = c :: d :: r
    rw [q]; rfl
theorem strOk_of {x : Str} (h : ∀ c ∈ tl x, chOk c) : PyData.strOk x = true := by
  unfold PyData.strOk
  rw [← Array.all_toList, List.all_eq_true]
  intro c hc
  have := h c hc
  unfold chOk at this
  exact decide_eq_true (by omega)
theorem tl_empty : tl ("" : Str) = [] := by decide +kernel
theorem tl_joined (chs : List Nat) : tl (Txt.join ("" : Str) (chs.map one)) = chs := by
  rw [join_eq, tl_join, tl_empty, join_ones]
theorem len_joined (chs : List Nat) : (Txt.join ("" : Str) (chs.map one)).length = chs.length := by rw [len_tl, tl_joined]
theorem sum_ones (chs : List Nat) : ((chs.map one).map (·.length)).sum = chs.length := by
  induction chs with
  | nil => rfl
  | cons c r ih => rw [List.map_cons, List.map_cons, List.sum_cons, ih, List.length_cons]; show 1 + r.length = r.length + 1; omega
/-! ### the tape that a law draws from -/
theorem s_cells_at : ¬ ("cells" : Str) = ("at" : Str) := by decide +kernel
theorem n_cells_at : ¬ (Sum.inr ("cells" : Str) : Key) = Sum.inr ("at" : Str) := fun e => s_cells_at (Sum.inr.inj e)
theorem s_cells_left : ¬ ("cells" : Str) = ("left" : Str) := by decide +kernel
theorem n_cells_left : ¬ (Sum.inr ("cells" : Str) : Key) = Sum.inr ("left" : Str) := fun e => s_cells_left (Sum.inr.inj e)
theorem s_cells_seed : ¬ ("cells" : Str) = ("seed" : Str) := by decide +kernel
theorem n_cells_seed : ¬ (Sum.inr ("cells" : Str) : Key) = Sum.inr ("seed" : Str) := fun e => s_cells_seed (Sum.inr.inj e)
theorem s_cells_salt : ¬ ("cells" : Str) = ("salt" : Str) := by decide +kernel
theorem n_cells_salt : ¬ (Sum.inr ("cells" : Str) : Key) = Sum.inr ("salt" : Str) := fun e => s_cells_salt (Sum.inr.inj e)
theorem s_at_cells : ¬ ("at" : Str) = ("cells" : Str) := by decide +kernel
theorem s_at_left : ¬ ("at" : Str) = ("left" : Str) := by decide +kernel
theorem n_at_left : ¬ (Sum.inr ("at" : Str) : Key) = Sum.inr ("left" : Str) := fun e => s_at_left (Sum.inr.inj e)
theorem s_at_seed : ¬ ("at" : Str) = ("seed" : Str) := by decide +kernel
theorem n_at_seed : ¬ (Sum.inr ("at" : Str) : Key) = Sum.inr ("seed" : Str) := fun e => s_at_seed (Sum.inr.inj e)
theorem s_at_salt : ¬ ("at" : Str) = ("salt" : Str) := by decide +kernel
theorem n_at_salt : ¬ (Sum.inr ("at" : Str) : Key) = Sum.inr ("salt" : Str) := fun e => s_at_salt (Sum.inr.inj e)
theorem s_left_cells : ¬ ("left" : Str) = ("cells" : Str) := by decide +kernel
theorem s_left_at : ¬ ("left" : Str) = ("at" : Str) := by decide +kernel
theorem s_left_seed : ¬ ("left" : Str) = ("seed" : Str) := by decide +kernel
theorem n_left_seed : ¬ (Sum.inr ("left" : Str) : Key) = Sum.inr ("seed" : Str) := fun e => s_left_seed (Sum.inr.inj e)
theorem s_left_salt : ¬ ("left" : Str) = ("salt" : Str) := by decide +kernel
theorem n_left_salt : ¬ (Sum.inr ("left" : Str) : Key) = Sum.inr ("salt" : Str) := fun e => s_left_salt (Sum.inr.inj e)
theorem s_seed_cells : ¬ ("seed" : Str) = ("cells" : Str) := by decide +kernel
theorem s_seed_at : ¬ ("seed" : Str) = ("at" : Str) := by decide +kernel
theorem s_seed_left : ¬ ("seed" : Str) = ("left" : Str) := by decide +kernel
theorem s_seed_salt : ¬ ("seed" : Str) = ("salt" : Str) := by decide +kernel
theorem n_seed_salt : ¬ (Sum.inr ("seed" : Str) : Key) = Sum.inr ("salt" : Str) := fun e => s_seed_salt (Sum.inr.inj e)
theorem s_salt_cells : ¬ ("salt" : Str) = ("cells" : Str) := by decide +kernel
theorem s_salt_at : ¬ ("salt" : Str) = ("at" : Str) := by decide +kernel
theorem s_salt_left : ¬ ("salt" : Str) = ("left" : Str) := by decide +kernel
theorem s_salt_seed : ¬ ("salt" : Str) = ("seed" : Str) := by decide +kernel
def tk (c : Addr) (a l s m : Int) : List (Key × V) := [(Sum.inr "cells", .ref c), (Sum.inr "at", .int a), (Sum.inr "left", .int l), (Sum.inr "seed", .int s), (Sum.inr "salt", .int m)]
section
variable (c : Addr) (a l s m x : Int)
theorem tk_cells : valV (tk c a l s m) (Sum.inr ("cells" : Str) : Key) = some (.ref c) := valV_pos rfl
theorem tk_at : valV (tk c a l s m) (Sum.inr ("at" : Str) : Key) = some (.int a) := by unfold tk; rw [valV_neg n_cells_at, valV_pos rfl]
theorem tk_left : valV (tk c a l s m) (Sum.inr ("left" : Str) : Key) = some (.int l) := by unfold tk; rw [valV_neg n_cells_left, valV_neg n_at_left, valV_pos rfl]
theorem tk_seed : valV (tk c a l s m) (Sum.inr ("seed" : Str) : Key) = some (.int s) := by unfold tk; rw [valV_neg n_cells_seed, valV_neg n_at_seed, valV_neg n_left_seed, valV_pos rfl]
theorem tk_salt : valV (tk c a l s m) (Sum.inr ("salt" : Str) : Key) = some (.int m) := by unfold tk; rw [valV_neg n_cells_salt, valV_neg n_at_salt, valV_neg n_left_salt, valV_neg n_seed_salt, valV_pos rfl]
theorem put_at : putK (tk c a l s m) (Sum.inr ("at" : Str) : Key) (.int x) = tk c x l s m := by
  simp [putK, tk, s_at_cells, s_cells_at, s_at_left, s_left_at, s_at_seed, s_seed_at, s_at_salt, s_salt_at]
theorem put_left : putK (tk c a l s m) (Sum.inr ("left" : Str) : Key) (.int x) = tk c a x s m := by
  simp [putK, tk, s_left_cells, s_cells_left, s_left_at, s_at_left, s_left_seed, s_seed_left, s_left_salt, s_salt_left]
theorem put_salt : putK (tk c a l s m) (Sum.inr ("salt" : Str) : Key) (.int x) = tk c a l s x := by
  simp [putK, tk, s_salt_cells, s_cells_salt, s_salt_at, s_at_salt, s_salt_left, s_left_salt, s_salt_seed, s_seed_salt]
end
theorem merge_tk (c : Addr) (a l s m : Int) : mergeK [] (tk c a l s m) = tk c a l s m := by
  simp [mergeK, putK, tk, s_cells_at, s_cells_left, s_cells_seed, s_cells_salt, s_at_left, s_at_seed, s_at_salt, s_left_seed, s_left_salt, s_seed_salt]
structure TapeAt (H : Hp) (t c : Addr) (cs : List Int) : Prop where
  dk : ∃ a l s m : Int, H t = some (.dK (tk c a l s m)) ∧ 0 ≤ a ∧ 0 ≤ l
  ls : H c = some (.lst (cs.map V.int))
  nn : ∀ x ∈ cs, (0 : Int) ≤ x
theorem TapeAt.ne {H : Hp} {t c : Addr} {cs : List Int} (T : TapeAt H t c cs) : c ≠ t := by
  obtain ⟨a, l, s, m, h, _⟩ := T.dk
  exact ne_of T.ls h (by intro z; cases z)
theorem TapeAt.mono {H H' : Hp} {t c : Addr} {cs : List Int} (T : TapeAt H t c cs) (e : Same H H') : TapeAt H' t c cs := by
  obtain ⟨a, l, s, m, h, h1, h2⟩ := T.dk
  exact ⟨⟨a, l, s, m, e _ _ h, h1, h2⟩, e _ _ T.ls, T.nn⟩
theorem TapeAt.upd {H : Hp} {t c D : Addr} {cs : List Int} {o : HO} (T : TapeAt H t c cs) (h1 : D ≠ t) (h2 : c ≠ D) : TapeAt (upd H D o) t c cs := by
  obtain ⟨a, l, s, m, h, k1, k2⟩ := T.dk
  exact ⟨⟨a, l, s, m, by rw [upd_ne h1.symm]; exact h, k1, k2⟩, by rw [upd_ne h2]; exact T.ls, T.nn⟩
theorem tk_len {c : Addr} {a l s m : Int} : (tk c a l s m).length < sizeLine := by show 5 < sizeLine; decide
section
variable {H : Hp} {t c : Addr} {a l s m : Int}
theorem d_cells (h : H t = some (.dK (tk c a l s m))) : DGet H t (.str "cells") (some (.ref c)) := by have g := DGet.k (k := (Sum.inr ("cells" : Str) : Key)) h; rw [tk_cells] at g; exact g
theorem d_at (h : H t = some (.dK (tk c a l s m))) : DGet H t (.str "at") (some (.int a)) := by have g := DGet.k (k := (Sum.inr ("at" : Str) : Key)) h; rw [tk_at] at g; exact g
theorem d_left (h : H t = some (.dK (tk c a l s m))) : DGet H t (.str "left") (some (.int l)) := by have g := DGet.k (k := (Sum.inr ("left" : Str) : Key)) h; rw [tk_left] at g; exact g
theorem d_seed (h : H t = some (.dK (tk c a l s m))) : DGet H t (.str "seed") (some (.int s)) := by have g := DGet.k (k := (Sum.inr ("seed" : Str) : Key)) h; rw [tk_seed] at g; exact g
theorem d_salt (h : H t = some (.dK (tk c a l s m))) : DGet H t (.str "salt") (some (.int m)) := by have g := DGet.k (k := (Sum.inr ("salt" : Str) : Key)) h; rw [tk_salt] at g; exact g
theorem p_at (h : H t = some (.dK (tk c a l s m))) (x : Int) : DPut H t (.str "at") (.int x) (upd H t (.dK (tk c x l s m))) := by have g := DPut.k (k := (Sum.inr ("at" : Str) : Key)) (v := .int x) h tk_len; rw [put_at] at g; exact g
theorem p_left (h : H t = some (.dK (tk c a l s m))) (x : Int) : DPut H t (.str "left") (.int x) (upd H t (.dK (tk c a x s m))) := by have g := DPut.k (k := (Sum.inr ("left" : Str) : Key)) (v := .int x) h tk_len; rw [put_left] at g; exact g
theorem p_salt (h : H t = some (.dK (tk c a l s m))) (x : Int) : DPut H t (.str "salt") (.int x) (upd H t (.dK (tk c a l s x))) := by have g := DPut.k (k := (Sum.inr ("salt" : Str) : Key)) (v := .int x) h tk_len; rw [put_salt] at g; exact g
end
/-- _law_tape -/
def spTape (K : PySem.W.Frag) : Sp := fun vs H Q _ => ∃ (a : Addr) (ns : List Int), vs = [.ref a] ∧ SqL K H a (ns.map V.int) ∧ ns.length ≤ 63 ∧
  ∀ t c cs H', TapeAt H' t c cs → Same H H' → H t = none → Q (.ref t) H'
/-- _law_take -/
def spTake : Sp := fun vs H Q _ => ∃ (t c : Addr) (cs : List Int) (many : Int), vs = [.ref t, .int many] ∧ TapeAt H t c cs ∧ 0 < many ∧ many.natAbs < 2 ^ 9000 ∧
  ∀ d H', 0 ≤ d → d < many → TapeAt H' t c cs → SameX t H H' → Q (.int d) H'

/-! ### two pieces of data that are the same -/
def isScal : V → Bool
  | .non => true
  | .bl _ => true
  | .int _ => true
  | .str _ => true
  | _ => false
/-- x and y are the same data, nested less than n deep -/
def SameV (K : PySem.W.Frag) (H : Hp) : Nat → V → V → Prop
  | 0, _, _ => False
  | n + 1, x, y => (x = y ∧ isScal x = true) ∨
      (∃ (a b : Addr) (xs ys : List V), x = .ref a ∧ y = .ref b ∧ H a = some (.lst xs) ∧ H b = some (.lst ys) ∧ xs.length = ys.length ∧ xs.length ≤ 1000 ∧ ∀ (i : Nat) (u v : V), xs[i]? = some u → ys[i]? = some v → SameV K H n u v) ∨
      (∃ (a b : Addr) (xs ys : List V), x = .ref a ∧ y = .ref b ∧ H a = some (.tup xs) ∧ H b = some (.tup ys) ∧ xs.length = ys.length ∧ xs.length ≤ 1000 ∧ ∀ (i : Nat) (u v : V), xs[i]? = some u → ys[i]? = some v → SameV K H n u v)
theorem SameV.sc {K : PySem.W.Frag} {H : Hp} {n : Nat} {x : V} (h : isScal x = true) : SameV K H (n + 1) x x := Or.inl ⟨rfl, h⟩
/-- _law_same, for data that are the same -/
def spSame (K : PySem.W.Frag) (n : Nat) : Sp := fun vs H Q _ => ∃ x y, vs = [x, y] ∧ SameV K H n x y ∧ Q (.bl true) H
def spItems (K : PySem.W.Frag) (n : Nat) : Sp := fun vs H Q _ => ∃ (a b : Addr) (xs ys : List V), vs = [.ref a, .ref b] ∧ ((H a = some (.lst xs) ∧ H b = some (.lst ys)) ∨ (H a = some (.tup xs) ∧ H b = some (.tup ys))) ∧ xs.length = ys.length ∧ xs.length ≤ 1000 ∧
  (∀ (i : Nat) (u v : V), xs[i]? = some u → ys[i]? = some v → SameV K H n u v) ∧ Q (.bl true) H
def spIsInt : Sp := fun vs H Q _ => ∃ x, vs = [x] ∧ isScal x = true ∧ Q (.bl (match x with | .int _ => true | _ => false)) H
theorem ty_scal {K : PySem.W.Frag} {H : Hp} {x : V} (h : isScal x = true) : ∃ t : String, TyX K H x (.type t) ∧ (x = .non ∧ t = "NoneType" ∨ (∃ b, x = .bl b) ∧ t = "bool" ∨ (∃ i, x = .int i) ∧ t = "int" ∨ (∃ z, x = .str z) ∧ t = "str") := by
  cases x with
  | non => exact ⟨_, .base .non, .inl ⟨rfl, rfl⟩⟩
  | bl b => exact ⟨_, .base (.bl b), .inr (.inl ⟨⟨b, rfl⟩, rfl⟩)⟩
  | int i => exact ⟨_, .base (.int i), .inr (.inr (.inl ⟨⟨i, rfl⟩, rfl⟩))⟩
  | str z => exact ⟨_, .base (.str z), .inr (.inr (.inr ⟨⟨z, rfl⟩, rfl⟩))⟩
  | byt _ => cases h
  | flt _ => cases h
  | ref _ => cases h
  | ty _ => cases h
/-- a def that draws: from the tape at t, what it hands back in R -/
def spDraw (R : V → Hp → Addr → Prop) : Sp := fun vs H Q _ => ∃ (t c : Addr) (cs : List Int), vs = [.ref t] ∧ TapeAt H t c cs ∧ ∀ v H', R v H' t → TapeAt H' t c cs → SameX t H H' → Q v H'
def isChar : V → Hp → Addr → Prop := fun v _ _ => ∃ c, chOk c ∧ v = .str (one c)
def isText (n : Nat) : V → Hp → Addr → Prop := fun v _ _ => ∃ z : Str, z.length ≤ n ∧ (∀ c ∈ tl z, chOk c) ∧ v = .str z
def isInt (lo hi : Int) : V → Hp → Addr → Prop := fun v _ _ => ∃ i : Int, lo ≤ i ∧ i ≤ hi ∧ v = .int i
theorem cutS_sub {z : Str} {lo hi : Option Int} : ∀ c ∈ tl (cutS z lo hi), c ∈ tl z := by
  intro c hc
  have e : tl (cutS z lo hi) = (z.cps.toList.drop (HT.sIx z.length 0 lo)).take (HT.sIx z.length z.length hi - HT.sIx z.length 0 lo) := by simp [tl, cutS]
  rw [e] at hc
  exact List.mem_of_mem_drop (List.mem_of_mem_take hc)
theorem len_app (u v : Str) : (u ++ v).length = u.length + v.length := by rw [len_tl, tl_append, List.length_append, ← len_tl, ← len_tl]
/-- anything that is handed to is_value -/
inductive Thing (H : Hp) : V → Prop where
  | non : Thing H .non
  | bl (b : Bool) : Thing H (.bl b)
  | int (i : Int) : Thing H (.int i)
  | str (z : Str) (h : z.length ≤ 1000) : Thing H (.str z)
  | lst {a : Addr} {xs : List V} (h : H a = some (.lst xs)) : Thing H (.ref a)
  | tup {a : Addr} {xs : List V} (h : H a = some (.tup xs)) : Thing H (.ref a)
theorem Thing.mono {H H' : Hp} {v : V} (t : Thing H v) (e : Same H H') : Thing H' v := by
  cases t with
  | non => exact .non
  | bl b => exact .bl b
  | int i => exact .int i
  | str z h => exact .str z h
  | lst h => exact .lst (e _ _ h)
  | tup h => exact .tup (e _ _ h)
/-- is it a value (point 3) -/
def goodV : V → Bool
  | .non => true
  | .int i => decide (-1000000000 < i ∧ i < 1000000000)
  | .str z => decide (z.length ≤ 30 ∧ ∀ c ∈ tl z, chOk c)
  | _ => false
def kindOf : V → Str
  | .non => ""
  | .int _ => "int"
  | .bl _ => "int"
  | _ => "text"
def plainOf (k : Str) (b : Bool) : V := if b = true then .non else if k = ("int" : Str) then .int 0 else .str ""
def spIsValue : Sp := fun vs H Q _ => ∃ v, vs = [v] ∧ Thing H v ∧ ∀ H', Same H H' → Q (.bl (goodV v)) H'
def spIsText : Sp := fun vs H Q _ => ∃ z : Str, vs = [.str z] ∧ z.length ≤ 1000 ∧ ∀ H', Same H H' → Q (.bl (goodV (.str z))) H'
def spIsChar : Sp := fun vs H Q _ => ∃ c : Nat, vs = [.str (one c)] ∧ Q (.bl (decide (chOk c))) H
def spKindOf : Sp := fun vs H Q _ => ∃ v, vs = [v] ∧ isScal v = true ∧ Q (.str (kindOf v)) H
def spPlain : Sp := fun vs H Q _ => ∃ (k : Str) (b : Bool), vs = [.str k, .bl b] ∧ Q (plainOf k b) H
/-- what law(script) promises -/
def spLaw (K : PySem.W.Frag) : Sp := fun vs H Q _ => ∃ (a : Addr) (ns : List Int), vs = [.ref a] ∧ SqL K H a (ns.map V.int) ∧ ns.length ≤ 63 ∧ ∀ H', Q (.bl true) H'
def codeOk (c : Int) : Prop := 32 ≤ c ∧ c ≤ 126 ∧ c ≠ 37
instance (c : Int) : Decidable (codeOk c) := by unfold codeOk; exact inferInstance
/-- is_text_code -/
def spIsCode : Sp := fun vs H Q _ => ∃ c : Int, vs = [.int c] ∧ Q (.bl (decide (codeOk c))) H
end Lt

set_option autoImplicit false
namespace Lt
open PySem PySem.Spec PyProof.Rows L2 TL
open C8 (pss_cut)
/-! ## errors of the program -/
/-- C(e, ..), C an own exception class with an own __init__: its context is None -/
theorem pmk_ownN {X : Cx} {CX : CXT} {x : Str} {e : Expr} {es : List Expr} {ta : TA} {p pos : Pos} {C fI : Addr} {k : Nat} {fd : FuncData} {ps : List Str} {sp : Sp} (T : OexC X.K C)
    (iC : PySem.W.findIn X.K (.ref C) "__init__" = some (some (.ref fI))) (tI : PySem.W.typeIn X.K (.ref fI) = some (.type "function"))
    (G : FnOk X.prog X.w X.K X.mg X.base CX k fI fd ps sp) (hr : Room (k + 1) X.A) (hb : Binds X.K fd ps []) (hx : Passes CX X (fun _ _ _ => False)) (hg : Gl X x) (hm : X.mg x = some (.ref C)) (ha : PA X (e :: es) ta)
    (hdb : (x == ("__debug__" : Str)) = false := by decide) (he : starEach (e :: es) X.env = (false, eval e X.env) :: starEach es X.env := by rfl) (hpl : (backTo pos (starEach es X.env)).any (·.1) = false := by rfl) :
    L2N.PMk X (.Call (.Name x p) (e :: es) [] pos) (tMkO C sp [] ta) := fun pins s σ H Q I h => by
  obtain ⟨_, _, _, _, bm, _, _, _, _, _, _, _, _, _, _, hcl, hbm⟩ := T.cls
  refine wpAny_Call_Name_kw (ld_glob I hg hm (PySem.W.callWith_K (h₀ := X.base) I.ok.mod.kin T.kC (thn (ha.run pos pins s σ H _ I h) fun us s1 w => ?_) he hpl) hdb)
  obtain ⟨vs, H1, J, rv, lv, q⟩ := w
  refine ⟨J.kIn, ?_⟩
  show wpAny _ _ (call (.ref C) us) _ _ _
  obtain ⟨hp, gs, dr, tok, os⟩ := s1
  generalize hA : hp.objs.size + 1 = A
  have le : hp.objs.size ≤ A := by omega
  have q := q A (J.hok.fresh le)
  rw [List.append_nil] at q
  have keep : ∀ b o, hp.get? b = some o → ((hp.push (PySem.W.kdv_tup us)).push (PySem.HandSPX.excO C hp.objs.size)).get? b = some o := fun _ _ g => Heap.get?_push_of_some _ (Heap.get?_push_of_some _ g)
  have there : ((hp.push (PySem.W.kdv_tup us)).push (PySem.HandSPX.excO C hp.objs.size)).get? A = some (PySem.HandSPX.excO C hp.objs.size) := by rw [← hA]; heap_get
  have J2 : Inv X pins σ (upd H1 A (exo A C none)) ⟨(hp.push (PySem.W.kdv_tup us)).push (PySem.HandSPX.excO C hp.objs.size), gs, dr, tok, os⟩ := J.laid (t' := tok) keep le (exo_ok there)
  have rv2 : Vals (V.ref A :: vs) (Value.ref A :: us) := .cons rfl rv
  have len : (Value.ref A :: us ++ []).length = ps.length := by rw [List.append_nil, ← rv2.length, G.len _ _ _ _ q]
  have bi := hb _ (Value.ref A :: us) J2.kIn len
  rw [List.append_nil] at bi
  have lus : us.length ≤ sizeLine := by rw [← Paired.length rv, sizeLine_eq]; omega
  subst hA
  refine wpAny_call (PySem.HandSPX.call_own F.excBase_ValueError (fun Y => PySem.HandSPX.refsVE_contains Y bm hbm) (J.kIn _ _ hcl) (PySem.W.looks_findIn J.kIn iC) (fun self => PySem.W.bind_fn J.kIn self tI) lus
    (codeAny_mono (G.run _ X.stack _ _ ⟨Value.ref (hp.objs.size + 1) :: us, []⟩ (Value.ref (hp.objs.size + 1) :: us) _ _ (fun _ _ _ => False) (hr.make C us []) (J2.env0.make C us []) bi rv2 q) fun r s' w => ?_))
  cases r with
  | error er => exact hx pins σ _ _ er s' J2 w
  | ok fl =>
    cases fl with
    | ret u =>
      obtain ⟨v, H2, eo, bare, un, hok, ru, rfl, d, fs, ea, ed, hd, q2⟩ := w
      obtain ⟨h2, g2, d2, t2, os'⟩ := s'
      obtain ⟨t0, G0, K0, kG, ge, hoe, na⟩ := mk_end0 (d2 := d2) (t2 := t2) J le keep un hok eo bare ea ed hd
      exact ⟨ru, _, _, _, ⟨G0, g2, d2, t2, os'⟩, _, .ref C, some d, rfl, K0, kG, ge, hoe, ⟨rfl, rfl, fun vs e => by cases e; rfl⟩, rfl, rfl, na, rfl, bare, raises_own T.exC T.tyC, q2⟩
    | next => exact w.elim
    | brk => exact w.elim
    | cont => exact w.elim
/-- what can't be reached -/
theorem ps_no {X : Cx} {st : Stmt} : PS X st (fun _ _ _ => False) := ⟨fun _ _ _ _ _ _ h => h.elim⟩
theorem pss_no {X : Cx} {sts : List Stmt} : PSs X sts (fun _ _ _ => False) := ⟨fun _ _ _ _ _ _ h => h.elim⟩
theorem pe_no {X : Cx} {e : Expr} : PE X e (fun _ _ _ => False) := ⟨fun _ _ _ _ _ _ h => h.elim⟩
/-- what the text says of an error class of two fields -/
structure ErrC (K : PySem.W.Frag) (mg : Str → Option Value) (x f1 f2 : Str) (C fI : Addr) : Prop where
  gC : mg x = some (.ref C)
  T : OexC K C
  iC : PySem.W.findIn K (.ref C) "__init__" = some (some (.ref fI))
  tI : PySem.W.typeIn K (.ref fI) = some (.type "function")
  n1 : PySem.W.findIn K (.ref C) f1 = some none
  n2 : PySem.W.findIn K (.ref C) f2 = some none
  xf : XfC K C
  te : PySem.W.exmOne K (.ref C) (.ref C) = some true
/-- __init__(self, a, b): self.f1 = a; self.f2 = b -/
def spInit2 (K : PySem.W.Frag) (C : Addr) (f1 f2 : Str) : Sp := fun vs H Q _ => ∃ (a : Addr) (u v : V), vs = [.ref a, u, v] ∧ OexC K C ∧ PySem.W.findIn K (.ref C) f1 = some none ∧ PySem.W.findIn K (.ref C) f2 = some none ∧ H a = some (exo a C none) ∧
  ∀ d, H d = none → d ≠ a → Q .non (upd (upd (upd H d (exd d [(f1, u)])) a (exo a C (some d))) d (exd d [(f2, v), (f1, u)]))
/-- C(u, v) raised: its fields stand in a dict of its own -/
theorem raise2 {K : PySem.W.Frag} {mg : Str → Option Value} {x f1 f2 : Str} {C fI : Addr} (c : ErrC K mg x f1 f2 C fI) {H : Hp} {Q : XK} {u v : V} (q : ∀ d, H d = none → Q (.ref C) (some d) (upd H d (.xd [(f2, v), (f1, u)]))) :
    ∀ a, H a = none → spInit2 K C f1 f2 (.ref a :: ([u, v] ++ [])) (upd H a (exo a C none)) (fun w H2 => w = .non ∧ ∃ (d : Addr) (fs : List (Str × V)), H2 a = some (exo a C (some d)) ∧ H2 d = some (exd d fs) ∧ H d = none ∧ Q (.ref C) (some d) (upd (del H2 a) d (.xd fs))) (fun _ _ _ => False) := fun a ha => by
  refine ⟨a, u, v, rfl, c.T, c.n1, c.n2, upd_same, fun d hd hda => ⟨rfl, d, _, ?_, upd_same, ?_, ?_⟩⟩
  · rw [upd_ne hda.symm]; exact upd_same
  · rw [upd_ne hda] at hd; exact hd
  · have hd' : H d = none := by rw [upd_ne hda] at hd; exact hd
    have e : upd (del (upd (upd (upd (upd H a (exo a C none)) d (exd d [(f1, u)])) a (exo a C (some d))) d (exd d [(f2, v), (f1, u)])) a) d (.xd [(f2, v), (f1, u)]) = upd H d (.xd [(f2, v), (f1, u)]) := by
      funext b
      by_cases h1 : b = d
      · subst h1; rw [upd_same, upd_same]
      · rw [upd_ne h1, upd_ne h1]
        by_cases h2 : b = a
        · subst h2; rw [del_same, ha]
        · rw [del_ne h2, upd_ne h1, upd_ne h2, upd_ne h1, upd_ne h2]
    rw [e]
    exact q d hd'
def clsSt : Stmt → Nat → Stmt
  | .ClassDef (body := b) .., j => b.getD j (.Pass ⟨0, 0, 0, 0⟩)
  | _, _ => .Pass ⟨0, 0, 0, 0⟩
structure ErrK (P : Program) (w : World) (K : PySem.W.Frag) (mg : Str → Option Value) (base : Heap) (x f1 f2 : Str) (C fI : Addr) (fdI : FuncData) : Prop where
  c : ErrC K mg x f1 f2 C fI
  G : FnOk P w K mg base CX0 1 fI fdI ["self", f1, f2] (spInit2 K C f1 f2)
  b : Binds K fdI ["self", f1, f2] []
section
variable {P : Program} {w : World} {K : PySem.W.Frag} {mg : Str → Option Value} {base : Heap}
/-- a def that may raise -/
theorem okN {x qual : Str} {st : Stmt} {f : Addr} {fd : FuncData} {N ps : List Str} {k : Nat} {sp : Sp} (F : Fun K x qual st f fd) (S : FnScope N ps (defScope st)) (len : ∀ vs H Q E, sp vs H Q E → vs.length = ps.length)
    (hbody : ∀ (cdv : Value) (A : Around) (outer : List Env) (s : Shared) (H : Hp) (vs : List V) (Q : VK) (E : XK), Room k (A.deeper (envOfC qual (defScope st) s.heap.objs.size f cdv)) → sp vs H Q E →
      ∃ t, PSs (cxOf (L2N.CX P w) P w K mg base N qual (defScope st) f cdv A outer s H E) (defBody st) t ∧ t { nx := fun _ H' => Q .non H', rt := Q } (start N vs) H) : FnOk P w K mg base (L2N.CX P w) (k + 1) f fd ps sp := by
  obtain ⟨oc, od, kV, doc, pm, an, cdv, ct, osl, rfl, lk, hcd⟩ := F.ex
  exact fn_of lk hcd S len fun A outer s H vs Q E hr h => hbody cdv A outer s H vs Q E hr h
/-- a def called where an exception is handled -/
theorem okH {x qual : Str} {st : Stmt} {f : Addr} {fd : FuncData} {N ps : List Str} {k : Nat} {sp : Sp} (F : Fun K x qual st f fd) (S : FnScope N ps (defScope st)) (len : ∀ vs H Q E, sp vs H Q E → vs.length = ps.length)
    (hbody : ∀ (cdv : Value) (A : Around) (outer : List Env) (s : Shared) (H : Hp) (vs : List V) (Q : VK) (E : XK) (p : Addr × Obj), L2H.Hot1 A p → L2H.RoomH k (A.deeper (envOfC qual (defScope st) s.heap.objs.size f cdv)) → sp vs H Q E →
      ∃ t, PSs (L2H.cxH CX0 P w K mg base N qual (defScope st) f cdv A outer s H E p) (defBody st) t ∧ t { nx := fun _ H' => Q .non H', rt := Q } (start N vs) H) : L2H.FnH P w K mg base CX0 (k + 1) f fd ps sp := by
  obtain ⟨oc, od, kV, doc, pm, an, cdv, ct, osl, rfl, lk, hcd⟩ := F.ex
  exact L2H.fn_ofH lk hcd S len fun A outer s H vs Q E p hot hr h => hbody cdv A outer s H vs Q E p hot hr h
/-- a walked def that may raise -/
structure CalX (P : Program) (w : World) (K : PySem.W.Frag) (mg : Str → Option Value) (base : Heap) (n : Nat) (x : Str) (ps : List Str) (sp : Sp) (g : Addr) (gd : FuncData) : Prop where
  G : FnOk P w K mg base (L2N.CX P w) n g gd ps sp
  m : mg x = some (.ref g)
  kp : PySem.W.keepIn K (.ref g) = true
  b : Binds K gd ps []
theorem Kn.calX {n : Nat} {x : Str} {st : Stmt} {ps : List Str} {sp : Sp} {g : Addr} {gd : FuncData} (k : Kn K mg x st ps g gd) (G : FnOk P w K mg base (L2N.CX P w) n g gd ps sp) : CalX P w K mg base n x ps sp g gd := ⟨G, k.m, k.F.kp, k.b⟩
structure CalH (P : Program) (w : World) (K : PySem.W.Frag) (mg : Str → Option Value) (base : Heap) (n : Nat) (x : Str) (ps : List Str) (sp : Sp) (g : Addr) (gd : FuncData) : Prop where
  G : L2H.FnH P w K mg base CX0 n g gd ps sp
  m : mg x = some (.ref g)
  kp : PySem.W.keepIn K (.ref g) = true
  b : Binds K gd ps []
theorem Kn.calH {n : Nat} {x : Str} {st : Stmt} {ps : List Str} {sp : Sp} {g : Addr} {gd : FuncData} (k : Kn K mg x st ps g gd) (G : L2H.FnH P w K mg base CX0 n g gd ps sp) : CalH P w K mg base n x ps sp g gd := ⟨G, k.m, k.F.kp, k.b⟩
end
theorem takes0N {X : Cx} : L2N.Takes X (fun _ _ _ _ => False) := fun _ _ ⟨_, _, _, _, _, _, _, _, _, _, _, _, _, _, _, _, w⟩ => w.elim
theorem hotc {X : Cx} {a : Addr} {oe : Obj} {cls : Value} {d : Option Addr} {pn : List (Addr × Obj)} (hz : L2N.Zn cls d oe) (hf : ∃ vs, oe.data = .fields vs) : L2H.HotC (X.suite a ((a, oe) :: pn)) := by
  obtain ⟨vs, e⟩ := hf
  exact ⟨(a, oe), ⟨rfl, vs, e, hz.2.2 vs e⟩, List.mem_cons_self⟩
theorem hotp {CX : CXT} {P : Program} {w : World} {K : PySem.W.Frag} {mg : Str → Option Value} {base : Heap} {N : List Str} {qual : Str} {scope : Scope} {f : Addr} {cd : Value} {A : Around} {outer : List Env} {s : Shared} {H : Hp} {E : XK} {p : Addr × Obj} (h : L2H.Hot1 A p) :
    L2H.HotC (L2H.cxH CX P w K mg base N qual scope f cd A outer s H E p) := ⟨p, h, List.mem_cons_self⟩
theorem passN {X : Cx} {E : XK} : ∀ σ : L2.St, PassesAt CX0 X σ E := fun _ _ _ _ _ _ _ h => h.elim
theorem err_mk {K : PySem.W.Frag} {mg : Str → Option Value} {x f1 f2 : Str} {C fI N : Addr} {nm q : Str} {bs sub bm : List Value} {sn : List Str} {ab : Bool} {col : Option Bool} {dd : Option Addr} {m0 m1 m2 m3 m5 : Option Value}
    (gC : mg x = some (.ref C)) (xL : K.lookup C = some (excClassObj nm q C N bs bm true sn sub ab col dd m0 m1 m2 m3 m5 "ValueError.__new__")) (hb : PySem.HandSPX.refsVE bm = true)
    (sa : PySem.W.findIn K (.ref C) "__setattr__" = some (some (.builtin "object.__setattr__"))) (ga : PySem.W.findIn K (.ref C) "__getattribute__" = some (some (.builtin "BaseException.__getattribute__"))) (gg : PySem.W.findIn K (.ref C) "__getattr__" = some none)
    (n1 : PySem.W.findIn K (.ref C) f1 = some none) (n2 : PySem.W.findIn K (.ref C) f2 = some none) (iC : PySem.W.findIn K (.ref C) "__init__" = some (some (.ref fI))) (tI : PySem.W.typeIn K (.ref fI) = some (.type "function"))
    (kC : PySem.W.keepIn K (.ref C) = true) (eC : PySem.W.subIn K (.ref C) (.type "BaseException") = some true) (tC : PySem.W.typeIn K (.ref C) = some (.type "type")) (hC : PySem.W.hasDictIn K C = true) (sC : PySem.W.subIn K (.ref C) (.ref C) = some true) : ErrC K mg x f1 f2 C fI :=
  ⟨gC, ⟨⟨nm, q, N, bs, bm, sn, sub, ab, col, dd, m0, m1, m2, m3, m5, xL, hb⟩, sa, eC, tC, kC⟩, iC, tI, n1, n2, ⟨ga, gg, eC, hC⟩, PySem.W.exm_ref eC hC tC sC⟩
end Lt

set_option autoImplicit false
/-! ## the end over a head by facts -/
namespace Lt
open PySem PySem.Spec PyProof.Rows L2
/-- where the names of the top, their code, the classes' parts stand -/
def refS (o : Obj) : List Addr := match o.data with
  | .func fd => He.refV fd.code
  | .cls cd => cd.ns :: cd.mro.flatMap He.refV
  | .dict es _ => es.toList.flatMap fun e => He.refV e.val
  | _ => []
def stepA (g : Addr → Option Obj) (as : List Addr) : List Addr := as.flatMap fun a => match g a with
  | some o => refS o
  | none => []
def asL (xs cs : List Str) (g : Addr → Option Obj) : List Addr :=
  mainGlobals :: (xs.map (He.ga (He.frG g [mainGlobals])) ++ (stepA g (xs.map (He.ga (He.frG g [mainGlobals]))) ++ (cs.map (He.ga (He.frG g [mainGlobals])) ++ (stepA g (cs.map (He.ga (He.frG g [mainGlobals]))) ++ (stepA g (stepA g (cs.map (He.ga (He.frG g [mainGlobals])))) ++ stepA g (stepA g (stepA g (cs.map (He.ga (He.frG g [mainGlobals]))))))))))
def hookL (as : (Addr → Option Obj) → List Addr) (fa : List He.Fa) (fn : List He.FnD) (ex : PySem.W.Frag → Bool) : PySem.W.Hook where
  α := He.Al × Bool
  obs := fun s => (He.obsE fa fn (He.frG s.heap.get? (as s.heap.get?)), ex (He.frG s.heap.get? (as s.heap.get?)))
  val := fun _ => (He.valE fn, true)
  says := fun _ h => ∃ K : PySem.W.Frag, K.In h ∧ (He.SaysE fa fn K ∧ ex K = true)
  of := fun _ _ e => ⟨_, He.frG_in, congrArg (fun z : He.Al × Bool => z.1) e, congrArg (fun z : He.Al × Bool => z.2) e⟩
  keeps := fun _ _ _ ⟨K, hK, c⟩ k => ⟨K, PySem.W.Frag.In.keeps hK k, c⟩
def obL (as : (Addr → Option Obj) → List Addr) (fa : List He.Fa) (fn : List He.FnD) (ex : PySem.W.Frag → Bool) (g : Addr → Option Obj) : He.Al × Bool := (He.obsE fa fn (He.frG g (as g)), ex (He.frG g (as g)))
theorem obL_eq {as : (Addr → Option Obj) → List Addr} {fa : List He.Fa} {fn : List He.FnD} {ex : PySem.W.Frag → Bool} {g : Addr → Option Obj} {s : Shared} (h : ∀ a, g a = s.heap.get? a) : obL as fa fn ex g = (hookL as fa fn ex).obs s := by
  have e : g = s.heap.get? := funext h
  rw [e] <;> rfl
/-- an error class -/
def clsB (K : PySem.W.Frag) (C : Addr) : Bool := match K.lookup C with
  | some ⟨.type t, _, .cls cd, sl⟩ => (match cd.mro, sl.toList with
    | .ref C' :: bm, [_, _, _, _, some (.builtin n), _] => decide (t = "type") && (decide (C' = C) && (decide (n = "ValueError.__new__") && (cd.hasDict && (!cd.hasDel && HandSPX.refsVE bm))))
    | _, _ => false)
  | _ => false
theorem clsB_ok {K : PySem.W.Frag} {C : Addr} (h : clsB K C = true) : ∃ nm q N bs bm sn sub ab col dd k0 k1 k2 k3 k5, K.lookup C = some (excClassObj nm q C N bs bm true sn sub ab col dd k0 k1 k2 k3 k5 "ValueError.__new__") ∧ HandSPX.refsVE bm = true := by
  unfold clsB at h
  split at h
  · rename_i t dd cd sl hl
    split at h
    · rename_i C' bm k0 k1 k2 k3 n k5 hm hs
      obtain ⟨h1, h⟩ := He.ba h
      obtain ⟨h2, h⟩ := He.ba h
      obtain ⟨h3, h⟩ := He.ba h
      obtain ⟨h4, h⟩ := He.ba h
      obtain ⟨h5, h6⟩ := He.ba h
      have e1 := of_decide_eq_true h1
      have e2 := of_decide_eq_true h2
      have e3 := of_decide_eq_true h3
      obtain ⟨nm, bs, mro, ns, qn, hd, sn, sub, ab, col, del⟩ := cd
      obtain ⟨sl⟩ := sl
      simp only at hm hs h4 h5
      subst hm hs e1 e2 e3
      subst h4
      cases del with
      | true => cases h5
      | false => exact ⟨_, _, _, _, _, _, _, _, _, _, _, _, _, _, _, hl, h6⟩
    · cases h
  · cases h
def errB (K : PySem.W.Frag) (x f1 f2 : Str) : Bool :=
  let C := He.ga K x
  clsB K C && (He.eqO (PySem.W.findIn K (.ref C) "__setattr__") (some (some (.builtin "object.__setattr__"))) && (He.eqO (PySem.W.findIn K (.ref C) "__getattribute__") (some (some (.builtin "BaseException.__getattribute__"))) && (He.eqO (PySem.W.findIn K (.ref C) "__getattr__") (some none) &&
  (He.eqO (PySem.W.findIn K (.ref C) f1) (some none) && (He.eqO (PySem.W.findIn K (.ref C) f2) (some none) && (He.eqO (PySem.W.findIn K (.ref C) "__init__") (some (some (.ref (He.ma K C "__init__")))) && (decide (PySem.W.typeIn K (.ref (He.ma K C "__init__")) = some (.type "function")) &&
  (PySem.W.keepIn K (.ref C) && (decide (PySem.W.subIn K (.ref C) (.type "BaseException") = some true) && (decide (PySem.W.typeIn K (.ref C) = some (.type "type")) && (PySem.W.hasDictIn K C && (decide (PySem.W.subIn K (.ref C) (.ref C) = some true) && PySem.W.keepIn K (.ref (He.ma K C "__init__"))))))))))))))
theorem errB_ok {K : PySem.W.Frag} {mg : Str → Option Value} {x f1 f2 : Str} (h : errB K x f1 f2 = true) (gC : mg x = some (.ref (He.ga K x))) : ErrC K mg x f1 f2 (He.ga K x) (He.ma K (He.ga K x) "__init__") ∧ PySem.W.keepIn K (.ref (He.ma K (He.ga K x) "__init__")) = true := by
  unfold errB at h
  obtain ⟨h1, h⟩ := He.ba h
  obtain ⟨h2, h⟩ := He.ba h
  obtain ⟨h3, h⟩ := He.ba h
  obtain ⟨h4, h⟩ := He.ba h
  obtain ⟨h5, h⟩ := He.ba h
  obtain ⟨h6, h⟩ := He.ba h
  obtain ⟨h7, h⟩ := He.ba h
  obtain ⟨h8, h⟩ := He.ba h
  obtain ⟨h9, h⟩ := He.ba h
  obtain ⟨h10, h⟩ := He.ba h
  obtain ⟨h11, h⟩ := He.ba h
  obtain ⟨h12, h⟩ := He.ba h
  obtain ⟨h13, h14⟩ := He.ba h
  obtain ⟨nm, q, N, bs, bm, sn, sub, ab, col, dd, k0, k1, k2, k3, k5, xL, hb⟩ := clsB_ok h1
  exact ⟨err_mk gC xL hb (He.eqO_ok h2) (He.eqO_ok h3) (He.eqO_ok h4) (He.eqO_ok h5) (He.eqO_ok h6) (He.eqO_ok h7) (of_decide_eq_true h8) h9 (of_decide_eq_true h10) (of_decide_eq_true h11) h12 (of_decide_eq_true h13), h14⟩
/-- the run in two halves: what the looks see, what the Hook looks at (each kernel run takes less memory) -/
def RunA (r : PySem.W.OpenRow) (q : Program) (M : Nat) (loose : List PySem.Str) (w : World) : Prop :=
  ∀ os : OsState, (HandSHeadRun.endF (HandSHeadRun.stepQ (HandSHeadRun.denQ HandSHeadRun.tabQ) r.prog w) M r.prog w os).map (fun s => (HandSHeadRun.looksF r.prog (PySem.W.boot_heap w.params) s.abs, HandSHeadRun.seenQ q loose (importedModules r.prog.main.body) (fun s => PySem.W.xlAt q [] s && PySem.W.recOk r.toRowW.records s) s.abs)) = some (true, PySem.W.openGood q loose)
def RunB (r : PySem.W.OpenRow) (H : PySem.W.Hook) (ob : PySem.W.SharedT → H.α) (M : Nat) (w : World) : Prop :=
  ∀ os : OsState, (HandSHeadRun.endF (HandSHeadRun.stepQ (HandSHeadRun.denQ HandSHeadRun.tabQ) r.prog w) M r.prog w os).map ob = some (H.val w)
theorem run_two {r : PySem.W.OpenRow} {q : Program} {H : PySem.W.Hook} {ob : PySem.W.SharedT → H.α} {M : Nat} {loose : List PySem.Str} {w : World} (a : RunA r q M loose w) (b : RunB r H ob M w) : HandSHeadRun.RunEq r q H ob M loose w := fun os => by
  have h1 := a os
  have h2 := b os
  cases e : HandSHeadRun.endF (HandSHeadRun.stepQ (HandSHeadRun.denQ HandSHeadRun.tabQ) r.prog w) M r.prog w os with
  | none => rw [e] at h1; cases h1
  | some s =>
    rw [e] at h1 h2
    have g1 := Option.some.inj h1
    have g2 := Option.some.inj h2
    have k1 : HandSHeadRun.looksF r.prog (PySem.W.boot_heap w.params) s.abs = true := congrArg Prod.fst g1
    have k2 : HandSHeadRun.seenQ q loose (importedModules r.prog.main.body) (fun s => PySem.W.xlAt q [] s && PySem.W.recOk r.toRowW.records s) s.abs = PySem.W.openGood q loose := congrArg Prod.snd g1
    show some (HandSHeadRun.looksF r.prog (PySem.W.boot_heap w.params) s.abs, HandSHeadRun.seenQ q loose (importedModules r.prog.main.body) (fun s => PySem.W.xlAt q [] s && PySem.W.recOk r.toRowW.records s) s.abs, ob s) = _
    rw [k1, k2, g2]
end Lt

set_option autoImplicit false
/-! ## isinstance of a caught error that has fields -/
namespace Lt
open PySem PySem.Spec PyProof.Rows L2
/-- isinstance(e, c): e stands at a, its class is D, its fields stand at dd -/
def rIsF (K : PySem.W.Frag) (D a dd : Addr) : List V → Hp → VK → Prop := fun xs H Q => ∃ (c : V) (cv : Value) (b : Bool) (fs : List (Str × V)), xs = [.ref a, c] ∧ (∀ u, RelV c u → u = cv) ∧ PySem.W.kitOne K (.ref D) cv = some b ∧ H dd = some (.xd fs) ∧ Q (.bl b) H
theorem call_isF {X : Cx} {a D dd : Addr} {oe : Obj} {pn : List (Addr × Obj)} (C : ExcC X.K D) (hz : Zc (.ref D) (some dd) oe) (hf : ∃ vs, oe.data = .fields vs) : CallR (X.suite a ((a, oe) :: pn)) (.builtin "isinstance") (rIsF X.K D a dd) := fun pins s σ H xs us Q I r h => by
  obtain ⟨c, cv, b, fs, e1, hc, ek, hd, q⟩ := h
  subst e1
  match us, r with
  | _, .cons r1 (.cons r2 .nil) =>
    cases r1
    have e2 := hc _ r2
    subst e2
    have pa := (I.pin (a, oe) (List.mem_append_left _ List.mem_cons_self)).1
    have ox : ObjOk X.prog X.w H s.heap dd (.xd fs) := I.hok dd _ hd
    obtain ⟨mA, hns, _⟩ := ox
    obtain ⟨od, ho, _⟩ := lookIn_ns hns
    have nc : PySem.W.notCls oe = true := by
      obtain ⟨vs, ev⟩ := hf
      unfold PySem.W.notCls
      rw [ev] <;> rfl
    have J : PySem.W.InstAt s.heap a oe D (some od) := ⟨pa, hz.1, nc, by rw [hz.2]; exact ho⟩
    have hcl : (PySem.W.clsIn X.K D).isSome = true := by
      have := C.hd
      unfold PySem.W.hasDictIn at this
      cases z : PySem.W.clsIn X.K D with
      | none => rw [z] at this; cases this
      | some _ => rfl
    exact PySem.W.kia_one (PySem.W.kitx_exc hcl C.hg C.hk C.hs C.ha C.hn C.ht C.hm) I.kIn J ek (fun z => nomatch z) fun tk => ⟨.bl b, H, I.kept (t' := tk) fun _ _ z => z, rfl, q⟩
end Lt

set_option autoImplicit false
/-! ## isinstance of a caught error with fields: of the program's base class and of ValueError -/
namespace Lt
open PySem PySem.Spec PyProof.Rows L2 TL
structure IsK (K : PySem.W.Frag) (mg : Str → Option Value) (C S : Addr) : Prop where
  exc : ExcC K C
  s : PySem.W.kitOne K (.ref C) (.ref S) = some true
  v : PySem.W.kitOne K (.ref C) (.type "ValueError") = some true
  gS : mg "StoreError" = some (.ref S)
def isB (K : PySem.W.Frag) (x s : Str) : Bool :=
  let C := He.ga K x
  decide (PySem.W.subIn K (.ref C) (.type "BaseException") = some true) &&
  (He.eqO (PySem.W.findIn K (.ref C) "__getattribute__") (some (some (.builtin "BaseException.__getattribute__"))) && (He.eqO (PySem.W.findIn K (.ref C) "__getattr__") (some none) && (PySem.W.hasDictIn K C && (He.eqO (PySem.W.findIn K (.ref C) "__class__") (some (some (.builtin "object.__class__"))) &&
  (He.eqO (PySem.W.specialIn K (.builtin "object.__class__") "__get__") (some (some (.builtin "getset_descriptor.__get__"))) && (decide (PySem.W.takesIn K (.builtin "object.__class__") = some true) && (decide (PySem.W.mroIn K C (.type "object") = some true) && (decide (PySem.W.kitOne K (.ref C) (.ref (He.ga K s)) = some true) && decide (PySem.W.kitOne K (.ref C) (.type "ValueError") = some true)))))))))
theorem isB_ok {K : PySem.W.Frag} {mg : Str → Option Value} {x s : Str} (h : isB K x s = true) (gS : mg "StoreError" = some (.ref (He.ga K s))) : IsK K mg (He.ga K x) (He.ga K s) := by
  unfold isB at h
  obtain ⟨h3, h⟩ := He.ba h
  obtain ⟨h6, h⟩ := He.ba h
  obtain ⟨h7, h⟩ := He.ba h
  obtain ⟨h8, h⟩ := He.ba h
  obtain ⟨h9, h⟩ := He.ba h
  obtain ⟨h10, h⟩ := He.ba h
  obtain ⟨h11, h⟩ := He.ba h
  obtain ⟨h12, h⟩ := He.ba h
  obtain ⟨h13, h14⟩ := He.ba h
  exact ⟨⟨He.eqO_ok h6, He.eqO_ok h7, of_decide_eq_true h3, h8, He.eqO_ok h9, He.eqO_ok h10, of_decide_eq_true h11, of_decide_eq_true h12⟩, of_decide_eq_true h13, of_decide_eq_true h14, gS⟩
theorem call_isG {X : Cx} {a C : Addr} {c : V} {cv : Value} {oe : Obj} {pn : List (Addr × Obj)} {cls : Value} {d : Option Addr} (ex : ExcC X.K C) (ek : PySem.W.kitOne X.K (.ref C) cv = some true) (hc : ∀ u, RelV c u → u = cv) (hz : Zc cls d oe) (hf : ∃ vs, oe.data = .fields vs) :
    CallR (X.suite a ((a, oe) :: pn)) (.builtin "isinstance") (fun xs H Q => ∃ dd fs, cls = .ref C ∧ d = some dd ∧ xs = [.ref a, c] ∧ H dd = some (.xd fs) ∧ Q (.bl true) H) := fun pins s σ H xs us Q I r h => by
  obtain ⟨dd, fs, rfl, rfl, e, hd, q⟩ := h
  exact call_isF ex hz hf pins s σ H xs us Q I r ⟨c, cv, true, fs, e, hc, ek, hd, q⟩
end Lt
namespace Lt
open PySem L2 TL
open C8 (pss_cut)
def topS (i : Nat) : Stmt := PySem.Challenge.pw_lenstree_k11_difference.main.body.getD i (.Pass ⟨0, 0, 0, 0⟩)
abbrev s_law_tape : Stmt := topS 6
theorem sc_law_tape : FnScope ["script", "cell", "cells", "seed"] ["script"] (defScope s_law_tape) := ⟨rfl, rfl, rfl, by decide +kernel, rfl, by decide +kernel, by decide +kernel⟩
abbrev s_law_take : Stmt := topS 7
theorem sc_law_take : FnScope ["tape", "many", "drawn", "mixed"] ["tape", "many"] (defScope s_law_take) := ⟨rfl, rfl, rfl, by decide +kernel, rfl, by decide +kernel, by decide +kernel⟩
abbrev s_law_name : Stmt := topS 16
theorem sc_law_name : FnScope ["tape", "used", "letters", "signs", "size", "k", "name"] ["tape", "used"] (defScope s_law_name) := ⟨rfl, rfl, rfl, by decide +kernel, rfl, by decide +kernel, by decide +kernel⟩
abbrev s_law_table : Stmt := topS 18
theorem sc_law_table : FnScope ["columns"] ["columns"] (defScope s_law_table) := ⟨rfl, rfl, rfl, by decide +kernel, rfl, by decide +kernel, by decide +kernel⟩
abbrev s_law_columns : Stmt := topS 17
theorem sc_law_columns : FnScope ["tape", "used", "many", "kinds", "columns", "k"] ["tape", "used", "many"] (defScope s_law_columns) := ⟨rfl, rfl, rfl, by decide +kernel, rfl, by decide +kernel, by decide +kernel⟩
abbrev s_law_names : Stmt := topS 19
theorem sc_law_names : FnScope ["columns", "column"] ["columns"] (defScope s_law_names) := ⟨rfl, rfl, rfl, by decide +kernel, rfl, by decide +kernel, by decide +kernel⟩
abbrev s_law_integer : Stmt := topS 14
theorem sc_law_integer : FnScope ["tape", "choice"] ["tape"] (defScope s_law_integer) := ⟨rfl, rfl, rfl, by decide +kernel, rfl, by decide +kernel, by decide +kernel⟩
abbrev s_law_char : Stmt := topS 12
theorem sc_law_char : FnScope ["tape", "chars"] ["tape"] (defScope s_law_char) := ⟨rfl, rfl, rfl, by decide +kernel, rfl, by decide +kernel, by decide +kernel⟩
abbrev s_law_text : Stmt := topS 13
theorem sc_law_text : FnScope ["tape", "size", "k"] ["tape"] (defScope s_law_text) := ⟨rfl, rfl, rfl, by decide +kernel, rfl, by decide +kernel, by decide +kernel⟩
abbrev s_law_value : Stmt := topS 15
theorem sc_law_value : FnScope ["tape", "kind", "nullable"] ["tape", "kind", "nullable"] (defScope s_law_value) := ⟨rfl, rfl, rfl, by decide +kernel, rfl, by decide +kernel, by decide +kernel⟩
abbrev s_law_clause : Stmt := topS 20
theorem sc_law_clause : FnScope ["tape", "columns", "column", "operator"] ["tape", "columns"] (defScope s_law_clause) := ⟨rfl, rfl, rfl, by decide +kernel, rfl, by decide +kernel, by decide +kernel⟩
abbrev s_law_condition : Stmt := topS 21
theorem sc_law_condition : FnScope ["tape", "columns", "condition", "k", "many", "j"] ["tape", "columns"] (defScope s_law_condition) := ⟨rfl, rfl, rfl, by decide +kernel, rfl, by decide +kernel, by decide +kernel⟩
abbrev s_law_limits : Stmt := topS 22
theorem sc_law_limits : FnScope ["tape", "schema", "table", "columns", "names", "name", "others", "k", "column", "other"] ["tape", "schema", "table"] (defScope s_law_limits) := ⟨rfl, rfl, rfl, by decide +kernel, rfl, by decide +kernel, by decide +kernel⟩
abbrev s_law_schema : Stmt := topS 23
theorem sc_law_schema : FnScope ["tape", "least", "most", "used", "schema", "k", "table"] ["tape", "least", "most"] (defScope s_law_schema) := ⟨rfl, rfl, rfl, by decide +kernel, rfl, by decide +kernel, by decide +kernel⟩
abbrev s_law_rest : Stmt := topS 24
theorem sc_law_rest : FnScope ["tape", "columns", "column"] ["tape", "columns"] (defScope s_law_rest) := ⟨rfl, rfl, rfl, by decide +kernel, rfl, by decide +kernel, by decide +kernel⟩
abbrev s_law_rows : Stmt := topS 25
theorem sc_law_rows : FnScope ["tape", "columns", "most", "lines", "k"] ["tape", "columns", "most"] (defScope s_law_rows) := ⟨rfl, rfl, rfl, by decide +kernel, rfl, by decide +kernel, by decide +kernel⟩
abbrev s_law_state : Stmt := topS 26
theorem sc_law_state : FnScope ["tape", "schema", "most", "state", "table"] ["tape", "schema", "most"] (defScope s_law_state) := ⟨rfl, rfl, rfl, by decide +kernel, rfl, by decide +kernel, by decide +kernel⟩
abbrev s_law_copy : Stmt := topS 11
theorem sc_law_copy : FnScope ["thing", "result", "key", "item"] ["thing"] (defScope s_law_copy) := ⟨rfl, rfl, rfl, by decide +kernel, rfl, by decide +kernel, by decide +kernel⟩
abbrev s_law_some_key : Stmt := topS 28
theorem sc_law_some_key : FnScope ["tape", "rows", "columns", "keys"] ["tape", "rows", "columns"] (defScope s_law_some_key) := ⟨rfl, rfl, rfl, by decide +kernel, rfl, by decide +kernel, by decide +kernel⟩
abbrev s_law_edit : Stmt := topS 29
theorem sc_law_edit : FnScope ["tape", "schema", "state", "table", "columns", "kind", "key", "column"] ["tape", "schema", "state"] (defScope s_law_edit) := ⟨rfl, rfl, rfl, by decide +kernel, rfl, by decide +kernel, by decide +kernel⟩
abbrev s_law_key_of : Stmt := topS 27
theorem sc_law_key_of : FnScope ["edit"] ["edit"] (defScope s_law_key_of) := ⟨rfl, rfl, rfl, by decide +kernel, rfl, by decide +kernel, by decide +kernel⟩
abbrev s_law_right : Stmt := topS 31
theorem sc_law_right : FnScope ["state", "edit"] ["state", "edit"] (defScope s_law_right) := ⟨rfl, rfl, rfl, by decide +kernel, rfl, by decide +kernel, by decide +kernel⟩
abbrev s_law_do : Stmt := topS 30
theorem sc_law_do : FnScope ["schema", "state", "edit", "rows", "key", "at", "row"] ["schema", "state", "edit"] (defScope s_law_do) := ⟨rfl, rfl, rfl, by decide +kernel, rfl, by decide +kernel, by decide +kernel⟩
abbrev s_law_write : Stmt := topS 32
theorem sc_law_write : FnScope ["tape", "schema", "state", "most", "edits", "k", "edit"] ["tape", "schema", "state", "most"] (defScope s_law_write) := ⟨rfl, rfl, rfl, by decide +kernel, rfl, by decide +kernel, by decide +kernel⟩
abbrev s_row_difference : Stmt := topS 2
theorem sc_row_difference : FnScope ["table", "key", "old", "new"] ["table", "key", "old", "new"] (defScope s_row_difference) := ⟨rfl, rfl, rfl, by decide +kernel, rfl, by decide +kernel, by decide +kernel⟩
abbrev s_difference : Stmt := topS 3
theorem sc_difference : FnScope ["schema", "before", "after", "edits", "table", "old_rows", "new_rows", "key"] ["schema", "before", "after"] (defScope s_difference) := ⟨rfl, rfl, rfl, by decide +kernel, rfl, by decide +kernel, by decide +kernel⟩
abbrev s_law_is_integer : Stmt := topS 8
theorem sc_law_is_integer : FnScope ["actual"] ["actual"] (defScope s_law_is_integer) := ⟨rfl, rfl, rfl, by decide +kernel, rfl, by decide +kernel, by decide +kernel⟩
abbrev s_law_same_items : Stmt := topS 9
theorem sc_law_same_items : FnScope ["actual", "expected", "k"] ["actual", "expected"] (defScope s_law_same_items) := ⟨rfl, rfl, rfl, by decide +kernel, rfl, by decide +kernel, by decide +kernel⟩
abbrev s_law_same : Stmt := topS 10
theorem sc_law_same : FnScope ["actual", "expected", "key"] ["actual", "expected"] (defScope s_law_same) := ⟨rfl, rfl, rfl, by decide +kernel, rfl, by decide +kernel, by decide +kernel⟩
abbrev s_law_expected : Stmt := topS 33
theorem sc_law_expected : FnScope ["schema", "before", "after", "edits", "table", "key", "keys"] ["schema", "before", "after"] (defScope s_law_expected) := ⟨rfl, rfl, rfl, by decide +kernel, rfl, by decide +kernel, by decide +kernel⟩
abbrev s_law_touched : Stmt := topS 34
theorem sc_law_touched : FnScope ["edits", "pairs", "edit", "pair"] ["edits"] (defScope s_law_touched) := ⟨rfl, rfl, rfl, by decide +kernel, rfl, by decide +kernel, by decide +kernel⟩
abbrev s_key_of : Stmt := topS 1
theorem sc_key_of : FnScope ["edit"] ["edit"] (defScope s_key_of) := ⟨rfl, rfl, rfl, by decide +kernel, rfl, by decide +kernel, by decide +kernel⟩
abbrev s_touched : Stmt := topS 4
theorem sc_touched : FnScope ["edits", "edit"] ["edits"] (defScope s_touched) := ⟨rfl, rfl, rfl, by decide +kernel, rfl, by decide +kernel, by decide +kernel⟩
abbrev s_law : Stmt := topS 35
theorem sc_law : FnScope ["script", "tape", "schema", "state", "edits", "after", "kept", "actual", "result", "edit"] ["script"] (defScope s_law) := ⟨rfl, rfl, rfl, by decide +kernel, rfl, by decide +kernel, by decide +kernel⟩
end Lt
namespace Lt
open PySem L2 TL
open C8 (pss_cut)
def dF_law_tape : He.FnD := ⟨("_law_tape", none), "_law_tape", "_law_tape", defArgs s_law_tape, defBody s_law_tape, defScope s_law_tape⟩
def dF_law_take : He.FnD := ⟨("_law_take", none), "_law_take", "_law_take", defArgs s_law_take, defBody s_law_take, defScope s_law_take⟩
def dF_law_name : He.FnD := ⟨("_law_name", none), "_law_name", "_law_name", defArgs s_law_name, defBody s_law_name, defScope s_law_name⟩
def dF_law_table : He.FnD := ⟨("_law_table", none), "_law_table", "_law_table", defArgs s_law_table, defBody s_law_table, defScope s_law_table⟩
def dF_law_columns : He.FnD := ⟨("_law_columns", none), "_law_columns", "_law_columns", defArgs s_law_columns, defBody s_law_columns, defScope s_law_columns⟩
def dF_law_names : He.FnD := ⟨("_law_names", none), "_law_names", "_law_names", defArgs s_law_names, defBody s_law_names, defScope s_law_names⟩
def dF_law_integer : He.FnD := ⟨("_law_integer", none), "_law_integer", "_law_integer", defArgs s_law_integer, defBody s_law_integer, defScope s_law_integer⟩
def dF_law_char : He.FnD := ⟨("_law_char", none), "_law_char", "_law_char", defArgs s_law_char, defBody s_law_char, defScope s_law_char⟩
def dF_law_text : He.FnD := ⟨("_law_text", none), "_law_text", "_law_text", defArgs s_law_text, defBody s_law_text, defScope s_law_text⟩
def dF_law_value : He.FnD := ⟨("_law_value", none), "_law_value", "_law_value", defArgs s_law_value, defBody s_law_value, defScope s_law_value⟩
def dF_law_clause : He.FnD := ⟨("_law_clause", none), "_law_clause", "_law_clause", defArgs s_law_clause, defBody s_law_clause, defScope s_law_clause⟩
def dF_law_condition : He.FnD := ⟨("_law_condition", none), "_law_condition", "_law_condition", defArgs s_law_condition, defBody s_law_condition, defScope s_law_condition⟩
def dF_law_limits : He.FnD := ⟨("_law_limits", none), "_law_limits", "_law_limits", defArgs s_law_limits, defBody s_law_limits, defScope s_law_limits⟩
def dF_law_schema : He.FnD := ⟨("_law_schema", none), "_law_schema", "_law_schema", defArgs s_law_schema, defBody s_law_schema, defScope s_law_schema⟩
def dF_law_rest : He.FnD := ⟨("_law_rest", none), "_law_rest", "_law_rest", defArgs s_law_rest, defBody s_law_rest, defScope s_law_rest⟩
def dF_law_rows : He.FnD := ⟨("_law_rows", none), "_law_rows", "_law_rows", defArgs s_law_rows, defBody s_law_rows, defScope s_law_rows⟩
def dF_law_state : He.FnD := ⟨("_law_state", none), "_law_state", "_law_state", defArgs s_law_state, defBody s_law_state, defScope s_law_state⟩
def dF_law_copy : He.FnD := ⟨("_law_copy", none), "_law_copy", "_law_copy", defArgs s_law_copy, defBody s_law_copy, defScope s_law_copy⟩
def dF_law_some_key : He.FnD := ⟨("_law_some_key", none), "_law_some_key", "_law_some_key", defArgs s_law_some_key, defBody s_law_some_key, defScope s_law_some_key⟩
def dF_law_edit : He.FnD := ⟨("_law_edit", none), "_law_edit", "_law_edit", defArgs s_law_edit, defBody s_law_edit, defScope s_law_edit⟩
def dF_law_key_of : He.FnD := ⟨("_law_key_of", none), "_law_key_of", "_law_key_of", defArgs s_law_key_of, defBody s_law_key_of, defScope s_law_key_of⟩
def dF_law_right : He.FnD := ⟨("_law_right", none), "_law_right", "_law_right", defArgs s_law_right, defBody s_law_right, defScope s_law_right⟩
def dF_law_do : He.FnD := ⟨("_law_do", none), "_law_do", "_law_do", defArgs s_law_do, defBody s_law_do, defScope s_law_do⟩
def dF_law_write : He.FnD := ⟨("_law_write", none), "_law_write", "_law_write", defArgs s_law_write, defBody s_law_write, defScope s_law_write⟩
def dF_row_difference : He.FnD := ⟨("row_difference", none), "row_difference", "row_difference", defArgs s_row_difference, defBody s_row_difference, defScope s_row_difference⟩
def dF_difference : He.FnD := ⟨("difference", none), "difference", "difference", defArgs s_difference, defBody s_difference, defScope s_difference⟩
def dF_law_is_integer : He.FnD := ⟨("_law_is_integer", none), "_law_is_integer", "_law_is_integer", defArgs s_law_is_integer, defBody s_law_is_integer, defScope s_law_is_integer⟩
def dF_law_same_items : He.FnD := ⟨("_law_same_items", none), "_law_same_items", "_law_same_items", defArgs s_law_same_items, defBody s_law_same_items, defScope s_law_same_items⟩
def dF_law_same : He.FnD := ⟨("_law_same", none), "_law_same", "_law_same", defArgs s_law_same, defBody s_law_same, defScope s_law_same⟩
def dF_law_expected : He.FnD := ⟨("_law_expected", none), "_law_expected", "_law_expected", defArgs s_law_expected, defBody s_law_expected, defScope s_law_expected⟩
def dF_law_touched : He.FnD := ⟨("_law_touched", none), "_law_touched", "_law_touched", defArgs s_law_touched, defBody s_law_touched, defScope s_law_touched⟩
def dF_key_of : He.FnD := ⟨("key_of", none), "key_of", "key_of", defArgs s_key_of, defBody s_key_of, defScope s_key_of⟩
def dF_touched : He.FnD := ⟨("touched", none), "touched", "touched", defArgs s_touched, defBody s_touched, defScope s_touched⟩
def dF_law : He.FnD := ⟨("law", none), "law", "law", defArgs s_law, defBody s_law, defScope s_law⟩
def fnL : List He.FnD := [dF_law_tape, dF_law_take, dF_law_name, dF_law_table, dF_law_columns, dF_law_names, dF_law_integer, dF_law_char, dF_law_text, dF_law_value, dF_law_clause, dF_law_condition, dF_law_limits, dF_law_schema, dF_law_rest, dF_law_rows, dF_law_state, dF_law_copy, dF_law_some_key, dF_law_edit, dF_law_key_of, dF_law_right, dF_law_do, dF_law_write, dF_row_difference, dF_difference, dF_law_is_integer, dF_law_same_items, dF_law_same, dF_law_expected, dF_law_touched, dF_key_of, dF_touched, dF_law]
def faL0 : List He.Fa := [.glo "_law_tape", .glo "_law_take", .glo "_law_name", .glo "_law_table", .glo "_law_columns", .glo "_law_names", .glo "_law_integer", .glo "_law_char", .glo "_law_text", .glo "_law_value", .glo "_law_clause", .glo "_law_condition", .glo "_law_limits", .glo "_law_schema", .glo "_law_rest", .glo "_law_rows", .glo "_law_state", .glo "_law_copy", .glo "_law_some_key", .glo "_law_edit", .glo "_law_key_of", .glo "_law_right", .glo "_law_do", .glo "_law_write", .glo "row_difference", .glo "difference", .glo "_law_is_integer", .glo "_law_same_items", .glo "_law_same", .glo "_law_expected", .glo "_law_touched", .glo "key_of", .glo "touched", .glo "law", .keep "_law_tape", .keep "_law_take", .keep "_law_name", .keep "_law_table", .keep "_law_columns", .keep "_law_names"]
def faL1 : List He.Fa := [.keep "_law_integer", .keep "_law_char", .keep "_law_text", .keep "_law_value", .keep "_law_clause", .keep "_law_condition", .keep "_law_limits", .keep "_law_schema", .keep "_law_rest", .keep "_law_rows", .keep "_law_state", .keep "_law_copy", .keep "_law_some_key", .keep "_law_edit", .keep "_law_key_of", .keep "_law_right", .keep "_law_do", .keep "_law_write", .keep "row_difference", .keep "difference", .keep "_law_is_integer", .keep "_law_same_items", .keep "_law_same", .keep "_law_expected", .keep "_law_touched", .keep "key_of", .keep "touched", .keep "law", .free "abs", .free "int", .free "len", .free "range", .free "list", .free "str", .free "tuple", .free "sorted", .free "isinstance", .free "dict", .free "set", .free "bool"]
def faL : List He.Fa := faL0 ++ (faL1
)
def exL (K : PySem.W.Frag) : Bool := true
abbrev RR : PySem.W.OpenRow := PySem.W.OpenLaw.row PySem.Challenge.rw_lenstree_k11_difference
def namesL0 : List PySem.Str := [PySem.Str.ofString "_law_tape", PySem.Str.ofString "_law_take", PySem.Str.ofString "_law_name", PySem.Str.ofString "_law_table", PySem.Str.ofString "_law_columns", PySem.Str.ofString "_law_names", PySem.Str.ofString "_law_integer", PySem.Str.ofString "_law_char", PySem.Str.ofString "_law_text", PySem.Str.ofString "_law_value", PySem.Str.ofString "_law_clause", PySem.Str.ofString "_law_condition", PySem.Str.ofString "_law_limits", PySem.Str.ofString "_law_schema", PySem.Str.ofString "_law_rest", PySem.Str.ofString "_law_rows", PySem.Str.ofString "_law_state", PySem.Str.ofString "_law_copy", PySem.Str.ofString "_law_some_key", PySem.Str.ofString "_law_edit", PySem.Str.ofString "_law_key_of", PySem.Str.ofString "_law_right", PySem.Str.ofString "_law_do", PySem.Str.ofString "_law_write", PySem.Str.ofString "row_difference", PySem.Str.ofString "difference", PySem.Str.ofString "_law_is_integer", PySem.Str.ofString "_law_same_items", PySem.Str.ofString "_law_same", PySem.Str.ofString "_law_expected", PySem.Str.ofString "_law_touched", PySem.Str.ofString "key_of", PySem.Str.ofString "touched", PySem.Str.ofString "law"]
def adsL : (Addr → Option Obj) → List Addr := asL (namesL0) []
abbrev hkL : PySem.W.Hook := hookL adsL faL fnL exL
def obN (s : PySem.W.SharedT) : He.Al × Bool := obL adsL faL fnL exL (HandSHeadRun.getT s)
theorem obN_eq (s : PySem.W.SharedT) : obN s = hkL.obs s.abs := obL_eq (HandSHeadRun.getT_eq s)
def looseL0 : List PySem.Str := [PySem.Str.ofString "key_of", PySem.Str.ofString "row_difference", PySem.Str.ofString "difference", PySem.Str.ofString "touched", PySem.Str.ofString "_law_tape", PySem.Str.ofString "_law_take", PySem.Str.ofString "_law_is_integer", PySem.Str.ofString "_law_same_items", PySem.Str.ofString "_law_same", PySem.Str.ofString "_law_copy", PySem.Str.ofString "_law_char", PySem.Str.ofString "_law_text", PySem.Str.ofString "_law_integer", PySem.Str.ofString "_law_value", PySem.Str.ofString "_law_name", PySem.Str.ofString "_law_columns", PySem.Str.ofString "_law_table", PySem.Str.ofString "_law_names", PySem.Str.ofString "_law_clause", PySem.Str.ofString "_law_condition", PySem.Str.ofString "_law_limits", PySem.Str.ofString "_law_schema", PySem.Str.ofString "_law_rest", PySem.Str.ofString "_law_rows", PySem.Str.ofString "_law_state", PySem.Str.ofString "_law_key_of", PySem.Str.ofString "_law_some_key", PySem.Str.ofString "_law_edit", PySem.Str.ofString "_law_do", PySem.Str.ofString "_law_right", PySem.Str.ofString "_law_write", PySem.Str.ofString "_law_expected", PySem.Str.ofString "_law_touched"]
def looseL : List PySem.Str := looseL0
theorem runA_false (w : World) : RunA RR (PySem.W.view RR.prog [35]) 20000 looseL (w.withFollow "special-get-raises" false) := by
  intro os
  kernel_rfl
theorem runB_false (w : World) : RunB RR hkL obN 20000 (w.withFollow "special-get-raises" false) := by
  intro os
  kernel_rfl
theorem runA_true (w : World) : RunA RR (PySem.W.view RR.prog [35]) 20000 looseL (w.withFollow "special-get-raises" true) := by
  intro os
  kernel_rfl
theorem runB_true (w : World) : RunB RR hkL obN 20000 (w.withFollow "special-get-raises" true) := by
  intro os
  kernel_rfl
theorem runL (w : World) : HandSHeadRun.RunEq RR (PySem.W.view RR.prog [35]) hkL obN 20000 looseL w := run_two (PySem.W.byRow2 "special-get-raises" (P := fun w => RunA RR (PySem.W.view RR.prog [35]) 20000 looseL w) runA_false runA_true w) (PySem.W.byRow2 "special-get-raises" (P := fun w => RunB RR hkL obN 20000 w) runB_false runB_true w)
end Lt
set_option autoImplicit false
namespace Lt
open PySem L2 TL
open C8 (pss_cut)
/-! ## data that stand still: tuples of tuples of plain values -/
inductive D where
  | s (v : V)
  | t (ds : List D)
mutual
inductive Tp (H : Hp) : V → D → Prop
  | s {v : V} (h : isScal v = true) : Tp H v (.s v)
  | t {a : Addr} {xs : List V} {ds : List D} (h : H a = some (.tup xs)) (r : TpL H xs ds) : Tp H (.ref a) (.t ds)
inductive TpL (H : Hp) : List V → List D → Prop
  | nil : TpL H [] []
  | cons {v : V} {d : D} {vs : List V} {ds : List D} (h : Tp H v d) (r : TpL H vs ds) : TpL H (v :: vs) (d :: ds)
end
/-- every tuple stands as it stood -/
def KeepT (H H' : Hp) : Prop := ∀ b xs, H b = some (.tup xs) → H' b = some (.tup xs)
theorem KeepT.refl (H : Hp) : KeepT H H := fun _ _ h => h
theorem KeepT.trans {H H1 H2 : Hp} (a : KeepT H H1) (b : KeepT H1 H2) : KeepT H H2 := fun c o h => b c o (a c o h)
theorem KeepT.of {H H1 : Hp} (a : Same H H1) : KeepT H H1 := fun c o h => a c _ h
theorem KeepT.ofX {t c : Addr} {cs : List Int} {H H1 : Hp} (T : TapeAt H t c cs) (a : SameX t H H1) : KeepT H H1 := fun b o h => a b _ h (by
  obtain ⟨_, _, _, _, e, _⟩ := T.dk
  exact ne_of h e (by intro z; cases z))
theorem KeepT.upd {H : Hp} {p : Addr} {o : HO} (h : ∀ xs, H p ≠ some (.tup xs)) : KeepT H (L2.upd H p o) := fun b xs e => by
  have ne : b ≠ p := by
    intro z
    subst z
    exact h xs e
  rw [upd_ne ne]; exact e
theorem KeepT.new {H : Hp} {p : Addr} (h : H p = none) (o : HO) : KeepT H (L2.upd H p o) := KeepT.of (same_new h o)
mutual
theorem Tp.mono {H H' : Hp} (k : KeepT H H') : ∀ {d : D} {v : V}, Tp H v d → Tp H' v d
  | .s _, _, h => by cases h with | s h => exact .s h
  | .t ds, _, h => by cases h with | t h r => exact .t (k _ _ h) (TpL.mono k r)
theorem TpL.mono {H H' : Hp} (k : KeepT H H') : ∀ {ds : List D} {vs : List V}, TpL H vs ds → TpL H' vs ds
  | [], _, h => by cases h; exact .nil
  | d :: ds, _, h => by cases h with | cons h r => exact .cons (Tp.mono k h) (TpL.mono k r)
end
theorem TpL.length {H : Hp} : ∀ {ds : List D} {vs : List V}, TpL H vs ds → vs.length = ds.length
  | [], _, h => by cases h; rfl
  | d :: ds, _, h => by cases h with | cons h r => rw [List.length_cons, List.length_cons, TpL.length r]
theorem TpL.get {H : Hp} : ∀ {ds : List D} {vs : List V} {i : Nat} {v : V}, TpL H vs ds → vs[i]? = some v → ∃ d, ds[i]? = some d ∧ Tp H v d
  | [], _, i, v, h, e => by cases h; simp at e
  | d :: ds, _, 0, v, h, e => by cases h with | cons h r => simp at e; subst e; exact ⟨d, rfl, h⟩
  | d :: ds, _, i + 1, v, h, e => by cases h with | cons h r => exact TpL.get (i := i) r (by simpa using e)
theorem TpL.get' {H : Hp} {ds : List D} {vs : List V} {i : Nat} {d : D} (h : TpL H vs ds) (e : ds[i]? = some d) : ∃ v, vs[i]? = some v ∧ Tp H v d := by
  have hl := h.length
  have hi : i < ds.length := (List.getElem?_eq_some_iff.mp e).1
  have ev : vs[i]? = some vs[i] := List.getElem?_eq_getElem (by omega)
  obtain ⟨d', e1, e2⟩ := h.get ev
  rw [e] at e1
  cases e1
  exact ⟨_, ev, e2⟩
theorem TpL.snoc {H : Hp} : ∀ {ds : List D} {vs : List V} {v : V} {d : D}, TpL H vs ds → Tp H v d → TpL H (vs ++ [v]) (ds ++ [d])
  | [], _, v, d, h, q => by cases h; exact .cons q .nil
  | d0 :: ds, _, v, d, h, q => by cases h with | cons h r => exact .cons h (TpL.snoc r q)
theorem TpL.scal {H : Hp} : ∀ {vs : List V}, (∀ v ∈ vs, isScal v = true) → TpL H vs (vs.map D.s)
  | [], _ => .nil
  | v :: vs, h => .cons (.s (h v List.mem_cons_self)) (TpL.scal fun x hx => h x (List.mem_cons_of_mem _ hx))

/-! ### columns, clauses, conditions -/
structure Col where
  n : Str
  k : Str
  b : Bool
def colD (c : Col) : D := .t [.s (.str c.n), .s (.str c.k), .s (.bl c.b)]
structure Cl where
  n : Str
  op : Str
  v : V
def clD (c : Cl) : D := .t [.s (.str c.n), .s (.str c.op), .s c.v]
abbrev Cond := List (List Cl)
def altD (a : List Cl) : D := .t (a.map clD)
def condD (c : Cond) : D := .t (c.map altD)
theorem col_at {H : Hp} {v : V} {c : Col} (h : Tp H v (colD c)) : ∃ a, v = .ref a ∧ H a = some (.tup [.str c.n, .str c.k, .bl c.b]) := by
  cases h with
  | t h r =>
    cases r with
    | cons h1 r => cases h1; cases r with
      | cons h2 r => cases h2; cases r with
        | cons h3 r => cases h3; cases r; exact ⟨_, rfl, h⟩
theorem col_mk {H : Hp} {a : Addr} {c : Col} (h : H a = some (.tup [.str c.n, .str c.k, .bl c.b])) : Tp H (.ref a) (colD c) :=
  .t h (.cons (.s rfl) (.cons (.s rfl) (.cons (.s rfl) .nil)))
theorem cl_at {H : Hp} {v : V} {c : Cl} (h : Tp H v (clD c)) : ∃ a, v = .ref a ∧ H a = some (.tup [.str c.n, .str c.op, c.v]) ∧ isScal c.v = true := by
  cases h with
  | t h r =>
    cases r with
    | cons h1 r => cases h1; cases r with
      | cons h2 r => cases h2; cases r with
        | cons h3 r => cases h3 with | s hs => cases r; exact ⟨_, rfl, h, hs⟩
theorem cl_mk {H : Hp} {a : Addr} {c : Cl} (h : H a = some (.tup [.str c.n, .str c.op, c.v])) (hs : isScal c.v = true) : Tp H (.ref a) (clD c) :=
  .t h (.cons (.s rfl) (.cons (.s rfl) (.cons (.s hs) .nil)))
theorem t_at {H : Hp} {v : V} {ds : List D} (h : Tp H v (.t ds)) : ∃ a xs, v = .ref a ∧ H a = some (.tup xs) ∧ TpL H xs ds := by
  cases h with
  | t h r => exact ⟨_, _, rfl, h, r⟩
/-! ### what a condition says of a row -/
def ltV : V → V → Bool
  | .int a, .int b => decide (a < b)
  | .str a, .str b => decide (tl a < tl b)
  | _, _ => false
def cmpM (v : V) (op : Str) (w : V) : Bool :=
  if op = ("=" : Str) then decide (v = w) else if op = ("!=" : Str) then !decide (v = w) else if op = ("<" : Str) then ltV v w
  else if op = ("<=" : Str) then !ltV w v else if op = (">" : Str) then ltV w v else !ltV v w
/-- two values that may be compared -/
def Alike (v w : V) : Prop := (∃ a b, v = .int a ∧ w = .int b) ∨ ∃ a b, v = .str a ∧ w = .str b
def at_ (names : List Str) (row : List V) (n : Str) : V := row.getD (names.idxOf n) .non
def clauseM (names : List Str) (row : List V) (c : Cl) : Bool :=
  if c.op = ("null" : Str) then decide (at_ names row c.n = .non) else if c.op = ("given" : Str) then !decide (at_ names row c.n = .non)
  else if at_ names row c.n = .non then false else cmpM (at_ names row c.n) c.op c.v
def altM (names : List Str) (row : List V) (a : List Cl) : Bool := a.all (clauseM names row)
def holdsM (names : List Str) (row : List V) (c : Cond) : Bool := c.any (altM names row)
/-- the clause can be asked of the row -/
def ClFit (names : List Str) (row : List V) (c : Cl) : Prop := c.n ∈ names ∧ (c.op = ("null" : Str) ∨ c.op = ("given" : Str) ∨ at_ names row c.n = .non ∨ Alike (at_ names row c.n) c.v)
theorem idx_str : ∀ {names : List Str} {n : Str}, n ∈ names → ∃ j, j = names.idxOf n ∧ j < names.length ∧ names[j]? = some n ∧ ∀ m x, m < j → names[m]? = some x → x ≠ n
  | [], n, h => by cases h
  | x :: r, n, h => by
    by_cases e : x = n
    · subst e
      exact ⟨0, by simp, by simp, rfl, fun m x hm => absurd hm (Nat.not_lt_zero _)⟩
    · have h' : n ∈ r := by
        rcases List.mem_cons.mp h with h | h
        · exact absurd h.symm e
        · exact h
      obtain ⟨j, e1, e2, e3, e4⟩ := idx_str h'
      refine ⟨j + 1, by rw [List.idxOf_cons, beq_false_of_ne e, ← e1]; rfl, by rw [List.length_cons]; omega, by simpa using e3, fun m y hm hy => ?_⟩
      match m, hm, hy with
      | 0, _, hy => simp at hy; subst hy; exact e
      | m + 1, hm, hy => exact e4 m y (by omega) (by simpa using hy)
theorem at_some {names : List Str} {row : List V} {n : Str} (h : n ∈ names) (hl : row.length = names.length) : row[names.idxOf n]? = some (at_ names row n) := by
  obtain ⟨j, e1, e2, _, _⟩ := idx_str h
  rw [← e1]
  unfold at_
  rw [← e1, List.getD_eq_getElem?_getD, List.getElem?_eq_getElem (by omega)]
  rfl
theorem list_lt (a b : List Nat) : (!decide (b < a)) = (decide (a < b) || decide (a = b)) := by
  have h : ¬ b < a ↔ (a < b ∨ a = b) := by rw [List.not_lt]; exact List.le_iff_lt_or_eq
  by_cases h1 : b < a
  · have h2 : ¬ (a < b ∨ a = b) := fun z => h.mpr z h1
    have h3 : ¬ a < b := fun z => h2 (.inl z)
    have h4 : ¬ a = b := fun z => h2 (.inr z)
    simp [h1, h3, h4]
  · rcases h.mp h1 with h2 | h2
    · simp [h1, h2]
    · simp [h1, h2]
theorem le_V {v w : V} (h : Alike v w) : (!ltV w v) = (ltV v w || decide (v = w)) := by
  rcases h with ⟨a, b, rfl, rfl⟩ | ⟨a, b, rfl, rfl⟩
  · unfold ltV
    by_cases h1 : b < a
    · have h2 : ¬ a < b := by omega
      have h3 : ¬ V.int a = V.int b := fun z => by cases z; omega
      simp [h1, h2]
      intro z; omega
    · by_cases h2 : a < b
      · simp [h1, h2]
      · have e : a = b := by omega
        simp [e]
  · unfold ltV
    rw [list_lt]
    have e : decide (tl a = tl b) = decide (V.str a = V.str b) := by
      by_cases h : a = b
      · subst h; simp
      · have h1 : ¬ tl a = tl b := fun z => h (ext_tl z)
        have h2 : ¬ V.str a = V.str b := fun z => h (V.str.inj z)
        rw [decide_eq_false h1, decide_eq_false h2]
    rw [e]
/-- one of two rules -/
theorem op_either {X : Cx} {f : Value → Value → Sem Value} {r1 r2 : R2} (h1 : OpR X f r1) (h2 : OpR X f r2) : OpR X f (fun x y H Q => r1 x y H Q ∨ r2 x y H Q) := by
  intro pins s σ H x y v u Q I rx ry h
  rcases h with h | h
  · exact h1 pins s σ H x y v u Q I rx ry h
  · exact h2 pins s σ H x y v u Q I rx ry h
/-- names.index(n) -/
theorem ix_names {names : List Str} {n : Str} (hn : n ∈ names) : ∃ z, (names.map V.str).all flatV = true ∧ (names.map V.str)[names.idxOf n]? = some z ∧ eqV z (.str n) = true ∧ ∀ (m : Nat) (z' : V), m < names.idxOf n → (names.map V.str)[m]? = some z' → eqV z' (.str n) = false := by
  obtain ⟨j, e1, e2, e3, e4⟩ := idx_str hn
  rw [← e1]
  refine ⟨.str n, ?_, ?_, ?_, ?_⟩
  · rw [List.all_eq_true]
    intro v hv
    obtain ⟨z, _, rfl⟩ := List.mem_map.mp hv
    rfl
  · rw [List.getElem?_map, e3]; rfl
  · show (n == n) = true; simp
  · intro m z hm hz
    rw [List.getElem?_map] at hz
    cases e : names[m]? with
    | none => rw [e] at hz; cases hz
    | some y =>
      rw [e] at hz
      cases hz
      have := e4 m y hm e
      show (y == n) = false
      simpa using this
/-- what a drawn value of a column is -/
def ValOf (k : Str) (b : Bool) (v : V) : Prop := (b = true ∧ v = .non) ∨ (k = ("int" : Str) ∧ ∃ i : Int, v = .int i ∧ -999999999 ≤ i ∧ i ≤ 999999999) ∨ (k ≠ ("int" : Str) ∧ ∃ z : Str, v = .str z ∧ z.length ≤ 30 ∧ ∀ c ∈ tl z, chOk c)
theorem ValOf.scal {k : Str} {b : Bool} {v : V} (h : ValOf k b v) : isScal v = true := by
  rcases h with ⟨_, rfl⟩ | ⟨_, i, rfl, _⟩ | ⟨_, z, rfl, _⟩ <;> rfl
theorem ValOf.alike {k : Str} {b : Bool} {v w : V} (h : ValOf k b v) (g : ValOf k false w) : v = .non ∨ Alike v w := by
  rcases h with ⟨_, rfl⟩ | ⟨k1, i, rfl, _⟩ | ⟨k1, z, rfl, _⟩
  · exact .inl rfl
  · rcases g with ⟨e, _⟩ | ⟨_, j, rfl, _⟩ | ⟨k2, _⟩
    · cases e
    · exact .inr (.inl ⟨_, _, rfl, rfl⟩)
    · exact absurd k1 k2
  · rcases g with ⟨e, _⟩ | ⟨k2, _⟩ | ⟨_, y, rfl, _⟩
    · cases e
    · exact absurd k2 k1
    · exact .inr (.inr ⟨_, _, rfl, rfl⟩)
end Lt

set_option autoImplicit false
namespace Lt
open PySem L2 TL
open C8 (pss_cut)
/-! ## what the laws draw -/
def SameXY (t u : Addr) (H H' : Hp) : Prop := ∀ b o, H b = some o → b ≠ t → b ≠ u → H' b = some o
theorem SameXY.refl (t u : Addr) (H : Hp) : SameXY t u H H := fun _ _ h _ _ => h
theorem SameXY.trans {t u : Addr} {H H1 H2 : Hp} (a : SameXY t u H H1) (b : SameXY t u H1 H2) : SameXY t u H H2 := fun c o h n m => b c o (a c o h n m) n m
theorem SameXY.ofX {t u : Addr} {H H1 : Hp} (a : SameX t H H1) : SameXY t u H H1 := fun c o h n _ => a c o h n
theorem SameXY.of {t u : Addr} {H H1 : Hp} (a : Same H H1) : SameXY t u H H1 := fun c o h _ _ => a c o h
theorem samexy_upd {t u : Addr} {H H1 : Hp} {p : Addr} (h : H p = none) (o : HO) (e : SameXY t u H H1) : SameXY t u H (upd H1 p o) := fun b v q n m => by rw [upd_ne (ne_of_none q h)]; exact e _ _ q n m
theorem SameXY.updY {t u : Addr} {H H1 : Hp} (o : HO) (e : SameXY t u H H1) : SameXY t u H (upd H1 u o) := fun b v q n m => by rw [upd_ne m]; exact e _ _ q n m
theorem TapeAt.fresh {H : Hp} {t c D : Addr} {cs : List Int} (T : TapeAt H t c cs) (h : H D = none) : D ≠ t ∧ c ≠ D := by
  obtain ⟨_, _, _, _, e, _⟩ := T.dk
  exact ⟨(ne_of_none e h).symm, ne_of_none T.ls h⟩
theorem TapeAt.notL {H : Hp} {t c D : Addr} {cs : List Int} {xs : List V} (T : TapeAt H t c cs) (h : H D = some (.lst xs)) : D ≠ t := by
  obtain ⟨_, _, _, _, e, _⟩ := T.dk
  exact ne_of h e (by intro z; cases z)
theorem KeepT.ofXY {t u c : Addr} {cs : List Int} {H H1 : Hp} {us : List V} (T : TapeAt H t c cs) (hu : H u = some (.lst us)) (a : SameXY t u H H1) : KeepT H H1 := fun b o h => by
  obtain ⟨_, _, _, _, e, _⟩ := T.dk
  exact a b _ h (ne_of h e (by intro z; cases z)) (ne_of h hu (by intro z; cases z))
theorem tl_int (i : Int) : tl (Str.ofString (toString i)) = if i < 0 then 45 :: numL i.natAbs else numL i.natAbs := by
  cases i with
  | ofNat n =>
    rw [if_neg (by show ¬ ((n : Int) < 0); omega)]
    exact tl_num n
  | negSucc n =>
    rw [if_pos (Int.negSucc_lt_zero n)]
    have e : toString (Int.negSucc n) = "-" ++ toString (((n + 1 : Nat) : Int)) := rfl
    rw [e, tl_ofString, String.toList_append, List.map_append, ← tl_ofString, ← tl_ofString, tl_num]
    rfl
theorem num_chars (n : Nat) : ∀ c ∈ numL n, 48 ≤ c ∧ c ≤ 57 := fun c h => numL_digits n c h
theorem int_text {i : Int} (h1 : -999999999 ≤ i) (h2 : i ≤ 999999999) : (Str.ofString (toString i)).length ≤ 10 ∧ ∀ c ∈ tl (Str.ofString (toString i)), c = 45 ∨ (48 ≤ c ∧ c ≤ 57) := by
  have hl : (numL i.natAbs).length ≤ 9 := numL_len (by decide) (by omega)
  constructor
  · rw [len_tl, tl_int]
    split
    · rw [List.length_cons]; omega
    · omega
  · intro c hc
    rw [tl_int] at hc
    split at hc
    · rcases List.mem_cons.mp hc with h | h
      · exact .inl h
      · exact .inr (num_chars _ _ h)
    · exact .inr (num_chars _ _ hc)
theorem log_small {i : Int} (h1 : -999999999 ≤ i) (h2 : i ≤ 999999999) : i.natAbs.log2 < 1920 := by
  have : i.natAbs < 2 ^ 30 := by omega
  exact Nat.lt_of_lt_of_le (PySem.Flt.log2_lt_of (by decide) this) (by decide)
theorem digit_ok {c : Nat} (h : c = 45 ∨ (48 ≤ c ∧ c ≤ 57)) : chOk c := by unfold chOk; omega
/-- _law_value -/
def spVal : Sp := fun vs H Q _ => ∃ (t c : Addr) (cs : List Int) (k : Str) (b : Bool), vs = [.ref t, .str k, .bl b] ∧ TapeAt H t c cs ∧ ∀ v H', ValOf k b v → TapeAt H' t c cs → SameX t H H' → Q v H'
/-! ### names -/
def nmCh (c : Nat) : Prop := (97 ≤ c ∧ c ≤ 122) ∨ (48 ≤ c ∧ c ≤ 57) ∨ c = 95
instance (c : Nat) : Decidable (nmCh c) := by unfold nmCh; exact inferInstance
def nameOk (z : Str) : Prop := z.length ≤ 20 ∧ (∃ c r, tl z = c :: r ∧ 97 ≤ c ∧ c ≤ 122) ∧ ∀ c ∈ tl z, nmCh c
theorem nmCh.ok {c : Nat} (h : nmCh c) : chOk c := by unfold nmCh at h; unfold chOk; omega
/-- each of i names of the list us begins with one of the first i letters, no two alike -/
def Hit (us : List Str) (i : Nat) : Prop := ∃ ws : List Str, ws.length = i ∧ ws.Nodup ∧ ∀ v ∈ ws, v ∈ us ∧ ∃ j r, j < i ∧ tl v = (97 + j) :: r
theorem Hit.step {us : List Str} {i : Nat} (h : Hit us i) {z : Str} {r : List Nat} (e : tl z = (97 + i) :: r) : z ∉ us ∨ Hit us (i + 1) := by
  obtain ⟨ws, h1, h2, h3⟩ := h
  by_cases hz : z ∈ us
  · refine .inr ⟨z :: ws, by rw [List.length_cons, h1], List.nodup_cons.mpr ⟨fun hw => ?_, h2⟩, fun v hv => ?_⟩
    · obtain ⟨_, j, r', hj, e'⟩ := h3 z hw
      rw [e] at e'
      have := (List.cons.inj e').1
      omega
    · rcases List.mem_cons.mp hv with rfl | hv
      · exact ⟨hz, i, r, by omega, e⟩
      · obtain ⟨a, j, r', hj, e'⟩ := h3 v hv
        exact ⟨a, j, r', by omega, e'⟩
  · exact .inl hz
theorem Hit.no {us : List Str} {i : Nat} (h : Hit us i) (hl : us.length < i) : False := by
  obtain ⟨ws, h1, h2, h3⟩ := h
  have := List.Nodup.length_le_of_subset h2 (fun v hv => (h3 v hv).1)
  omega
theorem inV_str (z : Str) (us : List Str) : inV (.str z) (us.map V.str) = decide (z ∈ us) := by
  unfold inV
  rw [Bool.eq_iff_iff, List.any_eq_true, decide_eq_true_iff]
  constructor
  · rintro ⟨v, hv, e⟩
    obtain ⟨y, hy, rfl⟩ := List.mem_map.mp hv
    have : y = z := by simpa [eqV] using e
    rw [← this]; exact hy
  · intro h
    exact ⟨.str z, List.mem_map.mpr ⟨z, h, rfl⟩, by simp [eqV]⟩
theorem flat_strs (us : List Str) : (us.map V.str).all flatV = true := by
  rw [List.all_eq_true]
  intro v hv
  obtain ⟨y, _, rfl⟩ := List.mem_map.mp hv
  rfl
def spName : Sp := fun vs H Q _ => ∃ (t c u : Addr) (cs : List Int) (us : List Str), vs = [.ref t, .ref u] ∧ TapeAt H t c cs ∧ H u = some (.lst (us.map V.str)) ∧ u ≠ c ∧ us.length ≤ 25 ∧
  ∀ z H', nameOk z → z ∉ us → TapeAt H' t c cs → H' u = some (.lst ((us ++ [z]).map V.str)) → SameXY t u H H' → Q (.str z) H'
/-! ### columns -/
def colNs (cols : List Col) : List Str := cols.map (·.n)
structure ColsOk (us : List Str) (cols : List Col) : Prop where
  nd : (colNs cols).Nodup
  fr : ∀ n ∈ colNs cols, n ∉ us ∧ nameOk n
  kd : ∀ c ∈ cols, c.k = ("int" : Str) ∨ c.k = ("text" : Str)
  hd : ∀ c, cols[0]? = some c → c.b = false
def spColumns : Sp := fun vs H Q _ => ∃ (t c u : Addr) (cs : List Int) (us : List Str) (many : Int), vs = [.ref t, .ref u, .int many] ∧ TapeAt H t c cs ∧ H u = some (.lst (us.map V.str)) ∧ u ≠ c ∧ 0 ≤ many ∧ many ≤ 8 ∧ (us.length : Int) + many ≤ 25 ∧
  ∀ L cols xs H', H L = none → H' L = some (.lst xs) → TpL H' xs (cols.map colD) → (cols.length : Int) = many + 1 → ColsOk us cols → TapeAt H' t c cs → H' u = some (.lst ((us ++ colNs cols).map V.str)) → SameXY t u H H' → Q (.ref L) H'
/-- a list of columns stands at L -/
def ColsAt (H : Hp) (L : Addr) (cols : List Col) : Prop := ∃ xs, H L = some (.lst xs) ∧ TpL H xs (cols.map colD)
theorem ColsAt.mono {H H' : Hp} {L : Addr} {cols : List Col} (h : ColsAt H L cols) (k : KeepT H H') (e : ∀ o, H L = some o → H' L = some o) : ColsAt H' L cols := by
  obtain ⟨xs, h1, h2⟩ := h
  exact ⟨xs, e _ h1, h2.mono k⟩
theorem ColsAt.get {H : Hp} {L : Addr} {cols : List Col} (h : ColsAt H L cols) {i : Nat} {col : Col} (e : cols[i]? = some col) : ∃ xs a, H L = some (.lst xs) ∧ xs[i]? = some (.ref a) ∧ H a = some (.tup [.str col.n, .str col.k, .bl col.b]) := by
  obtain ⟨xs, h1, h2⟩ := h
  obtain ⟨v, e1, e2⟩ := h2.get' (i := i) (d := colD col) (by rw [List.getElem?_map, e]; rfl)
  obtain ⟨a, rfl, e3⟩ := col_at e2
  exact ⟨xs, a, h1, e1, e3⟩
def spNames : Sp := fun vs H Q _ => ∃ (L : Addr) (cols : List Col), vs = [.ref L] ∧ ColsAt H L cols ∧ cols.length ≤ 100 ∧ ∀ N H', H N = none → Same H H' → H' N = some (.lst ((colNs cols).map V.str)) → Q (.ref N) H'
/-- the values of a row behind the key -/
def RestOf (cols : List Col) (vs : List V) : Prop := vs.length + 1 = cols.length ∧ ∀ (i : Nat) (col : Col) (v : V), cols[i + 1]? = some col → vs[i]? = some v → ValOf col.k col.b v
def spRest : Sp := fun vs H Q _ => ∃ (t c L : Addr) (cs : List Int) (cols : List Col), vs = [.ref t, .ref L] ∧ TapeAt H t c cs ∧ ColsAt H L cols ∧ 0 < cols.length ∧ cols.length ≤ 100 ∧
  ∀ p ws H', H p = none → H' p = some (.tup ws) → RestOf cols ws → TapeAt H' t c cs → SameX t H H' → Q (.ref p) H'
/-! ### clauses and conditions -/
def ClOk (cols : List Col) (cl : Cl) : Prop := PyData.strOk cl.op = true ∧ ∃ col ∈ cols, cl.n = col.n ∧ (((cl.op = ("null" : Str) ∨ cl.op = ("given" : Str)) ∧ cl.v = .non) ∨
  ((cl.op ≠ ("null" : Str) ∧ cl.op ≠ ("given" : Str)) ∧ ValOf col.k false cl.v))
theorem ClOk.scal {cols : List Col} {cl : Cl} (h : ClOk cols cl) : isScal cl.v = true := by
  obtain ⟨_, col, _, _, ⟨_, e⟩ | ⟨_, e⟩⟩ := h
  · rw [e]; rfl
  · exact e.scal
def spClause : Sp := fun vs H Q _ => ∃ (t c L : Addr) (cs : List Int) (cols : List Col), vs = [.ref t, .ref L] ∧ TapeAt H t c cs ∧ ColsAt H L cols ∧ 0 < cols.length ∧ cols.length ≤ 100 ∧
  ∀ v cl H', Tp H' v (clD cl) → ClOk cols cl → TapeAt H' t c cs → SameX t H H' → Q v H'
def spCond : Sp := fun vs H Q _ => ∃ (t c L : Addr) (cs : List Int) (cols : List Col), vs = [.ref t, .ref L] ∧ TapeAt H t c cs ∧ ColsAt H L cols ∧ 0 < cols.length ∧ cols.length ≤ 100 ∧
  ∀ v cond H', Tp H' v (condD cond) → (∀ a ∈ cond, ∀ cl ∈ a, ClOk cols cl) → cond.length ≤ 4 → (∀ a ∈ cond, a.length ≤ 4) → TapeAt H' t c cs → SameX t H H' → Q v H'
theorem at_ofN {α : Type} {xs : List α} {z : Int} {j : Nat} {v : α} (e : z = (j : Int)) (h : xs[j]? = some v) : atI xs z = some v := by rw [e]; exact atI_nat h
theorem getD_some {vs : List V} {i : Nat} {v : V} (h : vs[i]? = some v) : vs.getD i .non = v := by rw [List.getD_eq_getElem?_getD, h]; rfl
theorem fit_of {cols : List Col} {row : List V} (nd : (colNs cols).Nodup) (hl : row.length = cols.length) (hv : ∀ (i : Nat) (col : Col) (v : V), cols[i]? = some col → row[i]? = some v → ValOf col.k col.b v) {cl : Cl} (h : ClOk cols cl) : ClFit (colNs cols) row cl := by
  obtain ⟨_, col, hc, e, h⟩ := h
  have hn : cl.n ∈ colNs cols := by rw [e]; exact List.mem_map.mpr ⟨col, hc, rfl⟩
  refine ⟨hn, ?_⟩
  rcases h with ⟨h, _⟩ | ⟨_, hw⟩
  · rcases h with h | h
    · exact .inl h
    · exact .inr (.inl h)
  · obtain ⟨j, e1, e2, e3, _⟩ := idx_str hn
    have hj : j < cols.length := by unfold colNs at e2; rwa [List.length_map] at e2
    have ec : cols[j]? = some cols[j] := List.getElem?_eq_getElem hj
    have en : cols[j].n = col.n := by
      unfold colNs at e3
      rw [List.getElem?_map, ec] at e3
      exact (Option.some.inj e3).trans e
    have eq : cols[j] = col := by
      obtain ⟨i, hi, ei⟩ := List.getElem_of_mem hc
      have a1 : (colNs cols)[i]? = some col.n := by unfold colNs; rw [List.getElem?_map, List.getElem?_eq_getElem hi, ei]; rfl
      have a2 : (colNs cols)[j]? = some col.n := by unfold colNs; rw [List.getElem?_map, ec]; exact congrArg some en
      have := nd_ix nd a1 a2
      subst this
      exact ei
    have er : row[j]? = some row[j] := List.getElem?_eq_getElem (by omega)
    have ea : at_ (colNs cols) row cl.n = row[j] := by unfold at_; rw [← e1]; exact getD_some er
    rw [ea]
    have := (hv j col row[j] (by rw [ec, eq]) er).alike hw
    exact .inr (.inr this)
theorem alike_self {v w : V} (h : Alike v w) : Alike v v := by
  rcases h with ⟨a, b, rfl, rfl⟩ | ⟨a, b, rfl, rfl⟩
  · exact .inl ⟨a, a, rfl, rfl⟩
  · exact .inr ⟨a, a, rfl, rfl⟩
theorem cut_tail (xs : List V) : cutV xs (some 1) none = xs.drop 1 := by
  unfold cutV
  have e1 : HT.sIx xs.length 0 (some 1) = min 1 xs.length := HT.sIx_nat _ _ 1
  have e2 : HT.sIx xs.length xs.length none = xs.length := rfl
  rw [e1, e2]
  cases xs with
  | nil => rfl
  | cons x r =>
    have e3 : min 1 (x :: r).length = 1 := by rw [List.length_cons]; omega
    rw [e3, List.take_of_length_le (by rw [List.length_drop]; omega)]
end Lt

set_option autoImplicit false
namespace Lt
open PySem L2 TL
open C8 (pss_cut)
/-! ## numbers as texts -/
theorem takes_no {X : Cx} : Takes X (fun _ _ _ _ => False) := fun u s' h => by
  obtain ⟨_, _, _, _, _, _, _, _, _, _, _, _, _, _, _, _, bad⟩ := h
  exact bad.elim
def dgL (L : List Nat) : List Nat := if L.head? = some 45 then L.tail else L
def numI (L : List Nat) : Int := if L.head? = some 45 then -((NumText.digitsVal (dgL L) : Nat) : Int) else ((NumText.digitsVal (dgL L) : Nat) : Int)
def shape (L : List Nat) : Prop := dgL L ≠ [] ∧ (dgL L).length ≤ 9 ∧ NumText.AllDigits (dgL L)
def canon (L : List Nat) : Prop := shape L ∧ ((dgL L).head? = some 48 → L = [48])
instance (l : List Nat) : Decidable (NumText.AllDigits l) := by unfold NumText.AllDigits; exact inferInstance
instance (L : List Nat) : Decidable (shape L) := by unfold shape; exact inferInstance
instance (L : List Nat) : Decidable (canon L) := by unfold canon; exact inferInstance
theorem val_snoc (l : List Nat) (d : Nat) : NumText.digitsVal (l ++ [d]) = NumText.digitsVal l * 10 + (d - 48) := by
  unfold NumText.digitsVal
  rw [List.foldl_append]
  rfl
theorem fold_pos : ∀ (l : List Nat) (a : Nat), 1 ≤ a → 1 ≤ l.foldl (fun acc c => acc * 10 + (c - 48)) a
  | [], a, h => h
  | c :: r, a, h => fold_pos r (a * 10 + (c - 48)) (by omega)
theorem val_pos {l : List Nat} (h : NumText.AllDigits l) (hn : l ≠ []) (h0 : l.head? ≠ some 48) : 1 ≤ NumText.digitsVal l := by
  cases l with
  | nil => exact absurd rfl hn
  | cons c r =>
    have hc := h.head
    have : c ≠ 48 := fun e => h0 (by rw [e]; rfl)
    unfold NumText.digitsVal
    rw [List.foldl_cons]
    exact fold_pos r (0 * 10 + (c - 48)) (by omega)
theorem num_of : ∀ (n : Nat) (l : List Nat), l.length = n → NumText.AllDigits l → l ≠ [] → l.head? ≠ some 48 → numL (NumText.digitsVal l) = l := by
  intro n
  induction n with
  | zero => intro l hl _ hn; exact absurd (List.eq_nil_of_length_eq_zero hl) hn
  | succ n ih =>
    intro l hl h hn h0
    have e := List.dropLast_concat_getLast hn
    generalize l.getLast hn = d at e
    generalize l.dropLast = l' at e
    subst e
    have hd : 48 ≤ d ∧ d ≤ 57 := h d (by simp)
    rw [val_snoc]
    by_cases e0 : l' = []
    · subst e0
      have hd0 : d ≠ 48 := fun z => h0 (by rw [z]; rfl)
      have ev : NumText.digitsVal [] * 10 + (d - 48) = d - 48 := by show 0 * 10 + (d - 48) = d - 48; omega
      rw [ev, numL_lt (by omega)]
      show [48 + (d - 48)] = [d]
      rw [show 48 + (d - 48) = d by omega]
    · have h' : NumText.AllDigits l' := fun c hc => h c (List.mem_append.mpr (.inl hc))
      have h0' : l'.head? ≠ some 48 := by
        cases l' with
        | nil => exact absurd rfl e0
        | cons a r => exact h0
      have pos := val_pos h' e0 h0'
      have hl' : l'.length = n := by rw [List.length_append] at hl; simpa using hl
      rw [numL_step (by omega)]
      have e1 : (NumText.digitsVal l' * 10 + (d - 48)) / 10 = NumText.digitsVal l' := by omega
      have e2 : 48 + (NumText.digitsVal l' * 10 + (d - 48)) % 10 = d := by omega
      rw [e1, e2, ih l' hl' h' e0 h0']
theorem num_head (n : Nat) (h : 1 ≤ n) : (numL n).head? ≠ some 48 := by
  induction n using Nat.strongRecOn with
  | _ n ih =>
    by_cases h1 : n < 10
    · rw [numL_lt h1]
      intro e
      have := Option.some.inj e
      omega
    · rw [numL_step (by omega)]
      have := ih (n / 10) (by omega) (by omega)
      cases e : numL (n / 10) with
      | nil => exact absurd e (numL_ne _)
      | cons a r => rw [e] at this; exact this
theorem num_zero : numL 0 = [48] := numL_lt (by decide)
/-- the number written down again is the text exactly if the text is canonical -/
theorem canon_iff {L : List Nat} (h : shape L) : tl (Str.ofString (toString (numI L))) = L ↔ canon L := by
  obtain ⟨h1, h2, h3⟩ := id h
  rw [tl_int]
  by_cases hs : L.head? = some 45
  · have eL : L = 45 :: dgL L := by
      unfold dgL
      rw [if_pos hs]
      cases L with
      | nil => cases hs
      | cons a r => cases hs; rfl
    have en : numI L = -((NumText.digitsVal (dgL L) : Nat) : Int) := by unfold numI; rw [if_pos hs]
    rw [en]
    generalize hD : dgL L = D at *
    by_cases h0 : D.head? = some 48
    · have nc : ¬ canon L := fun c => by
        have := c.2 (by rw [hD]; exact h0)
        rw [this] at hs
        cases hs
      refine iff_of_false ?_ nc
      intro e
      by_cases hv : NumText.digitsVal D = 0
      · rw [hv] at e
        rw [if_neg (by decide)] at e
        have e' : numL 0 = L := e
        rw [num_zero] at e'
        rw [← e'] at hs
        cases hs
      · rw [if_pos (by omega), Int.natAbs_neg, Int.natAbs_natCast, eL] at e
        have e1 := (List.cons.inj e).2
        exact num_head _ (by omega) (e1 ▸ h0)
    · refine iff_of_true ?_ ⟨h, fun z => absurd (by rw [hD] at z; exact z) h0⟩
      have := val_pos h3 h1 h0
      rw [if_pos (by omega), Int.natAbs_neg, Int.natAbs_natCast, num_of _ D rfl h3 h1 h0]
      exact eL.symm
  · have eL : dgL L = L := by unfold dgL; rw [if_neg hs]
    have en : numI L = ((NumText.digitsVal L : Nat) : Int) := by unfold numI; rw [if_neg hs, eL]
    rw [en, if_neg (by omega), Int.natAbs_natCast]
    unfold canon
    rw [eL] at h1 h2 h3 ⊢
    by_cases h0 : L.head? = some 48
    · constructor
      · intro e
        refine ⟨h, fun _ => ?_⟩
        by_cases hv : NumText.digitsVal L = 0
        · rw [hv, num_zero] at e; exact e.symm
        · exact absurd (e ▸ h0) (num_head _ (by omega))
      · rintro ⟨_, c⟩
        rw [c h0]
        decide +kernel
    · exact iff_of_true (num_of _ L rfl h3 h1 h0) ⟨h, fun z => absurd z h0⟩
theorem int_of {z : Str} (h : shape (tl z)) : intText? z = some (numI (tl z)) := by
  obtain ⟨h1, h2, h3⟩ := id h
  by_cases hs : (tl z).head? = some 45
  · have eL : tl z = 45 :: dgL (tl z) := by
      unfold dgL
      rw [if_pos hs]
      cases e : tl z with
      | nil => rw [e] at hs; cases hs
      | cons a r => rw [e] at hs; cases hs; rfl
    have l : z.length ≤ 4300 := by rw [len_tl, eL, List.length_cons]; omega
    have e := intText_neg (x := z) eL h3 h1 l
    rw [e]
    unfold numI
    rw [if_pos hs]
  · have eL : dgL (tl z) = tl z := by unfold dgL; rw [if_neg hs]
    rw [eL] at h1 h2 h3
    have e := intText_digits (x := z) h3 h1 (by rw [len_tl]; omega)
    rw [e]
    unfold numI
    rw [if_neg hs, eL]
theorem len_shape {z : Str} (h : shape (tl z)) : z.length ≤ 10 := by
  obtain ⟨_, h2, _⟩ := h
  rw [len_tl]
  unfold dgL at h2
  split at h2
  · rw [List.length_tail] at h2; omega
  · omega
theorem small_num {L : List Nat} (h : shape L) : -999999999 ≤ numI L ∧ numI L ≤ 999999999 := by
  obtain ⟨_, h2, h3⟩ := h
  have b : ∀ (l : List Nat), NumText.AllDigits l → NumText.digitsVal l < 10 ^ l.length := by
    intro l
    have g : ∀ (n : Nat) (l : List Nat), l.length = n → NumText.AllDigits l → NumText.digitsVal l < 10 ^ n := by
      intro n
      induction n with
      | zero => intro l hl _; rw [List.eq_nil_of_length_eq_zero hl]; decide
      | succ n ih =>
        intro l hl h
        have hn : l ≠ [] := by intro z; rw [z] at hl; cases hl
        have e := List.dropLast_concat_getLast hn
        generalize l.getLast hn = d at e
        generalize l.dropLast = l' at e
        subst e
        have hd : 48 ≤ d ∧ d ≤ 57 := h d (by simp)
        have hl' : l'.length = n := by rw [List.length_append] at hl; simpa using hl
        have := ih l' hl' (fun c hc => h c (List.mem_append.mpr (.inl hc)))
        rw [val_snoc, Nat.pow_succ]
        omega
    exact g l.length l rfl
  have h4 := b _ h3
  have h5 : (10 : Nat) ^ (dgL L).length ≤ 10 ^ 9 := Nat.pow_le_pow_right (by decide) h2
  have h6 : NumText.digitsVal (dgL L) ≤ 999999999 := by
    have : (10 : Nat) ^ 9 = 1000000000 := by decide
    omega
  unfold numI
  split <;> omega
theorem dec_ascii : ∀ c : Nat, c < 127 → Unicode.isDecimal c = decide (48 ≤ c ∧ c ≤ 57) := by decide +kernel
theorem isdec {z : Str} (h : ∀ c ∈ tl z, chOk c) : Txt.isdecimal z = decide (tl z ≠ [] ∧ NumText.AllDigits (tl z)) := by
  unfold PySem.Txt.isdecimal
  rw [← Array.all_toList, Bool.eq_iff_iff, Bool.and_eq_true, decide_eq_true_iff, List.all_eq_true, decide_eq_true_iff]
  have e : z.length = (tl z).length := len_tl z
  constructor
  · rintro ⟨a, b⟩
    refine ⟨fun z0 => by rw [z0] at e; simp at e; omega, fun c hc => ?_⟩
    have := b c hc
    rw [dec_ascii c (by have := (h c hc).2.1; omega)] at this
    exact of_decide_eq_true this
  · rintro ⟨a, b⟩
    refine ⟨by have := List.length_pos_iff.mpr a; omega, fun c hc => ?_⟩
    rw [dec_ascii c (by have := (h c hc).2.1; omega)]
    exact decide_eq_true (b c hc)
theorem tl_dash : tl ("-" : Str) = [45] := by decide +kernel
theorem tl_remove (z : Str) : tl (Txt.removeprefix z ("-" : Str)) = dgL (tl z) := by
  have l1 : ("-" : Str).length = 1 := by decide +kernel
  have hsub : Builtin.Str.subAt z ("-" : Str) 0 = decide ((tl z).head? = some 45) := by
    rw [PySem.StrLaws.subAt_eq, l1, List.drop_zero]
    show ((tl z).take 1 == tl ("-" : Str)) = _
    rw [tl_dash]
    cases e : tl z with
    | nil => simp
    | cons a r =>
      by_cases h : a = 45
      · subst h; rfl
      · simp [h]
  unfold PySem.Txt.removeprefix PySem.Txt.affix dgL
  rw [hsub, l1]
  by_cases h : (tl z).head? = some 45
  · rw [if_pos (decide_eq_true h), if_pos h]
    have hp : 0 < z.length := by
      rw [len_tl]
      cases e : tl z with
      | nil => rw [e] at h; cases h
      | cons a r => simp
    have ne : (z.length - 1 == z.length) = false := by simp; omega
    show tl (if (z.length - 1 == z.length) = true then z else Builtin.Str.strSub z 1 z.length) = _
    rw [ne, if_neg Bool.false_ne_true, tl_strSub, List.take_of_length_le (by rw [List.length_drop, len_tl]; omega)]
    exact List.drop_one
  · rw [if_neg (by simpa using h), if_neg h]
theorem tl_cut1 (z : Str) : tl (cutS z none (some 1)) = (tl z).take 1 := by
  have e : tl (cutS z none (some 1)) = ((tl z).drop (HT.sIx z.length 0 none)).take (HT.sIx z.length z.length (some 1) - HT.sIx z.length 0 none) := by simp [tl, cutS]
  have e1 : HT.sIx z.length z.length (some 1) = min 1 z.length := HT.sIx_nat _ _ 1
  rw [e, e1]
  show ((tl z).drop 0).take (min 1 z.length - 0) = _
  rw [List.drop_zero, Nat.sub_zero, len_tl]
  cases tl z with
  | nil => rfl
  | cons a r => rw [show min 1 (a :: r).length = 1 by rw [List.length_cons]; omega]
theorem tl_cut2 (z : Str) : tl (cutS z (some 1) none) = (tl z).drop 1 := by
  have e : tl (cutS z (some 1) none) = ((tl z).drop (HT.sIx z.length 0 (some 1))).take (HT.sIx z.length z.length none - HT.sIx z.length 0 (some 1)) := by simp [tl, cutS]
  have e1 : HT.sIx z.length 0 (some 1) = min 1 z.length := HT.sIx_nat _ _ 1
  rw [e, e1]
  show ((tl z).drop (min 1 z.length)).take (z.length - min 1 z.length) = _
  rw [len_tl]
  cases tl z with
  | nil => rfl
  | cons a r =>
    rw [show min 1 (a :: r).length = 1 by rw [List.length_cons]; omega, List.take_of_length_le (by rw [List.length_drop]; omega)]
theorem first_dash (z : Str) : (cutS z none (some 1) = ("-" : Str)) ↔ (tl z).head? = some 45 := by
  constructor
  · intro e
    have e1 := congrArg tl e
    rw [tl_cut1, tl_dash] at e1
    cases h : tl z with
    | nil => rw [h] at e1; cases e1
    | cons a r => rw [h] at e1; simp at e1; rw [e1]; rfl
  · intro e
    refine ext_tl ?_
    rw [tl_cut1, tl_dash]
    cases h : tl z with
    | nil => rw [h] at e; cases e
    | cons a r => rw [h] at e; cases e; rfl
theorem digit_in : ∀ k : Nat, k < 10 → Txt.index0 ("0123456789" : Str) (one (48 + k)) = some k := by decide +kernel
theorem digits_tl : ∀ c : Nat, c < 127 → (c ∈ ("0123456789" : Str).cps.toList ↔ (48 ≤ c ∧ c ≤ 57)) := by decide +kernel
end Lt

set_option autoImplicit false
namespace Lt
open PySem L2 TL
open C8 (pss_cut)
/-! ## walks within comprehensions; tuples cut and joined; data that are the same -/
theorem inner {J : It} {n : Nat} {G : Hp → Prop} {Y : Nat → Hp → V → Hp → Prop} (wk : Walk J n G Y) {B : V → Hp → (Hp → Prop) → Prop} {Ha : Hp} {Nx : Hp → Prop} (Pv : Nat → Hp → Prop)
    (h0 : Pv 0 Ha) (hG : ∀ i Hb, i ≤ n → Pv i Hb → G Hb) (hs : ∀ i x Hb Hc, i < n → Pv i Hb → Y i Hb x Hc → B x Hc (Pv (i + 1))) (hd : ∀ Hb, Pv n Hb → Nx Hb) :
    ∃ W : Nat → Nat → Hp → Prop, (∃ m, W 0 m Ha) ∧ ∀ j k Hb, W j k Hb → (J.stop j Hb ∧ Nx Hb) ∨ (J.go j Hb ∧ ∃ N : Hp → Prop, (∀ Hc, N Hc → ∃ k', k' < k ∧ W (j + 1) k' Hc) ∧ ∀ x Hc, J.yld j Hb x Hc → B x Hc N) := by
  refine ⟨fun j left Hb => left + j = n ∧ Pv j Hb, ⟨n, Nat.add_zero n, h0⟩, fun j left Hb hw => ?_⟩
  obtain ⟨e, p⟩ := hw
  have g := hG j Hb (by omega) p
  rcases Nat.eq_zero_or_pos left with z | z
  · have ej : j = n := by omega
    subst ej
    exact .inl ⟨wk.stops Hb g, hd Hb p⟩
  · have lt : j < n := by omega
    exact .inr ⟨wk.goes j Hb lt g, Pv (j + 1), fun Hc pc => ⟨left - 1, by omega, by omega, pc⟩, fun x Hc y => hs j x Hb Hc lt p (wk.yields j Hb x Hc lt g y)⟩
def rTup (K : PySem.W.Frag) : List V → Hp → VK → Prop := fun xs H Q => ∃ p ys, xs = [.ref p] ∧ ((SqL K H p ys ∧ ∀ l, H l = none → Q (.ref l) (upd H l (.tup ys))) ∨ (SqT K H p ys ∧ Q (.ref p) H))
theorem ct {X : Cx} : CallR X (.type "tuple") (rTup X.K) := call_tuple_of
theorem cat_any {K : PySem.W.Frag} {H : Hp} {Q : VK} {a b : Addr} {xs ys : List V} (ha : H a = some (.tup xs)) (hb : H b = some (.tup ys)) (hl : xs.length + ys.length ≤ 1000)
    (q : ∀ p H', H' p = some (.tup (xs ++ ys)) → Same H H' → Q (.ref p) H') : rCatA K (.ref a) (.ref b) H Q := by
  refine ⟨a, b, xs, ys, rfl, rfl, SqT.of ha, SqT.of hb, Nat.le_of_lt (small1000 hl), fun e => ?_, fun _ e => ?_, fun _ _ p hp => q p _ upd_same (same_new hp _)⟩
  · subst e; exact q b H hb (Same.refl _)
  · subst e; exact q a H (by rw [List.append_nil]; exact ha) (Same.refl _)
theorem cut_any {K : PySem.W.Frag} {H : Hp} {Q : VK} {a : Addr} {xs : List V} {lo hi : Option Int} (ha : H a = some (.tup xs))
    (q : ∀ p H', H' p = some (.tup (cutV xs lo hi)) → Same H H' → Q (.ref p) H') : rSlA K (.ref a) lo hi H Q := by
  refine ⟨a, xs, rfl, SqT.of ha, fun e => ?_, fun _ p hp => q p _ upd_same (same_new hp _)⟩
  refine q a H ?_ (Same.refl _)
  rw [ha]
  unfold cutV
  rw [e.1, e.2, List.drop_zero, Nat.sub_zero, List.take_length]
theorem cut_front (xs : List V) (j : Nat) (h : j ≤ xs.length) : cutV xs none (some (j : Int)) = xs.take j := by
  unfold cutV
  rw [HT.sIx_nat, HT.sIx_none, List.drop_zero, Nat.sub_zero, Nat.min_eq_left h]
theorem cut_back (xs : List V) (j : Nat) (h : j ≤ xs.length) : cutV xs (some (j : Int)) none = xs.drop j := by
  unfold cutV
  rw [HT.sIx_nat, HT.sIx_none, Nat.min_eq_left h, List.take_of_length_le (by rw [List.length_drop]; omega)]
theorem TpL.take {H : Hp} : ∀ {ds : List D} {vs : List V} (n : Nat), TpL H vs ds → TpL H (vs.take n) (ds.take n)
  | _, _, 0, _ => .nil
  | [], _, n + 1, h => by cases h; exact .nil
  | d :: ds, _, n + 1, h => by cases h with | cons h r => exact .cons h (TpL.take n r)
theorem TpL.drop {H : Hp} : ∀ {ds : List D} {vs : List V} (n : Nat), TpL H vs ds → TpL H (vs.drop n) (ds.drop n)
  | _, _, 0, h => h
  | [], _, n + 1, h => by cases h; exact .nil
  | d :: ds, _, n + 1, h => by cases h with | cons h r => exact TpL.drop n r
theorem TpL.app {H : Hp} : ∀ {ds es : List D} {vs ws : List V}, TpL H vs ds → TpL H ws es → TpL H (vs ++ ws) (ds ++ es)
  | [], _, _, _, h, g => by cases h; exact g
  | d :: ds, _, _, _, h, g => by cases h with | cons h r => exact .cons h (TpL.app r g)
/-- two that bear the same data -/
theorem same_t {K : PySem.W.Frag} {H : Hp} {n : Nat} {v w : V} {ds : List D} (h : Tp H v (.t ds)) (g : Tp H w (.t ds)) (hl : ds.length ≤ 1000) (e : ∀ d ∈ ds, ∀ x y, Tp H x d → Tp H y d → SameV K H n x y) : SameV K H (n + 1) v w := by
  obtain ⟨a, xs, rfl, ha, ra⟩ := t_at h
  obtain ⟨b, ys, rfl, hb, rb⟩ := t_at g
  refine Or.inr (Or.inr ⟨a, b, xs, ys, rfl, rfl, ha, hb, by rw [ra.length, rb.length], by rw [ra.length]; exact hl, fun i u v hu hv => ?_⟩)
  obtain ⟨d, e1, e2⟩ := ra.get hu
  obtain ⟨d', e3, e4⟩ := rb.get hv
  rw [e1] at e3
  cases e3
  exact e d (List.mem_of_getElem? e1) u v e2 e4
theorem same_s {K : PySem.W.Frag} {H : Hp} {n : Nat} {v w x : V} (h : Tp H v (.s x)) (g : Tp H w (.s x)) : SameV K H (n + 1) v w := by
  cases h with
  | s h => cases g with | s g => exact SameV.sc h
theorem same_cl {K : PySem.W.Frag} {H : Hp} {n : Nat} {v w : V} {c : Cl} (h : Tp H v (clD c)) (g : Tp H w (clD c)) : SameV K H (n + 2) v w := by
  refine same_t h g (by show 3 ≤ 1000; decide) fun d hd x y hx hy => ?_
  simp only [List.mem_cons, List.not_mem_nil, or_false] at hd
  rcases hd with rfl | rfl | rfl <;> exact same_s hx hy
theorem same_cond {K : PySem.W.Frag} {H : Hp} {n : Nat} {v w : V} {c : Cond} (h : Tp H v (condD c)) (g : Tp H w (condD c)) (h1 : c.length ≤ 1000) (h2 : ∀ a ∈ c, a.length ≤ 1000) : SameV K H (n + 4) v w := by
  refine same_t h g (by rw [List.length_map]; exact h1) fun d hd x y hx hy => ?_
  obtain ⟨a, ha, rfl⟩ := List.mem_map.mp hd
  refine same_t hx hy (by rw [List.length_map]; exact h2 a ha) fun d hd x y hx hy => ?_
  obtain ⟨cl, _, rfl⟩ := List.mem_map.mp hd
  exact same_cl hx hy
/-! ### what conditions mention; renaming -/
def mentM (n : Str) (c : Cond) : Bool := c.any fun a => a.any fun cl => decide (cl.n = n)
def renCl (o n : Str) (cl : Cl) : Cl := if cl.n = o then ⟨n, cl.op, cl.v⟩ else cl
def renM (o n : Str) (c : Cond) : Cond := c.map fun a => a.map (renCl o n)
/-- any, all of one list after another -/
def flat (c : Cond) : List Cl := c.flatten
theorem any_flat (c : Cond) (f : Cl → Bool) : (c.flatten).any f = c.any fun a => a.any f := by
  induction c with
  | nil => rfl
  | cons a r ih => rw [List.flatten_cons, List.any_append, List.any_cons, ih]
theorem all_flat (c : Cond) (f : Cl → Bool) : (c.flatten).all f = c.all fun a => a.all f := by
  induction c with
  | nil => rfl
  | cons a r ih => rw [List.flatten_cons, List.all_append, List.all_cons, ih]
theorem flat_step {c : Cond} {i j : Nat} {a : List Cl} {x : Cl} (h : c[i]? = some a) (g : a[j]? = some x) : (c.take i).flatten ++ a.take (j + 1) = ((c.take i).flatten ++ a.take j) ++ [x] := by
  rw [List.take_add_one, g, List.append_assoc]; rfl
theorem flat_next {c : Cond} {i : Nat} {a : List Cl} (h : c[i]? = some a) : (c.take (i + 1)).flatten = (c.take i).flatten ++ a := by
  rw [List.take_add_one, h, List.flatten_append]
  simp
theorem map2_snoc {α β γ : Type} (f : α → β) (g : β → γ) (l : List α) (x : α) : ((l ++ [x]).map f).map g = (l.map f).map g ++ [g (f x)] := by simp
/-- a value that a clause may bear -/
def ClG (cl : Cl) : Prop := cl.v = .non ∨ (∃ i : Int, cl.v = .int i ∧ -999999999 ≤ i ∧ i ≤ 999999999) ∨ ∃ z : Str, cl.v = .str z ∧ z.length ≤ 30 ∧ ∀ c ∈ tl z, chOk c
theorem ClG.scal {cl : Cl} (h : ClG cl) : isScal cl.v = true := by
  rcases h with e | ⟨i, e, _⟩ | ⟨z, e, _⟩ <;> rw [e] <;> rfl
theorem ClOk.g {cols : List Col} {cl : Cl} (h : ClOk cols cl) : ClG cl := by
  obtain ⟨_, col, _, _, ⟨_, e⟩ | ⟨_, e⟩⟩ := h
  · exact .inl e
  · rcases e with ⟨e, _⟩ | ⟨_, i, e, h1, h2⟩ | ⟨_, z, e, h1, h2⟩
    · cases e
    · exact .inr (.inl ⟨i, e, h1, h2⟩)
    · exact .inr (.inr ⟨z, e, h1, h2⟩)
theorem ClG.thing {cl : Cl} {H : Hp} (h : ClG cl) : Thing H cl.v := by
  rcases h with e | ⟨i, e, _⟩ | ⟨z, e, h1, _⟩ <;> rw [e]
  · exact .non
  · exact .int i
  · exact .str z (by omega)
/-- fits_kind -/
def fitsK (v : V) (k : Str) (b : Bool) : Bool := if v = .non then b else goodV v && decide (kindOf v = k)
def spFitsKind : Sp := fun vs H Q _ => ∃ (v : V) (k : Str) (b : Bool), vs = [v, .str k, .bl b] ∧ Thing H v ∧ ∀ H', Same H H' → Q (.bl (fitsK v k b)) H'
/-- the kind of the column called n -/
def kindAt (cols : List Col) (n : Str) : Str := (cols.map (·.k)).getD ((colNs cols).idxOf n) ""
def clFits (cols : List Col) (cl : Cl) : Bool := decide (cl.n ∈ colNs cols) && fitsK cl.v (kindAt cols cl.n) true
def fitsM (cols : List Col) (c : Cond) : Bool := c.all fun a => a.all (clFits cols)
def kindsD (cols : List Col) : List (Key × V) := cols.map fun c => ((Sum.inr c.n : Key), V.str c.k)
theorem kinds_get : ∀ (cols : List Col) (n : Str), valV (kindsD cols) (Sum.inr n : Key) = if n ∈ colNs cols then some (.str (kindAt cols n)) else none
  | [], n => by simp [kindsD, colNs, valV]
  | c :: r, n => by
    have ih := kinds_get r n
    by_cases h : c.n = n
    · have e1 : valV (kindsD (c :: r)) (Sum.inr n : Key) = some (.str c.k) := by
        show valV ((((Sum.inr c.n : Key), V.str c.k)) :: kindsD r) _ = _
        rw [valV_pos (by rw [h])]
      have e2 : n ∈ colNs (c :: r) := by rw [← h]; exact List.mem_cons_self
      have e3 : kindAt (c :: r) n = c.k := by
        unfold kindAt colNs
        rw [List.map_cons, List.map_cons, List.idxOf_cons, h, beq_self_eq_true]
        rfl
      rw [e1, if_pos e2, e3]
    · have e1 : valV (kindsD (c :: r)) (Sum.inr n : Key) = valV (kindsD r) (Sum.inr n) := by
        show valV ((((Sum.inr c.n : Key), V.str c.k)) :: kindsD r) _ = _
        rw [valV_neg (fun z => h (Sum.inr.inj z))]
      have e2 : (n ∈ colNs (c :: r)) ↔ n ∈ colNs r := by
        unfold colNs
        rw [List.map_cons, List.mem_cons]
        exact ⟨fun z => z.resolve_left (fun w => h w.symm), .inr⟩
      have e3 : kindAt (c :: r) n = kindAt r n := by
        unfold kindAt colNs
        rw [List.map_cons, List.map_cons, List.idxOf_cons, beq_false_of_ne h]
        rfl
      rw [e1, ih, e3]
      by_cases g : n ∈ colNs r
      · rw [if_pos g, if_pos (e2.mpr g)]
      · rw [if_neg g, if_neg (fun z => g (e2.mp z))]
theorem kinds_put {cols : List Col} (nd : (colNs cols).Nodup) {i : Nat} {c : Col} (h : cols[i]? = some c) : putK (kindsD (cols.take i)) (Sum.inr c.n : Key) (.str c.k) = kindsD (cols.take (i + 1)) := by
  have hno : valV (kindsD (cols.take i)) (Sum.inr c.n : Key) = none := by
    rw [kinds_get, if_neg]
    intro hm
    unfold colNs at hm
    obtain ⟨d, hd, e⟩ := List.mem_map.mp hm
    obtain ⟨j, hj, ej⟩ := List.getElem_of_mem hd
    rw [List.length_take] at hj
    rw [List.getElem_take] at ej
    have a1 : (colNs cols)[j]? = some c.n := by unfold colNs; rw [List.getElem?_map, List.getElem?_eq_getElem (by omega), ej]; exact congrArg some e
    have a2 : (colNs cols)[i]? = some c.n := by unfold colNs; rw [List.getElem?_map, h]; rfl
    have := nd_ix nd a1 a2
    omega
  rw [putK_new _ hno, List.take_add_one, h]
  unfold kindsD
  rw [List.map_append]
  rfl
end Lt

set_option autoImplicit false
namespace Lt
open PySem L2 TL
open C8 (pss_cut)
/-! ## data of any form: tuples, lists, dicts, nested -/
inductive G where
  | s (v : V)
  | t (gs : List G)
  | l (gs : List G)
  | d (ks : List (Key × G))
mutual
/-- v bears the data g; the lists and dicts of it stand at the addresses D -/
inductive Gp (H : Hp) : V → G → List Addr → Prop
  | s {v : V} (h : isScal v = true) : Gp H v (.s v) []
  | t {a : Addr} {xs : List V} {gs : List G} {D : List Addr} (h : H a = some (.tup xs)) (n : xs.length ≤ 1000) (r : GpL H xs gs D) : Gp H (.ref a) (.t gs) D
  | l {a : Addr} {xs : List V} {gs : List G} {D : List Addr} (h : H a = some (.lst xs)) (n : xs.length ≤ 1000) (r : GpL H xs gs D) : Gp H (.ref a) (.l gs) (a :: D)
  | d {a : Addr} {kvs : List (Key × V)} {kgs : List (Key × G)} {D : List Addr} (h : H a = some (.dK kvs)) (n : kvs.length ≤ 1000) (nd : (kvs.map (·.1)).Nodup) (r : GpK H kvs kgs D) (f : a ∉ D) : Gp H (.ref a) (.d kgs) (a :: D)
inductive GpL (H : Hp) : List V → List G → List Addr → Prop
  | nil : GpL H [] [] []
  | cons {v : V} {g : G} {vs : List V} {gs : List G} {D E : List Addr} (h : Gp H v g D) (r : GpL H vs gs E) : GpL H (v :: vs) (g :: gs) (D ++ E)
inductive GpK (H : Hp) : List (Key × V) → List (Key × G) → List Addr → Prop
  | nil : GpK H [] [] []
  | cons {k : Key} {v : V} {g : G} {vs : List (Key × V)} {gs : List (Key × G)} {D E : List Addr} (h : Gp H v g D) (r : GpK H vs gs E) : GpK H ((k, v) :: vs) ((k, g) :: gs) (D ++ E)
end
mutual
def G.dep : G → Nat
  | .s _ => 0
  | .t gs => depL gs + 1
  | .l gs => depL gs + 1
  | .d ks => depK ks + 1
def depL : List G → Nat
  | [] => 0
  | g :: gs => max g.dep (depL gs)
def depK : List (Key × G) → Nat
  | [] => 0
  | (_, g) :: gs => max g.dep (depK gs)
end
theorem depL_mem : ∀ {gs : List G} {g : G}, g ∈ gs → g.dep ≤ depL gs
  | x :: r, g, h => by
    simp only [depL]
    rcases List.mem_cons.mp h with rfl | h
    · omega
    · have := depL_mem h; omega
theorem depK_mem : ∀ {ks : List (Key × G)} {k : Key} {g : G}, (k, g) ∈ ks → g.dep ≤ depK ks
  | (k', x) :: r, k, g, h => by
    simp only [depK]
    rcases List.mem_cons.mp h with e | h
    · cases e; omega
    · have := depK_mem h; omega
mutual
theorem Gp.frame {H H' : Hp} (kt : KeepT H H') : ∀ {g : G} {v : V} {D : List Addr}, Gp H v g D → (∀ b ∈ D, ∀ o, H b = some o → H' b = some o) → Gp H' v g D
  | .s _, _, _, h, _ => by cases h with | s h => exact .s h
  | .t gs, _, _, h, hd => by cases h with | t h n r => exact .t (kt _ _ h) n (GpL.frame kt r hd)
  | .l gs, _, _, h, hd => by cases h with | l h n r => exact .l (hd _ List.mem_cons_self _ h) n (GpL.frame kt r fun b hb => hd b (List.mem_cons_of_mem _ hb))
  | .d ks, _, _, h, hd => by cases h with | d h n nd r f => exact .d (hd _ List.mem_cons_self _ h) n nd (GpK.frame kt r fun b hb => hd b (List.mem_cons_of_mem _ hb)) f
theorem GpL.frame {H H' : Hp} (kt : KeepT H H') : ∀ {gs : List G} {vs : List V} {D : List Addr}, GpL H vs gs D → (∀ b ∈ D, ∀ o, H b = some o → H' b = some o) → GpL H' vs gs D
  | [], _, _, h, _ => by cases h; exact .nil
  | g :: gs, _, _, h, hd => by cases h with | cons h r => exact .cons (Gp.frame kt h fun b hb => hd b (List.mem_append.mpr (.inl hb))) (GpL.frame kt r fun b hb => hd b (List.mem_append.mpr (.inr hb)))
theorem GpK.frame {H H' : Hp} (kt : KeepT H H') : ∀ {gs : List (Key × G)} {vs : List (Key × V)} {D : List Addr}, GpK H vs gs D → (∀ b ∈ D, ∀ o, H b = some o → H' b = some o) → GpK H' vs gs D
  | [], _, _, h, _ => by cases h; exact .nil
  | (k, g) :: gs, _, _, h, hd => by cases h with | cons h r => exact .cons (Gp.frame kt h fun b hb => hd b (List.mem_append.mpr (.inl hb))) (GpK.frame kt r fun b hb => hd b (List.mem_append.mpr (.inr hb)))
end
theorem Gp.mono {H H' : Hp} {g : G} {v : V} {D : List Addr} (h : Gp H v g D) (e : Same H H') : Gp H' v g D := h.frame (KeepT.of e) fun b _ o z => e b o z
theorem GpL.mono {H H' : Hp} {g : List G} {v : List V} {D : List Addr} (h : GpL H v g D) (e : Same H H') : GpL H' v g D := h.frame (KeepT.of e) fun b _ o z => e b o z
theorem GpK.mono {H H' : Hp} {g : List (Key × G)} {v : List (Key × V)} {D : List Addr} (h : GpK H v g D) (e : Same H H') : GpK H' v g D := h.frame (KeepT.of e) fun b _ o z => e b o z
theorem GpL.length {H : Hp} : ∀ {gs : List G} {vs : List V} {D : List Addr}, GpL H vs gs D → vs.length = gs.length
  | [], _, _, h => by cases h; rfl
  | g :: gs, _, _, h => by cases h with | cons h r => rw [List.length_cons, List.length_cons, GpL.length r]
theorem GpL.get {H : Hp} : ∀ {gs : List G} {vs : List V} {D : List Addr} {i : Nat} {v : V}, GpL H vs gs D → vs[i]? = some v → ∃ g E, gs[i]? = some g ∧ Gp H v g E ∧ ∀ a ∈ E, a ∈ D
  | [], _, _, i, v, h, e => by cases h; simp at e
  | g :: gs, _, _, 0, v, h, e => by cases h with | cons h r => simp at e; subst e; exact ⟨g, _, rfl, h, fun a ha => List.mem_append.mpr (.inl ha)⟩
  | g :: gs, _, _, i + 1, v, h, e => by
    cases h with
    | cons h r =>
      obtain ⟨g', E, e1, e2, e3⟩ := GpL.get (i := i) r (by simpa using e)
      exact ⟨g', E, e1, e2, fun a ha => List.mem_append.mpr (.inr (e3 a ha))⟩
theorem GpK.get {H : Hp} : ∀ {gs : List (Key × G)} {vs : List (Key × V)} {D : List Addr} {i : Nat} {k : Key} {v : V}, GpK H vs gs D → vs[i]? = some (k, v) → ∃ g E, gs[i]? = some (k, g) ∧ Gp H v g E ∧ ∀ a ∈ E, a ∈ D
  | [], _, _, i, k, v, h, e => by cases h; simp at e
  | (k', g) :: gs, _, _, 0, k, v, h, e => by cases h with | cons h r => simp at e; obtain ⟨rfl, rfl⟩ := e; exact ⟨g, _, rfl, h, fun a ha => List.mem_append.mpr (.inl ha)⟩
  | (k', g) :: gs, _, _, i + 1, k, v, h, e => by
    cases h with
    | cons h r =>
      obtain ⟨g', E, e1, e2, e3⟩ := GpK.get (i := i) r (by simpa using e)
      exact ⟨g', E, e1, e2, fun a ha => List.mem_append.mpr (.inr (e3 a ha))⟩
theorem GpK.keys {H : Hp} : ∀ {gs : List (Key × G)} {vs : List (Key × V)} {D : List Addr}, GpK H vs gs D → vs.map (·.1) = gs.map (·.1)
  | [], _, _, h => by cases h; rfl
  | g :: gs, _, _, h => by cases h with | cons h r => rw [List.map_cons, List.map_cons, GpK.keys r]
theorem GpL.snoc {H : Hp} : ∀ {gs : List G} {vs : List V} {D E : List Addr} {v : V} {g : G}, GpL H vs gs D → Gp H v g E → GpL H (vs ++ [v]) (gs ++ [g]) (D ++ E)
  | [], _, _, E, v, g, h, q => by
    cases h
    have := GpL.cons q GpL.nil
    rw [List.append_nil] at this
    exact this
  | g0 :: gs, _, _, E, v, g, h, q => by
    cases h with
    | cons h r =>
      rw [List.append_assoc]
      exact .cons h (GpL.snoc r q)
theorem GpK.snoc {H : Hp} : ∀ {gs : List (Key × G)} {vs : List (Key × V)} {D E : List Addr} {k : Key} {v : V} {g : G}, GpK H vs gs D → Gp H v g E → GpK H (vs ++ [(k, v)]) (gs ++ [(k, g)]) (D ++ E)
  | [], _, _, E, k, v, g, h, q => by
    cases h
    have := GpK.cons (k := k) q GpK.nil
    rw [List.append_nil] at this
    exact this
  | g0 :: gs, _, _, E, k, v, g, h, q => by
    cases h with
    | cons h r =>
      rw [List.append_assoc]
      exact .cons h (GpK.snoc r q)
theorem valV_at : ∀ {kvs : List (Key × V)} {i : Nat} {k : Key} {v : V}, (kvs.map (·.1)).Nodup → kvs[i]? = some (k, v) → valV kvs k = some v
  | [], i, k, v, _, h => by simp at h
  | (k0, v0) :: r, 0, k, v, _, h => by simp at h; obtain ⟨rfl, rfl⟩ := h; exact valV_pos rfl
  | (k0, v0) :: r, i + 1, k, v, nd, h => by
    have h' : r[i]? = some (k, v) := by simpa using h
    rw [List.map_cons, List.nodup_cons] at nd
    have ne : ¬ k0 = k := fun e => nd.1 (by rw [e]; exact List.mem_map.mpr ⟨(k, v), List.mem_of_getElem? h', rfl⟩)
    rw [valV_neg ne]
    exact valV_at nd.2 h'
theorem upd_self {H : Hp} {a : Addr} {o : HO} (h : H a = some o) : upd H a o = H := by
  funext b
  by_cases e : b = a
  · subst e; rw [upd_same, h]
  · rw [upd_ne e]
theorem KeepT.lock {H : Hp} {a : Addr} {kvs : List (Key × V)} {o : HO} (h : H a = some (.dK kvs)) : KeepT H (L2.upd H a o) := KeepT.upd fun xs z => by rw [h] at z; cases z
/-- behind a lock -/
theorem Gp.locked {H : Hp} {g : G} {v : V} {D : List Addr} {b : Addr} {kvs : List (Key × V)} {o : HO} (h : Gp H v g D) (hb : H b = some (.dK kvs)) (n : b ∉ D) : Gp (upd H b o) v g D :=
  h.frame (KeepT.lock hb) fun c hc u z => by
    have ne : c ≠ b := fun e => by subst e; exact n hc
    rw [upd_ne ne]; exact z
theorem ty_ref {K : PySem.W.Frag} {H : Hp} {a : Addr} {o : HO} (h : H a = some o) : (∀ xs, o = .lst xs → TyX K H (.ref a) (.type "list")) ∧ (∀ xs, o = .tup xs → TyX K H (.ref a) (.type "tuple")) ∧ (∀ xs, o = .dK xs → TyX K H (.ref a) (.type "dict")) :=
  ⟨fun xs e => .base (.lst (by rw [h, e])), fun xs e => .base (.tup (by rw [h, e])), fun xs e => .base (.dK (by rw [h, e]))⟩
def spSameG (n : Nat) : Sp := fun vs H Q _ => ∃ x y g D E, vs = [x, y] ∧ Gp H x g D ∧ Gp H y g E ∧ (∀ a ∈ D, a ∉ E) ∧ g.dep < n ∧ Q (.bl true) H
def spItemsG (n : Nat) : Sp := fun vs H Q _ => ∃ (a b : Addr) (xs ys : List V) (gs : List G) (D E : List Addr), vs = [.ref a, .ref b] ∧ ((H a = some (.lst xs) ∧ H b = some (.lst ys)) ∨ (H a = some (.tup xs) ∧ H b = some (.tup ys))) ∧ xs.length ≤ 1000 ∧
  GpL H xs gs D ∧ GpL H ys gs E ∧ (∀ a ∈ D, a ∉ E) ∧ (∀ g ∈ gs, g.dep < n) ∧ Q (.bl true) H
def spCopyG (n : Nat) : Sp := fun vs H Q _ => ∃ x g D, vs = [x] ∧ Gp H x g D ∧ g.dep < n ∧ ∀ x' D' H', Gp H' x' g D' → Same H H' → (∀ a ∈ D', H a = none) → D'.Nodup → Q x' H'
mutual
theorem Gp.there {H : Hp} : ∀ {g : G} {v : V} {D : List Addr}, Gp H v g D → ∀ a ∈ D, H a ≠ none
  | .s _, _, _, h, a, ha => by cases h; cases ha
  | .t gs, _, _, h, a, ha => by cases h with | t h n r => exact GpL.there r a ha
  | .l gs, _, _, h, a, ha => by
    cases h with
    | l h n r =>
      rcases List.mem_cons.mp ha with rfl | ha
      · rw [h]; intro z; cases z
      · exact GpL.there r a ha
  | .d ks, _, _, h, a, ha => by
    cases h with
    | d h n nd r f =>
      rcases List.mem_cons.mp ha with rfl | ha
      · rw [h]; intro z; cases z
      · exact GpK.there r a ha
theorem GpL.there {H : Hp} : ∀ {g : List G} {v : List V} {D : List Addr}, GpL H v g D → ∀ a ∈ D, H a ≠ none
  | [], _, _, h, a, ha => by cases h; cases ha
  | g :: gs, _, _, h, a, ha => by
    cases h with
    | cons h r =>
      rcases List.mem_append.mp ha with ha | ha
      · exact Gp.there h a ha
      · exact GpL.there r a ha
theorem GpK.there {H : Hp} : ∀ {g : List (Key × G)} {v : List (Key × V)} {D : List Addr}, GpK H v g D → ∀ a ∈ D, H a ≠ none
  | [], _, _, h, a, ha => by cases h; cases ha
  | (k, g) :: gs, _, _, h, a, ha => by
    cases h with
    | cons h r =>
      rcases List.mem_append.mp ha with ha | ha
      · exact Gp.there h a ha
      · exact GpK.there r a ha
end
end Lt

set_option autoImplicit false
namespace Lt
open PySem L2 TL
open C8 (pss_cut)
/-! ## schemas as they stand in the heap -/
structure Tab where
  n : Str
  cols : List Col
  ch : List Cond
  un : List Str
  rf : List (Str × Str)
structure Ads where
  d : Addr
  c : Addr
  k : Addr
  u : Addr
  r : Addr
def rfD (p : Str × Str) : D := .t [.s (.str p.1), .s (.str p.2)]
theorem rf_at {H : Hp} {v : V} {p : Str × Str} (h : Tp H v (rfD p)) : ∃ a, v = .ref a ∧ H a = some (.tup [.str p.1, .str p.2]) := by
  obtain ⟨a, xs, rfl, h1, h2⟩ := t_at h
  cases h2 with
  | cons g r => cases g; cases r with
    | cons g r => cases g; cases r; exact ⟨a, rfl, h1⟩
theorem rf_mk {H : Hp} {a : Addr} {p : Str × Str} (h : H a = some (.tup [.str p.1, .str p.2])) : Tp H (.ref a) (rfD p) := .t h (.cons (.s rfl) (.cons (.s rfl) .nil))
theorem e_co_ch : ¬ ("columns" : Str) = ("checks" : Str) := by decide +kernel
theorem e_co_un : ¬ ("columns" : Str) = ("uniques" : Str) := by decide +kernel
theorem e_co_rf : ¬ ("columns" : Str) = ("references" : Str) := by decide +kernel
theorem e_ch_un : ¬ ("checks" : Str) = ("uniques" : Str) := by decide +kernel
theorem e_ch_rf : ¬ ("checks" : Str) = ("references" : Str) := by decide +kernel
theorem e_un_rf : ¬ ("uniques" : Str) = ("references" : Str) := by decide +kernel
def descD (a : Ads) : List (Key × V) := [(Sum.inr ("columns" : Str), .ref a.c), (Sum.inr ("checks" : Str), .ref a.k), (Sum.inr ("uniques" : Str), .ref a.u), (Sum.inr ("references" : Str), .ref a.r)]
theorem dd_c (a : Ads) : valV (descD a) (Sum.inr ("columns" : Str) : Key) = some (.ref a.c) := valV_pos rfl
theorem dd_k (a : Ads) : valV (descD a) (Sum.inr ("checks" : Str) : Key) = some (.ref a.k) := by unfold descD; rw [valV_neg (fun z => e_co_ch (Sum.inr.inj z)), valV_pos rfl]
theorem dd_u (a : Ads) : valV (descD a) (Sum.inr ("uniques" : Str) : Key) = some (.ref a.u) := by unfold descD; rw [valV_neg (fun z => e_co_un (Sum.inr.inj z)), valV_neg (fun z => e_ch_un (Sum.inr.inj z)), valV_pos rfl]
theorem dd_r (a : Ads) : valV (descD a) (Sum.inr ("references" : Str) : Key) = some (.ref a.r) := by unfold descD; rw [valV_neg (fun z => e_co_rf (Sum.inr.inj z)), valV_neg (fun z => e_ch_rf (Sum.inr.inj z)), valV_neg (fun z => e_un_rf (Sum.inr.inj z)), valV_pos rfl]
theorem merge_desc (a : Ads) : mergeK [] (descD a) = descD a := by
  simp [mergeK, putK, descD, e_co_ch, e_co_un, e_co_rf, e_ch_un, e_ch_rf, e_un_rf]
structure DescAt (H : Hp) (a : Ads) (t : Tab) : Prop where
  dk : H a.d = some (.dK (descD a))
  co : ColsAt H a.c t.cols
  ch : ∃ xs, H a.k = some (.lst xs) ∧ TpL H xs (t.ch.map condD)
  un : H a.u = some (.lst (t.un.map V.str))
  rf : ∃ xs, H a.r = some (.lst xs) ∧ TpL H xs (t.rf.map rfD)
def adL (a : Ads) : List Addr := [a.c, a.k, a.u, a.r]
theorem DescAt.frame {H H' : Hp} {a : Ads} {t : Tab} (h : DescAt H a t) (kt : KeepT H H') (kd : ∀ o, H a.d = some o → H' a.d = some o) (kl : ∀ b ∈ adL a, ∀ o, H b = some o → H' b = some o) : DescAt H' a t := by
  obtain ⟨h1, h2, ⟨xs, h3, h3'⟩, h4, ⟨ys, h5, h5'⟩⟩ := h
  refine ⟨kd _ h1, h2.mono kt (kl a.c (by simp [adL])), ⟨xs, kl a.k (by simp [adL]) _ h3, h3'.mono kt⟩, kl a.u (by simp [adL]) _ h4, ⟨ys, kl a.r (by simp [adL]) _ h5, h5'.mono kt⟩⟩
theorem DescAt.isL {H : Hp} {a : Ads} {t : Tab} (h : DescAt H a t) : ∀ b ∈ adL a, ∃ xs, H b = some (.lst xs) := by
  obtain ⟨h1, ⟨xs, h2, _⟩, ⟨ys, h3, _⟩, h4, ⟨zs, h5, _⟩⟩ := h
  intro b hb
  simp only [adL, List.mem_cons, List.not_mem_nil, or_false] at hb
  rcases hb with rfl | rfl | rfl | rfl
  · exact ⟨_, h2⟩
  · exact ⟨_, h3⟩
  · exact ⟨_, h4⟩
  · exact ⟨_, h5⟩
abbrev Sch := List (Ads × Tab)
def schK (s : Sch) : List (Key × V) := s.map fun p => ((Sum.inr p.2.n : Key), V.ref p.1.d)
def schN (s : Sch) : List Str := s.map fun p => p.2.n
def schL (s : Sch) : List Addr := s.flatMap fun p => adL p.1
structure SchAt (H : Hp) (S : Addr) (s : Sch) (t c : Addr) : Prop where
  sk : H S = some (.dK (schK s))
  ds : ∀ p ∈ s, DescAt H p.1 p.2
  nm : (schN s).Nodup
  dn : (t :: S :: s.map fun p => p.1.d).Nodup
  ln : (c :: schL s).Nodup
theorem sch_keys (s : Sch) : (schK s).map (·.1) = (schN s).map Sum.inr := by unfold schK schN; rw [List.map_map, List.map_map]; rfl
theorem sch_nd {s : Sch} (h : (schN s).Nodup) : ((schK s).map (·.1)).Nodup := by
  rw [sch_keys]
  exact List.Pairwise.map _ (fun a b e z => e (Sum.inr.inj z)) h
theorem sch_get {s : Sch} (h : (schN s).Nodup) {p : Ads × Tab} (hp : p ∈ s) : valV (schK s) (Sum.inr p.2.n : Key) = some (.ref p.1.d) := by
  obtain ⟨i, hi, e⟩ := List.getElem_of_mem hp
  refine valV_at (i := i) (sch_nd h) ?_
  unfold schK
  rw [List.getElem?_map, List.getElem?_eq_getElem hi, e]
  rfl
theorem sch_in {s : Sch} {n : Str} (h : n ∈ schN s) : ∃ p ∈ s, p.2.n = n := by
  obtain ⟨p, h1, h2⟩ := List.mem_map.mp h
  exact ⟨p, h1, h2⟩
theorem sch_one {s : Sch} (h : (schN s).Nodup) {p q : Ads × Tab} (hp : p ∈ s) (hq : q ∈ s) (e : p.2.n = q.2.n) : p = q := by
  obtain ⟨i, hi, ei⟩ := List.getElem_of_mem hp
  obtain ⟨j, hj, ej⟩ := List.getElem_of_mem hq
  have a1 : (schN s)[i]? = some p.2.n := by unfold schN; rw [List.getElem?_map, List.getElem?_eq_getElem hi, ei]; rfl
  have a2 : (schN s)[j]? = some p.2.n := by unfold schN; rw [List.getElem?_map, List.getElem?_eq_getElem hj, ej]; exact congrArg some e.symm
  have := nd_ix h a1 a2
  subst this
  rw [← ei, ← ej]
theorem SchAt.desc {H : Hp} {S : Addr} {s : Sch} {t c : Addr} (h : SchAt H S s t c) {p : Ads × Tab} (hp : p ∈ s) : DGet H S (.str p.2.n) (some (.ref p.1.d)) := by
  have g := DGet.k (k := (Sum.inr p.2.n : Key)) h.sk
  rw [sch_get h.nm hp] at g
  exact g
theorem DescAt.gc {H : Hp} {a : Ads} {t : Tab} (h : DescAt H a t) : DGet H a.d (.str "columns") (some (.ref a.c)) := by have g := DGet.k (k := (Sum.inr ("columns" : Str) : Key)) h.dk; rw [dd_c] at g; exact g
theorem DescAt.gk {H : Hp} {a : Ads} {t : Tab} (h : DescAt H a t) : DGet H a.d (.str "checks") (some (.ref a.k)) := by have g := DGet.k (k := (Sum.inr ("checks" : Str) : Key)) h.dk; rw [dd_k] at g; exact g
theorem DescAt.gu {H : Hp} {a : Ads} {t : Tab} (h : DescAt H a t) : DGet H a.d (.str "uniques") (some (.ref a.u)) := by have g := DGet.k (k := (Sum.inr ("uniques" : Str) : Key)) h.dk; rw [dd_u] at g; exact g
theorem DescAt.gr {H : Hp} {a : Ads} {t : Tab} (h : DescAt H a t) : DGet H a.d (.str "references") (some (.ref a.r)) := by have g := DGet.k (k := (Sum.inr ("references" : Str) : Key)) h.dk; rw [dd_r] at g; exact g
/-- the same but for the things at ex -/
def SameE (ex : List Addr) (H H' : Hp) : Prop := ∀ b o, H b = some o → b ∉ ex → H' b = some o
theorem SameE.refl (ex : List Addr) (H : Hp) : SameE ex H H := fun _ _ h _ => h
theorem SameE.trans {ex : List Addr} {H H1 H2 : Hp} (a : SameE ex H H1) (b : SameE ex H1 H2) : SameE ex H H2 := fun c o h n => b c o (a c o h n) n
theorem SameE.ofX {ex : List Addr} {t : Addr} {H H1 : Hp} (a : SameX t H H1) (h : t ∈ ex) : SameE ex H H1 := fun c o e n => a c o e (fun z => n (z ▸ h))
theorem SameE.of {ex : List Addr} {H H1 : Hp} (a : Same H H1) : SameE ex H H1 := fun c o e _ => a c o e
theorem SameE.upd {ex : List Addr} {H H1 : Hp} {p : Addr} (h : p ∈ ex) (o : HO) (a : SameE ex H H1) : SameE ex H (L2.upd H1 p o) := fun b u q n => by
  have ne : b ≠ p := fun z => n (z ▸ h)
  rw [upd_ne ne]; exact a b u q n
/-- what a schema's table may hold -/
structure TabOk (fr : List (Str × List Col)) (t : Tab) : Prop where
  nm : nameOk t.n
  co : ColsOk [] t.cols
  l0 : 1 ≤ t.cols.length
  l5 : t.cols.length ≤ 5
  c4 : t.ch.length ≤ 2
  cc : ∀ c ∈ t.ch, c.length ≤ 4 ∧ ∀ a ∈ c, a.length ≤ 4 ∧ ∀ cl ∈ a, ClOk t.cols cl
  u4 : t.un.length ≤ 4
  un : t.un.Nodup
  uc : ∀ n ∈ t.un, n ∈ colNs (t.cols.drop 1)
  r4 : t.rf.length ≤ 4
  rn : (t.rf.map (·.1)).Nodup
  rc : ∀ p ∈ t.rf, ∃ col ∈ t.cols.drop 1, col.n = p.1 ∧ p.2 ≠ t.n ∧ ∃ f ∈ fr, f.1 = p.2 ∧ ∃ kc, f.2[0]? = some kc ∧ kc.k = col.k
/-- a table that has no constraints yet -/
structure TabBare (t : Tab) : Prop where
  nm : nameOk t.n
  co : ColsOk [] t.cols
  l0 : 1 ≤ t.cols.length
  l5 : t.cols.length ≤ 5
  c0 : t.ch = []
  u0 : t.un = []
  r0 : t.rf = []
def frOf (s : Sch) : List (Str × List Col) := s.map fun p => (p.2.n, p.2.cols)
def spTable : Sp := fun vs H Q _ => ∃ (L : Addr) (cols : List Col), vs = [.ref L] ∧ ColsAt H L cols ∧ ∀ (a : Ads) (H' : Hp), (∀ n, DescAt H' a ⟨n, cols, [], [], []⟩) → Same H H' → H a.d = none → (∀ b ∈ adL a, H b = none) → (adL a).Nodup → Q (.ref a.d) H'
def spLimits : Sp := fun vs H Q _ => ∃ (t c S : Addr) (cs : List Int) (s : Sch) (a : Ads) (tab : Tab), vs = [.ref t, .ref S, .str tab.n] ∧ TapeAt H t c cs ∧ SchAt H S s t c ∧ s.length ≤ 6 ∧ (∀ p ∈ s, nameOk p.2.n ∧ 1 ≤ p.2.cols.length) ∧ (a, tab) ∈ s ∧ TabBare tab ∧
  ∀ (tab' : Tab) (H' : Hp), tab'.n = tab.n → tab'.cols = tab.cols → TabOk (frOf s) tab' → DescAt H' a tab' → TapeAt H' t c cs → KeepT H H' → SameE [t, a.k, a.u, a.r] H H' → Q .non H'
def spSchema : Sp := fun vs H Q _ => ∃ (t c : Addr) (cs : List Int) (least most : Int), vs = [.ref t, .int least, .int most] ∧ TapeAt H t c cs ∧ 0 ≤ least ∧ least ≤ most ∧ most ≤ 6 ∧
  ∀ (S : Addr) (s : Sch) (H' : Hp), SchAt H' S s t c → (∀ p ∈ s, TabOk (frOf s) p.2) → least ≤ s.length → (s.length : Int) ≤ most → TapeAt H' t c cs → SameX t H H' → Q (.ref S) H'
theorem mem_flat {s : Sch} {p : Ads × Tab} (h : p ∈ s) {b : Addr} (hb : b ∈ adL p.1) : b ∈ schL s := List.mem_flatMap.mpr ⟨p, h, hb⟩
theorem flat_one {s : Sch} (nd : (schL s).Nodup) {p q : Ads × Tab} (hp : p ∈ s) (hq : q ∈ s) {b : Addr} (h1 : b ∈ adL p.1) (h2 : b ∈ adL q.1) : p = q := by
  have nd := List.pairwise_flatMap.mp nd
  obtain ⟨i, hi, ei⟩ := List.getElem_of_mem hp
  obtain ⟨j, hj, ej⟩ := List.getElem_of_mem hq
  rcases Nat.lt_trichotomy i j with h | h | h
  · have := List.pairwise_iff_getElem.mp nd.2 i j hi hj h
    rw [ei, ej] at this
    exact absurd rfl (this b h1 b h2)
  · subst h; rw [← ei, ← ej]
  · have := List.pairwise_iff_getElem.mp nd.2 j i hj hi h
    rw [ei, ej] at this
    exact absurd rfl (this b h2 b h1)
theorem SchAt.tS {H : Hp} {S : Addr} {s : Sch} {t c : Addr} (h : SchAt H S s t c) : t ≠ S ∧ (∀ p ∈ s, p.1.d ≠ t) ∧ (∀ p ∈ s, p.1.d ≠ S) ∧ (∀ p ∈ s, ∀ b ∈ adL p.1, b ≠ c) := by
  have h1 := List.nodup_cons.mp h.dn
  have h2 := List.nodup_cons.mp h1.2
  have h3 := List.nodup_cons.mp h.ln
  refine ⟨fun e => h1.1 (by rw [e]; exact List.mem_cons_self), fun p hp e => h1.1 (List.mem_cons_of_mem _ (List.mem_map.mpr ⟨p, hp, e⟩)), fun p hp e => h2.1 (List.mem_map.mpr ⟨p, hp, e⟩), fun p hp b hb e => h3.1 (e ▸ mem_flat hp hb)⟩
theorem SchAt.monoX {H H' : Hp} {S : Addr} {s : Sch} {t c : Addr} {cs : List Int} (h : SchAt H S s t c) (T : TapeAt H t c cs) (e : SameX t H H') : SchAt H' S s t c := by
  obtain ⟨h1, h2, h3, _⟩ := h.tS
  refine ⟨e _ _ h.sk h1.symm, fun p hp => (h.ds p hp).frame (KeepT.ofX T e) (fun o z => e _ _ z (h2 p hp)) (fun b hb o z => e _ _ z ?_), h.nm, h.dn, h.ln⟩
  obtain ⟨xs, g⟩ := (h.ds p hp).isL b hb
  exact T.notL g
structure Lim (H H' : Hp) (t c : Addr) (cs : List Int) (a : Ads) (OL : Addr) (os : List Str) (conds : List Cond) (un : List Str) (rf : List (Str × Str)) : Prop where
  T : TapeAt H' t c cs
  kt : KeepT H H'
  se : SameE [t, a.k, a.u, a.r] H H'
  ol : H' OL = some (.lst (os.map V.str))
  ch : ∃ xs, H' a.k = some (.lst xs) ∧ TpL H' xs (conds.map condD)
  un : H' a.u = some (.lst (un.map V.str))
  rf : ∃ ys, H' a.r = some (.lst ys) ∧ TpL H' ys (rf.map rfD)
section
variable {H H' H2 : Hp} {t c : Addr} {cs : List Int} {a : Ads} {OL : Addr} {os : List Str} {conds : List Cond} {un : List Str} {rf : List (Str × Str)}
theorem Lim.stepX (L : Lim H H' t c cs a OL os conds un rf) (T2 : TapeAt H2 t c cs) (e : SameX t H' H2) : Lim H H2 t c cs a OL os conds un rf := by
  obtain ⟨T, kt, se, ol, ⟨xs, c1, c2⟩, un, ⟨ys, r1, r2⟩⟩ := L
  have k2 := KeepT.ofX T e
  exact ⟨T2, kt.trans k2, se.trans (SameE.ofX e (by simp)), e _ _ ol (T.notL ol), ⟨xs, e _ _ c1 (T.notL c1), c2.mono k2⟩, e _ _ un (T.notL un), ⟨ys, e _ _ r1 (T.notL r1), r2.mono k2⟩⟩
theorem Lim.step (L : Lim H H' t c cs a OL os conds un rf) (e : Same H' H2) : Lim H H2 t c cs a OL os conds un rf := by
  obtain ⟨T, kt, se, ol, ⟨xs, c1, c2⟩, un, ⟨ys, r1, r2⟩⟩ := L
  exact ⟨T.mono e, kt.trans (KeepT.of e), se.trans (SameE.of e), e _ _ ol, ⟨xs, e _ _ c1, c2.mono (KeepT.of e)⟩, e _ _ un, ⟨ys, e _ _ r1, r2.mono (KeepT.of e)⟩⟩
/-- what the schema shows while one table of it gets its constraints -/
theorem Lim.see {S : Addr} {s : Sch} {tab : Tab} (L : Lim H H' t c cs a OL os conds un rf) (A : SchAt H S s t c) (hm : (a, tab) ∈ s) (htk : ∃ kvs, H t = some (.dK kvs)) : DGet H' S (.str tab.n) (some (.ref a.d)) ∧ DGet H' a.d (.str "columns") (some (.ref a.c)) ∧ DGet H' a.d (.str "checks") (some (.ref a.k)) ∧ DGet H' a.d (.str "uniques") (some (.ref a.u)) ∧ DGet H' a.d (.str "references") (some (.ref a.r)) ∧ ColsAt H' a.c tab.cols ∧
    ∀ q ∈ s, DGet H' S (.str q.2.n) (some (.ref q.1.d)) ∧ DGet H' q.1.d (.str "columns") (some (.ref q.1.c)) ∧ ColsAt H' q.1.c q.2.cols := by
  obtain ⟨h1, h2, h3, h4⟩ := A.tS
  have D := A.ds _ hm
  have dl : ∀ {x : Addr} {kvs : List (Key × V)}, H x = some (.dK kvs) → x ≠ t → x ∉ [t, a.k, a.u, a.r] := by
    intro x kvs hx hxt hc
    have gl := D.isL
    simp only [List.mem_cons, List.not_mem_nil, or_false] at hc
    rcases hc with z | z | z | z
    · exact hxt z
    · obtain ⟨xs, g⟩ := gl a.k (by simp [adL]); rw [z, g] at hx; cases hx
    · obtain ⟨xs, g⟩ := gl a.u (by simp [adL]); rw [z, g] at hx; cases hx
    · obtain ⟨xs, g⟩ := gl a.r (by simp [adL]); rw [z, g] at hx; cases hx
  have hS : H' S = some (.dK (schK s)) := L.se _ _ A.sk (dl A.sk h1.symm)
  have all : ∀ q ∈ s, DGet H' S (.str q.2.n) (some (.ref q.1.d)) ∧ H' q.1.d = some (.dK (descD q.1)) ∧ ColsAt H' q.1.c q.2.cols := by
    intro q hq
    have g := DGet.k (k := (Sum.inr q.2.n : Key)) hS
    rw [sch_get A.nm hq] at g
    have Dq := A.ds q hq
    refine ⟨g, L.se _ _ Dq.dk (dl Dq.dk (h2 q hq)), Dq.co.mono L.kt fun o ho => L.se _ _ ho fun hc => ?_⟩
    have hb : q.1.c ∈ adL q.1 := by simp [adL]
    have nd := (List.nodup_cons.mp A.ln).2
    have one : ∀ b, b ∈ adL a → q.1.c = b → b = a.c := by
      intro b hba e
      have := flat_one nd hq hm hb (by rw [e]; exact hba)
      rw [← e, this]
    have ndA : (adL a).Nodup := (List.pairwise_flatMap.mp nd).1 _ hm
    simp only [adL, List.nodup_cons, List.mem_cons, List.not_mem_nil, or_false, not_or] at ndA
    simp only [List.mem_cons, List.not_mem_nil, or_false] at hc
    rcases hc with z | z | z | z
    · obtain ⟨kvs, e⟩ := htk
      obtain ⟨xs, g⟩ := Dq.isL q.1.c hb
      rw [z, e] at g; cases g
    · exact ndA.1.1 (one a.k (by simp [adL]) z).symm
    · exact ndA.1.2.1 (one a.u (by simp [adL]) z).symm
    · exact ndA.1.2.2 (one a.r (by simp [adL]) z).symm
  obtain ⟨g1, g2, g3⟩ := all _ hm
  have gg : ∀ {q : Ads}, H' q.d = some (.dK (descD q)) → DGet H' q.d (.str "columns") (some (.ref q.c)) := fun {q} e => by
    have g := DGet.k (k := (Sum.inr ("columns" : Str) : Key)) e; rw [dd_c] at g; exact g
  refine ⟨g1, gg g2, ?_, ?_, ?_, g3, fun q hq => ?_⟩
  · have g := DGet.k (k := (Sum.inr ("checks" : Str) : Key)) g2; rw [dd_k] at g; exact g
  · have g := DGet.k (k := (Sum.inr ("uniques" : Str) : Key)) g2; rw [dd_u] at g; exact g
  · have g := DGet.k (k := (Sum.inr ("references" : Str) : Key)) g2; rw [dd_r] at g; exact g
  · obtain ⟨q1, q2, q3⟩ := all q hq
    exact ⟨q1, gg q2, q3⟩
end
/-- a list of texts, compared with the empty one -/
theorem strs_dp {K : PySem.W.Frag} {H : Hp} : ∀ xs : List Str, DpAll K H (xs.map V.str) (xs.map PyData.str)
  | [] => .nil
  | x :: r => .cons (.str x) (strs_dp r)
theorem strs_lay : ∀ xs : List Str, (∀ x ∈ xs, PyData.strOk x = true) → PyData.canLayAll0 (xs.map PyData.str) = true ∧ PyData.depthAll (xs.map PyData.str) ≤ 1
  | [], _ => by simp [PyData.canLayAll0, PyData.depthAll]
  | x :: r, h => by
    obtain ⟨a, b⟩ := strs_lay r fun y hy => h y (List.mem_cons_of_mem _ hy)
    have hx := h x List.mem_cons_self
    constructor
    · simp [PyData.canLayAll0, PyData.canLay0, a, hx]
    · simp only [List.map_cons, PyData.depthAll, PyData.depth]
      omega
theorem strs_shaped {xs : List Str} (h : ∀ x ∈ xs, PyData.strOk x = true) : SeqAt.shaped (.list (xs.map PyData.str)) = true := by
  obtain ⟨a, b⟩ := strs_lay xs h
  simp only [SeqAt.shaped, PyData.canLay0, a, Bool.true_and, PyData.depth]
  exact decide_eq_true (by omega)
theorem strs_eqv (xs : List Str) : PyData.eqv (.list (xs.map PyData.str)) (.list []) = xs.isEmpty := by cases xs <;> rfl
theorem nameOk.str {z : Str} (h : nameOk z) : PyData.strOk z = true := strOk_of fun c hc => (h.2.2 c hc).ok
/-- one table's description has changed, all else stands -/
theorem SchAt.set {H H' : Hp} {S : Addr} {s : Sch} {t c : Addr} {i : Nat} {a : Ads} {tab tab' : Tab} (h : SchAt H S s t c) (ht : ∃ kvs, H t = some (.dK kvs)) (hi : s[i]? = some (a, tab)) (hn : tab'.n = tab.n) (hd : DescAt H' a tab') (kt : KeepT H H') (e : SameE [t, a.k, a.u, a.r] H H') : SchAt H' S (s.set i (a, tab')) t c := by
  obtain ⟨h1, h2, h3, h4⟩ := h.tS
  have hm : (a, tab) ∈ s := List.mem_of_getElem? hi
  have hil : i < s.length := (List.getElem?_eq_some_iff.mp hi).1
  have dl : ∀ {x : Addr} {kvs : List (Key × V)}, H x = some (.dK kvs) → x ≠ t → x ∉ [t, a.k, a.u, a.r] := by
    intro x kvs hx hxt hc
    have gl := (h.ds _ hm).isL
    simp only [List.mem_cons, List.not_mem_nil, or_false] at hc
    rcases hc with z | z | z | z
    · exact hxt z
    · obtain ⟨xs, g⟩ := gl a.k (by simp [adL]); rw [z, g] at hx; cases hx
    · obtain ⟨xs, g⟩ := gl a.u (by simp [adL]); rw [z, g] at hx; cases hx
    · obtain ⟨xs, g⟩ := gl a.r (by simp [adL]); rw [z, g] at hx; cases hx
  have ek : schK (s.set i (a, tab')) = schK s := by
    unfold schK
    rw [List.map_set]
    refine List.ext_getElem? fun j => ?_
    rw [List.getElem?_set]
    split
    · rename_i hj; subst hj
      rw [List.getElem?_map, hi, if_pos (by rw [List.length_map]; exact hil)]
      show some ((Sum.inr tab'.n : Key), V.ref a.d) = _
      rw [hn]; rfl
    · rfl
  have en : schN (s.set i (a, tab')) = schN s := by
    unfold schN
    rw [List.map_set]
    refine List.ext_getElem? fun j => ?_
    rw [List.getElem?_set]
    split
    · rename_i hj; subst hj
      rw [List.getElem?_map, hi, if_pos (by rw [List.length_map]; exact hil)]
      exact congrArg some hn
    · rfl
  have ea : (s.set i (a, tab')).map (fun p => p.1) = s.map (fun p => p.1) := by
    rw [List.map_set]
    refine List.ext_getElem? fun j => ?_
    rw [List.getElem?_set]
    split
    · rename_i hj; subst hj
      rw [List.getElem?_map, hi, if_pos (by rw [List.length_map]; exact hil)]
      rfl
    · rfl
  have ed : (s.set i (a, tab')).map (fun p => p.1.d) = s.map (fun p => p.1.d) := by
    have := congrArg (List.map fun x : Ads => x.d) ea
    rw [List.map_map, List.map_map] at this
    exact this
  have el : schL (s.set i (a, tab')) = schL s := by
    have := congrArg (List.flatMap fun x : Ads => adL x) ea
    rw [List.flatMap_map, List.flatMap_map] at this
    exact this
  refine ⟨?_, fun p hp => ?_, by rw [en]; exact h.nm, by rw [ed]; exact h.dn, by rw [el]; exact h.ln⟩
  · rw [ek]; exact e _ _ h.sk (dl h.sk h1.symm)
  · obtain ⟨j, hj, ej⟩ := List.getElem_of_mem hp
    rw [List.getElem_set] at ej
    split at ej
    · rw [← ej]; exact hd
    · rename_i hne
      rw [List.length_set] at hj
      have hps : p ∈ s := by rw [← ej]; exact List.getElem_mem hj
      have D := h.ds p hps
      refine D.frame kt (fun o z => e _ _ z (by rw [D.dk] at z; cases z; exact dl D.dk (h2 p hps))) (fun b hb o z => e _ _ z fun hc => ?_)
      have hb2 : b ∈ adL a ∨ b = t := by
        simp only [List.mem_cons, List.not_mem_nil, or_false] at hc
        rcases hc with z | z | z | z
        · exact .inr z
        · exact .inl (by rw [z]; simp [adL])
        · exact .inl (by rw [z]; simp [adL])
        · exact .inl (by rw [z]; simp [adL])
      rcases hb2 with hb2 | hb2
      · have eq := flat_one (List.nodup_cons.mp h.ln).2 hps hm hb hb2
        have hi' : s[i] = (a, tab) := by rw [List.getElem?_eq_getElem hil] at hi; exact Option.some.inj hi
        have b1 : (schN s)[j]? = some tab.n := by unfold schN; rw [List.getElem?_map, List.getElem?_eq_getElem hj, ej, eq]; rfl
        have b2 : (schN s)[i]? = some tab.n := by unfold schN; rw [List.getElem?_map, hi]; rfl
        exact hne (nd_ix h.nm b2 b1)
      · obtain ⟨xs, g⟩ := D.isL b hb
        obtain ⟨kvs, h5⟩ := ht
        rw [hb2, h5] at g
        cases g
end Lt

set_option autoImplicit false
namespace Lt
open PySem L2 TL
open C8 (pss_cut)
/-! ## a schema in the making -/
theorem putK_fresh {kvs : List (Key × V)} {k : Key} {v : V} (h : k ∉ kvs.map (·.1)) : putK kvs k v = kvs ++ [(k, v)] := by
  unfold putK
  rw [if_neg]
  intro z
  obtain ⟨x, h1, h2⟩ := List.any_eq_true.mp z
  exact h (List.mem_map.mpr ⟨x, h1, of_decide_eq_true h2⟩)
theorem schK_new {s : Sch} {a : Ads} {tab : Tab} (h : tab.n ∉ schN s) : putK (schK s) (Sum.inr tab.n : Key) (.ref a.d) = schK (s ++ [(a, tab)]) := by
  rw [putK_fresh]
  · unfold schK; rw [List.map_append]; rfl
  · rw [sch_keys]
    intro z
    obtain ⟨x, h1, h2⟩ := List.mem_map.mp z
    cases h2
    exact h h1
theorem SchAt.notS {H : Hp} {S : Addr} {s : Sch} {t c : Addr} (A : SchAt H S s t c) : ∀ p ∈ s, ∀ b ∈ adL p.1, b ≠ S := fun p hp b hb e => by
  obtain ⟨xs, g⟩ := (A.ds p hp).isL b hb
  rw [e, A.sk] at g
  cases g
theorem SchAt.add {H : Hp} {S t c : Addr} {s : Sch} {a : Ads} {tab : Tab} (A : SchAt H S s t c) (D : DescAt H a tab) (hz : tab.n ∉ schN s) (hd : a.d ≠ t ∧ a.d ≠ S ∧ ∀ p ∈ s, a.d ≠ p.1.d)
    (hl : ∀ b ∈ adL a, b ≠ c ∧ b ∉ schL s) (nd : (adL a).Nodup) : SchAt (upd H S (.dK (schK (s ++ [(a, tab)])))) S (s ++ [(a, tab)]) t c := by
  obtain ⟨h1, h2, h3, h4⟩ := A.tS
  have kt : KeepT H (upd H S (.dK (schK (s ++ [(a, tab)])))) := KeepT.lock A.sk
  have fr : ∀ {a' : Ads} {tab' : Tab}, DescAt H a' tab' → a'.d ≠ S → DescAt (upd H S (.dK (schK (s ++ [(a, tab)])))) a' tab' := fun {a' tab'} D' ne =>
    D'.frame kt (fun o z => by rw [upd_ne ne]; exact z) (fun b hb o z => by
      have : b ≠ S := fun e => by
        obtain ⟨xs, g⟩ := D'.isL b hb
        rw [e, A.sk] at g; cases g
      rw [upd_ne this]; exact z)
  refine ⟨upd_same, fun p hp => ?_, ?_, ?_, ?_⟩
  · rcases List.mem_append.mp hp with hp | hp
    · exact fr (A.ds p hp) (h3 p hp)
    · rw [List.mem_singleton.mp hp]; exact fr D hd.2.1
  · unfold schN
    rw [List.map_append]
    refine List.nodup_append.mpr ⟨A.nm, by simp, fun x hx y hy => ?_⟩
    have : y = tab.n := by simpa using hy
    subst this
    rintro rfl
    exact hz hx
  · rw [List.map_append]
    show ((t :: S :: s.map fun p => p.1.d) ++ [a.d]).Nodup
    refine List.nodup_append.mpr ⟨A.dn, by simp, fun x hx y hy => ?_⟩
    have : y = a.d := by simpa using hy
    subst this
    rcases List.mem_cons.mp hx with rfl | hx
    · exact hd.1.symm
    · rcases List.mem_cons.mp hx with rfl | hx
      · exact hd.2.1.symm
      · obtain ⟨p, hp, e⟩ := List.mem_map.mp hx
        rw [← e]; exact (hd.2.2 p hp).symm
  · have e : schL (s ++ [(a, tab)]) = schL s ++ adL a := by unfold schL; rw [List.flatMap_append]; simp
    rw [e]
    show ((c :: schL s) ++ adL a).Nodup
    refine List.nodup_append.mpr ⟨A.ln, nd, fun x hx y hy => ?_⟩
    rintro rfl
    rcases List.mem_cons.mp hx with e | hx
    · exact (hl x hy).1 e
    · exact (hl x hy).2 hx
/-- all stands but the tape and a list that is no part of it -/
theorem SchAt.monoXY {H H' : Hp} {S U : Addr} {s : Sch} {t c : Addr} {cs : List Int} {us : List V} (h : SchAt H S s t c) (T : TapeAt H t c cs) (hU : H U = some (.lst us)) (nU : U ∉ schL s) (e : SameXY t U H H') : SchAt H' S s t c := by
  obtain ⟨h1, h2, h3, _⟩ := h.tS
  have nl : ∀ {b : Addr} {kvs : List (Key × V)}, H b = some (.dK kvs) → b ≠ U := fun hb z => by rw [z, hU] at hb; cases hb
  refine ⟨e _ _ h.sk h1.symm (nl h.sk), fun p hp => (h.ds p hp).frame (KeepT.ofXY T hU e) (fun o z => e _ _ z (h2 p hp) (nl (h.ds p hp).dk)) (fun b hb o z => e _ _ z ?_ ?_), h.nm, h.dn, h.ln⟩
  · obtain ⟨xs, g⟩ := (h.ds p hp).isL b hb
    exact T.notL g
  · rintro rfl; exact nU (mem_flat hp hb)
theorem SameXY.free {t u : Addr} {H H' : Hp} (e : SameXY t u H H') {b : Addr} (h1 : b ≠ t) (h2 : b ≠ u) (h : H' b = none) : H b = none := by
  cases z : H b with
  | none => rfl
  | some o => have := e _ _ z h1 h2; rw [h] at this; cases this
theorem set_map {α β : Type} {s : List α} {i : Nat} {x y : α} (f : α → β) (h : s[i]? = some x) (e : f y = f x) : (s.set i y).map f = s.map f := by
  have hil : i < s.length := (List.getElem?_eq_some_iff.mp h).1
  rw [List.map_set]
  refine List.ext_getElem? fun j => ?_
  rw [List.getElem?_set]
  split
  · rename_i hj; subst hj
    rw [List.getElem?_map, h, if_pos (by rw [List.length_map]; exact hil), e]
    rfl
  · rfl
/-- a schema whose tables get their constraints one after another: those in done have them -/
structure Half (H0 H' : Hp) (t c : Addr) (cs : List Int) (S : Addr) (s s' : Sch) (done : List Str) : Prop where
  A : SchAt H' S s' t c
  T : TapeAt H' t c cs
  ads : s'.map (·.1) = s.map (·.1)
  fr : frOf s' = frOf s
  ok : ∀ p ∈ s', p.2.n ∈ done → TabOk (frOf s) p.2
  ba : ∀ p ∈ s', p.2.n ∉ done → TabBare p.2
  se : SameX t H0 H'
  new : ∀ b ∈ schL s', H0 b = none
theorem schN_of {s s' : Sch} (h : frOf s' = frOf s) : schN s' = schN s := by
  have := congrArg (List.map (·.1)) h
  unfold frOf at this
  rw [List.map_map, List.map_map] at this
  exact this
theorem schL_of {s s' : Sch} (h : s'.map (·.1) = s.map (·.1)) : schL s' = schL s := by
  have := congrArg (List.flatMap fun x : Ads => adL x) h
  rw [List.flatMap_map, List.flatMap_map] at this
  exact this
theorem Half.put {H0 H1 H2 : Hp} {t c : Addr} {cs : List Int} {S : Addr} {s s' : Sch} {done : List Str} {a : Ads} {tab tab' : Tab} (L : Half H0 H1 t c cs S s s' done) (hm : (a, tab) ∈ s')
    (hn : tab'.n = tab.n) (hc : tab'.cols = tab.cols) (ok : TabOk (frOf s') tab') (D : DescAt H2 a tab') (T : TapeAt H2 t c cs) (kt : KeepT H1 H2) (e : SameE [t, a.k, a.u, a.r] H1 H2) :
    ∃ s2, Half H0 H2 t c cs S s s2 (done ++ [tab.n]) := by
  obtain ⟨i, hi, ei⟩ := List.getElem_of_mem hm
  have hi' : s'[i]? = some (a, tab) := by rw [List.getElem?_eq_getElem hi, ei]
  have ht : ∃ kvs, H1 t = some (.dK kvs) := by obtain ⟨_, _, _, _, e, _⟩ := L.T.dk; exact ⟨_, e⟩
  have f1 : frOf (s'.set i (a, tab')) = frOf s := by
    rw [← L.fr]
    exact set_map (fun p : Ads × Tab => (p.2.n, p.2.cols)) hi' (by show (tab'.n, tab'.cols) = (tab.n, tab.cols); rw [hn, hc])
  have f2 : (s'.set i (a, tab')).map (·.1) = s.map (·.1) := by rw [← L.ads]; exact set_map (fun p : Ads × Tab => p.1) hi' rfl
  have back : ∀ p ∈ s'.set i (a, tab'), p = (a, tab') ∨ (p ∈ s' ∧ p.2.n ≠ tab.n) := by
    intro p hp
    obtain ⟨j, hj, ej⟩ := List.getElem_of_mem hp
    rw [List.getElem_set] at ej
    split at ej
    · exact .inl ej.symm
    · rename_i hne
      rw [List.length_set] at hj
      have hps : p ∈ s' := by rw [← ej]; exact List.getElem_mem hj
      refine .inr ⟨hps, fun z => ?_⟩
      have b1 : (schN s')[j]? = some tab.n := by unfold schN; rw [List.getElem?_map, List.getElem?_eq_getElem hj, ej, ← z]; rfl
      have b2 : (schN s')[i]? = some tab.n := by unfold schN; rw [List.getElem?_map, hi']; rfl
      exact hne (nd_ix L.A.nm b2 b1)
  refine ⟨s'.set i (a, tab'), L.A.set ht hi' hn D kt e, T, f2, f1, ?_, ?_, ?_, ?_⟩
  · intro p hp hd
    rcases back p hp with rfl | ⟨h1, h2⟩
    · rw [← L.fr]; exact ok
    · rcases List.mem_append.mp hd with hd | hd
      · exact L.ok p h1 hd
      · exact absurd (List.mem_singleton.mp hd) h2
  · intro p hp hd
    rcases back p hp with rfl | ⟨h1, h2⟩
    · exact absurd (List.mem_append.mpr (.inr (by rw [List.mem_singleton]; exact hn))) hd
    · exact L.ba p h1 fun z => hd (List.mem_append.mpr (.inl z))
  · intro b o hb hbt
    have g := L.se b o hb hbt
    refine e b o g fun hc => ?_
    simp only [List.mem_cons, List.not_mem_nil, or_false] at hc
    have nw : ∀ x ∈ adL a, b ≠ x := fun x hx z => by
      have := L.new x (mem_flat hm hx)
      rw [← z, hb] at this; cases this
    rcases hc with z | z | z | z
    · exact hbt z
    · exact nw a.k (by simp [adL]) z
    · exact nw a.u (by simp [adL]) z
    · exact nw a.r (by simp [adL]) z
  · rw [schL_of (f2.trans L.ads.symm)]; exact L.new
end Lt

set_option autoImplicit false
namespace Lt
open PySem L2 TL
open C8 (pss_cut)
/-! ## schemas as data; what they say of columns and tables -/
mutual
def gOf : D → G
  | .s v => .s v
  | .t ds => .t (gOfL ds)
def gOfL : List D → List G
  | [] => []
  | d :: ds => gOf d :: gOfL ds
end
mutual
def D.sm : D → Bool
  | .s _ => true
  | .t ds => decide (ds.length ≤ 1000) && smL ds
def smL : List D → Bool
  | [] => true
  | d :: ds => d.sm && smL ds
end
theorem gOfL_map : ∀ ds : List D, gOfL ds = ds.map gOf
  | [] => rfl
  | d :: ds => by simp only [gOfL, List.map_cons]; rw [gOfL_map ds]
theorem smL_all : ∀ {ds : List D}, smL ds = true ↔ ∀ d ∈ ds, d.sm = true
  | [] => by simp [smL]
  | d :: ds => by simp only [smL, Bool.and_eq_true, List.forall_mem_cons]; rw [smL_all]
theorem sm_t {ds : List D} (h : ds.length ≤ 1000) (k : ∀ d ∈ ds, d.sm = true) : (D.t ds).sm = true := by
  simp only [D.sm, Bool.and_eq_true, decide_eq_true_eq]
  exact ⟨h, smL_all.mpr k⟩
mutual
theorem Tp.g {H : Hp} : ∀ {d : D} {v : V}, Tp H v d → d.sm = true → Gp H v (gOf d) []
  | .s _, _, h, _ => by cases h with | s h => exact .s h
  | .t ds, _, h, k => by
    cases h with
    | t h r =>
      simp only [D.sm, Bool.and_eq_true, decide_eq_true_eq] at k
      exact .t h (by rw [r.length]; exact k.1) (TpL.g r k.2)
theorem TpL.g {H : Hp} : ∀ {ds : List D} {vs : List V}, TpL H vs ds → smL ds = true → GpL H vs (gOfL ds) []
  | [], _, h, _ => by cases h; exact .nil
  | d :: ds, _, h, k => by
    cases h with
    | cons h r =>
      simp only [smL, Bool.and_eq_true] at k
      exact GpL.cons (D := []) (E := []) (Tp.g h k.1) (TpL.g r k.2)
end
mutual
def D.dp : D → Nat
  | .s _ => 0
  | .t ds => dpL ds + 1
def dpL : List D → Nat
  | [] => 0
  | d :: ds => max d.dp (dpL ds)
end
mutual
theorem dep_gOf : ∀ d : D, (gOf d).dep = d.dp
  | .s _ => rfl
  | .t ds => by simp only [gOf, G.dep, D.dp]; rw [dep_gOfL ds]
theorem dep_gOfL : ∀ ds : List D, depL (gOfL ds) = dpL ds
  | [] => rfl
  | d :: ds => by simp only [gOfL, depL, dpL]; rw [dep_gOf d, dep_gOfL ds]
end
theorem depL_le {n : Nat} : ∀ {gs : List G}, (∀ g ∈ gs, g.dep ≤ n) → depL gs ≤ n
  | [], _ => Nat.zero_le _
  | g :: gs, h => by
    simp only [depL]
    have a := h g List.mem_cons_self
    have b := depL_le fun x hx => h x (List.mem_cons_of_mem _ hx)
    omega
theorem depK_le {n : Nat} : ∀ {gs : List (Key × G)}, (∀ p ∈ gs, p.2.dep ≤ n) → depK gs ≤ n
  | [], _ => Nat.zero_le _
  | (k, g) :: gs, h => by
    simp only [depK]
    have a := h _ List.mem_cons_self
    have b := depK_le fun x hx => h x (List.mem_cons_of_mem _ hx)
    simp only at a
    omega
theorem dpL_le {n : Nat} : ∀ {gs : List D}, (∀ g ∈ gs, g.dp ≤ n) → dpL gs ≤ n
  | [], _ => Nat.zero_le _
  | g :: gs, h => by
    simp only [dpL]
    have a := h g List.mem_cons_self
    have b := dpL_le fun x hx => h x (List.mem_cons_of_mem _ hx)
    omega
theorem col_sm (c : Col) : (colD c).sm = true := rfl
theorem col_dp (c : Col) : (colD c).dp = 1 := rfl
theorem rf_sm (c : Str × Str) : (rfD c).sm = true := rfl
theorem rf_dp (c : Str × Str) : (rfD c).dp = 1 := rfl
theorem cl_sm (c : Cl) : (clD c).sm = true := rfl
theorem cl_dp (c : Cl) : (clD c).dp = 1 := rfl
theorem cond_sm {c : Cond} (h : c.length ≤ 1000) (k : ∀ a ∈ c, a.length ≤ 1000) : (condD c).sm = true := by
  refine sm_t (by rw [List.length_map]; exact h) fun d hd => ?_
  obtain ⟨a, ha, rfl⟩ := List.mem_map.mp hd
  refine sm_t (by rw [List.length_map]; exact k a ha) fun d hd => ?_
  obtain ⟨cl, _, rfl⟩ := List.mem_map.mp hd
  exact cl_sm cl
theorem cond_dp (c : Cond) : (condD c).dp ≤ 3 := by
  have : dpL (c.map altD) ≤ 2 := by
    refine dpL_le fun d hd => ?_
    obtain ⟨a, _, rfl⟩ := List.mem_map.mp hd
    have : dpL (a.map clD) ≤ 1 := dpL_le fun d hd => by
      obtain ⟨cl, _, rfl⟩ := List.mem_map.mp hd
      exact Nat.le_of_eq (cl_dp cl)
    simp only [altD, D.dp]; omega
  simp only [condD, D.dp]; omega
/-- a list of tuples as data -/
def lG (ds : List D) : G := .l (gOfL ds)
def strsG (xs : List Str) : G := .l (xs.map fun x => .s (.str x))
theorem strsG_L {H : Hp} : ∀ xs : List Str, GpL H (xs.map V.str) (xs.map fun x => G.s (.str x)) []
  | [] => .nil
  | x :: r => GpL.cons (D := []) (E := []) (.s rfl) (strsG_L r)
theorem strsG_at {H : Hp} {N : Addr} {xs : List Str} (h : H N = some (.lst (xs.map V.str))) (hl : xs.length ≤ 1000) : Gp H (.ref N) (strsG xs) [N] := .l h (by rw [List.length_map]; exact hl) (strsG_L xs)
theorem strsG_dep (xs : List Str) : (strsG xs).dep ≤ 1 := by
  have : depL (xs.map fun x => G.s (.str x)) ≤ 0 := depL_le fun g hg => by
    obtain ⟨x, _, rfl⟩ := List.mem_map.mp hg
    exact Nat.le_refl 0
  simp only [strsG, G.dep]; omega
def descG (t : Tab) : G := .d [(Sum.inr ("columns" : Str), lG (t.cols.map colD)), (Sum.inr ("checks" : Str), lG (t.ch.map condD)), (Sum.inr ("uniques" : Str), strsG t.un), (Sum.inr ("references" : Str), lG (t.rf.map rfD))]
def tabsG (ts : List Tab) : List (Key × G) := ts.map fun t => ((Sum.inr t.n : Key), descG t)
def schG (s : Sch) : G := .d (tabsG (s.map (·.2)))
/-- sizes that any schema here keeps to -/
structure TabSm (t : Tab) : Prop where
  co : t.cols.length ≤ 40
  ch : t.ch.length ≤ 40
  cc : ∀ c ∈ t.ch, c.length ≤ 20 ∧ ∀ a ∈ c, a.length ≤ 20
  un : t.un.length ≤ 40
  rf : t.rf.length ≤ 40
theorem TabOk.sm {fr : List (Str × List Col)} {t : Tab} (h : TabOk fr t) : TabSm t := by
  have h1 := h.l5
  have h2 := h.c4
  have h3 := h.u4
  have h4 := h.r4
  exact ⟨by omega, by omega, fun c hc => by
    obtain ⟨a, b⟩ := h.cc c hc
    exact ⟨by omega, fun x hx => by have := (b x hx).1; omega⟩, by omega, by omega⟩
theorem lG_dep {ds : List D} {n : Nat} (h : ∀ d ∈ ds, d.dp ≤ n) : (lG ds).dep ≤ n + 1 := by
  simp only [lG, G.dep]
  rw [dep_gOfL]
  have := dpL_le h
  omega
theorem desc_dep (t : Tab) : (descG t).dep ≤ 5 := by
  have : depK [((Sum.inr ("columns" : Str) : Key), lG (t.cols.map colD)), (Sum.inr ("checks" : Str), lG (t.ch.map condD)), (Sum.inr ("uniques" : Str), strsG t.un), (Sum.inr ("references" : Str), lG (t.rf.map rfD))] ≤ 4 := by
    refine depK_le fun p hp => ?_
    simp only [List.mem_cons, List.not_mem_nil, or_false] at hp
    rcases hp with rfl | rfl | rfl | rfl
    · exact Nat.le_trans (lG_dep (n := 1) fun d hd => by obtain ⟨x, _, rfl⟩ := List.mem_map.mp hd; exact Nat.le_of_eq (col_dp x)) (by decide)
    · exact lG_dep (n := 3) fun d hd => by obtain ⟨x, _, rfl⟩ := List.mem_map.mp hd; exact cond_dp x
    · exact Nat.le_trans (strsG_dep _) (by decide)
    · exact Nat.le_trans (lG_dep (n := 1) fun d hd => by obtain ⟨x, _, rfl⟩ := List.mem_map.mp hd; exact Nat.le_of_eq (rf_dp x)) (by decide)
  simp only [descG, G.dep]; omega
theorem sch_dep (s : Sch) : (schG s).dep ≤ 6 := by
  have : depK (tabsG (s.map (·.2))) ≤ 5 := depK_le fun p hp => by
    obtain ⟨t, _, rfl⟩ := List.mem_map.mp hp
    exact desc_dep t
  simp only [schG, G.dep]; omega
theorem desc_nd (a : Ads) : ((descD a).map (·.1)).Nodup := by
  simp only [descD, List.map_cons, List.map_nil, List.nodup_cons, List.mem_cons, List.not_mem_nil, or_false, not_or, not_false_eq_true, List.nodup_nil, and_true]
  refine ⟨⟨fun z => e_co_ch (Sum.inr.inj z), fun z => e_co_un (Sum.inr.inj z), fun z => e_co_rf (Sum.inr.inj z)⟩, ⟨fun z => e_ch_un (Sum.inr.inj z), fun z => e_ch_rf (Sum.inr.inj z)⟩, fun z => e_un_rf (Sum.inr.inj z)⟩
theorem DescAt.g {H : Hp} {a : Ads} {t : Tab} (h : DescAt H a t) (k : TabSm t) : Gp H (.ref a.d) (descG t) (a.d :: adL a) := by
  obtain ⟨xs, h2, r2⟩ := h.co
  obtain ⟨ys, h3, r3⟩ := h.ch
  obtain ⟨zs, h5, r5⟩ := h.rf
  have g2 : Gp H (.ref a.c) (lG (t.cols.map colD)) [a.c] := .l h2 (by have := k.co; rw [r2.length, List.length_map]; omega) (r2.g (smL_all.mpr fun d hd => by obtain ⟨x, _, rfl⟩ := List.mem_map.mp hd; rfl))
  have g3 : Gp H (.ref a.k) (lG (t.ch.map condD)) [a.k] := .l h3 (by have := k.ch; rw [r3.length, List.length_map]; omega) (r3.g (smL_all.mpr fun d hd => by
    obtain ⟨x, hx, rfl⟩ := List.mem_map.mp hd
    have := k.cc x hx
    exact cond_sm (by omega) fun a ha => by have := this.2 a ha; omega))
  have g4 : Gp H (.ref a.u) (strsG t.un) [a.u] := strsG_at h.un (by have := k.un; omega)
  have g5 : Gp H (.ref a.r) (lG (t.rf.map rfD)) [a.r] := .l h5 (by have := k.rf; rw [r5.length, List.length_map]; omega) (r5.g (smL_all.mpr fun d hd => by obtain ⟨x, _, rfl⟩ := List.mem_map.mp hd; rfl))
  refine .d h.dk (by show 4 ≤ 1000; decide) (desc_nd a) (D := adL a) (GpK.cons (D := [a.c]) (E := [a.k, a.u, a.r]) g2 (GpK.cons (D := [a.k]) (E := [a.u, a.r]) g3 (GpK.cons (D := [a.u]) (E := [a.r]) g4 (GpK.cons (D := [a.r]) (E := []) g5 .nil)))) fun hm => ?_
  obtain ⟨ys, e⟩ := h.isL _ hm
  rw [h.dk] at e
  cases e
def schD (s : Sch) : List Addr := s.flatMap fun p => p.1.d :: adL p.1
theorem tabs_gp {H : Hp} : ∀ {s : Sch}, (∀ p ∈ s, DescAt H p.1 p.2) → (∀ p ∈ s, TabSm p.2) → GpK H (schK s) (tabsG (s.map (·.2))) (schD s)
  | [], _, _ => .nil
  | p :: r, h, k => by
    have := tabs_gp (fun q hq => h q (List.mem_cons_of_mem _ hq)) (fun q hq => k q (List.mem_cons_of_mem _ hq))
    exact GpK.cons ((h p List.mem_cons_self).g (k p List.mem_cons_self)) this
theorem sch_gp {H : Hp} {S : Addr} {s : Sch} (hs : H S = some (.dK (schK s))) (hd : ∀ p ∈ s, DescAt H p.1 p.2) (nm : (schN s).Nodup) (k : ∀ p ∈ s, TabSm p.2) (l : s.length ≤ 100) (ne : ∀ p ∈ s, p.1.d ≠ S) : Gp H (.ref S) (schG s) (S :: schD s) := by
  refine .d hs (by unfold schK; rw [List.length_map]; omega) (sch_nd nm) (tabs_gp hd k) fun hm => ?_
  obtain ⟨p, hp, hb⟩ := List.mem_flatMap.mp hm
  rcases List.mem_cons.mp hb with e | hb
  · exact ne p hp e.symm
  · obtain ⟨xs, e⟩ := (hd p hp).isL _ hb
    rw [hs] at e
    cases e
theorem SchAt.g {H : Hp} {S t c : Addr} {s : Sch} (A : SchAt H S s t c) (k : ∀ p ∈ s, TabSm p.2) (l : s.length ≤ 100) : Gp H (.ref S) (schG s) (S :: schD s) := sch_gp A.sk A.ds A.nm k l A.tS.2.2.1
/-! ### is a column used, is a table referenced -/
def usedM (t : Tab) (n : Str) : Bool := t.ch.any (mentM n) || (decide (n ∈ t.un) || decide (n ∈ t.rf.map (·.1)))
def refdM (ts : List Tab) (n : Str) : Bool := ts.any fun t => t.rf.any fun r => decide (r.2 = n)
def spColumnNames : Sp := fun vs H Q _ => ∃ (d L : Addr) (cols : List Col), vs = [.ref d] ∧ DGet H d (.str "columns") (some (.ref L)) ∧ ColsAt H L cols ∧ cols.length ≤ 100 ∧ ∀ N H', H N = none → Same H H' → H' N = some (.lst ((colNs cols).map V.str)) → Q (.ref N) H'
def spCopyDesc : Sp := fun vs H Q _ => ∃ (a : Ads) (tab : Tab), vs = [.ref a.d] ∧ DescAt H a tab ∧ ∀ a' H', DescAt H' a' tab → Same H H' → H a'.d = none → (∀ b ∈ adL a', H b = none) → (adL a').Nodup → Q (.ref a'.d) H'
/-- a schema, made anew -/
structure NewSch (H H' : Hp) (S : Addr) (s : Sch) (ts : List Tab) : Prop where
  sk : H' S = some (.dK (schK s))
  ds : ∀ p ∈ s, DescAt H' p.1 p.2
  ts : s.map (·.2) = ts
  fS : H S = none
  fd : ∀ p ∈ s, H p.1.d = none ∧ p.1.d ≠ S ∧ ∀ b ∈ adL p.1, H b = none
  dn : (s.map fun p => p.1.d).Nodup
  ln : (schL s).Nodup
  se : Same H H'
def spCopySchema : Sp := fun vs H Q _ => ∃ (S : Addr) (s : Sch), vs = [.ref S] ∧ H S = some (.dK (schK s)) ∧ (∀ p ∈ s, DescAt H p.1 p.2) ∧ (schN s).Nodup ∧ s.length ≤ 100 ∧ ∀ S' s' H', NewSch H H' S' s' (s.map (·.2)) → Q (.ref S') H'
def spIsUsed : Sp := fun vs H Q _ => ∃ (a : Ads) (tab : Tab) (n : Str), vs = [.ref a.d, .str n] ∧ DescAt H a tab ∧ TabSm tab ∧ ∀ H', Same H H' → Q (.bl (usedM tab n)) H'
def spIsReferenced : Sp := fun vs H Q _ => ∃ (S : Addr) (s : Sch) (n : Str), vs = [.ref S, .str n] ∧ H S = some (.dK (schK s)) ∧ (∀ p ∈ s, DescAt H p.1 p.2) ∧ (schN s).Nodup ∧ (∀ p ∈ s, TabSm p.2) ∧ s.length ≤ 20 ∧ ∀ H', Same H H' → Q (.bl (refdM (s.map (·.2)) n)) H'
theorem sch_at {s : Sch} {i : Nat} {k : Key} {v : V} (h : (schK s)[i]? = some (k, v)) : ∃ p, s[i]? = some p ∧ k = Sum.inr p.2.n ∧ v = .ref p.1.d := by
  unfold schK at h
  rw [List.getElem?_map] at h
  cases e : s[i]? with
  | none => rw [e] at h; cases h
  | some p => rw [e] at h; cases h; exact ⟨p, rfl, rfl, rfl⟩
theorem sch_getF {H : Hp} {S : Addr} {s : Sch} {od : Obj} (h : H S = some (.frz od (.dK (schK s)))) (nm : (schN s).Nodup) {p : Ads × Tab} (hp : p ∈ s) : DGet H S (.str p.2.n) (some (.ref p.1.d)) :=
  .inl ⟨schK s, Sum.inr p.2.n, .inr ⟨od, h⟩, rfl, (sch_get nm hp).symm⟩
theorem DescAt.lock {H : Hp} {S : Addr} {a : Ads} {t : Tab} {kvs : List (Key × V)} {o : HO} (h : DescAt H a t) (hS : H S = some (.dK kvs)) (ne : a.d ≠ S) : DescAt (upd H S o) a t :=
  h.frame (KeepT.lock hS) (fun o z => by rw [upd_ne ne]; exact z) fun b hb o z => by
    have : b ≠ S := fun e => by
      obtain ⟨xs, g⟩ := h.isL _ hb
      rw [e, hS] at g; cases g
    rw [upd_ne this]; exact z
/-- a description does not stand where the schema stands -/
theorem desc_ne {H : Hp} {S : Addr} {s : Sch} (hs : H S = some (.dK (schK s))) (hd : ∀ p ∈ s, DescAt H p.1 p.2) : ∀ p ∈ s, p.1.d ≠ S := fun p hp e => by
  have D := hd p hp
  have h1 := D.dk
  rw [e, hs] at h1
  have h2 : schK s = descD p.1 := HO.dK.inj (Option.some.inj h1)
  have h3 : ((Sum.inr ("columns" : Str) : Key), V.ref p.1.c) ∈ schK s := by rw [h2]; simp [descD]
  obtain ⟨q, hq, eq⟩ := List.mem_map.mp h3
  have h4 : q.1.d = p.1.c := V.ref.inj (Prod.mk.inj eq).2
  obtain ⟨xs, g⟩ := D.isL p.1.c (by simp [adL])
  rw [← h4, (hd q hq).dk] at g
  cases g
theorem cond_flat {c : Cond} (h1 : c.length ≤ 20) (h2 : ∀ a ∈ c, a.length ≤ 20) : c.flatten.length ≤ 1000 := by
  have : ∀ (c : Cond), (∀ a ∈ c, a.length ≤ 20) → c.flatten.length ≤ 20 * c.length := by
    intro c
    induction c with
    | nil => intro _; simp
    | cons a r ih =>
      intro h
      have a1 := h a List.mem_cons_self
      have a2 := ih fun x hx => h x (List.mem_cons_of_mem _ hx)
      rw [List.flatten_cons, List.length_append, List.length_cons]
      omega
  have := this c h2
  omega
theorem take_map {α β : Type} (f : α → β) {l : List α} {i : Nat} {x : α} (h : l[i]? = some x) : (l.take (i + 1)).map f = (l.take i).map f ++ [f x] := by
  rw [List.take_add_one, h, List.map_append]; rfl
theorem take_map2 {α β γ : Type} (f : α → β) (g : β → γ) {l : List α} {i : Nat} {x : α} (h : l[i]? = some x) : ((l.take (i + 1)).map f).map g = ((l.take i).map f).map g ++ [g (f x)] := by
  rw [take_map f h, List.map_append]; rfl
theorem D_str_eq (a b : Str) : decide (V.str a = V.str b) = decide (a = b) := by
  by_cases h : a = b
  · rw [decide_eq_true h, decide_eq_true (congrArg V.str h)]
  · rw [decide_eq_false h, decide_eq_false (fun z => h (V.str.inj z))]
theorem DescAt.mono {H H' : Hp} {a : Ads} {t : Tab} (h : DescAt H a t) (e : Same H H') : DescAt H' a t := h.frame (KeepT.of e) (fun o => e _ _) (fun b _ o => e _ _)
theorem NewSch.newD {H H' : Hp} {S : Addr} {s : Sch} {ts : List Tab} (N : NewSch H H' S s ts) : ∀ a ∈ S :: schD s, H a = none := by
  intro a ha
  rcases List.mem_cons.mp ha with rfl | ha
  · exact N.fS
  · obtain ⟨p, hp, hb⟩ := List.mem_flatMap.mp ha
    obtain ⟨h1, _, h2⟩ := N.fd p hp
    rcases List.mem_cons.mp hb with rfl | hb
    · exact h1
    · exact h2 a hb
theorem NewSch.nm {H H' : Hp} {S : Addr} {s s0 : Sch} (N : NewSch H H' S s (s0.map (·.2))) (h : (schN s0).Nodup) : (schN s).Nodup := by
  have : schN s = schN s0 := by
    have e := congrArg (List.map fun t : Tab => t.n) N.ts
    rw [List.map_map, List.map_map] at e
    exact e
  rw [this]; exact h
theorem NewSch.mem {H H' : Hp} {S : Addr} {s s0 : Sch} (N : NewSch H H' S s (s0.map (·.2))) {p : Ads × Tab} (hp : p ∈ s) : ∃ q ∈ s0, q.2 = p.2 := by
  have : p.2 ∈ s0.map (·.2) := by rw [← N.ts]; exact List.mem_map.mpr ⟨p, hp, rfl⟩
  obtain ⟨q, h1, h2⟩ := List.mem_map.mp this
  exact ⟨q, h1, h2⟩
theorem NewSch.g {H H' : Hp} {S : Addr} {s s0 : Sch} (N : NewSch H H' S s (s0.map (·.2))) (nm : (schN s0).Nodup) (k : ∀ p ∈ s0, TabSm p.2) (l : s0.length ≤ 100) : Gp H' (.ref S) (schG s0) (S :: schD s) := by
  have e : schG s = schG s0 := by unfold schG; rw [N.ts]
  rw [← e]
  refine sch_gp N.sk N.ds (N.nm nm) (fun p hp => ?_) ?_ (fun p hp => (N.fd p hp).2.1)
  · obtain ⟨q, h1, h2⟩ := N.mem hp
    rw [← h2]; exact k q h1
  · have := congrArg List.length N.ts
    simp only [List.length_map] at this
    omega
theorem DescAt.isLn {H : Hp} {a : Ads} {t : Tab} (h : DescAt H a t) (k : TabSm t) : ∀ b ∈ adL a, ∃ xs, H b = some (.lst xs) ∧ xs.length ≤ 40 := by
  obtain ⟨h1, ⟨xs, h2, r2⟩, ⟨ys, h3, r3⟩, h4, ⟨zs, h5, r5⟩⟩ := h
  intro b hb
  simp only [adL, List.mem_cons, List.not_mem_nil, or_false] at hb
  rcases hb with rfl | rfl | rfl | rfl
  · exact ⟨_, h2, by rw [r2.length, List.length_map]; exact k.co⟩
  · exact ⟨_, h3, by rw [r3.length, List.length_map]; exact k.ch⟩
  · exact ⟨_, h4, by rw [List.length_map]; exact k.un⟩
  · exact ⟨_, h5, by rw [r5.length, List.length_map]; exact k.rf⟩
theorem desc_part {H : Hp} {a : Ads} (h : H a.d = some (.dK (descD a))) {i : Nat} {x : V} (e : [V.str "columns", V.str "checks", V.str "uniques", V.str "references"][i]? = some x) : ∃ b ∈ adL a, DGet H a.d x (some (.ref b)) := by
  match i, e with
  | 0, e => cases e; exact ⟨a.c, by simp [adL], by have g := DGet.k (k := (Sum.inr ("columns" : Str) : Key)) h; rw [dd_c] at g; exact g⟩
  | 1, e => cases e; exact ⟨a.k, by simp [adL], by have g := DGet.k (k := (Sum.inr ("checks" : Str) : Key)) h; rw [dd_k] at g; exact g⟩
  | 2, e => cases e; exact ⟨a.u, by simp [adL], by have g := DGet.k (k := (Sum.inr ("uniques" : Str) : Key)) h; rw [dd_u] at g; exact g⟩
  | 3, e => cases e; exact ⟨a.r, by simp [adL], by have g := DGet.k (k := (Sum.inr ("references" : Str) : Key)) h; rw [dd_r] at g; exact g⟩
  | n + 4, e => simp at e
theorem sch_getK {H : Hp} {S : Addr} {s : Sch} (h : H S = some (.dK (schK s))) (nm : (schN s).Nodup) {p : Ads × Tab} (hp : p ∈ s) : DGet H S (.str p.2.n) (some (.ref p.1.d)) := by
  have g := DGet.k (k := (Sum.inr p.2.n : Key)) h
  rw [sch_get nm hp] at g
  exact g
end Lt

set_option autoImplicit false
namespace Lt
open PySem PySem.Spec PyProof.Rows L2 TL
/-! ## sorted(d) of a dict of any length, its keys all ints or all texts -/
def txV : Value → Str
  | .str x _ => x
  | _ => ⟨#[]⟩
def ltTx (v u : Value) : Bool := decide (tl (txV v) < tl (txV u))
theorem swo_tx : SrtO.Swo ltTx where
  asym := fun x y h => decide_eq_false (List.lt_asymm (of_decide_eq_true h))
  tr := fun x y z h1 h2 => by
    have a := List.not_lt.mp (of_decide_eq_false h1)
    have b := List.not_lt.mp (of_decide_eq_false h2)
    exact decide_eq_false (List.not_lt.mpr (List.le_trans a b))
theorem tx_mem : ∀ {vs : List Value} {xs : List Str}, StrsAre vs xs → ∀ v ∈ vs, ∃ x t, v = Value.str x t
  | _, _, .nil, v, h => by cases h
  | _, _, .cons x t r, v, h => by
    rcases List.mem_cons.mp h with rfl | h
    · exact ⟨x, t, rfl⟩
    · exact tx_mem r v h
theorem tx_of : ∀ {vs : List Value}, (∀ v ∈ vs, ∃ x t, v = Value.str x t) → StrsAre vs (vs.map txV)
  | [], _ => .nil
  | v :: vs, h => by
    obtain ⟨x, t, rfl⟩ := h v List.mem_cons_self
    exact .cons x t (tx_of fun u hu => h u (List.mem_cons_of_mem _ hu))
theorem tx_back : ∀ {vs : List Value} {xs : List Str}, StrsAre vs xs → vs.map txV = xs
  | _, _, .nil => rfl
  | _, _, .cons x t r => congrArg (x :: ·) (tx_back r)
section
variable {prog : Program} {w : World} {A : Around} {s : Shared}
theorem tx_sortable {a : Addr} {vs : List Value} {xs : List Str} (hT : StrsAre vs xs) (h2 : 2 ≤ vs.length) : SrtO.SortableO prog w A s a vs ltTx := fun hq _ => by
  refine ⟨oneType', fun Q E hq => ?_, fun p q hp hq => ?_⟩
  · cases hT with
    | nil => exact absurd h2 (by decide)
    | cons x t r =>
      cases r with
      | nil => exact absurd h2 (by simp)
      | cons y u r => rw [keyKind_strs (.cons x t (.cons y u r))]; exact wpAny_pure hq
  · obtain ⟨x, t, ex⟩ := tx_mem hT _ hp
    obtain ⟨y, u, ey⟩ := tx_mem hT _ hq
    show wpAny _ _ (keyLt' oneType' p.1 q.1) (fun r s' => s' = _ ∧ r = ltTx p.1 q.1) _ _
    rw [ex, ey, keyLt'_oneType]
    exact oneLt_str ⟨rfl, rfl⟩
end
/-- the order of keys of one kind -/
def kLt : Key → Key → Bool
  | .inl a, .inl b => decide (a < b)
  | .inr a, .inr b => decide (tl a < tl b)
  | .inl _, .inr _ => true
  | .inr _, .inl _ => false
def SortedK (ks : List Key) : Prop := ks.Pairwise fun a b => kLt b a = false
/-- keys all ints or all texts -/
def OneKind (ks : List Key) : Prop := (∃ is : List Int, ks = is.map Sum.inl) ∨ ∃ xs : List Str, ks = xs.map Sum.inr
def rSortK : List V → Hp → VK → Prop := fun xs H Q => ∃ (a : Addr) (kvs : List (Key × V)), xs = [.ref a] ∧ Rd H a (.dK kvs) ∧ OneKind (kvs.map (·.1)) ∧
  ∀ (ys : List Key) (p : Addr), ys.Perm (kvs.map (·.1)) → SortedK ys → H p = none → Q (.ref p) (upd H p (.lst (ys.map kV)))
/-- what the sort's machine hands back of items that all are of one kind -/
theorem one_out {vs out : List Value} {ks : List Key} (hk : (∃ is : List Int, IntsAre vs is ∧ ks = is.map Sum.inl ∧ SrtO.Srtd SrtO.ltIv out ∧ SrtO.Stb SrtO.ltIv out vs) ∨ ∃ xs : List Str, StrsAre vs xs ∧ ks = xs.map Sum.inr ∧ SrtO.Srtd ltTx out ∧ SrtO.Stb ltTx out vs) :
    ∃ ys : List Key, Vals (ys.map kV) out ∧ ys.Perm ks ∧ SortedK ys := by
  rcases hk with ⟨is, hI, rfl, hs, hb⟩ | ⟨xs, hT, rfl, hs, hb⟩
  · obtain ⟨k1, k2, k3⟩ := SrtO.ints_out hI hs hb
    refine ⟨(out.map SrtO.iv).map Sum.inl, ?_, k2.map _, ?_⟩
    · have e : ((out.map SrtO.iv).map Sum.inl).map kV = (out.map SrtO.iv).map V.int := by rw [List.map_map]; rfl
      rw [e]; exact vals_of_ints k1
    · refine List.pairwise_map.mpr (k3.imp fun {x y} h => ?_)
      exact decide_eq_false (by omega)
  · have m : ∀ v ∈ out, ∃ x t, v = Value.str x t := fun v hv => tx_mem hT v (hb.perm.mem_iff.mp hv)
    have k1 := tx_of m
    refine ⟨(out.map txV).map Sum.inr, ?_, ?_, ?_⟩
    · have e : ((out.map txV).map Sum.inr).map kV = (out.map txV).map V.str := by rw [List.map_map]; rfl
      rw [e]; exact vals_of_strs k1
    · have q := hb.perm.map txV
      rw [tx_back hT] at q
      exact q.map _
    · refine List.pairwise_map.mpr (List.pairwise_map.mpr (hs.imp fun {x y} h => ?_))
      exact h
section
variable {X : Cx}
theorem call_sortedK (calm : X.calm = true) : CallR X (.builtin "sorted") rSortK := by
  rintro pins s σ H xs us Q I r ⟨a, kvs, rfl, hd, hone, q⟩
  obtain ⟨u, rfl, rx⟩ := vals1 r
  cases rx
  obtain ⟨z, lo, vs, rel, dd⟩ := dk_rd I.hok hd
  obtain ⟨age, stands⟩ := dd.dictAt
  have hlv : vs.length = kvs.length := rel.length.symm
  have h16 : vs.length ≤ sizeLine := by rw [hlv]; exact z
  refine Calls.call_function_entry kind_sorted plain_sorted entry_sorted (args_sorted1 _) ?_; unfold Builtin.«sorted»
  refine wpAny_bind (m := checkCount "sorted" 1 1 _) (wpAny_pure (wpAny_bind (PySem.W.kdu_collect (A := X.A.in1) (PySem.W.kdl_dict (knd := mixKind X.prog X.w) (kvs := vs) (ep := age) lo) (I.ok.hd calm) stands h16 fun hq tok got hk hgot => ?_)))
  have hal : got.toList.length = vs.length := by rw [Array.length_toList, hgot.1]
  have item : ∀ (j : Nat) (v : Value), got.toList[j]? = some v → ∃ k, (kvs.map (·.1))[j]? = some k ∧ keyIs k v = true := fun j v e => by
    obtain ⟨k, x, e1, e2⟩ := hgot.2 j v (by rw [← Array.getElem?_toList]; exact e)
    refine ⟨k, ?_, e2⟩
    rw [rel.keys, List.getElem?_map, e1]; rfl
  have J : Inv X pins σ H { s with heap := hq, toks := tok } := I.kept hk
  have atNew : (hq.push (seqObj "list" got.toList.toArray 0)).get? hq.objs.size = some (seqObj "list" got.toList.toArray 0) := Heap.get?_push_size _ rfl
  have done : ∀ (out : List Value) (ys : List Key), Vals (ys.map kV) out → ys.Perm (kvs.map (·.1)) → SortedK ys →
      EP X pins σ Q (.ref hq.objs.size) { s with heap := sortedHeap (hq.push (seqObj "list" got.toList.toArray 0)) hq.objs.size got.toList out.toArray, toks := tok } := fun out ys g1 g2 g3 => by
    have hlen : (ys.map kV).length ≤ sizeLine := by
      rw [List.length_map, g2.length_eq, List.length_map, ← hlv]; exact h16
    obtain ⟨e', he'⟩ := PyProof.Rows.sortedHeap_at (vs := got.toList) (out := out.toArray) atNew
    have old : ∀ b u, hq.get? b = some u → (sortedHeap (hq.push (seqObj "list" got.toList.toArray 0)) hq.objs.size got.toList out.toArray).get? b = some u := fun b u e => by
      have hb := Heap.lt_size e
      rw [PyProof.Rows.sortedHeap_old (Nat.ne_of_lt hb) (by rw [size_push']; exact Nat.lt_succ_of_lt hb), Heap.get?_push_of_some _ e]
    exact ⟨.ref hq.objs.size, upd H hq.objs.size (.lst (ys.map kV)), J.laid (t' := tok) old (Nat.le_refl _) ⟨hlen, out, e', g1, he'⟩, rfl, q ys _ g2 g3 (J.hok.fresh (Nat.le_refl _))⟩
  have hz : got.toList.length ≤ sizeLine := by rw [hal]; exact h16
  refine wpAny_bind (wpAny_newList ?_ hz)
  rcases hone with ⟨is, hks⟩ | ⟨ts, hks⟩
  · have hI : IntsAre got.toList is := ints_each (by rw [hal, hlv]; have := congrArg List.length hks; simpa using this) fun j v e => by
      obtain ⟨k, e3, e2⟩ := item j v e
      rw [hks, List.getElem?_map] at e3
      cases e4 : is[j]? with
      | none => rw [e4] at e3; cases e3
      | some y =>
        rw [e4] at e3
        cases e3
        rcases keyIs_shape e2 with ⟨i, t, ek, ev⟩ | ⟨x, t, ek, ev⟩ <;> cases ek
        exact ⟨y, t, rfl, ev⟩
    refine wpAny_bind (wpAny_holding (wpAny_call_entry slot_list_sort ⟨_, atNew, rfl⟩ entry_list_sort
      (SrtO.list_sort_ord (s := { s with heap := hq.push (seqObj "list" got.toList.toArray 0), toks := tok }) SrtO.swo_int atNew hz (fun h2 => SrtO.ints_sortable hI h2) fun out h1 h2 => ⟨_, rfl, ?_⟩) (PyProof.Rows.args_list_sort _)))
    obtain ⟨ys, g1, g2, g3⟩ := one_out (.inl ⟨is, hI, hks, h1, h2⟩)
    exact wpAny_pure ⟨_, rfl, done out ys g1 g2 g3⟩
  · have hT : StrsAre got.toList ts := strs_at (by rw [hal, hlv]; have := congrArg List.length hks; simpa using this) fun j v e => by
      obtain ⟨k, e3, e2⟩ := item j v e
      rw [hks, List.getElem?_map] at e3
      cases e4 : ts[j]? with
      | none => rw [e4] at e3; cases e3
      | some y =>
        rw [e4] at e3
        cases e3
        obtain ⟨t, ev⟩ := Value.isStrOf_shape (x := y) (v := v) e2
        exact ⟨y, t, rfl, ev⟩
    refine wpAny_bind (wpAny_holding (wpAny_call_entry slot_list_sort ⟨_, atNew, rfl⟩ entry_list_sort
      (SrtO.list_sort_ord (s := { s with heap := hq.push (seqObj "list" got.toList.toArray 0), toks := tok }) swo_tx atNew hz (fun h2 => tx_sortable hT h2) fun out h1 h2 => ⟨_, rfl, ?_⟩) (PyProof.Rows.args_list_sort _)))
    obtain ⟨ys, g1, g2, g3⟩ := one_out (.inr ⟨ts, hT, hks, h1, h2⟩)
    exact wpAny_pure ⟨_, rfl, done out ys g1 g2 g3⟩
end
end Lt

set_option autoImplicit false
namespace Lt
open PySem L2 TL
open C8 (pss_cut)
/-! ## the one order of keys -/
def kLe (a b : Key) : Bool := !kLt b a
theorem kLe_total (a b : Key) : (kLe a b || kLe b a) = true := by
  unfold kLe kLt
  rcases a with a | a <;> rcases b with b | b
  · by_cases h : b < a
    · simp [show ¬ a < b by omega]
    · simp [h]
  · rfl
  · rfl
  · by_cases h : tl b < tl a
    · simp [List.lt_asymm h]
    · simp [h]
theorem kLe_trans (a b c : Key) : kLe a b = true → kLe b c = true → kLe a c = true := by
  unfold kLe kLt
  rcases a with a | a <;> rcases b with b | b <;> rcases c with c | c <;> simp
  · omega
  · intro h1 h2
    exact List.le_trans h1 h2
theorem kLe_anti (a b : Key) : kLe a b = true → kLe b a = true → a = b := by
  unfold kLe kLt
  rcases a with a | a <;> rcases b with b | b <;> simp
  · omega
  · intro h1 h2
    exact ext_tl (List.le_antisymm h1 h2)
def sortK (ks : List Key) : List Key := ks.mergeSort kLe
theorem sortK_perm (ks : List Key) : (sortK ks).Perm ks := List.mergeSort_perm ks kLe
theorem sortK_srt (ks : List Key) : SortedK (sortK ks) := (List.pairwise_mergeSort kLe_trans kLe_total ks).imp fun {a b} h => by
  unfold kLe at h
  simpa using h
theorem sortK_eq {ys ks : List Key} (p : ys.Perm ks) (s : SortedK ys) : ys = sortK ks := by
  refine List.Perm.eq_of_pairwise (le := fun a b => kLt b a = false) (fun a b _ _ h1 h2 => kLe_anti a b ?_ ?_) s (sortK_srt ks) (p.trans (sortK_perm ks).symm)
  · unfold kLe; rw [h1]; rfl
  · unfold kLe; rw [h2]; rfl
theorem sortK_len (ks : List Key) : (sortK ks).length = ks.length := (sortK_perm ks).length_eq
theorem sortK_mem {ks : List Key} {k : Key} : k ∈ sortK ks ↔ k ∈ ks := (sortK_perm ks).mem_iff
theorem sortK_nd {ks : List Key} (h : ks.Nodup) : (sortK ks).Nodup := (sortK_perm ks).nodup_iff.mpr h
/-! ## states -/
structure Ro where
  k : Key
  a : Addr
  vs : List V
def roK (rs : List Ro) : List (Key × V) := rs.map fun r => (r.k, V.ref r.a)
def roN (rs : List Ro) : List Key := rs.map fun r => r.k
theorem roK_keys (rs : List Ro) : (roK rs).map (·.1) = roN rs := by unfold roK roN; rw [List.map_map]; rfl
/-- the rows rs stand in the dict at d -/
structure TAt (H : Hp) (d : Addr) (rs : List Ro) : Prop where
  dk : H d = some (.dK (roK rs))
  rt : ∀ r ∈ rs, H r.a = some (.tup r.vs)
  nd : (roN rs).Nodup
theorem TAt.mono {H H' : Hp} {d : Addr} {rs : List Ro} (h : TAt H d rs) (kt : KeepT H H') (e : ∀ o, H d = some o → H' d = some o) : TAt H' d rs := ⟨e _ h.dk, fun r hr => kt _ _ (h.rt r hr), h.nd⟩
theorem ro_one {rs : List Ro} (nd : (roN rs).Nodup) {r q : Ro} (hr : r ∈ rs) (hq : q ∈ rs) (e : r.k = q.k) : r = q := by
  obtain ⟨i, hi, ei⟩ := List.getElem_of_mem hr
  obtain ⟨j, hj, ej⟩ := List.getElem_of_mem hq
  have a1 : (roN rs)[i]? = some r.k := by unfold roN; rw [List.getElem?_map, List.getElem?_eq_getElem hi, ei]; rfl
  have a2 : (roN rs)[j]? = some r.k := by unfold roN; rw [List.getElem?_map, List.getElem?_eq_getElem hj, ej]; exact congrArg some e.symm
  have := nd_ix nd a1 a2
  subst this
  rw [← ei, ← ej]
theorem ro_get {rs : List Ro} (nd : (roN rs).Nodup) {r : Ro} (hr : r ∈ rs) : valV (roK rs) r.k = some (.ref r.a) := by
  obtain ⟨i, hi, e⟩ := List.getElem_of_mem hr
  refine valV_at (i := i) (by rw [roK_keys]; exact nd) ?_
  unfold roK
  rw [List.getElem?_map, List.getElem?_eq_getElem hi, e]
  rfl
theorem ro_none {rs : List Ro} {k : Key} (h : k ∉ roN rs) : valV (roK rs) k = none := by
  cases e : valV (roK rs) k with
  | none => rfl
  | some v =>
    have := valV_in e
    rw [roK_keys] at this
    exact absurd this h
theorem ro_mem {rs : List Ro} {k : Key} (h : k ∈ roN rs) : ∃ r ∈ rs, r.k = k := by
  obtain ⟨r, h1, h2⟩ := List.mem_map.mp h
  exact ⟨r, h1, h2⟩
theorem TAt.get {H : Hp} {d : Addr} {rs : List Ro} (h : TAt H d rs) {r : Ro} (hr : r ∈ rs) : DGet H d (kV r.k) (some (.ref r.a)) := by
  have g := DGet.k (k := r.k) h.dk
  rw [ro_get h.nd hr] at g
  exact g
/-- rs with the row r put in -/
def putRo (rs : List Ro) (r : Ro) : List Ro := if (rs.any fun q => decide (q.k = r.k)) = true then rs.map (fun q => if q.k = r.k then ⟨q.k, r.a, r.vs⟩ else q) else rs ++ [r]
theorem putRo_K (rs : List Ro) (r : Ro) : putK (roK rs) r.k (.ref r.a) = roK (putRo rs r) := by
  unfold putK putRo roK
  rw [List.any_map]
  have e : ((fun kv : Key × V => decide (kv.1 = r.k)) ∘ fun r => (r.k, V.ref r.a)) = fun q : Ro => decide (q.k = r.k) := rfl
  rw [e]
  split
  · rw [List.map_map, List.map_map]
    refine List.map_congr_left fun q _ => ?_
    show (if q.k = r.k then (q.k, V.ref r.a) else (q.k, V.ref q.a)) = _
    show _ = ((if q.k = r.k then (⟨q.k, r.a, r.vs⟩ : Ro) else q).k, V.ref (if q.k = r.k then (⟨q.k, r.a, r.vs⟩ : Ro) else q).a)
    split <;> rfl
  · rw [List.map_append]; rfl
theorem putRo_N (rs : List Ro) (r : Ro) : (roN (putRo rs r) = roN rs ∧ r.k ∈ roN rs) ∨ (roN (putRo rs r) = roN rs ++ [r.k] ∧ r.k ∉ roN rs) := by
  unfold putRo roN
  by_cases h : (rs.any fun q => decide (q.k = r.k)) = true
  · have h2 : r.k ∈ rs.map fun r => r.k := by
      obtain ⟨q, h1, h2⟩ := List.any_eq_true.mp h
      exact List.mem_map.mpr ⟨q, h1, of_decide_eq_true h2⟩
    rw [if_pos h]
    refine .inl ⟨?_, h2⟩
    rw [List.map_map]
    refine List.map_congr_left fun q _ => ?_
    show (if q.k = r.k then (⟨q.k, r.a, r.vs⟩ : Ro) else q).k = q.k
    split <;> rfl
  · have h2 : ¬ r.k ∈ rs.map fun r => r.k := fun z => by
      obtain ⟨q, h1, h2⟩ := List.mem_map.mp z
      exact h (List.any_eq_true.mpr ⟨q, h1, decide_eq_true h2⟩)
    rw [if_neg h]
    exact .inr ⟨by rw [List.map_append]; rfl, h2⟩
theorem putRo_nd {rs : List Ro} (nd : (roN rs).Nodup) (r : Ro) : (roN (putRo rs r)).Nodup := by
  rcases putRo_N rs r with ⟨e, _⟩ | ⟨e, h⟩ <;> rw [e]
  · exact nd
  · refine List.nodup_append.mpr ⟨nd, by simp, fun x hx y hy => ?_⟩
    have : y = r.k := by simpa using hy
    subst this
    rintro rfl
    exact h hx
theorem putRo_len (rs : List Ro) (r : Ro) : (putRo rs r).length ≤ rs.length + 1 := by
  unfold putRo
  split
  · rw [List.length_map]; omega
  · rw [List.length_append]; simp
/-- a row put in is the one, or one of before -/
theorem putRo_mem {rs : List Ro} {r q : Ro} (h : q ∈ putRo rs r) : (q.k = r.k ∧ q.a = r.a ∧ q.vs = r.vs) ∨ q ∈ rs := by
  unfold putRo at h
  split at h
  · obtain ⟨x, h1, h2⟩ := List.mem_map.mp h
    split at h2
    · rename_i e
      rw [← h2]
      exact .inl ⟨e, rfl, rfl⟩
    · rw [← h2]; exact .inr h1
  · rcases List.mem_append.mp h with h | h
    · exact .inr h
    · rw [List.mem_singleton.mp h]; exact .inl ⟨rfl, rfl, rfl⟩
/-- the rows of a table fit its columns -/
structure RowFit (cols : List Col) (r : Ro) : Prop where
  k : ∀ c, cols[0]? = some c → ValOf c.k false (kV r.k)
  r : RestOf cols r.vs
theorem one_kind {cols : List Col} {rs : List Ro} {c : Col} (hc : cols[0]? = some c) (h : ∀ r ∈ rs, RowFit cols r) : OneKind (roN rs) := by
  by_cases e : c.k = ("int" : Str)
  · refine .inl ⟨(roN rs).map (fun k => match k with | .inl i => i | .inr _ => 0), ?_⟩
    rw [List.map_map]
    refine (List.map_congr_left (g := id) fun k hk => ?_).trans (List.map_id _) |>.symm
    obtain ⟨r, hr, rfl⟩ := ro_mem hk
    have v := (h r hr).k c hc
    cases hk2 : r.k with
    | inl i => rfl
    | inr x =>
      rw [hk2] at v
      rcases v with ⟨z, _⟩ | ⟨_, i, z, _⟩ | ⟨z, _⟩
      · cases z
      · cases z
      · exact absurd e z
  · refine .inr ⟨(roN rs).map (fun k => match k with | .inl i => "" | .inr x => x), ?_⟩
    rw [List.map_map]
    refine (List.map_congr_left (g := id) fun k hk => ?_).trans (List.map_id _) |>.symm
    obtain ⟨r, hr, rfl⟩ := ro_mem hk
    have v := (h r hr).k c hc
    cases hk2 : r.k with
    | inr x => rfl
    | inl i =>
      rw [hk2] at v
      rcases v with ⟨z, _⟩ | ⟨z, _⟩ | ⟨_, y, z, _⟩
      · cases z
      · exact absurd z e
      · cases z
/-! ### rows as tuples -/
def restAt (rs : List Ro) (k : Key) : List V := match rs.find? (fun r => decide (r.k = k)) with | some r => r.vs | none => []
def rowsM (rs : List Ro) : List (List V) := (sortK (roN rs)).map fun k => kV k :: restAt rs k
theorem restAt_eq {rs : List Ro} (nd : (roN rs).Nodup) {r : Ro} (hr : r ∈ rs) : restAt rs r.k = r.vs := by
  unfold restAt
  cases e : rs.find? (fun q => decide (q.k = r.k)) with
  | none =>
    have := List.find?_eq_none.mp e r hr
    simp at this
  | some q =>
    have h1 := List.mem_of_find?_eq_some e
    have h2 : q.k = r.k := by simpa using List.find?_some e
    rw [ro_one nd h1 hr h2]
theorem rowsM_len (rs : List Ro) : (rowsM rs).length = rs.length := by unfold rowsM; rw [List.length_map, sortK_len]; unfold roN; rw [List.length_map]
theorem rowsM_mem {rs : List Ro} (nd : (roN rs).Nodup) {x : List V} (h : x ∈ rowsM rs) : ∃ r ∈ rs, x = kV r.k :: r.vs := by
  obtain ⟨k, hk, rfl⟩ := List.mem_map.mp h
  obtain ⟨r, hr, rfl⟩ := ro_mem (sortK_mem.mp hk)
  exact ⟨r, hr, by rw [restAt_eq nd hr]⟩
/-- a list of tuples stands at L -/
def RowsAt (H : Hp) (L : Addr) (rws : List (List V)) : Prop := ∃ as : List Addr, H L = some (.lst (as.map V.ref)) ∧ as.length = rws.length ∧ ∀ (i : Nat) (a : Addr) (r : List V), as[i]? = some a → rws[i]? = some r → H a = some (.tup r)
theorem RowsAt.mono {H H' : Hp} {L : Addr} {rws : List (List V)} (h : RowsAt H L rws) (kt : KeepT H H') (e : ∀ o, H L = some o → H' L = some o) : RowsAt H' L rws := by
  obtain ⟨as, h1, h2, h3⟩ := h
  exact ⟨as, e _ h1, h2, fun i a r ha hr => kt _ _ (h3 i a r ha hr)⟩
theorem RowsAt.same {H H' : Hp} {L : Addr} {rws : List (List V)} (h : RowsAt H L rws) (e : Same H H') : RowsAt H' L rws := h.mono (KeepT.of e) fun o => e _ _
theorem RowsAt.get {H : Hp} {L : Addr} {rws : List (List V)} (h : RowsAt H L rws) : ∃ xs, H L = some (.lst xs) ∧ xs.length = rws.length ∧ ∀ (i : Nat) (x : V), xs[i]? = some x → ∃ (a : Addr) (r : List V), x = .ref a ∧ rws[i]? = some r ∧ H a = some (.tup r) := by
  obtain ⟨as, h1, h2, h3⟩ := h
  refine ⟨_, h1, by rw [List.length_map]; exact h2, fun i x hx => ?_⟩
  rw [List.getElem?_map] at hx
  cases e : as[i]? with
  | none => rw [e] at hx; cases hx
  | some a =>
    rw [e] at hx
    cases hx
    have hi := (List.getElem?_eq_some_iff.mp e).1
    have er : rws[i]? = some rws[i] := List.getElem?_eq_getElem (by omega)
    exact ⟨a, rws[i], rfl, er, h3 i a _ e er⟩
/-- the state of a table, by its name -/
structure TS where
  n : Str
  d : Addr
  rs : List Ro
def stK (st : List TS) : List (Key × V) := st.map fun p => ((Sum.inr p.n : Key), V.ref p.d)
def stN (st : List TS) : List Str := st.map fun p => p.n
theorem st_keys (st : List TS) : (stK st).map (·.1) = (stN st).map Sum.inr := by unfold stK stN; rw [List.map_map, List.map_map]; rfl
structure StAt (H : Hp) (T : Addr) (st : List TS) : Prop where
  sk : H T = some (.dK (stK st))
  ds : ∀ p ∈ st, TAt H p.d p.rs
  nm : (stN st).Nodup
theorem StAt.mono {H H' : Hp} {T : Addr} {st : List TS} (h : StAt H T st) (e : Same H H') : StAt H' T st := ⟨e _ _ h.sk, fun p hp => (h.ds p hp).mono (KeepT.of e) fun o => e _ _, h.nm⟩
theorem st_nd {st : List TS} (h : (stN st).Nodup) : ((stK st).map (·.1)).Nodup := by
  rw [st_keys]
  exact List.Pairwise.map _ (fun a b e z => e (Sum.inr.inj z)) h
theorem st_get {st : List TS} (h : (stN st).Nodup) {p : TS} (hp : p ∈ st) : valV (stK st) (Sum.inr p.n : Key) = some (.ref p.d) := by
  obtain ⟨i, hi, e⟩ := List.getElem_of_mem hp
  refine valV_at (i := i) (st_nd h) ?_
  unfold stK
  rw [List.getElem?_map, List.getElem?_eq_getElem hi, e]
  rfl
theorem StAt.get {H : Hp} {T : Addr} {st : List TS} (h : StAt H T st) {p : TS} (hp : p ∈ st) : DGet H T (.str p.n) (some (.ref p.d)) := by
  have g := DGet.k (k := (Sum.inr p.n : Key)) h.sk
  rw [st_get h.nm hp] at g
  exact g
theorem st_in {st : List TS} {n : Str} (h : n ∈ stN st) : ∃ p ∈ st, p.n = n := by
  obtain ⟨p, h1, h2⟩ := List.mem_map.mp h
  exact ⟨p, h1, h2⟩
theorem st_one {st : List TS} (h : (stN st).Nodup) {p q : TS} (hp : p ∈ st) (hq : q ∈ st) (e : p.n = q.n) : p = q := by
  obtain ⟨i, hi, ei⟩ := List.getElem_of_mem hp
  obtain ⟨j, hj, ej⟩ := List.getElem_of_mem hq
  have a1 : (stN st)[i]? = some p.n := by unfold stN; rw [List.getElem?_map, List.getElem?_eq_getElem hi, ei]; rfl
  have a2 : (stN st)[j]? = some p.n := by unfold stN; rw [List.getElem?_map, List.getElem?_eq_getElem hj, ej]; exact congrArg some e.symm
  have := nd_ix h a1 a2
  subst this
  rw [← ei, ← ej]
/-! ### a state as data -/
def rowG (vs : List V) : G := .t (vs.map G.s)
def tabStG (rs : List Ro) : G := .d (rs.map fun r => (r.k, rowG r.vs))
def stG (st : List TS) : G := .d (st.map fun p => ((Sum.inr p.n : Key), tabStG p.rs))
theorem scals_L {H : Hp} : ∀ {xs : List V}, (∀ v ∈ xs, isScal v = true) → GpL H xs (xs.map G.s) []
  | [], _ => .nil
  | x :: r, h => GpL.cons (D := []) (E := []) (.s (h x List.mem_cons_self)) (scals_L fun v hv => h v (List.mem_cons_of_mem _ hv))
theorem rows_gp {H : Hp} : ∀ {rs : List Ro}, (∀ r ∈ rs, H r.a = some (.tup r.vs)) → (∀ r ∈ rs, r.vs.length ≤ 100 ∧ ∀ v ∈ r.vs, isScal v = true) → GpK H (roK rs) (rs.map fun r => (r.k, rowG r.vs)) []
  | [], _, _ => .nil
  | r :: rs, h, k => by
    have := rows_gp (fun q hq => h q (List.mem_cons_of_mem _ hq)) (fun q hq => k q (List.mem_cons_of_mem _ hq))
    have k1 := k r List.mem_cons_self
    exact GpK.cons (D := []) (E := []) (.t (h r List.mem_cons_self) (by omega) (scals_L k1.2)) this
theorem RestOf.scal {cols : List Col} {vs : List V} (h : RestOf cols vs) : ∀ v ∈ vs, isScal v = true := fun v hv => by
  obtain ⟨i, hi, e⟩ := List.getElem_of_mem hv
  have := h.1
  exact (h.2 i cols[i + 1] v (List.getElem?_eq_getElem (by omega)) (by rw [List.getElem?_eq_getElem hi, e])).scal
/-- the rows of a table: few, and each fits -/
structure TabFit (cols : List Col) (rs : List Ro) : Prop where
  l : rs.length ≤ 200
  f : ∀ r ∈ rs, RowFit cols r
theorem tabst_gp {H : Hp} {d : Addr} {rs : List Ro} {cols : List Col} (h : TAt H d rs) (f : TabFit cols rs) (hc : cols.length ≤ 50) : Gp H (.ref d) (tabStG rs) [d] := by
  have := f.l
  refine .d h.dk (by unfold roK; rw [List.length_map]; omega) (by rw [roK_keys]; exact h.nd) (rows_gp h.rt fun r hr => ?_) (by intro z; cases z)
  have k := (f.f r hr).r
  have := k.1
  exact ⟨by omega, k.scal⟩
theorem tabst_dep (rs : List Ro) : (tabStG rs).dep ≤ 2 := by
  have : depK (rs.map fun r => (r.k, rowG r.vs)) ≤ 1 := depK_le fun p hp => by
    obtain ⟨r, _, rfl⟩ := List.mem_map.mp hp
    have : depL (r.vs.map G.s) ≤ 0 := depL_le fun g hg => by
      obtain ⟨v, _, rfl⟩ := List.mem_map.mp hg
      exact Nat.le_refl 0
    simp only [rowG, G.dep]; omega
  simp only [tabStG, G.dep]; omega
theorem st_dep (st : List TS) : (stG st).dep ≤ 3 := by
  have : depK (st.map fun p => ((Sum.inr p.n : Key), tabStG p.rs)) ≤ 2 := depK_le fun p hp => by
    obtain ⟨t, _, rfl⟩ := List.mem_map.mp hp
    exact tabst_dep _
  simp only [stG, G.dep]; omega
theorem sts_gp {H : Hp} : ∀ {st : List TS}, (∀ p ∈ st, TAt H p.d p.rs) → (∀ p ∈ st, ∃ cols : List Col, cols.length ≤ 50 ∧ TabFit cols p.rs) → GpK H (stK st) (st.map fun p => ((Sum.inr p.n : Key), tabStG p.rs)) (st.map fun p => p.d)
  | [], _, _ => .nil
  | p :: r, h, k => by
    have q := sts_gp (fun q hq => h q (List.mem_cons_of_mem _ hq)) (fun q hq => k q (List.mem_cons_of_mem _ hq))
    obtain ⟨cols, h1, h2⟩ := k p List.mem_cons_self
    exact GpK.cons (D := [p.d]) (tabst_gp (h p List.mem_cons_self) h2 h1) q
theorem StAt.g {H : Hp} {T : Addr} {st : List TS} (A : StAt H T st) (k : ∀ p ∈ st, ∃ cols : List Col, cols.length ≤ 50 ∧ TabFit cols p.rs) (l : st.length ≤ 100) (ne : ∀ p ∈ st, p.d ≠ T) : Gp H (.ref T) (stG st) (T :: st.map fun p => p.d) := by
  refine .d A.sk (by unfold stK; rw [List.length_map]; omega) (st_nd A.nm) (sts_gp A.ds k) fun hm => ?_
  obtain ⟨p, hp, e⟩ := List.mem_map.mp hm
  exact ne p hp e
end Lt

set_option autoImplicit false
namespace Lt
open PySem L2 TL
open C8 (pss_cut)
theorem alike_scal {v w : V} (h : Alike v w) : scal v w = true := by rcases h with ⟨a, b, rfl, rfl⟩ | ⟨a, b, rfl, rfl⟩ <;> rfl
def spCompares : Sp := fun vs H Q _ => ∃ v op w, vs = [v, .str op, w] ∧ Alike v w ∧ Q (.bl (cmpM v op w)) H
def spClauseH (K : PySem.W.Frag) : Sp := fun vs H Q _ => ∃ (a n r : Addr) (cl : Cl) (names : List Str) (row : List V), vs = [.ref a, .ref n, .ref r] ∧ SqT K H a [.str cl.n, .str cl.op, cl.v] ∧ SqL K H n (names.map V.str) ∧ SqT K H r row ∧ row.length = names.length ∧
  isScal (at_ names row cl.n) = true ∧ ClFit names row cl ∧ Q (.bl (clauseM names row cl)) H
structure Ask (H : Hp) (c n r : Addr) (cond : Cond) (names : List Str) (row : List V) : Prop where
  cn : Tp H (.ref c) (condD cond)
  nm : H n = some (.lst (names.map V.str))
  rw : H r = some (.tup row)
  ln : row.length = names.length
  sc : ∀ v ∈ row, isScal v = true
  ft : ∀ a ∈ cond, ∀ cl ∈ a, ClFit names row cl
  sm : ∀ a ∈ cond, a.length ≤ 100
def spHolds : Sp := fun vs H Q _ => ∃ (c n r : Addr) (cond : Cond) (names : List Str) (row : List V), vs = [.ref c, .ref n, .ref r] ∧ Ask H c n r cond names row ∧ ∀ H', Same H H' → Q (.bl (holdsM names row cond)) H'
theorem Ask.mono {H H' : Hp} {c n r : Addr} {cond : Cond} {names : List Str} {row : List V} (A : Ask H c n r cond names row) (s : Same H H') : Ask H' c n r cond names row :=
  ⟨A.cn.mono (KeepT.of s), s _ _ A.nm, s _ _ A.rw, A.ln, A.sc, A.ft, A.sm⟩
theorem at_scal {names : List Str} {row : List V} {n : Str} (h : ∀ v ∈ row, isScal v = true) : isScal (at_ names row n) = true := by
  unfold at_
  rw [List.getD_eq_getElem?_getD]
  cases e : row[names.idxOf n]? with
  | none => rfl
  | some v => exact h v (List.mem_of_getElem? e)
theorem all_take {α : Type} {f : α → Bool} {xs : List α} {i : Nat} {x : α} (e : xs[i]? = some x) : (xs.take (i + 1)).all f = ((xs.take i).all f && f x) := by
  rw [List.take_add_one, e, List.all_append]; simp
theorem any_take {α : Type} {f : α → Bool} {xs : List α} {i : Nat} {x : α} (e : xs[i]? = some x) : (xs.take (i + 1)).any f = ((xs.take i).any f || f x) := by
  rw [List.take_add_one, e, List.any_append]; simp
def spNear : Sp := fun vs H Q _ => ∃ (t tc : Addr) (cs : List Int) (c n r : Addr) (cond : Cond) (names : List Str) (row : List V), vs = [.ref t, .ref c, .ref n, .ref r] ∧ TapeAt H t tc cs ∧ Ask H c n r cond names row ∧ cond.length ≤ 100 ∧
  ∀ p cond' H', Tp H' (.ref p) (condD cond') → (∀ a ∈ cond', ∀ cl ∈ a, ClFit names row cl) → (∀ a ∈ cond', a.length ≤ 100) → TapeAt H' t tc cs → SameX t H H' → Q (.ref p) H'

/-! ## faults -/
def headV (r : List V) : V := r.headD .non
def badC (tab : Tab) (r : List V) : Bool := !(tab.ch.all (holdsM (colNs tab.cols) r))
def clash (ns : List Str) (x y : List V) (n : Str) : Bool := !decide (at_ ns y n = .non) && decide (at_ ns x n = at_ ns y n)
def badU (tab : Tab) (earlier : List (List V)) (r : List V) : Bool := tab.un.any fun n => earlier.any fun x => clash (colNs tab.cols) x r n
def badR (ks : Str → List Key) (tab : Tab) (r : List V) : Bool := tab.rf.any fun p => !decide (at_ (colNs tab.cols) r p.1 = .non) && !((ks p.2).any fun k => decide (kV k = at_ (colNs tab.cols) r p.1))
def keysF (rws : List (List V)) : List V := (rws.drop 60).map headV
def keysC (tab : Tab) (rws : List (List V)) : List V := (rws.filter (badC tab)).map headV
def keysU (tab : Tab) (rws : List (List V)) : List V := ((List.range rws.length).filter fun k => badU tab (rws.take k) (rws.getD k [])).map fun k => headV (rws.getD k [])
def keysR (ks : Str → List Key) (tab : Tab) (rws : List (List V)) : List V := (rws.filter (badR ks tab)).map headV
def faultT (ks : Str → List Key) (tab : Tab) (rws : List (List V)) : Option (Str × V) :=
  match keysF rws with
  | k :: _ => some ("full", k)
  | [] => match keysC tab rws with
    | k :: _ => some ("check", k)
    | [] => match keysU tab rws with
      | k :: _ => some ("unique", k)
      | [] => match keysR ks tab rws with
        | k :: _ => some ("reference", k)
        | [] => none
/-- rows that fit the columns -/
structure RowsFit (cols : List Col) (rws : List (List V)) : Prop where
  l : rws.length ≤ 200
  n : ∀ r ∈ rws, r.length = cols.length
  v : ∀ r ∈ rws, ∀ (i : Nat) (col : Col) (v : V), cols[i]? = some col → r[i]? = some v → ValOf col.k col.b v
theorem RowsFit.scal {cols : List Col} {rws : List (List V)} (h : RowsFit cols rws) {r : List V} (hr : r ∈ rws) : ∀ v ∈ r, isScal v = true := fun v hv => by
  obtain ⟨i, hi, e⟩ := List.getElem_of_mem hv
  have := h.n r hr
  exact (h.v r hr i cols[i] v (List.getElem?_eq_getElem (by omega)) (by rw [List.getElem?_eq_getElem hi, e])).scal
theorem rowsM_fit {cols : List Col} {rs : List Ro} (nd : (roN rs).Nodup) (f : TabFit cols rs) (hd : ∀ c, cols[0]? = some c → c.b = false) : RowsFit cols (rowsM rs) := by
  refine ⟨by rw [rowsM_len]; exact f.l, fun x hx => ?_, fun x hx i col v hc hv => ?_⟩
  · obtain ⟨r, hr, rfl⟩ := rowsM_mem nd hx
    have := (f.f r hr).r.1
    rw [List.length_cons]; omega
  · obtain ⟨r, hr, rfl⟩ := rowsM_mem nd hx
    match i, hc, hv with
    | 0, hc, hv =>
      have hv' : kV r.k = v := by simpa using hv
      rw [← hv', hd col hc]
      exact (f.f r hr).k col hc
    | i + 1, hc, hv => exact (f.f r hr).r.2 i col v hc (by simpa using hv)
theorem RowsFit.ne {cols : List Col} {rws : List (List V)} (h : RowsFit cols rws) (l0 : 1 ≤ cols.length) {r : List V} (hr : r ∈ rws) : ∃ v vs, r = v :: vs := by
  cases r with
  | nil => have := h.n _ hr; simp at this; omega
  | cons v vs => exact ⟨v, vs, rfl⟩
def spRows : Sp := fun vs H Q _ => ∃ (T : Addr) (n : Str) (d : Addr) (rs : List Ro), vs = [.ref T, .str n] ∧ DGet H T (.str n) (some (.ref d)) ∧ TAt H d rs ∧ OneKind (roN rs) ∧ (∀ r ∈ rs, r.vs.length ≤ 50) ∧ rs.length ≤ 200 ∧ ∀ L H', RowsAt H' L (rowsM rs) → Same H H' → H L = none → Q (.ref L) H'
def spSortedRows : Sp := fun vs H Q _ => ∃ (d : Addr) (rs : List Ro), vs = [.ref d] ∧ TAt H d rs ∧ OneKind (roN rs) ∧ (∀ r ∈ rs, r.vs.length ≤ 50) ∧ rs.length ≤ 200 ∧ ∀ L H', RowsAt H' L (rowsM rs) → Same H H' → H L = none → Q (.ref L) H'
end Lt

set_option autoImplicit false
namespace Lt
open PySem L2 TL
open C8 (pss_cut)
section
variable {α : Type} [DecidableEq α]
theorem valV_isSome : ∀ {kvs : List (α × V)} {k : α}, (valV kvs k).isSome = true ↔ k ∈ kvs.map (·.1)
  | [], k => by simp [valV]
  | (k0, v0) :: r, k => by
    rw [List.map_cons, List.mem_cons]
    by_cases h : k0 = k
    · rw [valV_pos h]; simp [h]
    · rw [valV_neg h, valV_isSome]
      exact ⟨.inr, fun z => z.resolve_left fun e => h e.symm⟩
theorem putK_mem {kvs : List (α × V)} {k k' : α} {v : V} : k' ∈ (putK kvs k v).map (·.1) ↔ k' = k ∨ k' ∈ kvs.map (·.1) := by
  unfold putK
  split
  · rename_i h
    obtain ⟨p, h1, h2⟩ := List.any_eq_true.mp h
    have hk : k ∈ kvs.map (·.1) := List.mem_map.mpr ⟨p, h1, of_decide_eq_true h2⟩
    have e : (kvs.map fun kv => if kv.1 = k then (kv.1, v) else kv).map (·.1) = kvs.map (·.1) := by
      rw [List.map_map]
      refine List.map_congr_left fun q _ => ?_
      show (if q.1 = k then (q.1, v) else q).1 = q.1
      split <;> rfl
    rw [e]
    exact ⟨.inr, fun z => z.elim (fun e => e ▸ hk) id⟩
  · rw [List.map_append, List.mem_append]
    simp only [List.map_cons, List.map_nil, List.mem_singleton]
    exact ⟨fun z => z.elim .inr .inl, fun z => z.elim .inr .inl⟩
end
def vKey : V → Key
  | .int i => .inl i
  | .str x => .inr x
  | _ => .inl 0
theorem kV_vKey {k : Str} {b : Bool} {v : V} (h : ValOf k b v) (n : v ≠ .non) : kV (vKey v) = v := by
  rcases h with ⟨_, rfl⟩ | ⟨_, i, rfl, _⟩ | ⟨_, z, rfl, _⟩
  · exact absurd rfl n
  · rfl
  · rfl
/-- what the uniques say of a row: its pairs of place and value -/
def givenM (tab : Tab) (r : List V) : List (List Key) := (tab.un.filter fun n => !decide (at_ (colNs tab.cols) r n = .non)).map fun n => [Sum.inl (((colNs tab.cols).idxOf n : Nat) : Int), vKey (at_ (colNs tab.cols) r n)]
theorem given_mem {tab : Tab} {r : List V} {M : List Key} : M ∈ givenM tab r ↔ ∃ n ∈ tab.un, at_ (colNs tab.cols) r n ≠ .non ∧ M = [Sum.inl (((colNs tab.cols).idxOf n : Nat) : Int), vKey (at_ (colNs tab.cols) r n)] := by
  unfold givenM
  rw [List.mem_map]
  constructor
  · rintro ⟨n, h1, rfl⟩
    obtain ⟨h2, h3⟩ := List.mem_filter.mp h1
    exact ⟨n, h2, by simpa using h3, rfl⟩
  · rintro ⟨n, h1, h2, rfl⟩
    exact ⟨n, List.mem_filter.mpr ⟨h1, by simpa using h2⟩, rfl⟩
theorem at_val {cols : List Col} {rws : List (List V)} (F : RowsFit cols rws) {r : List V} (hr : r ∈ rws) {n : Str} (hn : n ∈ colNs cols) : ∃ k b, ValOf k b (at_ (colNs cols) r n) := by
  obtain ⟨j, e1, e2, _, _⟩ := idx_str hn
  have hj : j < cols.length := by unfold colNs at e2; rwa [List.length_map] at e2
  have hl := F.n r hr
  have er : r[j]? = some r[j] := List.getElem?_eq_getElem (by omega)
  have ea : at_ (colNs cols) r n = r[j] := by unfold at_; rw [← e1]; exact getD_some er
  rw [ea]
  exact ⟨_, _, F.v r hr j cols[j] _ (List.getElem?_eq_getElem hj) er⟩
theorem idx_inj {ns : List Str} {n m : Str} (hn : n ∈ ns) (hm : m ∈ ns) (e : ns.idxOf n = ns.idxOf m) : n = m := by
  obtain ⟨j, e1, e2, e3, _⟩ := idx_str hn
  obtain ⟨k, f1, f2, f3, _⟩ := idx_str hm
  have : j = k := by omega
  subst this
  rw [e3] at f3
  exact Option.some.inj f3
/-- a pair that an earlier row has -/
theorem badU_iff {fr : List (Str × List Col)} {tab : Tab} (ok : TabOk fr tab) {rws : List (List V)} (F : RowsFit tab.cols rws) {i : Nat} {r : List V} (hr : rws[i]? = some r) :
    ((∃ M ∈ givenM tab r, ∃ x ∈ rws.take i, M ∈ givenM tab x) ↔ badU tab (rws.take i) r = true) := by
  have hm := List.mem_of_getElem? hr
  have un : ∀ n ∈ tab.un, n ∈ colNs tab.cols := fun n hn => by
    have := ok.uc n hn
    unfold colNs at this ⊢
    rw [List.map_drop] at this
    exact List.mem_of_mem_drop this
  constructor
  · rintro ⟨M, h1, x, hx, h2⟩
    obtain ⟨n, n1, n2, rfl⟩ := given_mem.mp h1
    obtain ⟨m, m1, m2, e⟩ := given_mem.mp h2
    have hxm := List.mem_of_mem_take hx
    have e1 : (((colNs tab.cols).idxOf n : Nat) : Int) = (((colNs tab.cols).idxOf m : Nat) : Int) := Sum.inl.inj (List.cons.inj e).1
    have e2 : vKey (at_ (colNs tab.cols) r n) = vKey (at_ (colNs tab.cols) x m) := (List.cons.inj (List.cons.inj e).2).1
    have enm : n = m := idx_inj (un n n1) (un m m1) (by omega)
    subst enm
    obtain ⟨_, _, v1⟩ := at_val F hm (un n n1)
    obtain ⟨_, _, v2⟩ := at_val F hxm (un n n1)
    unfold badU
    refine List.any_eq_true.mpr ⟨n, n1, List.any_eq_true.mpr ⟨x, hx, ?_⟩⟩
    unfold clash
    rw [decide_eq_false n2, decide_eq_true (show at_ (colNs tab.cols) x n = at_ (colNs tab.cols) r n by rw [← kV_vKey v2 m2, ← e2, kV_vKey v1 n2])]
    rfl
  · intro h
    unfold badU at h
    obtain ⟨n, n1, h⟩ := List.any_eq_true.mp h
    obtain ⟨x, hx, h⟩ := List.any_eq_true.mp h
    unfold clash at h
    simp only [Bool.and_eq_true, Bool.not_eq_true', decide_eq_false_iff_not, decide_eq_true_eq] at h
    refine ⟨_, given_mem.mpr ⟨n, n1, h.1, rfl⟩, x, hx, given_mem.mpr ⟨n, n1, by rw [h.2]; exact h.1, by rw [h.2]⟩⟩
theorem given_len (tab : Tab) (r : List V) : (givenM tab r).length ≤ tab.un.length := by unfold givenM; rw [List.length_map]; exact List.length_filter_le _ _
/-- data of scalars for a comparison of lists -/
theorem vals_dp {K : PySem.W.Frag} {H : Hp} {vs : List V} : (∀ v ∈ vs, ∃ k b, ValOf k b v) → ∃ ds : List PyData, DpAll K H vs ds ∧ ds.length = vs.length ∧ PyData.canLayAll0 ds = true ∧ PyData.depthAll ds ≤ 1 := by
  induction vs with
  | nil => intro _; exact ⟨[], .nil, rfl, by simp [PyData.canLayAll0], by simp [PyData.depthAll]⟩
  | cons v r ih =>
    intro h
    obtain ⟨ds, h1, h2, h3, h4⟩ := ih fun x hx => h x (List.mem_cons_of_mem _ hx)
    obtain ⟨k, b, hv⟩ := h v List.mem_cons_self
    rcases hv with ⟨_, rfl⟩ | ⟨_, i, rfl, _⟩ | ⟨_, z, rfl, _, hz⟩
    · exact ⟨.none :: ds, .cons .non h1, by simp [h2], by simp [PyData.canLayAll0, PyData.canLay0, h3], by simp only [PyData.depthAll, PyData.depth]; omega⟩
    · exact ⟨.int i :: ds, .cons (.int i) h1, by simp [h2], by simp [PyData.canLayAll0, PyData.canLay0, h3], by simp only [PyData.depthAll, PyData.depth]; omega⟩
    · exact ⟨.str z :: ds, .cons (.str z) h1, by simp [h2], by simp [PyData.canLayAll0, PyData.canLay0, h3, strOk_of hz], by simp only [PyData.depthAll, PyData.depth]; omega⟩
/-- keys != [] -/
theorem ne_empty {K : PySem.W.Frag} {H : Hp} {Q : VK} {a e : Addr} {vs : List V} (ha : H a = some (.lst vs)) (he : H e = some (.lst [])) (h : ∀ v ∈ vs, ∃ k b, ValOf k b v) (q : Q (.bl (!vs.isEmpty)) H) : rNeD K (.ref a) (.ref e) H Q := by
  obtain ⟨ds, h1, h2, h3, h4⟩ := vals_dp (K := K) (H := H) h
  refine ⟨.list ds, .list [], .lst (SqL.of ha) h1, .lst (SqL.of he) .nil, ?_, rfl, ?_⟩
  · simp only [SeqAt.shaped, PyData.canLay0, h3, Bool.true_and, PyData.depth]
    exact decide_eq_true (by omega)
  · have e1 : PyData.eqv (.list ds) (.list []) = vs.isEmpty := by
      cases ds with
      | nil => cases vs with
        | nil => rfl
        | cons v r => cases h2
      | cons d r => cases vs with
        | nil => cases h2
        | cons v s => rfl
    rw [e1]; exact q
/-- pairs made of a row, one by one -/
def GivenAt (H : Hp) (gs : List V) (Ms : List (List Key)) : Prop := gs.length = Ms.length ∧ ∀ (j : Nat) (v : V) (M : List Key), gs[j]? = some v → Ms[j]? = some M → ∃ p, v = .ref p ∧ H p = some (.tup (M.map kV))
theorem GivenAt.mono {H H' : Hp} {gs : List V} {Ms : List (List Key)} (h : GivenAt H gs Ms) (k : KeepT H H') : GivenAt H' gs Ms := ⟨h.1, fun j v M h1 h2 => by
  obtain ⟨p, e, g⟩ := h.2 j v M h1 h2
  exact ⟨p, e, k _ _ g⟩⟩
theorem GivenAt.snoc {H : Hp} {gs : List V} {Ms : List (List Key)} {p : Addr} {M : List Key} (h : GivenAt H gs Ms) (g : H p = some (.tup (M.map kV))) : GivenAt H (gs ++ [.ref p]) (Ms ++ [M]) := by
  refine ⟨by rw [List.length_append, List.length_append, h.1]; rfl, fun j v M' h1 h2 => ?_⟩
  by_cases hj : j < gs.length
  · rw [List.getElem?_append_left hj] at h1
    rw [List.getElem?_append_left (by rw [← h.1]; exact hj)] at h2
    exact h.2 j v M' h1 h2
  · have e : j = gs.length := by
      have := (List.getElem?_eq_some_iff.mp h1).1
      rw [List.length_append, List.length_singleton] at this
      omega
    subst e
    rw [List.getElem?_append_right (Nat.le_refl _), Nat.sub_self] at h1
    rw [List.getElem?_append_right (by rw [h.1]; exact Nat.le_refl _), h.1, Nat.sub_self] at h2
    cases h1
    cases h2
    exact ⟨p, rfl, g⟩
theorem GivenAt.get {H : Hp} {gs : List V} {Ms : List (List Key)} (h : GivenAt H gs Ms) {j : Nat} {v : V} (e : gs[j]? = some v) : ∃ M p, Ms[j]? = some M ∧ v = .ref p ∧ H p = some (.tup (M.map kV)) := by
  have hj := (List.getElem?_eq_some_iff.mp e).1
  have hjm : j < Ms.length := by rw [← h.1]; exact hj
  have em : Ms[j]? = some Ms[j] := List.getElem?_eq_getElem hjm
  obtain ⟨p, e1, e2⟩ := h.2 j v _ e em
  exact ⟨_, p, em, e1, e2⟩
/-- the pairs of the first n uniques -/
def givenT (tab : Tab) (r : List V) (n : Nat) : List (List Key) := ((tab.un.take n).filter fun n => !decide (at_ (colNs tab.cols) r n = .non)).map fun n => [Sum.inl (((colNs tab.cols).idxOf n : Nat) : Int), vKey (at_ (colNs tab.cols) r n)]
theorem givenT_all (tab : Tab) (r : List V) {n : Nat} (h : tab.un.length ≤ n) : givenT tab r n = givenM tab r := by unfold givenT givenM; rw [List.take_of_length_le h]
theorem givenT_len (tab : Tab) (r : List V) (n : Nat) : (givenT tab r n).length ≤ tab.un.length := by
  unfold givenT; rw [List.length_map]
  have a := List.length_filter_le (fun n => !decide (at_ (colNs tab.cols) r n = .non)) (tab.un.take n)
  rw [List.length_take] at a
  omega
theorem givenT_step {tab : Tab} {r : List V} {i : Nat} {n : Str} (h : tab.un[i]? = some n) : givenT tab r (i + 1) = if at_ (colNs tab.cols) r n = .non then givenT tab r i else givenT tab r i ++ [[Sum.inl (((colNs tab.cols).idxOf n : Nat) : Int), vKey (at_ (colNs tab.cols) r n)]] := by
  unfold givenT
  rw [List.take_add_one, h, List.filter_append, List.map_append]
  by_cases e : at_ (colNs tab.cols) r n = .non
  · rw [if_pos e]; simp [e]
  · rw [if_neg e]; simp [e]
theorem range_step {n i : Nat} (P : Nat → Bool) (f : Nat → V) : ((List.range (i + 1)).filter P).map f = if P i = true then ((List.range i).filter P).map f ++ [f i] else ((List.range i).filter P).map f := by
  rw [List.range_succ, List.filter_append, List.map_append]
  cases h : P i <;> simp [h]
def stKs (st : List TS) (n : Str) : List Key := match st.find? (fun p => decide (p.n = n)) with | some p => roN p.rs | none => []
theorem st_find {st : List TS} (nm : (stN st).Nodup) {p : TS} (hp : p ∈ st) : st.find? (fun q => decide (q.n = p.n)) = some p := by
  cases e : st.find? (fun q => decide (q.n = p.n)) with
  | none => have := List.find?_eq_none.mp e p hp; simp at this
  | some q =>
    have h1 := List.mem_of_find?_eq_some e
    have h2 : q.n = p.n := by simpa using List.find?_some e
    rw [st_one nm h1 hp h2]
theorem sch_find {s : Sch} (nm : (schN s).Nodup) {p : Ads × Tab} (hp : p ∈ s) : s.find? (fun q => decide (q.2.n = p.2.n)) = some p := by
  cases e : s.find? (fun q => decide (q.2.n = p.2.n)) with
  | none => have := List.find?_eq_none.mp e p hp; simp at this
  | some q =>
    have h1 := List.mem_of_find?_eq_some e
    have h2 : q.2.n = p.2.n := by simpa using List.find?_some e
    rw [sch_one nm h1 hp h2]
theorem stKs_eq {st : List TS} (nm : (stN st).Nodup) {p : TS} (hp : p ∈ st) : stKs st p.n = roN p.rs := by unfold stKs; rw [st_find nm hp]
/-- is a value a key of the table -/
theorem key_in {rs : List Ro} {k : Str} {b : Bool} {v : V} (h : ValOf k b v) (n : v ≠ .non) : (valV (roK rs) (vKey v)).isSome = ((roN rs).any fun q => decide (kV q = v)) := by
  rw [Bool.eq_iff_iff, valV_isSome, roK_keys, List.any_eq_true]
  constructor
  · intro hm
    exact ⟨_, hm, decide_eq_true (kV_vKey h n)⟩
  · rintro ⟨q, hq, e⟩
    have e := of_decide_eq_true e
    have : vKey v = q := by rw [← e]; cases q <;> rfl
    rw [this]; exact hq
/-- a schema and a state of it -/
structure DB (H : Hp) (S : Addr) (s : Sch) (T : Addr) (st : List TS) : Prop where
  sk : H S = some (.dK (schK s))
  ds : ∀ p ∈ s, DescAt H p.1 p.2
  nm : (schN s).Nodup
  ok : ∀ p ∈ s, TabOk (frOf s) p.2
  l6 : s.length ≤ 6
  sa : StAt H T st
  fit : ∀ p ∈ s, ∃ q ∈ st, q.n = p.2.n ∧ TabFit p.2.cols q.rs
theorem DB.mono {H H' : Hp} {S : Addr} {s : Sch} {T : Addr} {st : List TS} (h : DB H S s T st) (e : Same H H') : DB H' S s T st := ⟨e _ _ h.sk, fun p hp => (h.ds p hp).mono e, h.nm, h.ok, h.l6, h.sa.mono e, h.fit⟩
theorem DB.ref {H : Hp} {S : Addr} {s : Sch} {T : Addr} {st : List TS} (h : DB H S s T st) {p : Ads × Tab} (hp : p ∈ s) : ∀ r ∈ p.2.rf, ∃ q ∈ st, q.n = r.2 := fun r hr => by
  obtain ⟨col, _, _, _, f, hf, ef, _⟩ := (h.ok p hp).rc r hr
  obtain ⟨p', hp', rfl⟩ := List.mem_map.mp hf
  obtain ⟨q, hq, e, _⟩ := h.fit p' hp'
  exact ⟨q, hq, e.trans ef⟩
theorem DB.key {H : Hp} {S : Addr} {s : Sch} {T : Addr} {st : List TS} (h : DB H S s T st) {p : Ads × Tab} (hp : p ∈ s) {rs : List Ro} (f : TabFit p.2.cols rs) : OneKind (roN rs) :=
  one_kind (List.getElem?_eq_getElem (h.ok p hp).l0) f.f
theorem DB.rest {cols : List Col} {rs : List Ro} (l5 : cols.length ≤ 5) (f : TabFit cols rs) : ∀ r ∈ rs, r.vs.length ≤ 50 := fun r hr => by
  have := (f.f r hr).r.1
  omega
def faultN (s : Sch) (st : List TS) (n : Str) : Option (Str × Str × V) :=
  match s.find? (fun p => decide (p.2.n = n)), st.find? (fun q => decide (q.n = n)) with
  | some p, some q => (faultT (stKs st) p.2 (rowsM q.rs)).map fun x => (x.1, n, x.2)
  | _, _ => none
def faultK (s : Sch) (st : List TS) : Key → Option (Str × Str × V)
  | .inr n => faultN s st n
  | .inl _ => none
def faultM (s : Sch) (st : List TS) : Option (Str × Str × V) := (sortK ((schN s).map Sum.inr)).findSome? (faultK s st)
def FaultAt (H : Hp) (v : V) : Option (Str × Str × V) → Prop
  | none => v = .non
  | some (c, n, k) => ∃ p, v = .ref p ∧ H p = some (.tup [.str c, .str n, k]) ∧ isScal k = true
theorem faultN_eq {s : Sch} {st : List TS} (nm : (schN s).Nodup) (nt : (stN st).Nodup) {p : Ads × Tab} {q : TS} (hp : p ∈ s) (hq : q ∈ st) (e : q.n = p.2.n) : faultN s st p.2.n = (faultT (stKs st) p.2 (rowsM q.rs)).map fun x => (x.1, p.2.n, x.2) := by
  unfold faultN
  rw [sch_find nm hp, ← e, st_find nt hq]
/-- leads_nowhere -/
def spLeadsNo : Sp := fun vs H Q _ => ∃ (S : Addr) (s : Sch) (T : Addr) (st : List TS) (p : Ads × Tab) (ra N RF : Addr) (r : List V) (rws : List (List V)), vs = [.ref ra, .ref N, .ref RF, .ref T] ∧ DB H S s T st ∧ p ∈ s ∧ H ra = some (.tup r) ∧ r ∈ rws ∧ RowsFit p.2.cols rws ∧
  H N = some (.lst ((colNs p.2.cols).map V.str)) ∧ RF = p.1.r ∧ Q (.bl (badR (stKs st) p.2 r)) H
def spLost : Sp := fun vs H Q _ => ∃ (S : Addr) (s : Sch) (T : Addr) (st : List TS) (p : Ads × Tab) (L : Addr) (rws : List (List V)), vs = [.ref p.1.d, .ref L, .ref T] ∧ DB H S s T st ∧ p ∈ s ∧ RowsAt H L rws ∧ RowsFit p.2.cols rws ∧ ∀ N H', H' N = some (.lst (keysR (stKs st) p.2 rws)) → Same H H' → Q (.ref N) H'
def spTableFault : Sp := fun vs H Q _ => ∃ (S : Addr) (s : Sch) (T : Addr) (st : List TS) (p : Ads × Tab), vs = [.ref S, .ref T, .str p.2.n] ∧ DB H S s T st ∧ p ∈ s ∧ ∀ v H', FaultAt H' v (faultN s st p.2.n) → Same H H' → Q v H'
def spFault : Sp := fun vs H Q _ => ∃ (S : Addr) (s : Sch) (T : Addr) (st : List TS), vs = [.ref S, .ref T] ∧ DB H S s T st ∧ ∀ v H', FaultAt H' v (faultM s st) → Same H H' → Q v H'
theorem keys_scal {cols : List Col} {rws : List (List V)} (F : RowsFit cols rws) (l0 : 1 ≤ cols.length) {r : List V} (hr : r ∈ rws) : ∃ k b, ValOf k b (headV r) := by
  obtain ⟨v, vs, rfl⟩ := F.ne l0 hr
  exact ⟨_, _, F.v _ hr 0 cols[0] v (List.getElem?_eq_getElem l0) rfl⟩
theorem first_filter {α : Type} {P : α → Bool} : ∀ {xs : List α} {i : Nat} {x : α}, xs[i]? = some x → P x = true → (∀ y ∈ xs.take i, P y = false) → ∃ rest, xs.filter P = x :: rest
  | [], i, x, h, _, _ => by simp at h
  | y :: r, 0, x, h, hp, _ => by
    simp at h
    subst h
    exact ⟨r.filter P, by rw [List.filter_cons, if_pos hp]⟩
  | y :: r, i + 1, x, h, hp, hn => by
    have hy : P y = false := hn y (by rw [List.take_succ_cons]; exact List.mem_cons_self)
    obtain ⟨rest, e⟩ := first_filter (xs := r) (i := i) (by simpa using h) hp fun z hz => hn z (by rw [List.take_succ_cons]; exact List.mem_cons_of_mem _ hz)
    exact ⟨rest, by rw [List.filter_cons, if_neg (by rw [hy]; decide), e]⟩
theorem none_filter {α : Type} {P : α → Bool} {xs : List α} (h : ∀ y ∈ xs, P y = false) : xs.filter P = [] := List.filter_eq_nil_iff.mpr fun y hy => by rw [h y hy]; decide
theorem take_step {α : Type} {P : α → Bool} {xs : List α} {i : Nat} {x : α} (h : xs[i]? = some x) (a : ∀ y ∈ xs.take i, P y = false) (b : P x = false) : ∀ y ∈ xs.take (i + 1), P y = false := fun y hy => by
  rw [List.take_add_one, h] at hy
  rcases List.mem_append.mp hy with hy | hy
  · exact a y hy
  · have : y = x := by simpa using hy
    rw [this]; exact b
theorem findSome_step {α β : Type} {f : α → Option β} {xs : List α} {i : Nat} {x : α} (h : xs[i]? = some x) (a : (xs.take i).findSome? f = none) (b : f x = none) : (xs.take (i + 1)).findSome? f = none := by
  rw [List.take_add_one, h, List.findSome?_append, a]
  simp [b]
theorem findSome_hit {α β : Type} {f : α → Option β} {xs : List α} {i : Nat} {x : α} {y : β} (h : xs[i]? = some x) (a : (xs.take i).findSome? f = none) (b : f x = some y) : xs.findSome? f = some y := by
  have e : xs = xs.take (i + 1) ++ xs.drop (i + 1) := (List.take_append_drop (i + 1) xs).symm
  rw [e, List.findSome?_append, List.take_add_one, h, List.findSome?_append, a]
  simp [b]
def spLawFault : Sp := spFault
def spBreaksC : Sp := fun vs H Q _ => ∃ (a : Ads) (tab : Tab) (ra : Addr) (r : List V) (rws : List (List V)) (fr : List (Str × List Col)), vs = [.ref a.d, .ref ra] ∧ DescAt H a tab ∧ TabOk fr tab ∧ H ra = some (.tup r) ∧ r ∈ rws ∧ RowsFit tab.cols rws ∧ ∀ H', Same H H' → Q (.bl (badC tab r)) H'
def spBreaksU : Sp := fun vs H Q _ => ∃ (a : Ads) (tab : Tab) (ra E : Addr) (r : List V) (ews rws : List (List V)) (fr : List (Str × List Col)), vs = [.ref a.d, .ref E, .ref ra] ∧ DescAt H a tab ∧ TabOk fr tab ∧ H ra = some (.tup r) ∧ r ∈ rws ∧ (∀ x ∈ ews, x ∈ rws) ∧ RowsFit tab.cols rws ∧ RowsAt H E ews ∧ ∀ H', Same H H' → Q (.bl (badU tab ews r)) H'
def spBreaksR : Sp := fun vs H Q _ => ∃ (S : Addr) (s : Sch) (T : Addr) (st : List TS) (p : Ads × Tab) (ra : Addr) (r : List V) (rws : List (List V)), vs = [.ref p.1.d, .ref T, .ref ra] ∧ DB H S s T st ∧ p ∈ s ∧ H ra = some (.tup r) ∧ r ∈ rws ∧ RowsFit p.2.cols rws ∧ ∀ H', Same H H' → Q (.bl (badR (stKs st) p.2 r)) H'
/-- the four codes, each with the keys of the rows that it is true for -/
def codesM (ks : Str → List Key) (tab : Tab) (rws : List (List V)) : List (Str × List V) := [("full", keysF rws), ("check", keysC tab rws), ("unique", keysU tab rws), ("reference", keysR ks tab rws)]
def hitM (c : Str × List V) : Option (Str × V) := match c.2 with | k :: _ => some (c.1, k) | [] => none
theorem faultT_codes (ks : Str → List Key) (tab : Tab) (rws : List (List V)) : faultT ks tab rws = (codesM ks tab rws).findSome? hitM := by
  unfold faultT codesM hitM
  simp only [List.findSome?_cons, List.findSome?_nil]
  cases keysF rws with
  | cons k r => rfl
  | nil =>
    cases keysC tab rws with
    | cons k r => rfl
    | nil =>
      cases keysU tab rws with
      | cons k r => rfl
      | nil => cases keysR ks tab rws <;> rfl
theorem codes_val {ks : Str → List Key} {cols : List Col} {tab : Tab} {rws : List (List V)} (F : RowsFit cols rws) (l0 : 1 ≤ cols.length) : ∀ c ∈ codesM ks tab rws, ∀ v ∈ c.2, ∃ k b, ValOf k b v := by
  intro c hc v hv
  unfold codesM at hc
  simp only [List.mem_cons, List.not_mem_nil, or_false] at hc
  rcases hc with rfl | rfl | rfl | rfl
  · obtain ⟨r, h1, rfl⟩ := List.mem_map.mp hv
    exact keys_scal F l0 (List.mem_of_mem_drop h1)
  · obtain ⟨r, h1, rfl⟩ := List.mem_map.mp hv
    exact keys_scal F l0 (List.mem_filter.mp h1).1
  · obtain ⟨r, h1, rfl⟩ := List.mem_map.mp hv
    have := List.mem_range.mp (List.mem_filter.mp h1).1
    have e : rws.getD r [] = rws[r] := by rw [List.getD_eq_getElem?_getD, List.getElem?_eq_getElem this]; rfl
    show ∃ k b, ValOf k b (headV (rws.getD r []))
    rw [e]
    exact keys_scal F l0 (List.getElem_mem this)
  · obtain ⟨r, h1, rfl⟩ := List.mem_map.mp hv
    exact keys_scal F l0 (List.mem_filter.mp h1).1
theorem at_vals {cols : List Col} {rws : List (List V)} (F : RowsFit cols rws) {n : Str} (hn : n ∈ colNs cols) : ∃ k b, ∀ r ∈ rws, ValOf k b (at_ (colNs cols) r n) := by
  obtain ⟨j, e1, e2, _, _⟩ := idx_str hn
  have hj : j < cols.length := by unfold colNs at e2; rwa [List.length_map] at e2
  refine ⟨cols[j].k, cols[j].b, fun r hr => ?_⟩
  have hl := F.n r hr
  have er : r[j]? = some r[j] := List.getElem?_eq_getElem (by omega)
  have ea : at_ (colNs cols) r n = r[j] := by unfold at_; rw [← e1]; exact getD_some er
  rw [ea]
  exact F.v r hr j cols[j] _ (List.getElem?_eq_getElem hj) er
theorem val_scal {k : Str} {b : Bool} {v w : V} (h : ValOf k b v) (g : ValOf k b w) : scal v w = true := by
  rcases h with ⟨_, rfl⟩ | ⟨k1, i, rfl, _⟩ | ⟨k1, z, rfl, _⟩ <;> rcases g with ⟨_, rfl⟩ | ⟨k2, j, rfl, _⟩ | ⟨k2, y, rfl, _⟩ <;> first | rfl | exact absurd k1 k2 | exact absurd k2 k1
/-! ## states drawn -/
def spRowsDraw : Sp := fun vs H Q _ => ∃ (t c L : Addr) (cs : List Int) (cols : List Col) (most : Int), vs = [.ref t, .ref L, .int most] ∧ TapeAt H t c cs ∧ ColsAt H L cols ∧ 0 < cols.length ∧ cols.length ≤ 100 ∧ 0 ≤ most ∧ most ≤ 20 ∧
  ∀ d rs H', TAt H' d rs → (∀ r ∈ rs, RowFit cols r) → (rs.length : Int) ≤ most → H d = none → TapeAt H' t c cs → SameX t H H' → Q (.ref d) H'
/-- tables with rows, for each table of the schema one -/
structure StFit (s : Sch) (st : List TS) (most : Nat) : Prop where
  f : ∀ p ∈ s, ∃ q ∈ st, q.n = p.2.n ∧ (∀ r ∈ q.rs, RowFit p.2.cols r)
  l : ∀ q ∈ st, q.rs.length ≤ most
  n : ∀ q ∈ st, q.n ∈ schN s
  e : st.length = s.length
def stD (T : Addr) (st : List TS) : List Addr := T :: st.map fun q => q.d
def spState : Sp := fun vs H Q _ => ∃ (t c S : Addr) (cs : List Int) (s : Sch) (most : Int), vs = [.ref t, .ref S, .int most] ∧ TapeAt H t c cs ∧ SchAt H S s t c ∧ (∀ p ∈ s, TabOk (frOf s) p.2) ∧ s.length ≤ 6 ∧ 0 ≤ most ∧ most ≤ 20 ∧
  ∀ T st H', StAt H' T st → StFit s st most.toNat → (stD T st).Nodup → (∀ a ∈ stD T st, H a = none) → TapeAt H' t c cs → SameX t H H' → Q (.ref T) H'
theorem ValOf.key {k : Str} {v : V} (h : ValOf k false v) : kV (vKey v) = v := kV_vKey h (by
  rcases h with ⟨e, _⟩ | ⟨_, i, rfl, _⟩ | ⟨_, z, rfl, _⟩
  · cases e
  · intro z; cases z
  · intro z; cases z)
theorem RowFit.mk' {cols : List Col} {c : Col} {v : V} {vs : List V} {a : Addr} (hc : cols[0]? = some c) (h : ValOf c.k false v) (r : RestOf cols vs) : RowFit cols ⟨vKey v, a, vs⟩ := ⟨fun c' hc' => by
  rw [hc] at hc'
  cases hc'
  show ValOf c.k false (kV (vKey v))
  rw [h.key]
  exact h, r⟩
theorem st_new {st : List TS} {x : TS} (h : x.n ∉ stN st) : putK (stK st) (Sum.inr x.n : Key) (.ref x.d) = stK (st ++ [x]) := by
  rw [putK_fresh]
  · unfold stK; rw [List.map_append]; rfl
  · rw [st_keys]
    intro z
    obtain ⟨y, h1, h2⟩ := List.mem_map.mp z
    cases h2
    exact h h1
/-- _law_fill -/
def spFill : Sp := fun vs H Q _ => ∃ (t c S T : Addr) (cs : List Int) (s : Sch) (st : List TS), vs = [.ref t, .ref S, .ref T] ∧ TapeAt H t c cs ∧ SchAt H S s t c ∧ (∀ p ∈ s, TabOk (frOf s) p.2) ∧ 1 ≤ s.length ∧ s.length ≤ 6 ∧ StAt H T st ∧ StFit s st 6 ∧ (t :: stD T st).Nodup ∧
  ∀ st' H', StAt H' T st' → StFit s st' 80 → stD T st' = stD T st → TapeAt H' t c cs → SameE (t :: stD T st) H H' → Q .non H'
theorem ks_len {x : Str} (h : x.length ≤ 10) (h2 : ∀ c ∈ tl x, c = 45 ∨ (48 ≤ c ∧ c ≤ 57)) : ((("k" : Str) ++ x)).length ≤ 30 ∧ ∀ c ∈ tl (("k" : Str) ++ x), chOk c := by
  have e : tl ("k" : Str) = [107] := by decide +kernel
  refine ⟨?_, fun c hc => ?_⟩
  · rw [len_app, len_tl, e]; show 1 + _ ≤ 30; omega
  · rw [tl_append, e] at hc
    rcases List.mem_cons.mp hc with rfl | hc
    · decide
    · exact digit_ok (h2 c hc)
theorem natSm {x : Int} (h : 0 ≤ x) (h2 : x ≤ 1000) : x.natAbs < 2 ^ 9000 := by
  have h1 : x.natAbs ≤ 1000 := by omega
  exact Nat.lt_of_le_of_lt h1 (by decide +kernel)
theorem SchAt.other {H : Hp} {S M t c : Addr} {s : Sch} {kvs : List (Key × V)} {o : HO} (A : SchAt H S s t c) (hM : H M = some (.dK kvs)) (n1 : S ≠ M) (n2 : ∀ p ∈ s, p.1.d ≠ M) : SchAt (upd H M o) S s t c :=
  ⟨by rw [upd_ne n1]; exact A.sk, fun p hp => (A.ds p hp).lock hM (n2 p hp), A.nm, A.dn, A.ln⟩
/-- a row put into the table n -/
def putSt (st : List TS) (n : Str) (r : Ro) : List TS := st.map fun q => if q.n = n then ⟨q.n, q.d, putRo q.rs r⟩ else q
theorem putSt_map {α : Type} (f : TS → α) (st : List TS) (n : Str) (r : Ro) (h : ∀ q : TS, f ⟨q.n, q.d, putRo q.rs r⟩ = f q) : (putSt st n r).map f = st.map f := by
  unfold putSt
  rw [List.map_map]
  refine List.map_congr_left fun q _ => ?_
  show f (if q.n = n then ⟨q.n, q.d, putRo q.rs r⟩ else q) = f q
  split
  · exact h q
  · rfl
theorem putSt_K (st : List TS) (n : Str) (r : Ro) : stK (putSt st n r) = stK st := putSt_map (fun p => ((Sum.inr p.n : Key), V.ref p.d)) st n r fun _ => rfl
theorem putSt_N (st : List TS) (n : Str) (r : Ro) : stN (putSt st n r) = stN st := putSt_map (fun p => p.n) st n r fun _ => rfl
theorem putSt_D (T : Addr) (st : List TS) (n : Str) (r : Ro) : stD T (putSt st n r) = stD T st := by unfold stD; rw [putSt_map (fun p => p.d) st n r fun _ => rfl]
theorem putSt_mem {st : List TS} {n : Str} {r : Ro} {x : TS} (h : x ∈ putSt st n r) : ∃ q ∈ st, x.n = q.n ∧ x.d = q.d ∧ ((q.n = n ∧ x.rs = putRo q.rs r) ∨ (q.n ≠ n ∧ x = q)) := by
  obtain ⟨q, h1, rfl⟩ := List.mem_map.mp h
  refine ⟨q, h1, ?_⟩
  by_cases e : q.n = n
  · rw [if_pos e]; exact ⟨rfl, rfl, .inl ⟨e, rfl⟩⟩
  · rw [if_neg e]; exact ⟨rfl, rfl, .inr ⟨e, rfl⟩⟩
theorem putSt_at {st : List TS} {n : Str} {r : Ro} {q : TS} (h : q ∈ st) : (if q.n = n then (⟨q.n, q.d, putRo q.rs r⟩ : TS) else q) ∈ putSt st n r := List.mem_map.mpr ⟨q, h, rfl⟩
theorem st_d_one {T : Addr} {st : List TS} (nd : (stD T st).Nodup) {p q : TS} (hp : p ∈ st) (hq : q ∈ st) (e : p.d = q.d) : p = q := by
  have nd := (List.nodup_cons.mp nd).2
  obtain ⟨i, hi, ei⟩ := List.getElem_of_mem hp
  obtain ⟨j, hj, ej⟩ := List.getElem_of_mem hq
  have a1 : (st.map fun q => q.d)[i]? = some p.d := by rw [List.getElem?_map, List.getElem?_eq_getElem hi, ei]; rfl
  have a2 : (st.map fun q => q.d)[j]? = some p.d := by rw [List.getElem?_map, List.getElem?_eq_getElem hj, ej]; exact congrArg some e.symm
  have := nd_ix nd a1 a2
  subst this
  rw [← ei, ← ej]
theorem StAt.put {H : Hp} {T : Addr} {st : List TS} {q : TS} {r : Ro} (B : StAt H T st) (nd : (stD T st).Nodup) (hq : q ∈ st) (hr : H r.a = some (.tup r.vs)) : StAt (upd H q.d (.dK (roK (putRo q.rs r)))) T (putSt st q.n r) := by
  have dk := (B.ds q hq).dk
  have ku : KeepT H (upd H q.d (.dK (roK (putRo q.rs r)))) := KeepT.lock dk
  have nT : T ≠ q.d := fun e => (List.nodup_cons.mp nd).1 (List.mem_map.mpr ⟨q, hq, e.symm⟩)
  refine ⟨by rw [upd_ne nT, putSt_K]; exact B.sk, fun x hx => ?_, by rw [putSt_N]; exact B.nm⟩
  obtain ⟨z, hz, en, ed, h⟩ := putSt_mem hx
  have A := B.ds z hz
  rcases h with ⟨e, ers⟩ | ⟨e, rfl⟩
  · have : z = q := st_one B.nm hz hq e
    subst this
    rw [ed, ers]
    refine ⟨upd_same, fun y hy => ?_, putRo_nd A.nd r⟩
    rcases putRo_mem hy with ⟨_, ea, ev⟩ | hy
    · rw [ea, ev]; exact ku _ _ hr
    · exact ku _ _ (A.rt y hy)
  · have nd' : x.d ≠ q.d := fun e' => e (by rw [st_d_one nd hz hq e'])
    exact A.mono ku fun o h => by rw [upd_ne nd']; exact h
end Lt

set_option autoImplicit false
namespace Lt
open PySem L2 TL
open C8 (pss_cut)
/-! ## data compared: tuples of tuples -/
mutual
def pyOf : D → PyData
  | .s .non => .none
  | .s (.bl b) => .bool b
  | .s (.int i) => .int i
  | .s (.str x) => .str x
  | .s _ => .none
  | .t ds => .tuple (pyOfL ds)
def pyOfL : List D → List PyData
  | [] => []
  | d :: ds => pyOf d :: pyOfL ds
end
def sCl : V → Bool
  | .str x => PyData.strOk x
  | _ => true
def sNb : V → Bool
  | .non => true
  | .int _ => true
  | .str _ => true
  | _ => false
mutual
def D.cl : D → Bool
  | .s v => sCl v
  | .t ds => clL ds
def clL : List D → Bool
  | [] => true
  | d :: ds => d.cl && clL ds
end
mutual
theorem Tp.py {K : PySem.W.Frag} {H : Hp} : ∀ {d : D} {v : V}, Tp H v d → Dp K H v (pyOf d)
  | .s v, _, h => by
    cases h with
    | s hs =>
      cases v with
      | non => exact .non
      | bl b => exact .bl b
      | int i => exact .int i
      | str x => exact .str x
      | byt _ => cases hs
      | flt _ => cases hs
      | ref _ => cases hs
      | ty _ => cases hs
  | .t ds, _, h => by cases h with | t h r => exact .tup (SqT.of h) (TpL.py r)
theorem TpL.py {K : PySem.W.Frag} {H : Hp} : ∀ {ds : List D} {vs : List V}, TpL H vs ds → DpAll K H vs (pyOfL ds)
  | [], _, h => by cases h; exact .nil
  | d :: ds, _, h => by cases h with | cons h r => exact .cons (Tp.py h) (TpL.py r)
end
mutual
theorem lay_of : ∀ (d : D), d.cl = true → PyData.canLay0 (pyOf d) = true
  | .s v, h => by
    simp only [D.cl] at h
    cases v <;> first | rfl | exact h
  | .t ds, h => by simp only [pyOf, PyData.canLay0]; exact layL_of ds h
theorem layL_of : ∀ (ds : List D), clL ds = true → PyData.canLayAll0 (pyOfL ds) = true
  | [], _ => rfl
  | d :: ds, h => by
    simp only [clL, Bool.and_eq_true] at h
    simp only [pyOfL, PyData.canLayAll0, Bool.and_eq_true]
    exact ⟨lay_of d h.1, layL_of ds h.2⟩
end
mutual
theorem depth_of : ∀ (d : D), PyData.depth (pyOf d) ≤ d.dp + 1
  | .s v => by cases v <;> simp [pyOf, PyData.depth, D.dp]
  | .t ds => by
    have := depthL_of ds
    simp only [pyOf, PyData.depth, D.dp]; omega
theorem depthL_of : ∀ (ds : List D), PyData.depthAll (pyOfL ds) ≤ dpL ds + 1
  | [] => by simp [pyOfL, PyData.depthAll]
  | d :: ds => by
    have a := depth_of d
    have b := depthL_of ds
    simp only [pyOfL, PyData.depthAll, dpL]; omega
end
theorem shaped_of {d : D} (h : d.cl = true) (k : d.dp ≤ 20) : SeqAt.shaped (pyOf d) = true := by
  have := depth_of d
  unfold SeqAt.shaped
  rw [lay_of d h, Bool.true_and]
  exact decide_eq_true (by omega)
theorem shapedL_of {ds : List D} (h : clL ds = true) (k : dpL ds ≤ 20) : SeqAt.shaped (.list (pyOfL ds)) = true := by
  have := depthL_of ds
  unfold SeqAt.shaped
  simp only [PyData.canLay0, PyData.depth]
  rw [layL_of ds h, Bool.true_and]
  exact decide_eq_true (by omega)
theorem pyOfL_map : ∀ ds : List D, pyOfL ds = ds.map pyOf
  | [] => rfl
  | d :: ds => by simp only [pyOfL, List.map_cons]; rw [pyOfL_map ds]
/-! ### a condition told by its text -/
def CondOk (c : Cond) : Prop := ∀ a ∈ c, ∀ cl ∈ a, PyData.strOk cl.n = true ∧ PyData.strOk cl.op = true ∧ ClG cl
theorem clL_all {ds : List D} : clL ds = true ↔ ∀ d ∈ ds, d.cl = true := by
  induction ds with
  | nil => exact ⟨fun _ d hd => (by cases hd), fun _ => rfl⟩
  | cons d ds ih =>
    have e : clL (d :: ds) = (d.cl && clL ds) := by simp only [clL]
    rw [e, Bool.and_eq_true, List.forall_mem_cons, ih]
theorem cl_val {v : V} (h : v = .non ∨ (∃ i : Int, v = .int i) ∨ ∃ z : Str, v = .str z ∧ PyData.strOk z = true) : sCl v = true := by
  rcases h with e | ⟨i, e⟩ | ⟨z, e, hz⟩ <;> subst e <;> first | rfl | exact hz
theorem ClG.three {cl : Cl} (h : ClG cl) : cl.v = .non ∨ (∃ i : Int, cl.v = .int i) ∨ ∃ z : Str, cl.v = .str z ∧ PyData.strOk z = true := by
  rcases h with e | ⟨i, e, _⟩ | ⟨z, e, _, hz⟩
  · exact .inl e
  · exact .inr (.inl ⟨i, e⟩)
  · exact .inr (.inr ⟨z, e, strOk_of hz⟩)
theorem cond_cl {c : Cond} (h : CondOk c) : (condD c).cl = true := by
  simp only [condD, D.cl]
  refine clL_all.mpr fun d hd => ?_
  obtain ⟨a, ha, rfl⟩ := List.mem_map.mp hd
  simp only [altD, D.cl]
  refine clL_all.mpr fun d hd => ?_
  obtain ⟨cl, hcl, rfl⟩ := List.mem_map.mp hd
  obtain ⟨h1, h2, h3⟩ := h a ha cl hcl
  simp only [clD, D.cl]
  simp only [clL, D.cl, sCl, h1, h2, Bool.true_and, Bool.and_true]
  exact cl_val h3.three
/-! ### equal data -/
mutual
/-- no truth values, no things that have no data -/
def D.nb : D → Bool
  | .s v => sNb v
  | .t ds => nbL ds
def nbL : List D → Bool
  | [] => true
  | d :: ds => d.nb && nbL ds
end
theorem nb_val {v : V} (h : v = .non ∨ (∃ i : Int, v = .int i) ∨ ∃ z : Str, v = .str z ∧ PyData.strOk z = true) : sNb v = true := by
  rcases h with e | ⟨i, e⟩ | ⟨z, e, hz⟩ <;> subst e <;> rfl
theorem nbL_all {ds : List D} : nbL ds = true ↔ ∀ d ∈ ds, d.nb = true := by
  induction ds with
  | nil => exact ⟨fun _ d hd => (by cases hd), fun _ => rfl⟩
  | cons d ds ih =>
    have e : nbL (d :: ds) = (d.nb && nbL ds) := by simp only [nbL]
    rw [e, Bool.and_eq_true, List.forall_mem_cons, ih]
mutual
theorem eqv_inj : ∀ (d e : D), d.nb = true → e.nb = true → PyData.eqv (pyOf d) (pyOf e) = true → d = e
  | .s .non, .s .non, _, _, _ => rfl
  | .s .non, .s (.int _), _, _, h => by simp [pyOf, PyData.eqv] at h
  | .s .non, .s (.str _), _, _, h => by simp [pyOf, PyData.eqv] at h
  | .s (.int _), .s .non, _, _, h => by simp [pyOf, PyData.eqv] at h
  | .s (.int i), .s (.int j), _, _, h => by simp [pyOf, PyData.eqv] at h; rw [h]
  | .s (.int _), .s (.str _), _, _, h => by simp [pyOf, PyData.eqv] at h
  | .s (.str _), .s .non, _, _, h => by simp [pyOf, PyData.eqv] at h
  | .s (.str _), .s (.int _), _, _, h => by simp [pyOf, PyData.eqv] at h
  | .s (.str i), .s (.str j), _, _, h => by simp [pyOf, PyData.eqv] at h; rw [h]
  | .s .non, .t _, _, _, h => by simp [pyOf, PyData.eqv] at h
  | .s (.int _), .t _, _, _, h => by simp [pyOf, PyData.eqv] at h
  | .s (.str _), .t _, _, _, h => by simp [pyOf, PyData.eqv] at h
  | .t _, .s .non, _, _, h => by simp [pyOf, PyData.eqv] at h
  | .t _, .s (.int _), _, _, h => by simp [pyOf, PyData.eqv] at h
  | .t _, .s (.str _), _, _, h => by simp [pyOf, PyData.eqv] at h
  | .t ds, .t es, h1, h2, h => by
    simp only [pyOf, PyData.eqv] at h
    rw [eqvL_inj ds es h1 h2 h]
  | .s (.bl _), _, h, _, _ => by simp [D.nb, sNb] at h
  | .s (.byt _), _, h, _, _ => by simp [D.nb, sNb] at h
  | .s (.flt _), _, h, _, _ => by simp [D.nb, sNb] at h
  | .s (.ref _), _, h, _, _ => by simp [D.nb, sNb] at h
  | .s (.ty _), _, h, _, _ => by simp [D.nb, sNb] at h
  | _, .s (.bl _), _, h, _ => by simp [D.nb, sNb] at h
  | _, .s (.byt _), _, h, _ => by simp [D.nb, sNb] at h
  | _, .s (.flt _), _, h, _ => by simp [D.nb, sNb] at h
  | _, .s (.ref _), _, h, _ => by simp [D.nb, sNb] at h
  | _, .s (.ty _), _, h, _ => by simp [D.nb, sNb] at h
theorem eqvL_inj : ∀ (ds es : List D), nbL ds = true → nbL es = true → PyData.eqvAll (pyOfL ds) (pyOfL es) = true → ds = es
  | [], [], _, _, _ => rfl
  | [], _ :: _, _, _, h => by simp [pyOfL, PyData.eqvAll] at h
  | _ :: _, [], _, _, h => by simp [pyOfL, PyData.eqvAll] at h
  | d :: ds, e :: es, h1, h2, h => by
    simp only [nbL, Bool.and_eq_true] at h1 h2
    simp only [pyOfL, PyData.eqvAll, Bool.and_eq_true] at h
    rw [eqv_inj d e h1.1 h2.1 h.1, eqvL_inj ds es h1.2 h2.2 h.2]
end
mutual
theorem eqv_refl : ∀ (d : D), d.nb = true → PyData.eqv (pyOf d) (pyOf d) = true
  | .s .non, _ => rfl
  | .s (.int i), _ => by simp [pyOf, PyData.eqv]
  | .s (.str x), _ => by simp [pyOf, PyData.eqv]
  | .s (.bl _), h => by simp [D.nb, sNb] at h
  | .s (.byt _), h => by simp [D.nb, sNb] at h
  | .s (.flt _), h => by simp [D.nb, sNb] at h
  | .s (.ref _), h => by simp [D.nb, sNb] at h
  | .s (.ty _), h => by simp [D.nb, sNb] at h
  | .t ds, h => by simp only [pyOf, PyData.eqv]; exact eqvL_refl ds h
theorem eqvL_refl : ∀ (ds : List D), nbL ds = true → PyData.eqvAll (pyOfL ds) (pyOfL ds) = true
  | [], _ => rfl
  | d :: ds, h => by
    simp only [nbL, Bool.and_eq_true] at h
    simp only [pyOfL, PyData.eqvAll, Bool.and_eq_true]
    exact ⟨eqv_refl d h.1, eqvL_refl ds h.2⟩
end
theorem cond_nb {c : Cond} (h : CondOk c) : (condD c).nb = true := by
  simp only [condD, D.nb]
  refine nbL_all.mpr fun d hd => ?_
  obtain ⟨a, ha, rfl⟩ := List.mem_map.mp hd
  simp only [altD, D.nb]
  refine nbL_all.mpr fun d hd => ?_
  obtain ⟨cl, hcl, rfl⟩ := List.mem_map.mp hd
  simp only [clD, D.nb]
  simp only [nbL, D.nb, sNb, Bool.true_and, Bool.and_true]
  exact nb_val (h a ha cl hcl).2.2.three
theorem clD_inj {a b : Cl} (h : clD a = clD b) : a = b := by
  cases a; cases b
  simp only [clD, D.t.injEq, List.cons.injEq, D.s.injEq, V.str.injEq, and_true] at h
  obtain ⟨h1, h2, h3⟩ := h
  subst h1 h2 h3
  rfl
theorem mapD_inj {α : Type} {f : α → D} (hf : ∀ a b, f a = f b → a = b) : ∀ {xs ys : List α}, xs.map f = ys.map f → xs = ys
  | [], [], _ => rfl
  | [], _ :: _, h => by simp at h
  | _ :: _, [], h => by simp at h
  | x :: xs, y :: ys, h => by
    simp only [List.map_cons, List.cons.injEq] at h
    rw [hf x y h.1, mapD_inj hf h.2]
theorem condD_inj {a b : Cond} (h : condD a = condD b) : a = b := mapD_inj (fun x y e => mapD_inj (fun _ _ => clD_inj) (D.t.inj e)) (D.t.inj h)
theorem rfD_inj {a b : Str × Str} (h : rfD a = rfD b) : a = b := by
  cases a; cases b
  simp only [rfD, D.t.injEq, List.cons.injEq, D.s.injEq, V.str.injEq, and_true] at h
  obtain ⟨h1, h2⟩ := h
  subst h1 h2
  rfl
def memB {α : Type} [DecidableEq α] (xs : List α) (x : α) : Bool := xs.any fun y => decide (y = x)
theorem memB_iff {α : Type} [DecidableEq α] {xs : List α} {x : α} : memB xs x = true ↔ x ∈ xs := by
  unfold memB
  rw [List.any_eq_true]
  exact ⟨fun ⟨y, h1, h2⟩ => (of_decide_eq_true h2) ▸ h1, fun h => ⟨x, h, decide_eq_true rfl⟩⟩
def delFirst {α : Type} [DecidableEq α] (xs : List α) (x : α) : List α := match xs.findIdx? (fun y => decide (y = x)) with | some j => xs.eraseIdx j | none => xs
/-- is d among them -/
theorem any_eqv {α : Type} [DecidableEq α] {f : α → D} (hf : ∀ a b, f a = f b → a = b) {xs : List α} {x : α} (h : ∀ y ∈ xs, (f y).nb = true) (hx : (f x).nb = true) : ((pyOfL (xs.map f)).any fun z => PyData.eqv z (pyOf (f x))) = memB xs x := by
  rw [Bool.eq_iff_iff, List.any_eq_true, memB_iff, pyOfL_map, List.map_map]
  constructor
  · rintro ⟨z, hz, e⟩
    obtain ⟨y, hy, rfl⟩ := List.mem_map.mp hz
    rw [← hf y x (eqv_inj _ _ (h y hy) hx e)]
    exact hy
  · intro hm
    exact ⟨_, List.mem_map.mpr ⟨x, hm, rfl⟩, eqv_refl _ hx⟩
/-- the place of the first one that is the same -/
theorem place_eqv {α : Type} [DecidableEq α] {f : α → D} (hf : ∀ a b, f a = f b → a = b) {xs : List α} {x : α} (h : ∀ y ∈ xs, (f y).nb = true) (hx : memB xs x = true) : ∃ j, (pyOfL (xs.map f)).findIdx? (fun z => PyData.eqv z (pyOf (f x))) = some j ∧ xs.eraseIdx j = delFirst xs x := by
  have hm := memB_iff.mp hx
  have e : (pyOfL (xs.map f)).findIdx? (fun z => PyData.eqv z (pyOf (f x))) = xs.findIdx? (fun y => decide (y = x)) := by
    rw [pyOfL_map, List.map_map, List.findIdx?_map]
    have g : ∀ {ys : List α}, (∀ y ∈ ys, (f y).nb = true) → ys.findIdx? ((fun z => PyData.eqv z (pyOf (f x))) ∘ (pyOf ∘ f)) = ys.findIdx? (fun y => decide (y = x)) := by
      intro ys
      induction ys with
      | nil => intro _; rfl
      | cons y r ih =>
        intro he
        have ey : ((fun z => PyData.eqv z (pyOf (f x))) ∘ (pyOf ∘ f)) y = decide (y = x) := by
          show PyData.eqv (pyOf (f y)) (pyOf (f x)) = _
          rw [Bool.eq_iff_iff, decide_eq_true_iff]
          exact ⟨fun z => hf _ _ (eqv_inj _ _ (he y List.mem_cons_self) (h x hm) z), fun z => by rw [z]; exact eqv_refl _ (h x hm)⟩
        rw [List.findIdx?_cons, List.findIdx?_cons, ey, ih (fun z hz => he z (List.mem_cons_of_mem _ hz))]
    exact g h
  cases ej : xs.findIdx? (fun y => decide (y = x)) with
  | none =>
    have := List.findIdx?_eq_none_iff.mp ej x hm
    simp at this
  | some j => exact ⟨j, by rw [e, ej], by unfold delFirst; rw [ej]⟩
/-- l.remove(x), data that are not of dicts, x in l -/
def rRemD (K : PySem.W.Frag) : V → List V → Hp → VK → Prop := fun x xs H Q => ∃ (l : Addr) (y : V) (d : PyData) (ds : List PyData) (zs : List V) (j : Nat), x = .ref l ∧ xs = [y] ∧ H l = some (.lst zs) ∧ DpAll K H zs ds ∧ Dp K H y d ∧
  PyData.plainAll ds = true ∧ d.plain = true ∧ d.depth ≤ 60 ∧ ds.findIdx? (fun z => PyData.eqv z d) = some j ∧ Q .non (upd H l (.lst (zs.eraseIdx j)))
section
variable {X : Cx}
open PySem.Spec PyProof.Rows in
theorem mt_removeD (hu : X.A.units + 65 < cLine) : MtM X "list.remove" (rRemD X.K) := by
  rintro pins s σ H x xs v us Q I rx rxs ⟨l, y, d, ds, zs, j, rfl, rfl, hH, ha, hy, pl, pd, dd, hj, q⟩
  cases rx
  obtain ⟨uy, rfl, ry⟩ := rxs.one
  obtain ⟨z, its, n, rv, hl, e⟩ := I.lstM hH
  obtain ⟨bs, r1⟩ := Dp.reads I d y uy hy ry
  obtain ⟨as, r2⟩ := Dp.readsAll I ds _ its ha rv
  have il : s.heap.IsList l its.toArray := ⟨_, e, rfl, n, rfl⟩
  have room : X.A.units + 1 + min (PyData.depthAll ds) d.depth < cLine := by
    have := Nat.min_le_right (PyData.depthAll ds) d.depth
    omega
  refine PySem.SeqAt.remove_list_data il (as := as) (bs := bs) r2 r1 pl pd room hj (by rw [List.size_toArray, ← hl]; exact z) ?_
  refine ⟨.non, _, I.lset (its' := its.eraseIdx j) (t' := s.toks) hH e ?_ (rv.eraseIdx j) ?_, rfl, q⟩
  · rw [List.eraseIdxIfInBounds_toArray]
  · have := List.length_eraseIdx_le zs j
    omega
end
end Lt

set_option autoImplicit false
namespace Lt
open PySem L2 TL
open C8 (pss_cut)
instance decCl : DecidableEq Cl := fun a b => decidable_of_iff (a.n = b.n ∧ a.op = b.op ∧ a.v = b.v) ⟨fun ⟨h1, h2, h3⟩ => by
  cases a; cases b
  simp only at h1 h2 h3
  rw [h1, h2, h3], fun h => by rw [h]; exact ⟨rfl, rfl, rfl⟩⟩
/-! ## tables that are well formed -/
structure TabV (t : Tab) : Prop where
  nm : nameOk t.n
  co : ColsOk [] t.cols
  l0 : 1 ≤ t.cols.length
  l8 : t.cols.length ≤ 8
  c4 : t.ch.length ≤ 4
  cc : ∀ c ∈ t.ch, c.length ≤ 4 ∧ (∀ a ∈ c, a.length ≤ 4) ∧ CondOk c
  u4 : t.un.length ≤ 4
  un : ∀ x ∈ t.un, PyData.strOk x = true
  r4 : t.rf.length ≤ 4
  rf : ∀ p ∈ t.rf, PyData.strOk p.1 = true ∧ PyData.strOk p.2 = true
theorem TabV.sm {t : Tab} (h : TabV t) : TabSm t := by
  have h1 := h.l8
  have h2 := h.c4
  have h3 := h.u4
  have h4 := h.r4
  exact ⟨by omega, by omega, fun c hc => by
    obtain ⟨a, b, _⟩ := h.cc c hc
    exact ⟨by omega, fun x hx => by have := b x hx; omega⟩, by omega, by omega⟩
theorem colN_ok {cols : List Col} (h : ColsOk [] cols) {n : Str} (hn : n ∈ colNs cols) : PyData.strOk n = true := (h.fr n hn).2.str
theorem ClOk.text {cols : List Col} (co : ColsOk [] cols) {cl : Cl} (h : ClOk cols cl) : PyData.strOk cl.n = true ∧ PyData.strOk cl.op = true ∧ ClG cl := by
  obtain ⟨h1, col, h2, h3, h4⟩ := h
  refine ⟨?_, h1, ClOk.g ⟨h1, col, h2, h3, h4⟩⟩
  rw [h3]
  exact colN_ok co (List.mem_map.mpr ⟨col, h2, rfl⟩)
theorem TabOk.v {fr : List (Str × List Col)} {t : Tab} (h : TabOk fr t) (hf : ∀ f ∈ fr, PyData.strOk f.1 = true) : TabV t := by
  have h1 := h.l5
  have h2 := h.c4
  refine ⟨h.nm, h.co, h.l0, by omega, by omega, fun c hc => ?_, h.u4, fun x hx => ?_, h.r4, fun p hp => ?_⟩
  · obtain ⟨a, b⟩ := h.cc c hc
    exact ⟨a, fun x hx => (b x hx).1, fun x hx cl hcl => ((b x hx).2 cl hcl).text h.co⟩
  · have := h.uc x hx
    unfold colNs at this
    rw [List.map_drop] at this
    exact colN_ok h.co (List.mem_of_mem_drop this)
  · obtain ⟨col, h1, h2, _, f, h3, h4, _⟩ := h.rc p hp
    refine ⟨?_, by rw [← h4]; exact hf f h3⟩
    rw [← h2]
    exact colN_ok h.co (List.mem_map.mpr ⟨col, List.mem_of_mem_drop h1, rfl⟩)
/-- a schema stands at S -/
structure ScV (H : Hp) (S : Addr) (s : Sch) : Prop where
  sk : H S = some (.dK (schK s))
  ds : ∀ p ∈ s, DescAt H p.1 p.2
  nm : (schN s).Nodup
  ok : ∀ p ∈ s, TabV p.2
  l6 : s.length ≤ 6
theorem ScV.mono {H H' : Hp} {S : Addr} {s : Sch} (h : ScV H S s) (e : Same H H') : ScV H' S s := ⟨e _ _ h.sk, fun p hp => (h.ds p hp).mono e, h.nm, h.ok, h.l6⟩
theorem SchAt.v {H : Hp} {S t c : Addr} {s : Sch} (A : SchAt H S s t c) (ok : ∀ p ∈ s, TabOk (frOf s) p.2) (l6 : s.length ≤ 6) : ScV H S s := ⟨A.sk, A.ds, A.nm, fun p hp => (ok p hp).v fun f hf => by
  obtain ⟨q, hq, rfl⟩ := List.mem_map.mp hf
  exact (ok q hq).nm.str, l6⟩
theorem ScV.in' {H : Hp} {S : Addr} {s : Sch} (h : ScV H S s) {n : Str} : DGet H S (.str n) (valV (schK s) (Sum.inr n : Key)) := DGet.k (k := (Sum.inr n : Key)) h.sk
theorem sch_some {s : Sch} {n : Str} : (valV (schK s) (Sum.inr n : Key)).isSome = decide (n ∈ schN s) := by
  rw [Bool.eq_iff_iff, valV_isSome, sch_keys, decide_eq_true_iff]
  constructor
  · intro h
    obtain ⟨x, h1, h2⟩ := List.mem_map.mp h
    cases h2
    exact h1
  · intro h
    exact List.mem_map.mpr ⟨n, h, rfl⟩
/-! ## the parts of a table that bear constraints -/
inductive Pt | c | u | r
def ptN : Pt → Str
  | .c => "checks"
  | .u => "uniques"
  | .r => "references"
def ptA (a : Ads) : Pt → Addr
  | .c => a.k
  | .u => a.u
  | .r => a.r
def ptD (t : Tab) : Pt → List D
  | .c => t.ch.map condD
  | .u => t.un.map fun x => .s (.str x)
  | .r => t.rf.map rfD
def ptL (t : Tab) : Pt → Nat
  | .c => t.ch.length
  | .u => t.un.length
  | .r => t.rf.length
theorem ptD_len (t : Tab) (p : Pt) : (ptD t p).length = ptL t p := by cases p <;> exact List.length_map _
theorem strs_tp {H : Hp} : ∀ xs : List Str, TpL H (xs.map V.str) (xs.map fun x => D.s (.str x))
  | [] => .nil
  | x :: r => .cons (.s rfl) (strs_tp r)
theorem DescAt.part {H : Hp} {a : Ads} {t : Tab} (h : DescAt H a t) (p : Pt) : DGet H a.d (.str (ptN p)) (some (.ref (ptA a p))) ∧ ∃ xs, H (ptA a p) = some (.lst xs) ∧ TpL H xs (ptD t p) := by
  cases p
  · exact ⟨h.gk, h.ch⟩
  · exact ⟨h.gu, _, h.un, strs_tp _⟩
  · exact ⟨h.gr, h.rf⟩
inductive It
  | c (x : Cond)
  | u (x : Str)
  | r (x : Str × Str)
def itP : It → Pt
  | .c _ => .c
  | .u _ => .u
  | .r _ => .r
def itD : It → D
  | .c x => condD x
  | .u x => .s (.str x)
  | .r x => rfD x
def itOk : It → Prop
  | .c x => x.length ≤ 4 ∧ (∀ a ∈ x, a.length ≤ 4) ∧ CondOk x
  | .u x => PyData.strOk x = true
  | .r x => PyData.strOk x.1 = true ∧ PyData.strOk x.2 = true
def hasIt (t : Tab) : It → Bool
  | .c x => memB t.ch x
  | .u x => memB t.un x
  | .r x => memB t.rf x
def addIt (t : Tab) : It → Tab
  | .c x => { t with ch := t.ch ++ [x] }
  | .u x => { t with un := t.un ++ [x] }
  | .r x => { t with rf := t.rf ++ [x] }
def delIt (t : Tab) : It → Tab
  | .c x => { t with ch := delFirst t.ch x }
  | .u x => { t with un := delFirst t.un x }
  | .r x => { t with rf := delFirst t.rf x }
theorem itD_nb {i : It} (h : itOk i) : (itD i).nb = true ∧ (itD i).cl = true ∧ (itD i).dp ≤ 3 := by
  cases i with
  | c x => exact ⟨cond_nb h.2.2, cond_cl h.2.2, cond_dp x⟩
  | u x => exact ⟨rfl, h, Nat.zero_le _⟩
  | r x =>
    obtain ⟨h1, h2⟩ := h
    refine ⟨rfl, ?_, (by show (rfD x).dp ≤ 3; rw [rf_dp]; decide)⟩
    show clL [.s (.str x.1), .s (.str x.2)] = true
    simp only [clL, D.cl, sCl]
    rw [h1, h2]; rfl
theorem ptD_ok {t : Tab} (v : TabV t) (p : Pt) : clL (ptD t p) = true ∧ dpL (ptD t p) ≤ 3 := by
  cases p
  · exact ⟨clL_all.mpr fun d hd => by obtain ⟨x, hx, rfl⟩ := List.mem_map.mp hd; exact (itD_nb (i := .c x) (v.cc x hx)).2.1, dpL_le fun d hd => by obtain ⟨x, hx, rfl⟩ := List.mem_map.mp hd; exact cond_dp x⟩
  · exact ⟨clL_all.mpr fun d hd => by obtain ⟨x, hx, rfl⟩ := List.mem_map.mp hd; exact v.un x hx, dpL_le fun d hd => by obtain ⟨x, hx, rfl⟩ := List.mem_map.mp hd; exact Nat.zero_le _⟩
  · exact ⟨clL_all.mpr fun d hd => by obtain ⟨x, hx, rfl⟩ := List.mem_map.mp hd; exact (itD_nb (i := .r x) (v.rf x hx)).2.1, dpL_le fun d hd => by obtain ⟨x, hx, rfl⟩ := List.mem_map.mp hd; exact (by rw [rf_dp]; decide)⟩
theorem str_injD {a b : Str} (h : D.s (.str a) = D.s (.str b)) : a = b := V.str.inj (D.s.inj h)
theorem has_any {t : Tab} (v : TabV t) {i : It} (h : itOk i) : ((pyOfL (ptD t (itP i))).any fun z => PyData.eqv z (pyOf (itD i))) = hasIt t i := by
  cases i with
  | c x => exact any_eqv (fun _ _ => condD_inj) (fun y hy => cond_nb (v.cc y hy).2.2) (cond_nb h.2.2)
  | u x => exact any_eqv (f := fun x => D.s (.str x)) (fun _ _ => str_injD) (fun y hy => rfl) rfl
  | r x => exact any_eqv (fun _ _ => rfD_inj) (fun y hy => rfl) rfl
theorem eraseIdx_map' {α β : Type} (f : α → β) : ∀ (xs : List α) (j : Nat), (xs.map f).eraseIdx j = (xs.eraseIdx j).map f
  | [], _ => rfl
  | x :: xs, 0 => rfl
  | x :: xs, j + 1 => by simp only [List.map_cons, List.eraseIdx_cons_succ, eraseIdx_map' f xs j]
theorem del_place {t : Tab} (v : TabV t) {i : It} (h : itOk i) (hi : hasIt t i = true) : ∃ j, (pyOfL (ptD t (itP i))).findIdx? (fun z => PyData.eqv z (pyOf (itD i))) = some j ∧ (ptD t (itP i)).eraseIdx j = ptD (delIt t i) (itP i) := by
  cases i with
  | c x =>
    obtain ⟨j, h1, h2⟩ := place_eqv (f := condD) (fun _ _ => condD_inj) (fun y hy => cond_nb (v.cc y hy).2.2) hi
    exact ⟨j, h1, by show (t.ch.map condD).eraseIdx _ = (delFirst t.ch x).map condD; rw [eraseIdx_map', h2]⟩
  | u x =>
    obtain ⟨j, h1, h2⟩ := place_eqv (f := fun x => D.s (.str x)) (fun _ _ => str_injD) (fun y hy => rfl) hi
    exact ⟨j, h1, by show (t.un.map fun x => D.s (.str x)).eraseIdx _ = (delFirst t.un x).map _; rw [eraseIdx_map', h2]⟩
  | r x =>
    obtain ⟨j, h1, h2⟩ := place_eqv (f := rfD) (fun _ _ => rfD_inj) (fun y hy => rfl) hi
    exact ⟨j, h1, by show (t.rf.map rfD).eraseIdx _ = (delFirst t.rf x).map rfD; rw [eraseIdx_map', h2]⟩
theorem TpL.eraseIdx {H : Hp} : ∀ {ds : List D} {vs : List V} (j : Nat), TpL H vs ds → TpL H (vs.eraseIdx j) (ds.eraseIdx j)
  | [], _, j, h => by cases h; exact .nil
  | d :: ds, _, 0, h => by cases h with | cons h r => exact r
  | d :: ds, _, j + 1, h => by cases h with | cons h r => exact .cons h (TpL.eraseIdx j r)
theorem tp_strs {H : Hp} : ∀ {xs : List Str} {vs : List V}, TpL H vs (xs.map fun x => D.s (.str x)) → vs = xs.map V.str
  | [], _, h => by cases h; rfl
  | x :: r, _, h => by
    cases h with
    | cons h q => cases h; rw [tp_strs q]; rfl
/-- a list of constraints has changed -/
theorem DescAt.setPart {H : Hp} {a : Ads} {t t' : Tab} {p : Pt} {xs : List V} (h : DescAt H a t) (nd : (adL a).Nodup) (hc : t'.cols = t.cols) (ho : ∀ q, q ≠ p → ptD t' q = ptD t q) (r : TpL H xs (ptD t' p)) : DescAt (upd H (ptA a p) (.lst xs)) a t' := by
  simp only [adL, List.nodup_cons, List.mem_cons, List.not_mem_nil, or_false, not_or] at nd
  obtain ⟨⟨n1, n2, n3⟩, ⟨n4, n5⟩, n6, _⟩ := nd
  obtain ⟨_, ys, hy, _⟩ := h.part p
  have kt : KeepT H (upd H (ptA a p) (.lst xs)) := KeepT.upd fun zs z => by rw [hy] at z; cases z
  have hd : a.d ≠ ptA a p := fun e => by have := h.dk; rw [e, hy] at this; cases this
  obtain ⟨xc, c1, c2⟩ := h.co
  have old : ∀ q, q ≠ p → ptA a q ≠ ptA a p := fun q hq => by
    cases p <;> cases q <;> first | exact absurd rfl hq | (show _ ≠ _; simp only [ptA]; first | exact n4 | exact n5 | exact n6 | exact Ne.symm n4 | exact Ne.symm n5 | exact Ne.symm n6)
  have one : ∀ q, ∃ zs, (upd H (ptA a p) (.lst xs)) (ptA a q) = some (.lst zs) ∧ TpL (upd H (ptA a p) (.lst xs)) zs (ptD t' q) := fun q => by
    by_cases e : q = p
    · subst e; exact ⟨xs, upd_same, r.mono kt⟩
    · obtain ⟨_, zs, h1, h2⟩ := h.part q
      exact ⟨zs, by rw [upd_ne (old q e)]; exact h1, by rw [ho q e]; exact h2.mono kt⟩
  have hcp : a.c ≠ ptA a p := by cases p <;> simp only [ptA] <;> assumption
  refine ⟨by rw [upd_ne hd]; exact h.dk, ⟨xc, by rw [upd_ne hcp]; exact c1, by rw [hc]; exact c2.mono kt⟩, one .c, ?_, one .r⟩
  obtain ⟨zs, h1, h2⟩ := one .u
  rw [tp_strs h2] at h1
  exact h1
theorem add_other (t : Tab) (i : It) : ∀ q, q ≠ itP i → ptD (addIt t i) q = ptD t q := fun q hq => by cases i <;> cases q <;> first | exact absurd rfl hq | rfl
theorem del_other (t : Tab) (i : It) : ∀ q, q ≠ itP i → ptD (delIt t i) q = ptD t q := fun q hq => by cases i <;> cases q <;> first | exact absurd rfl hq | rfl
theorem add_part (t : Tab) (i : It) : ptD (addIt t i) (itP i) = ptD t (itP i) ++ [itD i] := by cases i <;> simp [ptD, addIt, itP, itD]
theorem add_cols (t : Tab) (i : It) : (addIt t i).cols = t.cols ∧ (addIt t i).n = t.n := by cases i <;> exact ⟨rfl, rfl⟩
theorem del_cols (t : Tab) (i : It) : (delIt t i).cols = t.cols ∧ (delIt t i).n = t.n := by cases i <;> exact ⟨rfl, rfl⟩
theorem delFirst_sub {α : Type} [DecidableEq α] {xs : List α} {x : α} : (∀ y ∈ delFirst xs x, y ∈ xs) ∧ (delFirst xs x).length ≤ xs.length := by
  unfold delFirst
  split
  · exact ⟨fun y hy => List.mem_of_mem_eraseIdx hy, List.length_eraseIdx_le _ _⟩
  · exact ⟨fun y hy => hy, Nat.le_refl _⟩
theorem TabV.add {t : Tab} (v : TabV t) {i : It} (h : itOk i) (l : ptL t (itP i) < 4) : TabV (addIt t i) := by
  obtain ⟨h1, h2, h3, h4, h5, h6, h7, h8, h9, h10⟩ := v
  cases i with
  | c x => exact ⟨h1, h2, h3, h4, by show (t.ch ++ [x]).length ≤ 4; rw [List.length_append]; exact l, fun c hc => by
      rcases List.mem_append.mp hc with hc | hc
      · exact h6 c hc
      · rw [List.mem_singleton.mp hc]; exact h, h7, h8, h9, h10⟩
  | u x => exact ⟨h1, h2, h3, h4, h5, h6, by show (t.un ++ [x]).length ≤ 4; rw [List.length_append]; exact l, fun c hc => by
      rcases List.mem_append.mp hc with hc | hc
      · exact h8 c hc
      · rw [List.mem_singleton.mp hc]; exact h, h9, h10⟩
  | r x => exact ⟨h1, h2, h3, h4, h5, h6, h7, h8, by show (t.rf ++ [x]).length ≤ 4; rw [List.length_append]; exact l, fun c hc => by
      rcases List.mem_append.mp hc with hc | hc
      · exact h10 c hc
      · rw [List.mem_singleton.mp hc]; exact h⟩
theorem TabV.del {t : Tab} (v : TabV t) (i : It) : TabV (delIt t i) := by
  obtain ⟨h1, h2, h3, h4, h5, h6, h7, h8, h9, h10⟩ := v
  cases i with
  | c x => exact ⟨h1, h2, h3, h4, Nat.le_trans delFirst_sub.2 h5, fun c hc => h6 c (delFirst_sub.1 c hc), h7, h8, h9, h10⟩
  | u x => exact ⟨h1, h2, h3, h4, h5, h6, Nat.le_trans delFirst_sub.2 h7, fun c hc => h8 c (delFirst_sub.1 c hc), h9, h10⟩
  | r x => exact ⟨h1, h2, h3, h4, h5, h6, h7, h8, Nat.le_trans delFirst_sub.2 h9, fun c hc => h10 c (delFirst_sub.1 c hc)⟩
/-! ## steps on constraints -/
inductive LS
  | addC (t : Str) (c : Cond) | dropC (t : Str) (c : Cond)
  | addU (t n : Str) | dropU (t n : Str)
  | addR (t n o : Str) | dropR (t n o : Str)
def lsK : LS → Str
  | .addC .. => "add_check"
  | .dropC .. => "drop_check"
  | .addU .. => "add_unique"
  | .dropU .. => "drop_unique"
  | .addR .. => "add_reference"
  | .dropR .. => "drop_reference"
def lsT : LS → Str
  | .addC t _ => t
  | .dropC t _ => t
  | .addU t _ => t
  | .dropU t _ => t
  | .addR t _ _ => t
  | .dropR t _ _ => t
def lsI : LS → It
  | .addC _ c => .c c
  | .dropC _ c => .c c
  | .addU _ n => .u n
  | .dropU _ n => .u n
  | .addR _ n o => .r (n, o)
  | .dropR _ n o => .r (n, o)
def lsA : LS → Bool
  | .addC .. => true
  | .addU .. => true
  | .addR .. => true
  | _ => false
/-- what follows the kind and the table -/
def lsR : LS → List D
  | .addC _ c => [condD c]
  | .dropC _ c => [condD c]
  | .addU _ n => [.s (.str n)]
  | .dropU _ n => [.s (.str n)]
  | .addR _ n o => [.s (.str n), .s (.str o)]
  | .dropR _ n o => [.s (.str n), .s (.str o)]
def lsD (x : LS) : D := .t (.s (.str (lsK x)) :: .s (.str (lsT x)) :: lsR x)
def lsOk (x : LS) : Prop := itOk (lsI x) ∧ PyData.strOk (lsT x) = true
def tabOf (ts : List Tab) (n : Str) : Option Tab := ts.find? fun t => decide (t.n = n)
def keyN (t : Tab) : Str := (colNs t.cols).headD ""
def keyK (t : Tab) : Str := (t.cols.map (·.k)).headD ""
def fullM (ts : List Tab) (t : Tab) (p : Pt) : Str := if refdM ts t.n = true then "referenced" else if 4 ≤ ptL t p then "limit" else ""
def dropM (ts : List Tab) (t : Tab) (i : It) : Str := if hasIt t i = true then (if refdM ts t.n = true then "referenced" else "") else "missing"
def codeT (ts : List Tab) (x : Tab) : LS → Str
  | .addC _ c => if fitsM x.cols c = true then fullM ts x .c else "condition"
  | .addU _ n => if n ∈ colNs x.cols then (if n = keyN x then "key" else if memB x.un n = true then "taken" else fullM ts x .u) else "missing"
  | .addR t n o => if n ∈ colNs x.cols then (match tabOf ts o with
      | none => "missing"
      | some y => if n = keyN x then "key" else if t = o then "columns" else if kindAt x.cols n ≠ keyK y then "kind" else if memB x.rf (n, o) = true then "taken" else fullM ts x .r) else "missing"
  | .dropC _ c => dropM ts x (.c c)
  | .dropU _ n => dropM ts x (.u n)
  | .dropR _ n o => dropM ts x (.r (n, o))
def codeL (ts : List Tab) (l : LS) : Str := match tabOf ts (lsT l) with
  | none => "missing"
  | some x => codeT ts x l
def newT (x : Tab) (l : LS) : Tab := if lsA l = true then addIt x (lsI l) else delIt x (lsI l)
def targL (ts : List Tab) (l : LS) : List Tab := ts.map fun x => if x.n = lsT l then newT x l else x
theorem tabOf_in {s : Sch} (nm : (schN s).Nodup) {p : Ads × Tab} (hp : p ∈ s) : tabOf (s.map (·.2)) p.2.n = some p.2 := by
  unfold tabOf
  rw [List.find?_map]
  have e : ((fun t : Tab => decide (t.n = p.2.n)) ∘ fun x : Ads × Tab => x.2) = fun q : Ads × Tab => decide (q.2.n = p.2.n) := rfl
  rw [e, sch_find nm hp]
  rfl
theorem tabOf_out {s : Sch} {n : Str} (h : n ∉ schN s) : tabOf (s.map (·.2)) n = none := by
  unfold tabOf
  rw [List.find?_eq_none]
  intro t ht
  obtain ⟨p, hp, rfl⟩ := List.mem_map.mp ht
  simp only [decide_eq_true_eq]
  exact fun e => h (List.mem_map.mpr ⟨p, hp, e⟩)
def tbs (s : Sch) : List Tab := s.map (·.2)
def spLacks : Sp := fun vs H Q _ => ∃ (S : Addr) (s : Sch) (t n : Str) (L : Addr), vs = [.ref S, .str t, .ref L] ∧ ScV H S s ∧ H L = some (.lst [.str n]) ∧ ∀ H', Same H H' → Q (.bl (match tabOf (tbs s) t with | none => true | some x => !decide (n ∈ colNs x.cols))) H'
def spKeyName : Sp := fun vs H Q _ => ∃ (a : Ads) (t : Tab), vs = [.ref a.d] ∧ DescAt H a t ∧ 1 ≤ t.cols.length ∧ Q (.str (keyN t)) H
def spKeyKind : Sp := fun vs H Q _ => ∃ (a : Ads) (t : Tab), vs = [.ref a.d] ∧ DescAt H a t ∧ 1 ≤ t.cols.length ∧ Q (.str (keyK t)) H
def spColCalled : Sp := fun vs H Q _ => ∃ (a : Ads) (t : Tab) (n : Str), vs = [.ref a.d, .str n] ∧ DescAt H a t ∧ t.cols.length ≤ 40 ∧ n ∈ colNs t.cols ∧ ∀ ca c H', t.cols[(colNs t.cols).idxOf n]? = some c → H' ca = some (.tup [.str c.n, .str c.k, .bl c.b]) → Same H H' → Q (.ref ca) H'
def spFull : Sp := fun vs H Q _ => ∃ (S : Addr) (s : Sch) (q : Ads × Tab) (p : Pt), vs = [.ref S, .str q.2.n, .str (ptN p)] ∧ ScV H S s ∧ q ∈ s ∧ ∀ H', Same H H' → Q (.str (fullM (tbs s) q.2 p)) H'
def spDropCode : Sp := fun vs H Q _ => ∃ (S : Addr) (s : Sch) (t : Str) (i : It) (v : V), vs = [.ref S, .str t, .str (ptN (itP i)), v] ∧ ScV H S s ∧ Tp H v (itD i) ∧ itOk i ∧ ∀ H', Same H H' → Q (.str (match tabOf (tbs s) t with | none => "missing" | some x => dropM (tbs s) x i)) H'
def spCode (P : LS → Prop) : Sp := fun vs H Q _ => ∃ (S : Addr) (s : Sch) (st : Addr) (l : LS), vs = [.ref S, .ref st] ∧ ScV H S s ∧ Tp H (.ref st) (lsD l) ∧ lsOk l ∧ P l ∧ ∀ H', Same H H' → Q (.str (codeL (tbs s) l)) H'
def spConstraint : Sp := fun vs H Q _ => ∃ (st : Addr) (l : LS), vs = [.ref st] ∧ Tp H (.ref st) (lsD l) ∧ ∀ p v H', H' p = some (.tup [.str (ptN (itP (lsI l))), v]) → Tp H' v (itD (lsI l)) → Same H H' → Q (.ref p) H'
def spTargL : Sp := fun vs H Q _ => ∃ (S : Addr) (s : Sch) (st : Addr) (l : LS), vs = [.ref S, .ref st] ∧ ScV H S s ∧ Tp H (.ref st) (lsD l) ∧ lsOk l ∧ codeL (tbs s) l = "" ∧ ∀ S' s' H', NewSch H H' S' s' (targL (tbs s) l) → Q (.ref S') H'
def spTarget (C : Addr) : Sp := fun vs H Q E => ∃ (S : Addr) (s : Sch) (st : Addr) (l : LS), vs = [.ref S, .ref st] ∧ ScV H S s ∧ Tp H (.ref st) (lsD l) ∧ lsOk l ∧
  (codeL (tbs s) l = "" → ∀ S' s' H', NewSch H H' S' s' (targL (tbs s) l) → Q (.ref S') H') ∧
  (codeL (tbs s) l ≠ "" → ∀ H1 d, Same H H1 → H1 d = none → E (.ref C) (some d) (upd H1 d (.xd [("index", .int 0), ("code", .str (codeL (tbs s) l))])))
theorem tab_cases {s : Sch} (nm : (schN s).Nodup) (n : Str) : (n ∉ schN s ∧ tabOf (tbs s) n = none) ∨ ∃ p ∈ s, p.2.n = n ∧ tabOf (tbs s) n = some p.2 := by
  by_cases h : n ∈ schN s
  · obtain ⟨p, hp, rfl⟩ := sch_in h
    exact .inr ⟨p, hp, rfl, tabOf_in nm hp⟩
  · exact .inl ⟨h, tabOf_out h⟩
theorem idx_get {cols : List Col} {n : Str} (h : n ∈ colNs cols) : ∃ c, cols[(colNs cols).idxOf n]? = some c ∧ c.n = n ∧ c.k = kindAt cols n ∧ c ∈ cols := by
  obtain ⟨j, e1, e2, e3, _⟩ := idx_str h
  have hj : j < cols.length := by unfold colNs at e2; rwa [List.length_map] at e2
  have ec : cols[j]? = some cols[j] := List.getElem?_eq_getElem hj
  refine ⟨cols[j], by rw [← e1]; exact ec, ?_, ?_, List.getElem_mem hj⟩
  · unfold colNs at e3
    rw [List.getElem?_map, ec] at e3
    exact Option.some.inj e3
  · unfold kindAt
    rw [← e1, List.getD_eq_getElem?_getD, List.getElem?_map, ec]
    rfl
theorem key_at {t : Tab} (h : 1 ≤ t.cols.length) : ∃ c, t.cols[0]? = some c ∧ c.n = keyN t ∧ c.k = keyK t ∧ keyN t ∈ colNs t.cols := by
  cases e : t.cols with
  | nil => rw [e] at h; exact absurd h (by decide)
  | cons c r => exact ⟨c, rfl, by unfold keyN colNs; rw [e]; rfl, by unfold keyK; rw [e]; rfl, by unfold keyN colNs; rw [e]; simp⟩
end Lt
namespace Lt
open PySem L2 TL
theorem units_of {A : Around} {k : Nat} (hr : Room k A) : A.units + 65 < cLine := by
  have := hr.un
  omega
end Lt
namespace Lt
open PySem L2 TL
theorem TpL.c1 {H : Hp} {d : D} {ds : List D} {xs : List V} (h : TpL H xs (d :: ds)) : ∃ v vs, xs = v :: vs ∧ Tp H v d ∧ TpL H vs ds := by
  cases h with | cons a b => exact ⟨_, _, rfl, a, b⟩
theorem TpL.c0 {H : Hp} {xs : List V} (h : TpL H xs []) : xs = [] := by cases h; rfl
theorem Tp.s1 {H : Hp} {v w : V} (h : Tp H v (.s w)) : v = w := by cases h; rfl
theorem ls_at {H : Hp} {st : Addr} {l : LS} (h : Tp H (.ref st) (lsD l)) : ∃ ys, H st = some (.tup (.str (lsK l) :: .str (lsT l) :: ys)) ∧ TpL H ys (lsR l) := by
  obtain ⟨st', xs, e, hst, r⟩ := t_at h
  cases e
  obtain ⟨v, vs, rfl, a, r⟩ := r.c1
  obtain ⟨w, ws, rfl, b, r⟩ := r.c1
  rw [a.s1, b.s1] at hst
  exact ⟨ws, hst, r⟩
theorem tp_one {H : Hp} {xs : List V} {d : D} (h : TpL H xs [d]) : ∃ v, xs = [v] ∧ Tp H v d := by
  obtain ⟨v, vs, rfl, a, r⟩ := h.c1
  rw [r.c0]
  exact ⟨v, rfl, a⟩
theorem tp_two {H : Hp} {xs : List V} {u v : V} (h : TpL H xs [.s u, .s v]) : xs = [u, v] := by
  obtain ⟨x, vs, rfl, a, r⟩ := h.c1
  obtain ⟨y, rfl, b⟩ := tp_one r
  rw [a.s1, b.s1]
end Lt
namespace Lt
open PySem L2 TL
theorem kindA (l : LS) : inV (.str (lsK l)) [.str "add_check", .str "add_unique", .str "add_reference"] = lsA l := by
  cases l <;> (simp only [lsK, lsA]; decide +kernel)
/-- one table of a new schema has got another list of constraints -/
theorem NewSch.set {H H1 H2 : Hp} {S : Addr} {s : Sch} {ts : List Tab} (N : NewSch H H1 S s ts) (nm : (schN s).Nodup) {p : Ads × Tab} (hp : p ∈ s) (e : Same H1 H2) {pt : Pt} {ys : List V} {t' : Tab} (hn : t'.n = p.2.n) (D : DescAt (upd H2 (ptA p.1 pt) (.lst ys)) p.1 t') :
    NewSch H (upd H2 (ptA p.1 pt) (.lst ys)) S (s.map fun x => if x.2.n = p.2.n then (x.1, t') else x) (ts.map fun x => if x.n = p.2.n then t' else x) := by
  have hb : ptA p.1 pt ∈ adL p.1 := by cases pt <;> simp [ptA, adL]
  obtain ⟨zs, hz⟩ := (N.ds p hp).isL _ hb
  have hz2 := e _ _ hz
  have kt : KeepT H2 (upd H2 (ptA p.1 pt) (.lst ys)) := KeepT.upd fun xs z => by rw [hz2] at z; cases z
  have ad : (s.map fun x => if x.2.n = p.2.n then (x.1, t') else x).map (·.1) = s.map (·.1) := by
    rw [List.map_map]
    refine List.map_congr_left fun x _ => ?_
    show (if x.2.n = p.2.n then (x.1, t') else x).1 = x.1
    split <;> rfl
  have nk : schK (s.map fun x => if x.2.n = p.2.n then (x.1, t') else x) = schK s := by
    unfold schK
    rw [List.map_map]
    refine List.map_congr_left fun x _ => ?_
    show ((Sum.inr (if x.2.n = p.2.n then (x.1, t') else x).2.n : Key), V.ref (if x.2.n = p.2.n then (x.1, t') else x).1.d) = _
    split
    · rename_i h; rw [h, ← hn]
    · rfl
  have back : ∀ x ∈ (s.map fun x => if x.2.n = p.2.n then (x.1, t') else x), x = (p.1, t') ∨ (x ∈ s ∧ x.1 ≠ p.1 ∧ x.2.n ≠ p.2.n) := fun x hx => by
    obtain ⟨y, hy, rfl⟩ := List.mem_map.mp hx
    by_cases h : y.2.n = p.2.n
    · rw [if_pos h]
      have := sch_one nm hy hp h
      subst this
      exact .inl rfl
    · rw [if_neg h]
      refine .inr ⟨hy, fun z => h ?_, h⟩
      have hd : y.1.d = p.1.d := by rw [z]
      obtain ⟨i1, h1, e1⟩ := List.getElem_of_mem hy
      obtain ⟨i2, h2, e2⟩ := List.getElem_of_mem hp
      have b1 : (s.map fun p => p.1.d)[i1]? = some p.1.d := by rw [List.getElem?_map, List.getElem?_eq_getElem h1, e1]; exact congrArg some hd
      have b2 : (s.map fun p => p.1.d)[i2]? = some p.1.d := by rw [List.getElem?_map, List.getElem?_eq_getElem h2, e2]; rfl
      have := nd_ix N.dn b1 b2
      subst this
      rw [e1] at e2
      rw [e2]
  refine ⟨?_, fun x hx => ?_, ?_, N.fS, fun x hx => ?_, ?_, ?_, ?_⟩
  · rw [nk, upd_ne (fun z => by have := e _ _ N.sk; rw [z, hz2] at this; cases this)]
    exact e _ _ N.sk
  · rcases back x hx with rfl | ⟨h1, h2, h3⟩
    · exact D
    · have D1 := (N.ds x h1).mono e
      refine D1.frame kt (fun o z => by rw [upd_ne (fun w => by have := D1.dk; rw [w, hz2] at this; cases this)]; exact z) (fun b hb' o z => ?_)
      rw [upd_ne (fun w => ?_)]
      · exact z
      · have := flat_one N.ln h1 hp hb' (by rw [w]; exact hb)
        exact h2 (by rw [this])
  · rw [← N.ts, List.map_map, List.map_map]
    refine List.map_congr_left fun x _ => ?_
    show (if x.2.n = p.2.n then (x.1, t') else x).2 = if x.2.n = p.2.n then t' else x.2
    split <;> rfl
  · rcases back x hx with rfl | ⟨h1, _⟩
    · exact N.fd p hp
    · exact N.fd x h1
  · have e2 : (s.map fun x => if x.2.n = p.2.n then (x.1, t') else x).map (fun p => p.1.d) = s.map fun p => p.1.d := by
      rw [List.map_map]
      refine List.map_congr_left fun x _ => ?_
      show (if x.2.n = p.2.n then (x.1, t') else x).1.d = x.1.d
      split <;> rfl
    rw [e2]; exact N.dn
  · rw [schL_of ad]; exact N.ln
  · intro b o hb'
    rw [upd_ne (fun z => by have := (N.fd p hp).2.2 _ hb; rw [← z, hb'] at this; cases this)]
    exact e _ _ (N.se _ _ hb')
theorem codeL_some {ts : List Tab} {l : LS} (h : codeL ts l = "") : ∃ x, tabOf ts (lsT l) = some x ∧ codeT ts x l = "" := by
  unfold codeL at h
  cases e : tabOf ts (lsT l) with
  | none =>
    rw [e] at h
    have h : ("missing" : Str) = "" := h
    exact absurd h (by decide +kernel)
  | some x => rw [e] at h; exact ⟨x, rfl, h⟩
theorem full_len {ts : List Tab} {x : Tab} {p : Pt} (h : fullM ts x p = "") : ptL x p < 4 := by
  unfold fullM at h
  split at h
  · exact absurd h (by decide +kernel)
  · split at h
    · exact absurd h (by decide +kernel)
    · omega
theorem code_add {ts : List Tab} {x : Tab} {l : LS} (h : codeT ts x l = "") (a : lsA l = true) : ptL x (itP (lsI l)) < 4 := by
  cases l with
  | addC t c =>
    simp only [codeT] at h
    split at h
    · exact full_len h
    · exact absurd h (by decide +kernel)
  | addU t n =>
    simp only [codeT] at h
    split at h
    · split at h
      · exact absurd h (by decide +kernel)
      · split at h
        · exact absurd h (by decide +kernel)
        · exact full_len h
    · exact absurd h (by decide +kernel)
  | addR t n o =>
    simp only [codeT] at h
    split at h
    · split at h
      · exact absurd h (by decide +kernel)
      · split at h
        · exact absurd h (by decide +kernel)
        · split at h
          · exact absurd h (by decide +kernel)
          · split at h
            · exact absurd h (by decide +kernel)
            · split at h
              · exact absurd h (by decide +kernel)
              · exact full_len h
    · exact absurd h (by decide +kernel)
  | dropC t c => cases a
  | dropU t n => cases a
  | dropR t n o => cases a
theorem drop_has {ts : List Tab} {x : Tab} {i : It} (h : dropM ts x i = "") : hasIt x i = true := by
  unfold dropM at h
  cases e : hasIt x i with
  | true => rfl
  | false =>
    rw [e] at h
    have h : ("missing" : Str) = "" := h
    exact absurd h (by decide +kernel)
theorem code_drop {ts : List Tab} {x : Tab} {l : LS} (h : codeT ts x l = "") (a : lsA l = false) : hasIt x (lsI l) = true := by
  cases l with
  | addC t c => cases a
  | addU t n => cases a
  | addR t n o => cases a
  | dropC t c => exact drop_has h
  | dropU t n => exact drop_has h
  | dropR t n o => exact drop_has h
end Lt

set_option autoImplicit false
namespace Lt
open PySem L2 TL
open C8 (pss_cut)
theorem iteBF {b : Bool} {A B : Prop} (hb : b = false) (h : B) : if b = true then A else B := by rw [hb]; exact iteF h
theorem iteBT {b : Bool} {A B : Prop} (hb : b = true) (h : A) : if b = true then A else B := by rw [hb]; exact iteT h
/-! ## what the law draws for steps on constraints -/
def kinds6 : List Str := ["add_check", "drop_check", "add_unique", "drop_unique", "add_reference", "drop_reference"]
/-- _law_pick -/
def spPick : Sp := fun vs H Q _ => ∃ (t c L : Addr) (cs : List Int) (xs : List V) (ds : List D) (o : V), vs = [.ref t, .ref L, o] ∧ TapeAt H t c cs ∧ H L = some (.lst xs) ∧ TpL H xs ds ∧ clL ds = true ∧ dpL ds ≤ 10 ∧ xs.length ≤ 40 ∧
  ∀ v H', (v = o ∨ ∃ d ∈ ds, Tp H' v d) → TapeAt H' t c cs → SameX t H H' → Q v H'
theorem strs_ok {xs : List Str} (h : ∀ x ∈ xs, PyData.strOk x = true) : clL (xs.map fun x => D.s (.str x)) = true ∧ dpL (xs.map fun x => D.s (.str x)) ≤ 10 :=
  ⟨clL_all.mpr fun d hd => by obtain ⟨x, hx, rfl⟩ := List.mem_map.mp hd; exact h x hx, dpL_le fun d hd => by obtain ⟨x, hx, rfl⟩ := List.mem_map.mp hd; exact Nat.zero_le _⟩
theorem pick_str {H : Hp} {v : V} {o : Str} {xs : List Str} (h : v = .str o ∨ ∃ d ∈ xs.map (fun x => D.s (.str x)), Tp H v d) (ho : PyData.strOk o = true) (hx : ∀ x ∈ xs, PyData.strOk x = true) : ∃ n, v = .str n ∧ PyData.strOk n = true := by
  rcases h with rfl | ⟨d, hd, ht⟩
  · exact ⟨o, rfl, ho⟩
  · obtain ⟨x, hx', rfl⟩ := List.mem_map.mp hd
    exact ⟨x, ht.s1, hx x hx'⟩
/-- a part of a description, or of what stands for it -/
def PartI (H : Hp) (d : Addr) (p : Pt) : Prop := ∃ (b : Addr) (xs : List V) (is : List It), DGet H d (.str (ptN p)) (some (.ref b)) ∧ H b = some (.lst xs) ∧ TpL H xs (is.map itD) ∧ (∀ i ∈ is, itOk i ∧ itP i = p) ∧ is.length ≤ 4
theorem its_ok {is : List It} (h : ∀ i ∈ is, itOk i) : clL (is.map itD) = true ∧ dpL (is.map itD) ≤ 3 :=
  ⟨clL_all.mpr fun d hd => by obtain ⟨x, hx, rfl⟩ := List.mem_map.mp hd; exact (itD_nb (h x hx)).2.1, dpL_le fun d hd => by obtain ⟨x, hx, rfl⟩ := List.mem_map.mp hd; exact (itD_nb (h x hx)).2.2⟩
theorem DescAt.parts {H : Hp} {a : Ads} {t : Tab} (D : DescAt H a t) (v : TabV t) (p : Pt) : PartI H a.d p := by
  obtain ⟨g, xs, h1, h2⟩ := D.part p
  cases p with
  | c => exact ⟨_, xs, t.ch.map .c, g, h1, by rw [List.map_map]; exact h2, fun i hi => by obtain ⟨x, hx, rfl⟩ := List.mem_map.mp hi; exact ⟨v.cc x hx, rfl⟩, by rw [List.length_map]; exact v.c4⟩
  | u => exact ⟨_, xs, t.un.map .u, g, h1, by rw [List.map_map]; exact h2, fun i hi => by obtain ⟨x, hx, rfl⟩ := List.mem_map.mp hi; exact ⟨v.un x hx, rfl⟩, by rw [List.length_map]; exact v.u4⟩
  | r => exact ⟨_, xs, t.rf.map .r, g, h1, by rw [List.map_map]; exact h2, fun i hi => by obtain ⟨x, hx, rfl⟩ := List.mem_map.mp hi; exact ⟨v.rf x hx, rfl⟩, by rw [List.length_map]; exact v.r4⟩
def descE (k u r : Addr) : List (Key × V) := [(Sum.inr ("checks" : Str), .ref k), (Sum.inr ("uniques" : Str), .ref u), (Sum.inr ("references" : Str), .ref r)]
theorem merge_descE (k u r : Addr) : mergeK [] (descE k u r) = descE k u r := by
  simp [mergeK, putK, descE, e_ch_un, e_ch_rf, e_un_rf]
theorem parts_none {H : Hp} {d k u r : Addr} (hd : H d = some (.dK (descE k u r))) (hk : H k = some (.lst [])) (hu : H u = some (.lst [])) (hr : H r = some (.lst [])) (p : Pt) : PartI H d p := by
  have g : ∀ n : Str, DGet H d (.str n) (valV (descE k u r) (Sum.inr n : Key)) := fun n => DGet.k (k := (Sum.inr n : Key)) hd
  have e1 : valV (descE k u r) (Sum.inr ("checks" : Str) : Key) = some (.ref k) := valV_pos rfl
  have e2 : valV (descE k u r) (Sum.inr ("uniques" : Str) : Key) = some (.ref u) := by unfold descE; rw [valV_neg (fun z => e_ch_un (Sum.inr.inj z)), valV_pos rfl]
  have e3 : valV (descE k u r) (Sum.inr ("references" : Str) : Key) = some (.ref r) := by unfold descE; rw [valV_neg (fun z => e_ch_rf (Sum.inr.inj z)), valV_neg (fun z => e_un_rf (Sum.inr.inj z)), valV_pos rfl]
  have no : ∀ p : Pt, ∀ i ∈ ([] : List It), itOk i ∧ itP i = p := fun _ i hi => absurd hi (List.not_mem_nil)
  cases p with
  | c => have := g "checks"; rw [e1] at this; exact ⟨k, [], [], this, hk, .nil, no _, by decide⟩
  | u => have := g "uniques"; rw [e2] at this; exact ⟨u, [], [], this, hu, .nil, no _, by decide⟩
  | r => have := g "references"; rw [e3] at this; exact ⟨r, [], [], this, hr, .nil, no _, by decide⟩
theorem pick_it {H : Hp} {v w : V} {p : Pt} {is : List It} (h : v = w ∨ ∃ d ∈ is.map itD, Tp H v d) (hw : ∃ i, itOk i ∧ itP i = p ∧ Tp H w (itD i)) (hi : ∀ i ∈ is, itOk i ∧ itP i = p) : ∃ i, itOk i ∧ itP i = p ∧ Tp H v (itD i) := by
  rcases h with rfl | ⟨d, hd, ht⟩
  · exact hw
  · obtain ⟨x, hx, rfl⟩ := List.mem_map.mp hd
    exact ⟨x, (hi x hx).1, (hi x hx).2, ht⟩
def ColsOkD (cols : List Col) : Prop := ColsOk [] cols ∧ 1 ≤ cols.length ∧ cols.length ≤ 8
/-- the columns of a table that is not there -/
def cols2 : List Col := [⟨"id", "int", false⟩, ⟨"a", "text", true⟩]
theorem cols2_ok : ColsOkD cols2 := by
  have n1 : nameOk "id" := ⟨by decide +kernel, ⟨105, [100], by decide +kernel, by decide, by decide⟩, fun c hc => by
    have e : tl ("id" : Str) = [105, 100] := by decide +kernel
    rw [e] at hc
    simp only [List.mem_cons, List.not_mem_nil, or_false] at hc
    rcases hc with rfl | rfl <;> (unfold nmCh; decide)⟩
  have n2 : nameOk "a" := ⟨by decide +kernel, ⟨97, [], by decide +kernel, by decide, by decide⟩, fun c hc => by
    have e : tl ("a" : Str) = [97] := by decide +kernel
    rw [e] at hc
    simp only [List.mem_cons, List.not_mem_nil, or_false] at hc
    rcases hc with rfl <;> (unfold nmCh; decide)⟩
  refine ⟨⟨by decide +kernel, fun n hn => ⟨List.not_mem_nil, ?_⟩, fun c hc => ?_, fun c hc => ?_⟩, by decide, by decide⟩
  · simp only [colNs, cols2, List.map_cons, List.map_nil, List.mem_cons, List.not_mem_nil, or_false] at hn
    rcases hn with rfl | rfl
    · exact n1
    · exact n2
  · simp only [cols2, List.mem_cons, List.not_mem_nil, or_false] at hc
    rcases hc with rfl | rfl
    · exact .inl rfl
    · exact .inr rfl
  · have : cols2[0]? = some ⟨"id", "int", false⟩ := rfl
    rw [this] at hc
    cases hc
    rfl
theorem six_no {k : Str} (h : k ∈ kinds6) : inV (.str k) (([("rename_column" : Str), ("reorder" : Str), ("add_column" : Str), ("drop_column" : Str), ("convert" : Str), ("split_column" : Str), ("merge_columns" : Str)] : List Str).map V.str) = false := by
  simp only [kinds6, List.mem_cons, List.not_mem_nil, or_false] at h
  rcases h with rfl | rfl | rfl | rfl | rfl | rfl <;> decide +kernel
theorem six_in {k : Str} (h : k ∈ kinds6) : (!(Builtin.Str.occurrences k "check" 0 k.length 1).isEmpty) = true ∨ ((!(Builtin.Str.occurrences k "check" 0 k.length 1).isEmpty) = false ∧ (!(Builtin.Str.occurrences k "unique" 0 k.length 1).isEmpty) = true) ∨ ((!(Builtin.Str.occurrences k "check" 0 k.length 1).isEmpty) = false ∧ (!(Builtin.Str.occurrences k "unique" 0 k.length 1).isEmpty) = false ∧ (!(Builtin.Str.occurrences k "reference" 0 k.length 1).isEmpty) = true) := by
  simp only [kinds6, List.mem_cons, List.not_mem_nil, or_false] at h
  rcases h with rfl | rfl | rfl | rfl | rfl | rfl
  · exact .inl (by decide +kernel)
  · exact .inl (by decide +kernel)
  · exact .inr (.inl (by decide +kernel))
  · exact .inr (.inl (by decide +kernel))
  · exact .inr (.inr (by decide +kernel))
  · exact .inr (.inr (by decide +kernel))
/-- _law_limit_step -/
def spLimitStep : Sp := fun vs H Q _ => ∃ (t c S C : Addr) (cs : List Int) (s : Sch) (k tn : Str) (cols : List Col), vs = [.ref t, .str k, .ref S, .str tn, .ref C] ∧ TapeAt H t c cs ∧ SchAt H S s t c ∧ (∀ p ∈ s, TabV p.2) ∧ s.length ≤ 6 ∧ k ∈ kinds6 ∧ PyData.strOk tn = true ∧ ColsAt H C cols ∧ ColsOkD cols ∧
  ∀ st l H', Tp H' (.ref st) (lsD l) → lsOk l → TapeAt H' t c cs → SameX t H H' → Q (.ref st) H'
def spLimStep : Sp := fun vs H Q _ => ∃ (t c S K : Addr) (cs : List Int) (s : Sch), vs = [.ref t, .ref S, .ref K] ∧ TapeAt H t c cs ∧ SchAt H S s t c ∧ (∀ p ∈ s, TabV p.2) ∧ s.length ≤ 6 ∧ H K = some (.lst (kinds6.map V.str)) ∧
  ∀ st l H', Tp H' (.ref st) (lsD l) → lsOk l → TapeAt H' t c cs → SameX t H H' → Q (.ref st) H'
theorem fitsK_text {cl : Cl} (h : ClG cl) {k : Str} (hk : k = ("int" : Str) ∨ k = ("text" : Str)) : fitsK cl.v k true = !(decide (cl.v ≠ .non) && !decide ((match cl.v with | .str _ => true | _ => false) = decide (k = ("text" : Str)))) := by
  have ti : ¬ ("text" : Str) = ("int" : Str) := by decide +kernel
  have it : ¬ ("int" : Str) = ("text" : Str) := by decide +kernel
  rcases h with e | ⟨i, e, h1, h2⟩ | ⟨y, e, h1, h2⟩ <;> rw [e]
  · rfl
  · have g : goodV (.int i) = true := decide_eq_true (by omega)
    unfold fitsK
    rw [if_neg (fun z => nomatch z), g, Bool.true_and]
    rcases hk with rfl | rfl
    · show decide (("int" : Str) = "int") = _
      rw [decide_eq_true rfl, decide_eq_false it]
      rfl
    · show decide (("int" : Str) = "text") = _
      rw [decide_eq_false it, decide_eq_true rfl]
      rfl
  · have g : goodV (.str y) = true := decide_eq_true ⟨h1, h2⟩
    unfold fitsK
    rw [if_neg (fun z => nomatch z), g, Bool.true_and]
    rcases hk with rfl | rfl
    · show decide (("text" : Str) = "int") = _
      rw [decide_eq_false ti, decide_eq_false it]
      rfl
    · show decide (("text" : Str) = "text") = _
      rw [decide_eq_true rfl]
      rfl
theorem kindAt_kind {cols : List Col} (co : ColsOk [] cols) {n : Str} (h : n ∈ colNs cols) : kindAt cols n = ("int" : Str) ∨ kindAt cols n = ("text" : Str) := by
  obtain ⟨c, h1, h2, h3, h4⟩ := idx_get h
  rw [← h3]
  exact co.kd c h4
theorem strV_dec (a b : Str) : decide (V.str a = V.str b) = decide (a = b) := by
  by_cases h : a = b
  · rw [decide_eq_true h, decide_eq_true (congrArg V.str h)]
  · rw [decide_eq_false h, decide_eq_false (fun z => h (V.str.inj z))]
theorem blV_dec (x y : Bool) : decide (V.bl x = V.bl y) = decide (x = y) := by cases x <;> cases y <;> rfl
/-! ## what the law expects -/
def spCondFits : Sp := fun vs H Q _ => ∃ (c L : Addr) (cond : Cond) (cols : List Col), vs = [.ref c, .ref L] ∧ Tp H (.ref c) (condD cond) ∧ ColsAt H L cols ∧ ColsOk [] cols ∧ cols.length ≤ 40 ∧ (∀ a ∈ cond, ∀ cl ∈ a, ClG cl) ∧ ∀ H', Same H H' → Q (.bl (fitsM cols cond)) H'
def spFound : Sp := fun vs H Q _ => ∃ (a : Ads) (t : Tab) (n : Str), vs = [.ref a.d, .str n] ∧ DescAt H a t ∧ ColsOk [] t.cols ∧ (n ∉ colNs t.cols → Q .non H) ∧
  (n ∈ colNs t.cols → ∀ ca c, t.cols[(colNs t.cols).idxOf n]? = some c → Tp H (.ref ca) (colD c) → Q (.ref ca) H)
/-- a schema that the law owns -/
structure Own (H : Hp) (S : Addr) (s : Sch) : Prop where
  v : ScV H S s
  dn : (S :: s.map fun p => p.1.d).Nodup
  ln : (schL s).Nodup
theorem newT_cols (x : Tab) (l : LS) : (newT x l).cols = x.cols ∧ (newT x l).n = x.n := by
  unfold newT
  split
  · exact add_cols _ _
  · exact del_cols _ _
theorem newT_other (x : Tab) (l : LS) : ∀ q, q ≠ itP (lsI l) → ptD (newT x l) q = ptD x q := by
  unfold newT
  split
  · exact add_other _ _
  · exact del_other _ _
theorem Own.new {H : Hp} {S : Addr} {s : Sch} (O : Own H S s) : NewSch (fun _ => none) H S s (tbs s) := by
  obtain ⟨n1, n2⟩ := List.nodup_cons.mp O.dn
  exact ⟨O.v.sk, O.v.ds, rfl, rfl, fun p hp => ⟨rfl, fun e => n1 (List.mem_map.mpr ⟨p, hp, e⟩), fun b _ => rfl⟩, n2, O.ln, fun b o h => by cases h⟩
theorem Own.change {H H2 : Hp} {S : Addr} {s : Sch} {l : LS} {p : Ads × Tab} {ys : List V} (O : Own H S s) (e : Same H H2) (hp : p ∈ s) (ep : p.2.n = lsT l) (vt : TabV (newT p.2 l)) (r : TpL H2 ys (ptD (newT p.2 l) (itP (lsI l)))) :
    ∃ s', Own (upd H2 (ptA p.1 (itP (lsI l))) (.lst ys)) S s' ∧ s'.map (·.1) = s.map (·.1) ∧ tbs s' = targL (tbs s) l ∧ SameE (schL s) H (upd H2 (ptA p.1 (itP (lsI l))) (.lst ys)) := by
  have ndA : (adL p.1).Nodup := (List.pairwise_flatMap.mp O.ln).1 _ hp
  have D4 : DescAt (upd H2 (ptA p.1 (itP (lsI l))) (.lst ys)) p.1 (newT p.2 l) := ((O.v.ds p hp).mono e).setPart ndA (newT_cols _ _).1 (newT_other _ _) r
  have N4 := O.new.set O.v.nm hp e (newT_cols p.2 l).2 D4
  have hb : ptA p.1 (itP (lsI l)) ∈ adL p.1 := by cases itP (lsI l) <;> simp [ptA, adL]
  have ad : (s.map fun x => if x.2.n = p.2.n then (x.1, newT p.2 l) else x).map (·.1) = s.map (·.1) := by
    rw [List.map_map]
    refine List.map_congr_left fun x _ => ?_
    show (if x.2.n = p.2.n then (x.1, newT p.2 l) else x).1 = x.1
    split <;> rfl
  have nk : schN (s.map fun x => if x.2.n = p.2.n then (x.1, newT p.2 l) else x) = schN s := by
    unfold schN
    rw [List.map_map]
    refine List.map_congr_left fun x _ => ?_
    show (if x.2.n = p.2.n then (x.1, newT p.2 l) else x).2.n = x.2.n
    split
    · rename_i h; rw [h]; exact (newT_cols p.2 l).2
    · rfl
  refine ⟨_, ⟨⟨N4.sk, N4.ds, by rw [nk]; exact O.v.nm, fun x hx => ?_, by rw [List.length_map]; exact O.v.l6⟩, ?_, N4.ln⟩, ad, ?_, ?_⟩
  · obtain ⟨y, hy, rfl⟩ := List.mem_map.mp hx
    split
    · exact vt
    · exact O.v.ok y hy
  · have e2 : (s.map fun x => if x.2.n = p.2.n then (x.1, newT p.2 l) else x).map (fun p => p.1.d) = s.map fun p => p.1.d := by
      rw [List.map_map]
      refine List.map_congr_left fun x _ => ?_
      show (if x.2.n = p.2.n then (x.1, newT p.2 l) else x).1.d = x.1.d
      split <;> rfl
    rw [e2]
    exact O.dn
  · unfold tbs targL
    rw [List.map_map, List.map_map]
    refine List.map_congr_left fun x hx => ?_
    show (if x.2.n = p.2.n then (x.1, newT p.2 l) else x).2 = if x.2.n = lsT l then newT x.2 l else x.2
    rw [ep]
    by_cases h : x.2.n = lsT l
    · rw [if_pos h, if_pos h]
      have : x = p := sch_one O.v.nm hx hp (h.trans ep.symm)
      rw [this]
    · rw [if_neg h, if_neg h]
  · intro b o hb' hn
    rw [upd_ne (fun z => hn (by rw [z]; exact List.mem_flatMap.mpr ⟨p, hp, hb⟩))]
    exact e _ _ hb'
theorem Own.add {H H2 : Hp} {S : Addr} {s : Sch} {l : LS} {p : Ads × Tab} {xs : List V} {w : V} (O : Own H S s) (e : Same H H2) (hp : p ∈ s) (ep : p.2.n = lsT l) (lo : lsOk l) (hA : lsA l = true) (l4 : ptL p.2 (itP (lsI l)) < 4) (r : TpL H2 xs (ptD p.2 (itP (lsI l)))) (hw : Tp H2 w (itD (lsI l))) :
    ∃ s', Own (upd H2 (ptA p.1 (itP (lsI l))) (.lst (xs ++ [w]))) S s' ∧ s'.map (·.1) = s.map (·.1) ∧ tbs s' = targL (tbs s) l ∧ SameE (schL s) H (upd H2 (ptA p.1 (itP (lsI l))) (.lst (xs ++ [w]))) := by
  have hnt : newT p.2 l = addIt p.2 (lsI l) := by unfold newT; rw [hA]; rfl
  refine O.change e hp ep (by rw [hnt]; exact (O.v.ok p hp).add lo.1 l4) ?_
  rw [hnt, add_part]
  exact TpL.snoc r hw
theorem first_at {α : Type} {f : α → Bool} {xs : List α} {j : Nat} (h : xs.findIdx? f = some j) : ∃ z, xs[j]? = some z ∧ f z = true ∧ ∀ (m : Nat) (z' : α), m < j → xs[m]? = some z' → f z' = false := by
  obtain ⟨hj, h1, h2⟩ := List.findIdx?_eq_some_iff_getElem.mp h
  refine ⟨xs[j], List.getElem?_eq_getElem hj, h1, fun m z' hm hz => ?_⟩
  have := h2 m hm
  have e : xs[m]? = some xs[m] := List.getElem?_eq_getElem (by omega)
  rw [e] at hz
  cases hz
  simpa using this
theorem seq_nat {j n : Nat} (h : j < n) : seqIndex? (j : Int) n = some j := by
  unfold seqIndex?
  simp
  omega
theorem pyOfL_length : ∀ ds : List D, (pyOfL ds).length = ds.length
  | [] => rfl
  | d :: ds => congrArg Nat.succ (pyOfL_length ds)
theorem Own.del {H H2 : Hp} {S : Addr} {s : Sch} {l : LS} {p : Ads × Tab} {xs : List V} (O : Own H S s) (e : Same H H2) (hp : p ∈ s) (ep : p.2.n = lsT l) (lo : lsOk l) (hA : lsA l = false) (hi : hasIt p.2 (lsI l) = true) (r : TpL H2 xs (ptD p.2 (itP (lsI l)))) :
    ∃ j z, j < xs.length ∧ (pyOfL (ptD p.2 (itP (lsI l))))[j]? = some z ∧ PyData.eqv z (pyOf (itD (lsI l))) = true ∧ (∀ (m : Nat) (z' : PyData), m < j → (pyOfL (ptD p.2 (itP (lsI l))))[m]? = some z' → PyData.eqv z' (pyOf (itD (lsI l))) = false) ∧
    ∃ s', Own (upd H2 (ptA p.1 (itP (lsI l))) (.lst (xs.eraseIdx j))) S s' ∧ s'.map (·.1) = s.map (·.1) ∧ tbs s' = targL (tbs s) l ∧ SameE (schL s) H (upd H2 (ptA p.1 (itP (lsI l))) (.lst (xs.eraseIdx j))) := by
  have hnt : newT p.2 l = delIt p.2 (lsI l) := by unfold newT; rw [hA]; rfl
  obtain ⟨j, h1, h2⟩ := del_place (O.v.ok p hp) lo.1 hi
  obtain ⟨z, h3, h4, h5⟩ := first_at h1
  have hj : j < xs.length := by
    have := (List.getElem?_eq_some_iff.mp h3).1
    rw [pyOfL_length] at this
    rw [r.length]; exact this
  refine ⟨j, z, hj, h3, h4, h5, O.change e hp ep (by rw [hnt]; exact (O.v.ok p hp).del _) ?_⟩
  rw [hnt, ← h2]
  exact TpL.eraseIdx j r
theorem col_eqv (c d : Col) : PyData.eqv (pyOf (colD c)) (pyOf (colD d)) = (c.n == d.n && (c.k == d.k && c.b == d.b)) := by
  simp only [colD, pyOf, pyOfL, PyData.eqv, PyData.eqvAll, Bool.and_true]
theorem col_eqv_name {c d : Col} (h : c.n = d.n → c = d) : PyData.eqv (pyOf (colD c)) (pyOf (colD d)) = decide (c.n = d.n) := by
  rw [col_eqv]
  by_cases e : c.n = d.n
  · have := h e
    subst this
    simp
  · rw [decide_eq_false e, beq_false_of_ne e]
    rfl
theorem one_name {cols : List Col} (nd : (colNs cols).Nodup) {i j : Nat} {c d : Col} (h1 : cols[i]? = some c) (h2 : cols[j]? = some d) (e : c.n = d.n) : c = d := by
  have b1 : (colNs cols)[i]? = some c.n := by unfold colNs; rw [List.getElem?_map, h1]; rfl
  have b2 : (colNs cols)[j]? = some c.n := by unfold colNs; rw [List.getElem?_map, h2, e]; rfl
  have := nd_ix nd b1 b2
  subst this
  rw [h1] at h2
  exact Option.some.inj h2
theorem col_cl {c : Col} (h : PyData.strOk c.n = true) (k : c.k = ("int" : Str) ∨ c.k = ("text" : Str)) : SeqAt.shaped (pyOf (colD c)) = true := by
  refine shaped_of (d := colD c) ?_ (by show (colD c).dp ≤ 20; simp [colD, D.dp, dpL])
  have : PyData.strOk c.k = true := by rcases k with e | e <;> rw [e] <;> decide +kernel
  show clL [.s (.str c.n), .s (.str c.k), .s (.bl c.b)] = true
  simp only [clL, D.cl, sCl]
  rw [h, this]; rfl
/-! ## what a copy of a schema is -/
mutual
theorem Tp.ofG {H : Hp} : ∀ {d : D} {v : V} {X : List Addr}, Gp H v (gOf d) X → Tp H v d ∧ X = []
  | .s _, _, _, h => by cases h with | s h => exact ⟨.s h, rfl⟩
  | .t ds, _, _, h => by
    cases h with
    | t h n r =>
      obtain ⟨r1, r2⟩ := TpL.ofG r
      exact ⟨.t h r1, r2⟩
theorem TpL.ofG {H : Hp} : ∀ {ds : List D} {vs : List V} {X : List Addr}, GpL H vs (gOfL ds) X → TpL H vs ds ∧ X = []
  | [], _, _, h => by cases h; exact ⟨.nil, rfl⟩
  | d :: ds, _, _, h => by
    cases h with
    | cons h r =>
      obtain ⟨a1, rfl⟩ := Tp.ofG h
      obtain ⟨r1, rfl⟩ := TpL.ofG r
      exact ⟨.cons a1 r1, rfl⟩
end
theorem lG_of {H : Hp} {ds : List D} {v : V} {X : List Addr} (h : Gp H v (lG ds) X) : ∃ a xs, v = .ref a ∧ H a = some (.lst xs) ∧ TpL H xs ds ∧ X = [a] := by
  cases h with
  | l h n r =>
    obtain ⟨r1, rfl⟩ := TpL.ofG r
    exact ⟨_, _, rfl, h, r1, rfl⟩
theorem strs_of {H : Hp} : ∀ {xs : List Str} {vs : List V} {X : List Addr}, GpL H vs (xs.map fun x => G.s (.str x)) X → vs = xs.map V.str ∧ X = []
  | [], _, _, h => by cases h; exact ⟨rfl, rfl⟩
  | x :: r, _, _, h => by
    cases h with
    | cons h q =>
      cases h
      obtain ⟨rfl, rfl⟩ := strs_of q
      exact ⟨rfl, rfl⟩
theorem strsG_of {H : Hp} {xs : List Str} {v : V} {X : List Addr} (h : Gp H v (strsG xs) X) : ∃ a, v = .ref a ∧ H a = some (.lst (xs.map V.str)) ∧ X = [a] := by
  cases h with
  | l h n r =>
    obtain ⟨rfl, rfl⟩ := strs_of r
    exact ⟨_, rfl, h, rfl⟩
theorem descG_of {H : Hp} {t : Tab} {v : V} {X : List Addr} (h : Gp H v (descG t) X) : ∃ a : Ads, v = .ref a.d ∧ DescAt H a t ∧ X = a.d :: adL a := by
  unfold descG at h
  cases h with
  | @d d kvs _ X h n nd r f =>
    cases r with
    | cons g1 r =>
      cases r with
      | cons g2 r =>
        cases r with
        | cons g3 r =>
          cases r with
          | cons g4 r =>
            cases r
            obtain ⟨c, xc, rfl, h1, t1, rfl⟩ := lG_of g1
            obtain ⟨k, xk, rfl, h2, t2, rfl⟩ := lG_of g2
            obtain ⟨u, rfl, h3, rfl⟩ := strsG_of g3
            obtain ⟨r, xr, rfl, h4, t4, rfl⟩ := lG_of g4
            exact ⟨⟨d, c, k, u, r⟩, rfl, ⟨h, ⟨xc, h1, t1⟩, ⟨xk, h2, t2⟩, h3, ⟨xr, h4, t4⟩⟩, rfl⟩
theorem tabsG_of {H : Hp} : ∀ {ts : List Tab} {kvs : List (Key × V)} {X : List Addr}, GpK H kvs (tabsG ts) X → ∃ s : Sch, kvs = schK s ∧ s.map (·.2) = ts ∧ (∀ p ∈ s, DescAt H p.1 p.2) ∧ X = schD s
  | [], _, _, h => by
    unfold tabsG at h
    cases h
    exact ⟨[], rfl, rfl, fun p hp => absurd hp List.not_mem_nil, rfl⟩
  | t :: ts, _, _, h => by
    unfold tabsG at h
    cases h with
    | cons h r =>
      obtain ⟨a, rfl, D, rfl⟩ := descG_of h
      obtain ⟨s, rfl, rfl, hd, rfl⟩ := tabsG_of r
      refine ⟨(a, t) :: s, rfl, rfl, fun p hp => ?_, rfl⟩
      rcases List.mem_cons.mp hp with rfl | hp
      · exact D
      · exact hd p hp
theorem schD_sub : ∀ s : Sch, (s.map fun p => p.1.d).Sublist (schD s) ∧ (schL s).Sublist (schD s)
  | [] => ⟨List.Sublist.refl _, List.Sublist.refl _⟩
  | p :: r => by
    obtain ⟨h1, h2⟩ := schD_sub r
    constructor
    · show (p.1.d :: r.map fun p => p.1.d).Sublist ((p.1.d :: adL p.1) ++ schD r)
      exact List.Sublist.cons₂ _ (h1.trans (List.sublist_append_right _ _))
    · show (adL p.1 ++ schL r).Sublist ((p.1.d :: adL p.1) ++ schD r)
      exact List.Sublist.append (List.sublist_cons_self _ _) h2
theorem Own.copy {H H' : Hp} {S : Addr} {s : Sch} (B : ScV H S s) {x : V} {X : List Addr} (h : Gp H' x (schG s) X) (nd : X.Nodup) : ∃ S' s', x = .ref S' ∧ Own H' S' s' ∧ tbs s' = tbs s ∧ X = S' :: schD s' := by
  unfold schG at h
  cases h with
  | @d S' kvs _ X h n nk r f =>
    obtain ⟨s', rfl, e, hd, rfl⟩ := tabsG_of r
    have en : schN s' = schN s := by
      have := congrArg (List.map fun t : Tab => t.n) e
      rw [List.map_map, List.map_map] at this
      exact this
    have el : s'.length = s.length := by have := congrArg List.length e; rwa [List.length_map, List.length_map] at this
    obtain ⟨n1, n2⟩ := List.nodup_cons.mp nd
    refine ⟨S', s', rfl, ⟨⟨h, hd, by rw [en]; exact B.nm, fun p hp => ?_, by rw [el]; exact B.l6⟩, ?_, n2.sublist (schD_sub s').2⟩, e, rfl⟩
    · have : p.2 ∈ s'.map (·.2) := List.mem_map.mpr ⟨p, hp, rfl⟩
      rw [e] at this
      obtain ⟨q, hq, eq⟩ := List.mem_map.mp this
      rw [← eq]
      exact B.ok q hq
    · exact nd.sublist (List.Sublist.cons₂ _ (schD_sub s').1)
theorem Own.mono {H H' : Hp} {S : Addr} {s : Sch} (O : Own H S s) (e : Same H H') : Own H' S s := ⟨O.v.mono e, O.dn, O.ln⟩
theorem schD_of {s s' : Sch} (h : s'.map (·.1) = s.map (·.1)) : schD s' = schD s := by
  have := congrArg (List.flatMap fun x : Ads => x.d :: adL x) h
  rw [List.flatMap_map, List.flatMap_map] at this
  exact this
theorem Own.at {H H' : Hp} {S t c : Addr} {s : Sch} {cs : List Int} (O : Own H' S s) (T : TapeAt H t c cs) (T' : TapeAt H' t c cs) (fr : ∀ a ∈ S :: schD s, H a = none) : SchAt H' S s t c := by
  have nt : ∀ a ∈ S :: schD s, a ≠ t := fun a ha => (T.fresh (fr a ha)).1
  have nc : ∀ a ∈ S :: schD s, c ≠ a := fun a ha => (T.fresh (fr a ha)).2
  refine ⟨O.v.sk, O.v.ds, O.v.nm, List.nodup_cons.mpr ⟨fun h => ?_, O.dn⟩, List.nodup_cons.mpr ⟨fun h => ?_, O.ln⟩⟩
  · rcases List.mem_cons.mp h with h | h
    · exact nt S List.mem_cons_self h.symm
    · exact nt t (List.mem_cons_of_mem _ ((schD_sub s).1.subset h)) rfl
  · exact nc c (List.mem_cons_of_mem _ ((schD_sub s).2.subset h)) rfl
/-- _law_check, _law_unique, _law_reference -/
def spExp (P : LS → Prop) : Sp := fun vs H Q _ => ∃ (S : Addr) (s : Sch) (st : Addr) (l : LS) (p : Ads × Tab), vs = [.ref S, .ref st] ∧ Own H S s ∧ Tp H (.ref st) (lsD l) ∧ lsOk l ∧ P l ∧ p ∈ s ∧ p.2.n = lsT l ∧
  (codeT (tbs s) p.2 l ≠ "" → ∀ H', Same H H' → Q (.str (codeT (tbs s) p.2 l)) H') ∧
  (codeT (tbs s) p.2 l = "" → ∀ s' H', Own H' S s' → s'.map (·.1) = s.map (·.1) → tbs s' = targL (tbs s) l → SameE (schL s) H H' → Q (.str "") H')
/-- _law_expected -/
def spExpected : Sp := fun vs H Q _ => ∃ (S : Addr) (s : Sch) (st : Addr) (l : LS), vs = [.ref S, .ref st] ∧ ScV H S s ∧ Tp H (.ref st) (lsD l) ∧ lsOk l ∧
  (codeL (tbs s) l ≠ "" → ∀ p H', H' p = some (.tup [.non, .str (codeL (tbs s) l)]) → Same H H' → Q (.ref p) H') ∧
  (codeL (tbs s) l = "" → ∀ p S' s' H', H' p = some (.tup [.ref S', .str ""]) → Own H' S' s' → tbs s' = targL (tbs s) l → (∀ a ∈ S' :: schD s', H a = none) → Same H H' → Q (.ref p) H')
end Lt

set_option autoImplicit false
namespace Lt
open PySem L2 TL
/-! ## what a name is -/
def firstL : Str := "abcdefghijklmnopqrstuvwxyz"
def lettersL : Str := "abcdefghijklmnopqrstuvwxyz0123456789_"
/-- is z a name -/
def nameB (z : Str) : Bool := decide (z.length ≤ 20) && ((match tl z with
  | [] => false
  | c :: _ => decide (c ∈ tl firstL)) && (tl z).all fun c => decide (c ∈ tl lettersL))
theorem first_iff {c : Nat} : c ∈ tl firstL ↔ 97 ≤ c ∧ c ≤ 122 := by
  have e : tl firstL = (List.range 26).map (· + 97) := by decide +kernel
  rw [e, List.mem_map]
  constructor
  · rintro ⟨i, hi, rfl⟩
    have := List.mem_range.mp hi
    omega
  · intro h
    exact ⟨c - 97, List.mem_range.mpr (by omega), by omega⟩
theorem letters_iff {c : Nat} : c ∈ tl lettersL ↔ nmCh c := by
  have e : tl lettersL = (List.range 26).map (· + 97) ++ ((List.range 10).map (· + 48) ++ [95]) := by decide +kernel
  rw [e, List.mem_append, List.mem_append, List.mem_map, List.mem_map, List.mem_singleton]
  unfold nmCh
  constructor
  · rintro (⟨i, hi, rfl⟩ | ⟨i, hi, rfl⟩ | h)
    · have := List.mem_range.mp hi; omega
    · have := List.mem_range.mp hi; omega
    · omega
  · rintro (h | h | h)
    · exact .inl ⟨c - 97, List.mem_range.mpr (by omega), by omega⟩
    · exact .inr (.inl ⟨c - 48, List.mem_range.mpr (by omega), by omega⟩)
    · exact .inr (.inr h)
theorem nameB_iff {z : Str} : nameB z = true ↔ nameOk z := by
  unfold nameB nameOk
  rw [Bool.and_eq_true, Bool.and_eq_true, decide_eq_true_iff, List.all_eq_true]
  constructor
  · rintro ⟨h1, h2, h3⟩
    refine ⟨h1, ?_, fun c hc => letters_iff.mp (of_decide_eq_true (h3 c hc))⟩
    cases e : tl z with
    | nil => rw [e] at h2; cases h2
    | cons c r => rw [e] at h2; exact ⟨c, r, rfl, first_iff.mp (of_decide_eq_true h2)⟩
  · rintro ⟨h1, ⟨c, r, e, h2⟩, h3⟩
    refine ⟨h1, ?_, fun c hc => decide_eq_true (letters_iff.mpr (h3 c hc))⟩
    rw [e]
    exact decide_eq_true (first_iff.mpr h2)
theorem str_zero {x : Str} (h : x.cps.size = 0) : x = "" := by
  obtain ⟨⟨l⟩⟩ := x
  have : l = [] := List.length_eq_zero_iff.mp h
  subst this
  rfl
def spIsName : Sp := fun vs H Q _ => ∃ z : Str, vs = [.str z] ∧ z.length ≤ 1000 ∧ ∀ H', Same H H' → Q (.bl (nameB z)) H'
end Lt

set_option autoImplicit false
/-! ## zip of lists and tuples, mixed -/
namespace LtZ
open PySem PySem.Spec PyProof.Rows L2
/-- what is drawn from: a list, or a tuple -/
inductive Src where
  | l
  | t
def Src.it (k : Src) (h : Heap) (it a : Addr) (i : Nat) : Prop := match k with | .l => h.IsListIter it a i | .t => h.IsTupleIter it a i
def Src.is (k : Src) (h : Heap) (a : Addr) (xs : Array Value) : Prop := match k with | .l => h.IsList a xs | .t => h.IsTuple a xs
def Src.nm (k : Src) : String := match k with | .l => "list_iterator" | .t => "tuple_iterator"
theorem Src.it_but {k : Src} {h h' : Heap} {a b l : Addr} {i : Nat} (x : k.it h a l i) (e : Heap.ExtBut b h h') (n : a ≠ b) : k.it h' a l i := by
  cases k
  · exact Heap.IsListIter.extBut x e n
  · exact Heap.IsTupleIter.extBut x e n
theorem Src.is_but {k : Src} {h h' : Heap} {a b : Addr} {xs : Array Value} (x : k.is h a xs) (e : Heap.ExtBut b h h') (n : a ≠ b) : k.is h' a xs := by
  cases k
  · exact Heap.IsList.extBut x e n
  · exact Heap.IsTuple.extBut x e n
theorem Src.it_at {k : Src} {h h' : Heap} {a l : Addr} {i : Nat} (x : k.it h a l i) (e : ∀ o, h.get? a = some o → h'.get? a = some o) : k.it h' a l i := by
  cases k
  · exact Heap.IsListIter.at x e
  · exact Heap.IsTupleIter.at x e
theorem Src.it_obj {k : Src} {h : Heap} {a l : Addr} {i : Nat} (x : k.it h a l i) : ∃ o, h.get? a = some o ∧ o.data = .fields #[.ref l, .int i 0] := by
  cases k
  · obtain ⟨o, h1, _, h2⟩ := x; exact ⟨o, h1, h2⟩
  · obtain ⟨o, h1, _, h2⟩ := x; exact ⟨o, h1, h2⟩
theorem Src.it_new {k : Src} {h : Heap} {a l : Addr} (x : h.get? a = some { cls := .type k.nm, data := .fields #[.ref l, .int 0 0] }) : k.it h a l 0 := by
  cases k
  · exact ⟨_, x, rfl, rfl⟩
  · exact ⟨_, x, rfl, rfl⟩
section
variable {P : Program} {w : World} {A : Around} {E : Value → Shared → Prop} {s : Shared}
theorem draw {k : Src} {it l : Addr} {i : Nat} {xs : Array Value} {x : Value} {Q : Value → Shared → Prop} (hi : k.it s.heap it l i) (hl : k.is s.heap l xs) (hx : xs[i]? = some x)
    (q : ∀ h2, k.it h2 it l (i + 1) → Heap.SameBut it s.heap h2 → Q x { s with heap := h2 }) : wpAny (model P w) A (Builtin.SmallTypes.nextOf (.ref it)) Q E s := by
  cases k
  · exact wpAny_nextOf_list_item hi hl hx fun h2 b c => q h2 b c
  · exact RZ.nextOf_tuple_item hi hl hx q
theorem drawn {k : Src} {it l : Addr} {i : Nat} {xs : Array Value} {Q : Value → Shared → Prop} (hh : A.handled = none) (hi : k.it s.heap it l i) (hl : k.is s.heap l xs) (hx : xs[i]? = none)
    (q : ∀ h2 e, Heap.ExtBut it s.heap h2 → (∃ o, h2.get? e = some o ∧ o.cls = .type "StopIteration") → E (.ref e) { s with heap := h2 }) : wpAny (model P w) A (Builtin.SmallTypes.nextOf (.ref it)) Q E s := by
  cases k
  · exact wpAny_nextOf_list_end hh hi hl hx q
  · exact RZ.nextOf_tuple_end hh hi hl hx q
/-- all but four places stands -/
def But4 (z TO i1 i2 : Addr) (h h2 : Heap) : Prop := ∀ c o, c ≠ z → c ≠ TO → c ≠ i1 → c ≠ i2 → h.get? c = some o → h2.get? c = some o
variable {k1 k2 : Src} {z TI TO i1 i2 l1 l2 : Addr} {n1 n2 : Nat} {xs ys : Array Value} {x y a b : Value}
theorem step_item {Q : Value → Shared → Prop} (D : ZipApart z TI TO i1 i2 l1 l2) (hz : IsZip s.heap z TI TO .none) (tI : IsPair s.heap TI (.ref i1) (.ref i2)) (tO : IsPair s.heap TO a b)
    (h1 : k1.it s.heap i1 l1 n1) (h2 : k2.it s.heap i2 l2 n2) (L1 : k1.is s.heap l1 xs) (L2 : k2.is s.heap l2 ys) (hx : xs[n1]? = some x) (hy : ys[n2]? = some y)
    (q : ∀ g, IsZip g z TI TO (rawInt s.heap.objs.size) → IsPair g TO x y → k1.it g i1 l1 (n1 + 1) → k2.it g i2 l2 (n2 + 1) → IsPair g s.heap.objs.size x y → g.objs.size = s.heap.objs.size + 1 → But4 z TO i1 i2 s.heap g → Q (.ref s.heap.objs.size) { s with heap := g }) :
    wpAny (model P w) A (Builtin.«zip.__next__» ⟨[.ref z], []⟩) (fun f s2 => ∃ v, f = .done (.ret v) ∧ Q v s2) E s := by
  show wpAny _ _ (field (.ref z) 2 >>= _) _ _ _
  refine wpAny_bind (wpAny_field hz rfl (x := .bool false) rfl ?_)
  show wpAny _ _ (field (.ref z) 3 >>= _) _ _ _
  refine wpAny_bind (wpAny_field hz rfl (x := .ref TI) rfl (wpAny_bind (wpAny_seqItems tI rfl ?_)))
  show wpAny _ _ (Builtin.SmallTypes.ownedTupleIsFree (.ref z) >>= _) _ _ _
  refine wpAny_bind ?_
  unfold Builtin.SmallTypes.ownedTupleIsFree
  refine wpAny_bind (wpAny_field hz rfl (x := .none) rfl (wpAny_pure ?_))
  simp only [if_true]
  refine wpAny_bind (wpAny_rule (wpAny_bind (wpAny_field hz rfl (x := .ref TO) rfl (wpAny_bind (wpAny_setField_rec hz (by simp) fun g1 z1 b1 => ?_)))))
  replace z1 : IsZip g1 z TI TO .ellipsis := z1
  refine wpAny_bind ?_
  simp only [List.zipIdx_cons, List.zipIdx_nil, List.forIn_cons, List.forIn_nil]
  refine wpAny_bind (wpAny_bind (wpAny_onRaise ?_))
  show wpAny _ _ (Builtin.SmallTypes.nextOf (.ref i1) >>= _) _ _ _
  refine wpAny_bind (draw (Src.it_but h1 b1.extBut D.i1z) (Src.is_but L1 b1.extBut D.l1z) hx fun g2 j1 b2 => wpAny_pure ?_)
  have o2 : IsPair g2 TO a b := b2.extBut _ _ D.TOi1 (b1.extBut _ _ D.TOz tO)
  refine wpAny_bind (wpAny_seqItems o2 rfl (wpAny_bind (wpAny_updateSeq_pair o2 fun g3 o3 b3 => ?_)))
  replace o3 : IsPair g3 TO x b := o3
  refine wpAny_bind (wpAny_letGo (wpAny_pure (wpAny_bind (wpAny_bind (wpAny_onRaise ?_)))))
  show wpAny _ _ (Builtin.SmallTypes.nextOf (.ref i2) >>= _) _ _ _
  have h2' := Src.it_but (Src.it_but (Src.it_but h2 b1.extBut D.i2z) b2.extBut D.i12.symm) b3.extBut D.TOi2.symm
  have L2' := Src.is_but (Src.is_but (Src.is_but L2 b1.extBut D.l2z) b2.extBut D.l2i1) b3.extBut D.l2TO
  refine wpAny_bind (draw h2' L2' hy fun g4 j2 b4 => wpAny_pure ?_)
  have o4 : IsPair g4 TO x b := b4.extBut _ _ D.TOi2 o3
  refine wpAny_bind (wpAny_seqItems o4 rfl (wpAny_bind (wpAny_updateSeq_pair o4 fun g5 o5 b5 => ?_)))
  replace o5 : IsPair g5 TO x y := o5
  refine wpAny_bind (wpAny_letGo (wpAny_pure (wpAny_pure (wpAny_bind (wpAny_seqItems o5 rfl (wpAny_bind (wpAny_newTuple ?_)))))))
  have sz : g5.objs.size = s.heap.objs.size := by rw [b5.1, b4.1, b3.1, b2.1, b1.1]
  have z5 : IsZip g5 z TI TO .ellipsis := b5.extBut _ _ D.TOz.symm (b4.extBut _ _ D.i2z.symm (b3.extBut _ _ D.TOz.symm (b2.extBut _ _ D.i1z.symm z1)))
  have up5 : But4 z TO i1 i2 s.heap g5 := fun c o c1 c2 c3 c4 e => b5.extBut _ _ c2 (b4.extBut _ _ c4 (b3.extBut _ _ c2 (b2.extBut _ _ c3 (b1.extBut _ _ c1 e))))
  have j1' := Src.it_but (Src.it_but (Src.it_but j1 b3.extBut D.TOi1.symm) b4.extBut D.i12) b5.extBut D.TOi1.symm
  have j2' := Src.it_but j2 b5.extBut D.TOi2.symm
  have zl : z < g5.objs.size := Heap.lt_size z5
  show wpAny _ _ (Builtin.SmallTypes.ownedTupleHandOut (.ref z) (.ref g5.objs.size) >>= _) _ _ _
  refine wpAny_bind ?_
  unfold Builtin.SmallTypes.ownedTupleHandOut
  have z6 : IsZip (g5.push { cls := .type "tuple", data := .seq #[x, y] }) z TI TO .ellipsis := Heap.get?_push_of_some _ z5
  refine wpAny_bind (wpAny_setField_rec z6 (by simp) fun g7 z7 b7 => ?_)
  replace z7 : IsZip g7 z TI TO (rawInt g5.objs.size) := z7
  refine wpAny_setField_rec z7 (by simp) fun g8 z8 b8 => ?_
  replace z8 : IsZip g8 z TI TO (rawInt g5.objs.size) := z8
  have up : ∀ c o, c ≠ z → g5.get? c = some o → g8.get? c = some o := fun c o c1 e => b8.extBut _ _ c1 (b7.extBut _ _ c1 (Heap.get?_push_of_some _ e))
  have t8 : IsPair g8 g5.objs.size x y := b8.extBut _ _ (Nat.ne_of_gt zl) (b7.extBut _ _ (Nat.ne_of_gt zl) (Heap.get?_push_size _ rfl))
  have s8 : g8.objs.size = g5.objs.size + 1 := by rw [b8.1, b7.1, Heap.size_push]
  rw [sz] at z8 t8 s8
  refine wpAny_pure ⟨_, rfl, ?_⟩
  show Q (.ref g5.objs.size) _
  rw [sz]
  exact q g8 z8 (up _ _ D.TOz o5) (Src.it_at j1' fun o e => up _ o D.i1z e) (Src.it_at j2' fun o e => up _ o D.i2z e) t8 s8 fun c o c1 c2 c3 c4 e => up c o c1 (up5 c o c1 c2 c3 c4 e)
theorem step_end {Q : Fin → Shared → Prop} (hh : A.handled = none) (D : ZipApart z TI TO i1 i2 l1 l2) (hz : IsZip s.heap z TI TO .none) (tI : IsPair s.heap TI (.ref i1) (.ref i2)) (tO : IsPair s.heap TO a b)
    (h1 : k1.it s.heap i1 l1 n1) (h2 : k2.it s.heap i2 l2 n2) (L1 : k1.is s.heap l1 xs) (L2 : k2.is s.heap l2 ys) (he : xs[n1]? = none ∨ ys[n2]? = none)
    (q : ∀ g e, But4 z TO i1 i2 s.heap g → (∃ o, g.get? e = some o ∧ o.cls = .type "StopIteration") → E (.ref e) { s with heap := g }) : wpAny (model P w) A (Builtin.«zip.__next__» ⟨[.ref z], []⟩) Q E s := by
  show wpAny _ _ (field (.ref z) 2 >>= _) _ _ _
  refine wpAny_bind (wpAny_field hz rfl (x := .bool false) rfl ?_)
  show wpAny _ _ (field (.ref z) 3 >>= _) _ _ _
  refine wpAny_bind (wpAny_field hz rfl (x := .ref TI) rfl (wpAny_bind (wpAny_seqItems tI rfl ?_)))
  show wpAny _ _ (Builtin.SmallTypes.ownedTupleIsFree (.ref z) >>= _) _ _ _
  refine wpAny_bind ?_
  unfold Builtin.SmallTypes.ownedTupleIsFree
  refine wpAny_bind (wpAny_field hz rfl (x := .none) rfl (wpAny_pure ?_))
  simp only [if_true]
  refine wpAny_bind (wpAny_rule (wpAny_bind (wpAny_field hz rfl (x := .ref TO) rfl (wpAny_bind (wpAny_setField_rec hz (by simp) fun g1 z1 b1 => ?_)))))
  replace z1 : IsZip g1 z TI TO .ellipsis := z1
  refine wpAny_bind ?_
  simp only [List.zipIdx_cons, List.zipIdx_nil, List.forIn_cons, List.forIn_nil]
  refine wpAny_bind (wpAny_bind (wpAny_onRaise ?_))
  show wpAny _ _ (Builtin.SmallTypes.nextOf (.ref i1) >>= _) _ _ _
  cases hx : xs[n1]? with
  | none =>
    refine wpAny_bind (drawn hh (Src.it_but h1 b1.extBut D.i1z) (Src.is_but L1 b1.extBut D.l1z) hx fun g2 e b2 he => ?_)
    obtain ⟨oe, hoe, hce⟩ := he
    have z2 : IsZip g2 z TI TO .ellipsis := b2 _ _ D.i1z.symm z1
    have ez : e ≠ z := fun x => by subst x; rw [z2] at hoe; cases hoe; simp at hce
    exact wpAny_setField_rec z2 (by simp) fun g3 _ b3 => q g3 e (fun c o c1 _ c3 _ x => b3.extBut _ _ c1 (b2 _ _ c3 (b1.extBut _ _ c1 x))) ⟨oe, b3.extBut _ _ ez hoe, hce⟩
  | some x =>
    have hy : ys[n2]? = none := by
      rcases he with h | h
      · rw [hx] at h; cases h
      · exact h
    refine wpAny_bind (draw (Src.it_but h1 b1.extBut D.i1z) (Src.is_but L1 b1.extBut D.l1z) hx fun g2 j1 b2 => wpAny_pure ?_)
    have o2 : IsPair g2 TO a b := b2.extBut _ _ D.TOi1 (b1.extBut _ _ D.TOz tO)
    refine wpAny_bind (wpAny_seqItems o2 rfl (wpAny_bind (wpAny_updateSeq_pair o2 fun g3 o3 b3 => ?_)))
    refine wpAny_bind (wpAny_letGo (wpAny_pure (wpAny_bind (wpAny_bind (wpAny_onRaise ?_)))))
    show wpAny _ _ (Builtin.SmallTypes.nextOf (.ref i2) >>= _) _ _ _
    have h2' := Src.it_but (Src.it_but (Src.it_but h2 b1.extBut D.i2z) b2.extBut D.i12.symm) b3.extBut D.TOi2.symm
    have L2' := Src.is_but (Src.is_but (Src.is_but L2 b1.extBut D.l2z) b2.extBut D.l2i1) b3.extBut D.l2TO
    refine wpAny_bind (drawn hh h2' L2' hy fun g4 e b4 he => ?_)
    obtain ⟨oe, hoe, hce⟩ := he
    have z4 : IsZip g4 z TI TO .ellipsis := b4 _ _ D.i2z.symm (b3.extBut _ _ D.TOz.symm (b2.extBut _ _ D.i1z.symm z1))
    have ez : e ≠ z := fun x => by subst x; rw [z4] at hoe; cases hoe; simp at hce
    exact wpAny_setField_rec z4 (by simp) fun g5 _ b5 => q g5 e (fun c o c1 c2 c3 c4 x => b5.extBut _ _ c1 (b4 _ _ c4 (b3.extBut _ _ c2 (b2.extBut _ _ c3 (b1.extBut _ _ c1 x))))) ⟨oe, b5.extBut _ _ ez hoe, hce⟩
theorem next_item {Q : Option Value → Shared → Prop} (D : ZipApart z TI TO i1 i2 l1 l2) (hz : IsZip s.heap z TI TO .none) (tI : IsPair s.heap TI (.ref i1) (.ref i2)) (tO : IsPair s.heap TO a b)
    (h1 : k1.it s.heap i1 l1 n1) (h2 : k2.it s.heap i2 l2 n2) (L1 : k1.is s.heap l1 xs) (L2 : k2.is s.heap l2 ys) (hx : xs[n1]? = some x) (hy : ys[n2]? = some y)
    (q : ∀ g, IsZip g z TI TO (rawInt s.heap.objs.size) → IsPair g TO x y → k1.it g i1 l1 (n1 + 1) → k2.it g i2 l2 (n2 + 1) → IsPair g s.heap.objs.size x y → g.objs.size = s.heap.objs.size + 1 → But4 z TO i1 i2 s.heap g → Q (some (.ref s.heap.objs.size)) { s with heap := g }) :
    wpAny (model P w) A (pyNext (.ref z)) Q E s := by
  have hT : s.TypeIs (.ref z) "zip" := ⟨_, hz, rfl⟩
  unfold pyNext
  exact wpAny_bind (wpAny_attempt (wpAny_callSpecial?_slot (name := Str.ofString "__next__") hT F.slot_zip_next (wpAny_call_entry F.slot_zip_next hT F.entry_zip_next
    (step_item D hz tI tO h1 h2 L1 L2 hx hy fun g a1 a2 a3 a4 a5 a6 a7 => wpAny_pure (q g a1 a2 a3 a4 a5 a6 a7)) (F.args_zip_next_1 _))))
theorem next_end {Q : Option Value → Shared → Prop} (hh : A.handled = none) (D : ZipApart z TI TO i1 i2 l1 l2) (hz : IsZip s.heap z TI TO .none) (tI : IsPair s.heap TI (.ref i1) (.ref i2)) (tO : IsPair s.heap TO a b)
    (h1 : k1.it s.heap i1 l1 n1) (h2 : k2.it s.heap i2 l2 n2) (L1 : k1.is s.heap l1 xs) (L2 : k2.is s.heap l2 ys) (he : xs[n1]? = none ∨ ys[n2]? = none)
    (q : ∀ g, But4 z TO i1 i2 s.heap g → Q none { s with heap := g }) : wpAny (model P w) A (pyNext (.ref z)) Q E s := by
  have hT : s.TypeIs (.ref z) "zip" := ⟨_, hz, rfl⟩
  unfold pyNext
  refine wpAny_bind (wpAny_attempt (wpAny_callSpecial?_slot (name := Str.ofString "__next__") hT F.slot_zip_next (wpAny_call_entry F.slot_zip_next hT F.entry_zip_next
    (step_end hh D hz tI tO h1 h2 L1 L2 he fun g e hk he => ?_) (F.args_zip_next_1 _))))
  obtain ⟨o, ho, hc⟩ := he
  exact wpAny_bind (wpAny_isInstance (T := "StopIteration") (b := true) ⟨o, ho, hc⟩ isSubtype_stop (wpAny_pure (q _ hk)))
end
abbrev ZH1 (k1 : Src) (h : Heap) (l1 : Addr) : Heap := h.push { cls := .type k1.nm, data := .fields #[.ref l1, .int 0 0] }
abbrev ZH2 (k1 k2 : Src) (h : Heap) (l1 l2 : Addr) : Heap := (ZH1 k1 h l1).push { cls := .type k2.nm, data := .fields #[.ref l2, .int 0 0] }
abbrev ZH3 (k1 k2 : Src) (h : Heap) (l1 l2 : Addr) : Heap := (ZH2 k1 k2 h l1 l2).push { cls := .type "tuple", data := .seq #[.ref h.objs.size, .ref (ZH1 k1 h l1).objs.size] }
abbrev ZH4 (k1 k2 : Src) (h : Heap) (l1 l2 : Addr) : Heap := (ZH3 k1 k2 h l1 l2).push { cls := .type "tuple", data := .seq #[.none, .none] }
abbrev ZH5 (k1 k2 : Src) (h : Heap) (l1 l2 : Addr) : Heap := (ZH4 k1 k2 h l1 l2).push { cls := .type "zip", data := .fields #[.none, .bool false, .bool false, .ref (ZH2 k1 k2 h l1 l2).objs.size, .ref (ZH3 k1 k2 h l1 l2).objs.size] }
theorem meets_new (k1 k2 : Src) (l1 l2 : Addr) (xs ys : Array Value) : Meets (Builtin.«zip.__new__» ⟨[.type "zip", .ref l1, .ref l2], []⟩)
    (fun _ R s => k1.is s.heap l1 xs ∧ k2.is s.heap l2 ys ∧ R (.ok (.ret (.ref (ZH4 k1 k2 s.heap l1 l2).objs.size))) { s with heap := ZH5 k1 k2 s.heap l1 l2 }) :=
  .of_wp fun prog w A R s h => by
    obtain ⟨hp, g, d, tk, os⟩ := s
    obtain ⟨a1, a2, h⟩ := h
    have hsub := sub_zip
    cases k1 <;> cases k2
    · have e1 : Heap.IsList (Shared.heap ⟨hp, g, d, tk, os⟩) l1 xs := a1
      have e2 : Heap.IsList (Shared.heap ⟨hp.push { cls := .type "list_iterator", data := .fields #[.ref l1, .int 0 0] }, g, d, tk, os⟩) l2 ys := Heap.IsList.push a2 _
      wp_walk using wpAny_pyIter_list e1, wpAny_pyIter_list e2
      exact ⟨_, rfl, h⟩
    · have e1 : Heap.IsList (Shared.heap ⟨hp, g, d, tk, os⟩) l1 xs := a1
      have e2 : Heap.IsTuple (Shared.heap ⟨hp.push { cls := .type "list_iterator", data := .fields #[.ref l1, .int 0 0] }, g, d, tk, os⟩) l2 ys := Heap.IsTuple.push a2 _
      wp_walk using wpAny_pyIter_list e1, wpAny_pyIter_tuple e2
      exact ⟨_, rfl, h⟩
    · have e1 : Heap.IsTuple (Shared.heap ⟨hp, g, d, tk, os⟩) l1 xs := a1
      have e2 : Heap.IsList (Shared.heap ⟨hp.push { cls := .type "tuple_iterator", data := .fields #[.ref l1, .int 0 0] }, g, d, tk, os⟩) l2 ys := Heap.IsList.push a2 _
      wp_walk using wpAny_pyIter_tuple e1, wpAny_pyIter_list e2
      exact ⟨_, rfl, h⟩
    · have e1 : Heap.IsTuple (Shared.heap ⟨hp, g, d, tk, os⟩) l1 xs := a1
      have e2 : Heap.IsTuple (Shared.heap ⟨hp.push { cls := .type "tuple_iterator", data := .fields #[.ref l1, .int 0 0] }, g, d, tk, os⟩) l2 ys := Heap.IsTuple.push a2 _
      wp_walk using wpAny_pyIter_tuple e1, wpAny_pyIter_tuple e2
      exact ⟨_, rfl, h⟩
section
variable {P : Program} {w : World} {A : Around} {E : Value → Shared → Prop} {s : Shared}
theorem call_new {k1 k2 : Src} {l1 l2 : Addr} {xs ys : Array Value} {Q : Value → Shared → Prop} (a1 : k1.is s.heap l1 xs) (a2 : k2.is s.heap l2 ys)
    (q : ∀ g, IsZip g (s.heap.objs.size + 4) (s.heap.objs.size + 2) (s.heap.objs.size + 3) .none → IsPair g (s.heap.objs.size + 2) (.ref s.heap.objs.size) (.ref (s.heap.objs.size + 1)) → IsPair g (s.heap.objs.size + 3) .none .none →
      k1.it g s.heap.objs.size l1 0 → k2.it g (s.heap.objs.size + 1) l2 0 → (∀ c o, s.heap.get? c = some o → g.get? c = some o) → Q (.ref (s.heap.objs.size + 4)) { s with heap := g }) :
    wpAny (model P w) A (call (.type "zip") [.ref l1, .ref l2]) Q E s := by
  refine callType_new F.called_zip (by decide) (F.typeCall_zip_2 _ _) (F.newCall_zip_2 _ _) (fun obj => F.args_object_init_3 obj _ _) F.entry_zip_new (meets_new k1 k2 l1 l2 xs ys) ⟨a1, a2, ?_⟩
  have z1 : (ZH1 k1 s.heap l1).objs.size = s.heap.objs.size + 1 := Heap.size_push ..
  have z2 : (ZH2 k1 k2 s.heap l1 l2).objs.size = s.heap.objs.size + 2 := by rw [Heap.size_push, z1]
  have z3 : (ZH3 k1 k2 s.heap l1 l2).objs.size = s.heap.objs.size + 3 := by rw [Heap.size_push, z2]
  have z4 : (ZH4 k1 k2 s.heap l1 l2).objs.size = s.heap.objs.size + 4 := by rw [Heap.size_push, z3]
  have up1 : ∀ {c : Addr} {o : Obj}, (ZH4 k1 k2 s.heap l1 l2).get? c = some o → (ZH5 k1 k2 s.heap l1 l2).get? c = some o := fun e => Heap.get?_push_of_some _ e
  have up2 : ∀ {c : Addr} {o : Obj}, (ZH3 k1 k2 s.heap l1 l2).get? c = some o → (ZH5 k1 k2 s.heap l1 l2).get? c = some o := fun e => up1 (Heap.get?_push_of_some _ e)
  have up3 : ∀ {c : Addr} {o : Obj}, (ZH2 k1 k2 s.heap l1 l2).get? c = some o → (ZH5 k1 k2 s.heap l1 l2).get? c = some o := fun e => up2 (Heap.get?_push_of_some _ e)
  have up4 : ∀ {c : Addr} {o : Obj}, (ZH1 k1 s.heap l1).get? c = some o → (ZH5 k1 k2 s.heap l1 l2).get? c = some o := fun e => up3 (Heap.get?_push_of_some _ e)
  have g5 : (ZH5 k1 k2 s.heap l1 l2).get? (ZH4 k1 k2 s.heap l1 l2).objs.size = some _ := Heap.get?_push_size _ rfl
  have g4 : (ZH5 k1 k2 s.heap l1 l2).get? (ZH3 k1 k2 s.heap l1 l2).objs.size = some _ := up1 (Heap.get?_push_size _ rfl)
  have g3 : (ZH5 k1 k2 s.heap l1 l2).get? (ZH2 k1 k2 s.heap l1 l2).objs.size = some _ := up2 (Heap.get?_push_size _ rfl)
  have g2 : (ZH5 k1 k2 s.heap l1 l2).get? (ZH1 k1 s.heap l1).objs.size = some _ := up3 (Heap.get?_push_size _ rfl)
  have g1 : (ZH5 k1 k2 s.heap l1 l2).get? s.heap.objs.size = some _ := up4 (Heap.get?_push_size _ rfl)
  show _ ∧ _
  rw [z2, z3, z4] at g5
  rw [z1, z2] at g3
  rw [z3] at g4
  rw [z1] at g2
  rw [z4]
  exact ⟨⟨_, g5, rfl⟩, q _ g5 g3 g4 (Src.it_new g1) (Src.it_new g2) fun c o x => up4 (Heap.get?_push_of_some _ x)⟩
end
/-! ### over the layer -/
def Src.sq (k : Src) (K : PySem.W.Frag) (H : Hp) (a : Addr) (xs : List V) : Prop := match k with | .l => SqL K H a xs | .t => SqT K H a xs
theorem Src.raw {k : Src} {X : Cx} {pins : List (Addr × Obj)} {σ : L2.St} {H : Hp} {s : Shared} {a : Addr} {xs : List V} (I : Inv X pins σ H s) (h : k.sq X.K H a xs) : ∃ its : List Value, Vals xs its ∧ k.is s.heap a its.toArray ∧ a < s.heap.objs.size := by
  cases k
  · obtain ⟨its, rv, p, _⟩ := I.list h
    exact ⟨its, rv, p.isList, p.lt⟩
  · obtain ⟨its, rv, p, _⟩ := I.tuple h
    obtain ⟨o, ho, _⟩ := id p
    exact ⟨its, rv, p, Heap.lt_size ho⟩
theorem Src.inj {k : Src} {X : Cx} {pins : List (Addr × Obj)} {σ : L2.St} {H : Hp} {s : Shared} {a : Addr} {xs ys : List V} (I : Inv X pins σ H s) (h : k.sq X.K H a xs) (g : k.sq X.K H a ys) : xs = ys := by
  cases k
  · exact I.list_inj h g
  · exact I.tuple_inj h g
/-- the walk of zip(a, b) -/
def Izz (k1 k2 : Src) (K : PySem.W.Frag) (a b : Addr) : It :=
  ⟨fun i H => ∃ (xs ys : List V) (x y : V), k1.sq K H a xs ∧ k2.sq K H b ys ∧ xs[i]? = some x ∧ ys[i]? = some y,
    fun i H v H' => ∃ T x y, v = .ref T ∧ H T = none ∧ H' = upd H T (.tup [x, y]) ∧ (∀ xs, k1.sq K H a xs → xs[i]? = some x) ∧ ∀ ys, k2.sq K H b ys → ys[i]? = some y,
    fun i H => ∃ xs ys : List V, k1.sq K H a xs ∧ k2.sq K H b ys ∧ (xs.length ≤ i ∨ ys.length ≤ i)⟩
theorem turn {k1 k2 : Src} {P : Program} {w : World} {K : PySem.W.Frag} {elts : List Expr} {kk : Nat} {tpos : Pos} {a b z TI TO i1 i2 : Addr} (D : ZipApart z TI TO i1 i2 a b) :
    Turn P w K (.Tuple elts kk tpos) (Izz k1 k2 K a b) [z, TI, TO, i1, i2] z (fun i h => IsZip h z TI TO .none ∧ IsPair h TI (.ref i1) (.ref i2) ∧ (∃ x y, IsPair h TO x y) ∧ k1.it h i1 a i ∧ k2.it h i2 b i) where
  mem := by simp
  obj := fun i h st c hc => by
    obtain ⟨hz, hI, ⟨x, y, hO⟩, j1, j2⟩ := st
    obtain ⟨o1, e1, d1⟩ := Src.it_obj (k := k1) j1
    obtain ⟨o2, e2, d2⟩ := Src.it_obj (k := k2) j2
    have five : c = z ∨ c = TI ∨ c = TO ∨ c = i1 ∨ c = i2 := by simpa using hc
    rcases five with q | q | q | q | q <;> subst q
    · exact ⟨_, hz, fun v q => nomatch q⟩
    · exact ⟨_, hI, fun v q => nomatch q⟩
    · exact ⟨_, hO, fun v q => nomatch q⟩
    · exact ⟨o1, e1, fun v q => by rw [d1] at q; cases q⟩
    · exact ⟨o2, e2, fun v q => by rw [d2] at q; cases q⟩
  keep := fun i h h' st kp => by
    obtain ⟨hz, hI, ⟨x, y, hO⟩, j1, j2⟩ := st
    exact ⟨kp z (by simp) _ hz, kp TI (by simp) _ hI, ⟨x, y, kp TO (by simp) _ hO⟩, Src.it_at (k := k1) j1 fun o q => kp i1 (by simp) o q, Src.it_at (k := k2) j2 fun o q => kp i2 (by simp) o q⟩
  item := by
    intro X hP hw hK hc i pins s σ H E I hf st hg
    subst hP hw hK
    obtain ⟨hz, hI, ⟨x0, y0, hO⟩, j1, j2⟩ := st
    obtain ⟨xs, ys, x, y, qx, qy, hx, hy⟩ := hg
    obtain ⟨its, rv, p, _⟩ := Src.raw I qx
    obtain ⟨its2, rv2, p2, _⟩ := Src.raw I qy
    obtain ⟨u, hu, ru⟩ := rv.get hx
    obtain ⟨u2, hu2, ru2⟩ := rv2.get hy
    have zl : z < s.heap.objs.size := Heap.lt_size hz
    refine next_item D hz hI hO j1 j2 p p2 (x := u) (y := u2) (by simpa using hu) (by simpa using hu2) fun g z' o' j1' j2' hT hsz hk => ?_
    refine ⟨_, rfl, wpAny_letOwnedTupleGo_zip (s := { s with heap := g }) z' fun g2 z2 sb => ?_⟩
    have hT2 : g2.get? s.heap.objs.size = some { cls := .type "tuple", data := .seq #[u, u2] } := (sb.2 _ (Nat.ne_of_gt zl)).trans hT
    have new : ObjOk X.prog X.w (upd H s.heap.objs.size (.tup [x, y])) g2 s.heap.objs.size (.tup [x, y]) := ⟨by show 2 ≤ sizeLine; decide, [u, u2], .cons ru (.cons ru2 .nil), ⟨_, hT2, rfl, _, rfl⟩⟩
    have I1 : Inv X pins σ (upd H s.heap.objs.size (.tup [x, y])) { s with heap := g2 } := I.turnedNew (t' := s.toks) (ch := [z, TI, TO, i1, i2])
      (fun c o hb q => (sb.2 c (fun r => hb (by simp [r]))).trans (hk c o (fun r => hb (by simp [r])) (fun r => hb (by simp [r])) (fun r => hb (by simp [r])) (fun r => hb (by simp [r])) q)) hf (Nat.le_refl _) new
    refine ⟨.ref s.heap.objs.size, _, I1, rfl, ⟨_, x, y, rfl, I.hok.fresh (Nat.le_refl _), rfl, fun l hl => by rw [Src.inj I hl qx]; exact hx, fun l hl => by rw [Src.inj I hl qy]; exact hy⟩, ⟨z2, ?_, ⟨u, u2, ?_⟩, ?_, ?_⟩, fun c hcm => ?_⟩
    · exact (sb.2 _ D.TIz).trans (hk _ _ D.TIz D.TITO D.TIi1 D.TIi2 hI)
    · exact (sb.2 _ D.TOz).trans o'
    · exact Src.it_at (k := k1) j1' fun o q => (sb.2 _ D.i1z).trans q
    · exact Src.it_at (k := k2) j2' fun o q => (sb.2 _ D.i2z).trans q
    · have lt : c < s.heap.objs.size := by
        have five : c = z ∨ c = TI ∨ c = TO ∨ c = i1 ∨ c = i2 := by simpa using hcm
        rcases five with q | q | q | q | q <;> subst q
        · exact zl
        · exact Heap.lt_size hI
        · exact Heap.lt_size hO
        · obtain ⟨_, e1, _⟩ := Src.it_obj (k := k1) j1; exact Heap.lt_size e1
        · obtain ⟨_, e2, _⟩ := Src.it_obj (k := k2) j2; exact Heap.lt_size e2
      rw [upd_ne (Nat.ne_of_lt lt)]
      exact (hf c hcm).1
  done := by
    intro X hP hw hK hc i pins s σ H E I hf st hg
    subst hP hw hK
    obtain ⟨hz, hI, ⟨x0, y0, hO⟩, j1, j2⟩ := st
    obtain ⟨xs, ys, qx, qy, hend⟩ := hg
    obtain ⟨its, rv, p, _⟩ := Src.raw I qx
    obtain ⟨its2, rv2, p2, _⟩ := Src.raw I qy
    have n1 := rv.length
    have n2 := rv2.length
    have he : its.toArray[i]? = none ∨ its2.toArray[i]? = none := by
      rcases hend with q | q
      · exact .inl (by simp; omega)
      · exact .inr (by simp; omega)
    exact next_end (I.ok.hd hc) D hz hI hO j1 j2 p p2 he fun g hk => ⟨rfl, I.turnedL (t' := s.toks) (ch := [z, TI, TO, i1, i2]) (fun c o hb q =>
      hk c o (fun r => hb (by simp [r])) (fun r => hb (by simp [r])) (fun r => hb (by simp [r])) (fun r => hb (by simp [r])) q) hf⟩
  self := fun A i s Q E st h => wpAny_pyIter_zip st.1 h
def iZz (k1 k2 : Src) (K : PySem.W.Frag) (ta : TA) : TI := fun σ H R => ta σ H fun vs H1 => ∃ a b xs ys, vs = [.ref a, .ref b] ∧ k1.sq K H1 a xs ∧ k2.sq K H1 b ys ∧ R (Izz k1 k2 K a b) H1
theorem pi_zz (k1 k2 : Src) {X : Cx} {e e2 : Expr} {ta : TA} {p pos tpos : Pos} {elts : List Expr} {kk : Nat} (hg : Gl X "zip") (hm : X.mg "zip" = none) (ha : PA X [e, e2] ta)
    (hs : starEach [e, e2] X.env = (false, eval e X.env) :: starEach [e2] X.env := by rfl) (hpl : (backTo pos (starEach [e2] X.env)).any (·.1) = false := by rfl) :
    PI X (.Tuple elts kk tpos) (.Call (.Name "zip" p) [e, e2] [] pos) (iZz k1 k2 X.K ta) := by
  refine ⟨fun pins s σ H R I h => ?_⟩
  refine Call_ (ld_blt I hg hm PyProof.Rows.boot_zip (PyProof.Rows.callWith_type1 (thn (ha.run pos pins s σ H _ I h) fun us s1 ⟨vs, H1, I1, r1, q1⟩ => ?_) hs hpl))
  obtain ⟨a, b, xs, ys, ex, qx, qy, q⟩ := q1
  subst ex
  cases r1 with
  | cons r rr => cases rr with
    | cons r' rr =>
      cases rr; cases r; cases r'
      obtain ⟨its, rv, p1, la⟩ := Src.raw I1 qx
      obtain ⟨its2, rv2, p2, lb⟩ := Src.raw I1 qy
      refine call_new p1 p2 fun g hz hI hO j1 j2 hk => wpAny_pyIter_zip hz ?_
      have I2 : Inv X pins σ H1 { s1 with heap := g } := I1.kept (t' := s1.toks) hk
      refine ⟨s1.heap.objs.size + 4, [s1.heap.objs.size + 4, s1.heap.objs.size + 2, s1.heap.objs.size + 3, s1.heap.objs.size, s1.heap.objs.size + 1], _, _, H1, rfl, I2, turn (PySem.W.ktu_apart s1.heap.objs.size a b la lb), ⟨hz, hI, ⟨_, _, hO⟩, j1, j2⟩, fun c hcm => ?_, q⟩
      have five : c = s1.heap.objs.size + 4 ∨ c = s1.heap.objs.size + 2 ∨ c = s1.heap.objs.size + 3 ∨ c = s1.heap.objs.size ∨ c = s1.heap.objs.size + 1 := by simpa using hcm
      have le : s1.heap.objs.size ≤ c := by rcases five with z | z | z | z | z <;> rw [z] <;> omega
      exact I1.fpOk le (I1.hok.fresh le)
theorem walk_zz {k1 k2 : Src} {K : PySem.W.Frag} {a b : Addr} {xs ys : List V} {n : Nat} (hn : n = min xs.length ys.length) : Walk (Izz k1 k2 K a b) n (fun H => k1.sq K H a xs ∧ k2.sq K H b ys) (YPair (fun i => xs[i]?) (fun i => ys[i]?)) := by
  subst hn
  refine ⟨fun i _ hi q => ?_, fun _ q => ⟨xs, ys, q.1, q.2, by omega⟩, fun i H v H' _ q y => ?_⟩
  · exact ⟨xs, ys, _, _, q.1, q.2, List.getElem?_eq_getElem (show i < xs.length by omega), List.getElem?_eq_getElem (show i < ys.length by omega)⟩
  · obtain ⟨T, x, z, rfl, h2, rfl, h4, h5⟩ := y
    exact ⟨T, x, z, rfl, h2, rfl, h4 xs q.1, h5 ys q.2⟩
end LtZ

set_option autoImplicit false
/-! ## edits -/
namespace Lt
open PySem PySem.Spec PyProof.Rows L2 TL
/-- values that may stand in an edit -/
def valE : V → Prop
  | .non => True
  | .bl _ => True
  | .int i => -100000000000 ≤ i ∧ i ≤ 100000000000
  | .str z => z.length ≤ 40 ∧ ∀ c ∈ tl z, chOk c
  | _ => False
theorem valE.scal {v : V} (h : valE v) : isScal v = true := by
  cases v <;> first | rfl | exact h.elim
theorem valE.thing {v : V} {H : Hp} (h : valE v) : Thing H v := by
  cases v with
  | non => exact .non
  | bl b => exact .bl b
  | int i => exact .int i
  | str z => exact .str z (by have := h.1; omega)
  | _ => exact h.elim
/-- a row fits the columns -/
def rowB (cols : List Col) (vs : List V) : Bool := decide (vs.length = cols.length) && (vs.zip cols).all fun p => fitsK p.1 p.2.k p.2.b
def spFitsCols : Sp := fun vs H Q _ => ∃ (r L : Addr) (xs : List V) (cols : List Col), vs = [.ref r, .ref L] ∧ H r = some (.tup xs) ∧ ColsAt H L cols ∧ (∀ v ∈ xs, valE v) ∧ xs.length ≤ 100 ∧ cols.length ≤ 100 ∧ ∀ H', Same H H' → Q (.bl (rowB cols xs)) H'
/-- an edit -/
inductive Ed where
  | row (ins : Bool) (t : Str) (r : List V)
  | set (t : Str) (k c v : V)
  | del (t : Str) (k : V)
def edT : Ed → Str
  | .row _ t _ => t
  | .set t _ _ _ => t
  | .del t _ => t
def edA : Ed → Str
  | .row true _ _ => "insert"
  | .row false _ _ => "replace"
  | .set _ _ _ _ => "set"
  | .del _ _ => "delete"
def edR : Ed → List D
  | .row _ _ r => [.t (r.map D.s)]
  | .set _ k c v => [.s k, .s c, .s v]
  | .del _ k => [.s k]
def edD (e : Ed) : D := .t (.s (.str (edA e)) :: .s (.str (edT e)) :: edR e)
def edK : Ed → V
  | .row _ _ r => r.headD .non
  | .set _ k _ _ => k
  | .del _ k => k
def edOk : Ed → Prop
  | .row _ t r => PyData.strOk t = true ∧ r.length ≤ 50 ∧ ∀ v ∈ r, valE v
  | .set t k c v => PyData.strOk t = true ∧ valE k ∧ valE c ∧ valE v
  | .del t k => PyData.strOk t = true ∧ valE k
def edFull : Ed → Prop
  | .row _ _ r => r ≠ []
  | _ => True
theorem scal_L {H : Hp} : ∀ {r xs : List V}, TpL H xs (r.map D.s) → xs = r
  | [], _, h => by cases h; rfl
  | v :: r, _, h => by
    cases h with
    | cons h1 h2 => rw [h1.s1, scal_L h2]
theorem row_at {H : Hp} {v : V} {b : Bool} {t : Str} {r : List V} (h : Tp H v (edD (.row b t r))) : ∃ a q, v = .ref a ∧ H a = some (.tup [.str (edA (.row b t r)), .str t, .ref q]) ∧ H q = some (.tup r) := by
  obtain ⟨a, xs, rfl, h1, h2⟩ := t_at h
  obtain ⟨u, us, rfl, k1, h2⟩ := h2.c1
  obtain ⟨u2, us2, rfl, k2, h2⟩ := h2.c1
  obtain ⟨u3, us3, rfl, k3, h2⟩ := h2.c1
  cases h2
  obtain ⟨q, ys, rfl, h3, h4⟩ := t_at k3
  have := scal_L h4
  subst this
  rw [k1.s1, k2.s1] at h1
  exact ⟨a, q, rfl, h1, h3⟩
theorem set_at {H : Hp} {v : V} {t : Str} {k c w : V} (h : Tp H v (edD (.set t k c w))) : ∃ a, v = .ref a ∧ H a = some (.tup [.str "set", .str t, k, c, w]) := by
  obtain ⟨a, xs, rfl, h1, h2⟩ := t_at h
  obtain ⟨u, us, rfl, k1, h2⟩ := h2.c1
  obtain ⟨u2, us2, rfl, k2, h2⟩ := h2.c1
  obtain ⟨u3, us3, rfl, k3, h2⟩ := h2.c1
  obtain ⟨u4, us4, rfl, k4, h2⟩ := h2.c1
  obtain ⟨u5, us5, rfl, k5, h2⟩ := h2.c1
  cases h2
  rw [k1.s1, k2.s1, k3.s1, k4.s1, k5.s1] at h1
  exact ⟨a, rfl, h1⟩
theorem del_at {H : Hp} {v : V} {t : Str} {k : V} (h : Tp H v (edD (.del t k))) : ∃ a, v = .ref a ∧ H a = some (.tup [.str "delete", .str t, k]) := by
  obtain ⟨a, xs, rfl, h1, h2⟩ := t_at h
  obtain ⟨u, us, rfl, k1, h2⟩ := h2.c1
  obtain ⟨u2, us2, rfl, k2, h2⟩ := h2.c1
  obtain ⟨u3, us3, rfl, k3, h2⟩ := h2.c1
  cases h2
  rw [k1.s1, k2.s1, k3.s1] at h1
  exact ⟨a, rfl, h1⟩
theorem ed_sm {e : Ed} (h : edOk e) : True := True.intro
/-! what an edit is worth -/
def keyB (cols : List Col) (v : V) : Bool := rowB (cols.take 1) [v]
def setC (cols : List Col) (c : V) : Option Col := (cols.drop 1).find? fun col => decide (V.str col.n = c)
def setB (cols : List Col) (c v : V) : Bool := match setC cols c with | none => false | some col => fitsK v col.k col.b
abbrev Rws := List (Key × List V)
abbrev StM := List (Str × Rws)
def keyOf : V → Key
  | .int i => .inl i
  | .str z => .inr z
  | _ => .inl 0
def rwsOf (m : StM) (t : Str) : Rws := match m.find? (fun p => decide (p.1 = t)) with | some p => p.2 | none => []
def hasK (rs : Rws) (k : Key) : Bool := rs.any fun p => decide (p.1 = k)
def rowBad (cols : List Col) : Ed → Bool
  | .row _ _ r => !rowB cols r
  | .set _ _ c v => !setB cols c v
  | .del _ _ => false
def isIns : Ed → Bool
  | .row b _ _ => b
  | _ => false
def edC (ts : List Tab) (m : StM) (e : Ed) : Str :=
  match tabOf ts (edT e) with
  | none => "table"
  | some t => if rowBad t.cols e = true then "row" else if keyB t.cols (edK e) = false then "key" else if hasK (rwsOf m (edT e)) (keyOf (edK e)) = isIns e then "key" else ""
def rM (rs : List Ro) : Rws := rs.map fun r => (r.k, r.vs)
def stM (st : List TS) : StM := st.map fun p => (p.n, rM p.rs)
def spFitsKey : Sp := fun vs H Q _ => ∃ (a : Ads) (t : Tab) (v : V), vs = [.ref a.d, v] ∧ DescAt H a t ∧ t.cols.length ≤ 40 ∧ valE v ∧ ∀ H', Same H H' → Q (.bl (keyB t.cols v)) H'
def spKeyOfE : Sp := fun vs H Q _ => ∃ (v : V) (e : Ed), vs = [v] ∧ Tp H v (edD e) ∧ edFull e ∧ ∀ H', Same H H' → Q (edK e) H'
def spIsOther : Sp := fun vs H Q _ => ∃ (a : Ads) (t : Tab) (c : V), vs = [.ref a.d, c] ∧ DescAt H a t ∧ t.cols.length ≤ 40 ∧ valE c ∧ ∀ H', Same H H' → Q (.bl (setC t.cols c).isSome) H'
def spFitsSet : Sp := fun vs H Q _ => ∃ (a : Ads) (t : Tab) (c v : V), vs = [.ref a.d, c, v] ∧ DescAt H a t ∧ ColsOk [] t.cols ∧ t.cols.length ≤ 40 ∧ valE c ∧ valE v ∧ ∀ H', Same H H' → Q (.bl (setB t.cols c v)) H'
def spEdCode : Sp := fun vs H Q _ => ∃ (S : Addr) (s : Sch) (T : Addr) (st : List TS) (v : V) (e : Ed), vs = [.ref S, .ref T, v] ∧ ScV H S s ∧ StAt H T st ∧ (∀ n ∈ schN s, n ∈ stN st) ∧ Tp H v (edD e) ∧ edOk e ∧ ∀ H', Same H H' → Q (.str (edC (tbs s) (stM st) e)) H'
theorem cut_takeE (xs : List V) (k : Nat) : cutV xs none (some (k : Int)) = xs.take k := by
  unfold cutV
  rw [HT.sIx_none, HT.sIx_nat, List.drop_zero, Nat.sub_zero]
  by_cases h : k ≤ xs.length
  · rw [Nat.min_eq_left h]
  · rw [Nat.min_eq_right (by omega), List.take_of_length_le (by omega), List.take_of_length_le (by omega)]
theorem valE.flat {v : V} (h : valE v) : flatV v = true := by
  cases v <;> first | rfl | exact h.elim
theorem eqV_str (n : Str) {c : V} (h : valE c) : eqV (.str n) c = decide (V.str n = c) := by
  cases c with
  | str z =>
    show (n == z) = _
    rw [Bool.eq_iff_iff, beq_iff_eq, decide_eq_true_iff]
    exact ⟨fun e => by rw [e], fun e => V.str.inj e⟩
  | non => rfl
  | bl b => rfl
  | int i => rfl
  | _ => exact h.elim
theorem setC_in (cols : List Col) {c : V} (h : valE c) : inV c (((colNs cols).map V.str).drop 1) = (setC cols c).isSome := by
  unfold setC inV colNs
  rw [List.isSome_find?, List.map_map, ← List.map_drop, List.any_map]
  congr 1
  funext col
  exact eqV_str col.n h
theorem setC_some {cols : List Col} {c : V} {col : Col} (h : setC cols c = some col) : c = .str col.n ∧ col ∈ cols.drop 1 := by
  have h1 := List.find?_some h
  exact ⟨(of_decide_eq_true h1).symm, List.mem_of_find?_eq_some h⟩
theorem col_one {cols : List Col} (nd : (colNs cols).Nodup) {c d : Col} (hc : c ∈ cols) (hd : d ∈ cols) (e : c.n = d.n) : c = d := by
  obtain ⟨i, hi, ei⟩ := List.getElem_of_mem hc
  obtain ⟨j, hj, ej⟩ := List.getElem_of_mem hd
  have a1 : (colNs cols)[i]? = some c.n := by unfold colNs; rw [List.getElem?_map, List.getElem?_eq_getElem hi, ei]; rfl
  have a2 : (colNs cols)[j]? = some c.n := by unfold colNs; rw [List.getElem?_map, List.getElem?_eq_getElem hj, ej, e]; rfl
  have := nd_ix nd a1 a2
  subst this
  rw [← ei, ← ej]
theorem ed_head {H : Hp} {v : V} {e : Ed} (h : Tp H v (edD e)) : ∃ a xs, v = .ref a ∧ H a = some (.tup (.str (edA e) :: .str (edT e) :: xs)) ∧ TpL H xs (edR e) := by
  obtain ⟨a, xs, rfl, h1, h2⟩ := t_at h
  obtain ⟨u, us, rfl, k1, h2⟩ := h2.c1
  obtain ⟨u2, us2, rfl, k2, h2⟩ := h2.c1
  rw [k1.s1, k2.s1] at h1
  exact ⟨a, us2, rfl, h1, h2⟩
theorem keyB_fit {cols : List Col} {v : V} (h : keyB cols v = true) : ∃ c, cols[0]? = some c ∧ fitsK v c.k c.b = true := by
  cases cols with
  | nil =>
    unfold keyB rowB at h
    have h1 := (Bool.and_eq_true_iff.mp h).1
    exact absurd (of_decide_eq_true h1) (by show ¬ (1 : Nat) = 0; decide)
  | cons c r =>
    unfold keyB rowB at h
    rw [List.take_succ_cons, List.take_zero] at h
    have h2 := (Bool.and_eq_true_iff.mp h).2
    have h3 : (fitsK v c.k c.b && true) = true := h2
    exact ⟨c, rfl, by rw [Bool.and_true] at h3; exact h3⟩
theorem keyB_key {cols : List Col} (hc : ColsOk [] cols) {v : V} (h : keyB cols v = true) : v = kV (keyOf v) := by
  obtain ⟨c, h1, h2⟩ := keyB_fit h
  have hb := hc.hd c h1
  cases v with
  | int i => rfl
  | str z => rfl
  | non => rw [hb] at h2; exact absurd h2 (by unfold fitsK; rw [if_pos rfl]; decide)
  | _ =>
    unfold fitsK at h2
    rw [if_neg (fun z => nomatch z)] at h2
    exact absurd (Bool.and_eq_true_iff.mp h2).1 (by show ¬ false = true; decide)
theorem hasK_ro (rs : List Ro) (k : Key) : (valV (roK rs) k).isSome = hasK (rM rs) k := by
  rw [Bool.eq_iff_iff, valV_isSome, roK_keys]
  unfold hasK rM roN
  rw [List.any_map, List.any_eq_true]
  constructor
  · intro h
    obtain ⟨r, h1, h2⟩ := List.mem_map.mp h
    exact ⟨r, h1, decide_eq_true h2⟩
  · rintro ⟨r, h1, h2⟩
    exact List.mem_map.mpr ⟨r, h1, of_decide_eq_true h2⟩
theorem rwsOf_in {st : List TS} (nd : (stN st).Nodup) {p : TS} (hp : p ∈ st) : rwsOf (stM st) p.n = rM p.rs := by
  unfold rwsOf stM
  rw [List.find?_map]
  have e : ((fun q : Str × Rws => decide (q.1 = p.n)) ∘ fun q : TS => (q.n, rM q.rs)) = fun q : TS => decide (q.n = p.n) := rfl
  rw [e]
  cases h : st.find? (fun q => decide (q.n = p.n)) with
  | none =>
    have := List.find?_eq_none.mp h p hp
    simp at this
  | some q =>
    have h1 := List.find?_some h
    have := st_one nd (List.mem_of_find?_eq_some h) hp (of_decide_eq_true h1)
    subst this
    rfl
theorem isIns_eq (e : Ed) : decide (V.str (edA e) = V.str "insert") = isIns e := by
  cases e with
  | row b t r =>
    cases b with
    | true => show decide (V.str "insert" = V.str "insert") = true; decide +kernel
    | false => show decide (V.str "replace" = V.str "insert") = false; decide +kernel
  | set t k c w => show decide (V.str "set" = V.str "insert") = false; decide +kernel
  | del t k => show decide (V.str "delete" = V.str "insert") = false; decide +kernel
/-! what an edit makes of the rows -/
def putRw (rs : Rws) (k : Key) (vs : List V) : Rws := if hasK rs k = true then rs.map (fun p => if p.1 = k then (p.1, vs) else p) else rs ++ [(k, vs)]
def delRw (rs : Rws) (k : Key) : Rws := rs.filter fun p => !decide (p.1 = k)
def restOf (rs : Rws) (k : Key) : List V := match rs.find? (fun p => decide (p.1 = k)) with | some p => p.2 | none => []
def setAt (cols : List Col) (vs : List V) (c v : V) : List V := match c with | .str n => vs.set ((colNs cols).idxOf n - 1) v | _ => vs
def rowsAfter (cols : List Col) (rs : Rws) : Ed → Rws
  | .row _ _ r => putRw rs (keyOf (r.headD .non)) (r.drop 1)
  | .set _ k c v => putRw rs (keyOf k) (setAt cols (restOf rs (keyOf k)) c v)
  | .del _ k => delRw rs (keyOf k)
theorem rM_put (rs : List Ro) (k : Key) (a : Addr) (vs : List V) : rM (putRo rs ⟨k, a, vs⟩) = putRw (rM rs) k vs := by
  unfold putRo putRw
  have e : hasK (rM rs) k = rs.any fun q => decide (q.k = k) := by unfold hasK rM; rw [List.any_map]; rfl
  rw [e]
  split
  · unfold rM
    rw [List.map_map, List.map_map]
    refine List.map_congr_left fun r _ => ?_
    show (Ro.k (if r.k = k then _ else _), Ro.vs (if r.k = k then _ else _)) = if r.k = k then (r.k, vs) else (r.k, r.vs)
    split <;> rfl
  · unfold rM; rw [List.map_append]; rfl
def dropRo (rs : List Ro) (k : Key) : List Ro := rs.filter fun r => !decide (r.k = k)
theorem rM_drop (rs : List Ro) (k : Key) : rM (dropRo rs k) = delRw (rM rs) k := by
  unfold dropRo delRw rM
  rw [List.filter_map]
  rfl
theorem roK_drop (rs : List Ro) (k : Key) : dropK (roK rs) k = roK (dropRo rs k) := by
  unfold dropK dropRo roK
  rw [List.filter_map]
  congr 2
  funext r
  by_cases h : r.k = k <;> simp [h]
theorem restOf_rM {rs : List Ro} (nd : (roN rs).Nodup) {r : Ro} (hr : r ∈ rs) : restOf (rM rs) r.k = r.vs := by
  rw [← restAt_eq nd hr]
  unfold restOf restAt rM
  rw [List.find?_map]
  have e : ((fun p : Key × List V => decide (p.1 = r.k)) ∘ fun q : Ro => (q.k, q.vs)) = fun q : Ro => decide (q.k = r.k) := rfl
  rw [e]
  cases rs.find? (fun q => decide (q.k = r.k)) <;> rfl
/-- the edit can be applied -/
structure EdGood (cols : List Col) (rs : List Ro) (e : Ed) : Prop where
  rb : rowBad cols e = false
  kb : keyB cols (edK e) = true
  kk : hasK (rM rs) (keyOf (edK e)) ≠ isIns e
theorem EdGood.full {cols : List Col} {rs : List Ro} {e : Ed} (g : EdGood cols rs e) : edFull e := by
  cases e with
  | row b t r =>
    intro z
    subst z
    have h4 : (!rowB cols []) = false := g.rb
    have h4' : rowB cols [] = true := by
      cases h : rowB cols [] with
      | true => rfl
      | false => rw [h] at h4; cases h4
    unfold rowB at h4'
    have h5 : decide ((0 : Nat) = cols.length) = true := (Bool.and_eq_true_iff.mp h4').1
    have h6 := of_decide_eq_true h5
    obtain ⟨c, h7, _⟩ := keyB_fit g.kb
    have := (List.getElem?_eq_some_iff.mp h7).1
    omega
  | set t k c w => exact True.intro
  | del t k => exact True.intro
def spWithValue : Sp := fun vs H Q _ => ∃ (a : Ads) (t : Tab) (r : Addr) (xs : List V) (c v : V), vs = [.ref a.d, .ref r, c, v] ∧ DescAt H a t ∧ ColsOk [] t.cols ∧ t.cols.length ≤ 40 ∧ (setC t.cols c).isSome = true ∧ H r = some (.tup xs) ∧ xs.length + 1 = t.cols.length ∧
  ∀ r' H', H' r' = some (.tup (setAt t.cols xs c v)) → Same H H' → Q (.ref r') H'
def spTableAfter : Sp := fun vs H Q _ => ∃ (a : Ads) (t : Tab) (d : Addr) (rs : List Ro) (v : V) (e : Ed), vs = [.ref a.d, .ref d, v] ∧ DescAt H a t ∧ ColsOk [] t.cols ∧ t.cols.length ≤ 40 ∧ TAt H d rs ∧ rs.length ≤ 200 ∧ (∀ r ∈ rs, r.vs.length + 1 = t.cols.length) ∧ Tp H v (edD e) ∧ edOk e ∧ EdGood t.cols rs e ∧
  ∀ d' rs' H', TAt H' d' rs' → rM rs' = rowsAfter t.cols (rM rs) e → Same H H' → H d' = none → Q (.ref d') H'
theorem idx_pos {cols : List Col} (nd : (colNs cols).Nodup) {n : Str} (h : n ∈ colNs (cols.drop 1)) : 1 ≤ (colNs cols).idxOf n ∧ (colNs cols).idxOf n < cols.length := by
  cases cols with
  | nil => cases h
  | cons c r =>
    have h' : n ∈ colNs r := h
    have nd' : (c.n :: colNs r).Nodup := nd
    have hne : c.n ≠ n := fun e => by
      rw [← e] at h'
      exact (List.nodup_cons.mp nd').1 h'
    have e : (colNs (c :: r)).idxOf n = (colNs r).idxOf n + 1 := by
      show (c.n :: colNs r).idxOf n = _
      rw [List.idxOf_cons, beq_false_of_ne hne]; rfl
    have l : (colNs r).idxOf n < (colNs r).length := List.idxOf_lt_length_of_mem h'
    have l2 : (colNs r).length = r.length := by unfold colNs; rw [List.length_map]
    rw [e, List.length_cons]
    omega
theorem set_cut (xs : List V) (k : Nat) (v : V) (h : k < xs.length) : xs.take k ++ [v] ++ xs.drop (k + 1) = xs.set k v := by
  rw [List.set_eq_take_append_cons_drop, if_pos h, List.append_assoc]; rfl
theorem dropRo_nd {rs : List Ro} (nd : (roN rs).Nodup) (k : Key) : (roN (dropRo rs k)).Nodup := by
  unfold roN dropRo
  exact List.Nodup.sublist (List.Sublist.map _ (List.filter_sublist)) nd
/-! a state copied -/
/-- a new state: the same rows in new dicts -/
structure NewSt (H H' : Hp) (T : Addr) (st : List TS) (m : StM) : Prop where
  at' : StAt H' T st
  md : stM st = m
  fT : H T = none
  fd : ∀ q ∈ st, H q.d = none ∧ q.d ≠ T
  dn : (st.map fun q => q.d).Nodup
  se : Same H H'
def spCopyState : Sp := fun vs H Q _ => ∃ (T : Addr) (st : List TS), vs = [.ref T] ∧ StAt H T st ∧ st.length ≤ 100 ∧ ∀ T' st' H', NewSt H H' T' st' (stM st) → Q (.ref T') H'
theorem st_neT {H : Hp} {T : Addr} {st : List TS} (A : StAt H T st) : ∀ p ∈ st, p.d ≠ T := fun p hp e => by
  have h1 := (A.ds p hp).dk
  rw [e, A.sk] at h1
  have h2 : stK st = roK p.rs := HO.dK.inj (Option.some.inj h1)
  have h3 : ((Sum.inr p.n : Key), V.ref p.d) ∈ roK p.rs := by rw [← h2]; exact List.mem_map.mpr ⟨p, hp, rfl⟩
  obtain ⟨r, hr, er⟩ := List.mem_map.mp h3
  have h4 := (A.ds p hp).rt r hr
  have h5 : r.a = p.d := V.ref.inj (congrArg Prod.snd er)
  rw [h5, (A.ds p hp).dk] at h4
  cases h4
theorem stM_at {st : List TS} {i : Nat} {p : TS} (h : st[i]? = some p) : stM (st.take (i + 1)) = stM (st.take i) ++ [(p.n, rM p.rs)] := by
  unfold stM
  rw [List.take_add_one, h, List.map_append]; rfl
theorem stM_names (st : List TS) : (stM st).map (·.1) = stN st := by unfold stM stN; rw [List.map_map]; rfl
theorem unlockE {H H1 : Hp} {a : Addr} {od : Obj} {u : HO} (ha : H a = some u) (s : Same (upd H a (.frz od u)) H1) : Same H (upd H1 a u) := fun b o e => by
  by_cases eb : b = a
  · subst eb; rw [ha] at e; cases e; exact upd_same
  · rw [upd_ne eb]; exact s b o (by rw [upd_ne eb]; exact e)
theorem lockE_free {H H1 : Hp} {a b : Addr} {od : Obj} {u : HO} (s : Same (upd H a (.frz od u)) H1) (h : H1 b = none) : H b = none := by
  have := s.free h
  by_cases eb : b = a
  · subst eb; rw [upd_same] at this; cases this
  · rw [upd_ne eb] at this; exact this
/-! a write -/
def edM (ts : List Tab) (m : StM) (e : Ed) : StM := match tabOf ts (edT e) with
  | none => m
  | some t => m.map fun p => if p.1 = edT e then (p.1, rowsAfter t.cols p.2 e) else p
def runE (ts : List Tab) : StM → List Ed → Nat → (Str × Nat) ⊕ StM
  | m, [], _ => .inr m
  | m, e :: es, i => if edC ts m e = "" then runE ts (edM ts m e) es (i + 1) else .inl (edC ts m e, i)
def applyM (ts : List Tab) (m : StM) (es : List Ed) : (Str × Nat) ⊕ StM := if 24 < es.length then .inl ("long", 24) else runE ts m es 0
structure MW (ts : List Tab) (m : StM) (b : Nat) : Prop where
  nm : (m.map (·.1)).Nodup
  ln : ∀ p ∈ m, p.2.length ≤ b
  tn : ∀ t ∈ ts, t.n ∈ m.map (·.1)
  wd : ∀ p ∈ m, ∀ t ∈ ts, t.n = p.1 → ∀ r ∈ p.2, r.2.length + 1 = t.cols.length
def spApply (C : Addr) : Sp := fun vs H Q E => ∃ (S : Addr) (s : Sch) (T : Addr) (st : List TS) (L : Addr) (es : List Ed) (xs : List V) (b : Nat), vs = [.ref S, .ref T, .ref L] ∧ ScV H S s ∧ StAt H T st ∧ MW (tbs s) (stM st) b ∧ b + es.length ≤ 180 ∧ st.length ≤ 100 ∧
  H L = some (.lst xs) ∧ TpL H xs (es.map edD) ∧ (∀ e ∈ es, edOk e) ∧
  (∀ m, applyM (tbs s) (stM st) es = .inr m → ∀ T' st' H', NewSt H H' T' st' m → Q (.ref T') H') ∧
  (∀ c i, applyM (tbs s) (stM st) es = .inl (c, i) → ∀ H1 d, Same H H1 → H1 d = none → E (.ref C) (some d) (upd H1 d (.xd [("index", .int (i : Nat)), ("code", .str c)])))
theorem edC_good {ts : List Tab} {m : StM} {e : Ed} (h : edC ts m e = "") : ∃ t, tabOf ts (edT e) = some t ∧ rowBad t.cols e = false ∧ keyB t.cols (edK e) = true ∧ hasK (rwsOf m (edT e)) (keyOf (edK e)) ≠ isIns e := by
  unfold edC at h
  cases h3 : tabOf ts (edT e) with
  | none => rw [h3] at h; exact absurd h (by show ¬ ("table" : Str) = ""; decide +kernel)
  | some t =>
    rw [h3] at h
    have h : (if rowBad t.cols e = true then ("row" : Str) else if keyB t.cols (edK e) = false then ("key" : Str) else if hasK (rwsOf m (edT e)) (keyOf (edK e)) = isIns e then ("key" : Str) else ("" : Str)) = "" := h
    refine ⟨t, rfl, ?_⟩
    cases h4 : rowBad t.cols e with
    | true => rw [h4, if_pos rfl] at h; exact absurd h (by decide +kernel)
    | false =>
      rw [h4, if_neg (by decide)] at h
      cases h5 : keyB t.cols (edK e) with
      | false => rw [h5, if_pos rfl] at h; exact absurd h (by decide +kernel)
      | true =>
        rw [h5, if_neg (by decide)] at h
        refine ⟨rfl, rfl, fun h6 => ?_⟩
        rw [if_pos h6] at h
        exact absurd h (by decide +kernel)
theorem put_same {kvs : List (Key × V)} {k : Key} (h : k ∈ kvs.map (·.1)) (v : V) : putK kvs k v = kvs.map fun kv => if kv.1 = k then (kv.1, v) else kv := by
  unfold putK
  rw [if_pos]
  obtain ⟨p, h1, h2⟩ := List.mem_map.mp h
  exact List.any_eq_true.mpr ⟨p, h1, decide_eq_true h2⟩
def replT (st : List TS) (n : Str) (d : Addr) (rs : List Ro) : List TS := st.map fun q => if q.n = n then ⟨q.n, d, rs⟩ else q
theorem replT_K {st : List TS} {n : Str} (h : n ∈ stN st) (d : Addr) (rs : List Ro) : putK (stK st) (Sum.inr n : Key) (.ref d) = stK (replT st n d rs) := by
  rw [put_same (by rw [st_keys]; exact List.mem_map.mpr ⟨n, h, rfl⟩)]
  unfold stK replT
  rw [List.map_map, List.map_map]
  refine List.map_congr_left fun q _ => ?_
  show (if (Sum.inr q.n : Key) = Sum.inr n then _ else _) = _
  by_cases e : q.n = n
  · rw [if_pos (by rw [e])]; show _ = ((Sum.inr (TS.n (if q.n = n then _ else q)) : Key), V.ref (TS.d (if q.n = n then _ else q))); rw [if_pos e]
  · rw [if_neg (fun z => e (Sum.inr.inj z))]; show _ = ((Sum.inr (TS.n (if q.n = n then _ else q)) : Key), V.ref (TS.d (if q.n = n then _ else q))); rw [if_neg e]
theorem replT_N (st : List TS) (n : Str) (d : Addr) (rs : List Ro) : stN (replT st n d rs) = stN st := by
  unfold stN replT
  rw [List.map_map]
  refine List.map_congr_left fun q _ => ?_
  show TS.n (if q.n = n then _ else q) = q.n
  split <;> rfl
theorem replT_M (st : List TS) (n : Str) (d : Addr) (rs : List Ro) : stM (replT st n d rs) = (stM st).map fun p => if p.1 = n then (p.1, rM rs) else p := by
  unfold stM replT
  rw [List.map_map, List.map_map]
  refine List.map_congr_left fun q _ => ?_
  show (TS.n (if q.n = n then _ else q), rM (TS.rs (if q.n = n then _ else q))) = if q.n = n then (q.n, rM rs) else (q.n, rM q.rs)
  split <;> rfl
theorem replT_mem {st : List TS} {n : Str} {d : Addr} {rs : List Ro} {q : TS} (h : q ∈ replT st n d rs) : (q.d = d ∧ q.rs = rs ∧ q.n = n) ∨ (q ∈ st ∧ q.n ≠ n) := by
  obtain ⟨x, h1, h2⟩ := List.mem_map.mp h
  by_cases e : x.n = n
  · rw [if_pos e] at h2; rw [← h2]; exact .inl ⟨rfl, rfl, e⟩
  · rw [if_neg e] at h2; rw [← h2]; exact .inr ⟨h1, e⟩
theorem replT_dn {st : List TS} {n : Str} {d : Addr} {rs : List Ro} (nm : (stN st).Nodup) (nd : (st.map fun q => q.d).Nodup) (h : ∀ q ∈ st, q.d ≠ d) : ((replT st n d rs).map fun q => q.d).Nodup := by
  induction st with
  | nil => exact List.nodup_nil
  | cons x r ih =>
    have nm1 := List.nodup_cons.mp (show (x.n :: stN r).Nodup from nm)
    have nd1 := List.nodup_cons.mp (show (x.d :: r.map fun q => q.d).Nodup from nd)
    have ih' := ih nm1.2 nd1.2 fun q hq => h q (List.mem_cons_of_mem _ hq)
    show ((if x.n = n then (⟨x.n, d, rs⟩ : TS) else x).d :: (replT r n d rs).map fun q => q.d).Nodup
    refine List.nodup_cons.mpr ⟨fun hm => ?_, ih'⟩
    obtain ⟨q, h1, h2⟩ := List.mem_map.mp hm
    by_cases e : x.n = n
    · rw [if_pos e] at h2
      rcases replT_mem h1 with ⟨_, _, h3⟩ | ⟨h3, _⟩
      · have h5 : q.n ∈ stN (replT r n d rs) := List.mem_map.mpr ⟨q, h1, rfl⟩
        rw [replT_N, h3, ← e] at h5
        exact nm1.1 h5
      · exact h q (List.mem_cons_of_mem _ h3) h2
    · rw [if_neg e] at h2
      rcases replT_mem h1 with ⟨h3, _, _⟩ | ⟨h3, _⟩
      · exact h x (List.mem_cons_self ..) (by rw [← h2, h3])
      · exact nd1.1 (List.mem_map.mpr ⟨q, h3, h2⟩)
theorem NewSt.repl {H H1 H2 : Hp} {T : Addr} {st : List TS} {m : StM} {n : Str} {d : Addr} {rs : List Ro} (N : NewSt H H1 T st m) (hn : n ∈ stN st) (s : Same H1 H2) (hd : TAt H2 d rs) (f : H1 d = none) :
    NewSt H (upd H2 T (.dK (putK (stK st) (Sum.inr n : Key) (.ref d)))) T (replT st n d rs) (m.map fun p => if p.1 = n then (p.1, rM rs) else p) := by
  have hT : H2 T = some (.dK (stK st)) := s _ _ N.at'.sk
  have dT : d ≠ T := fun z => by rw [z, N.at'.sk] at f; cases f
  have keep : ∀ y ys, H2 y = some (.tup ys) → (upd H2 T (.dK (putK (stK st) (Sum.inr n : Key) (.ref d)))) y = some (.tup ys) := fun y ys hy => by
    rw [upd_ne (fun z => by rw [z, hT] at hy; cases hy)]; exact hy
  refine ⟨⟨by rw [upd_same, replT_K hn], fun q hq => ?_, by rw [replT_N]; exact N.at'.nm⟩, by rw [replT_M, N.md], N.fT, fun q hq => ?_, replT_dn N.at'.nm N.dn fun q hq z => ?_, same_upd N.fT _ (N.se.trans s)⟩
  · rcases replT_mem hq with ⟨h1, h2, _⟩ | ⟨h1, _⟩
    · rw [h1, h2]
      exact ⟨by rw [upd_ne dT]; exact hd.dk, fun r hr => keep _ _ (hd.rt r hr), hd.nd⟩
    · have t := N.at'.ds q h1
      exact ⟨by rw [upd_ne (N.fd q h1).2]; exact s _ _ t.dk, fun r hr => keep _ _ (s _ _ (t.rt r hr)), t.nd⟩
  · rcases replT_mem hq with ⟨h1, h2, _⟩ | ⟨h1, _⟩
    · rw [h1]; exact ⟨N.se.free f, dT⟩
    · exact N.fd q h1
  · have := (N.at'.ds q hq).dk
    rw [z, f] at this; cases this
theorem putRw_len (rs : Rws) (k : Key) (vs : List V) : (putRw rs k vs).length ≤ rs.length + 1 := by
  unfold putRw
  split
  · rw [List.length_map]; omega
  · rw [List.length_append]; simp
theorem putRw_mem {rs : Rws} {k : Key} {vs : List V} {r : Key × List V} (h : r ∈ putRw rs k vs) : r.2 = vs ∨ r ∈ rs := by
  unfold putRw at h
  split at h
  · obtain ⟨p, h1, h2⟩ := List.mem_map.mp h
    by_cases e : p.1 = k
    · rw [if_pos e] at h2; rw [← h2]; exact .inl rfl
    · rw [if_neg e] at h2; rw [← h2]; exact .inr h1
  · rcases List.mem_append.mp h with h | h
    · exact .inr h
    · rw [List.mem_singleton.mp h]; exact .inl rfl
theorem after_len (cols : List Col) (rs : Rws) (e : Ed) : (rowsAfter cols rs e).length ≤ rs.length + 1 := by
  cases e with
  | row b t r => exact putRw_len _ _ _
  | set t k c v => exact putRw_len _ _ _
  | del t k => exact Nat.le_succ_of_le (List.length_filter_le _ _)
theorem rowB_len {cols : List Col} {vs : List V} (h : rowB cols vs = true) : vs.length = cols.length := by
  unfold rowB at h
  exact of_decide_eq_true (Bool.and_eq_true_iff.mp h).1
theorem restOf_mem {rs : Rws} {k : Key} (h : hasK rs k = true) : ∃ r ∈ rs, r.1 = k ∧ r.2 = restOf rs k := by
  obtain ⟨p, h1, h2⟩ := List.any_eq_true.mp h
  unfold restOf
  cases e : rs.find? (fun p => decide (p.1 = k)) with
  | none => exact absurd h2 (by rw [List.find?_eq_none] at e; exact e p h1)
  | some q =>
    have h3 := List.find?_some e
    exact ⟨q, List.mem_of_find?_eq_some e, of_decide_eq_true h3, rfl⟩
theorem after_wide {cols : List Col} {rs : Rws} {e : Ed} (hw : ∀ r ∈ rs, r.2.length + 1 = cols.length) (rb : rowBad cols e = false) (kb : keyB cols (edK e) = true) (kk : hasK rs (keyOf (edK e)) ≠ isIns e) : ∀ r ∈ rowsAfter cols rs e, r.2.length + 1 = cols.length := by
  cases e with
  | row b t r =>
    intro x hx
    rcases putRw_mem hx with h | h
    · have h1 : rowB cols r = true := by
        have h2 : (!rowB cols r) = false := rb
        cases h3 : rowB cols r with
        | true => rfl
        | false => rw [h3] at h2; cases h2
      obtain ⟨c, h4, _⟩ := keyB_fit kb
      have := (List.getElem?_eq_some_iff.mp h4).1
      rw [h, List.length_drop, rowB_len h1]
      omega
    · exact hw x h
  | set t k c v =>
    intro x hx
    have hk : hasK rs (keyOf k) = true := by
      have h1 : hasK rs (keyOf k) ≠ false := kk
      cases h : hasK rs (keyOf k) with
      | true => rfl
      | false => exact absurd h h1
    rcases putRw_mem hx with h | h
    · obtain ⟨r, h2, _, h3⟩ := restOf_mem hk
      rw [h]
      have h4 : (setAt cols (restOf rs (keyOf k)) c v).length = (restOf rs (keyOf k)).length := by
        unfold setAt
        split
        · rw [List.length_set]
        · rfl
      rw [h4, ← h3]
      exact hw r h2
    · exact hw x h
  | del t k =>
    intro x hx
    exact hw x (List.mem_filter.mp hx).1
theorem tabOf_mem {ts : List Tab} {n : Str} {t : Tab} (h : tabOf ts n = some t) : t ∈ ts ∧ t.n = n := by
  unfold tabOf at h
  have h3 := List.find?_some h
  exact ⟨List.mem_of_find?_eq_some h, of_decide_eq_true h3⟩
theorem rwsOf_mem {m : StM} {n : Str} {p : Str × Rws} (nm : (m.map (·.1)).Nodup) (hp : p ∈ m) (e : p.1 = n) : rwsOf m n = p.2 := by
  unfold rwsOf
  cases h : m.find? (fun p => decide (p.1 = n)) with
  | none =>
    have := List.find?_eq_none.mp h p hp
    rw [decide_eq_true e] at this
    exact absurd rfl this
  | some q =>
    have h1 := List.mem_of_find?_eq_some h
    have h3 := List.find?_some h
    have h2 : q.1 = n := of_decide_eq_true h3
    obtain ⟨i, hi, ei⟩ := List.getElem_of_mem hp
    obtain ⟨j, hj, ej⟩ := List.getElem_of_mem h1
    have a1 : (m.map (·.1))[i]? = some n := by rw [List.getElem?_map, List.getElem?_eq_getElem hi, ei, ← e]; rfl
    have a2 : (m.map (·.1))[j]? = some n := by rw [List.getElem?_map, List.getElem?_eq_getElem hj, ej, ← h2]; rfl
    have := nd_ix nm a1 a2
    subst this
    rw [ei] at ej
    rw [ej]
theorem MW.step {ts : List Tab} {m : StM} {b : Nat} {e : Ed} (W : MW ts m b) (tn : (ts.map (·.n)).Nodup) (h : edC ts m e = "") : MW ts (edM ts m e) (b + 1) := by
  obtain ⟨t, h1, h2, h3, h4⟩ := edC_good h
  obtain ⟨ht, htn⟩ := tabOf_mem h1
  have em : edM ts m e = m.map fun p => if p.1 = edT e then (p.1, rowsAfter t.cols p.2 e) else p := by unfold edM; rw [h1]
  have en : (edM ts m e).map (·.1) = m.map (·.1) := by
    rw [em, List.map_map]
    refine List.map_congr_left fun p _ => ?_
    show Prod.fst (if p.1 = edT e then _ else p) = p.1
    split <;> rfl
  have each : ∀ p ∈ edM ts m e, ∃ q ∈ m, q.1 = p.1 ∧ (p.2 = q.2 ∨ (q.1 = edT e ∧ p.2 = rowsAfter t.cols q.2 e)) := fun p hp => by
    rw [em] at hp
    obtain ⟨q, h5, h6⟩ := List.mem_map.mp hp
    by_cases e' : q.1 = edT e
    · rw [if_pos e'] at h6; rw [← h6]; exact ⟨q, h5, rfl, .inr ⟨e', rfl⟩⟩
    · rw [if_neg e'] at h6; rw [← h6]; exact ⟨q, h5, rfl, .inl rfl⟩
  refine ⟨by rw [en]; exact W.nm, fun p hp => ?_, fun x hx => by rw [en]; exact W.tn x hx, fun p hp x hx ex r hr => ?_⟩
  · obtain ⟨q, h5, _, h7 | ⟨_, h7⟩⟩ := each p hp
    · rw [h7]; have := W.ln q h5; omega
    · rw [h7]; have := W.ln q h5; have := after_len t.cols q.2 e; omega
  · obtain ⟨q, h5, h6, h7 | ⟨h8, h7⟩⟩ := each p hp
    · rw [h7] at hr
      exact W.wd q h5 x hx (by rw [ex, h6]) r hr
    · rw [h7] at hr
      have hxt : x = t := by
        obtain ⟨i, hi, ei⟩ := List.getElem_of_mem hx
        obtain ⟨j, hj, ej⟩ := List.getElem_of_mem ht
        have a1 : (ts.map (·.n))[i]? = some t.n := by rw [List.getElem?_map, List.getElem?_eq_getElem hi, ei]; show some x.n = _; rw [ex, ← h6, h8, htn]
        have a2 : (ts.map (·.n))[j]? = some t.n := by rw [List.getElem?_map, List.getElem?_eq_getElem hj, ej]; rfl
        have := nd_ix tn a1 a2
        subst this
        rw [← ei, ← ej]
      subst hxt
      refine after_wide (fun y hy => W.wd q h5 x hx (by rw [htn, h8]) y hy) h2 h3 ?_ r hr
      rw [← rwsOf_mem W.nm h5 h8]
      exact h4
theorem NewSt.mono {H H1 H2 : Hp} {T : Addr} {st : List TS} {m : StM} (N : NewSt H H1 T st m) (s : Same H1 H2) : NewSt H H2 T st m := ⟨N.at'.mono s, N.md, N.fT, N.fd, N.dn, N.se.trans s⟩
theorem MW.names {ts : List Tab} {m : StM} {b : Nat} {st : List TS} (W : MW ts m b) (e : stM st = m) {t : Tab} (h : t ∈ ts) : t.n ∈ stN st := by
  rw [← stM_names, e]; exact W.tn t h
theorem edM_eq {ts : List Tab} {m : StM} {st : List TS} {pt : TS} {e : Ed} {t : Tab} {rs : List Ro} (nm : (stN st).Nodup) (em : stM st = m) (hp : pt ∈ st) (hn : pt.n = edT e) (ht : tabOf ts (edT e) = some t) (hr : rM rs = rowsAfter t.cols (rM pt.rs) e) :
    (m.map fun p => if p.1 = edT e then (p.1, rM rs) else p) = edM ts m e := by
  unfold edM
  rw [ht]
  show _ = m.map fun p => if p.1 = edT e then (p.1, rowsAfter t.cols p.2 e) else p
  refine List.map_congr_left fun p h1 => ?_
  by_cases e1 : p.1 = edT e
  · rw [if_pos e1, if_pos e1, hr]
    have h2 : rwsOf m (edT e) = p.2 := rwsOf_mem (by rw [← em, stM_names]; exact nm) h1 e1
    have h3 : rwsOf m (edT e) = rM pt.rs := by rw [← em, ← hn]; exact rwsOf_in nm hp
    rw [← h3, h2]
  · rw [if_neg e1, if_neg e1]
theorem edM_len (ts : List Tab) (m : StM) (e : Ed) : (edM ts m e).length = m.length := by
  unfold edM
  split
  · rfl
  · rw [List.length_map]
theorem stM_len (st : List TS) : (stM st).length = st.length := by unfold stM; rw [List.length_map]
/-! the law's side -/
def spValFits : Sp := fun vs H Q _ => ∃ (v : V) (ca : Addr) (c : Col), vs = [v, .ref ca] ∧ H ca = some (.tup [.str c.n, .str c.k, .bl c.b]) ∧ (c.k = ("int" : Str) ∨ c.k = ("text" : Str)) ∧ valE v ∧ Q (.bl (fitsK v c.k c.b)) H
def spRowFits : Sp := fun vs H Q _ => ∃ (L r : Addr) (cols : List Col) (xs : List V), vs = [.ref L, .ref r] ∧ ColsAt H L cols ∧ (∀ c ∈ cols, c.k = ("int" : Str) ∨ c.k = ("text" : Str)) ∧ H r = some (.tup xs) ∧ (∀ v ∈ xs, valE v) ∧ xs.length ≤ 100 ∧ cols.length ≤ 100 ∧ ∀ H', Same H H' → Q (.bl (rowB cols xs)) H'
def spRightE : Sp := fun vs H Q _ => ∃ (T : Addr) (st : List TS) (v : V) (e : Ed), vs = [.ref T, v] ∧ StAt H T st ∧ edT e ∈ stN st ∧ Tp H v (edD e) ∧ edFull e ∧ edK e = kV (keyOf (edK e)) ∧ ∀ H', Same H H' → Q (.bl (decide (hasK (rwsOf (stM st) (edT e)) (keyOf (edK e)) ≠ isIns e))) H'
def badAt (cols : List Col) (xs : List V) (j : Nat) : Bool := !fitsK (xs.getD j .non) ((cols.map (·.k)).getD j "") ((cols.map (·.b)).getD j false)
theorem badAt_eq {cols : List Col} {xs : List V} {i : Nat} (h1 : i < xs.length) (h2 : i < cols.length) : badAt cols xs i = !fitsK xs[i] cols[i].k cols[i].b := by
  unfold badAt
  rw [List.getD_eq_getElem?_getD, List.getElem?_eq_getElem h1, List.getD_eq_getElem?_getD, List.getElem?_map, List.getElem?_eq_getElem h2, List.getD_eq_getElem?_getD, List.getElem?_map, List.getElem?_eq_getElem h2]
  rfl
theorem row_bad {cols : List Col} {xs : List V} (e : xs.length = cols.length) : rowB cols xs = decide ((List.range xs.length).filter (badAt cols xs) = []) := by
  unfold rowB
  rw [decide_eq_true e, Bool.true_and, Bool.eq_iff_iff, List.all_eq_true, decide_eq_true_iff, List.filter_eq_nil_iff]
  constructor
  · intro h j hj
    have hj' := List.mem_range.mp hj
    have hm : (xs[j], cols[j]'(by omega)) ∈ xs.zip cols := by
      refine List.mem_of_getElem? (i := j) ?_
      rw [List.getElem?_zip_eq_some]
      exact ⟨List.getElem?_eq_getElem hj', List.getElem?_eq_getElem (by omega)⟩
    have := h _ hm
    rw [badAt_eq hj' (by omega), this]
    decide
  · intro h p hp
    obtain ⟨j, hj, ej⟩ := List.getElem_of_mem hp
    have hj' : j < xs.length := by rw [List.length_zip] at hj; omega
    have h1 := h j (List.mem_range.mpr hj')
    rw [badAt_eq hj' (by omega)] at h1
    have e2 : p = (xs[j], cols[j]'(by omega)) := by rw [← ej, List.getElem_zip]
    rw [e2]
    cases h3 : fitsK xs[j] (cols[j]'(by omega)).k (cols[j]'(by omega)).b with
    | true => rfl
    | false => rw [h3] at h1; exact absurd rfl h1
theorem intD_dp {K : PySem.W.Frag} {H : Hp} : ∀ ns : List Int, DpAll K H (ns.map V.int) (ns.map PyData.int)
  | [] => .nil
  | n :: ns => .cons (.int n) (intD_dp ns)
theorem intD_lay : ∀ ns : List Int, PyData.canLayAll0 (ns.map PyData.int) = true
  | [] => by simp [PyData.canLayAll0]
  | n :: ns => by rw [List.map_cons, PyData.canLayAll0, intD_lay ns]; rfl
theorem intD_depth : ∀ ns : List Int, PyData.depthAll (ns.map PyData.int) = 0
  | [] => rfl
  | n :: ns => by rw [List.map_cons, PyData.depthAll, intD_depth ns]; rfl
theorem intD_shaped (ns : List Int) : SeqAt.shaped (.list (ns.map PyData.int)) = true := by
  unfold SeqAt.shaped
  rw [PyData.canLay0, intD_lay, PyData.depth, intD_depth]
  rfl
theorem intD_nil (ns : List Int) : PyData.eqv (.list (ns.map PyData.int)) (.list []) = decide (ns = []) := by
  rw [PyData.eqv]
  cases ns with
  | nil => simp [PyData.eqvAll]
  | cons n r => simp [PyData.eqvAll]
theorem scal_str (n : Str) {c : V} (h : valE c) : scal (.str n) c = true := by
  cases c <;> first | rfl | exact h.elim
theorem setC_head (cols : List Col) (c : V) : setC cols c = ((cols.drop 1).filter fun col => decide (V.str col.n = c)).head? := by
  unfold setC
  rw [List.head?_filter]
theorem keyB_at {cols : List Col} {c : Col} (h : cols[0]? = some c) (v : V) : keyB cols v = fitsK v c.k c.b := by
  cases cols with
  | nil => cases h
  | cons d r =>
    cases h
    unfold keyB rowB
    rw [List.take_succ_cons, List.take_zero]
    show (decide (1 = 1) && (fitsK v c.k c.b && true)) = _
    rw [decide_eq_true rfl, Bool.true_and, Bool.and_true]
theorem cols_shaped {cs : List Col} (h : ∀ c ∈ cs, nameOk c.n ∧ (c.k = ("int" : Str) ∨ c.k = ("text" : Str))) : SeqAt.shaped (.list (pyOfL (cs.map colD))) = true := by
  refine shapedL_of (clL_all.mpr fun d hd => ?_) (dpL_le (n := 20) fun d hd => ?_)
  · obtain ⟨c, hc, rfl⟩ := List.mem_map.mp hd
    obtain ⟨h1, h2⟩ := h c hc
    have h3 := h1.str
    have h4 : PyData.strOk c.k = true := by rcases h2 with e | e <;> rw [e] <;> decide +kernel
    show clL [.s (.str c.n), .s (.str c.k), .s (.bl c.b)] = true
    simp only [clL, D.cl, sCl]
    rw [h3, h4]; rfl
  · obtain ⟨c, hc, rfl⟩ := List.mem_map.mp hd
    simp [colD, D.dp, dpL]
theorem cols_nil (cs : List Col) : PyData.eqv (.list (pyOfL (cs.map colD))) (.list []) = decide (cs = []) := by
  rw [PyData.eqv]
  cases cs with
  | nil => simp [pyOfL, PyData.eqvAll]
  | cons n r => simp [pyOfL, PyData.eqvAll]
def spLawDo : Sp := fun vs H Q _ => ∃ (S : Addr) (s : Sch) (T : Addr) (st : List TS) (v : V) (e : Ed) (b : Nat), vs = [.ref S, .ref T, v] ∧ ScV H S s ∧ StAt H T st ∧ (stD T st).Nodup ∧ Tp H v (edD e) ∧ edOk e ∧ edC (tbs s) (stM st) e = "" ∧ MW (tbs s) (stM st) b ∧ b ≤ 180 ∧
  ∀ st' H', StAt H' T st' → stM st' = edM (tbs s) (stM st) e → (st'.map fun q => q.d) = (st.map fun q => q.d) → SameE (st.map fun q => q.d) H H' → KeepT H H' → Q .non H'
theorem StAt.own {H : Hp} {T : Addr} {st : List TS} {pt : TS} {rs : List Ro} (A : StAt H T st) (nd : (stD T st).Nodup) (hp : pt ∈ st) (rt : ∀ r ∈ rs, H r.a = some (.tup r.vs)) (kn : (roN rs).Nodup) :
    StAt (upd H pt.d (.dK (roK rs))) T (replT st pt.n pt.d rs) ∧ ((replT st pt.n pt.d rs).map fun q => q.d) = st.map fun q => q.d := by
  have nd' : (T :: st.map fun q => q.d).Nodup := nd
  have hT : T ≠ pt.d := fun z => (List.nodup_cons.mp nd').1 (by rw [z]; exact List.mem_map.mpr ⟨pt, hp, rfl⟩)
  have ndd := (List.nodup_cons.mp nd').2
  have one : ∀ q ∈ st, q.d = pt.d → q = pt := fun q hq e => by
    obtain ⟨i, hi, ei⟩ := List.getElem_of_mem hq
    obtain ⟨j, hj, ej⟩ := List.getElem_of_mem hp
    have a1 : (st.map fun q => q.d)[i]? = some pt.d := by rw [List.getElem?_map, List.getElem?_eq_getElem hi, ei, ← e]; rfl
    have a2 : (st.map fun q => q.d)[j]? = some pt.d := by rw [List.getElem?_map, List.getElem?_eq_getElem hj, ej]; rfl
    have := nd_ix ndd a1 a2
    subst this
    rw [← ei, ← ej]
  have keep : ∀ y ys, H y = some (.tup ys) → (upd H pt.d (.dK (roK rs))) y = some (.tup ys) := fun y ys hy => by
    rw [upd_ne (fun z => by rw [z, (A.ds pt hp).dk] at hy; cases hy)]; exact hy
  have em : ((replT st pt.n pt.d rs).map fun q => q.d) = st.map fun q => q.d := by
    unfold replT
    rw [List.map_map]
    refine List.map_congr_left fun q hq => ?_
    show TS.d (if q.n = pt.n then _ else q) = q.d
    split
    · rename_i e
      rw [st_one A.nm hq hp e]
    · rfl
  refine ⟨⟨?_, fun q hq => ?_, by rw [replT_N]; exact A.nm⟩, em⟩
  · rw [upd_ne hT, A.sk]
    congr 2
    unfold stK replT
    rw [List.map_map]
    refine List.map_congr_left fun q hq => ?_
    show _ = ((Sum.inr (TS.n (if q.n = pt.n then _ else q)) : Key), V.ref (TS.d (if q.n = pt.n then _ else q)))
    split
    · rename_i e
      rw [st_one A.nm hq hp e]
    · rfl
  · rcases replT_mem hq with ⟨h1, h2, _⟩ | ⟨h1, h2⟩
    · rw [h1, h2]
      exact ⟨upd_same, fun r hr => keep _ _ (rt r hr), kn⟩
    · have t := A.ds q h1
      exact ⟨by rw [upd_ne (fun z => h2 (by rw [one q h1 z]))]; exact t.dk, fun r hr => keep _ _ (t.rt r hr), t.nd⟩
theorem own_same {H H1 : Hp} {st : List TS} {pt : TS} {o : HO} (hp : pt ∈ st) (s : Same H H1) : SameE (st.map fun q => q.d) H (upd H1 pt.d o) := fun b x e n => by
  rw [upd_ne (fun z => n (by rw [z]; exact List.mem_map.mpr ⟨pt, hp, rfl⟩))]
  exact s b x e
theorem own_keep {H H1 : Hp} {d : Addr} {kvs : List (Key × V)} {o : HO} (h : H1 d = some (.dK kvs)) (s : Same H H1) : KeepT H (upd H1 d o) := fun b xs e => by
  have := s b _ e
  rw [upd_ne (fun z => by rw [z, h] at this; cases this)]; exact this
/-! states as data -/
theorem gp_row {H : Hp} {v : V} {vs : List V} {D : List Addr} (h : Gp H v (rowG vs) D) : ∃ a, v = .ref a ∧ H a = some (.tup vs) ∧ D = [] := by
  unfold rowG at h
  cases h with
  | t ha hn r =>
    have : ∀ {xs vs : List V} {D : List Addr}, GpL H xs (vs.map G.s) D → xs = vs ∧ D = [] := by
      intro xs vs
      induction vs generalizing xs with
      | nil => intro D h; cases h; exact ⟨rfl, rfl⟩
      | cons v vs ih =>
        intro D h
        cases h with
        | cons h1 h2 =>
          cases h1 with
          | s _ =>
            obtain ⟨e1, e2⟩ := ih h2
            exact ⟨by rw [e1], by rw [e2]; rfl⟩
    obtain ⟨e1, e2⟩ := this r
    rw [e1] at ha
    exact ⟨_, rfl, ha, e2⟩
theorem gp_rows {H : Hp} : ∀ {rs : List Ro} {kvs : List (Key × V)} {D : List Addr}, GpK H kvs (rs.map fun r => (r.k, rowG r.vs)) D → ∃ rs', roK rs' = kvs ∧ rM rs' = rM rs ∧ (∀ r ∈ rs', H r.a = some (.tup r.vs)) ∧ D = []
  | [], _, _, h => by cases h; exact ⟨[], rfl, rfl, (fun r hr => by cases hr), rfl⟩
  | r :: rs, _, _, h => by
    cases h with
    | cons h1 h2 =>
      obtain ⟨a, rfl, ha, rfl⟩ := gp_row h1
      obtain ⟨rs', e1, e2, h3, rfl⟩ := gp_rows h2
      refine ⟨⟨r.k, a, r.vs⟩ :: rs', ?_, ?_, fun x hx => ?_, rfl⟩
      · show (_, _) :: roK rs' = _
        rw [e1]
      · show (_, _) :: rM rs' = (_, _) :: rM rs
        rw [e2]
      · rcases List.mem_cons.mp hx with rfl | hx
        · exact ha
        · exact h3 x hx
theorem gp_tabs {H : Hp} : ∀ {st : List TS} {kvs : List (Key × V)} {D : List Addr}, GpK H kvs (st.map fun p => ((Sum.inr p.n : Key), tabStG p.rs)) D → ∃ st', stK st' = kvs ∧ stM st' = stM st ∧ (∀ q ∈ st', TAt H q.d q.rs) ∧ D = st'.map fun q => q.d
  | [], _, _, h => by cases h; exact ⟨[], rfl, rfl, (fun r hr => by cases hr), rfl⟩
  | p :: st, _, _, h => by
    cases h with
    | cons h1 h2 =>
      unfold tabStG at h1
      cases h1 with
      | @d a kvs _ D1 ha hn nd r hf =>
        obtain ⟨rs', e1, e2, h3, rfl⟩ := gp_rows r
        obtain ⟨st', e3, e4, h4, rfl⟩ := gp_tabs h2
        refine ⟨⟨p.n, a, rs'⟩ :: st', ?_, ?_, fun x hx => ?_, rfl⟩
        · show (_, _) :: stK st' = _
          rw [e3]
        · show (_, rM rs') :: stM st' = (_, rM p.rs) :: stM st
          rw [e2, e4]
        · rcases List.mem_cons.mp hx with rfl | hx
          · exact ⟨by rw [ha, ← e1], h3, by rw [← roK_keys, e1]; exact nd⟩
          · exact h4 x hx
theorem gp_st {H : Hp} {v : V} {st : List TS} {D : List Addr} (h : Gp H v (stG st) D) (nm : (stN st).Nodup) : ∃ T' st', v = .ref T' ∧ StAt H T' st' ∧ stM st' = stM st ∧ D = stD T' st' := by
  unfold stG at h
  cases h with
  | @d a kvs _ D1 ha hn nd r hf =>
    obtain ⟨st', e1, e2, h3, rfl⟩ := gp_tabs r
    exact ⟨a, st', rfl, ⟨by rw [ha, ← e1], h3, by rw [← stM_names, e2, stM_names]; exact nm⟩, e2, rfl⟩
def MSc (m : StM) : Prop := ∀ p ∈ m, ∀ r ∈ p.2, r.2.length ≤ 100 ∧ ∀ v ∈ r.2, isScal v = true
def mG (m : StM) : G := .d (m.map fun p => ((Sum.inr p.1 : Key), G.d (p.2.map fun r => (r.1, rowG r.2))))
theorem stG_M (st : List TS) : stG st = mG (stM st) := by
  unfold stG mG stM
  rw [List.map_map]
  congr 1
  refine List.map_congr_left fun p _ => ?_
  show (_, tabStG p.rs) = (_, G.d ((rM p.rs).map _))
  unfold tabStG rM
  rw [List.map_map]
  rfl
theorem StAt.gM {H : Hp} {T : Addr} {st : List TS} {ts : List Tab} {b : Nat} (A : StAt H T st) (W : MW ts (stM st) b) (ms : MSc (stM st)) (hb : b ≤ 900) (l : st.length ≤ 900) : Gp H (.ref T) (stG st) (T :: st.map fun q => q.d) := by
  have each : ∀ q ∈ st, Gp H (.ref q.d) (tabStG q.rs) [q.d] := fun q hq => by
    have t := A.ds q hq
    have pm : (q.n, rM q.rs) ∈ stM st := List.mem_map.mpr ⟨q, hq, rfl⟩
    have l1 := W.ln _ pm
    unfold rM at l1
    rw [List.length_map] at l1
    refine .d t.dk (by unfold roK; rw [List.length_map]; omega) (by rw [roK_keys]; exact t.nd) (rows_gp t.rt fun r hr => ?_) (by intro z; cases z)
    exact ms _ pm (r.k, r.vs) (List.mem_map.mpr ⟨r, hr, rfl⟩)
  have all : ∀ {st : List TS}, (∀ q ∈ st, Gp H (.ref q.d) (tabStG q.rs) [q.d]) → GpK H (stK st) (st.map fun p => ((Sum.inr p.n : Key), tabStG p.rs)) (st.map fun q => q.d) := by
    intro st
    induction st with
    | nil => intro _; exact .nil
    | cons q r ih => intro h; exact GpK.cons (D := [q.d]) (h q (List.mem_cons_self ..)) (ih fun x hx => h x (List.mem_cons_of_mem _ hx))
  refine .d A.sk (by unfold stK; rw [List.length_map]; omega) (st_nd A.nm) (all each) fun hm => ?_
  obtain ⟨p, hp, e⟩ := List.mem_map.mp hm
  exact st_neT A p hp e
theorem after_sc {cols : List Col} {rs : Rws} {e : Ed} (h : ∀ r ∈ rs, r.2.length ≤ 100 ∧ ∀ v ∈ r.2, isScal v = true) (ok : edOk e) : ∀ r ∈ rowsAfter cols rs e, r.2.length ≤ 100 ∧ ∀ v ∈ r.2, isScal v = true := by
  cases e with
  | row b t r =>
    intro x hx
    rcases putRw_mem hx with h1 | h1
    · rw [h1]
      refine ⟨by rw [List.length_drop]; have := ok.2.1; omega, fun v hv => (ok.2.2 v (List.mem_of_mem_drop hv)).scal⟩
    · exact h x h1
  | set t k c w =>
    intro x hx
    rcases putRw_mem hx with h1 | h1
    · rw [h1]
      have h2 : (restOf rs (keyOf k)).length ≤ 100 ∧ ∀ v ∈ restOf rs (keyOf k), isScal v = true := by
        unfold restOf
        split
        · rename_i p e
          exact h p (List.mem_of_find?_eq_some e)
        · exact ⟨Nat.zero_le _, fun v hv => by cases hv⟩
      unfold setAt
      split
      · refine ⟨by rw [List.length_set]; exact h2.1, fun v hv => ?_⟩
        rcases List.mem_or_eq_of_mem_set hv with h3 | h3
        · exact h2.2 v h3
        · rw [h3]; exact ok.2.2.2.scal
      · exact h2
    · exact h x h1
  | del t k =>
    intro x hx
    exact h x (List.mem_filter.mp hx).1
theorem MSc.step {ts : List Tab} {m : StM} {e : Ed} (h : MSc m) (ok : edOk e) : MSc (edM ts m e) := by
  unfold edM
  split
  · exact h
  · intro p hp
    obtain ⟨q, h1, h2⟩ := List.mem_map.mp hp
    by_cases e' : q.1 = edT e
    · rw [if_pos e'] at h2; rw [← h2]; exact after_sc (h q h1) ok
    · rw [if_neg e'] at h2; rw [← h2]; exact h q h1
/-- what a write comes to, as the law tells it -/
def spExpE : Sp := fun vs H Q _ => ∃ (S : Addr) (s : Sch) (T : Addr) (st : List TS) (L : Addr) (es : List Ed) (xs : List V) (b : Nat), vs = [.ref S, .ref T, .ref L] ∧ ScV H S s ∧ StAt H T st ∧ MW (tbs s) (stM st) b ∧ MSc (stM st) ∧ b + es.length ≤ 150 ∧ st.length ≤ 100 ∧
  H L = some (.lst xs) ∧ TpL H xs (es.map edD) ∧ (∀ e ∈ es, edOk e) ∧
  (∀ m, applyM (tbs s) (stM st) es = .inr m → ∀ T' st' r H', StAt H' T' st' → stM st' = m → (∀ a ∈ stD T' st', H a = none) → H' r = some (.tup [.ref T', .str "", .int (-1)]) → Same H H' → Q (.ref r) H') ∧
  (∀ c i, applyM (tbs s) (stM st) es = .inl (c, i) → ∀ r H', H' r = some (.tup [.non, .str c, .int (i : Nat)]) → Same H H' → Q (.ref r) H')
theorem run_sc {ts : List Tab} : ∀ {es : List Ed} {m m' : StM} {i b : Nat}, (ts.map (·.n)).Nodup → runE ts m es i = .inr m' → MSc m → MW ts m b → (∀ e ∈ es, edOk e) → MSc m' ∧ MW ts m' (b + es.length) ∧ m'.length = m.length
  | [], m, m', i, b, _, h, hm, W, _ => by
    unfold runE at h
    cases h
    exact ⟨hm, W, rfl⟩
  | e :: es, m, m', i, b, tn, h, hm, W, ok => by
    unfold runE at h
    by_cases hc : edC ts m e = ""
    · rw [if_pos hc] at h
      obtain ⟨h1, h2, h3⟩ := run_sc (b := b + 1) tn h (hm.step (ok e (List.mem_cons_self ..))) (W.step tn hc) (fun x hx => ok x (List.mem_cons_of_mem _ hx))
      refine ⟨h1, ?_, by rw [h3, edM_len]⟩
      rw [List.length_cons, show b + (es.length + 1) = b + 1 + es.length by omega]
      exact h2
    · rw [if_neg hc] at h
      cases h
def spSomeKey : Sp := fun vs H Q _ => ∃ (t c d L : Addr) (cs : List Int) (rs : List Ro) (cols : List Col), vs = [.ref t, .ref d, .ref L] ∧ TapeAt H t c cs ∧ TAt H d rs ∧ rs.length ≤ 200 ∧ ColsAt H L cols ∧ ColsOk [] cols ∧ 1 ≤ cols.length ∧ d ≠ t ∧ (∀ r ∈ rs, keyB cols (kV r.k) = true) ∧
  ∀ v H', keyB cols v = true → valE v → TapeAt H' t c cs → SameX t H H' → Q v H'
theorem ValOf.e {k : Str} {b : Bool} {v : V} (h : ValOf k b v) : valE v := by
  rcases h with ⟨_, rfl⟩ | ⟨_, i, rfl, h1, h2⟩ | ⟨_, z, rfl, h1, h2⟩
  · exact True.intro
  · exact ⟨by omega, by omega⟩
  · exact ⟨by omega, h2⟩
theorem ValOf.fitB {c : Col} {v : V} {b : Bool} (hk : c.k = ("int" : Str) ∨ c.k = ("text" : Str)) (h : ValOf c.k b v) (hb : b = true → c.b = true) : fitsK v c.k c.b = true := by
  rcases h with ⟨h0, rfl⟩ | ⟨e, i, rfl, h1, h2⟩ | ⟨e, z, rfl, h1, h2⟩
  · unfold fitsK; rw [if_pos rfl]; exact hb h0
  · unfold fitsK
    rw [if_neg (fun z => nomatch z)]
    show (decide (-1000000000 < i ∧ i < 1000000000) && decide (("int" : Str) = c.k)) = true
    rw [decide_eq_true e.symm, Bool.and_true]
    exact decide_eq_true (by omega)
  · unfold fitsK
    rw [if_neg (fun z => nomatch z)]
    have e2 : c.k = ("text" : Str) := by rcases hk with h3 | h3; exact absurd h3 e; exact h3
    show (decide (z.length ≤ 30 ∧ ∀ c ∈ tl z, chOk c) && decide (("text" : Str) = c.k)) = true
    rw [decide_eq_true e2.symm, Bool.and_true]
    exact decide_eq_true ⟨h1, h2⟩
theorem keyB_val {cols : List Col} {v : V} (h : keyB cols v = true) (hv : isScal v = true) (hc : ColsOk [] cols) : (∃ i : Int, v = .int i) ∨ ∃ z : Str, v = .str z := by
  have := keyB_key hc h
  cases e : keyOf v with
  | inl i => rw [e] at this; exact .inl ⟨i, this⟩
  | inr z => rw [e] at this; exact .inr ⟨z, this⟩
theorem keyB_good {cols : List Col} {c : Col} {k : Key} (hc : cols[0]? = some c) (h : keyB cols (kV k) = true) : goodV (kV k) = true ∧ kindOf (kV k) = c.k := by
  rw [keyB_at hc] at h
  unfold fitsK at h
  rw [if_neg (by cases k <;> exact fun z => nomatch z)] at h
  exact ⟨(Bool.and_eq_true_iff.mp h).1, of_decide_eq_true (Bool.and_eq_true_iff.mp h).2⟩
theorem one_keys {cols : List Col} {ks : List Key} (l1 : 1 ≤ cols.length) (h : ∀ k ∈ ks, keyB cols (kV k) = true) : OneKind ks := by
  obtain ⟨c, hc⟩ : ∃ c, cols[0]? = some c := ⟨cols[0]'(by omega), List.getElem?_eq_getElem _⟩
  by_cases e : c.k = ("int" : Str)
  · refine .inl ⟨ks.map (fun k => match k with | .inl i => i | .inr _ => 0), ?_⟩
    rw [List.map_map]
    refine (List.map_congr_left (g := id) fun k hk => ?_).trans (List.map_id _) |>.symm
    cases k with
    | inl i => rfl
    | inr x =>
      have := (keyB_good hc (h _ hk)).2
      rw [e] at this
      exact absurd this (by show ¬ ("text" : Str) = "int"; decide +kernel)
  · refine .inr ⟨ks.map (fun k => match k with | .inl i => "" | .inr x => x), ?_⟩
    rw [List.map_map]
    refine (List.map_congr_left (g := id) fun k hk => ?_).trans (List.map_id _) |>.symm
    cases k with
    | inr x => rfl
    | inl i => exact absurd (keyB_good hc (h _ hk)).2.symm e
theorem keyB_e {cols : List Col} {c : Col} {k : Key} (hc : cols[0]? = some c) (h : keyB cols (kV k) = true) : valE (kV k) := by
  have h1 := (keyB_good hc h).1
  cases k with
  | inl i =>
    have : -1000000000 < i ∧ i < 1000000000 := of_decide_eq_true h1
    exact ⟨by omega, by omega⟩
  | inr z =>
    have : z.length ≤ 30 ∧ ∀ c ∈ tl z, chOk c := of_decide_eq_true h1
    exact ⟨by omega, this.2⟩
def pyK : Key → PyData
  | .inl i => .int i
  | .inr z => .str z
theorem keys_dp {K : PySem.W.Frag} {H : Hp} : ∀ ks : List Key, DpAll K H (ks.map kV) (ks.map pyK)
  | [] => .nil
  | .inl i :: ks => .cons (.int i) (keys_dp ks)
  | .inr z :: ks => .cons (.str z) (keys_dp ks)
theorem keys_lay : ∀ {ks : List Key}, (∀ k ∈ ks, valE (kV k)) → PyData.canLayAll0 (ks.map pyK) = true
  | [], _ => by simp [PyData.canLayAll0]
  | .inl i :: ks, h => by rw [List.map_cons, PyData.canLayAll0, keys_lay fun k hk => h k (List.mem_cons_of_mem _ hk)]; rfl
  | .inr z :: ks, h => by
    have h1 : valE (.str z) := h (.inr z) (List.mem_cons_self ..)
    have h2 : PyData.strOk z = true := strOk_of h1.2
    rw [List.map_cons, PyData.canLayAll0, keys_lay fun k hk => h k (List.mem_cons_of_mem _ hk)]
    show (PyData.canLay0 (.str z) && true) = true
    rw [PyData.canLay0, h2]; rfl
theorem keys_depth : ∀ ks : List Key, PyData.depthAll (ks.map pyK) = 0
  | [] => rfl
  | .inl i :: ks => by rw [List.map_cons, PyData.depthAll, keys_depth ks]; rfl
  | .inr z :: ks => by rw [List.map_cons, PyData.depthAll, keys_depth ks]; rfl
theorem keys_shaped {ks : List Key} (h : ∀ k ∈ ks, valE (kV k)) : SeqAt.shaped (.list (ks.map pyK)) = true := by
  unfold SeqAt.shaped
  rw [PyData.canLay0, keys_lay h, PyData.depth, keys_depth]
  rfl
theorem keys_nil (ks : List Key) : PyData.eqv (.list (ks.map pyK)) (.list []) = decide (ks = []) := by
  rw [PyData.eqv]
  cases ks with
  | nil => simp [PyData.eqvAll]
  | cons n r => simp [PyData.eqvAll]
/-- the keys of each table fit its key column -/
def MKy (ts : List Tab) (m : StM) : Prop := ∀ p ∈ m, ∀ t ∈ ts, t.n = p.1 → ∀ r ∈ p.2, keyB t.cols (kV r.1) = true
def EdFit (s : Sch) (e : Ed) : Prop := ∃ p ∈ s, p.2.n = edT e ∧ rowBad p.2.cols e = false ∧ keyB p.2.cols (edK e) = true
def spLawEdit : Sp := fun vs H Q _ => ∃ (t c S T : Addr) (cs : List Int) (s : Sch) (st : List TS) (b : Nat), vs = [.ref t, .ref S, .ref T] ∧ TapeAt H t c cs ∧ SchAt H S s t c ∧ (∀ p ∈ s, TabV p.2) ∧ 1 ≤ s.length ∧ s.length ≤ 6 ∧ StAt H T st ∧ MW (tbs s) (stM st) b ∧ b ≤ 180 ∧ MKy (tbs s) (stM st) ∧ T ≠ t ∧ (∀ q ∈ st, q.d ≠ t) ∧
  ∀ v e H', Tp H' v (edD e) → edOk e → EdFit s e → TapeAt H' t c cs → SameX t H H' → Q v H'
theorem rowB_mk {cols : List Col} {c0 : Col} {key : V} {ws : List V} (hk : ∀ c ∈ cols, c.k = ("int" : Str) ∨ c.k = ("text" : Str)) (hc : cols[0]? = some c0) (h1 : keyB cols key = true) (h2 : RestOf cols ws) : rowB cols (key :: ws) = true := by
  have l := h2.1
  have e : (key :: ws).length = cols.length := by rw [List.length_cons]; exact l
  rw [row_bad e]
  refine decide_eq_true ?_
  rw [List.filter_eq_nil_iff]
  intro j hj
  have hj' := List.mem_range.mp hj
  rw [badAt_eq hj' (by omega)]
  cases j with
  | zero =>
    rw [keyB_at hc] at h1
    have e0 : cols[0]'(by omega) = c0 := (List.getElem?_eq_some_iff.mp hc).2
    show ¬ (!fitsK key (cols[0]'(by omega)).k (cols[0]'(by omega)).b) = true
    rw [e0, h1]; decide
  | succ j =>
    rw [List.length_cons] at hj'
    have h3 := h2.2 j (cols[j + 1]'(by omega)) (ws[j]'(by omega)) (List.getElem?_eq_getElem _) (List.getElem?_eq_getElem _)
    show ¬ (!fitsK (ws[j]'(by omega)) (cols[j + 1]'(by omega)).k (cols[j + 1]'(by omega)).b) = true
    rw [h3.fitB (hk _ (List.getElem_mem _)) (fun z => z)]; decide
theorem rest_e {cols : List Col} {ws : List V} (h : RestOf cols ws) : ∀ v ∈ ws, valE v := fun v hv => by
  obtain ⟨i, hi, e⟩ := List.getElem_of_mem hv
  have l := h.1
  have := h.2 i (cols[i + 1]'(by omega)) ws[i] (List.getElem?_eq_getElem _) (List.getElem?_eq_getElem hi)
  rw [e] at this
  exact this.e
theorem setB_col {cols : List Col} {col : Col} {v : V} (nd : (colNs cols).Nodup) (hm : col ∈ cols.drop 1) (h : fitsK v col.k col.b = true) : setB cols (.str col.n) v = true := by
  unfold setB
  have : setC cols (.str col.n) = some col := by
    cases e : setC cols (.str col.n) with
    | none =>
      have h1 := setC_in cols (c := .str col.n)
      unfold setC at e
      have := List.find?_eq_none.mp e col hm
      simp at this
    | some d =>
      obtain ⟨h1, h2⟩ := setC_some e
      have := col_one nd (List.mem_of_mem_drop h2) (List.mem_of_mem_drop hm) (V.str.inj h1).symm
      rw [this]
  rw [this]
  exact h
theorem edC_ok {s : Sch} {m : StM} {e : Ed} (nm : (schN s).Nodup) (f : EdFit s e) (h : hasK (rwsOf m (edT e)) (keyOf (edK e)) ≠ isIns e) : edC (tbs s) m e = "" := by
  obtain ⟨p, hp, h1, h2, h3⟩ := f
  have h4 : tabOf (tbs s) (edT e) = some p.2 := by rw [← h1]; exact tabOf_in nm hp
  unfold edC
  rw [h4]
  show (if rowBad p.2.cols e = true then ("row" : Str) else if keyB p.2.cols (edK e) = false then ("key" : Str) else if hasK (rwsOf m (edT e)) (keyOf (edK e)) = isIns e then ("key" : Str) else ("" : Str)) = ""
  rw [if_neg (by rw [h2]; decide), if_neg (by rw [h3]; decide), if_neg h]
theorem EdFit.full {s : Sch} {e : Ed} (f : EdFit s e) : edFull e := by
  obtain ⟨p, hp, h1, h2, h3⟩ := f
  cases e with
  | row b t r =>
    intro z
    subst z
    have h4 : (!rowB p.2.cols []) = false := h2
    have h4' : rowB p.2.cols [] = true := by
      cases h : rowB p.2.cols [] with
      | true => rfl
      | false => rw [h] at h4; cases h4
    have h5 : ([] : List V).length = p.2.cols.length := rowB_len h4'
    obtain ⟨c, h7, _⟩ := keyB_fit h3
    have := (List.getElem?_eq_some_iff.mp h7).1
    simp only [List.length_nil] at h5
    omega
  | set t k c w => exact True.intro
  | del t k => exact True.intro
theorem putRw_key {rs : Rws} {k : Key} {vs : List V} {r : Key × List V} (h : r ∈ putRw rs k vs) : r.1 = k ∨ ∃ r' ∈ rs, r'.1 = r.1 := by
  unfold putRw at h
  split at h
  · obtain ⟨p, h1, h2⟩ := List.mem_map.mp h
    by_cases e : p.1 = k
    · rw [if_pos e] at h2; rw [← h2]; exact .inl e
    · rw [if_neg e] at h2; rw [← h2]; exact .inr ⟨p, h1, rfl⟩
  · rcases List.mem_append.mp h with h | h
    · exact .inr ⟨r, h, rfl⟩
    · rw [List.mem_singleton.mp h]; exact .inl rfl
theorem after_key {cols : List Col} {rs : Rws} {e : Ed} {r : Key × List V} (h : r ∈ rowsAfter cols rs e) : r.1 = keyOf (edK e) ∨ ∃ r' ∈ rs, r'.1 = r.1 := by
  cases e with
  | row b t w => exact putRw_key h
  | set t k c w => exact putRw_key h
  | del t k => exact .inr ⟨r, (List.mem_filter.mp h).1, rfl⟩
theorem MKy.step {s : Sch} {m : StM} {e : Ed} (nm : (schN s).Nodup) (tc : ∀ p ∈ s, ColsOk [] p.2.cols) (h : MKy (tbs s) m) (f : EdFit s e) : MKy (tbs s) (edM (tbs s) m e) := by
  obtain ⟨p, hp, h1, h2, h3⟩ := f
  have h4 : tabOf (tbs s) (edT e) = some p.2 := by rw [← h1]; exact tabOf_in nm hp
  unfold edM
  rw [h4]
  intro x hx t ht etx r hr
  obtain ⟨y, hy, ey⟩ := List.mem_map.mp hx
  by_cases e' : y.1 = edT e
  · rw [if_pos e'] at ey
    rw [← ey] at etx hr
    rcases after_key hr with h5 | ⟨r', h5, h6⟩
    · obtain ⟨q, hq, eq⟩ := List.mem_map.mp ht
      have : q = p := by
        obtain ⟨i, hi, ei⟩ := List.getElem_of_mem hq
        obtain ⟨j, hj, ej⟩ := List.getElem_of_mem hp
        have a1 : (schN s)[i]? = some p.2.n := by unfold schN; rw [List.getElem?_map, List.getElem?_eq_getElem hi, ei]; show some q.2.n = _; rw [eq, etx, e', h1]
        have a2 : (schN s)[j]? = some p.2.n := by unfold schN; rw [List.getElem?_map, List.getElem?_eq_getElem hj, ej]; rfl
        have := nd_ix nm a1 a2
        subst this
        rw [← ei, ← ej]
      rw [h5, ← eq, this, ← keyB_key (tc p hp) h3]
      exact h3
    · rw [← h6]
      exact h y hy t ht etx r' h5
  · rw [if_neg e'] at ey
    rw [← ey] at etx hr
    exact h y hy t ht etx r hr
def spLawWrite : Sp := fun vs H Q _ => ∃ (t c S T : Addr) (cs : List Int) (s : Sch) (st : List TS) (b : Nat) (most : Nat), vs = [.ref t, .ref S, .ref T, .int (most : Nat)] ∧ TapeAt H t c cs ∧ SchAt H S s t c ∧ (∀ p ∈ s, TabV p.2) ∧ 1 ≤ s.length ∧ s.length ≤ 6 ∧ StAt H T st ∧ MW (tbs s) (stM st) b ∧ MSc (stM st) ∧ b + most ≤ 150 ∧ st.length ≤ 100 ∧ MKy (tbs s) (stM st) ∧ most ≤ 30 ∧
  ∀ L x r xs (es : List Ed) H', H' r = some (.tup [.ref L, x]) → H' L = some (.lst xs) → TpL H' xs (es.map edD) → (∀ e ∈ es, edOk e ∧ EdFit s e) → es.length ≤ most → H L = none → TapeAt H' t c cs → SameX t H H' → Q (.ref r) H'
theorem MW.up {ts : List Tab} {m : StM} {b d : Nat} (W : MW ts m b) (h : b ≤ d) : MW ts m d := ⟨W.nm, fun p hp => Nat.le_trans (W.ln p hp) h, W.tn, W.wd⟩
theorem StAt.frame {H H' : Hp} {T : Addr} {st : List TS} (A : StAt H T st) (kt : KeepT H H') (h : ∀ a ∈ stD T st, ∀ o, H a = some o → H' a = some o) : StAt H' T st :=
  ⟨h T (List.mem_cons_self ..) _ A.sk, fun q hq => (A.ds q hq).mono kt (fun o => h q.d (List.mem_cons_of_mem _ (List.mem_map.mpr ⟨q, hq, rfl⟩)) o), A.nm⟩
theorem TapeAt.frame {H H' : Hp} {t c : Addr} {cs : List Int} (T : TapeAt H t c cs) (ht : ∀ o, H t = some o → H' t = some o) (hc : ∀ o, H c = some o → H' c = some o) : TapeAt H' t c cs := by
  obtain ⟨a, l, s, m, e1, e2, e3⟩ := T.dk
  exact ⟨⟨a, l, s, m, ht _ e1, e2, e3⟩, hc _ T.ls, T.nn⟩
def spSpoilE : Sp := fun vs H Q _ => ∃ (t c : Addr) (cs : List Int) (v : V) (e : Ed), vs = [.ref t, v] ∧ TapeAt H t c cs ∧ Tp H v (edD e) ∧ edOk e ∧ edFull e ∧ (∀ b tn r, e = .row b tn r → r.length ≤ 45) ∧
  ∀ v' e' H', Tp H' v' (edD e') → edOk e' → TapeAt H' t c cs → SameX t H H' → Q v' H'
theorem op_mul_strE {X : Cx} : OpR X (binaryOp .Mult) (fun x y H Q => ∃ (z : Str) (n : Int), x = .str z ∧ y = .int n ∧ MulOk z n ∧ Q (.str (Txt.mul z n)) H) := by
  intro pins s σ H x y v u Q I rx ry h
  obtain ⟨z, n, rfl, rfl, hk, q⟩ := h
  obtain ⟨t, rfl⟩ := rx
  obtain ⟨t', rfl⟩ := ry
  exact SB.mul hk (fun t' k => ⟨.str (Txt.mul z n), H, I.tok _, ⟨_, rfl⟩, q⟩)
theorem a31_ok : MulOk ("a" : Str) 31 := by
  refine ⟨by decide, fun h2 _ h3 => absurd h3 (by decide +kernel), fun h2 _ => by decide +kernel⟩
theorem a31_e : valE (.str (Txt.mul ("a" : Str) 31)) := by
  show (Txt.mul ("a" : Str) 31).length ≤ 40 ∧ ∀ c ∈ tl (Txt.mul ("a" : Str) 31), chOk c
  exact ⟨by decide +kernel, by decide +kernel⟩
def reT (tn : Str) : Ed → Ed
  | .row b _ r => .row b tn r
  | .set _ k c v => .set tn k c v
  | .del _ k => .del tn k
theorem reT_D (tn : Str) (e : Ed) : edD (reT tn e) = .t (.s (.str (edA e)) :: .s (.str tn) :: edR e) := by
  cases e with
  | row b t r => cases b <;> rfl
  | set t k c v => rfl
  | del t k => rfl
theorem reT_ok {tn : Str} {e : Ed} (h : edOk e) (ht : PyData.strOk tn = true) : edOk (reT tn e) := by
  cases e with
  | row b t r => exact ⟨ht, h.2⟩
  | set t k c v => exact ⟨ht, h.2⟩
  | del t k => exact ⟨ht, h.2⟩
theorem cut_last (xs : List V) : cutV xs none (some (-1)) = xs.take (xs.length - 1) := by
  unfold cutV
  rw [HT.sIx_none, List.drop_zero, Nat.sub_zero]
  congr 1
  show (if (-1 : Int) < 0 then ((-1 : Int) + (xs.length : Int)).toNat else min (-1 : Int).toNat xs.length) = _
  rw [if_pos (by decide)]
  omega
end Lt

set_option autoImplicit false
/-! ## what the law of writes asks besides: drawn states, edits as data -/
namespace Lt
open PySem L2 TL
theorem rw_same {st : List TS} (nd : (stN st).Nodup) {p q : TS} (hp : p ∈ st) (hq : q ∈ st) (e : p.n = q.n) : rM p.rs = rM q.rs := by
  rw [← rwsOf_in nd hp, ← rwsOf_in nd hq, e]
theorem StFit.good {s : Sch} {st : List TS} {most : Nat} (nd : (stN st).Nodup) (fit : StFit s st most) (tv : ∀ p ∈ s, TabV p.2) : MW (tbs s) (stM st) most ∧ MSc (stM st) ∧ MKy (tbs s) (stM st) := by
  have key : ∀ p ∈ s, ∀ q ∈ st, q.n = p.2.n → ∀ r ∈ rM q.rs, ∃ r' : Ro, (r'.k, r'.vs) = r ∧ RowFit p.2.cols r' := fun p hp q hq e r hr => by
    obtain ⟨q', hq', e', hf⟩ := fit.f p hp
    rw [rw_same nd hq hq' (e.trans e'.symm)] at hr
    obtain ⟨r', h1, h2⟩ := List.mem_map.mp hr
    exact ⟨r', h2, hf r' h1⟩
  refine ⟨⟨by rw [stM_names]; exact nd, fun p hp => ?_, fun t ht => ?_, fun p hp t ht e r hr => ?_⟩, fun p hp r hr => ?_, fun p hp t ht e r hr => ?_⟩
  · obtain ⟨q, hq, rfl⟩ := List.mem_map.mp hp
    have := fit.l q hq
    show (rM q.rs).length ≤ most
    unfold rM
    rw [List.length_map]; exact this
  · obtain ⟨p, hp, rfl⟩ := List.mem_map.mp ht
    obtain ⟨q, hq, e, _⟩ := fit.f p hp
    rw [stM_names, ← e]
    exact List.mem_map.mpr ⟨q, hq, rfl⟩
  · obtain ⟨q, hq, rfl⟩ := List.mem_map.mp hp
    obtain ⟨p, hp', rfl⟩ := List.mem_map.mp ht
    obtain ⟨r', rfl, f⟩ := key p hp' q hq e.symm r hr
    exact f.r.1
  · obtain ⟨q, hq, rfl⟩ := List.mem_map.mp hp
    obtain ⟨p, hp', e⟩ := List.mem_map.mp (fit.n q hq)
    obtain ⟨r', rfl, f⟩ := key p hp' q hq e.symm r hr
    have l8 := (tv p hp').l8
    have l1 := f.r.1
    refine ⟨by show r'.vs.length ≤ 100; omega, fun v hv => (rest_e f.r v hv).scal⟩
  · obtain ⟨q, hq, rfl⟩ := List.mem_map.mp hp
    obtain ⟨p, hp', rfl⟩ := List.mem_map.mp ht
    obtain ⟨r', rfl, f⟩ := key p hp' q hq e.symm r hr
    have l0 := (tv p hp').l0
    have co := (tv p hp').co
    have hc : p.2.cols[0]? = some (p.2.cols[0]'(by omega)) := List.getElem?_eq_getElem (by omega)
    rw [keyB_at hc]
    exact (f.k _ hc).fitB (co.kd _ (List.getElem_mem _)) (fun z => by cases z)
theorem ed_dsm {e : Ed} (h : edOk e) : (edD e).sm = true := by
  cases e with
  | row b t r =>
    refine sm_t (by show 3 ≤ 1000; decide) fun d hd => ?_
    simp only [edR, List.mem_cons, List.not_mem_nil, or_false] at hd
    rcases hd with rfl | rfl | rfl
    · rfl
    · rfl
    · refine sm_t (by rw [List.length_map]; have := h.2.1; omega) fun d hd => ?_
      obtain ⟨v, _, rfl⟩ := List.mem_map.mp hd
      rfl
  | set t k c v => rfl
  | del t k => rfl
theorem ed_dp (e : Ed) : (edD e).dp ≤ 2 := by
  cases e with
  | row b t r =>
    have : dpL (r.map D.s) ≤ 0 := dpL_le fun d hd => by
      obtain ⟨v, _, rfl⟩ := List.mem_map.mp hd
      exact Nat.le_refl 0
    simp only [edD, edR, D.dp, dpL]; omega
  | set t k c v => simp [edD, edR, D.dp, dpL]
  | del t k => simp [edD, edR, D.dp, dpL]
theorem valE.cl {v : V} (h : valE v) : sCl v = true := by
  cases v <;> first | rfl | exact h.1 | exact strOk_of h.2
theorem ed_cl {e : Ed} (h : edOk e) : (edD e).cl = true := by
  cases e with
  | row b t r =>
    have h1 : clL (r.map D.s) = true := clL_all.mpr fun d hd => by
      obtain ⟨v, hv, rfl⟩ := List.mem_map.mp hd
      exact (h.2.2 v hv).cl
    have h2 := h.1
    have h4 : PyData.strOk ("replace" : Str) = true := by decide +kernel
    have h5 : PyData.strOk ("insert" : Str) = true := by decide +kernel
    have h3 : PyData.strOk (edA (.row b t r)) = true := by cases b; exact h4; exact h5
    show clL [.s (.str _), .s (.str t), .t (r.map D.s)] = true
    simp only [clL, D.cl, sCl]
    rw [h1, h2, h3]; rfl
  | set t k c v =>
    obtain ⟨h1, h2, h3, h4⟩ := h
    have h5 : PyData.strOk ("set" : Str) = true := by decide +kernel
    show clL [.s (.str "set"), .s (.str t), .s k, .s c, .s v] = true
    simp only [clL, D.cl]
    rw [h2.cl, h3.cl, h4.cl]
    simp only [sCl]
    rw [h1, h5]; rfl
  | del t k =>
    obtain ⟨h1, h2⟩ := h
    have h5 : PyData.strOk ("delete" : Str) = true := by decide +kernel
    show clL [.s (.str "delete"), .s (.str t), .s k] = true
    simp only [clL, D.cl]
    rw [h2.cl]
    simp only [sCl]
    rw [h1, h5]; rfl
theorem eds_shaped {es : List Ed} (h : ∀ e ∈ es, edOk e) : SeqAt.shaped (.list (pyOfL (es.map edD))) = true :=
  shapedL_of (clL_all.mpr fun d hd => by obtain ⟨e, he, rfl⟩ := List.mem_map.mp hd; exact ed_cl (h e he)) (dpL_le (n := 20) fun d hd => by obtain ⟨e, _, rfl⟩ := List.mem_map.mp hd; have := ed_dp e; omega)
theorem eds_nil (es : List Ed) : PyData.eqv (.list (pyOfL (es.map edD))) (.list []) = decide (es = []) := by
  rw [PyData.eqv]
  cases es with
  | nil => simp [pyOfL, PyData.eqvAll]
  | cons n r => simp [pyOfL, PyData.eqvAll]
def edsG (es : List Ed) : G := lG (es.map edD)
theorem eds_dep (es : List Ed) : (edsG es).dep ≤ 3 := lG_dep (n := 2) fun d hd => by obtain ⟨e, _, rfl⟩ := List.mem_map.mp hd; exact ed_dp e
theorem eds_g {H : Hp} {L : Addr} {xs : List V} {es : List Ed} (h : H L = some (.lst xs)) (r : TpL H xs (es.map edD)) (ok : ∀ e ∈ es, edOk e) (l : es.length ≤ 900) : Gp H (.ref L) (edsG es) [L] :=
  .l h (by have := r.length; rw [List.length_map] at this; omega) (r.g (smL_all.mpr fun d hd => by obtain ⟨e, he, rfl⟩ := List.mem_map.mp hd; exact ed_dsm (ok e he)))
/-- schema, state and edits in one list -/
theorem three_g {H : Hp} {P S T L : Addr} {a b c : G} {A B C : List Addr} (hP : H P = some (.lst [.ref S, .ref T, .ref L])) (hS : Gp H (.ref S) a A) (hT : Gp H (.ref T) b B) (hL : Gp H (.ref L) c C) : Gp H (.ref P) (.l [a, b, c]) (P :: (A ++ (B ++ (C ++ [])))) :=
  .l hP (by show 3 ≤ 1000; decide) (GpL.cons hS (GpL.cons hT (GpL.cons hL GpL.nil)))
theorem trip_g {H : Hp} {P : Addr} {x y z : V} {a : G} {A : List Addr} (hP : H P = some (.tup [x, y, z])) (h1 : Gp H x a A) (h2 : isScal y = true) (h3 : isScal z = true) : Gp H (.ref P) (.t [a, .s y, .s z]) (A ++ ([] ++ ([] ++ []))) :=
  .t hP (by show 3 ≤ 1000; decide) (GpL.cons h1 (GpL.cons (.s h2) (GpL.cons (.s h3) GpL.nil)))
theorem st_gm {H : Hp} {T : Addr} {st : List TS} {m : StM} {ts : List Tab} {b : Nat} (B : StAt H T st) (e : stM st = m) (W : MW ts m b) (ms : MSc m) (hb : b ≤ 900) (l : m.length ≤ 900) : Gp H (.ref T) (mG m) (stD T st) := by
  subst e
  rw [← stG_M]
  exact B.gM W ms hb (by rw [← stM_len]; exact l)
theorem trip_dep {m : StM} {st : List TS} {y z : V} (e : stM st = m) : (G.t [mG m, .s y, .s z]).dep < 9 := by
  have := st_dep st
  rw [stG_M, e] at this
  simp only [G.dep, depL]
  omega
theorem ixN_at {n j : Nat} (hj : j < n) : ixN n (j : Int) = some j := by
  unfold ixN
  rw [if_pos (by omega), if_pos (by omega)]
  rfl
theorem apply_run {ts : List Tab} {m m' : StM} {es : List Ed} (h : applyM ts m es = .inr m') : runE ts m es 0 = .inr m' := by
  unfold applyM at h
  split at h
  · cases h
  · exact h
theorem fit_len {s : Sch} {e : Ed} (tv : ∀ p ∈ s, TabV p.2) (f : EdFit s e) : ∀ b tn r, e = .row b tn r → r.length ≤ 45 := fun b tn r ee => by
  subst ee
  obtain ⟨p, hp, _, h2, _⟩ := f
  have l8 := (tv p hp).l8
  have : rowB p.2.cols r = true := by
    have : (!rowB p.2.cols r) = false := h2
    simpa using this
  have := rowB_len this
  omega
theorem TpL.set {H : Hp} : ∀ {xs : List V} {ds : List D} {j : Nat} {v : V} {d : D}, TpL H xs ds → Tp H v d → TpL H (xs.set j v) (ds.set j d)
  | [], _, _, _, _, h, _ => by cases h; exact .nil
  | x :: xs, _, 0, v, d, h, hv => by cases h with | cons h r => exact .cons hv r
  | x :: xs, _, j + 1, v, d, h, hv => by cases h with | cons h r => exact .cons h (TpL.set r hv)
theorem TpL.rep {H : Hp} {xs : List V} {ds : List D} (h : TpL H xs ds) : ∀ n : Nat, TpL H (List.replicate n xs).flatten (List.replicate n ds).flatten
  | 0 => .nil
  | n + 1 => by rw [List.replicate_succ, List.replicate_succ, List.flatten_cons, List.flatten_cons]; exact h.app (TpL.rep h n)
theorem map_flat {α β : Type} (f : α → β) (xs : List α) : ∀ n : Nat, (List.replicate n (xs.map f)).flatten = ((List.replicate n xs).flatten).map f
  | 0 => rfl
  | n + 1 => by rw [List.replicate_succ, List.replicate_succ, List.flatten_cons, List.flatten_cons, List.map_append, map_flat f xs n]
theorem mem_flat_rep {α : Type} {xs : List α} {a : α} {n : Nat} (h : a ∈ (List.replicate n xs).flatten) : a ∈ xs := by
  obtain ⟨l, h1, h2⟩ := List.mem_flatten.mp h
  rw [List.mem_replicate] at h1
  rw [← h1.2]; exact h2
theorem flat_len {α : Type} (xs : List α) : ∀ n : Nat, (List.replicate n xs).flatten.length = n * xs.length
  | 0 => by simp
  | n + 1 => by rw [List.replicate_succ, List.flatten_cons, List.length_append, flat_len xs n]; rw [Nat.succ_mul]; omega
end Lt

set_option autoImplicit false
/-! ## sets of ints and texts: made of a list or a tuple; compared -/
namespace Lt
open PySem PySem.Spec PyProof.Rows L2 TL
/-- the keys met before place i; how many -/
def metB (key : Nat → Key) (i : Nat) : Key → Bool := fun k => (List.range i).any fun j => decide (key j = k)
def metN (key : Nat → Key) : Nat → Nat
  | 0 => 0
  | i + 1 => if metB key i (key i) = true then metN key i else metN key i + 1
theorem metB_next (key : Nat → Key) (i : Nat) (k : Key) : metB key (i + 1) k = (metB key i k || decide (k = key i)) := by
  unfold metB
  rw [List.range_succ, List.any_append]
  congr 1
  rw [List.any_cons, List.any_nil, Bool.or_false]
  exact decide_eq_decide.mpr ⟨Eq.symm, Eq.symm⟩
theorem metN_le (key : Nat → Key) : ∀ i, metN key i ≤ i
  | 0 => Nat.le_refl _
  | i + 1 => by
    have := metN_le key i
    unfold metN
    split <;> omega
section
variable {prog : Program} {w : World} {A : Around} {I : Addr} {fp wr : List Addr} {G : Array GenState → Array GenState → Prop} {n : Nat} {P : Nat → Value → Prop} {St : Nat → Shared → Prop}
theorem setOf_moved {a : Addr} {S : Key → Bool} {m : Nat} {h h' : Heap} (R : h.SetOf (mixKind prog w) a S m) (k : ∀ o, h.get? a = some o → h'.get? a = some o) : h'.SetOf (mixKind prog w) a S m := L2.setOf_at R k
/-- set.update over what an iterator gives -/
theorem keys_loop {R : Result → Shared → Prop} (W : WalksS prog w A.in1 I fp wr G n P St) (a : Addr) (na : a ∉ fp) (key : Nat → Key) (hk : ∀ i v, P i v → keyIs (key i) v = true ∧ v.scannable = true) (room : n + 1 < scanBound)
    (fin : Shared → Prop) (hfin : ∀ s, fin s → R (.ok (.ret .none)) s) : ∀ (left i : Nat) (s : Shared), i + left = n → St i s → s.heap.SetOf (mixKind prog w) a (metB key i) (metN key i) →
      (∀ s', Moved (a :: wr) G s s' → s'.heap.SetOf (mixKind prog w) a (metB key n) (metN key n) → fin s') → codeAny (model prog w) A (.builtin "set.update.loop" ⟨[.ref a, .ref I], []⟩) R s := by
  have nw : a ∉ wr := fun h => na (W.sub _ h)
  have up : ∀ b ∈ wr, b ∈ a :: wr := fun b hb => List.mem_cons_of_mem _ hb
  intro left
  induction left with
  | zero =>
    intro i s e st hS done
    have e' : i = n := by omega
    rw [e'] at st hS
    apply codeAny_builtin F.entry_set_update_loop
    rw [Around.under_plainId F.plain_set_update_loop _]
    show wpAny _ A.in1 (do let x ← pyNext (.ref I); _) _ _ s
    apply wpAny_bind
    apply W.done s _ _ st
    intro s' hm
    show wpAny _ A.in1 (ret Value.none) _ _ s'
    exact wpAny_pure (hfin _ (done s' (hm.mono up) (setOf_moved hS fun o => hm.heap a o nw)))
  | succ left ih =>
    intro i s e st hS done
    apply codeAny_builtin F.entry_set_update_loop
    rw [Around.under_plainId F.plain_set_update_loop _]
    show wpAny _ A.in1 (do let x ← pyNext (.ref I); _) _ _ s
    apply wpAny_bind
    apply W.item i s _ _ (by omega) st
    intro v s' hP st' hm
    obtain ⟨hv, sc⟩ := hk i v hP
    have hS' := setOf_moved hS fun o => hm.heap a o nw
    show wpAny _ A.in1 (do let _ ← holding [v] (setAdd a v); _) _ _ s'
    apply wpAny_bind
    apply wpAny_holding
    unfold setAdd
    apply wpAny_holding
    apply wpAny_bind
    apply (mixKind prog w).pyHash (k := key i) hv
    have rm : metN key i + 1 < scanBound := by have := metN_le key i; omega
    apply wpAny_setAddHashed_of (knd := mixKind prog w) (s := { s' with toks := s'.toks + 1 }) hv sc hS' rm
    intro h' sb new
    have new' : h'.SetOf (mixKind prog w) a (metB key (i + 1)) (metN key (i + 1)) := by
      have e1 : metB key (i + 1) = fun k => metB key i k || decide (k = key i) := funext (metB_next key i)
      rw [e1]
      exact new
    refine wpAny_pure ⟨plainId_quiet F.plain_set_update_loop _, ih (i + 1) _ (by omega) (W.frame _ s' _ _ st' (Nat.le_succ _) fun b hb o eo => (sb.2 b fun z => na (z ▸ hb)).trans eo) new' fun s2 hm2 => ?_⟩
    exact done s2 (Moved.trans W.gtrans ((hm.mono up).then_heap (Nat.le_succ _) fun b o hb eo => (sb.2 b fun z => hb (z ▸ List.mem_cons_self)).trans eo) hm2)
end

section
variable {prog : Program} {w : World} {A : Around} {E : Value → Shared → Prop} {s : Shared}
/-- set(x), x a list of ints and texts -/
theorem set_of_list {l : Addr} {items : Array Value} {key : Nat → Key} {Q : Value → Shared → Prop} (calm : A.handled = none) (hl : s.heap.IsList l items) (hk : ∀ (i : Nat) (v : Value), items[i]? = some v → keyIs (key i) v = true ∧ v.scannable = true) (room : items.size + 1 < scanBound)
    (fin : ∀ (h' : Heap) (tk : Nat), h'.SetOf (mixKind prog w) s.heap.objs.size (metB key items.size) (metN key items.size) → (∀ b o, s.heap.get? b = some o → h'.get? b = some o) → Q (.ref s.heap.objs.size) { s with heap := h', toks := tk }) :
    wpAny (model prog w) A (call (.type "set") [.ref l]) Q E s := by
  obtain ⟨c, tl, m1⟩ := F.called_set.mro
  have m2 := F.called_set.made
  have m3 := F.called_set.sub
  apply wpAny_call
  apply codeAny_of_tree
  show wpAny _ _ (callAny (.type "set") _) _ _ _
  apply wpAny_pure
  refine ⟨Code.quiet_builtin _ (by decide +kernel), ?_⟩
  apply codeAny_builtin F.entry_type_call
  rw [Around.under_plain (weight_type_call_type "set" [.ref l] []) rfl]
  have m4 := F.called_set.notType
  have m5 := F.called_set.canCreate
  have m6 := F.typeCall_set_1 (.ref l)
  repeat (any_goals (first | assumption | wp_step))
  apply codeAny_mono (code_set_new_1 (.ref l) (E := E) (Q₁ := fun obj s₁ => ∃ led : Bool, obj = .ref s.heap.objs.size ∧ s₁ = { s with heap := s.heap.push ⟨.type "set", none, .set #[] 0 (.fresh 0 0 led), #[]⟩ }) fun led => ⟨led, rfl, rfl⟩)
  intro r s₁ hr
  cases r with
  | error e => exact hr
  | ok fl =>
    cases fl with
    | ret obj =>
      obtain ⟨led, rfl, rfl⟩ := hr
      have at0 : (s.heap.push ⟨.type "set", none, .set #[] 0 (.fresh 0 0 led), #[]⟩).get? s.heap.objs.size = some ⟨.type "set", none, .set #[] 0 (.fresh 0 0 led), #[]⟩ := Heap.get?_push_size _ rfl
      have ty0 : Shared.TypeIs { s with heap := s.heap.push ⟨.type "set", none, .set #[] 0 (.fresh 0 0 led), #[]⟩ } (.ref s.heap.objs.size) "set" := ⟨_, at0, rfl⟩
      have m7 := F.called_set.init.lookup
      have m8 := F.called_set.init.bind (.ref s.heap.objs.size)
      repeat (any_goals (first | assumption | wp_step))
      refine codeAny_mono (codeAny_call_builtin (R := wants (fun r s₂ => r = .none ∧ ∃ h' tk, s₂ = { s with heap := h', toks := tk } ∧ h'.SetOf (mixKind prog w) s.heap.objs.size (metB key items.size) (metN key items.size) ∧ ∀ b o, s.heap.get? b = some o → h'.get? b = some o) E) F.called_set.init.plain F.entry_set_init (check_set_init_1 ty0 ?_)) fun r₂ s₂ hr₂ => ?_
      · have hl1 := hl.push (⟨.type "set", none, .set #[] 0 (.fresh 0 0 led), #[]⟩ : Obj)
        have lLt : l < s.heap.objs.size := by
          obtain ⟨ol, h1, _⟩ := hl
          exact Heap.lt_size h1
        obtain ⟨ol, h1, hcl, nl, hdl⟩ := hl
        obtain ⟨ocls, odict, odata, oslots⟩ := ol
        simp only at hcl hdl
        subst hcl
        subst hdl
        have hol' := Heap.get?_push_of_some (⟨.type "set", none, .set #[] 0 (.fresh 0 0 led), #[]⟩ : Obj) h1
        have m9 := F.sub_list_set
        have m10 := F.sub_list_frozenset
        have m11 : (Value.type "list" == Value.type "dict") = false := by decide
        unfold Builtin.«set.__init__» noKeywords Builtin.Frozenset.updateFrom
        generalize hPI : pyIter = PI
        wp_walk
        subst hPI
        apply wpAny_pyIter_list hl1
        apply wpAny_bind
        apply wpAny_runValue
        have calm3 : A.in1.in1.in1.handled = none := by simp [calm]
        have sz : (s.heap.push (⟨.type "set", none, .set #[] 0 (.fresh 0 0 led), #[]⟩ : Obj)).objs.size = s.heap.objs.size + 1 := Heap.size_push _ _
        have nI : l ≠ (s.heap.push (⟨.type "set", none, .set #[] 0 (.fresh 0 0 led), #[]⟩ : Obj)).objs.size := by rw [sz]; exact Nat.ne_of_lt (Nat.lt_succ_of_lt lLt)
        have nS : s.heap.objs.size ∉ [(s.heap.push (⟨.type "set", none, .set #[] 0 (.fresh 0 0 led), #[]⟩ : Obj)).objs.size, l] := by
          rw [sz]
          simp only [List.mem_cons, List.not_mem_nil, or_false, not_or]
          exact ⟨Nat.ne_of_lt (Nat.lt_succ_self _), Nat.ne_of_gt lLt⟩
        refine keys_loop (R := wants _ _) (Walks.list calm3 _ l nI items).toS s.heap.objs.size nS key hk room (fun s' => ∃ h' tk, s' = { s with heap := h', toks := tk } ∧ h'.SetOf (mixKind prog w) s.heap.objs.size (metB key items.size) (metN key items.size) ∧ ∀ b o, s.heap.get? b = some o → h'.get? b = some o) ?_ items.size 0 _ (by omega) ⟨⟨_, Heap.get?_push_size _ rfl, rfl, rfl⟩, hl1.push _⟩ ?_ ?_
        · rintro s' ⟨h', tk, rfl, a1, a2⟩
          show wpAny _ _ _ _ _ _
          apply wpAny_pure
          show wpAny _ _ (ret Value.none) _ _ _
          exact wpAny_pure ⟨rfl, h', tk, rfl, a1, a2⟩
        · have at1 := Heap.get?_push_of_some (⟨.type "list_iterator", none, .fields #[.ref l, .int 0 0], #[]⟩ : Obj) at0
          exact ⟨_, #[], 0, _, at1, ⟨rfl, rfl, rfl⟩, rfl, (fun e he => by simp at he), (fun k => by simp [metB]), by decide, rfl, rfl⟩
        · intro s' hm hS'
          obtain ⟨h', g', d', tk', os'⟩ := s'
          have e1 : g' = s.gens := hm.gens
          have e2 : d' = s.drawn := hm.drawn
          have e3 : os' = s.os := hm.os
          subst e1 e2 e3
          refine ⟨h', tk', rfl, hS', fun b o eo => ?_⟩
          have bl := Heap.lt_size eo
          apply hm.heap b o
          · rw [sz]
            simp only [List.mem_cons, List.not_mem_nil, or_false, not_or]
            exact ⟨Nat.ne_of_lt bl, Nat.ne_of_lt (Nat.lt_succ_of_lt bl)⟩
          · exact Heap.get?_push_of_some _ (Heap.get?_push_of_some _ eo)
      · cases r₂ with
        | error e => exact hr₂
        | ok fl₂ =>
          cases fl₂ with
          | ret r =>
            obtain ⟨rfl, h', tk, rfl, a1, a2⟩ := hr₂
            repeat (any_goals (first | assumption | wp_step))
            exact fin _ _ a1 a2
          | _ => exact hr₂.elim
    | _ => exact hr.elim
end
theorem sub_tuple_set : isSubtype (.type "tuple") (.type "set") = pure false := by
  rw [isSubtype_type]
  kernel_rfl
theorem sub_tuple_frozenset : isSubtype (.type "tuple") (.type "frozenset") = pure false := by
  rw [isSubtype_type]
  kernel_rfl
section
variable {prog : Program} {w : World} {A : Around} {E : Value → Shared → Prop} {s : Shared}
/-- set(x), x a tuple of ints and texts -/
theorem set_of_tuple {l : Addr} {items : Array Value} {key : Nat → Key} {Q : Value → Shared → Prop} (calm : A.handled = none) (hl : s.heap.IsTuple l items) (hk : ∀ (i : Nat) (v : Value), items[i]? = some v → keyIs (key i) v = true ∧ v.scannable = true) (room : items.size + 1 < scanBound)
    (fin : ∀ (h' : Heap) (tk : Nat), h'.SetOf (mixKind prog w) s.heap.objs.size (metB key items.size) (metN key items.size) → (∀ b o, s.heap.get? b = some o → h'.get? b = some o) → Q (.ref s.heap.objs.size) { s with heap := h', toks := tk }) :
    wpAny (model prog w) A (call (.type "set") [.ref l]) Q E s := by
  obtain ⟨c, tl, m1⟩ := F.called_set.mro
  have m2 := F.called_set.made
  have m3 := F.called_set.sub
  apply wpAny_call
  apply codeAny_of_tree
  show wpAny _ _ (callAny (.type "set") _) _ _ _
  apply wpAny_pure
  refine ⟨Code.quiet_builtin _ (by decide +kernel), ?_⟩
  apply codeAny_builtin F.entry_type_call
  rw [Around.under_plain (weight_type_call_type "set" [.ref l] []) rfl]
  have m4 := F.called_set.notType
  have m5 := F.called_set.canCreate
  have m6 := F.typeCall_set_1 (.ref l)
  repeat (any_goals (first | assumption | wp_step))
  apply codeAny_mono (code_set_new_1 (.ref l) (E := E) (Q₁ := fun obj s₁ => ∃ led : Bool, obj = .ref s.heap.objs.size ∧ s₁ = { s with heap := s.heap.push ⟨.type "set", none, .set #[] 0 (.fresh 0 0 led), #[]⟩ }) fun led => ⟨led, rfl, rfl⟩)
  intro r s₁ hr
  cases r with
  | error e => exact hr
  | ok fl =>
    cases fl with
    | ret obj =>
      obtain ⟨led, rfl, rfl⟩ := hr
      have at0 : (s.heap.push ⟨.type "set", none, .set #[] 0 (.fresh 0 0 led), #[]⟩).get? s.heap.objs.size = some ⟨.type "set", none, .set #[] 0 (.fresh 0 0 led), #[]⟩ := Heap.get?_push_size _ rfl
      have ty0 : Shared.TypeIs { s with heap := s.heap.push ⟨.type "set", none, .set #[] 0 (.fresh 0 0 led), #[]⟩ } (.ref s.heap.objs.size) "set" := ⟨_, at0, rfl⟩
      have m7 := F.called_set.init.lookup
      have m8 := F.called_set.init.bind (.ref s.heap.objs.size)
      repeat (any_goals (first | assumption | wp_step))
      refine codeAny_mono (codeAny_call_builtin (R := wants (fun r s₂ => r = .none ∧ ∃ h' tk, s₂ = { s with heap := h', toks := tk } ∧ h'.SetOf (mixKind prog w) s.heap.objs.size (metB key items.size) (metN key items.size) ∧ ∀ b o, s.heap.get? b = some o → h'.get? b = some o) E) F.called_set.init.plain F.entry_set_init (check_set_init_1 ty0 ?_)) fun r₂ s₂ hr₂ => ?_
      · have hl1 := hl.push (⟨.type "set", none, .set #[] 0 (.fresh 0 0 led), #[]⟩ : Obj)
        have lLt : l < s.heap.objs.size := by
          obtain ⟨ol, h1, _⟩ := hl
          exact Heap.lt_size h1
        obtain ⟨ol, h1, hcl, nl, hdl⟩ := hl
        obtain ⟨ocls, odict, odata, oslots⟩ := ol
        simp only at hcl hdl
        subst hcl
        subst hdl
        have hol' := Heap.get?_push_of_some (⟨.type "set", none, .set #[] 0 (.fresh 0 0 led), #[]⟩ : Obj) h1
        have m9 := sub_tuple_set
        have m10 := sub_tuple_frozenset
        have m11 : (Value.type "tuple" == Value.type "dict") = false := by decide
        unfold Builtin.«set.__init__» noKeywords Builtin.Frozenset.updateFrom
        generalize hPI : pyIter = PI
        wp_walk
        subst hPI
        apply wpAny_pyIter_tuple hl1
        apply wpAny_bind
        apply wpAny_runValue
        have calm3 : A.in1.in1.in1.handled = none := by simp [calm]
        have sz : (s.heap.push (⟨.type "set", none, .set #[] 0 (.fresh 0 0 led), #[]⟩ : Obj)).objs.size = s.heap.objs.size + 1 := Heap.size_push _ _
        have nI : l ≠ (s.heap.push (⟨.type "set", none, .set #[] 0 (.fresh 0 0 led), #[]⟩ : Obj)).objs.size := by rw [sz]; exact Nat.ne_of_lt (Nat.lt_succ_of_lt lLt)
        have nS : s.heap.objs.size ∉ [(s.heap.push (⟨.type "set", none, .set #[] 0 (.fresh 0 0 led), #[]⟩ : Obj)).objs.size, l] := by
          rw [sz]
          simp only [List.mem_cons, List.not_mem_nil, or_false, not_or]
          exact ⟨Nat.ne_of_lt (Nat.lt_succ_self _), Nat.ne_of_gt lLt⟩
        refine keys_loop (R := wants _ _) (Walks.tuple calm3 _ l nI items).toS s.heap.objs.size nS key hk room (fun s' => ∃ h' tk, s' = { s with heap := h', toks := tk } ∧ h'.SetOf (mixKind prog w) s.heap.objs.size (metB key items.size) (metN key items.size) ∧ ∀ b o, s.heap.get? b = some o → h'.get? b = some o) ?_ items.size 0 _ (by omega) ⟨⟨_, Heap.get?_push_size _ rfl, rfl, rfl⟩, hl1.push _⟩ ?_ ?_
        · rintro s' ⟨h', tk, rfl, a1, a2⟩
          show wpAny _ _ _ _ _ _
          apply wpAny_pure
          show wpAny _ _ (ret Value.none) _ _ _
          exact wpAny_pure ⟨rfl, h', tk, rfl, a1, a2⟩
        · have at1 := Heap.get?_push_of_some (⟨.type "tuple_iterator", none, .fields #[.ref l, .int 0 0], #[]⟩ : Obj) at0
          exact ⟨_, #[], 0, _, at1, ⟨rfl, rfl, rfl⟩, rfl, (fun e he => by simp at he), (fun k => by simp [metB]), by decide, rfl, rfl⟩
        · intro s' hm hS'
          obtain ⟨h', g', d', tk', os'⟩ := s'
          have e1 : g' = s.gens := hm.gens
          have e2 : d' = s.drawn := hm.drawn
          have e3 : os' = s.os := hm.os
          subst e1 e2 e3
          refine ⟨h', tk', rfl, hS', fun b o eo => ?_⟩
          have bl := Heap.lt_size eo
          apply hm.heap b o
          · rw [sz]
            simp only [List.mem_cons, List.not_mem_nil, or_false, not_or]
            exact ⟨Nat.ne_of_lt bl, Nat.ne_of_lt (Nat.lt_succ_of_lt bl)⟩
          · exact Heap.get?_push_of_some _ (Heap.get?_push_of_some _ eo)
      · cases r₂ with
        | error e => exact hr₂
        | ok fl₂ =>
          cases fl₂ with
          | ret r =>
            obtain ⟨rfl, h', tk, rfl, a1, a2⟩ := hr₂
            repeat (any_goals (first | assumption | wp_step))
            exact fin _ _ a1 a2
          | _ => exact hr₂.elim
    | _ => exact hr.elim
end
end Lt

set_option autoImplicit false
namespace Lt
open PySem PySem.Spec PyProof.Rows L2 TL
theorem entry_set_ne : entryFor table "set.__ne__" = some Builtin.«frozenset.__ne__» :=
  entryFor_alias (id' := "frozenset.__ne__") (by kernel_rfl) rfl (by decide +kernel) (by kernel_rfl)
section
variable {prog : Program} {w : World} {A : Around} {E : Value → Shared → Prop} {s : Shared}
theorem quiet_scan {v : Value} {Q : Bool → Shared → Prop} (hv : ∃ k, keyIs k v = true) (h : Q true s) : wpAny (model prog w) A (Builtin.Frozenset.quietEq v) Q E s := by
  obtain ⟨k, hk⟩ := hv
  unfold Builtin.Frozenset.quietEq
  rcases keyIs_shape hk with ⟨i, t, rfl, rfl⟩ | ⟨x, t, rfl, rfl⟩
  · exact wpAny_pure h
  · exact wpAny_pure h
theorem walk_unseen {a b : Addr} {S T : Key → Bool} {n m : Nat} {Q : List (Int × Value) → Shared → Prop} (hS : s.heap.SetOf (mixKind prog w) a S n) (hT : s.heap.SetOf (mixKind prog w) b T m)
    (h : ∀ l : List (Int × Value), (∀ e ∈ l, ∃ k, keyIs k e.2 = true ∧ e.1 = (mixKind prog w).hash k ∧ e.2.scannable = true) → (∀ k, S k = true ↔ ∃ e ∈ l, keyIs k e.2 = true) → Q l s) : wpAny (model prog w) A (Builtin.Frozenset.walkUnseen a b) Q E s := by
  obtain ⟨o, es, ep, t, ho, _, hd, hel, hmem, _, hf, _⟩ := hS
  obtain ⟨o', es', ep', t', ho', _, hd', hel', _, _, hf', _⟩ := hT
  unfold Builtin.Frozenset.walkUnseen
  apply wpAny_bind
  apply wpAny_setEntries_of ho hd hf
  apply wpAny_bind
  apply wpAny_setEntries_of ho' hd' hf'
  apply wpAny_bind
  refine wpAny_forIn_list _ (fun rest q s' => s' = s ∧ q = (none, ()) ∧ ∀ e ∈ rest, ∃ k, keyIs k e.2 = true) _ ?_ ?_ _ _ ⟨rfl, rfl, fun e he => ?_⟩
  · rintro ⟨hh, x⟩ rest q s' ⟨rfl, rfl, hr⟩
    apply wpAny_bind
    apply quiet_scan (hr _ List.mem_cons_self)
    exact wpAny_pure ⟨rfl, rfl, fun e he => hr e (List.mem_cons_of_mem _ he)⟩
  · rintro q s' ⟨rfl, rfl, _⟩
    refine wpAny_pure (h es.toList (fun e he => ?_) hmem)
    obtain ⟨⟨k, h1, h2⟩, h3⟩ := hel e he
    exact ⟨k, h1, h2, h3⟩
  · rcases List.mem_append.mp he with h1 | h1
    · obtain ⟨⟨k, h2, _⟩, _⟩ := hel e h1
      exact ⟨k, h2⟩
    · obtain ⟨⟨k, h2, _⟩, _⟩ := hel' e h1
      exact ⟨k, h2⟩
theorem set_sized {a : Addr} {S : Key → Bool} {n : Nat} {Q : Nat → Shared → Prop} (hS : s.heap.SetOf (mixKind prog w) a S n) (h : Q n s) : wpAny (model prog w) A (Builtin.Frozenset.sizeOf a) Q E s := by
  obtain ⟨o, es, ep, t, ho, _, hd, _, _, _, hf, e⟩ := hS
  unfold Builtin.Frozenset.sizeOf
  exact wpAny_bind (wpAny_setEntries_of ho hd hf (wpAny_pure (by rw [e]; exact h)))
theorem set_within {nm : String} {a b : Addr} {S T : Key → Bool} {n m : Nat} {r : Bool} {Q : Bool → Shared → Prop} (hS : s.heap.SetOf (mixKind prog w) a S n) (hT : s.heap.SetOf (mixKind prog w) b T m) (hl : n ≤ m) (hr : r = true ↔ ∀ k, S k = true → T k = true) (h : Q r s) :
    wpAny (model prog w) A (Builtin.Frozenset.subsetOf nm a b) Q E s := by
  unfold Builtin.Frozenset.subsetOf
  apply wpAny_bind
  apply set_sized hS
  apply wpAny_bind
  apply set_sized hT
  rw [if_neg (by omega)]
  have hS0 := hS
  obtain ⟨o, es, ep, t, ho, _, hd, _, _, _, hf, _⟩ := hS0
  apply wpAny_bind
  apply wpAny_setEpoch_of ho hd hf
  apply wpAny_bind
  apply walk_unseen hS hT
  intro l hel hmem
  apply wpAny_bind
  refine wpAny_forIn_list _ (fun rest q s' => s' = s ∧ q = (none, ()) ∧ (∀ e ∈ rest, e ∈ l) ∧ (r = true ↔ ∀ e ∈ rest, ∀ k, keyIs k e.2 = true → T k = true)) _ ?_ ?_ _ _ ⟨rfl, rfl, fun e he => he, ?_⟩
  · rintro ⟨hh, x⟩ rest q s' ⟨rfl, rfl, hin, hr'⟩
    obtain ⟨k, h1, h2, h3⟩ := hel _ (hin _ List.mem_cons_self)
    have e2 : hh = (mixKind prog w).hash k := h2
    show wpAny _ _ (do let f ← holding [x] (setFind b x hh); _) _ _ _
    apply wpAny_bind
    apply wpAny_holding
    rw [e2]
    apply wpAny_setFind_of (knd := mixKind prog w) h1 h3 hT
    intro f hf2
    cases hk : T k with
    | false =>
      rw [hk] at hf2
      have hr0 : r = false := by
        cases hr1 : r with
        | false => rfl
        | true => rw [hr'.mp hr1 _ List.mem_cons_self k h1] at hk; cases hk
      cases f with
      | some _ => cases hf2
      | none =>
        show wpAny _ _ (if true = true then _ else _) _ _ _
        rw [if_pos rfl]
        apply wpAny_pure
        apply wpAny_pure
        rw [← hr0]
        exact h
    | true =>
      rw [hk] at hf2
      cases f with
      | none => cases hf2
      | some _ =>
        show wpAny _ _ (if false = true then _ else _) _ _ _
        rw [if_neg (by decide)]
        apply wpAny_bind
        unfold Builtin.Frozenset.unchanged
        apply wpAny_bind
        apply wpAny_setEpoch_of ho hd hf
        rw [if_neg (by simp)]
        refine wpAny_pure (wpAny_pure ⟨rfl, rfl, fun e he => hin e (List.mem_cons_of_mem _ he), hr'.trans ⟨fun z e he => z e (List.mem_cons_of_mem _ he), fun z e he => ?_⟩⟩)
        rcases List.mem_cons.mp he with rfl | he
        · intro k' hk'
          have ek := (mixKind prog w).inj _ _ _ hk' h1
          rw [ek]; exact hk
        · exact z e he
  · rintro q s' ⟨rfl, rfl, _, hr'⟩
    have : r = true := hr'.mpr (fun e he => by cases he)
    rw [this] at h
    exact wpAny_pure h
  · rw [hr]
    constructor
    · intro h1 e he k hk
      exact h1 k ((hmem k).mpr ⟨e, he, hk⟩)
    · intro h1 k hk
      obtain ⟨e, he, h2⟩ := (hmem k).mp hk
      exact h1 e he k h2
/-- a != b of sets -/
theorem set_ne {a b : Addr} {S T : Key → Bool} {n m : Nat} {r : Bool} {Q : Value → Shared → Prop} (hS : s.heap.SetOf (mixKind prog w) a S n) (hT : s.heap.SetOf (mixKind prog w) b T m) (hu : A.units < cLine) (hr : n = m → (r = true ↔ ∀ k, S k = true → T k = true)) (h : Q (.bool (!(decide (n = m) && r))) s) :
    wpAny (model prog w) A (compareOp .NotEq (.ref a) (.ref b)) Q E s := by
  have ta : s.TypeIs (.ref a) "set" := by obtain ⟨o, _, _, _, ho, hx, _⟩ := hS; exact ⟨o, ho, hx.1⟩
  have tb : s.TypeIs (.ref b) "set" := by obtain ⟨o, _, _, _, ho, hx, _⟩ := hT; exact ⟨o, ho, hx.1⟩
  refine wpAny_richCompare_same_room (op := .NotEq) ta tb PySem.F.slot_set_ne (wpAny_call_entry PySem.F.slot_set_ne ta entry_set_ne ?_ (PySem.F.args_set_ne_2 _ _)) hu
  show wpAny _ _ (Builtin.Frozenset.slot1 "__ne__" ⟨[.ref a, .ref b], []⟩ >>= _) _ _ s
  apply wpAny_bind
  apply wpAny_of_eq (a := (Value.ref a, Value.ref b)) (by rfl)
  show wpAny _ _ (Builtin.Frozenset.isAnySet (.ref b) >>= _) _ _ s
  apply wpAny_bind
  unfold Builtin.Frozenset.isAnySet orM
  apply wpAny_bind
  apply wpAny_isInstance tb sub_set_self
  show wpAny _ _ (pure true) _ _ _
  apply wpAny_pure
  rw [if_neg (by decide)]
  show wpAny _ _ (do let n ← Builtin.Frozenset.sizeOf a; _) _ _ _
  apply wpAny_bind
  apply set_sized hS
  show wpAny _ _ (do let m ← Builtin.Frozenset.sizeOf b; _) _ _ _
  apply wpAny_bind
  apply set_sized hT
  dsimp only
  by_cases e : n = m
  · have e1 : (n != m) = false := by simp [e]
    rw [if_neg (by rw [e1]; exact Bool.false_ne_true)]
    have hr := hr e
    rw [decide_eq_true e, Bool.true_and] at h
    apply wpAny_bind
    apply wpAny_bind
    unfold andM
    apply wpAny_bind
    apply wpAny_isInstance ta F.sub_set_frozenset
    show wpAny _ _ (pure false) _ _ _
    apply wpAny_pure
    rw [if_neg (by decide)]
    apply set_within hS hT (by omega) hr
    exact wpAny_pure ⟨_, rfl, (fun z => nomatch z), h⟩
  · have e1 : (n != m) = true := by simp [e]
    rw [if_pos e1]
    rw [decide_eq_false e, Bool.false_and] at h
    apply wpAny_bind
    apply wpAny_pure
    exact wpAny_pure ⟨_, rfl, (fun z => nomatch z), h⟩
end
/-! ### the rules -/
def keyAt (ks : List Key) : Nat → Key := fun i => ks.getD i (.inl 0)
def inKs (ks : List Key) : Key → Bool := metB (keyAt ks) ks.length
def cntK (ks : List Key) : Nat := metN (keyAt ks) ks.length
theorem inKs_iff (ks : List Key) (k : Key) : inKs ks k = true ↔ k ∈ ks := by
  unfold inKs metB keyAt
  rw [List.any_eq_true]
  constructor
  · rintro ⟨j, hj, e⟩
    have hj' := List.mem_range.mp hj
    rw [List.getD_eq_getElem?_getD, List.getElem?_eq_getElem hj'] at e
    have e' : ks[j] = k := of_decide_eq_true e
    rw [← e']; exact List.getElem_mem hj'
  · intro h
    obtain ⟨j, hj, e⟩ := List.getElem_of_mem h
    refine ⟨j, List.mem_range.mpr hj, ?_⟩
    rw [List.getD_eq_getElem?_getD, List.getElem?_eq_getElem hj]
    exact decide_eq_true e
/-- as many as a list without repeats of the same keys has -/
theorem met_list (key : Nat → Key) : ∀ i, ∃ D : List Key, D.Nodup ∧ (∀ k, k ∈ D ↔ metB key i k = true) ∧ D.length = metN key i
  | 0 => ⟨[], List.nodup_nil, fun k => by simp [metB], rfl⟩
  | i + 1 => by
    obtain ⟨D, h1, h2, h3⟩ := met_list key i
    by_cases h : metB key i (key i) = true
    · refine ⟨D, h1, fun k => ?_, by rw [h3]; show _ = if _ then _ else _; rw [if_pos h]⟩
      rw [metB_next, h2 k]
      by_cases e : k = key i
      · subst e; simp [h]
      · simp [e]
    · refine ⟨key i :: D, List.nodup_cons.mpr ⟨fun z => h ((h2 _).mp z), h1⟩, fun k => ?_, by rw [List.length_cons, h3]; show _ = if _ then _ else _; rw [if_neg h]⟩
      rw [metB_next, List.mem_cons, h2 k]
      by_cases e : k = key i
      · subst e; simp
      · simp [e]
theorem cnt_list (ks : List Key) : ∃ D : List Key, D.Nodup ∧ (∀ k, k ∈ D ↔ k ∈ ks) ∧ D.length = cntK ks := by
  obtain ⟨D, h1, h2, h3⟩ := met_list (keyAt ks) ks.length
  exact ⟨D, h1, fun k => (h2 k).trans (inKs_iff ks k), h3⟩
theorem sub_len {α : Type} [DecidableEq α] : ∀ {xs ys : List α}, xs.Nodup → (∀ x ∈ xs, x ∈ ys) → xs.length ≤ ys.length
  | [], _, _, _ => Nat.zero_le _
  | x :: xs, ys, nd, h => by
    rw [List.nodup_cons] at nd
    have hx := h x List.mem_cons_self
    have := sub_len (ys := ys.erase x) nd.2 fun y hy => (List.mem_erase_of_ne fun e => nd.1 (by rw [← e]; exact hy)).mpr (h y (List.mem_cons_of_mem _ hy))
    rw [List.length_erase_of_mem hx] at this
    have := List.length_pos_of_mem hx
    rw [List.length_cons]; omega
theorem sub_back {α : Type} [DecidableEq α] {xs ys : List α} (nd : xs.Nodup) (h : ∀ x ∈ xs, x ∈ ys) (l : ys.length ≤ xs.length) : ∀ y ∈ ys, y ∈ xs := fun y hy => by
  by_cases e : y ∈ xs
  · exact e
  · have := sub_len (ys := ys.erase y) nd fun x hx => (List.mem_erase_of_ne fun z => e (by rw [← z]; exact hx)).mpr (h x hx)
    rw [List.length_erase_of_mem hy] at this
    have := List.length_pos_of_mem hy
    omega
theorem cnt_le (ks : List Key) : cntK ks ≤ ks.length := metN_le _ _
theorem cnt_nd {ks : List Key} (nd : ks.Nodup) : cntK ks = ks.length := by
  obtain ⟨D, h1, h2, h3⟩ := cnt_list ks
  have a := sub_len h1 fun x hx => (h2 x).mp hx
  have b := sub_len nd fun x hx => (h2 x).mpr hx
  omega
theorem nodup_of_len {α : Type} [DecidableEq α] : ∀ {ks D : List α}, D.Nodup → (∀ x ∈ D, x ∈ ks) → ks.length ≤ D.length → ks.Nodup
  | [], _, _, _, _ => List.nodup_nil
  | k :: ks, D, nd, h, l => by
    have hk : k ∉ ks := fun z => by
      have := sub_len (ys := ks) nd fun x hx => by
        rcases List.mem_cons.mp (h x hx) with e | e
        · rw [e]; exact z
        · exact e
      rw [List.length_cons] at l
      omega
    refine List.nodup_cons.mpr ⟨hk, nodup_of_len (D := D.erase k) (nd.erase k) (fun x hx => ?_) ?_⟩
    · have hx' := List.mem_of_mem_erase hx
      rcases List.mem_cons.mp (h x hx') with e | e
      · rw [e] at hx
        exact absurd hx (List.Nodup.not_mem_erase nd)
      · exact e
    · by_cases hD : k ∈ D
      · rw [List.length_erase_of_mem hD]; rw [List.length_cons] at l; omega
      · rw [List.erase_of_not_mem hD]; rw [List.length_cons] at l; omega
theorem cnt_twice {ks : List Key} (h : ¬ ks.Nodup) : cntK ks < ks.length := by
  obtain ⟨D, h1, h2, h3⟩ := cnt_list ks
  rcases Nat.lt_or_ge (cntK ks) ks.length with z | z
  · exact z
  · exact absurd (nodup_of_len h1 (fun x hx => (h2 x).mp hx) (by omega)) h
/-- two sets of keys are the same -/
def setEqB (xs ys : List Key) : Bool := decide (cntK xs = cntK ys) && xs.all (inKs ys)
theorem setEq_iff (xs ys : List Key) : setEqB xs ys = true ↔ (∀ k, k ∈ xs ↔ k ∈ ys) := by
  obtain ⟨D, d1, d2, d3⟩ := cnt_list xs
  obtain ⟨E, e1, e2, e3⟩ := cnt_list ys
  unfold setEqB
  rw [Bool.and_eq_true, decide_eq_true_iff, List.all_eq_true]
  constructor
  · rintro ⟨h1, h2'⟩ k
    have h2 : ∀ x ∈ xs, x ∈ ys := fun x hx => (inKs_iff ys x).mp (h2' x hx)
    refine ⟨h2 k, fun hk => ?_⟩
    have := sub_back d1 (fun x hx => (e2 x).mpr (h2 x ((d2 x).mp hx))) (by omega) k ((e2 k).mpr hk)
    exact (d2 k).mp this
  · intro h
    refine ⟨?_, fun x hx => (inKs_iff ys x).mpr ((h x).mp hx)⟩
    have a := sub_len d1 fun x hx => (e2 x).mpr ((h x).mp ((d2 x).mp hx))
    have b := sub_len e1 fun x hx => (d2 x).mpr ((h x).mpr ((e2 x).mp hx))
    omega
section
variable {X : Cx}
/-- set(x), x a list or a tuple of ints and texts -/
def rSetOfK (K : PySem.W.Frag) (P : Program) (w : World) : List V → Hp → VK → Prop := fun xs H Q => ∃ (l : Addr) (ks : List Key), xs = [.ref l] ∧ (SqL K H l (ks.map kV) ∨ SqT K H l (ks.map kV)) ∧ ks.length ≤ 4000 ∧ ∀ p, H p = none → Q (.ref p) (upd H p (SetK P w p (inKs ks) (cntK ks)))
theorem keys_are (P : Program) (w : World) {ks : List Key} {its : List Value} (r : Vals (ks.map kV) its) : ∀ (i : Nat) (v : Value), its.toArray[i]? = some v → keyIs (keyAt ks i) v = true ∧ v.scannable = true := by
  intro i v h
  rw [List.getElem?_toArray] at h
  obtain ⟨k, hk, rk⟩ : ∃ k, ks[i]? = some k ∧ RelV (kV k) v := by
    induction ks generalizing its i with
    | nil => cases r; cases h
    | cons k ks ih =>
      cases r with
      | cons r1 r2 =>
        cases i with
        | zero => cases h; exact ⟨k, rfl, r1⟩
        | succ i => exact ih r2 i h
  unfold keyAt
  rw [List.getD_eq_getElem?_getD, hk]
  exact ⟨kV_is (P := P) (w := w) rk, key_scan rk⟩
theorem cr_setOfK (hc : X.calm = true := by rfl) : CallR X (.type "set") (rSetOfK X.K X.prog X.w) := by
  intro pins s σ H xs us Q I r h
  obtain ⟨l, ks, rfl, hl, len, q⟩ := h
  cases r with
  | cons r1 r2 =>
    cases r2
    obtain rfl : _ = Value.ref l := r1
    have done : ∀ (its : List Value), Vals (ks.map kV) its → its.toArray.size = ks.length := fun its rv => by rw [List.size_toArray, ← rv.length, List.length_map]
    have fin : ∀ (h' : Heap) (tk : Nat), h'.SetOf (mixKind X.prog X.w) s.heap.objs.size (inKs ks) (cntK ks) → (∀ b o, s.heap.get? b = some o → h'.get? b = some o) → ∃ (v : V) (H' : Hp), Inv X pins σ H' { s with heap := h', toks := tk } ∧ RelV v (.ref s.heap.objs.size) ∧ Q v H' := fun h' tk hS hk =>
      ⟨.ref _, upd H s.heap.objs.size (SetK X.prog X.w s.heap.objs.size (inKs ks) (cntK ks)), I.laid (t' := tk) hk (Nat.le_refl _) (setK_new hS), rfl, q _ (I.hok.fresh (Nat.le_refl _))⟩
    rcases hl with hl | hl
    · obtain ⟨its, rv, pl, _⟩ := I.list hl
      have e := done its rv
      refine set_of_list (I.ok.hd hc) pl.isList (keys_are X.prog X.w rv) (by rw [e]; unfold scanBound; omega) fun h' tk hS hk => fin h' tk ?_ hk
      rw [e] at hS
      exact hS
    · obtain ⟨its, rv, pl, _⟩ := I.tuple hl
      have e := done its rv
      refine set_of_tuple (I.ok.hd hc) pl (keys_are X.prog X.w rv) (by rw [e]; unfold scanBound; omega) fun h' tk hS hk => fin h' tk ?_ hk
      rw [e] at hS
      exact hS
/-- a != b of sets -/
def rNeSet (P : Program) (w : World) : R2 := fun x y H Q => ∃ (a b : Addr) (xs ys : List Key), x = .ref a ∧ y = .ref b ∧ H a = some (SetK P w a (inKs xs) (cntK xs)) ∧ H b = some (SetK P w b (inKs ys) (cntK ys)) ∧ Q (.bl (!setEqB xs ys)) H
theorem op_neSet (hu : X.A.units < cLine) : OpR X (compareOp .NotEq) (rNeSet X.prog X.w) := by
  intro pins s σ H x y v u Q I rx ry h
  obtain ⟨a, b, xs, ys, rfl, rfl, ha, hb, q⟩ := h
  obtain rfl : v = Value.ref a := rx
  obtain rfl : u = Value.ref b := ry
  refine set_ne (r := xs.all (inKs ys)) (setK_get I ha) (setK_get I hb) hu (fun _ => ?_) ⟨.bl _, H, I, rfl, q⟩
  rw [List.all_eq_true]
  exact ⟨fun z k hk => z k ((inKs_iff xs k).mp hk), fun z x hx => z x ((inKs_iff xs x).mpr hx)⟩
/-- len(s) -/
def rLenSet (P : Program) (w : World) : List V → Hp → VK → Prop := fun xs H Q => ∃ (a : Addr) (ks : List Key), xs = [.ref a] ∧ H a = some (SetK P w a (inKs ks) (cntK ks)) ∧ ks.length ≤ 4000 ∧ Q (.int (cntK ks : Nat)) H
theorem call_lenSet : CallR X (.builtin "len") (rLenSet X.prog X.w) := by
  intro pins s σ H xs us Q I r h
  obtain ⟨a, ks, rfl, ha, len, q⟩ := h
  cases r with
  | cons r1 r2 =>
    cases r2
    obtain rfl : _ = Value.ref a := r1
    obtain ⟨o, es, ep, t, ho, hex, hd, _, _, _, hf, hn⟩ := setK_get I ha
    have := cnt_le ks
    refine call_len_set ho hex hd hf (by rw [hn]; omega) ⟨.int (cntK ks : Nat), H, I.tok _, ⟨_, by rw [hn]⟩, q⟩
end
end Lt

set_option autoImplicit false
/-! ## steps on columns as data -/
namespace Lt
open PySem L2 TL
open C8 (pss_cut)
inductive CS where
  | ren (t c n : Str)
  | reo (t : Str) (ns : List Str)
  | add (t n k : Str) (b : Bool) (v : V)
  | drp (t c : Str) (v : V)
  | cnv (t c k : Str) (b : Bool)
  | spl (t c a b z : Str)
  | mrg (t a b n z : Str)
def csK : CS → Str
  | .ren .. => "rename_column"
  | .reo .. => "reorder"
  | .add .. => "add_column"
  | .drp .. => "drop_column"
  | .cnv .. => "convert"
  | .spl .. => "split_column"
  | .mrg .. => "merge_columns"
def csT : CS → Str
  | .ren t _ _ => t
  | .reo t _ => t
  | .add t _ _ _ _ => t
  | .drp t _ _ => t
  | .cnv t _ _ _ => t
  | .spl t _ _ _ _ => t
  | .mrg t _ _ _ _ => t
def csR : CS → List D
  | .ren _ c n => [.s (.str c), .s (.str n)]
  | .reo _ ns => [.t (ns.map fun x => D.s (.str x))]
  | .add _ n k b v => [.s (.str n), .s (.str k), .s (.bl b), .s v]
  | .drp _ c v => [.s (.str c), .s v]
  | .cnv _ c k b => [.s (.str c), .s (.str k), .s (.bl b)]
  | .spl _ c a b z => [.s (.str c), .s (.str a), .s (.str b), .s (.str z)]
  | .mrg _ a b n z => [.s (.str a), .s (.str b), .s (.str n), .s (.str z)]
def csD (x : CS) : D := .t (.s (.str (csK x)) :: .s (.str (csT x)) :: csR x)
/-- a text that may stand in a step -/
def txOk (z : Str) : Prop := PyData.strOk z = true ∧ z.length ≤ 500
/-- a text that may stand for a separator -/
def sepOk (z : Str) : Prop := z.length ≤ 500 ∧ (z.length = 1 → ∀ c ∈ tl z, chOk c)
/-- a value that may be drawn -/
def valG (v : V) : Prop := ∃ k b, ValOf k b v
theorem valG.e {v : V} (h : valG v) : valE v := by
  obtain ⟨k, b, h⟩ := h
  exact h.e
theorem valG.thing {v : V} {H : Hp} (h : valG v) : Thing H v := h.e.thing
/-- the kinds that are drawn -/
def kndOk (k : Str) : Prop := k = "int" ∨ k = "text" ∨ k = "flag"
def csOk : CS → Prop
  | .ren t c n => txOk t ∧ txOk c ∧ txOk n
  | .reo t ns => txOk t ∧ ns.length ≤ 20 ∧ ∀ n ∈ ns, txOk n
  | .add t n k _ v => txOk t ∧ txOk n ∧ kndOk k ∧ valG v
  | .drp t c v => txOk t ∧ txOk c ∧ valG v
  | .cnv t c k _ => txOk t ∧ txOk c ∧ kndOk k
  | .spl t c a b z => txOk t ∧ txOk c ∧ txOk a ∧ txOk b ∧ sepOk z
  | .mrg t a b n z => txOk t ∧ txOk a ∧ txOk b ∧ txOk n ∧ sepOk z
theorem csOk.t {x : CS} (h : csOk x) : txOk (csT x) := by cases x <;> exact h.1
theorem one_of {z : Str} (h : z.length = 1) : ∃ c, z = one c ∧ tl z = [c] := by
  obtain ⟨⟨l⟩⟩ := z
  have h' : l.length = 1 := h
  match l, h' with
  | [c], _ => exact ⟨c, rfl, rfl⟩
def newM (x : Tab) (n : Str) : Str := if nameB n = true then (if n ∈ colNs x.cols then "taken" else "") else "name"
def freeM (x : Tab) (ns : List Str) : Str := if ∀ n ∈ ns, n ∈ colNs x.cols then (if keyN x ∈ ns then "key" else if ns.any (usedM x) = true then "used" else "") else "missing"
def kindB (k : Str) : Bool := decide (k = "int") || decide (k = "text")
theorem kindB_in (k : Str) : inV (.str k) [.str "int", .str "text"] = kindB k := by
  have e := inV_str k ["int", "text"]
  have e2 : ([V.str "int", V.str "text"] : List V) = (["int", "text"] : List Str).map V.str := rfl
  rw [e2, e]
  unfold kindB
  rw [Bool.eq_iff_iff]
  simp
def nullAt (cols : List Col) (n : Str) : Bool := (cols.map (·.b)).getD ((colNs cols).idxOf n) false
theorem free_in {x : Tab} {ns : List Str} (h : freeM x ns = "") : ∀ n ∈ ns, n ∈ colNs x.cols := by
  unfold freeM at h
  by_cases e : ∀ n ∈ ns, n ∈ colNs x.cols
  · exact e
  · rw [if_neg e] at h
    exact absurd h (by decide +kernel)
theorem col_kind {cols : List Col} {n : Str} {c : Col} (h : cols[(colNs cols).idxOf n]? = some c) : c.k = kindAt cols n := by
  unfold kindAt
  rw [List.getD_eq_getElem?_getD, List.getElem?_map, h]
  rfl
theorem col_null {cols : List Col} {n : Str} {c : Col} (h : cols[(colNs cols).idxOf n]? = some c) : c.b = nullAt cols n := by
  unfold nullAt
  rw [List.getD_eq_getElem?_getD, List.getElem?_map, h]
  rfl
def textsB (x : Tab) (ns : List Str) : Bool := ns.all fun n => decide (kindAt x.cols n = ("text" : Str))
def reoB (x : Tab) (ns : List Str) : Bool := decide (ns.length = x.cols.length) && (setEqB (ns.map Sum.inr) ((colNs x.cols).map Sum.inr) && decide (ns.headD "" = keyN x))
def codeC (x : Tab) : CS → Str
  | .ren _ c n => if c ∈ colNs x.cols then newM x n else "missing"
  | .reo _ ns => if reoB x ns = true then "" else "columns"
  | .add _ n k b v => if newM x n = "" then (if 8 ≤ x.cols.length then "limit" else if (kindB k && fitsK v k b) = true then "" else "kind") else newM x n
  | .drp _ c v => if freeM x [c] = "" then (if fitsK v (kindAt x.cols c) (nullAt x.cols c) = true then "" else "kind") else freeM x [c]
  | .cnv _ c k _ => if freeM x [c] = "" then (if kindB k = true then "" else "kind") else freeM x [c]
  | .spl _ c a b z => if freeM x [c] = "" then (if (textsB x [c] && decide (z.length = 1)) = true then (if (nameB a && nameB b) = true then (if a = b ∨ (a ∈ colNs x.cols ∧ a ≠ c) ∨ (b ∈ colNs x.cols ∧ b ≠ c) then "taken" else if 8 ≤ x.cols.length then "limit" else "") else "name") else "kind") else freeM x [c]
  | .mrg _ a b n z => if freeM x [a, b] = "" then (if (textsB x [a, b] && decide (z.length = 1)) = true then (if nameB n = true then (if a = b ∨ (n ∈ colNs x.cols ∧ n ≠ a ∧ n ≠ b) then "taken" else "") else "name") else "kind") else freeM x [a, b]
def codeCS (ts : List Tab) (l : CS) : Str := match tabOf ts (csT l) with
  | none => "missing"
  | some x => codeC x l
/-- columns with others in the place of one -/
def putCols (cols : List Col) (n : Str) (ds : List Col) : List Col := cols.take ((colNs cols).idxOf n) ++ ds ++ cols.drop ((colNs cols).idxOf n + 1)
def lessCols (cols : List Col) (ns : List Str) : List Col := cols.filter fun c => !decide (c.n ∈ ns)
def colAt (cols : List Col) (n : Str) : Col := cols.getD ((colNs cols).idxOf n) ⟨"", "", false⟩
def renX (c n u : Str) : Str := if u = c then n else u
def newC (x : Tab) : CS → Tab
  | .ren _ c n => { x with cols := putCols x.cols c [⟨n, kindAt x.cols c, nullAt x.cols c⟩], ch := x.ch.map fun k => renM c n k, un := x.un.map (renX c n), rf := x.rf.map fun r => (renX c n r.1, r.2) }
  | .reo _ ns => { x with cols := ns.map (colAt x.cols) }
  | .add _ n k b _ => { x with cols := x.cols ++ [⟨n, k, b⟩] }
  | .drp _ c _ => { x with cols := lessCols x.cols [c] }
  | .cnv _ c k b => { x with cols := putCols x.cols c [⟨c, k, b⟩] }
  | .spl _ c a b _ => { x with cols := putCols x.cols c [⟨a, "text", nullAt x.cols c⟩, ⟨b, "text", nullAt x.cols c⟩] }
  | .mrg _ a b n _ => { x with cols := putCols (lessCols x.cols [b]) a [⟨n, "text", nullAt x.cols a && nullAt x.cols b⟩] }
theorem newC_n (x : Tab) (l : CS) : (newC x l).n = x.n := by cases l <;> rfl
def setTab (ts : List Tab) (t : Str) (y : Tab) : List Tab := ts.map fun x => if x.n = t then { y with n := t } else x
def targCS (ts : List Tab) (l : CS) : List Tab := ts.map fun x => if x.n = csT l then newC x l else x
theorem cs_at {H : Hp} {st : Addr} {l : CS} (h : Tp H (.ref st) (csD l)) : ∃ ys, H st = some (.tup (.str (csK l) :: .str (csT l) :: ys)) ∧ TpL H ys (csR l) := by
  unfold csD at h
  cases h with
  | t h r =>
    cases r with
    | cons h1 r =>
      cases r with
      | cons h2 r =>
        cases h1; cases h2
        exact ⟨_, h, r⟩
theorem strK (ns : List Str) : (ns.map Sum.inr : List Key).map kV = ns.map V.str := by
  rw [List.map_map]; rfl
theorem key_first {x : Tab} (h : 1 ≤ x.cols.length) : (colNs x.cols)[0]? = some (keyN x) := by
  unfold keyN
  cases e : x.cols with
  | nil => rw [e] at h; exact absurd h (by decide)
  | cons c r => rfl
theorem take_filt (own : List Str) (P : Str → Bool) {i : Nat} {n : Str} (h : own[i]? = some n) : (own.take (i + 1)).filter P = (own.take i).filter P ++ (if P n = true then [n] else []) := by
  rw [List.take_add_one, h, Option.toList_some, List.filter_append, List.filter_cons, List.filter_nil]
theorem names_at {own : List Str} {i : Nat} {x : V} (h : (own.map V.str)[i]? = some x) : ∃ n, own[i]? = some n ∧ x = .str n := by
  rw [List.getElem?_map] at h
  cases e : own[i]? with
  | none => rw [e] at h; cases h
  | some n => rw [e] at h; cases h; exact ⟨n, rfl, rfl⟩
theorem mem_less {own : List Str} {n c : Str} : n ∈ own.filter (fun y => !decide (y = c)) ↔ n ∈ own ∧ n ≠ c := by
  rw [List.mem_filter]
  simp
theorem mem_less2 {own : List Str} {n a b : Str} : n ∈ own.filter (fun y => !decide (y = a) && !decide (y = b)) ↔ n ∈ own ∧ n ≠ a ∧ n ≠ b := by
  rw [List.mem_filter]
  simp
theorem less_take {cols : List Col} {ns : List Str} (i : Nat) {c : Col} (h : cols[i]? = some c) : lessCols (cols.take (i + 1)) ns = lessCols (cols.take i) ns ++ (if (!decide (c.n ∈ ns)) = true then [c] else []) := by
  unfold lessCols
  rw [List.take_add_one, h, Option.toList_some, List.filter_append, List.filter_cons, List.filter_nil]
theorem put_c (a : Ads) (N : Addr) : putK (descD a) (Sum.inr ("columns" : Str) : Key) (.ref N) = descD { a with c := N } := by
  simp [putK, descD, e_co_ch, e_co_un, e_co_rf, Ne.symm e_co_ch, Ne.symm e_co_un, Ne.symm e_co_rf]
theorem DescAt.named {H : Hp} {a : Ads} {x : Tab} (h : DescAt H a x) (n : Str) : DescAt H a { x with n := n } := ⟨h.dk, h.co, h.ch, h.un, h.rf⟩
/-- a schema in which one table has another description -/
def putS (s : Sch) (t : Str) (a : Ads) (x : Tab) : Sch := s.map fun y => if y.2.n = t then (a, { x with n := t }) else y
theorem putS_mem {s : Sch} {t : Str} {a : Ads} {x : Tab} {y : Ads × Tab} (h : y ∈ putS s t a x) : y = (a, { x with n := t }) ∨ (y ∈ s ∧ y.2.n ≠ t) := by
  obtain ⟨z, h1, h2⟩ := List.mem_map.mp h
  by_cases e : z.2.n = t
  · rw [if_pos e] at h2; exact .inl h2.symm
  · rw [if_neg e] at h2; rw [← h2]; exact .inr ⟨h1, e⟩
theorem putS_K {s : Sch} {t : Str} (h : t ∈ schN s) (a : Ads) (x : Tab) : putK (schK s) (Sum.inr t : Key) (.ref a.d) = schK (putS s t a x) := by
  rw [put_same (by rw [sch_keys]; exact List.mem_map.mpr ⟨t, h, rfl⟩)]
  unfold schK putS
  rw [List.map_map, List.map_map]
  refine List.map_congr_left fun y _ => ?_
  show (if (Sum.inr y.2.n : Key) = Sum.inr t then _ else _) = ((Sum.inr (if y.2.n = t then (a, ({ x with n := t } : Tab)) else y).2.n : Key), V.ref (if y.2.n = t then (a, ({ x with n := t } : Tab)) else y).1.d)
  by_cases e : y.2.n = t
  · rw [if_pos (by rw [e]), if_pos e]; exact congrArg (fun k : Str => ((Sum.inr k : Key), V.ref a.d)) e
  · rw [if_neg (fun z => e (Sum.inr.inj z)), if_neg e]
theorem putS_T {s : Sch} {t : Str} {a : Ads} {x : Tab} : (putS s t a x).map (·.2) = setTab (s.map (·.2)) t x := by
  unfold putS setTab
  rw [List.map_map, List.map_map]
  refine List.map_congr_left fun y _ => ?_
  show (if y.2.n = t then (a, ({ x with n := t } : Tab)) else y).2 = if y.2.n = t then _ else _
  split <;> rfl
/-- what holds of each two tables holds of each two after a change of one -/
theorem putS_pair {R : Ads × Tab → Ads × Tab → Prop} {s : Sch} {t : Str} {a : Ads} {x : Tab} (nm : (schN s).Nodup) (h : s.Pairwise R) (h1 : ∀ y ∈ s, y.2.n ≠ t → R y (a, { x with n := t })) (h2 : ∀ y ∈ s, y.2.n ≠ t → R (a, { x with n := t }) y) : (putS s t a x).Pairwise R := by
  unfold putS
  rw [List.pairwise_map]
  have nm' : s.Pairwise fun y z => y.2.n ≠ z.2.n := List.pairwise_map.mp nm
  refine List.Pairwise.imp_of_mem (fun {y z} hy hz q => ?_) (h.and nm')
  obtain ⟨q1, q2⟩ := q
  by_cases e : y.2.n = t
  · have e2 : z.2.n ≠ t := fun w => q2 (e.trans w.symm)
    rw [if_pos e, if_neg e2]
    exact h2 z hz e2
  · rw [if_neg e]
    by_cases e2 : z.2.n = t
    · rw [if_pos e2]; exact h1 y hy e
    · rw [if_neg e2]; exact q1
theorem NewSch.put {H H1 H2 : Hp} {S : Addr} {s : Sch} {ts : List Tab} {t : Str} {a : Ads} {x : Tab} (N : NewSch H H1 S s ts) (nm : (schN s).Nodup) (ht : t ∈ schN s) (e : Same H1 H2) (D : DescAt H2 a x) (f : H1 a.d = none) (fl : ∀ b ∈ adL a, H1 b = none) (nd : (adL a).Nodup) :
    NewSch H (upd H2 S (.dK (putK (schK s) (Sum.inr t : Key) (.ref a.d)))) S (putS s t a x) (setTab ts t x) := by
  have hS2 := e _ _ N.sk
  have kt : KeepT H2 (upd H2 S (.dK (putK (schK s) (Sum.inr t : Key) (.ref a.d)))) := KeepT.upd fun xs z => by rw [hS2] at z; cases z
  have dS : a.d ≠ S := fun z => by rw [z, N.sk] at f; cases f
  have lS : ∀ b ∈ adL a, b ≠ S := fun b hb z => by have := fl b hb; rw [z, N.sk] at this; cases this
  have fr : ∀ {y}, y ∈ s → y.1.d ≠ a.d ∧ ∀ b ∈ adL y.1, b ∉ adL a := fun {y} hy => by
    have D1 := N.ds y hy
    refine ⟨fun z => (by have := D1.dk; rw [z, f] at this; cases this), fun b hb hm => ?_⟩
    obtain ⟨zs, hz⟩ := D1.isL b hb
    rw [fl b hm] at hz; cases hz
  refine ⟨?_, fun y hy => ?_, ?_, N.fS, fun y hy => ?_, ?_, ?_, ?_⟩
  · rw [upd_same, putS_K ht]
  · rcases putS_mem hy with rfl | ⟨h1, h2⟩
    · exact (D.frame kt (fun o z => by rw [upd_ne dS]; exact z) (fun b hb o z => by rw [upd_ne (lS b hb)]; exact z)).named t
    · have D1 := (N.ds y h1).mono e
      exact D1.frame kt (fun o z => by rw [upd_ne (N.fd y h1).2.1]; exact z) (fun b hb o z => by
        rw [upd_ne (fun w => ?_)]
        · exact z
        · obtain ⟨zs, hz⟩ := D1.isL b hb
          rw [w, hS2] at hz; cases hz)
  · rw [putS_T, N.ts]
  · rcases putS_mem hy with rfl | ⟨h1, _⟩
    · exact ⟨N.se.free f, dS, fun b hb => N.se.free (fl b hb)⟩
    · exact N.fd y h1
  · show ((putS s t a x).map fun p => p.1.d).Pairwise _
    rw [List.pairwise_map]
    exact putS_pair nm (List.pairwise_map.mp N.dn) (fun y hy _ => (fr hy).1) (fun y hy _ => (fr hy).1.symm)
  · have nl := List.pairwise_flatMap.mp N.ln
    refine List.pairwise_flatMap.mpr ⟨fun y hy => ?_, putS_pair nm nl.2 (fun y hy _ b hb c hc z => (fr hy).2 b hb (by rw [z]; exact hc)) (fun y hy _ b hb c hc z => (fr hy).2 c hc (by rw [← z]; exact hb))⟩
    rcases putS_mem hy with rfl | ⟨h1, _⟩
    · exact nd
    · exact nl.1 y h1
  · exact same_upd N.fS _ (N.se.trans e)
theorem targ_put {s : Sch} (nm : (schN s).Nodup) {p : Ads × Tab} (hp : p ∈ s) {l : CS} {x : Tab} (e : csT l = p.2.n) (h : newC p.2 l = { x with n := p.2.n }) : setTab (tbs s) p.2.n x = targCS (tbs s) l := by
  unfold setTab targCS tbs
  rw [List.map_map, List.map_map]
  refine List.map_congr_left fun y hy => ?_
  show (if y.2.n = p.2.n then _ else y.2) = if y.2.n = csT l then newC y.2 l else y.2
  rw [e]
  by_cases z : y.2.n = p.2.n
  · rw [if_pos z, if_pos z]
    have := sch_one nm hy hp z
    rw [this, h]
  · rw [if_neg z, if_neg z]
theorem code_in {s : Sch} (nm : (schN s).Nodup) {l : CS} (h : codeCS (tbs s) l = "") : ∃ p ∈ s, p.2.n = csT l ∧ codeC p.2 l = "" := by
  unfold codeCS at h
  rcases tab_cases nm (csT l) with ⟨_, h2⟩ | ⟨p, hp, e, h2⟩
  · rw [h2] at h
    exact absurd (show ("missing" : Str) = "" from h) (by decide +kernel)
  · rw [h2] at h
    exact ⟨p, hp, e, h⟩
theorem ColsAt.one {H : Hp} {L p0 : Addr} {c : Col} (h : H L = some (.lst [.ref p0])) (hp : H p0 = some (.tup [.str c.n, .str c.k, .bl c.b])) : ColsAt H L [c] := ⟨_, h, .cons (col_mk hp) .nil⟩
theorem if_str {P : Prop} [Decidable P] {a b : Str} (h : (if P then a else b) = "") (hb : b ≠ "") : P ∧ a = "" := by
  by_cases e : P
  · rw [if_pos e] at h; exact ⟨e, h⟩
  · rw [if_neg e] at h; exact absurd h hb
theorem if_strN {P : Prop} [Decidable P] {a b : Str} (h : (if P then a else b) = "") (ha : a ≠ "") : ¬ P ∧ b = "" := by
  by_cases e : P
  · rw [if_pos e] at h; exact absurd h ha
  · rw [if_neg e] at h; exact ⟨e, h⟩
theorem free_else {x : Tab} {ns : List Str} {a : Str} (h : (if freeM x ns = "" then a else freeM x ns) = "") : freeM x ns = "" ∧ a = "" := by
  by_cases e : freeM x ns = ""
  · rw [if_pos e] at h; exact ⟨e, h⟩
  · rw [if_neg e] at h; exact absurd h e
theorem new_else {x : Tab} {n a : Str} (h : (if newM x n = "" then a else newM x n) = "") : newM x n = "" ∧ a = "" := by
  by_cases e : newM x n = ""
  · rw [if_pos e] at h; exact ⟨e, h⟩
  · rw [if_neg e] at h; exact absurd h e
theorem NewSch.after {H H1 H2 : Hp} {S : Addr} {s : Sch} {ts : List Tab} (N : NewSch H1 H2 S s ts) (e : Same H H1) : NewSch H H2 S s ts :=
  ⟨N.sk, N.ds, N.ts, e.free N.fS, fun p hp => ⟨e.free (N.fd p hp).1, (N.fd p hp).2.1, fun b hb => e.free ((N.fd p hp).2.2 b hb)⟩, N.dn, N.ln, e.trans N.se⟩
theorem put_len {cols ds : List Col} {n : Str} (h : cols.length ≤ 50) (k : ds.length ≤ 2) : (putCols cols n ds).length ≤ 100 := by
  unfold putCols
  rw [List.length_append, List.length_append, List.length_take, List.length_drop]
  omega
theorem colAt_get {cols : List Col} {n : Str} {c : Col} (h : cols[(colNs cols).idxOf n]? = some c) : colAt cols n = c := by
  unfold colAt
  rw [List.getD_eq_getElem?_getD, h]
  rfl
theorem reo_all {x : Tab} {ns : List Str} (h : reoB x ns = true) : ns.length = x.cols.length ∧ (∀ n, n ∈ ns ↔ n ∈ colNs x.cols) ∧ ns.headD "" = keyN x := by
  unfold reoB at h
  rw [Bool.and_eq_true, Bool.and_eq_true, decide_eq_true_iff, decide_eq_true_iff, setEq_iff] at h
  refine ⟨h.1, fun n => ?_, h.2.2⟩
  have := h.2.1 (Sum.inr n)
  constructor
  · intro hm
    obtain ⟨m, h1, h2⟩ := List.mem_map.mp (this.mp (List.mem_map.mpr ⟨n, hm, rfl⟩))
    cases h2; exact h1
  · intro hm
    obtain ⟨m, h1, h2⟩ := List.mem_map.mp (this.mpr (List.mem_map.mpr ⟨n, hm, rfl⟩))
    cases h2; exact h1
theorem less_in {cols : List Col} {ns : List Str} {a : Str} (h : a ∈ colNs cols) (k : a ∉ ns) : a ∈ colNs (lessCols cols ns) := by
  obtain ⟨c, h1, h2⟩ := List.mem_map.mp h
  refine List.mem_map.mpr ⟨c, List.mem_filter.mpr ⟨h1, ?_⟩, h2⟩
  have h2' : c.n = a := h2
  rw [h2']; simpa using k
def spCodeC (P : CS → Prop) : Sp := fun vs H Q _ => ∃ (S : Addr) (s : Sch) (st : Addr) (l : CS), vs = [.ref S, .ref st] ∧ ScV H S s ∧ Tp H (.ref st) (csD l) ∧ csOk l ∧ P l ∧ ∀ H', Same H H' → Q (.str (codeCS (tbs s) l)) H'
def spTargC (P : CS → Prop) : Sp := fun vs H Q _ => ∃ (S : Addr) (s : Sch) (st : Addr) (l : CS), vs = [.ref S, .ref st] ∧ ScV H S s ∧ Tp H (.ref st) (csD l) ∧ csOk l ∧ P l ∧ codeCS (tbs s) l = "" ∧ ∀ S' s' H', NewSch H H' S' s' (targCS (tbs s) l) → Q (.ref S') H'
def spTargetC (C : Addr) : Sp := fun vs H Q E => ∃ (S : Addr) (s : Sch) (st : Addr) (l : CS), vs = [.ref S, .ref st] ∧ ScV H S s ∧ Tp H (.ref st) (csD l) ∧ csOk l ∧
  (codeCS (tbs s) l = "" → ∀ S' s' H', NewSch H H' S' s' (targCS (tbs s) l) → Q (.ref S') H') ∧
  (codeCS (tbs s) l ≠ "" → ∀ H1 d, Same H H1 → H1 d = none → E (.ref C) (some d) (upd H1 d (.xd [("index", .int 0), ("code", .str (codeCS (tbs s) l))])))
def byT (ts : List Tab) (t : Str) (f : Tab → Str) : Str := match tabOf ts t with | none => "missing" | some x => f x
def spNewCol : Sp := fun vs H Q _ => ∃ (S : Addr) (s : Sch) (t n : Str), vs = [.ref S, .str t, .str n] ∧ ScV H S s ∧ n.length ≤ 1000 ∧ ∀ H', Same H H' → Q (.str (byT (tbs s) t fun x => newM x n)) H'
def spLacksN : Sp := fun vs H Q _ => ∃ (S : Addr) (s : Sch) (t : Str) (ns : List Str) (L : Addr), vs = [.ref S, .str t, .ref L] ∧ ScV H S s ∧ H L = some (.lst (ns.map V.str)) ∧ ns.length ≤ 20 ∧ ∀ H', Same H H' → Q (.bl (match tabOf (tbs s) t with | none => true | some x => !(ns.all fun n => decide (n ∈ colNs x.cols)))) H'
def spUsesOne : Sp := fun vs H Q _ => ∃ (a : Ads) (x : Tab) (ns : List Str) (L : Addr), vs = [.ref a.d, .ref L] ∧ DescAt H a x ∧ TabSm x ∧ H L = some (.lst (ns.map V.str)) ∧ ns.length ≤ 20 ∧ ∀ H', Same H H' → Q (.bl (ns.any (usedM x))) H'
def spFree : Sp := fun vs H Q _ => ∃ (S : Addr) (s : Sch) (t : Str) (ns : List Str) (L : Addr), vs = [.ref S, .str t, .ref L] ∧ ScV H S s ∧ H L = some (.lst (ns.map V.str)) ∧ ns.length ≤ 20 ∧ ∀ H', Same H H' → Q (.str (byT (tbs s) t fun x => freeM x ns)) H'
def spAreTexts : Sp := fun vs H Q _ => ∃ (a : Ads) (x : Tab) (ns : List Str) (L : Addr), vs = [.ref a.d, .ref L] ∧ DescAt H a x ∧ x.cols.length ≤ 40 ∧ H L = some (.lst (ns.map V.str)) ∧ ns.length ≤ 20 ∧ (∀ n ∈ ns, n ∈ colNs x.cols) ∧ ∀ H', Same H H' → Q (.bl (textsB x ns)) H'
def spIsSep : Sp := fun vs H Q _ => ∃ z : Str, vs = [.str z] ∧ sepOk z ∧ ∀ H', Same H H' → Q (.bl (decide (z.length = 1))) H'
def spReplaced : Sp := fun vs H Q _ => ∃ (a : Ads) (x : Tab) (n : Str) (L : Addr) (ds : List Col), vs = [.ref a.d, .str n, .ref L] ∧ DescAt H a x ∧ x.cols.length ≤ 40 ∧ n ∈ colNs x.cols ∧ ColsAt H L ds ∧ ds.length ≤ 10 ∧ ∀ N H', H N = none → ColsAt H' N (putCols x.cols n ds) → Same H H' → Q (.ref N) H'
def spOtherCols : Sp := fun vs H Q _ => ∃ (a : Ads) (x : Tab) (ns : List Str) (L : Addr), vs = [.ref a.d, .ref L] ∧ DescAt H a x ∧ x.cols.length ≤ 40 ∧ H L = some (.lst (ns.map V.str)) ∧ ns.length ≤ 20 ∧ ∀ N H', H N = none → ColsAt H' N (lessCols x.cols ns) → Same H H' → Q (.ref N) H'
def spWithCols : Sp := fun vs H Q _ => ∃ (a : Ads) (x : Tab) (L : Addr) (ds : List Col), vs = [.ref a.d, .ref L] ∧ DescAt H a x ∧ ColsAt H L ds ∧ ds.length ≤ 100 ∧ ∀ a' H', DescAt H' a' { x with cols := ds } → Same H H' → H a'.d = none → (∀ b ∈ adL a', H b = none) → (adL a').Nodup → Q (.ref a'.d) H'
def spWithTable : Sp := fun vs H Q _ => ∃ (S : Addr) (s : Sch) (t : Str) (a : Ads) (x : Tab), vs = [.ref S, .str t, .ref a.d] ∧ ScV H S s ∧ t ∈ schN s ∧ DescAt H a x ∧ ∀ S' s' H', NewSch H H' S' s' (setTab (tbs s) t x) → Q (.ref S') H'
def spValFitsL : Sp := fun vs H Q _ => ∃ (v : V) (ca : Addr) (c : Col), vs = [v, .ref ca] ∧ H ca = some (.tup [.str c.n, .str c.k, .bl c.b]) ∧ kindB c.k = true ∧ valG v ∧ Q (.bl (fitsK v c.k c.b)) H
def spBlocked : Sp := fun vs H Q _ => ∃ (a : Ads) (x : Tab) (ns : List Str) (L : Addr), vs = [.ref a.d, .ref L] ∧ DescAt H a x ∧ TabV x ∧ H L = some (.lst (ns.map V.str)) ∧ ns.length ≤ 20 ∧ ∀ H', Same H H' → Q (.str (freeM x ns)) H'
theorem any_next {α : Type} (f : α → Bool) {xs : List α} {i : Nat} {x : α} (h : xs[i]? = some x) (h0 : (xs.take i).any f = false) (h1 : f x = false) : (xs.take (i + 1)).any f = false := by
  rw [List.take_add_one, h, Option.toList_some, List.any_append, h0, List.any_cons, h1]; rfl
theorem any_hit {α : Type} (f : α → Bool) {xs : List α} {i : Nat} {x : α} (h : xs[i]? = some x) (h1 : f x = true) : xs.any f = true := List.any_eq_true.mpr ⟨x, List.mem_of_getElem? h, h1⟩
theorem fitsK_non (k : Str) (b : Bool) : fitsK .non k b = b := by unfold fitsK; rw [if_pos rfl]
theorem fitsK_int {i : Int} (h : -999999999 ≤ i ∧ i ≤ 999999999) {k : Str} (hk : kindB k = true) (b : Bool) : fitsK (.int i) k b = decide (V.bl false = V.bl (decide (V.str k = V.str "text"))) := by
  unfold fitsK
  rw [if_neg (fun z => nomatch z), blV_dec, strV_dec]
  show (decide (-1000000000 < i ∧ i < 1000000000) && decide (("int" : Str) = k)) = _
  rw [decide_eq_true (by omega), Bool.true_and]
  unfold kindB at hk
  rw [Bool.or_eq_true, decide_eq_true_iff, decide_eq_true_iff] at hk
  rcases hk with rfl | rfl <;> decide +kernel
theorem fitsK_str {z : Str} (h1 : z.length ≤ 30) (h2 : ∀ c ∈ tl z, chOk c) {k : Str} (hk : kindB k = true) (b : Bool) : fitsK (.str z) k b = decide (V.bl true = V.bl (decide (V.str k = V.str "text"))) := by
  unfold fitsK
  rw [if_neg (fun z => nomatch z), blV_dec, strV_dec]
  show (decide (z.length ≤ 30 ∧ ∀ c ∈ tl z, chOk c) && decide (("text" : Str) = k)) = _
  rw [decide_eq_true ⟨h1, h2⟩, Bool.true_and]
  unfold kindB at hk
  rw [Bool.or_eq_true, decide_eq_true_iff, decide_eq_true_iff] at hk
  rcases hk with rfl | rfl <;> decide +kernel
end Lt

set_option autoImplicit false
/-! ## a description that the law owns, changed in place -/
namespace Lt
open PySem L2 TL
open C8 (pss_cut)
theorem put_k (a : Ads) (N : Addr) : putK (descD a) (Sum.inr ("checks" : Str) : Key) (.ref N) = descD { a with k := N } := by
  simp [putK, descD, e_co_ch, e_ch_un, e_ch_rf, Ne.symm e_co_ch, Ne.symm e_ch_un, Ne.symm e_ch_rf]
theorem put_u (a : Ads) (N : Addr) : putK (descD a) (Sum.inr ("uniques" : Str) : Key) (.ref N) = descD { a with u := N } := by
  simp [putK, descD, e_co_un, e_ch_un, e_un_rf, Ne.symm e_co_un, Ne.symm e_ch_un, Ne.symm e_un_rf]
theorem put_r (a : Ads) (N : Addr) : putK (descD a) (Sum.inr ("references" : Str) : Key) (.ref N) = descD { a with r := N } := by
  simp [putK, descD, e_co_rf, e_ch_rf, e_un_rf, Ne.symm e_co_rf, Ne.symm e_ch_rf, Ne.symm e_un_rf]
/-- the list of columns has changed -/
theorem DescAt.setCols {H : Hp} {a : Ads} {x : Tab} {cols : List Col} {xs : List V} (h : DescAt H a x) (nd : (adL a).Nodup) (r : TpL H xs (cols.map colD)) : DescAt (upd H a.c (.lst xs)) a { x with cols := cols } := by
  simp only [adL, List.nodup_cons, List.mem_cons, List.not_mem_nil, or_false, not_or] at nd
  obtain ⟨⟨n1, n2, n3⟩, _⟩ := nd
  obtain ⟨ys, hy, _⟩ := h.co
  have kt : KeepT H (upd H a.c (.lst xs)) := KeepT.upd fun zs z => by rw [hy] at z; cases z
  have hd : a.d ≠ a.c := fun e => by have := h.dk; rw [e, hy] at this; cases this
  obtain ⟨xk, k1, k2⟩ := h.ch
  obtain ⟨xr, r1, r2⟩ := h.rf
  exact ⟨by rw [upd_ne hd]; exact h.dk, ⟨xs, upd_same, r.mono kt⟩, ⟨xk, by rw [upd_ne (Ne.symm n1)]; exact k1, k2.mono kt⟩, by rw [upd_ne (Ne.symm n2)]; exact h.un, ⟨xr, by rw [upd_ne (Ne.symm n3)]; exact r1, r2.mono kt⟩⟩
/-- behind a change: where the description stands now -/
structure Mut1 (H H' : Hp) (a a' : Ads) (y : Tab) : Prop where
  d : a'.d = a.d
  at' : DescAt H' a' y
  fr : ∀ b ∈ adL a', b ∈ adL a ∨ H b = none
  nd : (adL a').Nodup
  se : SameE (a.d :: adL a) H H'
  kt : KeepT H H'
  fe : ∀ b, H' b = none → H b = none
theorem upd_none {H : Hp} {p b : Addr} {o : HO} (h : (upd H p o) b = none) : H b = none := by
  by_cases e : b = p
  · subst e; rw [upd_same] at h; cases h
  · rw [upd_ne e] at h; exact h
theorem Mut1.cols {H H1 : Hp} {a : Ads} {x : Tab} {cols : List Col} {xs : List V} (D : DescAt H a x) (nd : (adL a).Nodup) (e : Same H H1) (r : TpL H1 xs (cols.map colD)) : Mut1 H (upd H1 a.c (.lst xs)) a a { x with cols := cols } := by
  have D1 := D.mono e
  obtain ⟨ys, hy, _⟩ := D1.co
  exact ⟨rfl, D1.setCols nd r, fun b hb => .inl hb, nd, SameE.upd (by simp [adL]) _ (SameE.of e), (KeepT.of e).trans (KeepT.upd fun zs z => by rw [hy] at z; cases z), fun b hb => e.free (upd_none hb)⟩
theorem Mut1.same {H H1 H2 : Hp} {a a' : Ads} {y : Tab} (M : Mut1 H H1 a a' y) (e : Same H1 H2) : Mut1 H H2 a a' y :=
  ⟨M.d, M.at'.mono e, M.fr, M.nd, M.se.trans (SameE.of e), M.kt.trans (KeepT.of e), fun b hb => M.fe b (e.free hb)⟩
/-- a part has been replaced by a new list -/
theorem Mut1.put {H H1 : Hp} {a a1 a2 : Ads} {y y2 : Tab} {n : Str} {N : Addr} (M : Mut1 H H1 a a1 y) (hp : putK (descD a1) (Sum.inr n : Key) (.ref N) = descD a2) (ed : a2.d = a1.d) (hN : H N = none)
    (D : DescAt (upd H1 a1.d (.dK (descD a2))) a2 y2) (sub : ∀ b ∈ adL a2, b ∈ adL a1 ∨ b = N) (nd : (adL a2).Nodup) : Mut1 H (upd H1 a1.d (.dK (putK (descD a1) (Sum.inr n : Key) (.ref N)))) a a2 y2 := by
  rw [hp]
  refine ⟨ed.trans M.d, D, fun b hb => ?_, nd, ?_, ?_, fun b hb => M.fe b (upd_none hb)⟩
  · rcases sub b hb with h | h
    · exact M.fr b h
    · rw [h]; exact .inr hN
  · exact SameE.upd (by rw [M.d]; exact List.mem_cons_self) _ M.se
  · exact M.kt.trans (KeepT.upd fun zs z => by rw [M.at'.dk] at z; cases z)
theorem col_place {cols : List Col} (co : ColsOk [] cols) {n : Str} (hn : n ∈ colNs cols) {c : Col} (h : cols[(colNs cols).idxOf n]? = some c) :
    (pyOfL (cols.map colD))[(colNs cols).idxOf n]? = some (pyOf (colD c)) ∧ PyData.eqv (pyOf (colD c)) (pyOf (colD c)) = true ∧ ∀ (m : Nat) (z : PyData), m < (colNs cols).idxOf n → (pyOfL (cols.map colD))[m]? = some z → PyData.eqv z (pyOf (colD c)) = false := by
  refine ⟨by rw [pyOfL_map, List.getElem?_map, List.getElem?_map, h]; rfl, by rw [col_eqv]; simp, fun m z hm hz => ?_⟩
  rw [pyOfL_map, List.getElem?_map, List.getElem?_map] at hz
  cases e : cols[m]? with
  | none => rw [e] at hz; cases hz
  | some d =>
    rw [e] at hz
    cases hz
    rw [col_eqv]
    have : d.n ≠ c.n := fun w => by
      have a1 : (colNs cols)[m]? = some d.n := by unfold colNs; rw [List.getElem?_map, e]; rfl
      have a2 : (colNs cols)[(colNs cols).idxOf n]? = some d.n := by unfold colNs at *; rw [List.getElem?_map, h, w]; rfl
      have := nd_ix co.nd a1 a2
      omega
    simp [this]
theorem cols_shaped2 {cols : List Col} (co : ColsOk [] cols) : SeqAt.shaped (.list (pyOfL (cols.map colD))) = true := cols_shaped fun c hc => ⟨(co.fr c.n (List.mem_map.mpr ⟨c, hc, rfl⟩)).2, co.kd c hc⟩
theorem col_shaped {cols : List Col} (co : ColsOk [] cols) {c : Col} (hc : c ∈ cols) : SeqAt.shaped (pyOf (colD c)) = true := col_cl (colN_ok co (List.mem_map.mpr ⟨c, hc, rfl⟩)) (co.kd c hc)
theorem put_set {cols : List Col} {n : Str} (h : (colNs cols).idxOf n < cols.length) (d : Col) : putCols cols n [d] = cols.set ((colNs cols).idxOf n) d := by
  unfold putCols
  rw [List.set_eq_take_append_cons_drop, if_pos h, List.append_assoc]
  rfl
theorem idx_lt {cols : List Col} {n : Str} (h : n ∈ colNs cols) : (colNs cols).idxOf n < cols.length := by
  obtain ⟨j, e1, e2, _⟩ := idx_str h
  rw [← e1]
  unfold colNs at e2
  rwa [List.length_map] at e2
theorem erase_less : ∀ {cols : List Col} {n : Str}, (colNs cols).Nodup → n ∈ colNs cols → cols.eraseIdx ((colNs cols).idxOf n) = lessCols cols [n]
  | [], n, _, h => by cases h
  | c :: r, n, nd, h => by
    have nd' : (c.n :: colNs r).Nodup := nd
    rw [List.nodup_cons] at nd'
    have h' : n ∈ c.n :: colNs r := h
    by_cases e : c.n = n
    · have e0 : (colNs (c :: r)).idxOf n = 0 := by show (c.n :: colNs r).idxOf n = 0; rw [e, List.idxOf_cons_self]
      rw [e0]
      show r = lessCols (c :: r) [n]
      unfold lessCols
      rw [List.filter_cons, if_neg (by simp [e])]
      refine (List.filter_eq_self.mpr fun d hd => ?_).symm
      have : d.n ≠ n := fun z => nd'.1 (by rw [e, ← z]; exact List.mem_map.mpr ⟨d, hd, rfl⟩)
      simp [this]
    · have e1 : (colNs (c :: r)).idxOf n = (colNs r).idxOf n + 1 := by
        show (c.n :: colNs r).idxOf n = _
        rw [List.idxOf_cons, beq_eq_false_iff_ne.mpr e]; rfl
      rw [e1, List.eraseIdx_cons_succ]
      have hr : n ∈ colNs r := by
        rcases List.mem_cons.mp h' with z | z
        · exact absurd z.symm e
        · exact z
      rw [erase_less nd'.2 hr]
      unfold lessCols
      rw [List.filter_cons, if_pos (by simp [e])]
theorem flag_not {k : Str} (h : kndOk k) : kindB k = !decide (V.str k = V.str "flag") := by
  rw [strV_dec]
  rcases h with rfl | rfl | rfl <;> decide +kernel
theorem DescAt.relay {H : Hp} {a a2 : Ads} {x y : Tab} (D : DescAt H a x) (co : ColsAt H a2.c y.cols) (ch : ∃ xs, H a2.k = some (.lst xs) ∧ TpL H xs (y.ch.map condD)) (un : H a2.u = some (.lst (y.un.map V.str))) (rf : ∃ xs, H a2.r = some (.lst xs) ∧ TpL H xs (y.rf.map rfD)) (ed : a2.d = a.d) :
    DescAt (upd H a.d (.dK (descD a2))) a2 y := by
  have dk := D.dk
  have kt : KeepT H (upd H a.d (.dK (descD a2))) := KeepT.upd fun ys z => by rw [dk] at z; cases z
  have keepL : ∀ b ys, H b = some (.lst ys) → (upd H a.d (.dK (descD a2))) b = some (.lst ys) := fun b ys z => by
    rw [upd_ne (fun e => by rw [e, dk] at z; cases z)]; exact z
  obtain ⟨xc, c1, c2⟩ := co
  obtain ⟨xk, k1, k2⟩ := ch
  obtain ⟨xr, r1, r2⟩ := rf
  exact ⟨by rw [ed]; exact upd_same, ⟨xc, keepL _ _ c1, c2.mono kt⟩, ⟨xk, keepL _ _ k1, k2.mono kt⟩, keepL _ _ un, ⟨xr, keepL _ _ r1, r2.mono kt⟩⟩
theorem Mut1.refl {H H1 : Hp} {a : Ads} {x : Tab} (D : DescAt H a x) (nd : (adL a).Nodup) (e : Same H H1) : Mut1 H H1 a a x :=
  ⟨rfl, D.mono e, fun b hb => .inl hb, nd, SameE.of e, KeepT.of e, fun b hb => e.free hb⟩
theorem Mut1.newLst {H H1 : Hp} {a a1 : Ads} {y : Tab} (M : Mut1 H H1 a a1 y) {N : Addr} (h : H1 N = none) (o : HO) : Mut1 H (upd H1 N o) a a1 y := M.same (same_new h o)
theorem reo_law {x : Tab} {ns : List Str} (nd : (colNs x.cols).Nodup) (hl : ns.length = x.cols.length) (hh : ns.headD "" = keyN x) : reoB x ns = ((colNs x.cols).filter fun n => !decide (n ∈ ns)).isEmpty := by
  have lo : (colNs x.cols).length = x.cols.length := by unfold colNs; rw [List.length_map]
  rw [Bool.eq_iff_iff, List.isEmpty_iff, List.filter_eq_nil_iff]
  constructor
  · intro h n hn
    have := (reo_all h).2.1 n
    simp [this.mpr hn]
  · intro h
    have h1 : ∀ n ∈ colNs x.cols, n ∈ ns := fun n hn => by simpa using h n hn
    have h2 := sub_back nd h1 (by omega)
    unfold reoB
    rw [Bool.and_eq_true, Bool.and_eq_true, decide_eq_true_iff, decide_eq_true_iff, setEq_iff]
    refine ⟨hl, fun k => ?_, hh⟩
    constructor
    · intro hk
      obtain ⟨n, hn, rfl⟩ := List.mem_map.mp hk
      exact List.mem_map.mpr ⟨n, h2 n hn, rfl⟩
    · intro hk
      obtain ⟨n, hn, rfl⟩ := List.mem_map.mp hk
      exact List.mem_map.mpr ⟨n, h1 n hn, rfl⟩
def spMut (P : CS → Prop) : Sp := fun vs H Q _ => ∃ (a : Ads) (x : Tab) (st : Addr) (l : CS), vs = [.ref a.d, .ref st] ∧ DescAt H a x ∧ TabV x ∧ (adL a).Nodup ∧ Tp H (.ref st) (csD l) ∧ csOk l ∧ P l ∧
  (codeC x l ≠ "" → ∀ H', Same H H' → Q (.str (codeC x l)) H') ∧
  (codeC x l = "" → ∀ a' H', Mut1 H H' a a' (newC x l) → Q (.str "") H')
/-! ### one column split, two columns merged: olds and news -/
inductive SM : CS → List Str → List Str → Str → Str → Str → Prop
  | spl (t c a b z : Str) : SM (.spl t c a b z) [c] [a, b] z a b
  | mrg (t a b n z : Str) : SM (.mrg t a b n z) [a, b] [n] z a b
def takenB (x : Tab) (os nws : List Str) (p q : Str) : Bool := decide (p = q) || nws.any fun n => decide (n ∈ colNs x.cols) && !decide (n ∈ os)
def limB (x : Tab) (nws : List Str) : Bool := decide (nws.length = 2) && decide (8 ≤ x.cols.length)
def codeSM (x : Tab) (os nws : List Str) (z p q : Str) : Str :=
  if freeM x os = "" then (if (textsB x os && decide (z.length = 1)) = true then (if nws.all nameB = true then (if takenB x os nws p q = true then "taken" else if limB x nws = true then "limit" else "") else "name") else "kind") else freeM x os
theorem SM.code {x : Tab} {l : CS} {os nws : List Str} {z p q : Str} (h : SM l os nws z p q) : codeC x l = codeSM x os nws z p q := by
  cases h with
  | spl t c a b z =>
    simp only [codeC, codeSM]
    congr 1
    congr 1
    have e1 : ([p, q].all nameB) = (nameB p && nameB q) := by simp
    rw [e1]
    congr 1
    have e2 : takenB x [c] [p, q] p q = true ↔ (p = q ∨ (p ∈ colNs x.cols ∧ p ≠ c) ∨ (q ∈ colNs x.cols ∧ q ≠ c)) := by
      unfold takenB
      simp
    have e3 : limB x [p, q] = true ↔ 8 ≤ x.cols.length := by
      unfold limB
      simp
    by_cases h2 : (p = q ∨ (p ∈ colNs x.cols ∧ p ≠ c) ∨ (q ∈ colNs x.cols ∧ q ≠ c))
    · rw [if_pos h2, if_pos (e2.mpr h2)]
    · rw [if_neg h2, if_neg fun w => h2 (e2.mp w)]
      by_cases h3 : 8 ≤ x.cols.length
      · rw [if_pos h3, if_pos (e3.mpr h3)]
      · rw [if_neg h3, if_neg fun w => h3 (e3.mp w)]
  | mrg t a b n z =>
    simp only [codeC, codeSM]
    congr 1
    congr 1
    have e1 : ([n].all nameB) = nameB n := by simp
    rw [e1]
    congr 1
    have e2 : takenB x [p, q] [n] p q = true ↔ (p = q ∨ (n ∈ colNs x.cols ∧ n ≠ p ∧ n ≠ q)) := by
      unfold takenB
      simp
    have e3 : ¬ limB x [n] = true := by
      unfold limB
      simp
    by_cases h2 : (p = q ∨ (n ∈ colNs x.cols ∧ n ≠ p ∧ n ≠ q))
    · rw [if_pos h2, if_pos (e2.mpr h2)]
    · rw [if_neg h2, if_neg fun w => h2 (e2.mp w), if_neg e3]
def genCol (os nws : List Str) (nl : Bool) (c : Col) : List Col := if c.n = os.headD "" then nws.map (fun n => ⟨n, "text", nl⟩) else if c.n ∈ os then [] else [c]
def genCols (cols : List Col) (os nws : List Str) (nl : Bool) : List Col := cols.flatMap (genCol os nws nl)
theorem gen_out {os nws : List Str} {nl : Bool} : ∀ {cols : List Col}, (∀ c ∈ cols, c.n ∉ os) → os ≠ [] → genCols cols os nws nl = cols
  | [], _, _ => rfl
  | c :: r, h, k => by
    have h1 := h c List.mem_cons_self
    have h2 : ¬ c.n = os.headD "" := fun e => h1 (by
      cases os with
      | nil => exact absurd rfl k
      | cons a q => rw [e]; exact List.mem_cons_self)
    unfold genCols
    rw [List.flatMap_cons]
    have e : genCol os nws nl c = [c] := by unfold genCol; rw [if_neg h2, if_neg h1]
    rw [e]
    exact congrArg (c :: ·) (gen_out (fun d hd => h d (List.mem_cons_of_mem _ hd)) k)
theorem gen_one {nws : List Str} {nl : Bool} {a : Str} : ∀ {cols : List Col}, (colNs cols).Nodup → a ∈ colNs cols → genCols cols [a] nws nl = putCols cols a (nws.map fun n => ⟨n, "text", nl⟩)
  | [], _, h => by cases h
  | c :: r, nd, h => by
    have nd' : (c.n :: colNs r).Nodup := nd
    rw [List.nodup_cons] at nd'
    have h' : a ∈ c.n :: colNs r := h
    unfold genCols
    rw [List.flatMap_cons]
    by_cases e : c.n = a
    · have e0 : (colNs (c :: r)).idxOf a = 0 := by show (c.n :: colNs r).idxOf a = 0; rw [e, List.idxOf_cons_self]
      have e1 : genCol [a] nws nl c = nws.map fun n => ⟨n, "text", nl⟩ := by unfold genCol; rw [if_pos (show c.n = [a].headD "" from e)]
      have e2 : genCols r [a] nws nl = r := gen_out (fun d hd w => by
        rw [List.mem_singleton] at w
        exact nd'.1 (by rw [e, ← w]; exact List.mem_map.mpr ⟨d, hd, rfl⟩)) (by simp)
      rw [e1]
      unfold putCols
      rw [e0]
      show _ ++ genCols r [a] nws nl = _
      rw [e2]; simp
    · have e1 : (colNs (c :: r)).idxOf a = (colNs r).idxOf a + 1 := by
        show (c.n :: colNs r).idxOf a = _
        rw [List.idxOf_cons, beq_eq_false_iff_ne.mpr e]; rfl
      have hr : a ∈ colNs r := by
        rcases List.mem_cons.mp h' with z | z
        · exact absurd z.symm e
        · exact z
      have e2 : genCol [a] nws nl c = [c] := by
        unfold genCol
        rw [if_neg (show ¬ c.n = [a].headD "" from e), if_neg (by rw [List.mem_singleton]; exact e)]
      rw [e2]
      have ih := gen_one (nws := nws) (nl := nl) nd'.2 hr
      show [c] ++ genCols r [a] nws nl = _
      rw [ih]
      unfold putCols
      rw [e1]
      simp
theorem gen_two {nws : List Str} {nl : Bool} {a b : Str} (nab : a ≠ b) : ∀ cols : List Col, genCols cols [a, b] nws nl = genCols (lessCols cols [b]) [a] nws nl
  | [] => rfl
  | c :: r => by
    have ih := gen_two (nws := nws) (nl := nl) nab r
    unfold genCols at ih ⊢
    rw [List.flatMap_cons, ih]
    by_cases e : c.n = b
    · have e1 : genCol [a, b] nws nl c = [] := by
        unfold genCol
        rw [if_neg (show ¬ c.n = [a, b].headD "" from fun w => nab ((show c.n = a from w).symm.trans e)), if_pos (by rw [e]; simp)]
      have e2 : lessCols (c :: r) [b] = lessCols r [b] := by unfold lessCols; rw [List.filter_cons, if_neg (by simp [e])]
      rw [e1, e2]; rfl
    · have e2 : lessCols (c :: r) [b] = c :: lessCols r [b] := by unfold lessCols; rw [List.filter_cons, if_pos (by simp [e])]
      have e1 : genCol [a, b] nws nl c = genCol [a] nws nl c := by
        unfold genCol
        by_cases e3 : c.n = a
        · rw [if_pos (show c.n = [a, b].headD "" from e3), if_pos (show c.n = [a].headD "" from e3)]
        · rw [if_neg (show ¬ c.n = [a, b].headD "" from e3), if_neg (show ¬ c.n = [a].headD "" from e3), if_neg (by simp [e3, e]), if_neg (by simp [e3])]
      rw [e1, e2, List.flatMap_cons]
theorem less_nd {cols : List Col} (nd : (colNs cols).Nodup) (ns : List Str) : (colNs (lessCols cols ns)).Nodup := nd.sublist (List.Sublist.map _ List.filter_sublist)
theorem SM.new {x : Tab} {l : CS} {os nws : List Str} {z p q : Str} (h : SM l os nws z p q) (nd : (colNs x.cols).Nodup) (hin : ∀ n ∈ os, n ∈ colNs x.cols) (pq : p ≠ q) : newC x l = { x with cols := genCols x.cols os nws (os.all (nullAt x.cols)) } := by
  cases h with
  | spl t c a b z =>
    simp only [newC]
    rw [gen_one nd (hin c List.mem_cons_self)]
    simp
  | mrg t a b n z =>
    simp only [newC]
    rw [gen_two pq, gen_one (less_nd nd _) (less_in (hin p List.mem_cons_self) (by simpa using pq))]
    simp
theorem gen_len {os nws : List Str} {nl : Bool} : ∀ (cols : List Col), nws.length ≤ 2 → (genCols cols os nws nl).length ≤ 2 * cols.length
  | [], _ => Nat.zero_le _
  | c :: r, h => by
    have ih := gen_len (os := os) (nl := nl) r h
    unfold genCols at ih ⊢
    rw [List.flatMap_cons, List.length_append, List.length_cons]
    have : (genCol os nws nl c).length ≤ 2 := by
      unfold genCol
      split
      · rw [List.length_map]; exact h
      · split
        · exact Nat.zero_le _
        · exact Nat.le_succ 1
    omega
theorem take_filtG {α : Type} (l : List α) (P : α → Bool) {i : Nat} {x : α} (h : l[i]? = some x) : (l.take (i + 1)).filter P = (l.take i).filter P ++ (if P x = true then [x] else []) := by
  rw [List.take_add_one, h, Option.toList_some, List.filter_append, List.filter_cons, List.filter_nil]
theorem colAt_k (cols : List Col) (n : Str) : (colAt cols n).k = kindAt cols n := by
  unfold colAt kindAt
  rw [List.getD_eq_getElem?_getD, List.getD_eq_getElem?_getD, List.getElem?_map]
  cases cols[(colNs cols).idxOf n]? <;> rfl
theorem colAt_b (cols : List Col) (n : Str) : (colAt cols n).b = nullAt cols n := by
  unfold colAt nullAt
  rw [List.getD_eq_getElem?_getD, List.getD_eq_getElem?_getD, List.getElem?_map]
  cases cols[(colNs cols).idxOf n]? <;> rfl
theorem colAt_in {cols : List Col} {n : Str} (h : n ∈ colNs cols) : cols[(colNs cols).idxOf n]? = some (colAt cols n) ∧ (colAt cols n).n = n ∧ colAt cols n ∈ cols := by
  obtain ⟨c, h1, h2, _, h3⟩ := idx_get h
  rw [colAt_get h1]
  exact ⟨h1, h2, h3⟩
theorem texts_nil (x : Tab) (os : List Str) : decide (((os.map (colAt x.cols)).filter fun c => !decide (c.k = ("text" : Str))) = []) = textsB x os := by
  unfold textsB
  rw [Bool.eq_iff_iff, decide_eq_true_iff, List.filter_eq_nil_iff, List.all_eq_true]
  constructor
  · intro h n hn
    have := h (colAt x.cols n) (List.mem_map.mpr ⟨n, hn, rfl⟩)
    rw [colAt_k] at this
    simpa using this
  · intro h c hc
    obtain ⟨n, hn, rfl⟩ := List.mem_map.mp hc
    have := h n hn
    rw [colAt_k]
    simpa using this
theorem nulls_nil (x : Tab) (os : List Str) : decide (((os.map (colAt x.cols)).filter fun c => !c.b) = []) = os.all (nullAt x.cols) := by
  rw [Bool.eq_iff_iff, decide_eq_true_iff, List.filter_eq_nil_iff, List.all_eq_true]
  constructor
  · intro h n hn
    have := h (colAt x.cols n) (List.mem_map.mpr ⟨n, hn, rfl⟩)
    rw [colAt_b] at this
    simpa using this
  · intro h c hc
    obtain ⟨n, hn, rfl⟩ := List.mem_map.mp hc
    have := h n hn
    rw [colAt_b]
    simpa using this
theorem empty_all (nws : List Str) (f : Str → Bool) : (nws.filter fun n => !f n).isEmpty = nws.all f := by
  rw [Bool.eq_iff_iff, List.isEmpty_iff, List.filter_eq_nil_iff, List.all_eq_true]
  constructor
  · intro h n hn; simpa using h n hn
  · intro h n hn; simpa using h n hn
theorem empty_any (nws : List Str) (f : Str → Bool) : (nws.filter f).isEmpty = !nws.any f := by
  rw [Bool.eq_iff_iff, List.isEmpty_iff, List.filter_eq_nil_iff, Bool.not_eq_true', Bool.eq_false_iff, ne_eq, List.any_eq_true]
  constructor
  · rintro h ⟨n, hn, e⟩; exact h n hn e
  · intro h n hn e; exact h ⟨n, hn, e⟩
theorem found_any {cols : List Col} (co : ColsOk [] cols) {os : List Str} (hin : ∀ n ∈ os, n ∈ colNs cols) {c : Col} (hc : c ∈ cols) : ((pyOfL ((os.map (colAt cols)).map colD)).any fun z => PyData.eqv z (pyOf (colD c))) = decide (c.n ∈ os) := by
  rw [Bool.eq_iff_iff, decide_eq_true_iff, List.any_eq_true, pyOfL_map]
  constructor
  · rintro ⟨z, hz, e⟩
    obtain ⟨d, hd, rfl⟩ := List.mem_map.mp hz
    obtain ⟨k, hk, rfl⟩ := List.mem_map.mp hd
    obtain ⟨n, hn, rfl⟩ := List.mem_map.mp hk
    rw [col_eqv, Bool.and_eq_true, beq_iff_eq] at e
    rw [← e.1, (colAt_in (hin n hn)).2.1]
    exact hn
  · intro h
    obtain ⟨h1, h2, h3⟩ := colAt_in (hin c.n h)
    have : colAt cols c.n = c := by
      obtain ⟨i, hi, ei⟩ := List.getElem_of_mem hc
      exact one_name co.nd h1 (by rw [List.getElem?_eq_getElem hi, ei]) h2
    exact ⟨_, List.mem_map.mpr ⟨_, List.mem_map.mpr ⟨_, List.mem_map.mpr ⟨_, h, rfl⟩, rfl⟩, rfl⟩, by rw [this, col_eqv]; simp⟩
theorem col_same {cols : List Col} (co : ColsOk [] cols) {n : Str} (hn : n ∈ colNs cols) {c : Col} (hc : c ∈ cols) : PyData.eqv (pyOf (colD c)) (pyOf (colD (colAt cols n))) = decide (c.n = n) := by
  obtain ⟨h1, h2, h3⟩ := colAt_in hn
  obtain ⟨i, hi, ei⟩ := List.getElem_of_mem hc
  rw [col_eqv_name (one_name co.nd (show cols[i]? = some c by rw [List.getElem?_eq_getElem hi, ei]) h1), h2]
theorem gen_take {os nws : List Str} {nl : Bool} {cols : List Col} {i : Nat} {c : Col} (h : cols[i]? = some c) : genCols (cols.take (i + 1)) os nws nl = genCols (cols.take i) os nws nl ++ genCol os nws nl c := by
  unfold genCols
  rw [List.take_add_one, h, Option.toList_some, List.flatMap_append, List.flatMap_cons, List.flatMap_nil, List.append_nil]
end Lt

set_option autoImplicit false
/-! ## a table behind a step on columns is well formed -/
namespace Lt
open PySem L2 TL
open C8 (pss_cut)
theorem own_split {own : List Str} {c : Str} (h : c ∈ own) : own = own.take (own.idxOf c) ++ c :: own.drop (own.idxOf c + 1) := by
  have hl : own.idxOf c < own.length := List.idxOf_lt_length_iff.mpr h
  have e : own[own.idxOf c]'hl = c := List.getElem_idxOf hl
  conv => lhs; rw [← List.take_append_drop (own.idxOf c) own, List.drop_eq_getElem_cons hl, e]
theorem key_name {x : Tab} (h : 1 ≤ x.cols.length) {c : Str} (hc : c ≠ keyN x) : (colNs x.cols).idxOf c ≠ 0 := fun e => by
  have := key_first h
  cases z : colNs x.cols with
  | nil => rw [z] at this; cases this
  | cons a r =>
    rw [z] at this e
    cases this
    rw [List.idxOf_cons] at e
    by_cases w : keyN x = c
    · exact hc w.symm
    · rw [beq_eq_false_iff_ne.mpr w] at e
      cases e
theorem put_ok {cols : List Col} {c : Str} {ds : List Col} (co : ColsOk [] cols) (hc : c ∈ colNs cols) (dn : (colNs ds).Nodup) (dno : ∀ d ∈ ds, nameOk d.n ∧ (d.k = ("int" : Str) ∨ d.k = ("text" : Str))) (dfr : ∀ d ∈ ds, d.n ∈ colNs cols → d.n = c)
    (hd : (colNs cols).idxOf c = 0 → ∃ d r, ds = d :: r ∧ d.b = false) : ColsOk [] (putCols cols c ds) := by
  have hs := own_split hc
  have nd := co.nd
  rw [hs] at nd
  have hnm : colNs (putCols cols c ds) = (colNs cols).take ((colNs cols).idxOf c) ++ colNs ds ++ (colNs cols).drop ((colNs cols).idxOf c + 1) := by
    unfold putCols
    show List.map _ _ = _
    rw [List.map_append, List.map_append, List.map_take, List.map_drop]; rfl
  rw [List.nodup_append] at nd
  obtain ⟨n1, n2, n3⟩ := nd
  rw [List.nodup_cons] at n2
  have mt : ∀ n ∈ (colNs cols).take ((colNs cols).idxOf c), n ∈ colNs cols := fun n hn => List.mem_of_mem_take hn
  have md : ∀ n ∈ (colNs cols).drop ((colNs cols).idxOf c + 1), n ∈ colNs cols := fun n hn => List.mem_of_mem_drop hn
  have ct : c ∉ (colNs cols).take ((colNs cols).idxOf c) := fun z => n3 c z c List.mem_cons_self rfl
  refine ⟨?_, fun n hn => ⟨fun z => (by cases z), ?_⟩, fun d hd' => ?_, fun d hd' => ?_⟩
  · rw [hnm, List.nodup_append, List.nodup_append]
    refine ⟨⟨n1, dn, fun a ha b hb e => ?_⟩, n2.2, fun a ha b hb e => ?_⟩
    · obtain ⟨d, hd1, hd2⟩ := List.mem_map.mp hb
      have hd2' : d.n = b := hd2
      have := dfr d hd1 (by rw [hd2', ← e]; exact mt a ha)
      have e9 : a = c := by rw [← this, hd2', e]
      exact ct (Eq.subst (motive := fun y => y ∈ (colNs cols).take ((colNs cols).idxOf c)) e9 ha)
    · rcases List.mem_append.mp ha with h | h
      · exact n3 a h b (List.mem_cons_of_mem _ hb) e
      · obtain ⟨d, hd1, hd2⟩ := List.mem_map.mp h
        have hd2' : d.n = a := hd2
        have := dfr d hd1 (by rw [hd2', e]; exact md b hb)
        have e9 : b = c := by rw [← this, hd2', e]
        exact n2.1 (Eq.subst (motive := fun y => y ∈ (colNs cols).drop ((colNs cols).idxOf c + 1)) e9 hb)
  · rw [hnm] at hn
    rcases List.mem_append.mp hn with h | h
    · rcases List.mem_append.mp h with h | h
      · exact (co.fr n (mt n h)).2
      · obtain ⟨d, hd1, hd2⟩ := List.mem_map.mp h
        have hd2' : d.n = n := hd2
        rw [← hd2']; exact (dno d hd1).1
    · exact (co.fr n (md n h)).2
  · unfold putCols at hd'
    rcases List.mem_append.mp hd' with h | h
    · rcases List.mem_append.mp h with h | h
      · exact co.kd d (List.mem_of_mem_take h)
      · exact (dno d h).2
    · exact co.kd d (List.mem_of_mem_drop h)
  · unfold putCols at hd'
    by_cases e : (colNs cols).idxOf c = 0
    · obtain ⟨d0, r, rfl, hb⟩ := hd e
      rw [e] at hd'
      cases hd'
      exact hb
    · refine co.hd d ?_
      have hl : 0 < cols.length := by have := idx_lt hc; omega
      rw [List.append_assoc, List.getElem?_append_left (by rw [List.length_take]; omega), List.getElem?_take_of_lt (by omega)] at hd'
      exact hd'
theorem put_length {cols ds : List Col} {c : Str} (hc : c ∈ colNs cols) : (putCols cols c ds).length + 1 = cols.length + ds.length := by
  have := idx_lt hc
  unfold putCols
  rw [List.length_append, List.length_append, List.length_take, List.length_drop]
  omega
theorem less_ok {cols : List Col} {ns : List Str} (co : ColsOk [] cols) (h : ∀ c, cols[0]? = some c → c.n ∉ ns) : ColsOk [] (lessCols cols ns) := by
  refine ⟨less_nd co.nd ns, fun n hn => ?_, fun c hc => co.kd c (List.mem_filter.mp hc).1, fun c hc => ?_⟩
  · obtain ⟨c, h1, h2⟩ := List.mem_map.mp hn
    exact co.fr n (List.mem_map.mpr ⟨c, (List.mem_filter.mp h1).1, h2⟩)
  · cases cols with
    | nil => cases hc
    | cons d r =>
      have hd := h d rfl
      have : lessCols (d :: r) ns = d :: lessCols r ns := by unfold lessCols; rw [List.filter_cons, if_pos (by simpa using hd)]
      rw [this] at hc
      cases hc
      exact co.hd _ rfl
theorem less_first {x : Tab} (h : 1 ≤ x.cols.length) {ns : List Str} (k : keyN x ∉ ns) : (∀ c, x.cols[0]? = some c → c.n ∉ ns) ∧ 1 ≤ (lessCols x.cols ns).length ∧ (lessCols x.cols ns).length ≤ x.cols.length := by
  obtain ⟨c, h1, h2, _⟩ := key_at h
  refine ⟨fun d hd => by rw [h1] at hd; cases hd; rw [h2]; exact k, ?_, List.length_filter_le _ _⟩
  have : c ∈ lessCols x.cols ns := List.mem_filter.mpr ⟨List.mem_of_getElem? h1, by rw [h2]; simpa using k⟩
  exact List.length_pos_of_mem this
theorem free_key {x : Tab} {ns : List Str} (h : freeM x ns = "") : keyN x ∉ ns := fun k => by
  have hin := free_in h
  unfold freeM at h
  rw [if_pos hin, if_pos k] at h
  exact absurd h (by decide +kernel)
theorem kind_col {cols : List Col} (co : ColsOk [] cols) {c : Str} (hc : c ∈ colNs cols) : kindAt cols c = ("int" : Str) ∨ kindAt cols c = ("text" : Str) := kindAt_kind co hc
theorem null_key {x : Tab} (v : TabV x) {c : Str} (hc : c ∈ colNs x.cols) (h : (colNs x.cols).idxOf c = 0) : nullAt x.cols c = false := by
  obtain ⟨h1, _, _⟩ := colAt_in hc
  rw [← col_null h1]
  rw [h] at h1
  exact v.co.hd _ h1
theorem newM_ok {x : Tab} {n : Str} (h : newM x n = "") : nameOk n ∧ n ∉ colNs x.cols := by
  unfold newM at h
  obtain ⟨h1, h2⟩ := if_str h (by decide +kernel)
  obtain ⟨h3, _⟩ := if_strN h2 (by decide +kernel)
  exact ⟨nameB_iff.mp h1, h3⟩
theorem kindB_or {k : Str} (h : kindB k = true) : k = ("int" : Str) ∨ k = ("text" : Str) := by
  unfold kindB at h
  simpa using h
theorem TabV.cols {x : Tab} (v : TabV x) {cols : List Col} (co : ColsOk [] cols) (l0 : 1 ≤ cols.length) (l8 : cols.length ≤ 8) : TabV { x with cols := cols } := ⟨v.nm, co, l0, l8, v.c4, v.cc, v.u4, v.un, v.r4, v.rf⟩
theorem renX_ok {c n u : Str} (h : PyData.strOk u = true) (k : PyData.strOk n = true) : PyData.strOk (renX c n u) = true := by
  unfold renX
  split
  · exact k
  · exact h
theorem newC_ok {x : Tab} {l : CS} (v : TabV x) (lo : csOk l) (h : codeC x l = "") : TabV (newC x l) := by
  have l0 := v.l0
  have l8 := v.l8
  cases l with
  | ren t c n =>
    simp only [codeC] at h
    obtain ⟨hc, h⟩ := if_str h (by decide +kernel)
    obtain ⟨n1, n2⟩ := newM_ok h
    have hl := put_length (ds := [⟨n, kindAt x.cols c, nullAt x.cols c⟩]) hc
    have co := put_ok (ds := [⟨n, kindAt x.cols c, nullAt x.cols c⟩]) v.co hc (by simp [colNs]) (fun d hd => by rw [List.mem_singleton.mp hd]; exact ⟨n1, kind_col v.co hc⟩) (fun d hd hm => by rw [List.mem_singleton.mp hd] at hm; exact absurd hm n2) (fun e => ⟨_, _, rfl, null_key v hc e⟩)
    rw [List.length_cons, List.length_nil] at hl
    have nk := n1.str
    exact ⟨v.nm, co, by show 1 ≤ (putCols x.cols c _).length; omega, by show (putCols x.cols c _).length ≤ 8; omega, by show (x.ch.map _).length ≤ 4; rw [List.length_map]; exact v.c4, fun k hk => by
      obtain ⟨k0, hk0, rfl⟩ := List.mem_map.mp hk
      obtain ⟨m1, m2, m3⟩ := v.cc k0 hk0
      refine ⟨by unfold renM; rw [List.length_map]; exact m1, fun al hal => ?_, fun al hal cl hcl => ?_⟩
      · obtain ⟨al0, h0, rfl⟩ := List.mem_map.mp hal
        rw [List.length_map]; exact m2 al0 h0
      · obtain ⟨al0, h0, rfl⟩ := List.mem_map.mp hal
        obtain ⟨cl0, h1, rfl⟩ := List.mem_map.mp hcl
        obtain ⟨o1, o2, o3⟩ := m3 al0 h0 cl0 h1
        unfold renCl
        split
        · exact ⟨nk, o2, o3⟩
        · exact ⟨o1, o2, o3⟩, by show (x.un.map _).length ≤ 4; rw [List.length_map]; exact v.u4, fun u hu => by
      obtain ⟨u0, h0, rfl⟩ := List.mem_map.mp hu
      exact renX_ok (v.un u0 h0) nk, by show (x.rf.map _).length ≤ 4; rw [List.length_map]; exact v.r4, fun r hr => by
      obtain ⟨r0, h0, rfl⟩ := List.mem_map.mp hr
      exact ⟨renX_ok (v.rf r0 h0).1 nk, (v.rf r0 h0).2⟩⟩
  | reo t ns =>
    simp only [codeC] at h
    obtain ⟨hb, _⟩ := if_str h (by decide +kernel)
    obtain ⟨rl, rm, rh⟩ := reo_all hb
    have lo' : (colNs x.cols).length = x.cols.length := by unfold colNs; rw [List.length_map]
    have nsd : ns.Nodup := nodup_of_len v.co.nd (fun n hn => (rm n).mpr hn) (by omega)
    have enm : colNs (ns.map (colAt x.cols)) = ns := by
      unfold colNs
      rw [List.map_map]
      conv => rhs; rw [← List.map_id ns]
      exact List.map_congr_left fun n hn => (colAt_in ((rm n).mp hn)).2.1
    refine v.cols ⟨by rw [enm]; exact nsd, fun n hn => ?_, fun c hc => ?_, fun c hc => ?_⟩ (by rw [List.length_map]; omega) (by rw [List.length_map]; omega)
    · rw [enm] at hn
      exact v.co.fr n ((rm n).mp hn)
    · obtain ⟨n, hn, rfl⟩ := List.mem_map.mp hc
      exact v.co.kd _ (colAt_in ((rm n).mp hn)).2.2
    · cases ns with
      | nil => cases hc
      | cons n r =>
        have rh' : n = keyN x := rh
        cases hc
        obtain ⟨k1, h1, h2, _⟩ := key_at l0
        have hm := (rm n).mp List.mem_cons_self
        have e := (colAt_in hm)
        have : colAt x.cols n = k1 := one_name v.co.nd e.1 h1 (by rw [e.2.1, h2, rh'])
        rw [this]
        exact v.co.hd _ h1
  | add t n k b w =>
    simp only [codeC] at h
    obtain ⟨hn, h⟩ := new_else h
    obtain ⟨n1, n2⟩ := newM_ok hn
    obtain ⟨h8, h⟩ := if_strN h (by decide +kernel)
    obtain ⟨hk, _⟩ := if_str h (by decide +kernel)
    rw [Bool.and_eq_true] at hk
    have enm : colNs (x.cols ++ [⟨n, k, b⟩]) = colNs x.cols ++ [n] := by unfold colNs; rw [List.map_append]; rfl
    refine v.cols ⟨?_, fun m hm => ?_, fun c hc => ?_, fun c hc => ?_⟩ (by rw [List.length_append]; omega) (by rw [List.length_append, List.length_cons, List.length_nil]; omega)
    · rw [enm, List.nodup_append]
      exact ⟨v.co.nd, by simp, fun a ha b hb e => by rw [List.mem_singleton] at hb; exact n2 (by rw [← hb, ← e]; exact ha)⟩
    · rw [enm] at hm
      rcases List.mem_append.mp hm with hm | hm
      · exact v.co.fr m hm
      · rw [List.mem_singleton] at hm; rw [hm]; exact ⟨fun z => (by cases z), n1⟩
    · rcases List.mem_append.mp hc with hc | hc
      · exact v.co.kd c hc
      · rw [List.mem_singleton.mp hc]; exact kindB_or hk.1
    · rw [List.getElem?_append_left (by omega)] at hc
      exact v.co.hd c hc
  | drp t c w =>
    simp only [codeC] at h
    obtain ⟨hf, _⟩ := free_else h
    obtain ⟨f1, f2, f3⟩ := less_first l0 (free_key hf)
    exact v.cols (less_ok v.co f1) f2 (by omega)
  | cnv t c k b =>
    simp only [codeC] at h
    obtain ⟨hf, h⟩ := free_else h
    obtain ⟨hk, _⟩ := if_str h (by decide +kernel)
    have hc := free_in hf c List.mem_cons_self
    have nk : c ≠ keyN x := fun e => free_key hf (by rw [← e]; exact List.mem_cons_self)
    have hl := put_length (ds := [⟨c, k, b⟩]) hc
    rw [List.length_cons, List.length_nil] at hl
    exact v.cols (put_ok v.co hc (by simp [colNs]) (fun d hd => by rw [List.mem_singleton.mp hd]; exact ⟨(v.co.fr c hc).2, kindB_or hk⟩) (fun d hd hm => by rw [List.mem_singleton.mp hd]) (fun e => absurd e (key_name l0 nk))) (by omega) (by omega)
  | spl t c a b z =>
    simp only [codeC] at h
    obtain ⟨hf, h⟩ := free_else h
    obtain ⟨_, h⟩ := if_str h (by decide +kernel)
    obtain ⟨hn, h⟩ := if_str h (by decide +kernel)
    obtain ⟨ht, h⟩ := if_strN h (by decide +kernel)
    obtain ⟨h8, _⟩ := if_strN h (by decide +kernel)
    rw [Bool.and_eq_true] at hn
    have hc := free_in hf c List.mem_cons_self
    have nk : c ≠ keyN x := fun e => free_key hf (by rw [← e]; exact List.mem_cons_self)
    have hl := put_length (ds := [⟨a, "text", nullAt x.cols c⟩, ⟨b, "text", nullAt x.cols c⟩]) hc
    rw [List.length_cons, List.length_cons, List.length_nil] at hl
    have nab : a ≠ b := fun e => ht (.inl e)
    refine v.cols (put_ok v.co hc (by simp [colNs, nab]) (fun d hd => ?_) (fun d hd hm => ?_) (fun e => absurd e (key_name l0 nk))) (by omega) (by omega)
    · simp only [List.mem_cons, List.not_mem_nil, or_false] at hd
      rcases hd with rfl | rfl
      · exact ⟨nameB_iff.mp hn.1, .inr rfl⟩
      · exact ⟨nameB_iff.mp hn.2, .inr rfl⟩
    · simp only [List.mem_cons, List.not_mem_nil, or_false] at hd
      rcases hd with rfl | rfl
      · exact Classical.byContradiction fun z => ht (.inr (.inl ⟨hm, z⟩))
      · exact Classical.byContradiction fun z => ht (.inr (.inr ⟨hm, z⟩))
  | mrg t a b n z =>
    simp only [codeC] at h
    obtain ⟨hf, h⟩ := free_else h
    obtain ⟨_, h⟩ := if_str h (by decide +kernel)
    obtain ⟨hn, h⟩ := if_str h (by decide +kernel)
    obtain ⟨ht, _⟩ := if_strN h (by decide +kernel)
    have fk := free_key hf
    have nab : a ≠ b := fun e => ht (.inl e)
    have ha := free_in hf a List.mem_cons_self
    have kb : keyN x ∉ [b] := fun e => fk (by rw [List.mem_singleton.mp e]; simp)
    obtain ⟨f1, f2, f3⟩ := less_first l0 kb
    have lk := less_ok v.co f1
    have ha' := less_in ha (show a ∉ [b] by simpa using nab)
    have hl := put_length (ds := [⟨n, "text", nullAt x.cols a && nullAt x.cols b⟩]) ha'
    rw [List.length_cons, List.length_nil] at hl
    have hidx : (colNs (lessCols x.cols [b])).idxOf a ≠ 0 := fun e => by
      obtain ⟨k1, h1, h2, _⟩ := key_at l0
      have hk : (lessCols x.cols [b])[0]? = some k1 := by
        cases hx : x.cols with
        | nil => rw [hx] at h1; cases h1
        | cons d r =>
          rw [hx] at h1
          cases h1
          unfold lessCols
          rw [List.filter_cons, if_pos (by rw [h2]; simpa using kb)]; rfl
      have e1 := (colAt_in ha')
      rw [e, hk] at e1
      have e2 := Option.some.inj e1.1
      have : a = keyN x := by rw [← e1.2.1, ← e2, h2]
      exact fk (by rw [← this]; simp)
    refine v.cols (put_ok lk ha' (by simp [colNs]) (fun d hd => ?_) (fun d hd hm => ?_) (fun e => absurd e hidx)) (by omega) (by omega)
    · rw [List.mem_singleton.mp hd]; exact ⟨nameB_iff.mp hn, .inr rfl⟩
    · rw [List.mem_singleton.mp hd] at hm ⊢
      refine Classical.byContradiction fun z => ht (.inr ?_)
      obtain ⟨c, h1, h2⟩ := List.mem_map.mp hm
      have h2' : c.n = n := h2
      obtain ⟨h3, h4⟩ := List.mem_filter.mp h1
      refine ⟨List.mem_map.mpr ⟨c, h3, h2⟩, z, fun w => ?_⟩
      rw [h2', w] at h4
      simp at h4
theorem newC_same (x : Tab) (l : CS) : newC x l = { newC x l with n := x.n } := by cases l <;> rfl
theorem Own.mut {H1 H2 : Hp} {S : Addr} {s : Sch} {p : Ads × Tab} {a' : Ads} {y : Tab} (O : Own H1 S s) (hp : p ∈ s) (M : Mut1 H1 H2 p.1 a' y) (vy : TabV { y with n := p.2.n }) : Own H2 S (putS s p.2.n a' y) := by
  have hin : p.2.n ∈ schN s := List.mem_map.mpr ⟨p, hp, rfl⟩
  obtain ⟨nS, nd⟩ := List.nodup_cons.mp O.dn
  have nl := List.pairwise_flatMap.mp O.ln
  have D := O.v.ds p hp
  have one : ∀ q ∈ s, q.2.n ≠ p.2.n → q.1.d ≠ p.1.d ∧ ∀ b ∈ adL q.1, b ∉ adL p.1 := fun q hq hn => by
    obtain ⟨i1, h1, e1⟩ := List.getElem_of_mem hq
    obtain ⟨i2, h2, e2⟩ := List.getElem_of_mem hp
    have ne : i1 ≠ i2 := fun e => by subst e; rw [e1] at e2; exact hn (by rw [e2])
    refine ⟨fun z => ne ?_, fun b hb hm => ?_⟩
    · have b1 : (s.map fun p => p.1.d)[i1]? = some p.1.d := by rw [List.getElem?_map, List.getElem?_eq_getElem h1, e1]; exact congrArg some z
      have b2 : (s.map fun p => p.1.d)[i2]? = some p.1.d := by rw [List.getElem?_map, List.getElem?_eq_getElem h2, e2]; rfl
      exact nd_ix nd b1 b2
    · have := flat_one O.ln hq hp hb hm
      exact hn (by rw [this])
  have dk : ∀ q ∈ s, q.1.d ∉ adL p.1 := fun q hq hm => by
    obtain ⟨zs, hz⟩ := D.isL _ hm
    have := (O.v.ds q hq).dk
    rw [hz] at this; cases this
  have ld : ∀ q ∈ s, ∀ b ∈ adL q.1, b ≠ p.1.d := fun q hq b hb z => by
    obtain ⟨zs, hz⟩ := (O.v.ds q hq).isL b hb
    rw [z, D.dk] at hz; cases hz
  have Sx : S ∉ p.1.d :: adL p.1 := fun hm => by
    rcases List.mem_cons.mp hm with h | h
    · exact nS (List.mem_map.mpr ⟨p, hp, h.symm⟩)
    · obtain ⟨zs, hz⟩ := D.isL _ h
      rw [O.v.sk] at hz; cases hz
  have eK : schK (putS s p.2.n a' y) = schK s := by
    unfold schK putS
    rw [List.map_map]
    refine List.map_congr_left fun q hq => ?_
    show ((Sum.inr (if q.2.n = p.2.n then (a', ({ y with n := p.2.n } : Tab)) else q).2.n : Key), V.ref (if q.2.n = p.2.n then (a', ({ y with n := p.2.n } : Tab)) else q).1.d) = (Sum.inr q.2.n, V.ref q.1.d)
    by_cases e : q.2.n = p.2.n
    · have := sch_one O.v.nm hq hp e
      subst this
      rw [if_pos rfl]
      show (_, V.ref a'.d) = _
      rw [M.d]
    · rw [if_neg e]
  have eN : schN (putS s p.2.n a' y) = schN s := by
    unfold schN putS
    rw [List.map_map]
    refine List.map_congr_left fun q hq => ?_
    show (if q.2.n = p.2.n then (a', ({ y with n := p.2.n } : Tab)) else q).2.n = q.2.n
    split
    · rename_i h; exact h.symm
    · rfl
  have eD : (putS s p.2.n a' y).map (fun q => q.1.d) = s.map fun q => q.1.d := by
    unfold putS
    rw [List.map_map]
    refine List.map_congr_left fun q hq => ?_
    show (if q.2.n = p.2.n then (a', ({ y with n := p.2.n } : Tab)) else q).1.d = q.1.d
    by_cases e : q.2.n = p.2.n
    · have := sch_one O.v.nm hq hp e
      subst this
      rw [if_pos rfl]; exact M.d
    · rw [if_neg e]
  refine ⟨⟨by rw [eK]; exact M.se _ _ O.v.sk Sx, fun q hq => ?_, by rw [eN]; exact O.v.nm, fun q hq => ?_, by unfold putS; rw [List.length_map]; exact O.v.l6⟩, by rw [eD]; exact O.dn, ?_⟩
  · rcases putS_mem hq with rfl | ⟨h1, h2⟩
    · exact M.at'.named _
    · obtain ⟨o1, o2⟩ := one q h1 h2
      refine (O.v.ds q h1).frame M.kt (fun o z => M.se _ _ z fun hm => ?_) (fun b hb o z => M.se _ _ z fun hm => ?_)
      · rcases List.mem_cons.mp hm with h | h
        · exact o1 h
        · exact dk q h1 h
      · rcases List.mem_cons.mp hm with h | h
        · exact ld q h1 b hb h
        · exact o2 b hb h
  · rcases putS_mem hq with rfl | ⟨h1, _⟩
    · exact vy
    · exact O.v.ok q h1
  · have fr : ∀ q ∈ s, q.2.n ≠ p.2.n → ∀ b ∈ adL q.1, b ∉ adL a' := fun q hq hn b hb hm => by
      rcases M.fr b hm with h | h
      · exact (one q hq hn).2 b hb h
      · obtain ⟨zs, hz⟩ := (O.v.ds q hq).isL b hb
        rw [h] at hz; cases hz
    refine List.pairwise_flatMap.mpr ⟨fun q hq => ?_, putS_pair O.v.nm nl.2 (fun q hq hn b hb c hc z => fr q hq hn b hb (by rw [z]; exact hc)) (fun q hq hn b hb c hc z => fr q hq hn c hc (by rw [← z]; exact hb))⟩
    rcases putS_mem hq with rfl | ⟨h1, _⟩
    · exact M.nd
    · exact nl.1 q h1
def spExpectedC : Sp := fun vs H Q _ => ∃ (S : Addr) (s : Sch) (st : Addr) (l : CS), vs = [.ref S, .ref st] ∧ ScV H S s ∧ Tp H (.ref st) (csD l) ∧ csOk l ∧
  (codeCS (tbs s) l ≠ "" → ∀ p H', H' p = some (.tup [.non, .str (codeCS (tbs s) l)]) → Same H H' → Q (.ref p) H') ∧
  (codeCS (tbs s) l = "" → ∀ p S' s' H', H' p = some (.tup [.ref S', .str ""]) → Own H' S' s' → tbs s' = targCS (tbs s) l → (∀ a ∈ S' :: schD s', H a = none) → Same H H' → Q (.ref p) H')
theorem putS_D {s : Sch} {t : Str} {a' : Ads} {y : Tab} {b : Addr} (h : b ∈ schD (putS s t a' y)) : b = a'.d ∨ b ∈ adL a' ∨ b ∈ schD s := by
  obtain ⟨ad, h1, h2⟩ := List.mem_flatMap.mp h
  rcases putS_mem h1 with rfl | ⟨h3, _⟩
  · rcases List.mem_cons.mp h2 with h | h
    · exact .inl h
    · exact .inr (.inl h)
  · exact .inr (.inr (List.mem_flatMap.mpr ⟨ad, h3, h2⟩))
/-! ### drawing -/
theorem nameOk.tx {z : Str} (h : nameOk z) : txOk z := ⟨h.str, by have := h.1; omega⟩
theorem pick_mem {H : Hp} {v : V} {o : Str} {xs : List Str} (h : v = .str o ∨ ∃ d ∈ xs.map (fun x => D.s (.str x)), Tp H v d) (ho : txOk o) (hx : ∀ x ∈ xs, txOk x) : ∃ n, v = .str n ∧ txOk n := by
  rcases h with rfl | ⟨d, hd, ht⟩
  · exact ⟨o, rfl, ho⟩
  · obtain ⟨x, hx', rfl⟩ := List.mem_map.mp hd
    exact ⟨x, ht.s1, hx x hx'⟩
theorem nowhere_tx : txOk "nowhere" := ⟨by decide +kernel, by decide +kernel⟩
def spFreshN : Sp := fun vs H Q _ => ∃ (t c L : Addr) (cs : List Int) (us : List Str), vs = [.ref t, .ref L] ∧ TapeAt H t c cs ∧ H L = some (.lst (us.map V.str)) ∧ us.length ≤ 20 ∧ (∀ n ∈ us, nameOk n) ∧ ∀ n H', txOk n → TapeAt H' t c cs → SameX t H H' → Q (.str n) H'
def kinds7 : List Str := ["rename_column", "reorder", "add_column", "drop_column", "convert", "split_column", "merge_columns"]
def spColStep : Sp := fun vs H Q _ => ∃ (t c C : Addr) (cs : List Int) (k tn : Str) (cols : List Col), vs = [.ref t, .str k, .str tn, .ref C] ∧ TapeAt H t c cs ∧ k ∈ kinds7 ∧ txOk tn ∧ ColsAt H C cols ∧ ColsOkD cols ∧
  ∀ st l H', Tp H' (.ref st) (csD l) → csOk l → TapeAt H' t c cs → SameX t H H' → Q (.ref st) H'
def spStepC : Sp := fun vs H Q _ => ∃ (t c S K : Addr) (cs : List Int) (s : Sch), vs = [.ref t, .ref S, .ref K] ∧ TapeAt H t c cs ∧ SchAt H S s t c ∧ (∀ p ∈ s, TabV p.2) ∧ s.length ≤ 6 ∧ H K = some (.lst (kinds7.map V.str)) ∧
  ∀ st l H', Tp H' (.ref st) (csD l) → csOk l → TapeAt H' t c cs → SameX t H H' → Q (.ref st) H'
end Lt

set_option autoImplicit false
/-! ## a table made wide, a step drawn -/
namespace Lt
open PySem L2 TL
open C8 (pss_cut)
theorem SchAt.setC {H H' : Hp} {S : Addr} {s : Sch} {t c : Addr} {cs : List Int} {i : Nat} {a : Ads} {tab : Tab} {cols : List Col} {xs : List V} (h : SchAt H S s t c) (T : TapeAt H t c cs) (hi : s[i]? = some (a, tab)) (hx : H' a.c = some (.lst xs)) (r : TpL H' xs (cols.map colD)) (e : SameE [t, a.c] H H') : SchAt H' S (s.set i (a, { tab with cols := cols })) t c := by
  obtain ⟨h1, h2, h3, h4⟩ := h.tS
  have hm : (a, tab) ∈ s := List.mem_of_getElem? hi
  have hil : i < s.length := (List.getElem?_eq_some_iff.mp hi).1
  have D0 : DescAt H a tab := h.ds _ hm
  obtain ⟨xc, hxc, _⟩ := id D0.co
  have ht : ∃ kvs, H t = some (.dK kvs) := by
    obtain ⟨_, _, _, _, z, _⟩ := T.dk
    exact ⟨_, z⟩
  have kt : KeepT H H' := fun b ys hb => e _ _ hb fun hc => by
    simp only [List.mem_cons, List.not_mem_nil, or_false] at hc
    rcases hc with z | z
    · obtain ⟨kvs, h5⟩ := ht; rw [z, h5] at hb; cases hb
    · rw [z, hxc] at hb; cases hb
  have dl : ∀ {x : Addr} {kvs : List (Key × V)}, H x = some (.dK kvs) → x ≠ t → x ∉ [t, a.c] := by
    intro x kvs hx hxt hc
    simp only [List.mem_cons, List.not_mem_nil, or_false] at hc
    rcases hc with z | z
    · exact hxt z
    · rw [z, hxc] at hx; cases hx
  have ndA : (adL a).Nodup := (List.pairwise_flatMap.mp (List.nodup_cons.mp h.ln).2).1 _ hm
  have lk : ∀ b ∈ adL a, b ≠ a.c → ∀ o, H b = some o → H' b = some o := fun b hb hn o z => e _ _ z fun hc => by
    simp only [List.mem_cons, List.not_mem_nil, or_false] at hc
    rcases hc with w | w
    · obtain ⟨ys, g⟩ := D0.isL b hb
      obtain ⟨kvs, h5⟩ := ht
      rw [w, h5] at g; cases g
    · exact hn w
  have nds : a.k ≠ a.c ∧ a.u ≠ a.c ∧ a.r ≠ a.c := by
    simp only [adL, List.nodup_cons, List.mem_cons, List.not_mem_nil, or_false, not_or] at ndA
    exact ⟨fun z => ndA.1.1 z.symm, fun z => ndA.1.2.1 z.symm, fun z => ndA.1.2.2 z.symm⟩
  have hd : DescAt H' a { tab with cols := cols } := by
    obtain ⟨xk, k1, k2⟩ := D0.ch
    obtain ⟨xr, r1, r2⟩ := D0.rf
    exact ⟨e _ _ D0.dk (dl D0.dk (h2 _ hm)), ⟨xs, hx, r⟩, ⟨xk, lk _ (by simp [adL]) nds.1 _ k1, k2.mono kt⟩, lk _ (by simp [adL]) nds.2.1 _ D0.un, ⟨xr, lk _ (by simp [adL]) nds.2.2 _ r1, r2.mono kt⟩⟩
  have ek : schK (s.set i (a, { tab with cols := cols })) = schK s := by
    unfold schK
    rw [List.map_set]
    refine List.ext_getElem? fun j => ?_
    rw [List.getElem?_set]
    split
    · rename_i hj; subst hj
      rw [List.getElem?_map, hi, if_pos (by rw [List.length_map]; exact hil)]
      rfl
    · rfl
  have en : schN (s.set i (a, { tab with cols := cols })) = schN s := by
    unfold schN
    rw [List.map_set]
    refine List.ext_getElem? fun j => ?_
    rw [List.getElem?_set]
    split
    · rename_i hj; subst hj
      rw [List.getElem?_map, hi, if_pos (by rw [List.length_map]; exact hil)]
      rfl
    · rfl
  have ea : (s.set i (a, { tab with cols := cols })).map (fun p => p.1) = s.map (fun p => p.1) := by
    rw [List.map_set]
    refine List.ext_getElem? fun j => ?_
    rw [List.getElem?_set]
    split
    · rename_i hj; subst hj
      rw [List.getElem?_map, hi, if_pos (by rw [List.length_map]; exact hil)]
      rfl
    · rfl
  have ed : (s.set i (a, { tab with cols := cols })).map (fun p => p.1.d) = s.map (fun p => p.1.d) := by
    have := congrArg (List.map fun x : Ads => x.d) ea
    rw [List.map_map, List.map_map] at this
    exact this
  have el : schL (s.set i (a, { tab with cols := cols })) = schL s := by
    have := congrArg (List.flatMap fun x : Ads => adL x) ea
    rw [List.flatMap_map, List.flatMap_map] at this
    exact this
  refine ⟨?_, fun p hp => ?_, by rw [en]; exact h.nm, by rw [ed]; exact h.dn, by rw [el]; exact h.ln⟩
  · rw [ek]; exact e _ _ h.sk (dl h.sk h1.symm)
  · obtain ⟨j, hj, ej⟩ := List.getElem_of_mem hp
    rw [List.getElem_set] at ej
    split at ej
    · rw [← ej]; exact hd
    · rename_i hne
      rw [List.length_set] at hj
      have hps : p ∈ s := by rw [← ej]; exact List.getElem_mem hj
      have D := h.ds p hps
      refine D.frame kt (fun o z => e _ _ z (by rw [D.dk] at z; cases z; exact dl D.dk (h2 p hps))) (fun b hb o z => e _ _ z fun hc => ?_)
      have hb2 : b ∈ adL a ∨ b = t := by
        simp only [List.mem_cons, List.not_mem_nil, or_false] at hc
        rcases hc with z | z
        · exact .inr z
        · exact .inl (by rw [z]; simp [adL])
      rcases hb2 with hb2 | hb2
      · have eq := flat_one (List.nodup_cons.mp h.ln).2 hps hm hb hb2
        have hi' : s[i] = (a, tab) := by rw [List.getElem?_eq_getElem hil] at hi; exact Option.some.inj hi
        have b1 : (schN s)[j]? = some tab.n := by unfold schN; rw [List.getElem?_map, List.getElem?_eq_getElem hj, ej, eq]; rfl
        have b2 : (schN s)[i]? = some tab.n := by unfold schN; rw [List.getElem?_map, hi]; rfl
        exact hne (nd_ix h.nm b2 b1)
      · obtain ⟨xs, g⟩ := D.isL b hb
        obtain ⟨kvs, h5⟩ := ht
        rw [hb2, h5] at g
        cases g
/-- _law_widen -/
def spWiden : Sp := fun vs H Q _ => ∃ (t c S : Addr) (cs : List Int) (s : Sch), vs = [.ref t, .ref S] ∧ TapeAt H t c cs ∧ SchAt H S s t c ∧ (∀ p ∈ s, TabV p.2) ∧ 1 ≤ s.length ∧ s.length ≤ 6 ∧
  ∀ s' H', SchAt H' S s' t c → (∀ p ∈ s', TabV p.2) → s'.length ≤ 6 → TapeAt H' t c cs → Q .non H'
theorem kinds7_in {k : Str} (h : k ∈ kinds7) : inV (.str k) (([("rename_column" : Str), ("reorder" : Str), ("add_column" : Str), ("drop_column" : Str), ("convert" : Str), ("split_column" : Str), ("merge_columns" : Str)] : List Str).map V.str) = true := by
  simp only [kinds7, List.mem_cons, List.not_mem_nil, or_false] at h
  rcases h with rfl | rfl | rfl | rfl | rfl | rfl | rfl <;> decide +kernel
end Lt

set_option autoImplicit false
/-! ## what steps on tables have in common -/
namespace Lt
open PySem L2 TL
open C8 (pss_cut)
theorem pi_eitherT {X : Cx} {tg e : Expr} {w1 w2 : TI} (h1 : PI X tg e w1) (h2 : PI X tg e w2) : PI X tg e (fun σ H R => w1 σ H R ∨ w2 σ H R) :=
  ⟨fun pins s σ H R I h => by rcases h with h | h; exact h1.run pins s σ H R I h; exact h2.run pins s σ H R I h⟩
/-- texts in a list or a tuple -/
def NsAt (H : Hp) (L : Addr) (ns : List Str) : Prop := H L = some (.lst (ns.map V.str)) ∨ H L = some (.tup (ns.map V.str))
theorem NsAt.mono {H H' : Hp} {L : Addr} {ns : List Str} (h : NsAt H L ns) (e : Same H H') : NsAt H' L ns := h.elim (fun z => .inl (e _ _ z)) (fun z => .inr (e _ _ z))
theorem NsAt.sq {K : PySem.W.Frag} {H : Hp} {L : Addr} {ns : List Str} (h : NsAt H L ns) : SqL K H L (ns.map V.str) ∨ SqT K H L (ns.map V.str) := h.elim (fun z => .inl (SqL.of z)) (fun z => .inr (SqT.of z))
def newTM (ts : List Tab) (n : Str) : Str := if nameB n = true then (if n ∈ ts.map (·.n) then "taken" else if 6 ≤ ts.length then "limit" else "") else "name"
def limsB (x : Tab) : Bool := !x.ch.isEmpty || (!x.un.isEmpty || !x.rf.isEmpty)
theorem pyL_nil (ds : List D) : PyData.eqv (.list (pyOfL ds)) (.list []) = ds.isEmpty := by
  rw [PyData.eqv]
  cases ds <;> simp [pyOfL, PyData.eqvAll]
theorem map_empty {α β : Type} (f : α → β) (l : List α) : (l.map f).isEmpty = l.isEmpty := by cases l <;> rfl
theorem inr_nd (ns : List Str) : (ns.map (Sum.inr : Str → Key)).Nodup ↔ ns.Nodup := by
  unfold List.Nodup
  rw [List.pairwise_map]
  exact ⟨fun h => h.imp fun hn e => hn (congrArg _ e), fun h => h.imp fun hn e => hn (Sum.inr.inj e)⟩
def vanM (ts : List Tab) (x : Tab) : Str := if limsB x = true then "used" else if refdM ts x.n = true then "referenced" else ""
def joinCols (x y : Tab) : List Col := x.cols ++ y.cols.drop 1
def joinB (x y : Tab) : Bool := decide (x.n ≠ y.n) && (decide ((joinCols x y).length ≤ 8) && decide ((colNs (joinCols x y)).Nodup))
def pickCols (cols : List Col) (ns : List Str) : List Col := cols.filter fun c => decide (c.n ∈ ns)
def dropTab (ts : List Tab) (t : Str) : List Tab := ts.filter fun x => !decide (x.n = t)
def dropS (s : Sch) (t : Str) : Sch := s.filter fun p => !decide (p.2.n = t)
theorem tbs_names (s : Sch) : (tbs s).map (·.n) = schN s := by unfold tbs schN; rw [List.map_map]; rfl
theorem tbs_length (s : Sch) : (tbs s).length = s.length := by unfold tbs; rw [List.length_map]
theorem dropS_T (s : Sch) (t : Str) : (dropS s t).map (·.2) = dropTab (s.map (·.2)) t := by
  unfold dropS dropTab
  rw [List.filter_map]; rfl
theorem dropS_K (s : Sch) (t : Str) : dropK (schK s) (Sum.inr t : Key) = schK (dropS s t) := by
  unfold dropK schK dropS
  rw [List.filter_map]
  refine congrArg (List.map _) (List.filter_congr fun p _ => ?_)
  by_cases e : p.2.n = t <;> simp [e]
theorem NewSch.drop {H H1 : Hp} {S : Addr} {s : Sch} {ts : List Tab} (N : NewSch H H1 S s ts) (t : Str) : NewSch H (upd H1 S (.dK (dropK (schK s) (Sum.inr t : Key)))) S (dropS s t) (dropTab ts t) := by
  have kt : KeepT H1 (upd H1 S (.dK (dropK (schK s) (Sum.inr t : Key)))) := KeepT.upd fun xs z => by rw [N.sk] at z; cases z
  have sub : ∀ p ∈ dropS s t, p ∈ s := fun p hp => (List.mem_filter.mp hp).1
  refine ⟨by rw [upd_same, dropS_K], fun p hp => ?_, by rw [dropS_T, N.ts], N.fS, fun p hp => N.fd p (sub p hp), ?_, ?_, same_upd N.fS _ N.se⟩
  · have D := N.ds p (sub p hp)
    have fd := N.fd p (sub p hp)
    refine D.frame kt (fun o z => by rw [upd_ne fd.2.1]; exact z) (fun b hb o z => by
      rw [upd_ne (fun w => ?_)]
      · exact z
      · obtain ⟨zs, hz⟩ := D.isL b hb
        rw [w, N.sk] at hz; cases hz)
  · exact N.dn.sublist (List.Sublist.map _ List.filter_sublist)
  · have nl := List.pairwise_flatMap.mp N.ln
    exact List.pairwise_flatMap.mpr ⟨fun p hp => nl.1 p (sub p hp), nl.2.sublist List.filter_sublist⟩
theorem NewSch.addT {H H1 H2 : Hp} {S : Addr} {s : Sch} {ts : List Tab} {t : Str} {a : Ads} {x : Tab} (N : NewSch H H1 S s ts) (ht : t ∉ schN s) (e : Same H1 H2) (D : DescAt H2 a x) (f : H1 a.d = none) (fl : ∀ b ∈ adL a, H1 b = none) (nd : (adL a).Nodup) :
    NewSch H (upd H2 S (.dK (putK (schK s) (Sum.inr t : Key) (.ref a.d)))) S (s ++ [(a, { x with n := t })]) (ts ++ [{ x with n := t }]) := by
  have hS2 := e _ _ N.sk
  have kt : KeepT H2 (upd H2 S (.dK (putK (schK s) (Sum.inr t : Key) (.ref a.d)))) := KeepT.upd fun xs z => by rw [hS2] at z; cases z
  have dS : a.d ≠ S := fun z => by rw [z, N.sk] at f; cases f
  have lS : ∀ b ∈ adL a, b ≠ S := fun b hb z => by have := fl b hb; rw [z, N.sk] at this; cases this
  have fr : ∀ {y}, y ∈ s → y.1.d ≠ a.d ∧ ∀ b ∈ adL y.1, b ∉ adL a := fun {y} hy => by
    have D1 := N.ds y hy
    refine ⟨fun z => (by have := D1.dk; rw [z, f] at this; cases this), fun b hb hm => ?_⟩
    obtain ⟨zs, hz⟩ := D1.isL b hb
    rw [fl b hm] at hz; cases hz
  refine ⟨?_, fun y hy => ?_, ?_, N.fS, fun y hy => ?_, ?_, ?_, ?_⟩
  · rw [upd_same]
    have := schK_new (s := s) (a := a) (tab := { x with n := t }) ht
    exact congrArg (fun k => some (HO.dK k)) this
  · rcases List.mem_append.mp hy with hy | hy
    · have D1 := (N.ds y hy).mono e
      exact D1.frame kt (fun o z => by rw [upd_ne (N.fd y hy).2.1]; exact z) (fun b hb o z => by
        rw [upd_ne (fun w => ?_)]
        · exact z
        · obtain ⟨zs, hz⟩ := D1.isL b hb
          rw [w, hS2] at hz; cases hz)
    · rw [List.mem_singleton.mp hy]
      exact (D.frame kt (fun o z => by rw [upd_ne dS]; exact z) (fun b hb o z => by rw [upd_ne (lS b hb)]; exact z)).named t
  · rw [List.map_append, N.ts]; rfl
  · rcases List.mem_append.mp hy with hy | hy
    · exact N.fd y hy
    · rw [List.mem_singleton.mp hy]
      exact ⟨N.se.free f, dS, fun b hb => N.se.free (fl b hb)⟩
  · rw [List.map_append, List.nodup_append]
    refine ⟨N.dn, by simp, fun b hb c hc z => ?_⟩
    obtain ⟨y, hy, rfl⟩ := List.mem_map.mp hb
    have : c = a.d := by simpa using hc
    exact (fr hy).1 (z.trans this)
  · unfold schL
    rw [List.flatMap_append, List.nodup_append]
    refine ⟨N.ln, by simpa using nd, fun b hb c hc z => ?_⟩
    obtain ⟨y, hy, hb'⟩ := List.mem_flatMap.mp hb
    have hc' : c ∈ adL a := by simpa using hc
    exact (fr hy).2 b hb' (z ▸ hc')
  · exact same_upd N.fS _ (N.se.trans e)
/-- a table put into a list of tables: in its place, or behind -/
def putTab (ts : List Tab) (t : Str) (y : Tab) : List Tab := if t ∈ ts.map (·.n) then setTab ts t y else ts ++ [{ y with n := t }]
def spPutTable : Sp := fun vs H Q _ => ∃ (S : Addr) (s : Sch) (t : Str) (a : Ads) (x : Tab), vs = [.ref S, .str t, .ref a.d] ∧ H S = some (.dK (schK s)) ∧ (∀ p ∈ s, DescAt H p.1 p.2) ∧ (schN s).Nodup ∧ s.length ≤ 20 ∧ DescAt H a x ∧ ∀ S' s' H', NewSch H H' S' s' (putTab (tbs s) t x) → Q (.ref S') H'
def spOtherE : Sp := fun vs H Q _ => ∃ (a : Ads) (x : Tab) (ns : List Str) (L : Addr), vs = [.ref a.d, .ref L] ∧ DescAt H a x ∧ x.cols.length ≤ 40 ∧ NsAt H L ns ∧ ns.length ≤ 20 ∧ ∀ N H', H N = none → ColsAt H' N (lessCols x.cols ns) → Same H H' → Q (.ref N) H'
theorem pick_take {cols : List Col} {ns : List Str} (i : Nat) {c : Col} (h : cols[i]? = some c) : pickCols (cols.take (i + 1)) ns = pickCols (cols.take i) ns ++ (if decide (c.n ∈ ns) = true then [c] else []) := by
  unfold pickCols
  rw [List.take_add_one, h, Option.toList_some, List.filter_append, List.filter_cons, List.filter_nil]
def spNewT : Sp := fun vs H Q _ => ∃ (S : Addr) (s : Sch) (n : Str), vs = [.ref S, .str n] ∧ ScV H S s ∧ n.length ≤ 1000 ∧ ∀ H', Same H H' → Q (.str (newTM (tbs s) n)) H'
def spHasLim : Sp := fun vs H Q _ => ∃ (a : Ads) (x : Tab), vs = [.ref a.d] ∧ DescAt H a x ∧ TabV x ∧ ∀ H', Same H H' → Q (.bl (limsB x)) H'
def spWithout : Sp := fun vs H Q _ => ∃ (S : Addr) (s : Sch) (t : Str), vs = [.ref S, .str t] ∧ ScV H S s ∧ t ∈ schN s ∧ ∀ S' s' H', NewSch H H' S' s' (dropTab (tbs s) t) → Q (.ref S') H'
def spPickCols : Sp := fun vs H Q _ => ∃ (a : Ads) (x : Tab) (ns : List Str) (L : Addr), vs = [.ref a.d, .ref L] ∧ DescAt H a x ∧ x.cols.length ≤ 40 ∧ (H L = some (.lst (ns.map V.str)) ∨ H L = some (.tup (ns.map V.str))) ∧ ns.length ≤ 20 ∧ ∀ N H', H N = none → ColsAt H' N (pickCols x.cols ns) → Same H H' → Q (.ref N) H'
def spJoined : Sp := fun vs H Q _ => ∃ (S : Addr) (s : Sch) (p r : Ads × Tab), vs = [.ref S, .str p.2.n, .str r.2.n] ∧ ScV H S s ∧ p ∈ s ∧ r ∈ s ∧ ∀ N H', H N = none → ColsAt H' N (joinCols p.2 r.2) → Same H H' → Q (.ref N) H'
def spCanJoin : Sp := fun vs H Q _ => ∃ (S : Addr) (s : Sch) (p r : Ads × Tab), vs = [.ref S, .str p.2.n, .str r.2.n] ∧ ScV H S s ∧ p ∈ s ∧ r ∈ s ∧ ∀ H', Same H H' → Q (.bl (joinB p.2 r.2)) H'
def spVan : Sp := fun vs H Q _ => ∃ (S : Addr) (s : Sch) (p : Ads × Tab), vs = [.ref S, .str p.2.n] ∧ ScV H S s ∧ p ∈ s ∧ ∀ H', Same H H' → Q (.str (vanM (tbs s) p.2)) H'
def spBareD : Sp := fun vs H Q _ => ∃ (L : Addr) (xs : List V) (cols : List Col), vs = [.ref L] ∧ (H L = some (.lst xs) ∨ H L = some (.tup xs)) ∧ TpL H xs (cols.map colD) ∧ ∀ (a : Ads) (H' : Hp), (∀ n, DescAt H' a ⟨n, cols, [], [], []⟩) → Same H H' → H a.d = none → (∀ b ∈ adL a, H b = none) → (adL a).Nodup → Q (.ref a.d) H'
def spLacksE : Sp := fun vs H Q _ => ∃ (S : Addr) (s : Sch) (t : Str) (ns : List Str) (L : Addr), vs = [.ref S, .str t, .ref L] ∧ ScV H S s ∧ NsAt H L ns ∧ ns.length ≤ 20 ∧ ∀ H', Same H H' → Q (.bl (match tabOf (tbs s) t with | none => true | some x => !(ns.all fun n => decide (n ∈ colNs x.cols)))) H'
def spUsesOneE : Sp := fun vs H Q _ => ∃ (a : Ads) (x : Tab) (ns : List Str) (L : Addr), vs = [.ref a.d, .ref L] ∧ DescAt H a x ∧ TabSm x ∧ NsAt H L ns ∧ ns.length ≤ 20 ∧ ∀ H', Same H H' → Q (.bl (ns.any (usedM x))) H'
def spFreeE : Sp := fun vs H Q _ => ∃ (S : Addr) (s : Sch) (t : Str) (ns : List Str) (L : Addr), vs = [.ref S, .str t, .ref L] ∧ ScV H S s ∧ NsAt H L ns ∧ ns.length ≤ 20 ∧ ∀ H', Same H H' → Q (.str (byT (tbs s) t fun x => freeM x ns)) H'
def spTwice : Sp := fun vs H Q _ => ∃ (a : Addr) (ks : List Key), vs = [.ref a] ∧ (H a = some (.lst (ks.map kV)) ∨ H a = some (.tup (ks.map kV))) ∧ ks.length ≤ 1000 ∧ ∀ H', Same H H' → Q (.bl (!decide ks.Nodup)) H'
end Lt

set_option autoImplicit false
/-! ## steps on tables as data -/
namespace Lt
open PySem L2 TL
open C8 (pss_cut)
inductive TT where
  | rnt (t n : Str)
  | crt (t : Str) (cols : List Col)
  | dpt (t : Str)
  | dcm (t o : Str) (ns : List Str)
  | rcm (t o : Str)
  | prt (t o : Str) (c : Cond)
  | uni (t o : Str) (c : Cond)
  | mov (t o : Str) (c : Cond)
  | ext (t g : Str) (ns : List Str) (o : Str)
  | inl (t g o : Str)
def ttK : TT → Str
  | .rnt .. => "rename_table"
  | .crt .. => "create_table"
  | .dpt .. => "drop_table"
  | .dcm .. => "decompose"
  | .rcm .. => "recompose"
  | .prt .. => "partition"
  | .uni .. => "union"
  | .mov .. => "move"
  | .ext .. => "extract"
  | .inl .. => "inline"
def ttT : TT → Str
  | .rnt t _ | .crt t _ | .dpt t | .dcm t _ _ | .rcm t _ | .prt t _ _ | .uni t _ _ | .mov t _ _ | .ext t _ _ _ | .inl t _ _ => t
def nsD (ns : List Str) : D := .t (ns.map fun x => D.s (.str x))
def ttR : TT → List D
  | .rnt _ n => [.s (.str n)]
  | .crt _ cols => [.t (cols.map colD)]
  | .dpt _ => []
  | .dcm _ o ns => [.s (.str o), nsD ns]
  | .rcm _ o => [.s (.str o)]
  | .prt _ o c | .uni _ o c | .mov _ o c => [.s (.str o), condD c]
  | .ext _ g ns o => [.s (.str g), nsD ns, .s (.str o)]
  | .inl _ g o => [.s (.str g), .s (.str o)]
def ttD (x : TT) : D := .t (.s (.str (ttK x)) :: .s (.str (ttT x)) :: ttR x)
/-- a condition that may stand in a step -/
def cnOk (c : Cond) : Prop := CondOk c ∧ c.length ≤ 4 ∧ ∀ a ∈ c, a.length ≤ 4
def nsOk (ns : List Str) : Prop := ns.length ≤ 12 ∧ ∀ n ∈ ns, txOk n
def ttOk : TT → Prop
  | .rnt t n => txOk t ∧ txOk n
  | .crt t cols => txOk t ∧ 1 ≤ cols.length ∧ cols.length ≤ 6 ∧ (∀ c ∈ cols, nameOk c.n ∧ (c.k = ("int" : Str) ∨ c.k = ("text" : Str))) ∧ ∀ c, cols[0]? = some c → c.b = false
  | .dpt t => txOk t
  | .dcm t o ns => txOk t ∧ txOk o ∧ nsOk ns
  | .rcm t o => txOk t ∧ txOk o
  | .prt t o c | .uni t o c | .mov t o c => txOk t ∧ txOk o ∧ cnOk c
  | .ext t g ns o => txOk t ∧ txOk g ∧ nsOk ns ∧ txOk o
  | .inl t g o => txOk t ∧ txOk g ∧ txOk o
theorem tt_at {H : Hp} {st : Addr} {l : TT} (h : Tp H (.ref st) (ttD l)) : ∃ ys, H st = some (.tup (.str (ttK l) :: .str (ttT l) :: ys)) ∧ TpL H ys (ttR l) := by
  unfold ttD at h
  cases h with
  | t h r =>
    cases r with
    | cons h1 r =>
      cases r with
      | cons h2 r =>
        cases h1; cases h2
        exact ⟨_, h, r⟩
theorem cnOk.flat {c : Cond} (h : cnOk c) : c.flatten.length ≤ 1000 := by
  obtain ⟨_, h1, h2⟩ := h
  have : ∀ (l : Cond), (∀ a ∈ l, a.length ≤ 4) → l.flatten.length ≤ 4 * l.length := fun l => by
    induction l with
    | nil => intro _; simp
    | cons a r ih =>
      intro hl
      have e1 := hl a List.mem_cons_self
      have e2 := ih fun b hb => hl b (List.mem_cons_of_mem _ hb)
      rw [List.flatten_cons, List.length_append, List.length_cons]
      omega
  have := this c h2
  omega
theorem colsA_eqv : ∀ xs ys : List Col, PyData.eqvAll (pyOfL (xs.map colD)) (pyOfL (ys.map colD)) = true ↔ xs = ys
  | [], [] => by simp [pyOfL, PyData.eqvAll]
  | [], _ :: _ => by simp [pyOfL, PyData.eqvAll]
  | _ :: _, [] => by simp [pyOfL, PyData.eqvAll]
  | c :: xs, d :: ys => by
    have ih := colsA_eqv xs ys
    obtain ⟨cn, ck, cb⟩ := c
    obtain ⟨dn, dk, db⟩ := d
    simp only [List.map_cons, pyOfL, PyData.eqvAll, Bool.and_eq_true, ih, col_eqv, beq_iff_eq, List.cons.injEq, Col.mk.injEq]
theorem cols_eqv (xs ys : List Col) : PyData.eqv (.list (pyOfL (xs.map colD))) (.list (pyOfL (ys.map colD))) = true ↔ xs = ys := by
  rw [PyData.eqv]
  exact colsA_eqv xs ys
/-- the same description, the name aside -/
def alikeT (x y : Tab) : Prop := x.cols = y.cols ∧ x.ch = y.ch ∧ x.un = y.un ∧ x.rf = y.rf
def byTwo (ts : List Tab) (t o : Str) (f : Tab → Tab → Str) : Str := match tabOf ts t, tabOf ts o with
  | some x, some y => f x y
  | _, _ => "missing"
open Classical in
noncomputable def codeTT (ts : List Tab) : TT → Str
  | .rnt t n => byT ts t fun _ => if nameB n = true then (if n ∈ ts.map (·.n) then "taken" else "") else "name"
  | .crt t cols => if newTM ts t = "" then (if (colNs cols).Nodup then "" else "columns") else newTM ts t
  | .dpt t => byT ts t fun x => if refdM ts x.n = true then "referenced" else ""
  | .dcm t o ns => byT ts t fun x => if freeM x ns = "" then (if ns = [] ∨ ¬ ns.Nodup then "columns" else newTM ts o) else freeM x ns
  | .rcm t o => byTwo ts t o fun x y => if joinB x y = true ∧ keyK x = keyK y then vanM ts y else "columns"
  | .prt t o c => byT ts t fun x => if fitsM x.cols c = true then (if refdM ts x.n = true then "referenced" else newTM ts o) else "condition"
  | .uni t o c => byTwo ts t o fun x y => if t = o ∨ ¬ alikeT x y then "columns" else if fitsM x.cols c = true then (if refdM ts x.n = true ∨ refdM ts y.n = true then "referenced" else "") else "condition"
  | .mov t o c => byTwo ts t o fun x y => if t = o ∨ x.cols ≠ y.cols then "columns" else if fitsM x.cols c = true then (if refdM ts x.n = true then "referenced" else "") else "condition"
  | .ext t g ns o => byT ts t fun x => if ∀ n ∈ g :: ns, n ∈ colNs x.cols then (if keyN x ∈ g :: ns then "key" else if ns = [] ∨ ¬ (g :: ns).Nodup then "columns" else if ns.any (usedM x) = true then "used" else newTM ts o) else "missing"
  | .inl t g o => byTwo ts t o fun x y => if g ∈ colNs x.cols then (if g = keyN x then "key" else if joinB x y = true ∧ kindAt x.cols g = keyK y then vanM ts y else "columns") else "missing"
def renT (t n : Str) (x : Tab) : Tab := { x with n := if x.n = t then n else x.n, rf := x.rf.map fun r => (r.1, if r.2 = t then n else r.2) }
def tabD (ts : List Tab) (t : Str) : Tab := (tabOf ts t).getD ⟨"", [], [], [], []⟩
def targTT (ts : List Tab) : TT → List Tab
  | .rnt t n => ts.map (renT t n)
  | .crt t cols => putTab ts t ⟨t, cols, [], [], []⟩
  | .dpt t => dropTab ts t
  | .dcm t o ns => putTab (putTab ts t { tabD ts t with cols := lessCols (tabD ts t).cols ns }) o ⟨o, (tabD ts t).cols.take 1 ++ pickCols (tabD ts t).cols ns, [], [], []⟩
  | .rcm t o => putTab (dropTab ts o) t { tabD ts t with cols := joinCols (tabD ts t) (tabD ts o) }
  | .prt t o _ => putTab ts o (tabD ts t)
  | .uni _ o _ => dropTab ts o
  | .mov _ _ _ => ts
  | .ext t g ns o => putTab (putTab ts t { tabD ts t with cols := lessCols (tabD ts t).cols ns }) o ⟨o, ⟨g, kindAt (tabD ts t).cols g, false⟩ :: pickCols (tabD ts t).cols ns, [], [], []⟩
  | .inl t _ o => putTab (dropTab ts o) t { tabD ts t with cols := joinCols (tabD ts t) (tabD ts o) }
def spCodeT (P : TT → Prop) : Sp := fun vs H Q _ => ∃ (S : Addr) (s : Sch) (st : Addr) (l : TT), vs = [.ref S, .ref st] ∧ ScV H S s ∧ Tp H (.ref st) (ttD l) ∧ ttOk l ∧ P l ∧ ∀ H', Same H H' → Q (.str (codeTT (tbs s) l)) H'
def spTargT (P : TT → Prop) : Sp := fun vs H Q _ => ∃ (S : Addr) (s : Sch) (st : Addr) (l : TT), vs = [.ref S, .ref st] ∧ ScV H S s ∧ Tp H (.ref st) (ttD l) ∧ ttOk l ∧ P l ∧ codeTT (tbs s) l = "" ∧ ∀ S' s' H', NewSch H H' S' s' (targTT (tbs s) l) → Q (.ref S') H'
end Lt

set_option autoImplicit false
/-! ## two dicts compared, their values plain data -/
namespace Lt
open PySem PySem.Spec PyProof.Rows L2 TL
inductive HitsV (K : PySem.W.Frag) (H : Hp) (kb : List (Key × V)) : List (Key × V) → Bool → Prop
  | nil : HitsV K H kb [] true
  | miss {k : Key} {v : V} {r : List (Key × V)} : valV kb k = none → HitsV K H kb ((k, v) :: r) false
  | hit {k : Key} {v y : V} {r : List (Key × V)} {b : Bool} (d e : PyData) : valV kb k = some y → Dp K H v d → Dp K H y e → SeqAt.shaped d = true → SeqAt.shaped e = true → HitsV K H kb r b → HitsV K H kb ((k, v) :: r) (PyData.eqv d e && b)
theorem HitsV.keq {X : L2.Cx} {pins : List (Addr × Obj)} {σ : L2.St} {H : Hp} {s : Shared} (I : L2.Inv X pins σ H s) {A : Around} (hu : A.units + 64 < cLine) {kb : List (Key × V)} {vb : List (Key × Value)} (rb : KV kb vb)
    {ka : List (Key × V)} {r : Bool} (h : HitsV X.K H kb ka r) : ∀ {va : List (Key × Value)}, KV ka va → PySem.W.KeqHits A s vb va r := by
  induction h with
  | nil =>
    intro va ra
    unfold KV at ra
    cases ra
    exact .nil
  | @miss k v rr h =>
    intro va ra
    unfold KV at ra
    cases ra with
    | @cons p q ps qs e r =>
      obtain ⟨q1, q2⟩ := q
      have e1 : k = q1 := e.1
      subst e1
      have z := rb.val k
      rw [h] at z
      exact .miss (RelO.none_of z)
  | @hit k v y rr b d e hy hd he sd se hr ih =>
    intro va ra
    unfold KV at ra
    cases ra with
    | @cons p q ps qs eq r =>
      obtain ⟨q1, q2⟩ := q
      have e1 : k = q1 := eq.1
      have e2 : RelV v q2 := eq.2
      subst e1
      have z := rb.val k
      rw [hy] at z
      obtain ⟨u, hu1, hu2⟩ := RelO.some_of z
      obtain ⟨as, r1⟩ := Dp.reads I d v q2 hd e2
      obtain ⟨bs, r2⟩ := Dp.reads I e y u he hu2
      exact .hit hu1 (SeqAt.eqAt_reads d e A s q2 u as bs r1 r2 (SeqAt.canLay_of_shaped sd) (SeqAt.canLay_of_shaped se) (SeqAt.room_of_shaped sd hu)) (ih r)
def rNeDK (K : PySem.W.Frag) : R2 := fun x y H Q => ∃ (a b : Addr) (ka kb : List (Key × V)) (r : Bool), x = .ref a ∧ y = .ref b ∧ H a = some (.dK ka) ∧ H b = some (.dK kb) ∧ (ka.length = kb.length → HitsV K H kb ka r) ∧ Q (.bl (!(ka.length == kb.length && r))) H
theorem op_neDK {X : Cx} (hu : X.A.units + 66 < cLine) : OpR X (compareOp .NotEq) (rNeDK X.K) := by
  intro pins s σ H x y v u Q I rx ry h
  obtain ⟨a, b, ka, kb, r, rfl, rfl, ha, hb, hits, q⟩ := h
  cases rx
  cases ry
  obtain ⟨la, na, va, ra, da⟩ := dk_of I.hok ha
  obtain ⟨lb, nb, vb, rb, db⟩ := dk_of I.hok hb
  refine PySem.W.keq_ne na nb da db (by omega) (fun hl => HitsV.keq I (by show X.A.units + 1 + 64 < cLine; omega) rb (hits (by rw [ra.length, rb.length]; exact hl)) ra) ⟨.bl _, H, I, rfl, ?_⟩
  rw [← ra.length, ← rb.length]
  exact q
theorem strsA_eqv : ∀ xs ys : List Str, PyData.eqvAll (xs.map PyData.str) (ys.map PyData.str) = true ↔ xs = ys
  | [], [] => by simp [PyData.eqvAll]
  | [], _ :: _ => by simp [PyData.eqvAll]
  | _ :: _, [] => by simp [PyData.eqvAll]
  | x :: xs, y :: ys => by
    have ih := strsA_eqv xs ys
    simp only [List.map_cons, PyData.eqvAll, PyData.eqv, Bool.and_eq_true, ih, beq_iff_eq, List.cons.injEq]
theorem lstD_eqv {α : Type} {f : α → D} (hf : ∀ a b, f a = f b → a = b) {xs ys : List α} (h1 : ∀ y ∈ xs, (f y).nb = true) (h2 : ∀ y ∈ ys, (f y).nb = true) : PyData.eqv (.list (pyOfL (xs.map f))) (.list (pyOfL (ys.map f))) = true ↔ xs = ys := by
  rw [PyData.eqv]
  have n1 : nbL (xs.map f) = true := nbL_all.mpr fun d hd => by obtain ⟨y, hy, rfl⟩ := List.mem_map.mp hd; exact h1 y hy
  have n2 : nbL (ys.map f) = true := nbL_all.mpr fun d hd => by obtain ⟨y, hy, rfl⟩ := List.mem_map.mp hd; exact h2 y hy
  constructor
  · intro h
    exact mapD_inj hf (eqvL_inj _ _ n1 n2 h)
  · rintro rfl
    exact eqvL_refl _ n1
theorem rf_nb (p : Str × Str) : (rfD p).nb = true := rfl
def alikeB (x y : Tab) : Bool := PyData.eqv (.list (pyOfL (x.cols.map colD))) (.list (pyOfL (y.cols.map colD))) && (PyData.eqv (.list (pyOfL (x.ch.map condD))) (.list (pyOfL (y.ch.map condD))) && (PyData.eqv (.list (x.un.map PyData.str)) (.list (y.un.map PyData.str)) && (PyData.eqv (.list (pyOfL (x.rf.map rfD))) (.list (pyOfL (y.rf.map rfD))) && true)))
theorem alikeB_iff {x y : Tab} (vx : TabV x) (vy : TabV y) : alikeB x y = true ↔ alikeT x y := by
  unfold alikeB alikeT
  rw [Bool.and_true, Bool.and_eq_true, Bool.and_eq_true, Bool.and_eq_true, cols_eqv, lstD_eqv (fun _ _ => condD_inj) (fun c hc => cond_nb (vx.cc c hc).2.2) (fun c hc => cond_nb (vy.cc c hc).2.2), lstD_eqv (fun _ _ => rfD_inj) (fun c _ => rf_nb c) (fun c _ => rf_nb c)]
  rw [show PyData.eqv (.list (x.un.map PyData.str)) (.list (y.un.map PyData.str)) = PyData.eqvAll (x.un.map PyData.str) (y.un.map PyData.str) from by rw [PyData.eqv], strsA_eqv]
theorem desc_hits {K : PySem.W.Frag} {H : Hp} {a b : Ads} {x y : Tab} (D : DescAt H a x) (E : DescAt H b y) (vx : TabV x) (vy : TabV y) : HitsV K H (descD b) (descD a) (alikeB x y) := by
  obtain ⟨xc, c1, c2⟩ := D.co
  obtain ⟨yc, d1, d2⟩ := E.co
  obtain ⟨xk, k1, k2⟩ := D.ch
  obtain ⟨yk, l1, l2⟩ := E.ch
  obtain ⟨xr, r1, r2⟩ := D.rf
  obtain ⟨yr, s1, s2⟩ := E.rf
  have o1 := ptD_ok vx .c
  have o2 := ptD_ok vy .c
  have o3 := ptD_ok vx .r
  have o4 := ptD_ok vy .r
  unfold alikeB
  exact .hit _ _ (dd_c b) (.lst (SqL.of c1) c2.py) (.lst (SqL.of d1) d2.py) (cols_shaped2 vx.co) (cols_shaped2 vy.co)
    (.hit _ _ (dd_k b) (.lst (SqL.of k1) k2.py) (.lst (SqL.of l1) l2.py) (shapedL_of o1.1 (Nat.le_trans o1.2 (by decide))) (shapedL_of o2.1 (Nat.le_trans o2.2 (by decide)))
    (.hit _ _ (dd_u b) (.lst (SqL.of D.un) (strs_dp _)) (.lst (SqL.of E.un) (strs_dp _)) (strs_shaped vx.un) (strs_shaped vy.un)
    (.hit _ _ (dd_r b) (.lst (SqL.of r1) r2.py) (.lst (SqL.of s1) s2.py) (shapedL_of o3.1 (Nat.le_trans o3.2 (by decide))) (shapedL_of o4.1 (Nat.le_trans o4.2 (by decide))) .nil)))
theorem room66 {k : Nat} {A : Around} (r : L2.Room k A) : A.units + 66 < cLine := by have := r.un; omega
theorem putTab_names (ts : List Tab) (t : Str) (y : Tab) : (putTab ts t y).map (·.n) = if t ∈ ts.map (·.n) then ts.map (·.n) else ts.map (·.n) ++ [t] := by
  unfold putTab
  split
  · unfold setTab
    rw [List.map_map]
    refine List.map_congr_left fun x _ => ?_
    show (if x.n = t then ({ y with n := t } : Tab) else x).n = x.n
    split
    · rename_i h; exact h.symm
    · rfl
  · rw [List.map_append]; rfl
theorem putTab_nd {ts : List Tab} {t : Str} {y : Tab} (h : (ts.map (·.n)).Nodup) : ((putTab ts t y).map (·.n)).Nodup := by
  rw [putTab_names]
  split
  · exact h
  · rename_i hn
    refine List.nodup_append.mpr ⟨h, by simp, fun a ha b hb e => hn ?_⟩
    have e2 : b = t := by simpa using hb
    rw [← e2, ← e]; exact ha
theorem putTab_len (ts : List Tab) (t : Str) (y : Tab) : (putTab ts t y).length ≤ ts.length + 1 := by
  unfold putTab
  split
  · unfold setTab; rw [List.length_map]; omega
  · rw [List.length_append]; show ts.length + 1 ≤ ts.length + 1; omega
theorem schN_tbs {s : Sch} {ts : List Tab} (h : tbs s = ts) : schN s = ts.map (·.n) := by rw [← h, tbs_names]
theorem len_tbs {s : Sch} {ts : List Tab} (h : tbs s = ts) : s.length = ts.length := by rw [← h, tbs_length]
theorem NewSch.same {H H1 H2 : Hp} {S : Addr} {s : Sch} {ts : List Tab} (N : NewSch H H1 S s ts) (e : Same H1 H2) : NewSch H H2 S s ts :=
  ⟨e _ _ N.sk, fun p hp => (N.ds p hp).mono e, N.ts, N.fS, N.fd, N.dn, N.ln, N.se.trans e⟩
/-! ### a table renamed -/
def renR (t n : Str) (r : Str × Str) : Str × Str := (r.1, if r.2 = t then n else r.2)
theorem renT_eq (t n : Str) (x : Tab) : renT t n x = { x with n := if x.n = t then n else x.n, rf := x.rf.map (renR t n) } := rfl
theorem put_rf (a : Ads) (N : Addr) : putK (descD a) (Sum.inr ("references" : Str) : Key) (.ref N) = descD { a with r := N } := by
  simp [putK, descD, e_co_rf, e_ch_rf, e_un_rf]
def spRefRen : Sp := fun vs H Q _ => ∃ (a : Ads) (x : Tab) (t n : Str), vs = [.ref a.d, .str t, .str n] ∧ DescAt H a x ∧ x.cols.length ≤ 100 ∧ x.rf.length ≤ 40 ∧ ∀ a' H', DescAt H' a' { x with rf := x.rf.map (renR t n) } → Same H H' → H a'.d = none → (∀ b ∈ adL a', H b = none) → (adL a').Nodup → Q (.ref a'.d) H'
theorem nd_takeN {α : Type} {L : List α} (h : L.Nodup) {i : Nat} {u : α} (e : L[i]? = some u) : u ∉ L.take i := fun hm => by
  obtain ⟨j, hj, ej⟩ := List.getElem_of_mem hm
  rw [List.length_take] at hj
  rw [List.getElem_take] at ej
  have b1 : L[j]? = some u := by rw [List.getElem?_eq_getElem (by omega), ej]
  have := nd_ix h b1 e
  omega
theorem ren_nd {ts : List Tab} {t n : Str} (h : (ts.map (·.n)).Nodup) (hn : n ∉ ts.map (·.n)) : ((ts.map (renT t n)).map (·.n)).Nodup := by
  rw [List.map_map]
  have e : (Tab.n ∘ renT t n) = (fun z => if z = t then n else z) ∘ Tab.n := rfl
  show (ts.map (Tab.n ∘ renT t n)).Nodup
  rw [e, ← List.map_map]
  unfold List.Nodup
  rw [List.pairwise_map]
  refine List.Pairwise.imp_of_mem (fun {a b} ha hb hab => ?_) h
  by_cases e1 : a = t
  · by_cases e2 : b = t
    · exact absurd (e1.trans e2.symm) hab
    · rw [if_pos e1, if_neg e2]
      exact fun z => hn (z ▸ hb)
  · by_cases e2 : b = t
    · rw [if_neg e1, if_pos e2]
      exact fun z => hn (z ▸ ha)
    · rw [if_neg e1, if_neg e2]; exact hab
/-- a schema made while another one was locked -/
theorem NewSch.unlock {H H' : Hp} {S Z : Addr} {o : HO} {od : Obj} {kvs : List (Key × V)} {s' : Sch} {ts : List Tab} (N : NewSch (upd H S (.frz od o)) H' Z s' ts) (hS : H S = some (.dK kvs)) : NewSch H (upd H' S (.dK kvs)) Z s' ts := by
  have hS' : H' S = some (.frz od o) := N.se _ _ upd_same
  have ne : ∀ {b : Addr}, (upd H S (.frz od o)) b = none → b ≠ S := fun {b} h z => by rw [z, upd_same] at h; cases h
  have fr : ∀ {b : Addr}, (upd H S (.frz od o)) b = none → H b = none := fun {b} h => by rw [upd_ne (ne h)] at h; exact h
  have kt : KeepT H' (upd H' S (.dK kvs)) := KeepT.upd fun xs z => by rw [hS'] at z; cases z
  refine ⟨by rw [upd_ne (ne N.fS)]; exact N.sk, fun p hp => ?_, N.ts, fr N.fS, fun p hp => ?_, N.dn, N.ln, fun b u hb => ?_⟩
  · have fd := N.fd p hp
    exact (N.ds p hp).frame kt (fun o z => by rw [upd_ne (ne fd.1)]; exact z) (fun b hb o z => by rw [upd_ne (ne (fd.2.2 b hb))]; exact z)
  · have fd := N.fd p hp
    exact ⟨fr fd.1, fd.2.1, fun b hb => fr (fd.2.2 b hb)⟩
  · by_cases e : b = S
    · rw [e, upd_same, ← hS, ← e, hb]
    · rw [upd_ne e]
      exact N.se _ _ (by rw [upd_ne e]; exact hb)
theorem NewSch.empty {H : Hp} {Z : Addr} (h : H Z = none) : NewSch H (upd H Z (.dK [])) Z [] [] :=
  ⟨upd_same, fun p hp => absurd hp List.not_mem_nil, rfl, h, fun p hp => absurd hp List.not_mem_nil, List.nodup_nil, List.nodup_nil, same_new h _⟩
theorem NewSch.emptyL {H : Hp} {S Z : Addr} {o : HO} {kvs : List (Key × V)} (hS : H S = some (.dK kvs)) (h : H Z = none) : NewSch (upd H S o) (upd (upd H Z (.dK [])) S o) Z [] [] := by
  have ne : Z ≠ S := fun z => by rw [z, hS] at h; cases h
  refine ⟨by rw [upd_ne ne]; exact upd_same, fun p hp => absurd hp List.not_mem_nil, rfl, by rw [upd_ne ne]; exact h, fun p hp => absurd hp List.not_mem_nil, List.nodup_nil, List.nodup_nil, fun b u hb => ?_⟩
  by_cases e : b = S
  · rw [e] at hb ⊢; rw [upd_same] at hb ⊢; exact hb
  · rw [upd_ne e] at hb ⊢
    exact same_new h _ _ _ hb
def spAreCols : Sp := fun vs H Q _ => ∃ (g : Addr) (gs : List V) (cols : List Col), vs = [.ref g] ∧ H g = some (.tup gs) ∧ TpL H gs (cols.map colD) ∧ 1 ≤ cols.length ∧ cols.length ≤ 8 ∧ (∀ c ∈ cols, c.k = ("int" : Str) ∨ c.k = ("text" : Str)) ∧ (∀ c, cols[0]? = some c → c.b = false) ∧ ∀ H', Same H H' → Q (.bl (decide (colNs cols).Nodup)) H'
theorem colTp_at {H : Hp} {gs : List V} {cols : List Col} (r : TpL H gs (cols.map colD)) {i : Nat} {y : V} (hi : gs[i]? = some y) : ∃ col ca, cols[i]? = some col ∧ y = .ref ca ∧ H ca = some (.tup [.str col.n, .str col.k, .bl col.b]) := by
  obtain ⟨d0, ed0, tx⟩ := r.get hi
  obtain ⟨col, ecol, rfl⟩ : ∃ col, cols[i]? = some col ∧ colD col = d0 := by
    rw [List.getElem?_map] at ed0
    cases h : cols[i]? with
    | none => rw [h] at ed0; cases ed0
    | some col => rw [h] at ed0; cases ed0; exact ⟨col, rfl, rfl⟩
  obtain ⟨ca, rfl, hcat⟩ := col_at tx
  exact ⟨col, ca, ecol, rfl, hcat⟩
def ttG : TT → Bool
  | .ext .. | .inl .. => true
  | _ => false
noncomputable def spTargetT (C : Addr) : Sp := fun vs H Q E => ∃ (S : Addr) (s : Sch) (st : Addr) (l : TT), vs = [.ref S, .ref st] ∧ ScV H S s ∧ Tp H (.ref st) (ttD l) ∧ ttOk l ∧
  (codeTT (tbs s) l = "" → ∀ S' s' H', NewSch H H' S' s' (targTT (tbs s) l) → Q (.ref S') H') ∧
  (codeTT (tbs s) l ≠ "" → ∀ H1 d, Same H H1 → H1 d = none → E (.ref C) (some d) (upd H1 d (.xd [("index", .int 0), ("code", .str (codeTT (tbs s) l))])))
end Lt

set_option autoImplicit false
/-! ## names.count(name) of a list or a tuple of texts -/
namespace Lt
open PySem PySem.Spec PyProof.Rows L2 TL
def eqs (k : Str) (v : Value) : Bool := match v with
  | .str n _ => n.cps.toList == k.cps.toList
  | _ => false
theorem strs_vals {ns : List Str} {us : List Value} (r : Vals (ns.map V.str) us) : ∀ y ∈ us, ∃ (n : Str) (t : Tok), y = .str n t := by
  induction ns generalizing us with
  | nil => cases r; intro y hy; cases hy
  | cons n ns ih =>
    cases r with
    | cons h r =>
      obtain ⟨t, rfl⟩ := h
      intro y hy
      rcases List.mem_cons.mp hy with rfl | hy
      · exact ⟨n, t, rfl⟩
      · exact ih r y hy
theorem eqs_count {k : Str} : ∀ {ns : List Str} {us : List Value}, Vals (ns.map V.str) us → us.countP (eqs k) = ns.count k := by
  intro ns
  induction ns with
  | nil => intro us r; cases r; rfl
  | cons n ns ih =>
    intro us r
    cases r with
    | cons h r =>
      obtain ⟨t, rfl⟩ := h
      have e : eqs k (.str n t) = (n == k) := by
        show (n.cps.toList == k.cps.toList) = (n == k)
        rw [Bool.eq_iff_iff, beq_iff_eq, beq_iff_eq]
        exact ⟨fun h => ext_tl h, fun h => by rw [h]⟩
      rw [List.countP_cons, List.count_cons, ih r, e] <;> rfl
theorem eqs_gives {k : Str} {t : Tok} {ns : List Str} {us : List Value} (r : Vals (ns.map V.str) us) : ∀ y ∈ us, MeetsSeq.EqGives y (.str k t) (eqs k y) := fun y hy => by
  obtain ⟨n, t', rfl⟩ := strs_vals r y hy
  exact SeqRoads2.EqGives.str n k t' t
section
variable {X : L2.Cx}
def rCntS (K : PySem.W.Frag) : V → List V → Hp → VK → Prop := fun x xs H Q => ∃ (p : Addr) (ns : List Str) (k : Str), x = .ref p ∧ xs = [.str k] ∧ SqL K H p (ns.map V.str) ∧ Q (.int (ns.count k : Nat)) H
theorem mt_lcountS : MtR X "list.count" (rCntS X.K) := by
  intro pins s σ H x xs v us Q I rx rxs h
  obtain ⟨p, ns, k, rfl, rfl, hs, q⟩ := h
  cases rx
  obtain ⟨u, rfl, ru⟩ := rxs.one
  obtain ⟨t, rfl⟩ := ru
  obtain ⟨its, rv, ⟨⟨cls, dd, data, sl⟩, n, ho, hc, hdn, hd⟩, hlen⟩ := I.list hs
  simp only at hc hd
  subst hc hd
  refine call_meets PySem.F.slot_list_count ⟨_, ho, rfl⟩ PySem.F.entry_list_count (PySem.F.args_list_count_2 _ _)
    (SeqAt.list_countAt p its.toArray n dd sl (.str k t) (eqs k)) ⟨ho, fun y hy => (eqs_gives rv y (by simpa using hy)).at _ _, ?_⟩
  have ec : its.toArray.toList.countP (eqs k) = ns.count k := eqs_count rv
  refine ⟨.int (ns.count k : Nat), H, I.tok _, ⟨s.toks, ?_⟩, q⟩
  show Value.int ((its.toArray.toList.countP (eqs k) : Nat) : Int) s.toks = Value.int ((ns.count k : Nat) : Int) s.toks
  rw [ec]
def rCntT (K : PySem.W.Frag) : V → List V → Hp → VK → Prop := fun x xs H Q => ∃ (p : Addr) (ns : List Str) (k : Str), x = .ref p ∧ xs = [.str k] ∧ SqT K H p (ns.map V.str) ∧ Q (.int (ns.count k : Nat)) H
theorem mt_tcountS : MtR X "tuple.count" (rCntT X.K) := by
  intro pins s σ H x xs v us Q I rx rxs h
  obtain ⟨p, ns, k, rfl, rfl, hs, q⟩ := h
  cases rx
  obtain ⟨u, rfl, ru⟩ := rxs.one
  obtain ⟨t, rfl⟩ := ru
  obtain ⟨its, rv, ⟨⟨cls, dd, data, sl⟩, ho, hc, n, hd⟩, hlen⟩ := I.tuple hs
  simp only at hc hd
  subst hc hd
  refine call_meets PySem.F.slot_tuple_count ⟨_, ho, rfl⟩ PySem.F.entry_tuple_count (PySem.F.args_tuple_count_2 _ _)
    (SeqAt.tuple_countAt p its.toArray n dd sl (.str k t) (eqs k)) ⟨ho, fun y hy => (eqs_gives rv y (by simpa using hy)).at _ _, ?_⟩
  have ec : its.toArray.toList.countP (eqs k) = ns.count k := eqs_count rv
  refine ⟨.int (ns.count k : Nat), H, I.tok _, ⟨s.toks, ?_⟩, q⟩
  show Value.int ((its.toArray.toList.countP (eqs k) : Nat) : Int) s.toks = Value.int ((ns.count k : Nat) : Int) s.toks
  rw [ec]
end
end Lt

set_option autoImplicit false
/-! ## equal data, whatever the order of the dicts -/
namespace Lt
open PySem L2 TL
open C8 (pss_cut)
/-- the data that stand under a key -/
def lkG (ks : List (Key × G)) (k : Key) : G := match ks.find? (fun p => decide (p.1 = k)) with | some p => p.2 | none => .s .non
theorem lkG_mem {ks : List (Key × G)} (nd : (ks.map (·.1)).Nodup) {k : Key} {g : G} (h : (k, g) ∈ ks) : lkG ks k = g := by
  unfold lkG
  cases e : ks.find? (fun p => decide (p.1 = k)) with
  | none =>
    have := List.find?_eq_none.mp e _ h
    simp at this
  | some q =>
    have h1 := List.mem_of_find?_eq_some e
    have h2 : q.1 = k := by simpa using List.find?_some e
    obtain ⟨i, hi, ei⟩ := List.getElem_of_mem h1
    obtain ⟨j, hj, ej⟩ := List.getElem_of_mem h
    have a1 : (ks.map (·.1))[i]? = some k := by rw [List.getElem?_map, List.getElem?_eq_getElem hi, ei]; exact congrArg some h2
    have a2 : (ks.map (·.1))[j]? = some k := by rw [List.getElem?_map, List.getElem?_eq_getElem hj, ej]; rfl
    have := nd_ix nd a1 a2
    subst this
    rw [ei] at ej
    rw [ej]
theorem lkG_in {ks : List (Key × G)} {k : Key} (h : k ∈ ks.map (·.1)) : (k, lkG ks k) ∈ ks := by
  unfold lkG
  cases e : ks.find? (fun p => decide (p.1 = k)) with
  | none =>
    obtain ⟨p, h1, h2⟩ := List.mem_map.mp h
    have := List.find?_eq_none.mp e _ h1
    simp [h2] at this
  | some q =>
    have h1 := List.mem_of_find?_eq_some e
    have h2 : q.1 = k := by simpa using List.find?_some e
    obtain ⟨a, b⟩ := q
    cases h2
    exact h1
theorem GpK.lk {H : Hp} {kvs : List (Key × V)} {ks : List (Key × G)} {D : List Addr} (r : GpK H kvs ks D) (nd : (ks.map (·.1)).Nodup) {k : Key} (h : k ∈ ks.map (·.1)) : ∃ v E, valV kvs k = some v ∧ Gp H v (lkG ks k) E ∧ ∀ a ∈ E, a ∈ D := by
  have hk : k ∈ kvs.map (·.1) := by rw [r.keys]; exact h
  obtain ⟨p, h1, h2⟩ := List.mem_map.mp hk
  obtain ⟨i, hi, ei⟩ := List.getElem_of_mem h1
  obtain ⟨k', v⟩ := p
  cases h2
  have e : kvs[i]? = some (k', v) := by rw [List.getElem?_eq_getElem hi, ei]
  obtain ⟨g, E, e1, p1, i1⟩ := r.get e
  rw [lkG_mem nd (List.mem_of_getElem? e1)]
  exact ⟨v, E, valV_at (by rw [r.keys]; exact nd) e, p1, i1⟩
/-- the same data, whatever the order of the dicts -/
inductive GEq : G → G → Prop
  | s (v : V) : GEq (.s v) (.s v)
  | t {gs hs : List G} (l : gs.length = hs.length) (h : ∀ (i : Nat) (g h : G), gs[i]? = some g → hs[i]? = some h → GEq g h) : GEq (.t gs) (.t hs)
  | l {gs hs : List G} (l : gs.length = hs.length) (h : ∀ (i : Nat) (g h : G), gs[i]? = some g → hs[i]? = some h → GEq g h) : GEq (.l gs) (.l hs)
  | d {ks ms : List (Key × G)} (f : Key → G) (l : ks.length = ms.length) (k : ∀ p ∈ ms, (p.1, f p.1) ∈ ks) (h : ∀ p ∈ ms, GEq (f p.1) p.2) : GEq (.d ks) (.d ms)
def spSameE (n : Nat) : Sp := fun vs H Q _ => (∃ x y g h D E, vs = [x, y] ∧ Gp H x g D ∧ Gp H y h E ∧ GEq g h ∧ (∀ a ∈ D, a ∉ E) ∧ h.dep < n ∧ Q (.bl true) H) ∨
  (2 ≤ n ∧ ∃ (a b : Addr) (ns : List Int), vs = [.ref a, .ref b] ∧ H a = some (.lst (ns.map V.int)) ∧ H b = some (.lst (ns.map V.int)) ∧ ns.length ≤ 1000000 ∧ Q (.bl true) H)
def spItemsE (n : Nat) : Sp := fun vs H Q _ => ∃ (a b : Addr) (xs ys : List V), vs = [.ref a, .ref b] ∧ ((H a = some (.lst xs) ∧ H b = some (.lst ys)) ∨ (H a = some (.tup xs) ∧ H b = some (.tup ys))) ∧ xs.length = ys.length ∧ xs.length ≤ 1000000 ∧
  (∀ (i : Nat) (x y : V), xs[i]? = some x → ys[i]? = some y → ∃ g h D E, Gp H x g D ∧ Gp H y h E ∧ GEq g h ∧ (∀ a ∈ D, a ∉ E) ∧ h.dep < n) ∧ Q (.bl true) H
mutual
theorem geq_D : ∀ d : D, GEq (gOf d) (gOf d)
  | .s v => .s v
  | .t ds => by
    rw [gOf]
    exact .t rfl fun i g h e1 e2 => by rw [e1] at e2; cases e2; exact geq_L ds i g e1
theorem geq_L : ∀ (ds : List D) (i : Nat) (g : G), (gOfL ds)[i]? = some g → GEq g g
  | [], i, g, h => by simp [gOfL] at h
  | d :: ds, 0, g, h => by
    simp [gOfL] at h
    rw [← h]; exact geq_D d
  | d :: ds, i + 1, g, h => geq_L ds i g (by simpa [gOfL] using h)
end
theorem geq_l {gs : List G} (h : ∀ g ∈ gs, GEq g g) : GEq (.l gs) (.l gs) := .l rfl fun i g g' e1 e2 => by rw [e1] at e2; cases e2; exact h g (List.mem_of_getElem? e1)
theorem geq_t {gs : List G} (h : ∀ g ∈ gs, GEq g g) : GEq (.t gs) (.t gs) := .t rfl fun i g g' e1 e2 => by rw [e1] at e2; cases e2; exact h g (List.mem_of_getElem? e1)
theorem geq_lG (ds : List D) : GEq (lG ds) (lG ds) := by
  unfold lG
  exact geq_l fun g hg => by
    obtain ⟨i, hi, e⟩ := List.getElem_of_mem hg
    exact geq_L ds i g (by rw [List.getElem?_eq_getElem hi, e])
theorem geq_strs (xs : List Str) : GEq (strsG xs) (strsG xs) := by
  unfold strsG
  exact geq_l fun g hg => by
    obtain ⟨x, _, rfl⟩ := List.mem_map.mp hg
    exact .s _
/-- a dict with keys that are told apart -/
theorem geq_d {ks ms : List (Key × G)} (l : ks.length = ms.length) (nd : (ks.map (·.1)).Nodup) (sub : ∀ p ∈ ms, p ∈ ks) (h : ∀ p ∈ ms, GEq p.2 p.2) : GEq (.d ks) (.d ms) := by
  have key : ∀ p ∈ ms, ((ks.find? fun q => decide (q.1 = p.1)).map (·.2)).getD (.s .non) = p.2 := fun p hp => by
    have hk := sub p hp
    cases e : ks.find? fun q => decide (q.1 = p.1) with
    | none => exact absurd (decide_eq_true rfl) (List.find?_eq_none.mp e p hk)
    | some q =>
      have h1 : q.1 = p.1 := by have z := List.find?_some e; simpa using z
      have h2 := List.mem_of_find?_eq_some e
      obtain ⟨i, hi, ei⟩ := List.getElem_of_mem hk
      obtain ⟨j, hj, ej⟩ := List.getElem_of_mem h2
      have b1 : (ks.map (·.1))[i]? = some p.1 := by rw [List.getElem?_map, List.getElem?_eq_getElem hi, ei]; rfl
      have b2 : (ks.map (·.1))[j]? = some p.1 := by rw [List.getElem?_map, List.getElem?_eq_getElem hj, ej]; exact congrArg some h1
      have := nd_ix nd b1 b2
      subst this
      rw [ei] at ej
      show q.2 = p.2
      rw [ej]
  refine .d (fun k => ((ks.find? fun q => decide (q.1 = k)).map (·.2)).getD (.s .non)) l (fun p hp => ?_) (fun p hp => ?_)
  · show (p.1, ((ks.find? fun q => decide (q.1 = p.1)).map (·.2)).getD (.s .non)) ∈ ks
    rw [key p hp]
    exact sub p hp
  · show GEq (((ks.find? fun q => decide (q.1 = p.1)).map (·.2)).getD (.s .non)) p.2
    rw [key p hp]
    exact h p hp
theorem tabsG_mem {ts : List Tab} {p : Key × G} : p ∈ tabsG ts ↔ ∃ t ∈ ts, p = ((Sum.inr t.n : Key), descG t) := by
  unfold tabsG
  rw [List.mem_map]
  exact ⟨fun ⟨t, h1, h2⟩ => ⟨t, h1, h2.symm⟩, fun ⟨t, h1, h2⟩ => ⟨t, h1, h2.symm⟩⟩
theorem tabsG_keys (ts : List Tab) : (tabsG ts).map (·.1) = (ts.map (·.n)).map (Sum.inr : Str → Key) := by
  unfold tabsG
  rw [List.map_map, List.map_map]; rfl
theorem tabsG_len (ts : List Tab) : (tabsG ts).length = ts.length := by
  have := congrArg List.length (tabsG_keys ts)
  simpa using this
theorem geq_desc (t : Tab) : GEq (descG t) (descG t) := by
  unfold descG
  refine geq_d rfl ?_ (fun p hp => hp) ?_
  · simp [e_co_ch, e_co_un, e_co_rf, e_ch_un, e_ch_rf, e_un_rf]
  · intro p hp
    simp only [List.mem_cons, List.not_mem_nil, or_false] at hp
    rcases hp with rfl | rfl | rfl | rfl
    · exact geq_lG _
    · exact geq_lG _
    · exact geq_strs _
    · exact geq_lG _
theorem geq_sch {s s2 : Sch} (nm : (schN s).Nodup) (pm : (tbs s2).Perm (tbs s)) : GEq (schG s) (schG s2) := by
  unfold schG
  refine geq_d ?_ ?_ (fun p hp => ?_) (fun p hp => ?_)
  · rw [tabsG_len, tabsG_len]; exact pm.length_eq.symm
  · rw [tabsG_keys]
    show ((tbs s).map (·.n) |>.map (Sum.inr : Str → Key)).Nodup
    rw [tbs_names]
    exact (inr_nd _).mpr nm
  · obtain ⟨t, ht, rfl⟩ := tabsG_mem.mp hp
    exact tabsG_mem.mpr ⟨t, pm.mem_iff.mp ht, rfl⟩
  · obtain ⟨t, ht, rfl⟩ := tabsG_mem.mp hp
    exact geq_desc t
end Lt

set_option autoImplicit false
/-! ## sets of tuples of ints and texts -/
namespace Lt
open PySem PySem.Spec PyProof.Rows L2 TL
/-- a tuple's hash; what stands in the table for it; the tuple itself -/
abbrev hT (P : Program) (w : World) (k : List Key) : Int := tupleKeyHash (mixKind P w) k
abbrev TkAt (P : Program) (w : World) (h : Heap) (q : Addr × List Key) : Prop := IsTupleKey (mixKind P w) h q.2 q.1
def rowT (P : Program) (w : World) (q : Addr × List Key) : Int × Value := (hT P w q.2, Value.ref q.1)
def hsT (P : Program) (w : World) (L : List (Addr × List Key)) : List Int := L.map fun q => hT P w q.2
theorem plain_item {P : Program} {w : World} {k : Key} {v : Value} (h : (mixKind P w).is k v = true) (n : Nat) : ofAClassStatement n v = pure false := by
  rcases keyIs_shape h with ⟨i, t, rfl, rfl⟩ | ⟨x, t, rfl, rfl⟩ <;> cases n <;> rfl
theorem hashed_item {P : Program} {w : World} {k : Key} {v : Value} (h : (mixKind P w).is k v = true) (n : Nat) : hashByValue n v = pure true ∨ hashByValue n v = pure false := by
  rcases keyIs_shape h with ⟨i, t, rfl, rfl⟩ | ⟨x, t, rfl, rfl⟩
  · left; cases n <;> rfl
  · right; cases n <;> rfl
theorem each_item {P : Program} {w : World} {ks : List Key} {vs : List Value} (h : ItemsAre (mixKind P w) ks vs) : ∀ v ∈ vs, ∃ k, (mixKind P w).is k v = true := by
  induction h with
  | nil => exact fun v hv => nomatch hv
  | cons a _ ih =>
    intro v hv
    cases hv with
    | head => exact ⟨_, a⟩
    | tail _ hv => exact ih v hv
section
variable {P : Program} {w : World} {A : Around} {E : Value → Shared → Prop} {s : Shared}
theorem noClass_tup {q : Addr × List Key} {Q : Bool → Shared → Prop} (hq : TkAt P w s.heap q) (h : Q false s) : wpAny (model P w) A (ofAClassStatement 8 (.ref q.1)) Q E s := by
  have ty := hq.typeIs
  obtain ⟨o, its, n, ho, _, hd, hi⟩ := hq
  unfold ofAClassStatement
  apply wpAny_bind
  apply wpAny_typeOf ty
  have e : (("tuple" : String) == "tuple") = true := by decide
  simp only [e, if_true, Bool.not_true, Bool.false_eq_true, if_false]
  try apply wpAny_bind
  try apply wpAny_pure
  try simp only [Bool.not_true, Bool.false_eq_true, if_false]
  show wpAny _ _ (seqItems? (.ref q.1) >>= _) _ _ s
  apply wpAny_bind
  apply wpAny_seqItems ho hd
  apply wpAny_bind
  show wpAny _ _ (forIn its _ _) _ _ s
  rw [← Array.forIn_toList]
  apply wpAny_forIn_list _ (fun l r s' => r.1 = none ∧ s' = s ∧ ∀ v ∈ l, ∃ k, (mixKind P w).is k v = true)
  · rintro v l r s' ⟨e1, rfl, all⟩
    obtain ⟨k, hk⟩ := all v List.mem_cons_self
    rw [plain_item hk _]
    apply wpAny_bind
    apply wpAny_pure
    rw [if_neg Bool.false_ne_true]
    exact wpAny_pure ⟨rfl, rfl, fun u hu => all u (List.mem_cons_of_mem _ hu)⟩
  · rintro ⟨r1, r2⟩ s' ⟨e1, rfl, _⟩
    cases (show r1 = none from e1)
    exact wpAny_pure h
  · exact ⟨rfl, rfl, each_item hi⟩
theorem hashed_tup {q : Addr × List Key} {Q : Bool → Shared → Prop} (hq : TkAt P w s.heap q) (h : ∀ b, Q b s) : wpAny (model P w) A (hashByValue 8 (.ref q.1)) Q E s := by
  have ty := hq.typeIs
  obtain ⟨o, its, n, ho, _, hd, hi⟩ := hq
  unfold hashByValue
  apply wpAny_bind
  apply wpAny_specialOf ty F.slot_tuple_hash.lookup
  show wpAny _ _ (seqItems? (.ref q.1) >>= _) _ _ s
  apply wpAny_bind
  apply wpAny_seqItems ho hd
  apply wpAny_bind
  show wpAny _ _ (forIn its _ _) _ _ s
  rw [← Array.forIn_toList]
  apply wpAny_forIn_list _ (fun l r s' => r.1 = none ∧ s' = s ∧ ∀ v ∈ l, ∃ k, (mixKind P w).is k v = true)
  · rintro v l r s' ⟨e1, rfl, all⟩
    obtain ⟨k, hk⟩ := all v List.mem_cons_self
    rcases hashed_item hk 7 with e | e
    · rw [e]
      apply wpAny_bind
      apply wpAny_pure
      rw [if_neg (by decide)]
      exact wpAny_pure ⟨rfl, rfl, fun u hu => all u (List.mem_cons_of_mem _ hu)⟩
    · rw [e]
      apply wpAny_bind
      apply wpAny_pure
      rw [if_pos (by decide)]
      apply wpAny_pure
      exact wpAny_pure (h false)
  · rintro ⟨r1, r2⟩ s' ⟨e1, rfl, _⟩
    cases (show r1 = none from e1)
    exact wpAny_pure (h true)
  · exact ⟨rfl, rfl, each_item hi⟩
/-- to look for a tuple among tuples shows nothing -/
theorem unseen_tup {q : Addr × List Key} {Q : Bool → Shared → Prop} (hq : TkAt P w s.heap q) {ys : List Value} (hy : ∀ y ∈ ys, ∃ r, y = Value.ref r.1 ∧ TkAt P w s.heap r) (h : Q false s) : wpAny (model P w) A (searchCouldBeSeen (.ref q.1) ys) Q E s := by
  unfold searchCouldBeSeen
  apply wpAny_bind
  apply wpAny_forIn_list _ (fun l c s' => c.1 = none ∧ s' = s ∧ ∀ y ∈ l, ∃ r, y = Value.ref r.1 ∧ TkAt P w s.heap r)
  · rintro v l c s' ⟨e1, rfl, all⟩
    obtain ⟨r, rfl, hr⟩ := all v List.mem_cons_self
    have more : ∀ y ∈ l, ∃ r, y = Value.ref r.1 ∧ TkAt P w s'.heap r := fun u hu => all u (List.mem_cons_of_mem _ hu)
    dsimp only
    split
    · exact wpAny_pure ⟨rfl, rfl, more⟩
    · apply wpAny_bind
      apply wpAny_eqIsQuiet_tuple hq
      rw [if_neg (by decide)]
      apply wpAny_bind
      apply wpAny_eqIsQuiet_tuple hr
      rw [if_neg (by decide)]
      apply wpAny_bind
      apply noClass_tup hq
      rw [if_neg (by decide)]
      apply wpAny_bind
      apply noClass_tup hr
      rw [if_neg (by decide)]
      exact wpAny_pure ⟨rfl, rfl, more⟩
  · rintro ⟨r1, r2⟩ s' ⟨e1, rfl, _⟩
    cases (show r1 = none from e1)
    exact wpAny_pure h
  · exact ⟨rfl, rfl, hy⟩
end
/-- the rows of the set at a -/
structure TRow (P : Program) (w : World) (h : Heap) (a : Addr) (L : List (Addr × List Key)) (es : Array (Int × Value)) (ep : Nat) (t : SetTable) : Prop where
  ob : ∃ o, h.get? a = some o ∧ o.ExactSet ∧ o.data = .set es ep t
  rows : es.toList = L.map (rowT P w)
  tab : L2.TabOk t (hsT P w L)
  nd : (L.map (·.2)).Nodup
  ld : w.params.followText "set-order" = true ∨ t.led = true
  room : L.length * 5 < t.mask * 3
  few : L.length < 64
section
variable {P : Program} {w : World} {A : Around} {E : Value → Shared → Prop} {s : Shared} {a : Addr} {L : List (Addr × List Key)} {es : Array (Int × Value)} {ep : Nat} {t : SetTable}
theorem rows_len (h : es.toList = L.map (rowT P w)) : es.size = L.length := by
  rw [← Array.length_toList, h, List.length_map]
theorem rows_at (h : es.toList = L.map (rowT P w)) (i : Nat) : es[i]? = L[i]?.map (rowT P w) := by
  rw [← Array.getElem?_toList, h, List.getElem?_map]
theorem TRow.held (R : TRow P w s.heap a L es ep t) : t.fits es.size = true := by
  have h1 : t.place.size = L.length := R.tab.sz.trans (List.length_map _)
  have h2 := rows_len R.rows
  have h3 := R.room
  unfold SetTable.fits SetTable.fill
  rw [R.tab.dm, Bool.and_eq_true, beq_iff_eq, decide_eq_true_eq, h1, h2]
  refine ⟨rfl, ?_⟩
  show L.length + 0 ≤ t.mask
  omega
theorem TRow.solid (R : TRow P w s.heap a L es ep t) : ¬ t.gaveWay = true := by
  unfold SetTable.gaveWay
  rw [mask_odd R.tab.mok]
  decide
theorem TRow.at_ (R : TRow P w s.heap a L es ep t) {i j : Nat} (h : t.place.toList[i]? = some j) : ∃ q, L[i]? = some q := by
  have h1 := (List.getElem?_eq_some_iff.mp h).1
  rw [Array.length_toList, R.tab.sz, hsT, List.length_map] at h1
  exact ⟨_, List.getElem?_eq_getElem h1⟩
theorem hsT_at {i : Nat} {q : Addr × List Key} (h : L[i]? = some q) : (hsT P w L)[i]? = some (hT P w q.2) := by
  rw [hsT, List.getElem?_map, h]; rfl
/-- the way that a hash goes, from a step on -/
abbrev pr (m : Nat) (h : Int) : SetTable.Probe := runAt m (SetTable.bits h % (m + 1)) (SetTable.bits h)
theorem way_from (m : Nat) (h : Int) (c x : Nat) : nth m (nth m (pr m h) c) x = nth m (pr m h) (c + x) := (nth_add m c _ x).symm
theorem no_dummy (m : Nat) : ∀ (n : Nat) (p : SetTable.Probe), p.dummy = none → (nth m p n).dummy = none
  | 0, _, h => h
  | n + 1, p, h => no_dummy m n (adv m p) (by unfold adv; split <;> exact h)
/-- a search of a tuple, from the c-th step on; K is the first empty place on its way -/
theorem seek_tup (R : TRow P w s.heap a L es ep t) (tup : ∀ q ∈ L, TkAt P w s.heap q) {x : Addr × List Key} (hx : TkAt P w s.heap x) (hu : A.units < cLine) {K : Nat} (K1 : K < 10 * SetTable.turns t.mask)
    (K2 : way t.mask (hT P w x.2) K ∉ t.place.toList) (K3 : ∀ c, c < K → way t.mask (hT P w x.2) c ∈ t.place.toList) {Q : SetFound → Shared → Prop}
    (found : x.2 ∈ L.map (·.2) → Q (.there none) s) (free : x.2 ∉ L.map (·.2) → Q (.free (way t.mask (hT P w x.2) K) false) s) :
    ∀ (f c : Nat) (st : Option SetTable.Probe), st.getD (t.probeStart (hT P w x.2)) = nth t.mask (pr t.mask (hT P w x.2)) c → c ≤ K → K - c < f →
      (∀ (i : Nat) q, L[i]? = some q → q.2 = x.2 → ∃ d, c ≤ d ∧ d < K ∧ t.place.toList[i]? = some (way t.mask (hT P w x.2) d)) →
      wpAny (model P w) A (setSearchFrom a (.ref x.1) (hT P w x.2) true f st) Q E s := by
  obtain ⟨o, ho, hex, hd⟩ := R.ob
  generalize hh : hT P w x.2 = hv at K2 K3 free ⊢
  intro f
  induction f with
  | zero => exact fun c st _ _ hf _ => absurd hf (Nat.not_lt_zero _)
  | succ f ih =>
    intro c st hst hc hf left
    rw [setSearchFrom_succ]
    apply wpAny_bind
    apply wpAny_setState_of ho hd R.held
    dsimp only
    rw [if_neg R.solid]
    try apply wpAny_bind
    try apply wpAny_pure
    have W : ∀ d, (nth t.mask (nth t.mask (pr t.mask hv) c) d).j = way t.mask hv (c + d) := fun d => by rw [way_from]
    have hK : c + (K - c) = K := by omega
    have at_h : ∀ (i : Nat) q, L[i]? = some q → (fun i => (es[i]?.map (·.1)).getD 0) i = hT P w q.2 := fun i q e => by
      show (es[i]?.map (·.1)).getD 0 = _
      rw [rows_at R.rows, e]; rfl
    have sp := go_spec t R.tab.ris R.tab.dm (fun i => (es[i]?.map (·.1)).getD 0) hv (10 * SetTable.turns t.mask) (K - c) (nth t.mask (pr t.mask hv) c) (no_dummy _ _ _ rfl) (by omega)
      (fun d hd' => by rw [W]; exact K3 _ (by omega)) (by rw [W, hK]; exact K2)
    rcases sp with ⟨d, i, hdK, hi, hhi, none_before, e⟩ | ⟨none_before, e⟩
    · rw [W] at hi
      have e' : t.probe (fun i => (es[i]?.map (·.1)).getD 0) hv (st.getD (t.probeStart hv)) = some (.candidate (way t.mask hv (c + d)) i (nth t.mask (pr t.mask hv) (c + (d + 1)))) := by
        rw [hst, ← W, ← way_from]
        exact e
      rw [e']
      dsimp only
      obtain ⟨q, hq⟩ := R.at_ hi
      have hqL := List.mem_of_getElem? hq
      have ent : es[i]? = some (hT P w q.2, Value.ref q.1) := by rw [rows_at R.rows, hq]; rfl
      have sl := slot_live R.tab.ris hi
      have go : wpAny (model P w) A (searchRest a (.ref x.1) hv true f es t (way t.mask hv (c + d)) i (nth t.mask (pr t.mask hv) (c + (d + 1)))) Q E s := by
        unfold searchRest
        rw [ent]
        dsimp only
        apply wpAny_bind
        apply wpAny_holding
        apply wpAny_eqBool_tuple hu (tup q hqL) hx
        apply wpAny_bind
        apply wpAny_setState_of ho hd R.held
        dsimp only
        by_cases same : q.2 = x.2
        · rw [if_pos (by simp [same])]
          exact wpAny_pure (found (List.mem_map.mpr ⟨q, hqL, same⟩))
        · rw [if_neg (by simp [same])]
          try apply wpAny_bind
          try apply wpAny_pure
          rw [sameMem]
          dsimp only
          simp only [if_true, sl, ent]
          apply wpAny_bind
          apply wpAny_isSame_ref_self
          apply wpAny_bind
          apply wpAny_pure
          simp only [if_true]
          rw [if_neg (by simp [same])]
          refine ih (c + (d + 1)) _ rfl (by omega) (by omega) fun i' q' h1 h2 => ?_
          obtain ⟨g, g1, g2, g3⟩ := left i' q' h1 h2
          refine ⟨g, ?_, g2, g3⟩
          rcases Nat.lt_trichotomy g (c + d) with z | z | z
          · refine absurd ?_ (none_before (g - c) i' (by omega) (by rw [W, show c + (g - c) = g by omega]; exact g3))
            exact (at_h i' q' h1).trans ((congrArg (hT P w) h2).trans hh)
          · rw [z] at g3
            have s2 := slot_live R.tab.ris g3
            rw [sl] at s2
            injection s2 with s2
            rw [← s2, hq] at h1
            exact absurd ((congrArg Prod.snd (Option.some.inj h1)).trans h2) same
          · omega
      cases hl : t.led with
      | true => exact go
      | false =>
        apply wpAny_bind
        refine unseen_tup hx (fun y hy => ?_) ?_
        · obtain ⟨en, hen, rfl⟩ := List.mem_map.mp hy
          have h1 : en ∈ es.toList := by
            have : en ∈ es ∧ en.1 = hv := by simpa using hen
            simpa using this.1
          rw [R.rows] at h1
          obtain ⟨r, hr, rfl⟩ := List.mem_map.mp h1
          exact ⟨r, rfl, tup r hr⟩
        · exact go
    · have e' : t.probe (fun i => (es[i]?.map (·.1)).getD 0) hv (st.getD (t.probeStart hv)) = some (.empty (way t.mask hv K) none) := by
        rw [hst]
        have : way t.mask hv K = (nth t.mask (nth t.mask (pr t.mask hv) c) (K - c)).j := by rw [W, hK]
        rw [this]
        exact e
      rw [e']
      dsimp only
      refine wpAny_pure (free fun hm => ?_)
      obtain ⟨q, hq, same⟩ := List.mem_map.mp hm
      obtain ⟨i, hi, rfl⟩ := List.getElem_of_mem hq
      have hq' := List.getElem?_eq_getElem hi
      obtain ⟨g, g1, g2, g3⟩ := left i _ hq' same
      refine none_before (g - c) i (by omega) (by rw [W, show c + (g - c) = g by omega]; exact g3) ?_
      exact (at_h i _ hq').trans ((congrArg (hT P w) same).trans hh)
theorem search_tup (R : TRow P w s.heap a L es ep t) (tup : ∀ q ∈ L, TkAt P w s.heap q) {x : Addr × List Key} (hx : TkAt P w s.heap x) (hu : A.units < cLine) {Q : SetFound → Shared → Prop}
    (found : x.2 ∈ L.map (·.2) → Q (.there none) s)
    (free : ∀ K, x.2 ∉ L.map (·.2) → way t.mask (hT P w x.2) K ∉ t.place.toList → (∀ c, c < K → way t.mask (hT P w x.2) c ∈ t.place.toList) → Q (.free (way t.mask (hT P w x.2) K) false) s) :
    wpAny (model P w) A (setSearch a (.ref x.1) (hT P w x.2) true) Q E s := by
  have rm := R.room
  obtain ⟨K, K1, K2, K3⟩ := R.tab.first (by rw [hsT, List.length_map]; omega) (hT P w x.2)
  have small : 10 * SetTable.turns t.mask < 100000 := by
    unfold SetTable.turns
    rcases R.tab.mok with e | e | e <;> omega
  unfold setSearch
  refine seek_tup R tup hx hu K1 K2 K3 found (fun z => free K z K2 K3) 100000 0 none rfl (Nat.zero_le _) (by omega) fun i q hq same => ?_
  have il := (List.getElem?_eq_some_iff.mp hq).1
  have il2 : i < t.place.toList.length := by rw [Array.length_toList, R.tab.sz, hsT, List.length_map]; exact il
  have pj := List.getElem?_eq_getElem il2
  obtain ⟨d, d1, d2⟩ := R.tab.before K2 (by rw [hsT_at hq, same]) pj
  exact ⟨d, Nat.zero_le _, d1, by rw [pj, d2]⟩
end
end Lt

set_option autoImplicit false
/-! ## sets of tuples: adding, set(x), len -/
namespace Lt
open PySem PySem.Spec PyProof.Rows L2 TL
theorem tAt_kept {P : Program} {w : World} {h h' : Heap} {q : Addr × List Key} (x : TkAt P w h q) (hk : ∀ c o, h.get? c = some o → h'.get? c = some o) : TkAt P w h' q := by
  obtain ⟨o, its, n, ho, r⟩ := x
  exact ⟨o, its, n, hk _ _ ho, r⟩
theorem tAt_but {P : Program} {w : World} {h h' : Heap} {q : Addr × List Key} {a : Addr} {o : Obj} {es : Array (Int × Value)} {ep : Nat} {t : SetTable} (x : TkAt P w h q) (ho : h.get? a = some o) (hd : o.data = .set es ep t) (sb : Heap.SameBut a h h') : TkAt P w h' q := by
  obtain ⟨o', its, n, ho', hc, hd', hi⟩ := x
  have ne : q.1 ≠ a := fun e => by
    rw [e, ho] at ho'
    cases ho'
    rw [hd] at hd'
    cases hd'
  exact ⟨o', its, n, (sb.2 _ ne).trans ho', hc, hd', hi⟩
theorem range_pick {α : Type} (L : List α) : ∀ n, n ≤ L.length → (List.range n).filterMap (fun i => L[i]?) = L.take n
  | 0, _ => rfl
  | n + 1, hn => by
    have e := List.getElem?_eq_getElem (show n < L.length from hn)
    rw [List.range_succ, List.filterMap_append, range_pick L n (by omega), List.take_succ, e]
    show _ ++ [n].filterMap _ = _
    rw [List.filterMap_cons_some e]; rfl
theorem pick_perm {α : Type} {L : List α} {o : List Nat} (h : o.Perm (List.range L.length)) : (o.filterMap fun i => L[i]?).Perm L := by
  have e := h.filterMap fun i => L[i]?
  rw [range_pick L _ (Nat.le_refl _), List.take_length] at e
  exact e
theorem pick_map {α β : Type} (f : α → β) (L : List α) (d : β) : ∀ o : List Nat, (∀ i ∈ o, i < L.length) → (o.filterMap fun i => L[i]?).map f = o.map fun i => ((L.map f)[i]?).getD d
  | [], _ => rfl
  | i :: o, h => by
    have e := List.getElem?_eq_getElem (h i List.mem_cons_self)
    rw [List.filterMap_cons_some e, List.map_cons, List.map_cons, pick_map f L d o fun j hj => h j (List.mem_cons_of_mem _ hj), List.getElem?_map, e]; rfl
section
variable {P : Program} {w : World} {A : Around} {E : Value → Shared → Prop} {s : Shared} {a : Addr} {L : List (Addr × List Key)} {es : Array (Int × Value)} {ep : Nat} {t : SetTable}
/-- a full table is laid anew -/
theorem relay_tup {o : Obj} (ho : s.heap.get? a = some o) (hex : o.ExactSet) (hd : o.data = .set es ep t) (rows : es.toList = L.map (rowT P w)) (psz : t.place.size = es.size) (dm : t.dummies = #[]) (fl : es.size ≤ t.mask)
    (nd : (L.map (·.2)).Nodup) (ld : w.params.followText "set-order" = true ∨ t.led = true) (few : L.length < 64) {wanted M : Nat} (hw : SetTable.sizeAbove wanted - 1 = M) (hM : MaskOk M) (h128 : SetTable.sizeAbove wanted ≤ 128)
    (rm : L.length * 5 < M * 3) {Q : Unit → Shared → Prop} (fin : ∀ h' L' es' ep' t', Heap.SameBut a s.heap h' → TRow P w h' a L' es' ep' t' → L'.Perm L → Q () { s with heap := h' }) : wpAny (model P w) A (setRelay a wanted) Q E s := by
  have n1 := rows_len rows
  have ft : t.fits es.size = true := by
    unfold SetTable.fits SetTable.fill
    rw [dm, Bool.and_eq_true, beq_iff_eq, decide_eq_true_eq, psz]
    exact ⟨rfl, fl⟩
  obtain ⟨t', od, e, hp, T, em, el, _, _⟩ := relaid_ok t (hs := es.map (·.1)) (wanted := wanted) hw hM (by rw [Array.size_map, n1]; omega)
  rw [Array.size_map, n1] at hp
  have lt : ∀ i ∈ od.toList, i < L.length := fun i hi => List.mem_range.mp (hp.mem_iff.mp hi)
  have pm : (od.toList.filterMap fun i => L[i]?).Perm L := pick_perm hp
  generalize hL2 : (od.toList.filterMap fun i => L[i]?) = L2 at pm
  have r2 : (od.filterMap (es[·]?)).toList = L2.map (rowT P w) := by
    rw [Array.toList_filterMap, ← hL2, List.map_filterMap]
    congr 1
    funext i
    exact rows_at rows i
  have hT2 : (od.toList.map fun i => (es.map (·.1)).getD i 0) = hsT P w L2 := by
    have h0 := pick_map (fun q : Addr × List Key => hT P w q.2) L 0 od.toList lt
    rw [hL2] at h0
    rw [hsT, h0]
    apply List.map_congr_left
    intro i hi
    rw [Array.getD_eq_getD_getElem?, Array.getElem?_map, rows_at rows, List.getElem?_map]
    cases L[i]? <;> rfl
  rw [hT2] at T
  have sz2 : (od.filterMap (es[·]?)).size = es.size := by rw [rows_len r2, pm.length_eq, n1]
  rw [setRelay_eq]
  apply wpAny_bind
  apply wpAny_setState_of ho hd ft
  dsimp only
  rw [if_neg (by rw [sizeLine_eq]; omega)]
  try (apply wpAny_bind; apply wpAny_pure)
  rw [e]
  dsimp only
  apply wpAny_bind
  rw [if_neg (by rw [sz2]; simp)]
  try (apply wpAny_bind; apply wpAny_pure)
  try apply wpAny_pure
  dsimp only
  refine wpAny_storeSet_of ho hd ?_ (by rw [sz2, n1, sizeLine_eq]; omega)
  have sb : Heap.SameBut a s.heap (s.heap.update a (Obj.putSet (od.filterMap (es[·]?)) t')) := Heap.SameBut.update ..
  exact fin _ L2 _ (ep + 1) t' sb ⟨⟨_, store_at ho hd, ⟨hex.1, hex.2.1, hex.2.2⟩, rfl⟩, r2, T, (pm.map (·.2)).nodup_iff.mpr nd, by rw [el]; exact ld, by rw [pm.length_eq, em]; exact rm, by rw [pm.length_eq]; exact few⟩ pm
/-- a tuple is added -/
theorem add_tup (R : TRow P w s.heap a L es ep t) (tup : ∀ q ∈ L, TkAt P w s.heap q) {x : Addr × List Key} (hx : TkAt P w s.heap x) (hu : A.units < cLine) (few : L.length + 1 < 64) {Q : Bool → Shared → Prop}
    (fin : ∀ b h' L' es' ep' t', Heap.SameBut a s.heap h' → TRow P w h' a L' es' ep' t' → (x.2 ∈ L.map (·.2) → L' = L) → (x.2 ∉ L.map (·.2) → L'.Perm (x :: L)) → Q b { s with heap := h' }) :
    wpAny (model P w) A (setAddHashed a (.ref x.1) (hT P w x.2)) Q E s := by
  obtain ⟨o, ho, hex, hd⟩ := R.ob
  have n1 := rows_len R.rows
  have rm := R.room
  unfold setAddHashed
  apply wpAny_holding
  rw [show (100000 : Nat) = 99999 + 1 from rfl, setAddHashedIn_succ]
  apply wpAny_bind
  apply wpAny_setState_of ho hd R.held
  dsimp only
  rw [if_neg (by simp [byScan, Value.scannable])]
  try (apply wpAny_bind; apply wpAny_pure)
  apply wpAny_bind
  refine search_tup R tup hx hu (fun hm => ?_) fun K hm K2 K3 => ?_
  · exact wpAny_pure (fin false s.heap L es ep t (Heap.SameBut.refl a s.heap) R (fun _ => rfl) fun z => absurd hm z)
  dsimp only
  apply wpAny_bind
  apply wpAny_setState_of ho hd R.held
  dsimp only
  obtain ⟨q1, q2, q3, q4, q5, q6, _, _, q9⟩ := R.tab.put K2 K3
  generalize hpt : t.put (way t.mask (hT P w x.2) K) = pt at q1 q3 q4 q5 q6 q9 ⊢
  obtain ⟨t1, p⟩ := pt
  dsimp only at q1 q3 q4 q5 q6 q9 ⊢
  have ld1 : w.params.followText "set-order" = true ∨ t1.led = true := by rw [q5]; exact R.ld
  rw [← q1] at q2 q3
  generalize hes : SetTable.insertAt es p (hT P w x.2, Value.ref x.1) = es1
  have pm : (L.take p ++ x :: L.drop p).Perm (x :: L) := put_perm L p x
  have r1 : es1.toList = (L.take p ++ x :: L.drop p).map (rowT P w) := by
    rw [← hes, SetTable.toList_insertAt, R.rows, List.map_append, List.map_cons, List.map_take, List.map_drop]; rfl
  have T1 : L2.TabOk t1 (hsT P w (L.take p ++ x :: L.drop p)) := by
    unfold hsT at q3 ⊢
    rw [List.map_append, List.map_cons, List.map_take, List.map_drop]
    exact q3
  generalize L.take p ++ x :: L.drop p = L1 at pm r1 T1
  have len1 : L1.length = L.length + 1 := pm.length_eq
  have sz1 : es1.size = L.length + 1 := (rows_len r1).trans len1
  have nd1 : (L1.map (·.2)).Nodup := (pm.map (·.2)).nodup_iff.mpr (List.nodup_cons.mpr ⟨hm, R.nd⟩)
  have rest : ∀ tb : SetTable, tb.mask = t.mask → L2.TabOk tb (hsT P w L1) → (w.params.followText "set-order" = true ∨ tb.led = true) → tb.fill = L.length + 1 → wpAny (model P w) A (do
      storeSet a es1 tb
      if (!false && tb.tooFull) = true then do
        setRelay a (SetTable.grown (es.size + 1))
        pure true
      else pure true) Q E s := fun tb bm bT bl bf => by
    have full : tb.tooFull = decide ((L.length + 1) * 5 ≥ t.mask * 3) := by
      unfold SetTable.tooFull
      rw [bf, bm]
    apply wpAny_bind
    refine wpAny_storeSet_of ho hd ?_ (by rw [sz1, sizeLine_eq]; omega)
    have sb : Heap.SameBut a s.heap (s.heap.update a (Obj.putSet es1 tb)) := Heap.SameBut.update ..
    have ho1 := store_at (es' := es1) (t' := tb) ho hd
    generalize s.heap.update a (Obj.putSet es1 tb) = h1 at sb ho1 ⊢
    by_cases hf : tb.tooFull = true
    · rw [if_pos (by simp [hf])]
      apply wpAny_bind
      rw [full, decide_eq_true_eq] at hf
      rw [n1]
      have which : (t.mask = 7 ∧ L.length = 4) ∨ (t.mask = 31 ∧ L.length = 18) := by
        rcases R.tab.mok with e | e | e
        · rw [e] at hf rm; exact .inl ⟨e, by omega⟩
        · rw [e] at hf rm; exact .inr ⟨e, by omega⟩
        · rw [e] at hf; omega
      have go : ∀ M, SetTable.sizeAbove (SetTable.grown (L.length + 1)) - 1 = M → MaskOk M → SetTable.sizeAbove (SetTable.grown (L.length + 1)) ≤ 128 → (L.length + 1) * 5 < M * 3 →
          wpAny (model P w) A (setRelay a (SetTable.grown (L.length + 1))) (fun _ s' => wpAny (model P w) A (pure true) Q E s') E { s with heap := h1 } := fun M m1 m2 m3 m4 =>
        relay_tup (s := { s with heap := h1 }) (L := L1) ho1 ⟨hex.1, hex.2.1, hex.2.2⟩ rfl r1 (by rw [bT.sz, hsT, List.length_map, len1, sz1]) bT.dm (by rw [sz1, bm]; rcases which with ⟨e, e2⟩ | ⟨e, e2⟩ <;> omega) nd1 bl (by rw [len1]; exact few) m1 m2 m3 (by rw [len1]; exact m4)
          fun h2 L2 es2 ep2 t2 sb2 R2 pm2 => wpAny_pure (fin true h2 L2 es2 ep2 t2 (sb.trans sb2) R2 (fun z => absurd z hm) fun _ => pm2.trans pm)
      rcases which with ⟨_, e2⟩ | ⟨_, e2⟩
      · exact go 31 (by rw [e2, size_20]) (.inr (.inl rfl)) (by rw [e2, size_20]; decide) (by omega)
      · exact go 127 (by rw [e2, size_76]) (.inr (.inr rfl)) (by rw [e2, size_76]; decide) (by omega)
    · rw [if_neg (by simp [hf])]
      try (apply wpAny_bind; apply wpAny_pure)
      rw [full, decide_eq_true_eq] at hf
      refine wpAny_pure (fin true h1 L1 es1 (ep + 1) tb sb ⟨⟨_, ho1, ⟨hex.1, hex.2.1, hex.2.2⟩, rfl⟩, r1, bT, nd1, bl, ?_, by rw [len1]; exact few⟩ (fun z => absurd z hm) fun _ => pm)
      rw [len1, bm]
      omega
  have both : ∀ b : Bool, wpAny (model P w) A (do
      storeSet a es1 (if b = true then t1 else { t1 with plain := false })
      if (!false && (if b = true then t1 else { t1 with plain := false } : SetTable).tooFull) = true then do
        setRelay a (SetTable.grown (es.size + 1))
        pure true
      else pure true) Q E s := fun b => by
    cases b
    · exact rest _ q4 ⟨T1.ris, T1.dm, T1.sz, T1.mok, T1.bd, T1.reach⟩ ld1 (q9.trans (by rw [hsT, List.length_map]))
    · exact rest _ q4 T1 ld1 (q9.trans (by rw [hsT, List.length_map]))
  split
  · apply wpAny_bind
    exact hashed_tup hx both
  · apply wpAny_bind
    exact wpAny_pure (both true)
end
end Lt

set_option autoImplicit false
/-! ## set(x) of a list of tuples; its length; sorted -/
namespace Lt
open PySem PySem.Spec PyProof.Rows L2 TL
/-- what a set has of the first i items -/
structure Met (ks L : List (Addr × List Key)) (i : Nat) : Prop where
  sub : ∀ q ∈ L, q ∈ ks
  all : ∀ q ∈ ks.take i, q.2 ∈ L.map (·.2)
  len : L.length ≤ i
theorem Met.step {ks L L' : List (Addr × List Key)} {i : Nat} {x : Addr × List Key} (m : Met ks L i) (hx : ks[i]? = some x) (old : x.2 ∈ L.map (·.2) → L' = L) (new : x.2 ∉ L.map (·.2) → L'.Perm (x :: L)) : Met ks L' (i + 1) := by
  have tk : ks.take (i + 1) = ks.take i ++ [x] := by rw [List.take_succ, hx]; rfl
  by_cases h : x.2 ∈ L.map (·.2)
  · rw [old h]
    refine ⟨m.sub, fun q hq => ?_, Nat.le_succ_of_le m.len⟩
    rw [tk, List.mem_append, List.mem_singleton] at hq
    rcases hq with hq | rfl
    · exact m.all q hq
    · exact h
  · have pm := new h
    refine ⟨fun q hq => ?_, fun q hq => ?_, by rw [pm.length_eq]; exact Nat.succ_le_succ m.len⟩
    · rcases List.mem_cons.mp (pm.mem_iff.mp hq) with rfl | hq
      · exact List.mem_of_getElem? hx
      · exact m.sub q hq
    · rw [(pm.map (·.2)).mem_iff, List.map_cons, List.mem_cons]
      rw [tk, List.mem_append, List.mem_singleton] at hq
      rcases hq with hq | rfl
      · exact .inr (m.all q hq)
      · exact .inl rfl
/-- the same keys, each once -/
theorem met_keys {ks L : List (Addr × List Key)} (m : Met ks L ks.length) (k : List Key) : k ∈ L.map (·.2) ↔ k ∈ ks.map (·.2) := by
  constructor
  · intro h
    obtain ⟨q, hq, rfl⟩ := List.mem_map.mp h
    exact List.mem_map.mpr ⟨q, m.sub q hq, rfl⟩
  · intro h
    obtain ⟨q, hq, rfl⟩ := List.mem_map.mp h
    exact m.all q (by rw [List.take_length]; exact hq)
theorem met_len {ks L : List (Addr × List Key)} (m : Met ks L ks.length) (nd : (L.map (·.2)).Nodup) : L.length = ks.length ↔ (ks.map (·.2)).Nodup := by
  constructor
  · intro e
    exact nodup_of_len nd (fun x hx => (met_keys m x).mp hx) (by rw [List.length_map, List.length_map, e]; exact Nat.le_refl _)
  · intro h
    have a := sub_len nd fun x hx => (met_keys m x).mp hx
    have b := sub_len h fun x hx => (met_keys m x).mpr hx
    rw [List.length_map, List.length_map] at a b
    omega
section
variable {prog : Program} {w : World} {A : Around} {I : Addr} {fp wr : List Addr} {G : Array GenState → Array GenState → Prop} {n : Nat} {P : Nat → Value → Prop} {St : Nat → Shared → Prop}
theorem TRow.keep {h h' : Heap} {a : Addr} {L : List (Addr × List Key)} {es : Array (Int × Value)} {ep : Nat} {t : SetTable} (R : TRow prog w h a L es ep t) (k : ∀ o, h.get? a = some o → h'.get? a = some o) : TRow prog w h' a L es ep t := by
  obtain ⟨o, ho, r⟩ := R.ob
  exact ⟨⟨o, k o ho, r⟩, R.rows, R.tab, R.nd, R.ld, R.room, R.few⟩
theorem tups_loop {R : Result → Shared → Prop} (W : WalksS prog w A.in1 I fp wr G n P St) (a : Addr) (na : a ∉ fp) (ks : List (Addr × List Key)) (en : n = ks.length) (few : ks.length < 64) (hv : ∀ i v, P i v → ∃ q, ks[i]? = some q ∧ v = .ref q.1)
    (h0 : Heap) (tup : ∀ q ∈ ks, TkAt prog w h0 q) (fa : h0.get? a = none) (fw : ∀ b ∈ wr, h0.get? b = none) (hu : A.in1.units < cLine)
    (fin : Shared → Prop) (hfin : ∀ s, fin s → R (.ok (.ret .none)) s) : ∀ (left i : Nat) (s : Shared), i + left = n → St i s → (∀ b o, h0.get? b = some o → s.heap.get? b = some o) → (∃ L es ep t, TRow prog w s.heap a L es ep t ∧ Met ks L i) →
      (∀ s' L es ep t, Moved (a :: wr) G s s' → TRow prog w s'.heap a L es ep t → Met ks L n → fin s') → codeAny (model prog w) A (.builtin "set.update.loop" ⟨[.ref a, .ref I], []⟩) R s := by
  have nw : a ∉ wr := fun h => na (W.sub _ h)
  have up : ∀ b ∈ wr, b ∈ a :: wr := fun b hb => List.mem_cons_of_mem _ hb
  intro left
  induction left with
  | zero =>
    intro i s e st hk ⟨L, es, ep, t, hS, m⟩ done
    have e' : i = n := by omega
    rw [e'] at st m
    apply codeAny_builtin F.entry_set_update_loop
    rw [Around.under_plainId F.plain_set_update_loop _]
    show wpAny _ A.in1 (do let x ← pyNext (.ref I); _) _ _ s
    apply wpAny_bind
    apply W.done s _ _ st
    intro s' hm
    show wpAny _ A.in1 (ret Value.none) _ _ s'
    exact wpAny_pure (hfin _ (done s' L es ep t (hm.mono up) (hS.keep fun o => hm.heap a o nw) m))
  | succ left ih =>
    intro i s e st hk ⟨L, es, ep, t, hS, m⟩ done
    apply codeAny_builtin F.entry_set_update_loop
    rw [Around.under_plainId F.plain_set_update_loop _]
    show wpAny _ A.in1 (do let x ← pyNext (.ref I); _) _ _ s
    apply wpAny_bind
    apply W.item i s _ _ (by omega) st
    intro v s' hP st' hm
    obtain ⟨q, hq, rfl⟩ := hv i v hP
    have hk' : ∀ b o, h0.get? b = some o → s'.heap.get? b = some o := fun b o z => hm.heap b o (fun y => by rw [fw b y] at z; cases z) (hk b o z)
    have hS' := hS.keep fun o => hm.heap a o nw
    have tup' : ∀ q ∈ ks, TkAt prog w s'.heap q := fun q hq => tAt_kept (tup q hq) hk'
    have hx := tup' q (List.mem_of_getElem? hq)
    show wpAny _ A.in1 (do let _ ← holding [Value.ref q.1] (setAdd a (.ref q.1)); _) _ _ s'
    apply wpAny_bind
    apply wpAny_holding
    unfold setAdd
    apply wpAny_holding
    apply wpAny_bind
    apply wpAny_pyHash_tuple hu hx
    refine add_tup (s := { s' with toks := s'.toks + (q.2.length + 1) }) hS' (fun r hr => tup' r (m.sub r hr)) hx hu (by have := m.len; omega) fun b h' L' es' ep' t' sb hS2 c1 c2 => ?_
    refine wpAny_pure ⟨plainId_quiet F.plain_set_update_loop _, ih (i + 1) _ (by omega) (W.frame _ s' _ _ st' (Nat.le_add_right _ _) fun b hb o eo => (sb.2 b fun z => na (z ▸ hb)).trans eo) (fun b o z => (sb.2 b fun y => by rw [y, fa] at z; cases z).trans (hk' b o z)) ⟨L', es', ep', t', hS2, m.step hq c1 c2⟩ fun s2 L2 es2 ep2 t2 hm2 hS3 m3 => ?_⟩
    exact done s2 L2 es2 ep2 t2 (Moved.trans W.gtrans ((hm.mono up).then_heap (Nat.le_add_right _ _) fun b o hb eo => (sb.2 b fun z => hb (z ▸ List.mem_cons_self)).trans eo) hm2) hS3 m3
end
section
variable {prog : Program} {w : World} {A : Around} {E : Value → Shared → Prop} {s : Shared}
theorem tset_new {h : Heap} {a : Addr} (ho : h.get? a = some ⟨.type "set", none, .set #[] 0 (.fresh 0 0 (!w.params.followText "set-order")), #[]⟩) : ∃ L es ep t, TRow prog w h a L es ep t ∧ ∀ ks, Met ks L 0 := by
  refine ⟨[], #[], 0, _, ⟨⟨_, ho, ⟨rfl, rfl, rfl⟩, rfl⟩, rfl, ⟨List.Pairwise.nil, rfl, rfl, .inl rfl, fun x hx => (nomatch hx), fun i h j hi => by simp [hsT] at hi⟩, List.nodup_nil, ?_, by show 0 * 5 < 7 * 3; decide, by show 0 < 64; decide⟩, fun ks => ⟨fun q hq => (nomatch hq), fun q hq => by simp at hq, Nat.le_refl _⟩⟩
  show _ ∨ (!w.params.followText "set-order") = true
  cases w.params.followText "set-order"
  · exact .inr rfl
  · exact .inl rfl
/-- set(x), x a list of tuples -/
theorem tset_of_list {l : Addr} {items : Array Value} (ks : List (Addr × List Key)) {Q : Value → Shared → Prop} (calm : A.handled = none) (hl : s.heap.IsList l items) (hi : items.toList = ks.map fun q => Value.ref q.1) (tup : ∀ q ∈ ks, TkAt prog w s.heap q) (few : ks.length < 64) (hu : A.units + 3 < cLine)
    (fin : ∀ (h' : Heap) (tk : Nat) L es ep t, TRow prog w h' s.heap.objs.size L es ep t → Met ks L ks.length → (∀ b o, s.heap.get? b = some o → h'.get? b = some o) → Q (.ref s.heap.objs.size) { s with heap := h', toks := tk }) :
    wpAny (model prog w) A (call (.type "set") [.ref l]) Q E s := by
  have isz : items.size = ks.length := by
    have := congrArg List.length hi
    rwa [Array.length_toList, List.length_map] at this
  obtain ⟨c, tl, m1⟩ := F.called_set.mro
  have m2 := F.called_set.made
  have m3 := F.called_set.sub
  apply wpAny_call
  apply codeAny_of_tree
  show wpAny _ _ (callAny (.type "set") _) _ _ _
  apply wpAny_pure
  refine ⟨Code.quiet_builtin _ (by decide +kernel), ?_⟩
  apply codeAny_builtin F.entry_type_call
  rw [Around.under_plain (weight_type_call_type "set" [.ref l] []) rfl]
  have m4 := F.called_set.notType
  have m5 := F.called_set.canCreate
  have m6 := F.typeCall_set_1 (.ref l)
  repeat (any_goals (first | assumption | wp_step))
  apply codeAny_mono (code_set_led1 (.ref l) (E := E) (Q₁ := fun obj s₁ => obj = .ref s.heap.objs.size ∧ s₁ = { s with heap := s.heap.push ⟨.type "set", none, .set #[] 0 (.fresh 0 0 (!w.params.followText "set-order")), #[]⟩ }) ⟨rfl, rfl⟩)
  intro r s₁ hr
  cases r with
  | error e => exact hr
  | ok fl =>
    cases fl with
    | ret obj =>
      obtain ⟨rfl, rfl⟩ := hr
      generalize hnew : (⟨.type "set", none, .set #[] 0 (.fresh 0 0 (!w.params.followText "set-order")), #[]⟩ : Obj) = O
      have at0 : (s.heap.push O).get? s.heap.objs.size = some O := Heap.get?_push_size _ (by rw [← hnew]; rfl)
      have ty0 : Shared.TypeIs { s with heap := s.heap.push O } (.ref s.heap.objs.size) "set" := ⟨_, at0, by rw [← hnew]⟩
      have m7 := F.called_set.init.lookup
      have m8 := F.called_set.init.bind (.ref s.heap.objs.size)
      repeat (any_goals (first | assumption | wp_step))
      refine codeAny_mono (codeAny_call_builtin (R := wants (fun r s₂ => r = .none ∧ ∃ h' tk L es ep t, s₂ = { s with heap := h', toks := tk } ∧ TRow prog w h' s.heap.objs.size L es ep t ∧ Met ks L ks.length ∧ ∀ b o, s.heap.get? b = some o → h'.get? b = some o) E) F.called_set.init.plain F.entry_set_init (check_set_init_1 ty0 ?_)) fun r₂ s₂ hr₂ => ?_
      · have hl1 := hl.push O
        have lLt : l < s.heap.objs.size := by
          obtain ⟨ol, h1, _⟩ := hl
          exact Heap.lt_size h1
        obtain ⟨ol, h1, hcl, nl, hdl⟩ := hl
        obtain ⟨ocls, odict, odata, oslots⟩ := ol
        simp only at hcl hdl
        subst hcl
        subst hdl
        have hol' := Heap.get?_push_of_some O h1
        have m9 := F.sub_list_set
        have m10 := F.sub_list_frozenset
        have m11 : (Value.type "list" == Value.type "dict") = false := by decide
        obtain ⟨O', hO⟩ : ∃ O', O' = O := ⟨_, rfl⟩
        subst hnew
        unfold Builtin.«set.__init__» noKeywords Builtin.Frozenset.updateFrom
        generalize hPI : pyIter = PI
        wp_walk
        subst hPI
        apply wpAny_pyIter_list hl1
        apply wpAny_bind
        apply wpAny_runValue
        rw [← hO] at hl1 at0 ⊢
        have calm3 : A.in1.in1.in1.handled = none := by simp [calm]
        have sz : (s.heap.push O').objs.size = s.heap.objs.size + 1 := Heap.size_push _ _
        have nI : l ≠ (s.heap.push O').objs.size := by rw [sz]; exact Nat.ne_of_lt (Nat.lt_succ_of_lt lLt)
        have nS : s.heap.objs.size ∉ [(s.heap.push O').objs.size, l] := by
          rw [sz]
          simp only [List.mem_cons, List.not_mem_nil, or_false, not_or]
          exact ⟨Nat.ne_of_lt (Nat.lt_succ_self _), Nat.ne_of_gt lLt⟩
        have out : ∀ b, s.heap.objs.size ≤ b → s.heap.get? b = none := fun b hb => by
          cases z : s.heap.get? b with
          | none => rfl
          | some o => exact absurd (Heap.lt_size z) (Nat.not_lt.mpr hb)
        refine tups_loop (R := wants _ _) (Walks.list calm3 _ l nI items).toS s.heap.objs.size nS ks isz few (fun i v z => ?_) s.heap tup (out _ (Nat.le_refl _)) (fun b hb => out b (by rw [List.mem_singleton.mp hb, sz]; omega)) (by show A.units + 3 < cLine; exact hu) (fun s' => ∃ h' tk L es ep t, s' = { s with heap := h', toks := tk } ∧ TRow prog w h' s.heap.objs.size L es ep t ∧ Met ks L ks.length ∧ ∀ b o, s.heap.get? b = some o → h'.get? b = some o) ?_ items.size 0 _ (by omega) ⟨⟨_, Heap.get?_push_size _ rfl, rfl, rfl⟩, hl1.push _⟩ (fun b o z => Heap.get?_push_of_some _ (Heap.get?_push_of_some _ z)) ?_ ?_
        · have z' : items.toList[i]? = some v := by rw [Array.getElem?_toList]; exact z
          rw [hi, List.getElem?_map] at z'
          cases hq : ks[i]? with
          | none => rw [hq] at z'; cases z'
          | some q => rw [hq] at z'; exact ⟨q, rfl, (Option.some.inj z').symm⟩
        · rintro s' ⟨h', tk, L, es, ep, t, rfl, a1, a2, a3⟩
          show wpAny _ _ _ _ _ _
          apply wpAny_pure
          show wpAny _ _ (ret Value.none) _ _ _
          exact wpAny_pure ⟨rfl, h', tk, L, es, ep, t, rfl, a1, a2, a3⟩
        · have at1 := Heap.get?_push_of_some (⟨.type "list_iterator", none, .fields #[.ref l, .int 0 0], #[]⟩ : Obj) at0
          obtain ⟨L, es, ep, t, a1, a2⟩ := tset_new (prog := prog) (w := w) (by rw [← hO]; exact at1)
          exact ⟨L, es, ep, t, a1, a2 ks⟩
        · intro s' L es ep t hm hS' m'
          obtain ⟨h', g', d', tk', os'⟩ := s'
          have e1 : g' = s.gens := hm.gens
          have e2 : d' = s.drawn := hm.drawn
          have e3 : os' = s.os := hm.os
          subst e1 e2 e3
          refine ⟨h', tk', L, es, ep, t, rfl, hS', by rw [← isz]; exact m', fun b o eo => ?_⟩
          have bl := Heap.lt_size eo
          apply hm.heap b o
          · rw [sz]
            simp only [List.mem_cons, List.not_mem_nil, or_false, not_or]
            exact ⟨Nat.ne_of_lt bl, Nat.ne_of_lt (Nat.lt_succ_of_lt bl)⟩
          · exact Heap.get?_push_of_some _ (Heap.get?_push_of_some _ eo)
      · cases r₂ with
        | error e => exact hr₂
        | ok fl₂ =>
          cases fl₂ with
          | ret r =>
            obtain ⟨rfl, h', tk, L, es, ep, t, rfl, a1, a2, a3⟩ := hr₂
            repeat (any_goals (first | assumption | wp_step))
            exact fin _ _ _ _ _ _ a1 a2 a3
          | _ => exact hr₂.elim
    | _ => exact hr.elim
end
end Lt

set_option autoImplicit false
/-! ## tuples of a text and a key in order -/
namespace Lt
open PySem PySem.Spec PyProof.Rows L2 TL
/-- v is a tuple of this text and this key -/
def PrK (P : Program) (w : World) (h : Heap) (v : Value) (q : Str × Key) : Prop := ∃ a, v = .ref a ∧ IsTupleKey (mixKind P w) h [.inr q.1, q.2] a
theorem PrK.items {P : Program} {w : World} {h : Heap} {v : Value} {q : Str × Key} (x : PrK P w h v q) : ∃ a o its n t u, v = .ref a ∧ h.get? a = some o ∧ o.cls = .type "tuple" ∧ o.data = .seq its n ∧ its.toList = [.str q.1 t, u] ∧ keyIs q.2 u = true := by
  obtain ⟨a, rfl, o, its, n, ho, hc, hd, hi⟩ := x
  revert hi
  generalize hl : its.toList = l
  intro hi
  cases hi with
  | cons h1 hi =>
    cases hi with
    | cons h2 hi =>
      cases hi
      have h1 : keyIs (.inr q.1) _ = true := h1
      rcases keyIs_shape h1 with ⟨i, t, e, _⟩ | ⟨x, t, e, e2⟩
      · cases e
      · cases e
        subst e2
        exact ⟨a, o, its, n, t, _, rfl, ho, hc, hd, hl, h2⟩
theorem PrK.inj {P : Program} {w : World} {h : Heap} {v : Value} {q r : Str × Key} (x : PrK P w h v q) (y : PrK P w h v r) : q = r := by
  obtain ⟨a, rfl, x⟩ := x
  obtain ⟨b, e, y⟩ := y
  cases e
  have e := x.inj y
  have e1 := List.cons.inj e
  have e2 := List.cons.inj e1.2
  exact Prod.ext (Sum.inr.inj e1.1) e2.1
theorem PrK.kept {P : Program} {w : World} {h h' : Heap} {v : Value} {q : Str × Key} (x : PrK P w h v q) (k : ∀ b o, h.get? b = some o → o.cls = .type "tuple" → h'.get? b = some o) : PrK P w h' v q := by
  obtain ⟨a, rfl, o, its, n, ho, hc, r⟩ := x
  exact ⟨a, rfl, o, its, n, k _ _ ho hc, hc, r⟩
noncomputable def rdP (P : Program) (w : World) (h : Heap) (v : Value) : Str × Key := @dite _ (∃ q, PrK P w h v q) (Classical.propDecidable _) (fun e => e.choose) fun _ => ("", .inl 0)
theorem rdP_eq {P : Program} {w : World} {h : Heap} {v : Value} {q : Str × Key} (x : PrK P w h v q) : rdP P w h v = q := by
  unfold rdP
  rw [dif_pos ⟨q, x⟩]
  exact PrK.inj (Exists.choose_spec (⟨q, x⟩ : ∃ q, PrK P w h v q)) x
def pLt (p q : Str × Key) : Bool := if p.1 = q.1 then kLt p.2 q.2 else decide (tl p.1 < tl q.1)
theorem tl_inj {x y : Str} (h : tl x = tl y) : x = y := by
  obtain ⟨x⟩ := x
  obtain ⟨y⟩ := y
  have : x = y := Array.toList_inj.mp h
  rw [this]
theorem kLt_asym : ∀ {a b : Key}, kLt a b = true → kLt b a = false
  | .inl a, .inl b, h => by
    have h := of_decide_eq_true h
    exact decide_eq_false (by omega)
  | .inr a, .inr b, h => decide_eq_false (List.lt_asymm (of_decide_eq_true h))
  | .inl _, .inr _, _ => rfl
  | .inr _, .inl _, h => nomatch h
theorem kLt_tr : ∀ {x y z : Key}, kLt y x = false → kLt z y = false → kLt z x = false
  | .inl x, .inl y, .inl z, h1, h2 => by
    have h1 := of_decide_eq_false h1
    have h2 := of_decide_eq_false h2
    exact decide_eq_false (by omega)
  | .inr x, .inr y, .inr z, h1, h2 => decide_eq_false (List.not_lt.mpr (List.le_trans (List.not_lt.mp (of_decide_eq_false h1)) (List.not_lt.mp (of_decide_eq_false h2))))
  | .inl _, _, .inr _, _, _ => rfl
  | .inr _, .inl _, _, h1, _ => nomatch h1
  | _, .inr _, .inl _, _, h2 => nomatch h2
theorem kLt_eq : ∀ {a b : Key}, kLt a b = false → kLt b a = false → a = b
  | .inl a, .inl b, h1, h2 => by
    have h1 := of_decide_eq_false h1
    have h2 := of_decide_eq_false h2
    rw [show a = b by omega]
  | .inr a, .inr b, h1, h2 => by rw [tl_inj (List.le_antisymm (List.not_lt.mp (of_decide_eq_false h2)) (List.not_lt.mp (of_decide_eq_false h1)))]
  | .inl _, .inr _, h1, _ => nomatch h1
  | .inr _, .inl _, _, h2 => nomatch h2
theorem pLt_asym {p q : Str × Key} (h : pLt p q = true) : pLt q p = false := by
  unfold pLt at h ⊢
  by_cases e : p.1 = q.1
  · rw [if_pos e] at h
    rw [if_pos e.symm]
    exact kLt_asym h
  · rw [if_neg e] at h
    rw [if_neg fun z => e z.symm]
    exact decide_eq_false (List.lt_asymm (of_decide_eq_true h))
theorem pLt_tr {x y z : Str × Key} (h1 : pLt y x = false) (h2 : pLt z y = false) : pLt z x = false := by
  unfold pLt at h1 h2 ⊢
  by_cases e1 : y.1 = x.1
  · rw [if_pos e1] at h1
    by_cases e2 : z.1 = y.1
    · rw [if_pos e2] at h2
      rw [if_pos (e2.trans e1)]
      exact kLt_tr h1 h2
    · rw [if_neg e2] at h2
      rw [if_neg (by rw [← e1]; exact e2), ← e1]
      exact h2
  · rw [if_neg e1] at h1
    have l1 := List.not_lt.mp (of_decide_eq_false h1)
    by_cases e2 : z.1 = y.1
    · rw [if_neg (by rw [e2]; exact e1), e2]
      exact h1
    · rw [if_neg e2] at h2
      have l2 := List.not_lt.mp (of_decide_eq_false h2)
      by_cases e3 : z.1 = x.1
      · exfalso
        rw [e3] at l2
        exact e1 (tl_inj (List.le_antisymm l2 l1))
      · rw [if_neg e3]
        exact decide_eq_false (List.not_lt.mpr (List.le_trans l1 l2))
theorem pLt_eq {p q : Str × Key} (h1 : pLt p q = false) (h2 : pLt q p = false) : p = q := by
  unfold pLt at h1 h2
  by_cases e : p.1 = q.1
  · rw [if_pos e] at h1
    rw [if_pos e.symm] at h2
    exact Prod.ext e (kLt_eq h1 h2)
  · rw [if_neg e] at h1
    rw [if_neg fun z => e z.symm] at h2
    exact absurd (tl_inj (List.le_antisymm (List.not_lt.mp (of_decide_eq_false h2)) (List.not_lt.mp (of_decide_eq_false h1)))) e
theorem swo_p (f : Value → Str × Key) : SrtO.Swo fun v u => pLt (f v) (f u) := ⟨fun _ _ => pLt_asym, fun _ _ _ => pLt_tr⟩
/-- keys beside one text are of one kind -/
def Agree (qs : List (Str × Key)) : Prop := ∀ p ∈ qs, ∀ q ∈ qs, p.1 = q.1 → p.2.isLeft = q.2.isLeft
section
variable {P : Program} {w : World} {A : Around} {s : Shared}
theorem pr_cmp {vs : List Value} {f : Value → Str × Key} (hp : ∀ v ∈ vs, PrK P w s.heap v (f v)) (ag : Agree (vs.map f)) : SrtO.Cmp P w A s (tuples' true) (fun p => p.1 ∈ vs) (SrtO.lt2 fun v u => pLt (f v) (f u)) := by
  intro p q hm hm'
  have both := ag _ (List.mem_map.mpr ⟨_, hm, rfl⟩) _ (List.mem_map.mpr ⟨_, hm', rfl⟩)
  obtain ⟨a, o, its, n, t, u, e, ho, hc, hd, hl, hu⟩ := (hp _ hm).items
  obtain ⟨a', o', its', n', t', u', e', ho', hc', hd', hl', hu'⟩ := (hp _ hm').items
  show wpAny (model P w) A (keyLt' (tuples' true) p.1 q.1) (fun r s' => s' = s ∧ r = pLt (f p.1) (f q.1)) (fun _ _ => False) s
  unfold pLt
  generalize (f p.1).1 = x at *
  generalize (f p.1).2 = k at *
  generalize (f q.1).1 = x' at *
  generalize (f q.1).2 = k' at *
  rw [e, e']
  apply PySem.W.kat_lt ho hd ho' hd'
  rw [hl, hl']
  have sz : its.size = its'.size := by
    rw [← Array.length_toList, ← Array.length_toList, hl, hl']; rfl
  rw [sz, decide_eq_false (Nat.lt_irrefl _)]
  show PySem.W.KatLex P w A true false _ [(.str x t, .str x' t'), (u, u')] 0 s
  apply PySem.W.kat_cons
  apply wpAny_eqBool_str
  refine PySem.W.kat_go (fun e1 => ?_) (fun e1 => ?_)
  · have ex : x = x' := by simpa using e1
    rw [if_pos ex]
    have same := both ex
    apply PySem.W.kat_yes
    apply PySem.W.kat_cons
    rcases keyIs_shape hu with ⟨i, tu, rfl, rfl⟩ | ⟨y, tu, rfl, rfl⟩ <;> rcases keyIs_shape hu' with ⟨i', tu', rfl, rfl⟩ | ⟨y', tu', rfl, rfl⟩
    · apply wpAny_eqBool_int
      refine PySem.W.kat_go (fun e2 => ?_) (fun e2 => ?_)
      · have ey : i = i' := by simpa using e2
        exact PySem.W.kat_yes (PySem.W.kat_nil ⟨rfl, by rw [ey]; exact (decide_eq_false (Int.lt_irrefl _)).symm⟩)
      · exact PySem.W.kat_no (PySem.W.kat_one _ _ (PyProof.Rows.lt_int ⟨rfl, rfl⟩))
    · cases same
    · cases same
    · apply wpAny_eqBool_str
      refine PySem.W.kat_go (fun e2 => ?_) (fun e2 => ?_)
      · have ey : y = y' := by simpa using e2
        exact PySem.W.kat_yes (PySem.W.kat_nil ⟨rfl, by rw [ey]; exact (decide_eq_false (List.lt_irrefl _)).symm⟩)
      · exact PySem.W.kat_no (PyProof.Rows.oneLt_any_str ⟨rfl, rfl⟩)
  · have ex : ¬ x = x' := by simpa using e1
    rw [if_neg ex]
    exact PySem.W.kat_no (PyProof.Rows.oneLt_any_str ⟨rfl, rfl⟩)
theorem pr_firsts {h : Heap} : ∀ {vs : List Value}, (∀ v ∈ vs, ∃ q, PrK P w h v q) → ∃ fs, PySem.W.KatTups h vs fs ∧ fs.length = vs.length ∧ ∀ x ∈ fs, ∃ y t, x = Value.str y t
  | [], _ => ⟨[], PySem.W.KatTups.nil, rfl, fun x hx => nomatch hx⟩
  | v :: vs, hv => by
    obtain ⟨q, hq⟩ := hv v List.mem_cons_self
    obtain ⟨fs, h1, h2, h3⟩ := pr_firsts fun u hu => hv u (List.mem_cons_of_mem _ hu)
    obtain ⟨a, o, its, n, t, u, rfl, ho, hc, hd, hl, _⟩ := hq.items
    refine ⟨.str q.1 t :: fs, PySem.W.KatTups.cons ho hc hd (by rw [← Array.getElem?_toList, hl]; rfl) h1, by rw [List.length_cons, List.length_cons, h2], fun x hx => ?_⟩
    rcases List.mem_cons.mp hx with rfl | hx
    · exact ⟨_, _, rfl⟩
    · exact h3 x hx
theorem prs_sortable {a : Addr} {vs : List Value} {f : Value → Str × Key} (h0 : 0 < vs.length) (hp : ∀ v ∈ vs, PrK P w s.heap v (f v)) (ag : Agree (vs.map f)) (ha : ∀ o, s.heap.get? a = some o → o.cls ≠ .type "tuple") : SrtO.SortableO P w A s a vs fun v u => pLt (f v) (f u) := by
  intro h' keep
  have hp' : ∀ v ∈ vs, PrK P w h' v (f v) := fun v hm => (hp v hm).kept fun b o e c => keep b o (fun z => by subst z; exact ha o e c) e
  obtain ⟨fs, h1, h2, h3⟩ := pr_firsts fun v hm => ⟨_, hp' v hm⟩
  refine ⟨tuples' true, fun Q E hq => ?_, pr_cmp hp' ag⟩
  have e : (Value.type "str" != Value.type "tuple") = true := by first | decide +kernel | rfl | decide
  refine PySem.W.kat_kind (T := .type "str") h1 (by omega) (fun x hm => ?_) (by rfl) (by rw [e]; exact hq)
  obtain ⟨y, t, rfl⟩ := h3 x hm
  exact PySem.W.Looks.of_pure rfl
end
end Lt

set_option autoImplicit false
/-! ## sets of ints and texts that are walked: sorted(set(xs)) -/
namespace Lt
open PySem PySem.Spec PyProof.Rows L2 TL
def keyV : Value → Key
  | .int i _ => .inl i
  | .str x _ => .inr x
  | _ => .inl 0
theorem keyV_eq {k : Key} {v : Value} (h : keyIs k v = true) : keyV v = k := by
  rcases keyIs_shape h with ⟨i, t, rfl, rfl⟩ | ⟨x, t, rfl, rfl⟩ <;> rfl
def okE (P : Program) (w : World) (e : Int × Value) : Prop := keyIs (keyV e.2) e.2 = true ∧ e.1 = (mixKind P w).hash (keyV e.2) ∧ e.2.scannable = true
def keysE (es : Array (Int × Value)) : List Key := es.toList.map fun e => keyV e.2
def KS (P : Program) (w : World) (h : Heap) (a : Addr) (L : List Key) : Prop :=
  ∃ o es ep t, h.get? a = some o ∧ o.ExactSet ∧ o.data = .set es ep t ∧ (∀ e ∈ es.toList, okE P w e) ∧ keysE es = L ∧ L.Nodup ∧ es.size < scanBound ∧ t.fits es.size = true ∧ Ris t.place.toList ∧ (w.params.followText "set-order" = true ∨ t.led = true)
theorem KS.keep {P : Program} {w : World} {h h' : Heap} {a : Addr} {L : List Key} (R : KS P w h a L) (k : ∀ o, h.get? a = some o → h'.get? a = some o) : KS P w h' a L := by
  obtain ⟨o, es, ep, t, ho, r⟩ := R
  exact ⟨o, es, ep, t, k o ho, r⟩
theorem keysE_len (es : Array (Int × Value)) : (keysE es).length = es.size := by
  unfold keysE
  rw [List.length_map, Array.length_toList]
section
variable {P : Program} {w : World} {A : Around} {E : Value → Shared → Prop} {s : Shared} {a : Addr} {L : List Key}
/-- what stands behind a new entry -/
theorem ks_tail {g : Bool → Sem Unit} (hg : ∀ (b : Bool) (s₁ : Shared) (Q' : Unit → Shared → Prop), Q' () s₁ → wpAny (model P w) A (g b) Q' E s₁) {o : Obj} {es es1 : Array (Int × Value)} {ep : Nat} {t t2 : SetTable}
    (ho : s.heap.get? a = some o) (hex : o.ExactSet) (hd : o.data = .set es ep t) (g1 : ∀ e ∈ es1.toList, okE P w e) (nd : (keysE es1).Nodup) (sz : es1.size < scanBound) (ft : t2.fits es1.size = true) (rs : Ris t2.place.toList)
    (ld : w.params.followText "set-order" = true ∨ t2.led = true) {dm : Bool} {R : Option Bool → Shared → Prop} (fin : ∀ h' L', Heap.SameBut a s.heap h' → KS P w h' a L' → L'.Perm (keysE es1) → R (some true) { s with heap := h' }) :
    wpAny (model P w) A (do
      storeSet a es1 t2
      if (!dm && t2.tooFull) = true then do
        g (relayAll t2 es1 (SetTable.grown es1.size)).2.2
        storeSet a (relayAll t2 es1 (SetTable.grown es1.size)).1 (relayAll t2 es1 (SetTable.grown es1.size)).2.1
        pure (some true)
      else pure (some true)) R E s := by
  apply wpAny_bind
  refine wpAny_storeSet_of ho hd ?_ (fits_of_scanBound sz)
  have ho1 := store_at (es' := es1) (t' := t2) ho hd
  have sb := Heap.SameBut.update s.heap a (Obj.putSet es1 t2)
  split
  · have pm := relayAll_perm t2 es1 (SetTable.grown es1.size)
    have ft3 := relayAll_fits t2 es1 (SetTable.grown es1.size)
    have rs3 := relayAll_ris t2 es1 (SetTable.grown es1.size)
    have ld3 := relayAll_led t2 es1 (SetTable.grown es1.size)
    generalize relayAll t2 es1 (SetTable.grown es1.size) = Z at pm ft3 rs3 ld3 ⊢
    obtain ⟨es2, t3, gave⟩ := Z
    dsimp only at pm ft3 rs3 ld3 ⊢
    have sz2 : es2.size = es1.size := by rw [← Array.length_toList, pm.length_eq, Array.length_toList]
    have pk : (keysE es2).Perm (keysE es1) := pm.map _
    apply wpAny_bind
    apply hg
    apply wpAny_bind
    refine wpAny_storeSet_of ho1 rfl ?_ (fits_of_scanBound (by rw [sz2]; exact sz))
    exact wpAny_pure (fin _ _ (sb.trans (Heap.SameBut.update _ a _)) ⟨_, es2, _, t3, store_at ho1 rfl, hex, rfl, fun e he => g1 e (pm.mem_iff.mp he), rfl, pk.nodup_iff.mpr nd, by rw [sz2]; exact sz, ft3, rs3, ld.imp id fun z => ld3.trans z⟩ pk)
  · exact wpAny_pure (fin _ _ sb ⟨_, es1, _, t2, ho1, hex, rfl, g1, rfl, nd, sz, ft, rs, ld⟩ (List.Perm.refl _))
theorem ks_add {k : Key} {v : Value} (hk : keyIs k v = true) (sc : v.scannable = true) (R : KS P w s.heap a L) (room : L.length + 1 < scanBound) {Q : Bool → Shared → Prop}
    (fin : ∀ b h' L', Heap.SameBut a s.heap h' → KS P w h' a L' → (k ∈ L → L' = L) → (k ∉ L → L'.Perm (k :: L)) → Q b { s with heap := h' }) : wpAny (model P w) A (setAddHashed a v ((mixKind P w).hash k)) Q E s := by
  have R0 := R
  obtain ⟨o, es, ep, t, ho, hex, hd, g, eL, nd, sz, ft, rs, ld⟩ := R
  have hk' : (mixKind P w).is k v = true := hk
  have el : ElemsOf (mixKind P w) es.toList := fun e he => ⟨⟨keyV e.2, (g e he).1, (g e he).2.1⟩, (g e he).2.2⟩
  have mem : ∀ j : Key, j ∈ L ↔ ∃ e ∈ es.toList, (mixKind P w).is j e.2 = true := fun j => by
    rw [← eL]
    unfold keysE
    rw [List.mem_map]
    constructor
    · rintro ⟨e, he, rfl⟩
      exact ⟨e, he, (g e he).1⟩
    · rintro ⟨e, he, q⟩
      exact ⟨e, he, keyV_eq q⟩
  unfold setAddHashed setAddHashedIn
  apply wpAny_holding
  apply wpAny_bind
  apply wpAny_setState_of ho hd ft
  dsimp only
  rw [byScan_of sc sz el]
  simp only [↓reduceIte]
  unfold setAddByScan
  apply wpAny_bind
  apply wpAny_bind
  apply wpAny_rule
  apply wpAny_bind
  apply wpAny_setScan_of hk' ho hd ft el
  cases fi : List.findIdx? (fun e => (mixKind P w).is k e.2) es.toList with
  | some j =>
    dsimp only
    obtain ⟨hj, pj, _⟩ := List.findIdx?_eq_some_iff_getElem.mp fi
    have inL : k ∈ L := (mem k).mpr ⟨_, List.getElem_mem hj, pj⟩
    apply wpAny_pure
    exact wpAny_pure (fin false s.heap L (Heap.SameBut.refl a s.heap) R0 (fun _ => rfl) fun z => absurd inL z)
  | none =>
    dsimp only
    have out : k ∉ L := fun z => by
      obtain ⟨e, he, q⟩ := (mem k).mp z
      have c := List.findIdx?_eq_none_iff.mp fi e he
      rw [q] at c
      cases c
    have quiet : ∀ (b : Bool) (s₁ : Shared) (Q' : Unit → Shared → Prop), Q' () s₁ → wpAny (model P w) A (match b with | true => rule "set.scan.the-table-gave-way" | false => pure ()) Q' E s₁ := fun b s₁ Q' q => by
      cases b <;> first | exact wpAny_pure q | exact wpAny_rule q
    have pm := layNew_perm t es ((mixKind P w).hash k) v
    have ft1 := layNew_fits t es ((mixKind P w).hash k) v
    have rs1 := layNew_ris t es ((mixKind P w).hash k) v rs
    have ld1 := layNew_led t es ((mixKind P w).hash k) v
    generalize layNew t es ((mixKind P w).hash k) v = Z at pm ft1 rs1 ld1 ⊢
    obtain ⟨es1, t1, dm, gave⟩ := Z
    dsimp only at pm ft1 rs1 ld1 ⊢
    rw [Array.toList_push] at pm
    have pc : es1.toList.Perm (((mixKind P w).hash k, v) :: es.toList) := pm.trans (List.perm_append_singleton _ _)
    have pk : (keysE es1).Perm (k :: L) := by
      have z := pc.map fun e => keyV e.2
      rw [List.map_cons] at z
      rw [← eL, show k = keyV v from (keyV_eq hk).symm]
      exact z
    have g1 : ∀ e ∈ es1.toList, okE P w e := fun e he => by
      rcases List.mem_cons.mp (pc.mem_iff.mp he) with rfl | z
      · exact ⟨by show keyIs (keyV v) v = true; rw [keyV_eq hk]; exact hk, by show _ = (mixKind P w).hash (keyV v); rw [keyV_eq hk], sc⟩
      · exact g e z
    have nd1 : (keysE es1).Nodup := pk.nodup_iff.mpr (List.nodup_cons.mpr ⟨out, nd⟩)
    have sz1 : es1.size < scanBound := by rw [← keysE_len, pk.length_eq, List.length_cons]; exact room
    have led1 : w.params.followText "set-order" = true ∨ t1.led = true := ld.imp id fun z => ld1.trans z
    have done : ∀ h' L', Heap.SameBut a s.heap h' → KS P w h' a L' → L'.Perm (keysE es1) → Q true { s with heap := h' } := fun h' L' sb r p => fin true h' L' sb r (fun z => absurd z out) fun _ => p.trans pk
    apply wpAny_bind
    apply quiet
    split
    · apply wpAny_bind
      rw [hashByValue_scannable 8 sc]
      apply wpAny_pure
      refine ks_tail (fun b s₁ Q' q => ?_) ho hex hd g1 nd1 sz1 ?_ ?_ ?_ fun h' L' sb r p => ?_
      · cases b <;> first | exact wpAny_pure q | exact wpAny_rule q
      · first | (split <;> first | exact ft1 | exact SetTable.fits_plain_off ft1) | exact ft1
      · first | (split <;> exact rs1) | exact rs1
      · first | (split <;> exact led1) | exact led1
      · exact wpAny_pure (done h' L' sb r p)
    · apply wpAny_bind
      apply wpAny_pure
      simp only [↓reduceIte]
      refine ks_tail (fun b s₁ Q' q => ?_) ho hex hd g1 nd1 sz1 ft1 rs1 led1 fun h' L' sb r p => ?_
      · cases b <;> first | exact wpAny_pure q | exact wpAny_rule q
      · exact wpAny_pure (done h' L' sb r p)
end
/-- what a set has of the first i keys -/
structure MetK (ks L : List Key) (i : Nat) : Prop where
  all : ∀ q, q ∈ L ↔ q ∈ ks.take i
  len : L.length ≤ i
theorem MetK.step {ks L L' : List Key} {i : Nat} {x : Key} (m : MetK ks L i) (hx : ks[i]? = some x) (old : x ∈ L → L' = L) (new : x ∉ L → L'.Perm (x :: L)) : MetK ks L' (i + 1) := by
  have tk : ks.take (i + 1) = ks.take i ++ [x] := by rw [List.take_succ, hx]; rfl
  by_cases h : x ∈ L
  · rw [old h]
    refine ⟨fun q => ?_, Nat.le_succ_of_le m.len⟩
    rw [tk, List.mem_append, List.mem_singleton, m.all]
    refine ⟨.inl, fun z => z.elim id fun e => ?_⟩
    rw [e]; exact (m.all x).mp h
  · have pm := new h
    refine ⟨fun q => ?_, by rw [pm.length_eq]; exact Nat.succ_le_succ m.len⟩
    rw [pm.mem_iff, tk, List.mem_append, List.mem_singleton, List.mem_cons, m.all]
    exact Or.comm
section
variable {prog : Program} {w : World} {A : Around} {I : Addr} {fp wr : List Addr} {G : Array GenState → Array GenState → Prop} {n : Nat} {P : Nat → Value → Prop} {St : Nat → Shared → Prop}
theorem keys_walk {R : Result → Shared → Prop} (W : WalksS prog w A.in1 I fp wr G n P St) (a : Addr) (na : a ∉ fp) (ks : List Key) (en : n = ks.length) (few : ks.length < 4000) (hv : ∀ i v, P i v → ∃ k, ks[i]? = some k ∧ keyIs k v = true ∧ v.scannable = true)
    (fin : Shared → Prop) (hfin : ∀ s, fin s → R (.ok (.ret .none)) s) : ∀ (left i : Nat) (s : Shared), i + left = n → St i s → (∃ L, KS prog w s.heap a L ∧ MetK ks L i) →
      (∀ s' L, Moved (a :: wr) G s s' → KS prog w s'.heap a L → MetK ks L n → fin s') → codeAny (model prog w) A (.builtin "set.update.loop" ⟨[.ref a, .ref I], []⟩) R s := by
  have nw : a ∉ wr := fun h => na (W.sub _ h)
  have up : ∀ b ∈ wr, b ∈ a :: wr := fun b hb => List.mem_cons_of_mem _ hb
  intro left
  induction left with
  | zero =>
    intro i s e st ⟨L, hS, m⟩ done
    have e' : i = n := by omega
    rw [e'] at st m
    apply codeAny_builtin F.entry_set_update_loop
    rw [Around.under_plainId F.plain_set_update_loop _]
    show wpAny _ A.in1 (do let x ← pyNext (.ref I); _) _ _ s
    apply wpAny_bind
    apply W.done s _ _ st
    intro s' hm
    show wpAny _ A.in1 (ret Value.none) _ _ s'
    exact wpAny_pure (hfin _ (done s' L (hm.mono up) (hS.keep fun o => hm.heap a o nw) m))
  | succ left ih =>
    intro i s e st ⟨L, hS, m⟩ done
    apply codeAny_builtin F.entry_set_update_loop
    rw [Around.under_plainId F.plain_set_update_loop _]
    show wpAny _ A.in1 (do let x ← pyNext (.ref I); _) _ _ s
    apply wpAny_bind
    apply W.item i s _ _ (by omega) st
    intro v s' hP st' hm
    obtain ⟨k, hq, hk, sc⟩ := hv i v hP
    have hS' := hS.keep fun o => hm.heap a o nw
    show wpAny _ A.in1 (do let _ ← holding [v] (setAdd a v); _) _ _ s'
    apply wpAny_bind
    apply wpAny_holding
    unfold setAdd
    apply wpAny_holding
    apply wpAny_bind
    apply (mixKind prog w).pyHash (k := k) hk
    refine ks_add (s := { s' with toks := s'.toks + 1 }) hk sc hS' (by have := m.len; unfold scanBound; omega) fun b h' L' sb hS2 c1 c2 => ?_
    refine wpAny_pure ⟨plainId_quiet F.plain_set_update_loop _, ih (i + 1) _ (by omega) (W.frame _ s' _ _ st' (Nat.le_succ _) fun b hb o eo => (sb.2 b fun z => na (z ▸ hb)).trans eo) ⟨L', hS2, m.step hq c1 c2⟩ fun s2 L2 hm2 hS3 m3 => ?_⟩
    exact done s2 L2 (Moved.trans W.gtrans ((hm.mono up).then_heap (Nat.le_succ _) fun b o hb eo => (sb.2 b fun z => hb (z ▸ List.mem_cons_self)).trans eo) hm2) hS3 m3
end
section
variable {prog : Program} {w : World} {A : Around} {E : Value → Shared → Prop} {s : Shared}
theorem kset_new {h : Heap} {a : Addr} (ho : h.get? a = some ⟨.type "set", none, .set #[] 0 (.fresh 0 0 (!w.params.followText "set-order")), #[]⟩) : ∃ L, KS prog w h a L ∧ ∀ ks, MetK ks L 0 := by
  refine ⟨[], ⟨_, #[], 0, _, ho, ⟨rfl, rfl, rfl⟩, rfl, fun e he => (nomatch he), rfl, List.nodup_nil, by decide, by rfl, List.Pairwise.nil, ?_⟩, fun ks => ⟨fun q => by simp, Nat.le_refl _⟩⟩
  show _ ∨ (!w.params.followText "set-order") = true
  cases w.params.followText "set-order"
  · exact .inr rfl
  · exact .inl rfl
/-- set(x), x a list of keys -/
theorem kset_of_list {l : Addr} {items : Array Value} (ks : List Key) {Q : Value → Shared → Prop} (calm : A.handled = none) (hl : s.heap.IsList l items) (isz : items.size = ks.length) (hi : ∀ (i : Nat) (v : Value), items[i]? = some v → ∃ k, ks[i]? = some k ∧ keyIs k v = true ∧ v.scannable = true) (few : ks.length < 4000)
    (fin : ∀ (h' : Heap) (tk : Nat) L, KS prog w h' s.heap.objs.size L → MetK ks L ks.length → (∀ b o, s.heap.get? b = some o → h'.get? b = some o) → Q (.ref s.heap.objs.size) { s with heap := h', toks := tk }) :
    wpAny (model prog w) A (call (.type "set") [.ref l]) Q E s := by
  obtain ⟨c, tl, m1⟩ := F.called_set.mro
  have m2 := F.called_set.made
  have m3 := F.called_set.sub
  apply wpAny_call
  apply codeAny_of_tree
  show wpAny _ _ (callAny (.type "set") _) _ _ _
  apply wpAny_pure
  refine ⟨Code.quiet_builtin _ (by decide +kernel), ?_⟩
  apply codeAny_builtin F.entry_type_call
  rw [Around.under_plain (weight_type_call_type "set" [.ref l] []) rfl]
  have m4 := F.called_set.notType
  have m5 := F.called_set.canCreate
  have m6 := F.typeCall_set_1 (.ref l)
  repeat (any_goals (first | assumption | wp_step))
  apply codeAny_mono (code_set_led1 (.ref l) (E := E) (Q₁ := fun obj s₁ => obj = .ref s.heap.objs.size ∧ s₁ = { s with heap := s.heap.push ⟨.type "set", none, .set #[] 0 (.fresh 0 0 (!w.params.followText "set-order")), #[]⟩ }) ⟨rfl, rfl⟩)
  intro r s₁ hr
  cases r with
  | error e => exact hr
  | ok fl =>
    cases fl with
    | ret obj =>
      obtain ⟨rfl, rfl⟩ := hr
      generalize hnew : (⟨.type "set", none, .set #[] 0 (.fresh 0 0 (!w.params.followText "set-order")), #[]⟩ : Obj) = O
      have at0 : (s.heap.push O).get? s.heap.objs.size = some O := Heap.get?_push_size _ (by rw [← hnew]; rfl)
      have ty0 : Shared.TypeIs { s with heap := s.heap.push O } (.ref s.heap.objs.size) "set" := ⟨_, at0, by rw [← hnew]⟩
      have m7 := F.called_set.init.lookup
      have m8 := F.called_set.init.bind (.ref s.heap.objs.size)
      repeat (any_goals (first | assumption | wp_step))
      refine codeAny_mono (codeAny_call_builtin (R := wants (fun r s₂ => r = .none ∧ ∃ h' tk L, s₂ = { s with heap := h', toks := tk } ∧ KS prog w h' s.heap.objs.size L ∧ MetK ks L ks.length ∧ ∀ b o, s.heap.get? b = some o → h'.get? b = some o) E) F.called_set.init.plain F.entry_set_init (check_set_init_1 ty0 ?_)) fun r₂ s₂ hr₂ => ?_
      · have hl1 := hl.push O
        have lLt : l < s.heap.objs.size := by
          obtain ⟨ol, h1, _⟩ := hl
          exact Heap.lt_size h1
        obtain ⟨ol, h1, hcl, nl, hdl⟩ := hl
        obtain ⟨ocls, odict, odata, oslots⟩ := ol
        simp only at hcl hdl
        subst hcl
        subst hdl
        have hol' := Heap.get?_push_of_some O h1
        have m9 := F.sub_list_set
        have m10 := F.sub_list_frozenset
        have m11 : (Value.type "list" == Value.type "dict") = false := by decide
        obtain ⟨O', hO⟩ : ∃ O', O' = O := ⟨_, rfl⟩
        subst hnew
        unfold Builtin.«set.__init__» noKeywords Builtin.Frozenset.updateFrom
        generalize hPI : pyIter = PI
        wp_walk
        subst hPI
        apply wpAny_pyIter_list hl1
        apply wpAny_bind
        apply wpAny_runValue
        rw [← hO] at hl1 at0 ⊢
        have calm3 : A.in1.in1.in1.handled = none := by simp [calm]
        have sz : (s.heap.push O').objs.size = s.heap.objs.size + 1 := Heap.size_push _ _
        have nI : l ≠ (s.heap.push O').objs.size := by rw [sz]; exact Nat.ne_of_lt (Nat.lt_succ_of_lt lLt)
        have nS : s.heap.objs.size ∉ [(s.heap.push O').objs.size, l] := by
          rw [sz]
          simp only [List.mem_cons, List.not_mem_nil, or_false, not_or]
          exact ⟨Nat.ne_of_lt (Nat.lt_succ_self _), Nat.ne_of_gt lLt⟩
        refine keys_walk (R := wants _ _) (Walks.list calm3 _ l nI items).toS s.heap.objs.size nS ks isz few hi (fun s' => ∃ h' tk L, s' = { s with heap := h', toks := tk } ∧ KS prog w h' s.heap.objs.size L ∧ MetK ks L ks.length ∧ ∀ b o, s.heap.get? b = some o → h'.get? b = some o) ?_ items.size 0 _ (by omega) ⟨⟨_, Heap.get?_push_size _ rfl, rfl, rfl⟩, hl1.push _⟩ ?_ ?_
        · rintro s' ⟨h', tk, L, rfl, a1, a2, a3⟩
          show wpAny _ _ _ _ _ _
          apply wpAny_pure
          show wpAny _ _ (ret Value.none) _ _ _
          exact wpAny_pure ⟨rfl, h', tk, L, rfl, a1, a2, a3⟩
        · have at1 := Heap.get?_push_of_some (⟨.type "list_iterator", none, .fields #[.ref l, .int 0 0], #[]⟩ : Obj) at0
          obtain ⟨L, a1, a2⟩ := kset_new (prog := prog) (w := w) (by rw [← hO]; exact at1)
          exact ⟨L, a1, a2 ks⟩
        · intro s' L hm hS' m'
          obtain ⟨h', g', d', tk', os'⟩ := s'
          have e1 : g' = s.gens := hm.gens
          have e2 : d' = s.drawn := hm.drawn
          have e3 : os' = s.os := hm.os
          subst e1 e2 e3
          refine ⟨h', tk', L, rfl, hS', by rw [← isz]; exact m', fun b o eo => ?_⟩
          have bl := Heap.lt_size eo
          apply hm.heap b o
          · rw [sz]
            simp only [List.mem_cons, List.not_mem_nil, or_false, not_or]
            exact ⟨Nat.ne_of_lt bl, Nat.ne_of_lt (Nat.lt_succ_of_lt bl)⟩
          · exact Heap.get?_push_of_some _ (Heap.get?_push_of_some _ eo)
      · cases r₂ with
        | error e => exact hr₂
        | ok fl₂ =>
          cases fl₂ with
          | ret r =>
            obtain ⟨rfl, h', tk, L, rfl, a1, a2, a3⟩ := hr₂
            repeat (any_goals (first | assumption | wp_step))
            exact fin _ _ _ a1 a2 a3
          | _ => exact hr₂.elim
    | _ => exact hr.elim
end
end Lt

set_option autoImplicit false
/-! ## the rules: set(x), len(set), sorted(set), sorted of keys and of tuples -/
namespace Lt
open PySem PySem.Spec PyProof.Rows L2 TL
section
variable {P : Program} {w : World} {A : Around} {E : Value → Shared → Prop} {s : Shared}
theorem sorted_of_set {a : Addr} {o : Obj} {es : Array (Int × Value)} {ep : Nat} {t : SetTable} {ltv : Value → Value → Bool} {Q : Value → Shared → Prop} (O : SrtO.Swo ltv) (calm : A.handled = none) (ho : s.heap.get? a = some o) (hc : o.cls = .type "set") (hd : o.data = .set es ep t)
    (ft : t.fits es.size = true) (sz : es.size < scanBound) (rs : Ris t.place.toList) (ld : w.params.followText "set-order" = true ∨ t.led = true)
    (hS : ∀ (vs : List Value) (s1 : Shared) (b : Addr), vs.Perm (es.toList.map (·.2)) → 2 ≤ vs.length → (∀ c u, s.heap.get? c = some u → s1.heap.get? c = some u) → s1.heap.get? b = some (seqObj "list" vs.toArray 0) → ∀ A', SrtO.SortableO P w A' s1 b vs ltv)
    (fin : ∀ (s' : Shared) (vs out : List Value) (b : Addr) (c : Nat), vs.Perm (es.toList.map (·.2)) → SrtO.Srtd ltv out → SrtO.Stb ltv out vs → (∀ c u, s.heap.get? c = some u → s'.heap.get? c = some u) → s'.gens = s.gens → s'.os = s.os → s.heap.objs.size ≤ b → s'.heap.get? b = some (seqObj "list" out.toArray c) → Q (.ref b) s') :
    wpAny (model P w) A (call (.builtin "sorted") [.ref a]) Q E s := by
  refine Calls.call_function_entry kind_sorted plain_sorted entry_sorted (args_sorted1 _) ?_
  unfold Builtin.«sorted»
  refine wpAny_bind (m := checkCount "sorted" 1 1 _) (wpAny_pure ?_)
  apply wpAny_bind
  refine collect_set (A := A.in1) calm ⟨o, ho, hc, hd⟩ ft sz rs ld fun s1 vs k1 hz g1 o1 pm => ?_
  have hvl : vs.length ≤ sizeLine := by
    rw [pm.length_eq, List.length_map, Array.length_toList]
    exact fits_of_scanBound sz
  apply wpAny_bind
  refine wpAny_newList ?_ hvl
  have atNew : (s1.heap.push (seqObj "list" vs.toArray 0)).get? s1.heap.objs.size = some (seqObj "list" vs.toArray 0) := Heap.get?_push_size _ rfl
  apply wpAny_bind
  apply wpAny_holding
  refine wpAny_call_entry slot_list_sort ⟨_, atNew, rfl⟩ entry_list_sort (SrtO.list_sort_ord (s := { s1 with heap := s1.heap.push (seqObj "list" vs.toArray 0) }) O atNew hvl (fun h2 => hS vs { s1 with heap := s1.heap.push (seqObj "list" vs.toArray 0) } _ pm h2 (fun c u e => Heap.get?_push_of_some _ (k1 c u e)) atNew _) fun out h1 h2 => ⟨_, rfl, ?_⟩) (PyProof.Rows.args_list_sort _)
  obtain ⟨e', he'⟩ := PyProof.Rows.sortedHeap_at (vs := vs) (out := out.toArray) atNew
  refine wpAny_pure ⟨_, rfl, fin _ vs out s1.heap.objs.size e' pm h1 h2 (fun b u e => ?_) g1 o1 hz he'⟩
  have e2 := k1 b u e
  have hb := Heap.lt_size e2
  show (sortedHeap (s1.heap.push (seqObj "list" vs.toArray 0)) s1.heap.objs.size vs out.toArray).get? b = some u
  rw [PyProof.Rows.sortedHeap_old (Nat.ne_of_lt hb) (by rw [size_push']; exact Nat.lt_succ_of_lt hb), Heap.get?_push_of_some _ e2]
end
theorem ints_of_keys : ∀ (vs : List Value) (is : List Int), (∀ v ∈ vs, keyIs (keyV v) v = true) → vs.map keyV = is.map Sum.inl → IntsAre vs is
  | [], [], _, _ => .nil
  | [], _ :: _, _, e => nomatch e
  | _ :: _, [], _, e => nomatch e
  | v :: vs, i :: is, hk, e => by
    have e1 := List.cons.inj e
    have h1 := hk v List.mem_cons_self
    rw [e1.1] at h1
    rcases keyIs_shape h1 with ⟨j, t, e2, rfl⟩ | ⟨x, t, e2, _⟩
    · cases e2
      exact .cons i t (ints_of_keys vs is (fun u hu => hk u (List.mem_cons_of_mem _ hu)) e1.2)
    · cases e2
theorem strs_of_keys : ∀ (vs : List Value) (xs : List Str), (∀ v ∈ vs, keyIs (keyV v) v = true) → vs.map keyV = xs.map Sum.inr → StrsAre vs xs
  | [], [], _, _ => .nil
  | [], _ :: _, _, e => nomatch e
  | _ :: _, [], _, e => nomatch e
  | v :: vs, x :: xs, hk, e => by
    have e1 := List.cons.inj e
    have h1 := hk v List.mem_cons_self
    rw [e1.1] at h1
    rcases keyIs_shape h1 with ⟨j, t, e2, _⟩ | ⟨y, t, e2, rfl⟩
    · cases e2
    · cases e2
      exact .cons x t (strs_of_keys vs xs (fun u hu => hk u (List.mem_cons_of_mem _ hu)) e1.2)
theorem one_perm {ks ls : List Key} (h : OneKind ks) (p : ls.Perm ks) : OneKind ls := by
  have key : ∀ {f : Key → Bool}, (∀ k ∈ ks, f k = true) → ∀ k ∈ ls, f k = true := fun hf k hk => hf k (p.mem_iff.mp hk)
  rcases h with ⟨is, rfl⟩ | ⟨xs, rfl⟩
  · left
    refine ⟨ls.map fun k => match k with | .inl i => i | .inr _ => 0, ?_⟩
    rw [List.map_map]
    refine (List.map_id ls).symm.trans (List.map_congr_left fun k hk => ?_)
    obtain ⟨i, _, rfl⟩ := List.mem_map.mp (p.mem_iff.mp hk)
    rfl
  · right
    refine ⟨ls.map fun k => match k with | .inr i => i | .inl _ => "", ?_⟩
    rw [List.map_map]
    refine (List.map_id ls).symm.trans (List.map_congr_left fun k hk => ?_)
    obtain ⟨i, _, rfl⟩ := List.mem_map.mp (p.mem_iff.mp hk)
    rfl
/-- the order of keys, read off the values -/
def ltK (v u : Value) : Bool := kLt (keyV v) (keyV u)
theorem swo_k : SrtO.Swo ltK := ⟨fun _ _ => kLt_asym, fun _ _ _ => kLt_tr⟩
section
variable {P : Program} {w : World} {A : Around} {s : Shared}
theorem keys_sortable {a : Addr} {vs : List Value} (hk : ∀ v ∈ vs, keyIs (keyV v) v = true) (one : OneKind (vs.map keyV)) (h2 : 2 ≤ vs.length) : SrtO.SortableO P w A s a vs ltK := by
  intro h' keep
  rcases one with ⟨is, e⟩ | ⟨xs, e⟩
  · have hI := ints_of_keys vs is hk e
    obtain ⟨κ, c1, c2⟩ := SrtO.ints_sortable (prog := P) (w := w) (A := A) (s := s) (a := a) hI h2 h' keep
    refine ⟨κ, c1, fun p q hp hq => wpAny_mono (c2 p q hp hq) (fun r s' h => ⟨h.1, h.2.trans ?_⟩) fun _ _ z => z⟩
    have shape : ∀ v ∈ vs, ∃ i t, v = Value.int i t := fun v hv => by
      have h1 := hk v hv
      have : keyV v ∈ is.map Sum.inl := by rw [← e]; exact List.mem_map.mpr ⟨v, hv, rfl⟩
      obtain ⟨i, _, e3⟩ := List.mem_map.mp this
      rw [← e3] at h1
      rcases keyIs_shape h1 with ⟨j, t, _, rfl⟩ | ⟨y, t, e2, _⟩
      · exact ⟨j, t, rfl⟩
      · cases e2
    show SrtO.ltIv p.1 q.1 = ltK p.1 q.1
    obtain ⟨i, t, e1⟩ := shape _ hp
    obtain ⟨j, u, e2⟩ := shape _ hq
    rw [e1, e2]; rfl
  · have hT := strs_of_keys vs xs hk e
    obtain ⟨κ, c1, c2⟩ := tx_sortable (prog := P) (w := w) (A := A) (s := s) (a := a) hT h2 h' keep
    refine ⟨κ, c1, fun p q hp hq => wpAny_mono (c2 p q hp hq) (fun r s' h => ⟨h.1, h.2.trans ?_⟩) fun _ _ z => z⟩
    show ltTx p.1 q.1 = ltK p.1 q.1
    obtain ⟨x, t, e1⟩ := tx_mem hT _ hp
    obtain ⟨y, u, e2⟩ := tx_mem hT _ hq
    rw [e1, e2]; rfl
end
theorem vals_keys : ∀ {vs : List Value}, (∀ v ∈ vs, keyIs (keyV v) v = true) → Vals ((vs.map keyV).map kV) vs
  | [], _ => .nil
  | v :: vs, h => .cons (by
      have h1 := h v List.mem_cons_self
      rcases keyIs_shape h1 with ⟨i, t, e, e2⟩ | ⟨x, t, e, e2⟩
      · rw [e, e2]; exact ⟨t, rfl⟩
      · rw [e, e2]; exact ⟨t, rfl⟩) (vals_keys fun u hu => h u (List.mem_cons_of_mem _ hu))
theorem keys_vals : ∀ {ks : List Key} {vs : List Value}, Vals (ks.map kV) vs → vs.map keyV = ks ∧ ∀ v ∈ vs, keyIs (keyV v) v = true
  | [], _, .nil => ⟨rfl, fun v hv => nomatch hv⟩
  | k :: ks, _, .cons r rs => by
    obtain ⟨h1, h2⟩ := keys_vals rs
    have e : ∀ {v : Value}, RelV (kV k) v → keyV v = k ∧ keyIs k v = true := fun {v} r => by
      cases k with
      | inl i => obtain ⟨t, rfl⟩ := r; exact ⟨rfl, by simp [keyIs, Value.isInt]⟩
      | inr x => obtain ⟨t, rfl⟩ := r; exact ⟨rfl, by show Value.isStrOf x (Value.str x t) = true; simp [Value.isStrOf]⟩
    obtain ⟨e1, e2⟩ := e r
    refine ⟨by rw [List.map_cons, e1, h1], fun v hv => ?_⟩
    rcases List.mem_cons.mp hv with rfl | hv
    · rw [e1]; exact e2
    · exact h2 v hv
def TSetO (P : Program) (w : World) (a : Addr) (L : List (Addr × List Key)) : HO := .ext fun h => ∃ es ep t, TRow P w h a L es ep t
def KSetO (P : Program) (w : World) (a : Addr) (L : List Key) : HO := .ext fun h => KS P w h a L
theorem tsetO_new {P : Program} {w : World} {H : Hp} {h : Heap} {a : Addr} {L : List (Addr × List Key)} (R : ∃ es ep t, TRow P w h a L es ep t) : ObjOk P w H h a (TSetO P w a L) := by
  have R0 := R
  obtain ⟨es, ep, t, R⟩ := R
  obtain ⟨o, ho, _⟩ := R.ob
  exact ⟨R0, ⟨o, ho⟩, fun h1 h2 p k => let ⟨es, ep, t, R⟩ := p; ⟨es, ep, t, R.keep k⟩⟩
theorem ksetO_new {P : Program} {w : World} {H : Hp} {h : Heap} {a : Addr} {L : List Key} (R : KS P w h a L) : ObjOk P w H h a (KSetO P w a L) := by
  have R0 := R
  obtain ⟨o, es, ep, t, ho, _⟩ := R
  exact ⟨R0, ⟨o, ho⟩, fun h1 h2 p k => KS.keep p k⟩
section
variable {X : Cx}
theorem refs_vals : ∀ {ks : List (Addr × List Key)} {us : List Value}, Vals (ks.map fun q => V.ref q.1) us → us = ks.map fun q => Value.ref q.1
  | [], _, .nil => rfl
  | q :: ks, _, .cons r rs => by
    cases r
    rw [List.map_cons, refs_vals rs]
/-- set(x), x a list of fewer than 64 tuples of keys -/
def rSetTT (K : PySem.W.Frag) (P : Program) (w : World) : List V → Hp → VK → Prop := fun xs H Q => ∃ (l : Addr) (ks : List (Addr × List Key)), xs = [.ref l] ∧ SqL K H l (ks.map fun q => V.ref q.1) ∧ (∀ q ∈ ks, H q.1 = some (.tup (q.2.map kV))) ∧ ks.length < 64 ∧
  ∀ p L, H p = none → Met ks L ks.length → (L.map (·.2)).Nodup → Q (.ref p) (upd H p (TSetO P w p L))
theorem cr_setTT (hc : X.calm = true) (hu : X.A.units + 64 < cLine) : CallR X (.type "set") (rSetTT X.K X.prog X.w) := by
  intro pins s σ H xs us Q I r h
  obtain ⟨l, ks, rfl, hl, tp, few, q⟩ := h
  rw [Vals.ref1 r]
  obtain ⟨its, rv, pl, _⟩ := I.list hl
  refine tset_of_list ks (I.ok.hd hc) pl.isList (by simpa using refs_vals rv) (fun p hp => key_of I.hok (tp p hp)) few (by omega) fun h' tk L es ep t R m hk => ?_
  exact ⟨.ref s.heap.objs.size, upd H s.heap.objs.size (TSetO X.prog X.w s.heap.objs.size L), I.laid (t' := tk) hk (Nat.le_refl _) (tsetO_new ⟨es, ep, t, R⟩), rfl, q _ L (I.hok.fresh (Nat.le_refl _)) m R.nd⟩
/-- len(s) -/
def rLenTT (P : Program) (w : World) : List V → Hp → VK → Prop := fun xs H Q => ∃ (a : Addr) (L : List (Addr × List Key)), xs = [.ref a] ∧ H a = some (TSetO P w a L) ∧ Q (.int (L.length : Nat)) H
theorem call_lenTT : CallR X (.builtin "len") (rLenTT X.prog X.w) := by
  intro pins s σ H xs us Q I r h
  obtain ⟨a, L, rfl, ha, q⟩ := h
  rw [Vals.ref1 r]
  obtain ⟨es, ep, t, R⟩ : ∃ es ep t, TRow X.prog X.w s.heap a L es ep t := (I.hok a _ ha).1
  obtain ⟨o, ho, hex, hd⟩ := R.ob
  have n1 := rows_len R.rows
  have few := R.few
  exact call_len_set ho hex hd R.held (by rw [n1]; omega) ⟨.int (L.length : Nat), H, I.tok _, ⟨_, by rw [n1]⟩, q⟩
/-- set(x), x a list of keys, to be walked -/
def rSetKS (K : PySem.W.Frag) (P : Program) (w : World) : List V → Hp → VK → Prop := fun xs H Q => ∃ (l : Addr) (ks : List Key), xs = [.ref l] ∧ SqL K H l (ks.map kV) ∧ ks.length < 4000 ∧ ∀ p L, H p = none → L.Nodup → (∀ k, k ∈ L ↔ k ∈ ks) → Q (.ref p) (upd H p (KSetO P w p L))
theorem cr_setKS (hc : X.calm = true) : CallR X (.type "set") (rSetKS X.K X.prog X.w) := by
  intro pins s σ H xs us Q I r h
  obtain ⟨l, ks, rfl, hl, few, q⟩ := h
  rw [Vals.ref1 r]
  obtain ⟨its, rv, pl, _⟩ := I.list hl
  obtain ⟨e1, e2⟩ := keys_vals rv
  have sz : its.toArray.size = ks.length := by rw [List.size_toArray, ← e1, List.length_map]
  refine kset_of_list ks (I.ok.hd hc) pl.isList sz (fun i v e => ?_) few fun h' tk L R m hk => ?_
  · rw [List.getElem?_toArray] at e
    have hv := e2 v (List.mem_of_getElem? e)
    refine ⟨keyV v, by rw [← e1, List.getElem?_map, e]; rfl, hv, ?_⟩
    rcases keyIs_shape hv with ⟨j, t, _, rfl⟩ | ⟨y, t, _, rfl⟩ <;> rfl
  · have R0 := R
    obtain ⟨_, _, _, _, _, _, _, _, _, nd, _⟩ := R
    refine ⟨.ref s.heap.objs.size, upd H s.heap.objs.size (KSetO X.prog X.w s.heap.objs.size L), I.laid (t' := tk) hk (Nat.le_refl _) (ksetO_new R0), rfl, q _ L (I.hok.fresh (Nat.le_refl _)) nd fun k => ?_⟩
    rw [m.all, List.take_length]
/-- a list laid behind a sort -/
theorem laid_list {pins : List (Addr × Obj)} {σ : L2.St} {H : Hp} {s s' : Shared} {xs : List V} {out : List Value} {b : Addr} {c : Nat} (I : Inv X pins σ H s) (k : ∀ c u, s.heap.get? c = some u → s'.heap.get? c = some u) (g : s'.gens = s.gens) (o : s'.os = s.os) (hb : s.heap.objs.size ≤ b)
    (at_ : s'.heap.get? b = some (seqObj "list" out.toArray c)) (v : Vals xs out) (l : xs.length ≤ sizeLine) : Inv X pins σ (upd H b (.lst xs)) s' := by
  have J : Inv X pins σ (upd H b (.lst xs)) { s with heap := s'.heap, gens := s'.gens, drawn := s'.drawn, toks := s'.toks } :=
    I.call (ch := []) (Un.laid k hb (I.hok.fresh hb)) (I.hok.laid k hb ⟨l, out, c, v, at_⟩) (by rw [g]; exact I.bare) (fun _ z => nomatch z)
  have e : s' = { s with heap := s'.heap, gens := s'.gens, drawn := s'.drawn, toks := s'.toks } := by
    cases s'
    cases s
    cases o
    rfl
  rw [e]; exact J
/-- sorted(s), s a set of keys of one kind -/
def rSortKS (P : Program) (w : World) : List V → Hp → VK → Prop := fun xs H Q => ∃ (a : Addr) (L : List Key), xs = [.ref a] ∧ H a = some (KSetO P w a L) ∧ OneKind L ∧ ∀ (ys : List Key) (p : Addr), ys.Perm L → SortedK ys → H p = none → Q (.ref p) (upd H p (.lst (ys.map kV)))
theorem call_sortKS (hc : X.calm = true) : CallR X (.builtin "sorted") (rSortKS X.prog X.w) := by
  intro pins s σ H xs us Q I r h
  obtain ⟨a, L, rfl, ha, one, q⟩ := h
  rw [Vals.ref1 r]
  have R : KS X.prog X.w s.heap a L := (I.hok a _ ha).1
  obtain ⟨o, es, ep, t, ho, hex, hd, g, eL, nd, sz, ft, rs, ld⟩ := R
  have ok : ∀ {vs : List Value}, vs.Perm (es.toList.map (·.2)) → (∀ v ∈ vs, keyIs (keyV v) v = true) ∧ (vs.map keyV).Perm L := fun {vs} pm => by
    refine ⟨fun v hv => ?_, ?_⟩
    · obtain ⟨e, he, rfl⟩ := List.mem_map.mp (pm.mem_iff.mp hv)
      exact (g e he).1
    · have := pm.map keyV
      rw [List.map_map] at this
      rw [← eL]; exact this
  refine sorted_of_set swo_k (I.ok.hd hc) ho hex.1 hd ft sz rs ld (fun vs s1 b pm h2 _ _ A' => keys_sortable (ok pm).1 (one_perm one (ok pm).2) h2) fun s' vs out b c pm h1 h2 k gg oo hb at_ => ?_
  have pm2 := h2.perm.trans pm
  obtain ⟨v1, v2⟩ := ok pm2
  refine ⟨.ref b, upd H b (.lst ((out.map keyV).map kV)), laid_list I k gg oo hb at_ (vals_keys v1) ?_, rfl, q _ _ v2 (List.pairwise_map.mpr h1) (I.hok.fresh hb)⟩
  rw [List.length_map, v2.length_eq, ← eL, keysE_len]
  exact fits_of_scanBound sz
/-- sorted(xs), xs a list of keys of one kind -/
def rSortKL (K : PySem.W.Frag) : List V → Hp → VK → Prop := fun xs H Q => ∃ (a : Addr) (ks : List Key), xs = [.ref a] ∧ SqL K H a (ks.map kV) ∧ OneKind ks ∧ ∀ (ys : List Key) (p : Addr), ys.Perm ks → SortedK ys → H p = none → Q (.ref p) (upd H p (.lst (ys.map kV)))
theorem call_sortKL : CallR X (.builtin "sorted") (rSortKL X.K) := by
  intro pins s σ H xs us Q I r h
  obtain ⟨a, ks, rfl, hl, one, q⟩ := h
  rw [Vals.ref1 r]
  obtain ⟨its, rv, pl, lz⟩ := I.list hl
  obtain ⟨e1, e2⟩ := keys_vals rv
  have l2 : its.length ≤ sizeLine := by rw [← rv.length]; exact lz
  refine SrtO.sorted_ord (vs := its) swo_k pl.isList l2 (fun h2 h₁ b hb kk => keys_sortable e2 (by rw [e1]; exact one) h2) fun out h1 h2 => ?_
  obtain ⟨c, hc⟩ := PyProof.Rows.sortedAll_at s.heap its out.toArray
  have v1 : ∀ v ∈ out, keyIs (keyV v) v = true := fun v hv => e2 v (h2.perm.mem_iff.mp hv)
  have v2 : (out.map keyV).Perm ks := by rw [← e1]; exact h2.perm.map keyV
  refine ⟨.ref _, upd H (s.heap.objs.size + 1) (.lst ((out.map keyV).map kV)), I.laid (t' := s.toks) (fun _ _ => PyProof.Rows.sortedAll_old) (Nat.le_succ _) ⟨?_, out, c, vals_keys v1, hc⟩, rfl, q _ _ v2 (List.pairwise_map.mpr h1) (I.hok.fresh (Nat.le_succ _))⟩
  rw [List.length_map, List.length_map, h2.perm.length_eq]; exact l2
end
/-! ### tuples of a text and a key -/
abbrev Pr : Type := Addr × (Str × Key)
def prT (p : Pr) : Addr × List Key := (p.1, [.inr p.2.1, p.2.2])
def prO (p : Pr) : HO := .tup [.str p.2.1, kV p.2.2]
theorem prT_o (p : Pr) : HO.tup ((prT p).2.map kV) = prO p := rfl
theorem met_pr {ps : List Pr} {L : List (Addr × List Key)} {n : Nat} (m : Met (ps.map prT) L n) : ∃ qs : List Pr, L = qs.map prT ∧ ∀ q ∈ qs, q ∈ ps := by
  have key : ∀ l : List (Addr × List Key), (∀ q ∈ l, q ∈ ps.map prT) → ∃ qs : List Pr, l = qs.map prT ∧ ∀ q ∈ qs, q ∈ ps := by
    intro l
    induction l with
    | nil => exact fun _ => ⟨[], rfl, fun q hq => nomatch hq⟩
    | cons x l ih =>
      intro h
      obtain ⟨p, hp, rfl⟩ := List.mem_map.mp (h x List.mem_cons_self)
      obtain ⟨qs, rfl, h2⟩ := ih fun q hq => h q (List.mem_cons_of_mem _ hq)
      refine ⟨p :: qs, rfl, fun q hq => ?_⟩
      rcases List.mem_cons.mp hq with rfl | hq
      · exact hp
      · exact h2 q hq
  exact key L m.sub
theorem prT_keys {p q : Pr} : (prT p).2 = (prT q).2 ↔ p.2 = q.2 := by
  constructor
  · intro e
    have e1 := List.cons.inj e
    have e2 := List.cons.inj e1.2
    exact Prod.ext (Sum.inr.inj e1.1) e2.1
  · intro e
    show [_, _] = [_, _]
    rw [e]
section
variable {X : Cx} {pins : List (Addr × Obj)} {σ : L2.St} {H : Hp} {s : Shared}
theorem pr_in (I : Inv X pins σ H s) {p : Pr} (h : H p.1 = some (prO p)) : PrK X.prog X.w s.heap (.ref p.1) p.2 := ⟨p.1, rfl, key_of (ks := (prT p).2) I.hok h⟩
theorem pr_vals : ∀ ps : List Pr, Vals (ps.map fun q => V.ref q.1) (ps.map fun q => Value.ref q.1)
  | [] => .nil
  | p :: ps => .cons rfl (pr_vals ps)
/-- values that are these tuples, in some order -/
theorem pr_order {ps : List Pr} {vs : List Value} (I : Inv X pins σ H s) (hp : ∀ p ∈ ps, H p.1 = some (prO p)) (pm : vs.Perm (ps.map fun q => Value.ref q.1)) : ∃ qs : List Pr, vs = (qs.map fun q => Value.ref q.1) ∧ qs.Perm ps := by
  have key : ∀ (l : List Value) (rs : List Pr), l.Perm (rs.map fun q => Value.ref q.1) → ∃ qs : List Pr, l = (qs.map fun q => Value.ref q.1) ∧ qs.Perm rs := by
    intro l
    induction l with
    | nil =>
      intro rs p
      have := p.length_eq
      rw [List.length_map] at this
      cases rs with
      | nil => exact ⟨[], rfl, List.Perm.nil⟩
      | cons => cases this
    | cons v l ih =>
      intro rs p
      obtain ⟨q, hq, rfl⟩ := List.mem_map.mp (p.mem_iff.mp List.mem_cons_self)
      obtain ⟨u1, u2, rfl⟩ := List.append_of_mem hq
      have p2 : l.Perm ((u1 ++ u2).map fun q => Value.ref q.1) := by
        rw [List.map_append, List.map_cons] at p
        rw [List.map_append]
        exact (p.trans List.perm_middle).cons_inv
      obtain ⟨qs, rfl, p3⟩ := ih _ p2
      exact ⟨q :: qs, rfl, (List.Perm.cons q p3).trans List.perm_middle.symm⟩
  exact key vs ps pm
def rSortPL (K : PySem.W.Frag) : List V → Hp → VK → Prop := fun xs H Q => ∃ (a : Addr) (ps : List Pr), xs = [.ref a] ∧ SqL K H a (ps.map fun q => V.ref q.1) ∧ (∀ p ∈ ps, H p.1 = some (prO p)) ∧ Agree (ps.map (·.2)) ∧
  ∀ (qs : List Pr) (b : Addr), qs.Perm ps → qs.Pairwise (fun p q => pLt q.2 p.2 = false) → H b = none → Q (.ref b) (upd H b (.lst (qs.map fun q => V.ref q.1)))
theorem agree_perm {f : Value → Str × Key} {vs : List Value} {ps qs : List Pr} (e : vs.map f = qs.map (·.2)) (pm : qs.Perm ps) (ag : Agree (ps.map (·.2))) : Agree (vs.map f) := by
  rw [e]
  exact fun p hp q hq => ag p ((pm.map (·.2)).mem_iff.mp hp) q ((pm.map (·.2)).mem_iff.mp hq)
theorem rd_map (I : Inv X pins σ H s) {ps qs : List Pr} (hp : ∀ p ∈ ps, H p.1 = some (prO p)) (pm : qs.Perm ps) : (qs.map fun q => Value.ref q.1).map (rdP X.prog X.w s.heap) = qs.map (·.2) := by
  rw [List.map_map]
  exact List.map_congr_left fun q hq => rdP_eq (pr_in I (hp q (pm.mem_iff.mp hq)))
theorem rd_in (I : Inv X pins σ H s) {ps qs : List Pr} (hp : ∀ p ∈ ps, H p.1 = some (prO p)) (pm : qs.Perm ps) : ∀ v ∈ (qs.map fun q => Value.ref q.1), PrK X.prog X.w s.heap v (rdP X.prog X.w s.heap v) := fun v hv => by
  obtain ⟨q, hq, rfl⟩ := List.mem_map.mp hv
  have := pr_in I (hp q (pm.mem_iff.mp hq))
  rw [rdP_eq this]; exact this
theorem not_tup {h : Heap} {b : Addr} {xs : Array Value} {n : Nat} (hb : h.get? b = some (seqObj "list" xs n)) : ∀ o, h.get? b = some o → o.cls ≠ .type "tuple" := fun o e => by
  rw [hb] at e
  cases e
  exact fun c => absurd (Value.type.inj c) (by decide)
theorem rd_sorted {h : Heap} {P : Program} {w : World} {qs : List Pr} (e : (qs.map fun q => Value.ref q.1).map (rdP P w h) = qs.map (·.2)) (hs : SrtO.Srtd (fun v u => pLt (rdP P w h v) (rdP P w h u)) (qs.map fun q => Value.ref q.1)) : qs.Pairwise (fun p q => pLt q.2 p.2 = false) := by
  have h1 : ((qs.map fun q => Value.ref q.1).map (rdP P w h)).Pairwise (fun p q => pLt q p = false) := List.pairwise_map.mpr hs
  rw [e] at h1
  exact List.pairwise_map.mp h1
end
section
variable {X : Cx}
theorem call_sortPL : CallR X (.builtin "sorted") (rSortPL X.K) := by
  intro pins s σ H xs us Q I r h
  obtain ⟨a, ps, rfl, hl, hp, ag, q⟩ := h
  rw [Vals.ref1 r]
  obtain ⟨its, rv, pl, lz⟩ := I.list hl
  have ei : its = ps.map fun q => Value.ref q.1 := by
    have : ∀ {qs : List Pr} {us : List Value}, Vals (qs.map fun q => V.ref q.1) us → us = qs.map fun q => Value.ref q.1 := by
      intro qs
      induction qs with
      | nil => intro us v; cases v; rfl
      | cons q qs ih => intro us v; cases v with | cons r rs => cases r; rw [List.map_cons, ih rs]
    exact this rv
  subst ei
  have l2 : (ps.map fun q => Value.ref q.1).length ≤ sizeLine := by rw [← rv.length]; exact lz
  have e0 := rd_map I hp (List.Perm.refl ps)
  have i0 := rd_in I hp (List.Perm.refl ps)
  refine SrtO.sorted_ord (swo_p (rdP X.prog X.w s.heap)) pl.isList l2 (fun h2 h₁ b hb kk => ?_) fun out h1 h2 => ?_
  · exact prs_sortable (s := { s with heap := h₁ }) (by omega) (fun v hv => (i0 v hv).kept fun c o e _ => (kk c o e).2) (agree_perm e0 (List.Perm.refl ps) ag) (not_tup hb)
  · obtain ⟨c, hc⟩ := PyProof.Rows.sortedAll_at s.heap (ps.map fun q => Value.ref q.1) out.toArray
    obtain ⟨qs, rfl, pm⟩ := pr_order I hp h2.perm
    refine ⟨.ref _, upd H (s.heap.objs.size + 1) (.lst (qs.map fun q => V.ref q.1)), I.laid (t' := s.toks) (fun _ _ => PyProof.Rows.sortedAll_old) (Nat.le_succ _) ⟨?_, _, c, pr_vals qs, hc⟩, rfl, q _ _ pm (rd_sorted (rd_map I hp pm) h1) (I.hok.fresh (Nat.le_succ _))⟩
    rw [List.length_map, pm.length_eq, ← List.length_map (f := fun q : Pr => Value.ref q.1)]; exact l2
def rSortPS (P : Program) (w : World) : List V → Hp → VK → Prop := fun xs H Q => ∃ (a : Addr) (ps : List Pr), xs = [.ref a] ∧ H a = some (TSetO P w a (ps.map prT)) ∧ (∀ p ∈ ps, H p.1 = some (prO p)) ∧ Agree (ps.map (·.2)) ∧
  ∀ (qs : List Pr) (b : Addr), qs.Perm ps → qs.Pairwise (fun p q => pLt q.2 p.2 = false) → H b = none → Q (.ref b) (upd H b (.lst (qs.map fun q => V.ref q.1)))
theorem call_sortPS (hc : X.calm = true) : CallR X (.builtin "sorted") (rSortPS X.prog X.w) := by
  intro pins s σ H xs us Q I r h
  obtain ⟨a, ps, rfl, ha, hp, ag, q⟩ := h
  rw [Vals.ref1 r]
  obtain ⟨es, ep, t, R⟩ : ∃ es ep t, TRow X.prog X.w s.heap a (ps.map prT) es ep t := (I.hok a _ ha).1
  obtain ⟨o, ho, hex, hd⟩ := R.ob
  have n1 := rows_len R.rows
  have few := R.few
  have eo : es.toList.map (·.2) = ps.map fun q => Value.ref q.1 := by
    rw [R.rows, List.map_map, List.map_map]; rfl
  refine sorted_of_set (swo_p (rdP X.prog X.w s.heap)) (I.ok.hd hc) ho hex.1 hd R.held (by unfold scanBound; omega) R.tab.ris R.ld (fun vs s1 b pm h2 k hb A' => ?_) fun s' vs out b c pm h1 h2 k gg oo hb at_ => ?_
  · rw [eo] at pm
    obtain ⟨qs, rfl, p2⟩ := pr_order I hp pm
    exact prs_sortable (by omega) (fun v hv => (rd_in I hp p2 v hv).kept fun c o e _ => k c o e) (agree_perm (rd_map I hp p2) p2 ag) (not_tup hb)
  · have pm2 := h2.perm.trans pm
    rw [eo] at pm2
    obtain ⟨qs, rfl, p2⟩ := pr_order I hp pm2
    refine ⟨.ref b, upd H b (.lst (qs.map fun q => V.ref q.1)), laid_list I k gg oo hb at_ (pr_vals qs) ?_, rfl, q _ _ p2 (rd_sorted (rd_map I hp p2) h1) (I.hok.fresh hb)⟩
    rw [List.length_map] at few
    rw [List.length_map, p2.length_eq, sizeLine_eq]; omega
end
end Lt

set_option autoImplicit false
/-! ## state == state: a dict of dicts of plain data -/
namespace Lt
open PySem PySem.Spec PyProof.Rows L2 TL
theorem kv_mem {ka : List (Key × V)} {va : List (Key × Value)} (r : KV ka va) {k : Key} {v : Value} (h : (k, v) ∈ va) : ∃ x, (k, x) ∈ ka ∧ RelV x v := by
  unfold KV at r
  induction r with
  | nil => cases h
  | @cons p q ps qs e r ih =>
    rcases List.mem_cons.mp h with rfl | h
    · obtain ⟨p1, p2⟩ := p
      have e1 : p1 = k := e.1
      exact ⟨p2, by rw [e1]; exact List.mem_cons_self, e.2⟩
    · obtain ⟨x, h1, h2⟩ := ih h
      exact ⟨x, List.mem_cons_of_mem _ h1, h2⟩
theorem kv_some {kb : List (Key × V)} {vb : List (Key × Value)} (r : KV kb vb) (k : Key) : (valueAt vb k).isSome = (valV kb k).isSome := by
  have z := r.val k
  cases h : valV kb k with
  | none => rw [h] at z; rw [RelO.none_of z]; rfl
  | some y =>
    rw [h] at z
    obtain ⟨u, hu, _⟩ := RelO.some_of z
    rw [hu]; rfl
theorem kv_get {kb : List (Key × V)} {vb : List (Key × Value)} (r : KV kb vb) {k : Key} {y : Value} (h : valueAt vb k = some y) : ∃ x, valV kb k = some x ∧ RelV x y := by
  have z := r.val k
  cases e : valV kb k with
  | none => rw [e] at z; rw [RelO.none_of z] at h; cases h
  | some x =>
    rw [e] at z
    obtain ⟨u, hu, hr⟩ := RelO.some_of z
    rw [hu] at h
    cases h
    exact ⟨x, rfl, hr⟩
theorem kv_all {ka kb : List (Key × V)} {va vb : List (Key × Value)} (ra : KV ka va) (rb : KV kb vb) (e : Key → Bool) : (va.all fun p => (valueAt vb p.1).isSome && e p.1) = ka.all fun p => (valV kb p.1).isSome && e p.1 := by
  unfold KV at ra
  induction ra with
  | nil => rfl
  | @cons p q ps qs h r ih =>
    have e1 : p.1 = q.1 := h.1
    rw [List.all_cons, List.all_cons, ih, kv_some rb, e1]
def sameD (ka kb : List (Key × V)) (e : Key → Bool) : Bool := ka.length == kb.length && ka.all fun p => (valV kb p.1).isSome && e p.1
/-- two tables of plain data compared -/
def InnD (K : PySem.W.Frag) (H : Hp) (v y : V) (b : Bool) : Prop := ∃ (c d : Addr) (kc kd : List (Key × V)) (f : Key → Bool), v = .ref c ∧ y = .ref d ∧ c ≠ d ∧ H c = some (.dK kc) ∧ H d = some (.dK kd) ∧
  (∀ k u z, (k, u) ∈ kc → valV kd k = some z → ∃ p q, Dp K H u p ∧ Dp K H z q ∧ SeqAt.shaped p = true ∧ SeqAt.shaped q = true ∧ f k = PyData.eqv p q) ∧ b = sameD kc kd f
def rEqDD (K : PySem.W.Frag) : R2 := fun x y H Q => ∃ (a b : Addr) (ka kb : List (Key × V)) (e : Key → Bool), x = .ref a ∧ y = .ref b ∧ H a = some (.dK ka) ∧ H b = some (.dK kb) ∧ (∀ k u z, (k, u) ∈ ka → valV kb k = some z → InnD K H u z (e k)) ∧ Q (.bl (sameD ka kb e)) H
theorem op_eqDD {X : Cx} (hu : X.A.units + 66 < cLine) : OpR X (compareOp .Eq) (rEqDD X.K) := by
  intro pins s σ H x y v u Q I rx ry h
  obtain ⟨a, b, ka, kb, e, rfl, rfl, ha, hb, inn, q⟩ := h
  cases rx
  cases ry
  obtain ⟨la, na, va, ra, da⟩ := dk_of I.hok ha
  obtain ⟨lb, nb, vb, rb, db⟩ := dk_of I.hok hb
  refine PySem.W.eq_dictsT (n := 65) (e := e) na nb da db (fun k v y hm hy => ?_) (by omega) ?_
  · obtain ⟨x1, m1, r1⟩ := kv_mem ra hm
    obtain ⟨x2, m2, r2⟩ := kv_get rb hy
    obtain ⟨c, d, kc, kd, f, rfl, rfl, ne, hc, hd, leaf, eb⟩ := inn k x1 x2 m1 m2
    cases r1
    cases r2
    obtain ⟨lc, nc, vc, rc, dc⟩ := dk_of I.hok hc
    obtain ⟨ld, nd, vd, rd, dd⟩ := dk_of I.hok hd
    have eb' : e k = (vc.length == vd.length && vc.all fun p => (valueAt vd p.1).isSome && f p.1) := by
      rw [eb, kv_all rc rd, ← rc.length, ← rd.length]; rfl
    rw [eb']
    refine PySem.W.EqTree.dicts (n := 64) ne nc nd dc dd fun k' v' y' hm' hy' => .leaf fun A' hu' => ?_
    obtain ⟨x3, m3, r3⟩ := kv_mem rc hm'
    obtain ⟨x4, m4, r4⟩ := kv_get rd hy'
    obtain ⟨p, q', hp, hq, sp, sq, ef⟩ := leaf k' x3 x4 m3 m4
    rw [ef]
    obtain ⟨as, t1⟩ := Dp.reads I p x3 v' hp r3
    obtain ⟨bs, t2⟩ := Dp.reads I q' x4 y' hq r4
    exact SeqAt.eqAt_reads p q' A' s v' y' as bs t1 t2 (SeqAt.canLay_of_shaped sp) (SeqAt.canLay_of_shaped sq) (SeqAt.room_of_shaped sp hu')
  · refine ⟨.bl _, H, I, rfl, ?_⟩
    rw [kv_all ra rb, ← ra.length, ← rb.length]
    exact q
end Lt

set_option autoImplicit false
/-! ## the difference of two states -/
namespace Lt
open PySem L2 TL
open C8 (pss_cut)
def optR (rs : Rws) (k : Key) : Option (List V) := (rs.find? fun p => decide (p.1 = k)).map (·.2)
theorem optR_nil (k : Key) : optR [] k = none := rfl
theorem optR_cons (p : Key × List V) (rs : Rws) (k : Key) : optR (p :: rs) k = if p.1 = k then some p.2 else optR rs k := by
  unfold optR
  rw [List.find?_cons]
  by_cases h : p.1 = k
  · rw [if_pos h, decide_eq_true h]; rfl
  · rw [if_neg h, decide_eq_false h]
theorem optR_has (rs : Rws) (k : Key) : hasK rs k = (optR rs k).isSome := by
  induction rs with
  | nil => rfl
  | cons p rs ih =>
    rw [optR_cons]
    unfold hasK at ih ⊢
    rw [List.any_cons, ih]
    by_cases h : p.1 = k <;> simp [h]
theorem optR_app (a b : Rws) (k : Key) : optR (a ++ b) k = (optR a k).or (optR b k) := by
  induction a with
  | nil => rfl
  | cons p a ih =>
    rw [List.cons_append, optR_cons, optR_cons, ih]
    split <;> rfl
theorem optR_put (rs : Rws) (k : Key) (vs : List V) (j : Key) : optR (putRw rs k vs) j = if j = k then some vs else optR rs j := by
  unfold putRw
  cases hk : hasK rs k with
  | true =>
    rw [if_pos rfl]
    induction rs with
    | nil => cases hk
    | cons p rs ih =>
      rw [List.map_cons, optR_cons, optR_cons]
      by_cases h : p.1 = k
      · rw [if_pos h]
        show (if p.1 = j then some vs else _) = _
        by_cases e : j = k
        · rw [if_pos (h.trans e.symm), if_pos e]
        · have hj : ¬ p.1 = j := fun z => e (z.symm.trans h)
          rw [if_neg hj, if_neg e, if_neg hj]
          have : ∀ l : Rws, optR (l.map fun p => if p.1 = k then (p.1, vs) else p) j = optR l j := by
            intro l
            induction l with
            | nil => rfl
            | cons q l ih2 =>
              rw [List.map_cons, optR_cons, optR_cons, ih2]
              by_cases h2 : q.1 = k
              · rw [if_pos h2]
                have hq : ¬ q.1 = j := fun z => e (z.symm.trans h2)
                show (if q.1 = j then some vs else _) = _
                rw [if_neg hq, if_neg hq]
              · rw [if_neg h2]
          exact this rs
      · rw [if_neg h]
        have hk2 : hasK rs k = true := by
          unfold hasK at hk ⊢
          rw [List.any_cons, decide_eq_false h, Bool.false_or] at hk
          exact hk
        rw [ih hk2]
        by_cases e : j = k
        · have hj : ¬ p.1 = j := fun z => h (z.trans e)
          rw [if_pos e, if_neg hj, if_pos e]
        · rw [if_neg e, if_neg e]
  | false =>
    rw [if_neg Bool.false_ne_true, optR_app, optR_cons]
    rw [optR_has] at hk
    by_cases e : j = k
    · rw [if_pos e, e, if_pos rfl]
      cases h : optR rs k with
      | none => rfl
      | some x => rw [h] at hk; cases hk
    · rw [if_neg e, if_neg (fun z => e z.symm)]
      cases optR rs j <;> rfl
theorem optR_del (rs : Rws) (k j : Key) : optR (delRw rs k) j = if j = k then none else optR rs j := by
  unfold delRw
  induction rs with
  | nil => split <;> rfl
  | cons p rs ih =>
    rw [List.filter_cons]
    by_cases h : p.1 = k
    · rw [if_neg (by simp [h]), ih, optR_cons]
      by_cases e : j = k
      · rw [if_pos e, if_pos e]
      · rw [if_neg e, if_neg e, if_neg (fun z => e (z.symm.trans h))]
    · rw [if_pos (by simp [h]), optR_cons, optR_cons, ih]
      by_cases e : j = k
      · rw [if_pos e, if_pos e, if_neg (by rw [e]; exact h)]
      · rw [if_neg e, if_neg e]
theorem optR_mem {rs : Rws} {k : Key} {vs : List V} (h : optR rs k = some vs) : (k, vs) ∈ rs := by
  unfold optR at h
  cases e : rs.find? fun p => decide (p.1 = k) with
  | none => rw [e] at h; cases h
  | some q =>
    rw [e] at h
    have h1 : q.1 = k := by have := List.find?_some e; simpa using this
    have h2 : q.2 = vs := Option.some.inj h
    rw [← h1, ← h2]
    exact List.mem_of_find?_eq_some e
theorem optR_of {rs : Rws} (nd : (rs.map (·.1)).Nodup) {k : Key} {vs : List V} (h : (k, vs) ∈ rs) : optR rs k = some vs := by
  induction rs with
  | nil => cases h
  | cons p rs ih =>
    rw [List.map_cons, List.nodup_cons] at nd
    rw [optR_cons]
    rcases List.mem_cons.mp h with rfl | h
    · rw [if_pos rfl]
    · rw [if_neg (fun e => nd.1 (by rw [e]; exact List.mem_map.mpr ⟨_, h, rfl⟩))]
      exact ih nd.2 h
theorem optR_none {rs : Rws} {k : Key} : optR rs k = none ↔ k ∉ rs.map (·.1) := by
  induction rs with
  | nil => simp [optR_nil]
  | cons p rs ih =>
    rw [optR_cons, List.map_cons, List.mem_cons]
    by_cases h : p.1 = k
    · rw [if_pos h]; simp [h]
    · rw [if_neg h, ih]
      exact ⟨fun a b => b.elim (fun z => h z.symm) a, fun a b => a (.inr b)⟩
theorem restOf_opt (rs : Rws) (k : Key) : restOf rs k = (optR rs k).getD [] := by
  unfold restOf optR
  cases rs.find? fun p => decide (p.1 = k) <;> rfl
/-- the keys of both -/
def unionK (a b : List Key) : List Key := a ++ b.filter fun k => !(a.any fun j => decide (j = k))
theorem anyK {a : List Key} {k : Key} : (a.any fun j => decide (j = k)) = true ↔ k ∈ a := by
  rw [List.any_eq_true]
  exact ⟨fun ⟨j, h1, h2⟩ => of_decide_eq_true h2 ▸ h1, fun h => ⟨k, h, decide_eq_true rfl⟩⟩
theorem unionK_mem {a b : List Key} {k : Key} : k ∈ unionK a b ↔ k ∈ a ∨ k ∈ b := by
  unfold unionK
  rw [List.mem_append, List.mem_filter]
  by_cases h : k ∈ a
  · exact ⟨fun _ => .inl h, fun _ => .inl h⟩
  · have e : (a.any fun j => decide (j = k)) = false := by
      cases e : a.any fun j => decide (j = k) with
      | false => rfl
      | true => exact absurd (anyK.mp e) h
    rw [e]
    exact ⟨fun z => z.imp id fun y => y.1, fun z => z.imp id fun y => ⟨y, rfl⟩⟩
theorem unionK_nd {a b : List Key} (h1 : a.Nodup) (h2 : b.Nodup) : (unionK a b).Nodup := by
  unfold unionK
  refine List.nodup_append.mpr ⟨h1, h2.filter _, fun x hx y hy e => ?_⟩
  have := (List.mem_filter.mp hy).2
  rw [← e, anyK.mpr hx] at this
  cases this
theorem unionK_len (a b : List Key) : (unionK a b).length ≤ a.length + b.length := by
  unfold unionK
  rw [List.length_append]
  have := List.length_filter_le (fun k => !(a.any fun j => decide (j = k))) b
  omega
theorem sorted_one {ys a b : List Key} (h1 : a.Nodup) (h2 : b.Nodup) (nd : ys.Nodup) (mem : ∀ k, k ∈ ys ↔ k ∈ a ++ b) (s : SortedK ys) : ys = sortK (unionK a b) := by
  refine sortK_eq ?_ s
  refine (List.perm_ext_iff_of_nodup nd (unionK_nd h1 h2)).mpr fun k => ?_
  rw [mem, unionK_mem, List.mem_append]
/-- what makes a row of the other -/
def rowDiff (n : Str) (k : Key) : Option (List V) → Option (List V) → List Ed
  | none, none => []
  | some _, none => [.del n (kV k)]
  | none, some r => [.row true n (kV k :: r)]
  | some q, some r => if q = r then [] else [.row false n (kV k :: r)]
theorem keyOf_kV (k : Key) : keyOf (kV k) = k := by cases k <;> rfl
theorem rowDiff_of {n : Str} {k : Key} {o p : Option (List V)} {e : Ed} (h : e ∈ rowDiff n k o p) : edT e = n ∧ edK e = kV k ∧ rowDiff n k o p = [e] ∧ ((e = .del n (kV k) ∧ o.isSome = true ∧ p = none) ∨ ∃ r, p = some r ∧ e = .row o.isNone n (kV k :: r)) := by
  cases o with
  | none => cases p with
    | none => cases h
    | some r =>
      have := List.mem_singleton.mp h
      subst this
      exact ⟨rfl, rfl, rfl, .inr ⟨r, rfl, rfl⟩⟩
  | some q => cases p with
    | none =>
      have := List.mem_singleton.mp h
      subst this
      exact ⟨rfl, rfl, rfl, .inl ⟨rfl, rfl, rfl⟩⟩
    | some r =>
      have e1 : rowDiff n k (some q) (some r) = if q = r then [] else [.row false n (kV k :: r)] := rfl
      rw [e1] at h ⊢
      by_cases hq : q = r
      · rw [if_pos hq] at h; cases h
      · rw [if_neg hq] at h ⊢
        have := List.mem_singleton.mp h
        subst this
        exact ⟨rfl, rfl, rfl, .inr ⟨r, rfl, rfl⟩⟩
theorem rowDiff_nil {n : Str} {k : Key} {o p : Option (List V)} : rowDiff n k o p = [] ↔ o = p := by
  cases o with
  | none => cases p with
    | none => exact ⟨fun _ => rfl, fun _ => rfl⟩
    | some r => exact ⟨(fun h => nomatch h), (fun h => nomatch h)⟩
  | some q => cases p with
    | none => exact ⟨(fun h => nomatch h), (fun h => nomatch h)⟩
    | some r =>
      have e1 : rowDiff n k (some q) (some r) = if q = r then [] else [.row false n (kV k :: r)] := rfl
      rw [e1]
      by_cases hq : q = r
      · rw [if_pos hq, hq]; exact ⟨fun _ => rfl, fun _ => rfl⟩
      · rw [if_neg hq]
        exact ⟨(fun h => nomatch h), fun h => absurd (Option.some.inj h) hq⟩
theorem rowDiff_len (n : Str) (k : Key) (o p : Option (List V)) : (rowDiff n k o p).length ≤ 1 := by
  cases e : rowDiff n k o p with
  | nil => exact Nat.zero_le _
  | cons x xs =>
    have := (rowDiff_of (e := x) (by rw [e]; exact List.mem_cons_self)).2.2.1
    rw [← e, this]; exact Nat.le_refl _
def keysT (r1 r2 : Rws) : List Key := sortK (unionK (r1.map (·.1)) (r2.map (·.1)))
def prU (m1 m2 : StM) (ns : List Str) : List (Str × Key) := ns.flatMap fun n => (keysT (rwsOf m1 n) (rwsOf m2 n)).map fun k => (n, k)
def dfP (m1 m2 : StM) (p : Str × Key) : List Ed := rowDiff p.1 p.2 (optR (rwsOf m1 p.1) p.2) (optR (rwsOf m2 p.1) p.2)
def diffM (m1 m2 : StM) (ns : List Str) : List Ed := (prU m1 m2 ns).flatMap (dfP m1 m2)
def diffT (n : Str) (r1 r2 : Rws) : List Ed := (keysT r1 r2).flatMap fun k => rowDiff n k (optR r1 k) (optR r2 k)
theorem diffM_eq (m1 m2 : StM) (ns : List Str) : diffM m1 m2 ns = ns.flatMap fun n => diffT n (rwsOf m1 n) (rwsOf m2 n) := by
  unfold diffM prU
  rw [List.flatMap_assoc]
  congr 1
  funext n
  rw [List.flatMap_map]
  rfl
/-- where an edit goes -/
def tg (e : Ed) : Str × Key := (edT e, keyOf (edK e))
theorem dfP_tg {m1 m2 : StM} {p : Str × Key} {e : Ed} (h : e ∈ dfP m1 m2 p) : tg e = p := by
  obtain ⟨h1, h2, _⟩ := rowDiff_of h
  unfold tg
  rw [h1, h2, keyOf_kV]
theorem dfP_nd (m1 m2 : StM) : ∀ {ps : List (Str × Key)}, ps.Nodup → ((ps.flatMap (dfP m1 m2)).map tg).Nodup
  | [], _ => List.nodup_nil
  | p :: ps, h => by
    rw [List.nodup_cons] at h
    rw [List.flatMap_cons, List.map_append]
    refine List.nodup_append.mpr ⟨?_, dfP_nd m1 m2 h.2, fun x hx y hy e => ?_⟩
    · have := rowDiff_len p.1 p.2 (optR (rwsOf m1 p.1) p.2) (optR (rwsOf m2 p.1) p.2)
      show ((rowDiff p.1 p.2 (optR (rwsOf m1 p.1) p.2) (optR (rwsOf m2 p.1) p.2)).map tg).Nodup
      match hr : rowDiff p.1 p.2 (optR (rwsOf m1 p.1) p.2) (optR (rwsOf m2 p.1) p.2), this with
      | [], _ => exact List.nodup_nil
      | [_], _ => exact List.nodup_cons.mpr ⟨(fun z => nomatch z), List.nodup_nil⟩
    · obtain ⟨e1, h1, rfl⟩ := List.mem_map.mp hx
      obtain ⟨e2, h2, rfl⟩ := List.mem_map.mp hy
      obtain ⟨q, hq, h3⟩ := List.mem_flatMap.mp h2
      rw [dfP_tg h1, dfP_tg h3] at e
      exact h.1 (e ▸ hq)
theorem flat_len1 {α β : Type} {f : α → List β} : ∀ {l : List α}, (∀ x ∈ l, (f x).length ≤ 1) → (l.flatMap f).length ≤ l.length
  | [], _ => Nat.le_refl _
  | x :: l, h => by
    rw [List.flatMap_cons, List.length_append, List.length_cons]
    have := h x List.mem_cons_self
    have := flat_len1 (f := f) (l := l) fun y hy => h y (List.mem_cons_of_mem _ hy)
    omega
/-- states beside a schema -/
structure MSt (s : Sch) (m : StM) : Prop where
  nm : (m.map (·.1)).Nodup
  inn : ∀ n, n ∈ m.map (·.1) ↔ n ∈ schN s
  kn : ∀ p ∈ m, (p.2.map (·.1)).Nodup
  fit : ∀ p ∈ m, ∀ t ∈ tbs s, t.n = p.1 → ∀ r ∈ p.2, rowB t.cols (kV r.1 :: r.2) = true
theorem rws_kn {s : Sch} {m : StM} (M : MSt s m) (n : Str) : ((rwsOf m n).map (·.1)).Nodup := by
  unfold rwsOf
  cases h : m.find? (fun p => decide (p.1 = n)) with
  | none => exact List.nodup_nil
  | some p => exact M.kn p (List.mem_of_find?_eq_some h)
theorem rws_out {m : StM} {n : Str} (h : n ∉ m.map (·.1)) : rwsOf m n = [] := by
  unfold rwsOf
  cases e : m.find? (fun p => decide (p.1 = n)) with
  | none => rfl
  | some p =>
    have h1 : p.1 = n := by have := List.find?_some e; simpa using this
    exact absurd (List.mem_map.mpr ⟨p, List.mem_of_find?_eq_some e, h1⟩) h
theorem MSt.row {s : Sch} {m : StM} (M : MSt s m) {p : Ads × Tab} (hp : p ∈ s) {k : Key} {vs : List V} (h : optR (rwsOf m p.2.n) k = some vs) : rowB p.2.cols (kV k :: vs) = true := by
  have hn : p.2.n ∈ m.map (·.1) := (M.inn _).mpr (List.mem_map.mpr ⟨p, hp, rfl⟩)
  obtain ⟨q, hq, e⟩ := List.mem_map.mp hn
  rw [rwsOf_mem M.nm hq e] at h
  exact M.fit q hq p.2 (List.mem_map.mpr ⟨p, hp, rfl⟩) e.symm _ (optR_mem h)
theorem prU_mem {m1 m2 : StM} {ns : List Str} {p : Str × Key} : p ∈ prU m1 m2 ns ↔ p.1 ∈ ns ∧ (p.2 ∈ (rwsOf m1 p.1).map (·.1) ∨ p.2 ∈ (rwsOf m2 p.1).map (·.1)) := by
  unfold prU keysT
  rw [List.mem_flatMap]
  constructor
  · rintro ⟨n, hn, h⟩
    obtain ⟨k, hk, rfl⟩ := List.mem_map.mp h
    exact ⟨hn, unionK_mem.mp (sortK_mem.mp hk)⟩
  · rintro ⟨hn, h⟩
    exact ⟨p.1, hn, List.mem_map.mpr ⟨p.2, sortK_mem.mpr (unionK_mem.mpr h), rfl⟩⟩
theorem prU_nd {s1 s2 : Sch} {m1 m2 : StM} (M1 : MSt s1 m1) (M2 : MSt s2 m2) : ∀ {ns : List Str}, ns.Nodup → (prU m1 m2 ns).Nodup
  | [], _ => List.nodup_nil
  | n :: ns, h => by
    rw [List.nodup_cons] at h
    show ((keysT (rwsOf m1 n) (rwsOf m2 n)).map (fun k => (n, k)) ++ prU m1 m2 ns).Nodup
    refine List.nodup_append.mpr ⟨?_, prU_nd M1 M2 h.2, fun x hx y hy e => ?_⟩
    · exact List.Pairwise.map _ (fun a b hne e => hne (congrArg Prod.snd e)) (sortK_nd (unionK_nd (rws_kn M1 n) (rws_kn M2 n)))
    · obtain ⟨k, _, rfl⟩ := List.mem_map.mp hx
      have := (prU_mem.mp hy).1
      rw [← e] at this
      exact h.1 this
/-- nothing to do: every row stands in both -/
theorem diff_nil {m1 m2 : StM} {ns : List Str} : diffM m1 m2 ns = [] ↔ ∀ n ∈ ns, ∀ k, optR (rwsOf m1 n) k = optR (rwsOf m2 n) k := by
  unfold diffM
  rw [List.flatMap_eq_nil_iff]
  constructor
  · intro h n hn k
    by_cases hk : k ∈ (rwsOf m1 n).map (·.1) ∨ k ∈ (rwsOf m2 n).map (·.1)
    · exact rowDiff_nil.mp (h (n, k) (prU_mem.mpr ⟨hn, hk⟩))
    · rw [optR_none.mpr fun z => hk (.inl z), optR_none.mpr fun z => hk (.inr z)]
  · intro h p hp
    exact rowDiff_nil.mpr (h p.1 (prU_mem.mp hp).1 p.2)
/-- what stands outside the edits stands in both -/
theorem diff_out {m1 m2 : StM} {ns : List Str} {p : Str × Key} (h : p ∉ (diffM m1 m2 ns).map tg) (hn : p.1 ∈ ns) : optR (rwsOf m1 p.1) p.2 = optR (rwsOf m2 p.1) p.2 := by
  by_cases hk : p.2 ∈ (rwsOf m1 p.1).map (·.1) ∨ p.2 ∈ (rwsOf m2 p.1).map (·.1)
  · cases e : dfP m1 m2 p with
    | nil => exact rowDiff_nil.mp e
    | cons x xs =>
      have hx : x ∈ dfP m1 m2 p := by rw [e]; exact List.mem_cons_self
      exact absurd (List.mem_map.mpr ⟨x, List.mem_flatMap.mpr ⟨p, prU_mem.mpr ⟨hn, hk⟩, hx⟩, dfP_tg hx⟩) h
  · rw [optR_none.mpr fun z => hk (.inl z), optR_none.mpr fun z => hk (.inr z)]
/-- an edit of the difference -/
theorem diff_ed {m1 m2 : StM} {ns : List Str} {e : Ed} (h : e ∈ diffM m1 m2 ns) : edT e ∈ ns ∧ edK e = kV (keyOf (edK e)) ∧ ((e = .del (edT e) (edK e) ∧ (optR (rwsOf m1 (edT e)) (keyOf (edK e))).isSome = true ∧ optR (rwsOf m2 (edT e)) (keyOf (edK e)) = none) ∨
    ∃ r, optR (rwsOf m2 (edT e)) (keyOf (edK e)) = some r ∧ e = .row (optR (rwsOf m1 (edT e)) (keyOf (edK e))).isNone (edT e) (edK e :: r)) := by
  obtain ⟨p, hp, he⟩ := List.mem_flatMap.mp h
  obtain ⟨n, k⟩ := p
  obtain ⟨h1, h2, _, h4⟩ := rowDiff_of he
  have hk : keyOf (edK e) = k := by rw [h2, keyOf_kV]
  rw [hk, h1, h2]
  exact ⟨(prU_mem.mp hp).1, rfl, h4⟩
theorem diff_right {m1 m2 : StM} {ns : List Str} {e : Ed} (h : e ∈ diffM m1 m2 ns) : hasK (rwsOf m1 (edT e)) (keyOf (edK e)) ≠ isIns e := by
  obtain ⟨_, _, h3⟩ := diff_ed h
  rw [optR_has]
  rcases h3 with ⟨e1, h4, _⟩ | ⟨r, _, e1⟩
  · rw [h4, e1]; exact fun z => nomatch z
  · have hi : isIns e = (optR (rwsOf m1 (edT e)) (keyOf (edK e))).isNone := by
      conv => lhs; rw [e1]
      rfl
    rw [hi]
    cases optR (rwsOf m1 (edT e)) (keyOf (edK e)) <;> exact fun z => nomatch z
end Lt

set_option autoImplicit false
/-! ## states that fit; the edits of a difference can be done and lead to the other state -/
namespace Lt
open PySem L2 TL
open C8 (pss_cut)
theorem rowB_iff {cols : List Col} {vs : List V} : rowB cols vs = true ↔ vs.length = cols.length ∧ ∀ (i : Nat) (v : V) (c : Col), vs[i]? = some v → cols[i]? = some c → fitsK v c.k c.b = true := by
  unfold rowB
  rw [Bool.and_eq_true, decide_eq_true_iff, List.all_eq_true]
  refine and_congr_right fun l => ?_
  constructor
  · intro h i v c h1 h2
    exact h (v, c) (List.mem_of_getElem? (i := i) (by rw [List.getElem?_zip_eq_some]; exact ⟨h1, h2⟩))
  · rintro h ⟨v, c⟩ hp
    obtain ⟨i, hi⟩ := List.mem_iff_getElem?.mp hp
    rw [List.getElem?_zip_eq_some] at hi
    exact h i v c hi.1 hi.2
theorem fits_e {v : V} {k : Str} {b : Bool} (h : fitsK v k b = true) : valE v ∧ sNb v = true := by
  unfold fitsK at h
  by_cases e : v = .non
  · subst e; exact ⟨True.intro, rfl⟩
  · rw [if_neg e, Bool.and_eq_true] at h
    have h1 := h.1
    cases v with
    | int i =>
      have : -1000000000 < i ∧ i < 1000000000 := of_decide_eq_true h1
      exact ⟨⟨by omega, by omega⟩, rfl⟩
    | str z =>
      have : z.length ≤ 30 ∧ ∀ c ∈ tl z, chOk c := of_decide_eq_true h1
      exact ⟨⟨by omega, this.2⟩, rfl⟩
    | non => exact absurd rfl e
    | _ => cases h1
theorem row_vals {cols : List Col} {vs : List V} (h : rowB cols vs = true) : ∀ v ∈ vs, valE v ∧ sNb v = true := fun v hv => by
  obtain ⟨h1, h2⟩ := rowB_iff.mp h
  obtain ⟨i, hi, rfl⟩ := List.getElem_of_mem hv
  exact fits_e (h2 i _ _ (List.getElem?_eq_getElem hi) (List.getElem?_eq_getElem (by omega : i < cols.length)))
theorem row_key {cols : List Col} {v : V} {vs : List V} (h : rowB cols (v :: vs) = true) : keyB cols v = true := by
  obtain ⟨h1, h2⟩ := rowB_iff.mp h
  rw [List.length_cons] at h1
  have e := List.getElem?_eq_getElem (by omega : 0 < cols.length)
  rw [keyB_at e]
  exact h2 0 v _ rfl e
/-! ### drawn states fit -/
theorem MSt.drawn {s : Sch} {st : List TS} {most : Nat} {H : Hp} {T : Addr} (A : StAt H T st) (fit : StFit s st most) (tv : ∀ p ∈ s, TabV p.2) : MSt s (stM st) := by
  obtain ⟨_, _, MK⟩ := fit.good A.nm tv
  refine ⟨by rw [stM_names]; exact A.nm, fun n => ?_, fun p hp => ?_, fun p hp t ht e r hr => ?_⟩
  · rw [stM_names]
    constructor
    · intro h
      obtain ⟨q, hq, rfl⟩ := st_in h
      exact fit.n q hq
    · intro h
      obtain ⟨p, hp, rfl⟩ := sch_in h
      obtain ⟨q, hq, e, _⟩ := fit.f p hp
      rw [← e]; exact List.mem_map.mpr ⟨q, hq, rfl⟩
  · obtain ⟨q, hq, rfl⟩ := List.mem_map.mp hp
    have := (A.ds q hq).nd
    show ((rM q.rs).map (·.1)).Nodup
    unfold rM
    rw [List.map_map]; exact this
  · have k := MK p hp t ht e r hr
    obtain ⟨q, hq, rfl⟩ := List.mem_map.mp hp
    obtain ⟨p', hp', rfl⟩ := List.mem_map.mp ht
    obtain ⟨q', hq', e', hf⟩ := fit.f p' hp'
    have : q' = q := st_one A.nm hq' hq (e'.trans e)
    subst this
    obtain ⟨r', hr', rfl⟩ := List.mem_map.mp hr
    have l0 := (tv p' hp').l0
    exact rowB_mk (tv p' hp').co.kd (List.getElem?_eq_getElem (by omega : 0 < p'.2.cols.length)) k (hf r' hr').r
/-! ### one edit -/
theorem rws_map {m : StM} {T : Str} (g : Rws → Rws) (n : Str) : rwsOf (m.map fun p => if p.1 = T then (p.1, g p.2) else p) n = if n = T ∧ n ∈ m.map (·.1) then g (rwsOf m n) else rwsOf m n := by
  induction m with
  | nil => rw [if_neg (fun z => nomatch z.2)]; rfl
  | cons p m ih =>
    have c : ∀ (q : Str × Rws) (l : StM), rwsOf (q :: l) n = if q.1 = n then q.2 else rwsOf l n := fun q l => by
      unfold rwsOf
      rw [List.find?_cons]
      by_cases h : q.1 = n
      · rw [if_pos h, decide_eq_true h]
      · rw [if_neg h, decide_eq_false h]
    rw [List.map_cons, c, c, ih, List.map_cons]
    by_cases h1 : p.1 = T
    · rw [if_pos h1]
      show (if p.1 = n then g p.2 else _) = _
      by_cases h2 : p.1 = n
      · rw [if_pos h2, if_pos h2, if_pos ⟨h2.symm.trans h1, by rw [h2]; exact List.mem_cons_self⟩]
      · rw [if_neg h2, if_neg h2]
        have nT : n ≠ T := fun z => h2 (h1.trans z.symm)
        rw [if_neg (fun z => nT z.1), if_neg (fun z => nT z.1)]
    · rw [if_neg h1]
      by_cases h2 : p.1 = n
      · have nT : n ≠ T := fun z => h1 (h2.trans z)
        rw [if_pos h2, if_pos h2, if_neg (fun z => nT z.1)]
      · rw [if_neg h2, if_neg h2]
        by_cases h3 : n = T ∧ n ∈ m.map (·.1)
        · rw [if_pos h3, if_pos ⟨h3.1, List.mem_cons_of_mem _ h3.2⟩]
        · rw [if_neg h3, if_neg fun z => h3 ⟨z.1, (List.mem_cons.mp z.2).elim (fun y => absurd y.symm h2) id⟩]
theorem edM_names (ts : List Tab) (m : StM) (e : Ed) : (edM ts m e).map (·.1) = m.map (·.1) := by
  unfold edM
  cases tabOf ts (edT e) with
  | none => rfl
  | some t =>
    rw [List.map_map]
    refine List.map_congr_left fun p _ => ?_
    show Prod.fst (if p.1 = edT e then _ else p) = p.1
    split <;> rfl
theorem edM_rws {s : Sch} {m : StM} {e : Ed} (nm : (schN s).Nodup) (M : ∀ n, n ∈ m.map (·.1) ↔ n ∈ schN s) {p : Ads × Tab} (hp : p ∈ s) (hn : p.2.n = edT e) (n : Str) : rwsOf (edM (tbs s) m e) n = if n = edT e then rowsAfter p.2.cols (rwsOf m n) e else rwsOf m n := by
  have h4 : tabOf (tbs s) (edT e) = some p.2 := by rw [← hn]; exact tabOf_in nm hp
  unfold edM
  rw [h4]
  show rwsOf (m.map fun q => if q.1 = edT e then (q.1, rowsAfter p.2.cols q.2 e) else q) n = _
  rw [rws_map (fun r => rowsAfter p.2.cols r e)]
  by_cases h : n = edT e
  · rw [if_pos ⟨h, (M n).mpr (by rw [h, ← hn]; exact List.mem_map.mpr ⟨p, hp, rfl⟩)⟩, if_pos h]
  · rw [if_neg fun z => h z.1, if_neg h]
theorem putRw_nd {rs : Rws} {k : Key} {vs : List V} (nd : (rs.map (·.1)).Nodup) : ((putRw rs k vs).map (·.1)).Nodup := by
  unfold putRw
  cases h : hasK rs k with
  | true =>
    rw [if_pos rfl, List.map_map]
    have : (rs.map (Prod.fst ∘ fun p => if p.1 = k then (p.1, vs) else p)) = rs.map (·.1) := List.map_congr_left fun p _ => by
      show Prod.fst (if p.1 = k then (p.1, vs) else p) = p.1
      split <;> rfl
    rw [this]; exact nd
  | false =>
    rw [if_neg Bool.false_ne_true, List.map_append]
    refine List.nodup_append.mpr ⟨nd, List.nodup_cons.mpr ⟨(fun z => nomatch z), List.nodup_nil⟩, fun x hx y hy e => ?_⟩
    have hy' : y = k := List.mem_singleton.mp hy
    rw [e, hy'] at hx
    rw [optR_has] at h
    exact absurd hx (optR_none.mp (by cases e2 : optR rs k with | none => rfl | some _ => rw [e2] at h; cases h))
theorem after_nd {cols : List Col} {rs : Rws} {e : Ed} (nd : (rs.map (·.1)).Nodup) : ((rowsAfter cols rs e).map (·.1)).Nodup := by
  cases e with
  | row b t r => exact putRw_nd nd
  | set t k c v => exact putRw_nd nd
  | del t k => exact List.Nodup.sublist (List.filter_sublist.map _) nd
theorem putRw_fit {cols : List Col} {rs : Rws} {k : Key} {vs : List V} (h : ∀ r ∈ rs, rowB cols (kV r.1 :: r.2) = true) (hv : rowB cols (kV k :: vs) = true) : ∀ r ∈ putRw rs k vs, rowB cols (kV r.1 :: r.2) = true := by
  intro r hr
  unfold putRw at hr
  split at hr
  · obtain ⟨p, h1, h2⟩ := List.mem_map.mp hr
    by_cases e : p.1 = k
    · rw [if_pos e] at h2; rw [← h2, e]; exact hv
    · rw [if_neg e] at h2; rw [← h2]; exact h p h1
  · rcases List.mem_append.mp hr with h1 | h1
    · exact h r h1
    · rw [List.mem_singleton.mp h1]; exact hv
theorem set_fit {cols : List Col} {k : V} {vs : List V} {c v : V} (nd : (colNs cols).Nodup) (h : rowB cols (k :: vs) = true) (hs : setB cols c v = true) : rowB cols (k :: setAt cols vs c v) = true := by
  unfold setB at hs
  cases e : setC cols c with
  | none => rw [e] at hs; cases hs
  | some col =>
    rw [e] at hs
    have hs : fitsK v col.k col.b = true := hs
    obtain ⟨rfl, hm⟩ := setC_some e
    obtain ⟨p1, p2⟩ := idx_pos nd (List.mem_map.mpr ⟨col, hm, rfl⟩ : col.n ∈ colNs (cols.drop 1))
    have hat : cols[(colNs cols).idxOf col.n]? = some col := by
      have hl : (colNs cols).idxOf col.n < (colNs cols).length := by unfold colNs; rw [List.length_map]; exact p2
      have h1 : (colNs cols)[(colNs cols).idxOf col.n]? = some col.n := by rw [List.getElem?_eq_getElem hl, List.getElem_idxOf hl]
      have h2 := List.getElem?_eq_getElem p2
      have h1 : (cols.map fun x => x.n)[(colNs cols).idxOf col.n]? = some col.n := h1
      rw [List.getElem?_map, h2] at h1
      rw [h2, col_one nd (List.getElem_mem p2) (List.mem_of_mem_drop hm) (Option.some.inj h1)]
    obtain ⟨l, f⟩ := rowB_iff.mp h
    refine rowB_iff.mpr ⟨?_, fun i u d h1 h2 => ?_⟩
    · show (k :: vs.set _ v).length = _
      rw [List.length_cons, List.length_set, ← List.length_cons (a := k)]; exact l
    · cases i with
      | zero => exact f 0 u d h1 h2
      | succ i =>
        have h1 : (vs.set ((colNs cols).idxOf col.n - 1) v)[i]? = some u := h1
        by_cases e3 : (colNs cols).idxOf col.n - 1 = i
        · rw [← e3, List.getElem?_set_self (by rw [List.length_cons] at l; omega)] at h1
          have : (colNs cols).idxOf col.n = i + 1 := by omega
          rw [this, h2] at hat
          cases hat
          rw [← Option.some.inj h1]; exact hs
        · rw [List.getElem?_set_ne e3] at h1
          exact f (i + 1) u d h1 h2
theorem MSt.step {s : Sch} {m : StM} {e : Ed} (nm : (schN s).Nodup) (tv : ∀ p ∈ s, TabV p.2) (M : MSt s m) (f : EdFit s e) (hr : hasK (rwsOf m (edT e)) (keyOf (edK e)) ≠ isIns e) : MSt s (edM (tbs s) m e) := by
  obtain ⟨p, hp, h1, h2, h3⟩ := f
  have h4 : tabOf (tbs s) (edT e) = some p.2 := by rw [← h1]; exact tabOf_in nm hp
  have eN := edM_names (tbs s) m e
  have each : ∀ q ∈ edM (tbs s) m e, ∃ q' ∈ m, q'.1 = q.1 ∧ (q.2 = q'.2 ∨ (q'.1 = edT e ∧ q.2 = rowsAfter p.2.cols q'.2 e)) := fun q hq => by
    unfold edM at hq
    rw [h4] at hq
    obtain ⟨q', h5, h6⟩ := List.mem_map.mp hq
    by_cases e' : q'.1 = edT e
    · rw [if_pos e'] at h6; rw [← h6]; exact ⟨q', h5, rfl, .inr ⟨e', rfl⟩⟩
    · rw [if_neg e'] at h6; rw [← h6]; exact ⟨q', h5, rfl, .inl rfl⟩
  refine ⟨by rw [eN]; exact M.nm, fun n => by rw [eN]; exact M.inn n, fun q hq => ?_, fun q hq t ht et r hr' => ?_⟩
  · obtain ⟨q', h5, _, h7 | ⟨_, h7⟩⟩ := each q hq
    · rw [h7]; exact M.kn q' h5
    · rw [h7]; exact after_nd (M.kn q' h5)
  · obtain ⟨q', h5, h6, h7 | ⟨h8, h7⟩⟩ := each q hq
    · rw [h7] at hr'
      exact M.fit q' h5 t ht (et.trans h6.symm) r hr'
    · rw [h7] at hr'
      obtain ⟨p', hp', rfl⟩ := List.mem_map.mp ht
      have : p' = p := sch_one nm hp' hp (by rw [et, ← h6, h8, h1])
      subst this
      have old : ∀ r ∈ q'.2, rowB p'.2.cols (kV r.1 :: r.2) = true := fun r hr => M.fit q' h5 p'.2 ht (et.trans h6.symm) r hr
      have ek := keyB_key (tv p' hp').co h3
      cases e with
      | del tn k => exact old r (List.mem_filter.mp hr').1
      | row b tn vs =>
        have hb : rowB p'.2.cols vs = true := by
          have : (!rowB p'.2.cols vs) = false := h2
          simpa using this
        refine putRw_fit old ?_ r hr'
        cases vs with
        | nil =>
          have := rowB_len hb
          have l0 := (tv p' hp').l0
          rw [← this] at l0
          exact absurd l0 (by decide)
        | cons v vs =>
          have e1 : v = kV (keyOf v) := ek
          show rowB p'.2.cols (kV (keyOf v) :: vs) = true
          rw [← e1]; exact hb
      | set tn k c v =>
        have hs : setB p'.2.cols c v = true := by
          have : (!setB p'.2.cols c v) = false := h2
          simpa using this
        have hk : hasK q'.2 (keyOf k) = true := by
          have h9 : hasK (rwsOf m tn) (keyOf k) ≠ false := hr
          rw [rwsOf_mem (n := tn) M.nm h5 h8] at h9
          cases h : hasK q'.2 (keyOf k) with
          | true => rfl
          | false => exact absurd h h9
        obtain ⟨r0, g1, g2, g3⟩ := restOf_mem hk
        refine putRw_fit old ?_ r hr'
        have := old r0 g1
        rw [g2] at this
        rw [← g3]
        exact set_fit (tv p' hp').co.nd this hs
end Lt

set_option autoImplicit false
/-! ## differences: done one by one; how many; equal states -/
namespace Lt
open PySem L2 TL
open C8 (pss_cut)
theorem diff_fit {s : Sch} {m1 m2 : StM} {ns : List Str} (tv : ∀ p ∈ s, TabV p.2) (M1 : MSt s m1) (M2 : MSt s m2) (hn : ∀ n ∈ ns, n ∈ schN s) {e : Ed} (h : e ∈ diffM m1 m2 ns) : EdFit s e ∧ edOk e := by
  obtain ⟨h1, h2, h3⟩ := diff_ed h
  obtain ⟨p, hp, en⟩ := sch_in (hn _ h1)
  have v := tv p hp
  have sn := v.nm.str
  rw [en] at sn
  rcases h3 with ⟨e1, h4, _⟩ | ⟨r, h4, e1⟩
  · obtain ⟨vs, hvs⟩ := Option.isSome_iff_exists.mp h4
    have R := M1.row hp (k := keyOf (edK e)) (vs := vs) (by rw [en]; exact hvs)
    have kb := row_key R
    have ke := (row_vals R _ List.mem_cons_self).1
    rw [← h2] at kb ke
    refine ⟨⟨p, hp, en, ?_, kb⟩, ?_⟩
    · rw [e1]; rfl
    · rw [e1]; exact ⟨sn, ke⟩
  · have R := M2.row hp (k := keyOf (edK e)) (vs := r) (by rw [en]; exact h4)
    have kb := row_key R
    rw [← h2] at kb R
    refine ⟨⟨p, hp, en, ?_, kb⟩, ?_⟩
    · rw [e1]
      show (!rowB p.2.cols (edK e :: r)) = false
      rw [R]; rfl
    · rw [e1]
      have l8 := v.l8
      have l := (rowB_iff.mp R).1
      exact ⟨sn, by rw [l]; omega, fun x hx => (row_vals R x hx).1⟩
/-- some rows are the other's already -/
def Mid (m1 m2 : StM) (done : List (Str × Key)) (m : StM) : Prop := ∀ n k, ((n, k) ∈ done → optR (rwsOf m n) k = optR (rwsOf m2 n) k) ∧ ((n, k) ∉ done → optR (rwsOf m n) k = optR (rwsOf m1 n) k)
theorem mid_right {m1 m2 m : StM} {ns : List Str} {done : List (Str × Key)} {e : Ed} (h : e ∈ diffM m1 m2 ns) (M : Mid m1 m2 done m) (hd : tg e ∉ done) : hasK (rwsOf m (edT e)) (keyOf (edK e)) ≠ isIns e := by
  have := diff_right h
  rw [optR_has] at this ⊢
  rw [(M (edT e) (keyOf (edK e))).2 hd]
  exact this
theorem mid_step {s : Sch} {m1 m2 m : StM} {ns : List Str} {done : List (Str × Key)} {e : Ed} (nm : (schN s).Nodup) (M : MSt s m) (h : e ∈ diffM m1 m2 ns) (f : EdFit s e) (D : Mid m1 m2 done m) : Mid m1 m2 (done ++ [tg e]) (edM (tbs s) m e) := by
  obtain ⟨p, hp, hn, _, _⟩ := f
  obtain ⟨_, h2, h3⟩ := diff_ed h
  have after : ∀ (rs : Rws) (j : Key), optR (rowsAfter p.2.cols rs e) j = if j = keyOf (edK e) then optR (rwsOf m2 (edT e)) (keyOf (edK e)) else optR rs j := fun rs j => by
    rcases h3 with ⟨e1, _, h4⟩ | ⟨r, h4, e1⟩
    · rw [h4]
      conv => lhs; rw [e1]
      exact optR_del rs _ j
    · rw [h4]
      conv => lhs; rw [e1]
      exact optR_put rs _ r j
  intro n k
  rw [edM_rws nm M.inn hp hn, List.mem_append, List.mem_singleton]
  by_cases e1 : n = edT e
  · rw [if_pos e1, after]
    by_cases e2 : k = keyOf (edK e)
    · rw [if_pos e2]
      refine ⟨fun _ => by rw [e1, e2], fun z => absurd (.inr ?_) z⟩
      unfold tg; rw [e1, e2]
    · rw [if_neg e2]
      exact ⟨fun z => z.elim (D n k).1 fun y => absurd (congrArg Prod.snd y) e2, fun z => (D n k).2 fun y => z (.inl y)⟩
  · rw [if_neg e1]
    exact ⟨fun z => z.elim (D n k).1 fun y => absurd (congrArg Prod.fst y) e1, fun z => (D n k).2 fun y => z (.inl y)⟩
theorem mid_end {s : Sch} {m1 m2 m : StM} {ns : List Str} (M1 : MSt s m1) (M2 : MSt s m2) (M : MSt s m) (hn : ∀ n, n ∈ ns ↔ n ∈ schN s) (D : Mid m1 m2 ((diffM m1 m2 ns).map tg) m) (n : Str) (k : Key) : optR (rwsOf m n) k = optR (rwsOf m2 n) k := by
  by_cases h : (n, k) ∈ (diffM m1 m2 ns).map tg
  · exact (D n k).1 h
  · rw [(D n k).2 h]
    by_cases h2 : n ∈ ns
    · exact diff_out (p := (n, k)) h h2
    · have o : ∀ {m' : StM}, MSt s m' → rwsOf m' n = [] := fun M' => rws_out fun z => h2 ((hn n).mpr ((M'.inn n).mp z))
      rw [o M1, o M2]
theorem rows_perm {r1 r2 : Rws} (n1 : (r1.map (·.1)).Nodup) (n2 : (r2.map (·.1)).Nodup) (h : ∀ k, optR r1 k = optR r2 k) : r1.Perm r2 := by
  refine (List.perm_ext_iff_of_nodup (List.Pairwise.of_map _ (fun a b hne e => hne (congrArg _ e)) n1) (List.Pairwise.of_map _ (fun a b hne e => hne (congrArg _ e)) n2)).mpr fun p => ?_
  obtain ⟨k, v⟩ := p
  constructor
  · intro hp
    exact optR_mem (by rw [← h]; exact optR_of n1 hp)
  · intro hp
    exact optR_mem (by rw [h]; exact optR_of n2 hp)
def rG (rs : Rws) : G := .d (rs.map fun r => (r.1, rowG r.2))
theorem geq_rows {r1 r2 : Rws} (n1 : (r1.map (·.1)).Nodup) (n2 : (r2.map (·.1)).Nodup) (h : ∀ k, optR r1 k = optR r2 k) : GEq (rG r1) (rG r2) := by
  have pm := rows_perm n1 n2 h
  refine geq_d (by rw [List.length_map, List.length_map, pm.length_eq]) ?_ (fun p hp => ?_) (fun p hp => ?_)
  · rw [List.map_map]; exact n1
  · exact (pm.map _).mem_iff.mpr hp
  · obtain ⟨r, _, rfl⟩ := List.mem_map.mp hp
    exact geq_t fun g hg => by obtain ⟨v, _, rfl⟩ := List.mem_map.mp hg; exact .s v
theorem geq_states {s : Sch} {m m2 : StM} (M : MSt s m) (M2 : MSt s m2) (h : ∀ n k, optR (rwsOf m n) k = optR (rwsOf m2 n) k) : GEq (mG m) (mG m2) := by
  have len : m.length = m2.length := by
    have p : (m.map (·.1)).Perm (m2.map (·.1)) := (List.perm_ext_iff_of_nodup M.nm M2.nm).mpr fun n => (M.inn n).trans (M2.inn n).symm
    have := p.length_eq
    rwa [List.length_map, List.length_map] at this
  refine .d (fun k => match k with | .inr n => rG (rwsOf m n) | .inl _ => .s .non) (by rw [List.length_map, List.length_map, len]) (fun p hp => ?_) (fun p hp => ?_)
  · obtain ⟨q, hq, rfl⟩ := List.mem_map.mp hp
    have : q.1 ∈ m.map (·.1) := (M.inn _).mpr ((M2.inn _).mp (List.mem_map.mpr ⟨q, hq, rfl⟩))
    obtain ⟨q', hq', e⟩ := List.mem_map.mp this
    refine List.mem_map.mpr ⟨q', hq', ?_⟩
    show ((Sum.inr q'.1 : Key), rG q'.2) = (Sum.inr q.1, rG (rwsOf m q.1))
    rw [← e, rwsOf_mem M.nm hq' rfl]
  · obtain ⟨q, hq, rfl⟩ := List.mem_map.mp hp
    show GEq (rG (rwsOf m q.1)) (rG q.2)
    have e : rwsOf m2 q.1 = q.2 := rwsOf_mem M2.nm hq rfl
    rw [← e]
    exact geq_rows (rws_kn M _) (rws_kn M2 _) fun k => h q.1 k
/-! ### how many rows -/
def tot (m : StM) : Nat := (m.map fun p => p.2.length).sum
theorem tot_names {m : StM} (nm : (m.map (·.1)).Nodup) {ns : List Str} (p : ns.Perm (m.map (·.1))) : (ns.map fun n => (rwsOf m n).length).sum = tot m := by
  have h := (p.map fun n => (rwsOf m n).length).sum_nat
  rw [h]
  unfold tot
  rw [List.map_map]
  congr 1
  exact List.map_congr_left fun q hq => by
    show (rwsOf m q.1).length = _
    rw [rwsOf_mem nm hq rfl]
theorem prU_len (m1 m2 : StM) : ∀ ns : List Str, (prU m1 m2 ns).length ≤ (ns.map fun n => (rwsOf m1 n).length).sum + (ns.map fun n => (rwsOf m2 n).length).sum
  | [] => Nat.le_refl _
  | n :: ns => by
    have ih := prU_len m1 m2 ns
    show ((keysT (rwsOf m1 n) (rwsOf m2 n)).map (fun k => (n, k)) ++ prU m1 m2 ns).length ≤ _
    rw [List.length_append, List.length_map, List.map_cons, List.map_cons, List.sum_cons, List.sum_cons]
    unfold keysT
    rw [sortK_len]
    have := unionK_len ((rwsOf m1 n).map (·.1)) ((rwsOf m2 n).map (·.1))
    rw [List.length_map, List.length_map] at this
    omega
theorem diff_len {s : Sch} {m1 m2 : StM} (M1 : MSt s m1) (M2 : MSt s m2) {ns : List Str} (nd : ns.Nodup) (hn : ∀ n, n ∈ ns ↔ n ∈ schN s) : (diffM m1 m2 ns).length ≤ tot m1 + tot m2 := by
  have p : ∀ {m : StM}, MSt s m → ns.Perm (m.map (·.1)) := fun {m} M => (List.perm_ext_iff_of_nodup nd M.nm).mpr fun n => (hn n).trans (M.inn n).symm
  have h1 := tot_names M1.nm (p M1)
  have h2 := tot_names M2.nm (p M2)
  have h3 := prU_len m1 m2 ns
  have h4 : (diffM m1 m2 ns).length ≤ (prU m1 m2 ns).length := flat_len1 fun q _ => rowDiff_len _ _ _ _
  omega
theorem tot_step {s : Sch} {m : StM} {e : Ed} (nd : (m.map (·.1)).Nodup) : tot (edM (tbs s) m e) ≤ tot m + 1 := by
  unfold edM
  cases tabOf (tbs s) (edT e) with
  | none => exact Nat.le_succ _
  | some t =>
    show tot (m.map fun p => if p.1 = edT e then (p.1, rowsAfter t.cols p.2 e) else p) ≤ _
    have out : ∀ l : StM, edT e ∉ l.map (·.1) → (l.map fun p => if p.1 = edT e then (p.1, rowsAfter t.cols p.2 e) else p) = l := fun l h => by
      conv => rhs; rw [← List.map_id l]
      exact List.map_congr_left fun p hp => if_neg fun (z : p.1 = edT e) => h (by rw [← z]; exact List.mem_map.mpr ⟨p, hp, rfl⟩)
    induction m with
    | nil => exact Nat.zero_le _
    | cons p m ih =>
      rw [List.map_cons, List.nodup_cons] at nd
      have c : ∀ (q : Str × Rws) (l : StM), tot (q :: l) = q.2.length + tot l := fun q l => by unfold tot; rw [List.map_cons, List.sum_cons]
      rw [List.map_cons, c, c]
      by_cases h : p.1 = edT e
      · rw [if_pos h, out m (h ▸ nd.1)]
        have := after_len t.cols p.2 e
        show (rowsAfter t.cols p.2 e).length + tot m ≤ _
        omega
      · rw [if_neg h]
        have := ih nd.2
        omega
theorem tot_drawn {st : List TS} {most : Nat} (h : ∀ q ∈ st, q.rs.length ≤ most) : tot (stM st) ≤ st.length * most := by
  induction st with
  | nil => exact Nat.zero_le _
  | cons q st ih =>
    have h1 := h q List.mem_cons_self
    have h2 := ih fun p hp => h p (List.mem_cons_of_mem _ hp)
    unfold tot stM at h2 ⊢
    rw [List.map_cons, List.map_cons, List.sum_cons, List.length_cons, Nat.succ_mul]
    have : (rM q.rs).length = q.rs.length := by unfold rM; rw [List.length_map]
    show (rM q.rs).length + _ ≤ _
    omega
/-! ### two states compared -/
def sameR (r1 r2 : Rws) : Bool := r1.length == r2.length && r1.all fun p => (optR r2 p.1).isSome && decide (optR r1 p.1 = optR r2 p.1)
theorem sameR_iff {r1 r2 : Rws} (n1 : (r1.map (·.1)).Nodup) (n2 : (r2.map (·.1)).Nodup) : sameR r1 r2 = true ↔ ∀ k, optR r1 k = optR r2 k := by
  unfold sameR
  rw [Bool.and_eq_true, beq_iff_eq, List.all_eq_true]
  constructor
  · rintro ⟨l, h⟩ k
    have sub : ∀ x ∈ r1.map (·.1), x ∈ r2.map (·.1) := fun x hx => by
      obtain ⟨p, hp, rfl⟩ := List.mem_map.mp hx
      have := (Bool.and_eq_true_iff.mp (h p hp)).1
      cases e : optR r2 p.1 with
      | none => rw [e] at this; cases this
      | some v => exact List.mem_map.mpr ⟨_, optR_mem e, rfl⟩
    by_cases hk : k ∈ r1.map (·.1)
    · obtain ⟨p, hp, rfl⟩ := List.mem_map.mp hk
      exact of_decide_eq_true (Bool.and_eq_true_iff.mp (h p hp)).2
    · have back := sub_back n1 sub (by rw [List.length_map, List.length_map, l]; exact Nat.le_refl _)
      rw [optR_none.mpr hk, optR_none.mpr fun z => hk (back k z)]
  · intro h
    refine ⟨(rows_perm n1 n2 h).length_eq, fun p hp => ?_⟩
    rw [Bool.and_eq_true]
    refine ⟨?_, decide_eq_true (h p.1)⟩
    rw [← h, optR_of n1 (k := p.1) (vs := p.2) hp]; rfl
theorem sameD_iff {ka kb : List (Key × V)} {e : Key → Bool} (l : ka.length = kb.length) (h : ∀ p ∈ ka, (valV kb p.1).isSome = true) : sameD ka kb e = true ↔ ∀ p ∈ ka, e p.1 = true := by
  unfold sameD
  rw [Bool.and_eq_true, List.all_eq_true]
  exact ⟨fun z p hp => (Bool.and_eq_true_iff.mp (z.2 p hp)).2, fun z => ⟨by rw [beq_iff_eq]; exact l, fun p hp => by rw [h p hp, z p hp]; rfl⟩⟩
theorem optR_ro {rs : List Ro} (k : Key) : optR (rM rs) k = (rs.find? fun r => decide (r.k = k)).map (·.vs) := by
  unfold optR rM
  rw [List.find?_map]
  have e : ((fun p : Key × List V => decide (p.1 = k)) ∘ fun r : Ro => (r.k, r.vs)) = fun r : Ro => decide (r.k = k) := rfl
  rw [e]
  cases rs.find? fun r => decide (r.k = k) <;> rfl
theorem valV_ro {rs : List Ro} (k : Key) : valV (roK rs) k = (rs.find? fun r => decide (r.k = k)).map fun r => V.ref r.a := by
  unfold valV roK
  rw [List.find?_map]
  have e : ((fun kv : Key × V => decide (kv.1 = k)) ∘ fun r : Ro => (r.k, V.ref r.a)) = fun r : Ro => decide (r.k = k) := rfl
  rw [e]
  cases rs.find? fun r => decide (r.k = k) <;> rfl
/-- a row, as it may be there or not -/
def OptAt (H : Hp) (v : V) (o : Option (List V)) : Prop := (v = .non ∧ o = none) ∨ ∃ a r, v = .ref a ∧ H a = some (.tup r) ∧ o = some r
theorem TAt.opt {H : Hp} {d : Addr} {rs : List Ro} (h : TAt H d rs) (k : Key) : OptAt H ((valV (roK rs) k).getD .non) (optR (rM rs) k) := by
  rw [optR_ro, valV_ro]
  cases e : rs.find? fun r => decide (r.k = k) with
  | none => exact .inl ⟨rfl, rfl⟩
  | some r => exact .inr ⟨r.a, r.vs, rfl, h.rt r (List.mem_of_find?_eq_some e), rfl⟩
def optD : Option (List V) → D
  | none => .s .non
  | some r => .t (r.map D.s)
theorem OptAt.tp {H : Hp} {v : V} {o : Option (List V)} (h : OptAt H v o) (ok : ∀ r, o = some r → r.length ≤ 100 ∧ ∀ x ∈ r, valE x) : Tp H v (optD o) := by
  rcases h with ⟨rfl, rfl⟩ | ⟨a, r, rfl, ha, rfl⟩
  · exact .s rfl
  · have : ∀ l : List V, (∀ x ∈ l, valE x) → TpL H l (l.map D.s) := by
      intro l
      induction l with
      | nil => exact fun _ => .nil
      | cons x l ih => exact fun hx => .cons (.s (hx x List.mem_cons_self).scal) (ih fun y hy => hx y (List.mem_cons_of_mem _ hy))
    exact .t ha (this r (ok r rfl).2)
theorem mapS_inj : ∀ {a b : List V}, a.map D.s = b.map D.s → a = b
  | [], [], _ => rfl
  | [], _ :: _, h => nomatch h
  | _ :: _, [], h => nomatch h
  | x :: a, y :: b, h => by
    have h1 := List.cons.inj h
    rw [D.s.inj h1.1, mapS_inj h1.2]
theorem optD_inj {o p : Option (List V)} (h : optD o = optD p) : o = p := by
  cases o with
  | none => cases p with
    | none => rfl
    | some r => cases h
  | some q => cases p with
    | none => cases h
    | some r => rw [mapS_inj (D.t.inj h)]
/-- rows that may be told apart -/
def rowOk (o : Option (List V)) : Prop := ∀ r, o = some r → r.length ≤ 40 ∧ ∀ x ∈ r, valE x ∧ sNb x = true
theorem optD_nb {o : Option (List V)} (h : rowOk o) : (optD o).nb = true ∧ (optD o).cl = true ∧ (optD o).dp ≤ 2 := by
  cases o with
  | none => exact ⟨rfl, rfl, by decide⟩
  | some r =>
    obtain ⟨_, h2⟩ := h r rfl
    refine ⟨nbL_all.mpr fun d hd => ?_, clL_all.mpr fun d hd => ?_, ?_⟩
    · obtain ⟨x, hx, rfl⟩ := List.mem_map.mp hd; exact (h2 x hx).2
    · obtain ⟨x, hx, rfl⟩ := List.mem_map.mp hd; exact (h2 x hx).1.cl
    · have : dpL (r.map D.s) ≤ 0 := dpL_le fun d hd => by
        obtain ⟨v, _, rfl⟩ := List.mem_map.mp hd
        exact Nat.le_refl 0
      simp only [optD, D.dp]; omega
theorem MSt.ok {s : Sch} {m : StM} (M : MSt s m) (tv : ∀ p ∈ s, TabV p.2) {n : Str} (hn : n ∈ schN s) (k : Key) : rowOk (optR (rwsOf m n) k) := fun r hr => by
  obtain ⟨p, hp, rfl⟩ := sch_in hn
  have R := M.row hp hr
  have l := (rowB_iff.mp R).1
  have l8 := (tv p hp).l8
  rw [List.length_cons] at l
  exact ⟨by omega, fun x hx => row_vals R x (List.mem_cons_of_mem _ hx)⟩
end Lt

set_option autoImplicit false
/-! ## what the defs of differences do -/
namespace Lt
open PySem L2 TL
open C8 (pss_cut)
def spRowDiff : Sp := fun vs H Q _ => ∃ (n : Str) (k : Key) (v1 v2 : V) (o1 o2 : Option (List V)), vs = [.str n, kV k, v1, v2] ∧ OptAt H v1 o1 ∧ OptAt H v2 o2 ∧ rowOk o1 ∧ rowOk o2 ∧ ∀ P xs H', H' P = some (.lst xs) → TpL H' xs ((rowDiff n k o1 o2).map edD) → Same H H' → H P = none → Q (.ref P) H'
theorem opt_eqv {o1 o2 : Option (List V)} (h1 : rowOk o1) (h2 : rowOk o2) : PyData.eqv (pyOf (optD o1)) (pyOf (optD o2)) = decide (o1 = o2) := by
  by_cases e : o1 = o2
  · rw [e, decide_eq_true rfl]; exact eqv_refl _ (optD_nb h2).1
  · rw [decide_eq_false e]
    cases h : PyData.eqv (pyOf (optD o1)) (pyOf (optD o2)) with
    | false => rfl
    | true => exact absurd (optD_inj (eqv_inj _ _ (optD_nb h1).1 (optD_nb h2).1 h)) e
theorem opt_shaped {o : Option (List V)} (h : rowOk o) : SeqAt.shaped (pyOf (optD o)) = true := shaped_of (optD_nb h).2.1 (by have := (optD_nb h).2.2; omega)
theorem rowOk.tp {H : Hp} {v : V} {o : Option (List V)} (h : rowOk o) (a : OptAt H v o) : Tp H v (optD o) := a.tp fun r hr => ⟨by have := (h r hr).1; omega, fun x hx => ((h r hr).2 x hx).1⟩
theorem OptAt.mono {H H' : Hp} {v : V} {o : Option (List V)} (h : OptAt H v o) (s : Same H H') : OptAt H' v o := h.imp id fun ⟨a, r, e, ha, eo⟩ => ⟨a, r, e, s _ _ ha, eo⟩
theorem key_valE {v : V} (h : valE v) : True := True.intro
theorem row_tp {H : Hp} {p q : Addr} {b : Bool} {n : Str} {k : Key} {r : List V} (hq : H q = some (.tup (kV k :: r))) (hp : H p = some (.tup [.str (edA (.row b n (kV k :: r))), .str n, .ref q])) (ok : ∀ x ∈ r, valE x) : Tp H (.ref p) (edD (.row b n (kV k :: r))) := by
  have kx : isScal (kV k) = true := by cases k <;> rfl
  have : ∀ l : List V, (∀ x ∈ l, isScal x = true) → TpL H l (l.map D.s) := by
    intro l
    induction l with
    | nil => exact fun _ => .nil
    | cons x l ih => exact fun hx => .cons (.s (hx x List.mem_cons_self)) (ih fun y hy => hx y (List.mem_cons_of_mem _ hy))
  exact .t hp (.cons (.s rfl) (.cons (.s rfl) (.cons (.t hq (this _ fun x hx => by
    rcases List.mem_cons.mp hx with rfl | hx
    · exact kx
    · exact (ok x hx).scal)) .nil)))
theorem del_tp {H : Hp} {p : Addr} {n : Str} {k : Key} (hp : H p = some (.tup [.str "delete", .str n, kV k])) : Tp H (.ref p) (edD (.del n (kV k))) := .t hp (.cons (.s rfl) (.cons (.s rfl) (.cons (.s (by cases k <;> rfl)) .nil)))
theorem roK_len (rs : List Ro) : (roK rs).length = rs.length := by unfold roK; rw [List.length_map]
theorem rM_keys (rs : List Ro) : (rM rs).map (·.1) = roN rs := by unfold rM roN; rw [List.map_map]; rfl
theorem rM_nd {rs : List Ro} (h : (roN rs).Nodup) : ((rM rs).map (·.1)).Nodup := by rw [rM_keys]; exact h
theorem one_sub {ks ls : List Key} (h : OneKind ks) (p : ∀ k ∈ ls, k ∈ ks) : OneKind ls := by
  rcases h with ⟨is, rfl⟩ | ⟨xs, rfl⟩
  · left
    refine ⟨ls.map fun k => match k with | .inl i => i | .inr _ => 0, ?_⟩
    rw [List.map_map]
    refine (List.map_id ls).symm.trans (List.map_congr_left fun k hk => ?_)
    obtain ⟨i, _, rfl⟩ := List.mem_map.mp (p k hk)
    rfl
  · right
    refine ⟨ls.map fun k => match k with | .inr i => i | .inl _ => "", ?_⟩
    rw [List.map_map]
    refine (List.map_id ls).symm.trans (List.map_congr_left fun k hk => ?_)
    obtain ⟨i, _, rfl⟩ := List.mem_map.mp (p k hk)
    rfl
/-- the tables' names in order -/
def nsOf (s : Sch) : List Str := (sortK ((schN s).map Sum.inr)).map fun k => match k with | .inr x => x | .inl _ => ""
theorem nsOf_keys (s : Sch) : sortK ((schN s).map Sum.inr) = (nsOf s).map Sum.inr := by
  unfold nsOf
  rw [List.map_map]
  refine (List.map_id _).symm.trans (List.map_congr_left fun k hk => ?_)
  obtain ⟨x, _, rfl⟩ := List.mem_map.mp (sortK_mem.mp hk)
  rfl
theorem names_kV (s : Sch) : (sortK ((schN s).map Sum.inr)).map kV = (nsOf s).map V.str := by
  rw [nsOf_keys, List.map_map]; rfl
theorem nsOf_mem {s : Sch} {n : Str} : n ∈ nsOf s ↔ n ∈ schN s := by
  have : (Sum.inr n : Key) ∈ (nsOf s).map Sum.inr ↔ (Sum.inr n : Key) ∈ (schN s).map Sum.inr := by rw [← nsOf_keys]; exact sortK_mem
  constructor
  · intro h
    obtain ⟨x, hx, e⟩ := List.mem_map.mp (this.mp (List.mem_map.mpr ⟨n, h, rfl⟩))
    rw [← Sum.inr.inj e]; exact hx
  · intro h
    obtain ⟨x, hx, e⟩ := List.mem_map.mp (this.mpr (List.mem_map.mpr ⟨n, h, rfl⟩))
    rw [← Sum.inr.inj e]; exact hx
theorem nsOf_nd {s : Sch} (h : (schN s).Nodup) : (nsOf s).Nodup := by
  rw [← inr_nd, ← nsOf_keys]
  exact sortK_nd ((inr_nd _).mpr h)
theorem nsOf_len (s : Sch) : (nsOf s).length = s.length := by
  have := congrArg List.length (nsOf_keys s)
  rw [sortK_len, List.length_map, List.length_map] at this
  rw [← this]; unfold schN; rw [List.length_map]
def spDiffer : Sp := fun vs H Q _ => ∃ (S : Addr) (s : Sch) (T1 : Addr) (st1 : List TS) (T2 : Addr) (st2 : List TS), vs = [.ref S, .ref T1, .ref T2] ∧ ScV H S s ∧ StAt H T1 st1 ∧ StAt H T2 st2 ∧ MSt s (stM st1) ∧ MSt s (stM st2) ∧ (∀ q ∈ st1, q.rs.length ≤ 100) ∧ (∀ q ∈ st2, q.rs.length ≤ 100) ∧ (∀ a ∈ stD T1 st1, a ∉ stD T2 st2) ∧
  ∀ P xs H', H' P = some (.lst xs) → TpL H' xs ((diffM (stM st1) (stM st2) (nsOf s)).map edD) → Same H H' → H P = none → Q (.ref P) H'
/-! ### where edits go -/
def prD (p : Str × Key) : D := .t [.s (.str p.1), .s (kV p.2)]
structure SrtP (es : List Ed) (ps : List (Str × Key)) : Prop where
  nd : ps.Nodup
  mem : ∀ p, p ∈ ps ↔ p ∈ es.map tg
  st : ps.Pairwise fun p q => pLt q p = false
theorem SrtP.one {es : List Ed} {ps qs : List (Str × Key)} (h1 : SrtP es ps) (h2 : SrtP es qs) : ps = qs := by
  have p : ps.Perm qs := (List.perm_ext_iff_of_nodup h1.nd h2.nd).mpr fun p => (h1.mem p).trans (h2.mem p).symm
  exact List.Perm.eq_of_pairwise (le := fun p q => pLt q p = false) (fun a b _ _ x y => pLt_eq y x) h1.st h2.st p
def spTouch : Sp := fun vs H Q _ => ∃ (L : Addr) (xs : List V) (es : List Ed), vs = [.ref L] ∧ H L = some (.lst xs) ∧ TpL H xs (es.map edD) ∧ es.length < 64 ∧ (∀ e ∈ es, edOk e ∧ edFull e ∧ edK e = kV (keyOf (edK e))) ∧ Agree (es.map tg) ∧
  ∀ P ys ps H', H' P = some (.lst ys) → TpL H' ys (ps.map prD) → SrtP es ps → Same H H' → H P = none → Q (.ref P) H'
def spLawWriteS : Sp := fun vs H Q _ => ∃ (t c S T : Addr) (cs : List Int) (s : Sch) (st : List TS) (b : Nat) (most : Nat), vs = [.ref t, .ref S, .ref T, .int (most : Nat)] ∧ TapeAt H t c cs ∧ SchAt H S s t c ∧ (∀ p ∈ s, TabV p.2) ∧ 1 ≤ s.length ∧ s.length ≤ 6 ∧ StAt H T st ∧ MW (tbs s) (stM st) b ∧ MSc (stM st) ∧ MSt s (stM st) ∧ b + most ≤ 150 ∧ st.length ≤ 100 ∧ MKy (tbs s) (stM st) ∧ most ≤ 30 ∧
  ∀ L T' st' r xs (es : List Ed) H', H' r = some (.tup [.ref L, .ref T']) → H' L = some (.lst xs) → TpL H' xs (es.map edD) → (∀ e ∈ es, edOk e ∧ EdFit s e) → es.length ≤ most → H L = none → StAt H' T' st' → MSt s (stM st') → MW (tbs s) (stM st') (b + most) → tot (stM st') ≤ tot (stM st) + most → (stD T' st').Nodup → (∀ a ∈ stD T' st', H a = none) → st'.length = st.length → TapeAt H' t c cs → SameX t H H' → Q (.ref r) H'
/-- the keys that edits of a schema go to are of one kind beside one table -/
theorem agree_ed {s : Sch} (nm : (schN s).Nodup) (tv : ∀ p ∈ s, TabV p.2) {es : List Ed} (h : ∀ e ∈ es, EdFit s e) : Agree (es.map tg) := by
  intro p hp q hq e
  obtain ⟨e1, h1, rfl⟩ := List.mem_map.mp hp
  obtain ⟨e2, h2, rfl⟩ := List.mem_map.mp hq
  have e : edT e1 = edT e2 := e
  obtain ⟨a, ha, n1, _, k1⟩ := h e1 h1
  obtain ⟨b, hb, n2, _, k2⟩ := h e2 h2
  have : a = b := sch_one nm ha hb (by rw [n1, n2, e])
  subst this
  have v := tv a ha
  have l0 := v.l0
  have hc := List.getElem?_eq_getElem (by omega : 0 < a.2.cols.length)
  rw [keyB_key v.co k1] at k1
  rw [keyB_key v.co k2] at k2
  have g1 := (keyB_good hc k1).2
  have g2 := (keyB_good hc k2).2
  show (keyOf (edK e1)).isLeft = (keyOf (edK e2)).isLeft
  have tx : ¬ ("text" : Str) = "int" := by decide +kernel
  cases h3 : keyOf (edK e1) <;> cases h4 : keyOf (edK e2) <;> rw [h3] at g1 <;> rw [h4] at g2
  · rfl
  · exact absurd (g2.trans g1.symm) tx
  · exact absurd (g1.trans g2.symm) tx
  · rfl
end Lt

set_option autoImplicit false
/-! ## where edits go, as tuples -/
namespace Lt
open PySem L2 TL
open C8 (pss_cut)
theorem pr_tp {H : Hp} {p : Pr} (h : H p.1 = some (prO p)) : Tp H (.ref p.1) (prD p.2) := .t h (.cons (.s rfl) (.cons (.s (by cases p.2.2 <;> rfl)) .nil))
theorem prs_tp {H : Hp} : ∀ {ps : List Pr}, (∀ p ∈ ps, H p.1 = some (prO p)) → TpL H (ps.map fun q => V.ref q.1) ((ps.map (·.2)).map prD)
  | [], _ => .nil
  | p :: ps, h => .cons (pr_tp (h p List.mem_cons_self)) (prs_tp fun q hq => h q (List.mem_cons_of_mem _ hq))
theorem prD_inj {p q : Str × Key} (h : prD p = prD q) : p = q := by
  have h1 := List.cons.inj (D.t.inj h)
  have h2 := List.cons.inj h1.2
  have e1 := V.str.inj (D.s.inj h1.1)
  have e2 := D.s.inj h2.1
  have e3 := congrArg keyOf e2
  rw [keyOf_kV, keyOf_kV] at e3
  exact Prod.ext e1 e3
theorem prD_nb (p : Str × Key) : (prD p).nb = true := by
  obtain ⟨x, k⟩ := p
  cases k <;> rfl
theorem prD_dp (p : Str × Key) : (prD p).dp ≤ 3 := by
  obtain ⟨x, k⟩ := p
  simp [prD, D.dp, dpL]
theorem prD_cl {p : Str × Key} (h1 : PyData.strOk p.1 = true) (h2 : valE (kV p.2)) : (prD p).cl = true := by
  show clL [.s (.str p.1), .s (kV p.2)] = true
  simp only [clL, D.cl]
  rw [h2.cl]
  simp only [sCl]
  rw [h1]; rfl
theorem any_pr {ps : List (Str × Key)} {x : Str × Key} : ((pyOfL (ps.map prD)).any fun z => PyData.eqv z (pyOf (prD x))) = true ↔ x ∈ ps := by
  rw [pyOfL_map, List.any_eq_true]
  constructor
  · rintro ⟨z, hz, e⟩
    obtain ⟨d, hd, rfl⟩ := List.mem_map.mp hz
    obtain ⟨q, hq, rfl⟩ := List.mem_map.mp hd
    rw [← prD_inj (eqv_inj _ _ (prD_nb q) (prD_nb x) e)]; exact hq
  · intro h
    exact ⟨_, List.mem_map.mpr ⟨_, List.mem_map.mpr ⟨x, h, rfl⟩, rfl⟩, eqv_refl _ (prD_nb x)⟩
theorem prT_nd {qs : List Pr} (h : ((qs.map prT).map (·.2)).Nodup) : (qs.map (·.2)).Nodup := by
  rw [List.map_map] at h
  unfold List.Nodup at h ⊢
  rw [List.pairwise_map] at h ⊢
  exact h.imp fun hn e => hn (prT_keys.mpr e)
theorem prT_mem {qs : List Pr} {x : Str × Key} : ([.inr x.1, x.2] : List Key) ∈ (qs.map prT).map (·.2) ↔ x ∈ qs.map (·.2) := by
  rw [List.map_map, List.mem_map, List.mem_map]
  constructor
  · rintro ⟨q, hq, e⟩
    refine ⟨q, hq, ?_⟩
    have e : (prT q).2 = (prT (0, x)).2 := e
    exact prT_keys.mp e
  · rintro ⟨q, hq, rfl⟩
    exact ⟨q, hq, rfl⟩
theorem ed_two {H : Hp} {v : V} {e : Ed} (h : Tp H v (edD e)) : ∃ a xs, v = .ref a ∧ H a = some (.tup (.str (edA e) :: .str (edT e) :: xs)) := by
  obtain ⟨a, xs, h1, h2, _⟩ := ed_head h
  exact ⟨a, xs, h1, h2⟩
theorem edOk.tx {e : Ed} (h : edOk e) : PyData.strOk (edT e) = true := by
  cases e with
  | row b t r => exact h.1
  | set t k c v => exact h.1
  | del t k => exact h.1
theorem edOk.key {e : Ed} (h : edOk e) (f : edFull e) : valE (edK e) := by
  cases e with
  | row b t r =>
    cases r with
    | nil => exact absurd rfl f
    | cons x r => exact h.2.2 x List.mem_cons_self
  | set t k c v => exact h.2.1
  | del t k => exact h.2
theorem prs_shaped {ps : List (Str × Key)} (h : ∀ p ∈ ps, (prD p).cl = true) : SeqAt.shaped (.list (pyOfL (ps.map prD))) = true :=
  shapedL_of (clL_all.mpr fun d hd => by obtain ⟨e, he, rfl⟩ := List.mem_map.mp hd; exact h e he) (dpL_le (n := 20) fun d hd => by obtain ⟨e, _, rfl⟩ := List.mem_map.mp hd; have := prD_dp e; omega)
theorem SrtP.agree {es : List Ed} {ps : List (Str × Key)} (ag : Agree (es.map tg)) (h : ∀ x, x ∈ ps → x ∈ es.map tg) : Agree ps := fun p hp q hq => ag p (h p hp) q (h q hq)
end Lt

set_option autoImplicit false
/-! ## the law of differences: what it compares -/
namespace Lt
open PySem L2 TL
open C8 (pss_cut)
theorem two_g {H : Hp} {P S T : Addr} {a b : G} {A B : List Addr} (hP : H P = some (.lst [.ref S, .ref T])) (hS : Gp H (.ref S) a A) (hT : Gp H (.ref T) b B) : Gp H (.ref P) (.l [a, b]) (P :: (A ++ (B ++ []))) :=
  .l hP (by show 2 ≤ 1000; decide) (GpL.cons hS (GpL.cons hT GpL.nil))
theorem StAt.there {H : Hp} {T : Addr} {st : List TS} (A : StAt H T st) : ∀ a ∈ stD T st, ∃ o, H a = some o := fun a ha => by
  rcases List.mem_cons.mp ha with rfl | h
  · exact ⟨_, A.sk⟩
  · obtain ⟨p, hp, rfl⟩ := List.mem_map.mp h
    exact ⟨_, (A.ds p hp).dk⟩
theorem MSt.sc {s : Sch} {m : StM} (M : MSt s m) (tv : ∀ p ∈ s, TabV p.2) : MSc m := fun q hq r hr => by
  obtain ⟨p, hp, e⟩ := sch_in ((M.inn _).mp (List.mem_map.mpr ⟨q, hq, rfl⟩))
  have R := M.fit q hq p.2 (List.mem_map.mpr ⟨p, hp, rfl⟩) e r hr
  have l := (rowB_iff.mp R).1
  have l8 := (tv p hp).l8
  rw [List.length_cons] at l
  exact ⟨by omega, fun v hv => (row_vals R v (List.mem_cons_of_mem _ hv)).1.scal⟩
theorem MSt.mw {s : Sch} {m : StM} {b : Nat} (M : MSt s m) (h : ∀ p ∈ m, p.2.length ≤ b) : MW (tbs s) m b := by
  refine ⟨M.nm, h, fun t ht => ?_, fun p hp t ht e r hr => ?_⟩
  · obtain ⟨p, hp, rfl⟩ := List.mem_map.mp ht
    exact (M.inn _).mpr (List.mem_map.mpr ⟨p, hp, rfl⟩)
  · have := (rowB_iff.mp (M.fit p hp t ht e r hr)).1
    rw [List.length_cons] at this; exact this
def eqK (m1 m2 : StM) : Key → Bool
  | .inr n => sameR (rwsOf m1 n) (rwsOf m2 n)
  | .inl _ => true
theorem sameR_D (r1 r2 : List Ro) : sameR (rM r1) (rM r2) = sameD (roK r1) (roK r2) fun k => decide (optR (rM r1) k = optR (rM r2) k) := by
  unfold sameR sameD
  have l : ∀ rs : List Ro, (rM rs).length = (roK rs).length := fun rs => by unfold rM roK; rw [List.length_map, List.length_map]
  rw [l, l]
  congr 1
  unfold rM roK
  rw [List.all_map, List.all_map]
  congr 1
  funext r
  show ((optR (rM r2) r.k).isSome && _) = ((valV (roK r2) r.k).isSome && _)
  have : (optR (rM r2) r.k).isSome = (valV (roK r2) r.k).isSome := by
    rw [optR_ro, valV_ro]
    cases r2.find? fun q => decide (q.k = r.k) <;> rfl
  rw [this]
theorem st_inn {K : PySem.W.Frag} {H : Hp} {s : Sch} {T T' : Addr} {st st' : List TS} (A : StAt H T st) (A' : StAt H T' st') (M : MSt s (stM st)) (M' : MSt s (stM st')) (tv : ∀ p ∈ s, TabV p.2) (dj : ∀ a ∈ stD T st, a ∉ stD T' st') :
    ∀ k u z, (k, u) ∈ stK st → valV (stK st') k = some z → InnD K H u z (eqK (stM st) (stM st') k) := by
  intro k u z hk hz
  obtain ⟨p, hp, e⟩ := List.mem_map.mp hk
  have e1 : (Sum.inr p.n : Key) = k := congrArg Prod.fst e
  have e2 : V.ref p.d = u := congrArg Prod.snd e
  subst e1 e2
  have hn : p.n ∈ schN s := (M.inn _).mp (by rw [stM_names]; exact List.mem_map.mpr ⟨p, hp, rfl⟩)
  obtain ⟨q, hq, en⟩ := st_in (n := p.n) (by rw [← stM_names]; exact (M'.inn _).mpr hn)
  have g := st_get A'.nm hq
  rw [en, hz] at g
  cases g
  have w1 : rwsOf (stM st) p.n = rM p.rs := rwsOf_in A.nm hp
  have w2 : rwsOf (stM st') p.n = rM q.rs := by rw [← en]; exact rwsOf_in A'.nm hq
  have D1 := A.ds p hp
  have D2 := A'.ds q hq
  refine ⟨p.d, q.d, roK p.rs, roK q.rs, fun k => decide (optR (rM p.rs) k = optR (rM q.rs) k), rfl, rfl, fun e => ?_, D1.dk, D2.dk, fun k u z hu hz => ?_, ?_⟩
  · exact dj p.d (List.mem_cons_of_mem _ (List.mem_map.mpr ⟨p, hp, rfl⟩)) (e ▸ List.mem_cons_of_mem _ (List.mem_map.mpr ⟨q, hq, rfl⟩))
  · obtain ⟨r, hr, e⟩ := List.mem_map.mp hu
    have e1 : r.k = k := congrArg Prod.fst e
    have e2 : V.ref r.a = u := congrArg Prod.snd e
    subst e1 e2
    have o1 := D1.opt r.k
    rw [ro_get D1.nd hr] at o1
    have o2 := D2.opt r.k
    rw [hz] at o2
    have k1 := M.ok tv hn r.k
    have k2 := M'.ok tv hn r.k
    rw [w1] at k1
    rw [w2] at k2
    exact ⟨_, _, (k1.tp o1).py, (k2.tp o2).py, opt_shaped k1, opt_shaped k2, (opt_eqv k1 k2).symm⟩
  · show sameR (rwsOf (stM st) p.n) (rwsOf (stM st') p.n) = _
    rw [w1, w2, sameR_D]
theorem st_same {s : Sch} {H : Hp} {T T' : Addr} {st st' : List TS} (A : StAt H T st) (A' : StAt H T' st') (M : MSt s (stM st)) (M' : MSt s (stM st')) (l : st.length = st'.length) : sameD (stK st) (stK st') (eqK (stM st) (stM st')) = decide (diffM (stM st) (stM st') (nsOf s) = []) := by
  rw [Bool.eq_iff_iff, decide_eq_true_iff, diff_nil, sameD_iff (by unfold stK; rw [List.length_map, List.length_map, l]) fun p hp => ?_]
  · constructor
    · intro h n hn k
      obtain ⟨p, hp, e⟩ := st_in (n := n) (by rw [← stM_names]; exact (M.inn _).mpr (nsOf_mem.mp hn))
      have := h _ (List.mem_map.mpr ⟨p, hp, rfl⟩)
      have : sameR (rwsOf (stM st) p.n) (rwsOf (stM st') p.n) = true := this
      rw [e] at this
      exact (sameR_iff (rws_kn M n) (rws_kn M' n)).mp this k
    · intro h p hp
      obtain ⟨q, hq, rfl⟩ := List.mem_map.mp hp
      show sameR (rwsOf (stM st) q.n) (rwsOf (stM st') q.n) = true
      exact (sameR_iff (rws_kn M _) (rws_kn M' _)).mpr (h q.n (nsOf_mem.mpr ((M.inn _).mp (by rw [stM_names]; exact List.mem_map.mpr ⟨q, hq, rfl⟩))))
  · obtain ⟨q, hq, rfl⟩ := List.mem_map.mp hp
    show (valV (stK st') (Sum.inr q.n : Key)).isSome = true
    have hn : q.n ∈ stN st' := by rw [← stM_names]; exact (M'.inn _).mpr ((M.inn _).mp (by rw [stM_names]; exact List.mem_map.mpr ⟨q, hq, rfl⟩))
    obtain ⟨q', hq', e⟩ := st_in hn
    rw [← e, st_get A'.nm hq']; rfl
theorem geq_pairL {a b : G} (h1 : GEq a a) (h2 : GEq b b) : GEq (.l [a, b]) (.l [a, b]) := geq_l fun g hg => by
  simp only [List.mem_cons, List.not_mem_nil, or_false] at hg
  rcases hg with rfl | rfl
  · exact h1
  · exact h2
theorem geq_prs (ps : List (Str × Key)) : GEq (lG (ps.map prD)) (lG (ps.map prD)) := geq_lG _
theorem prs_g {H : Hp} {L : Addr} {xs : List V} {ps : List (Str × Key)} (h : H L = some (.lst xs)) (r : TpL H xs (ps.map prD)) (l : ps.length ≤ 900) : Gp H (.ref L) (lG (ps.map prD)) [L] :=
  .l h (by have := r.length; rw [List.length_map] at this; omega) (r.g (smL_all.mpr fun d hd => by obtain ⟨e, _, rfl⟩ := List.mem_map.mp hd; obtain ⟨x, k⟩ := e; cases k <;> rfl))
theorem prs_dep (ps : List (Str × Key)) : (lG (ps.map prD)).dep ≤ 4 := lG_dep (n := 3) fun d hd => by obtain ⟨e, _, rfl⟩ := List.mem_map.mp hd; exact prD_dp e
theorem srtP_len {es : List Ed} {ps : List (Str × Key)} (h : SrtP es ps) : ps.length ≤ es.length := by
  have := sub_len h.nd fun x hx => (h.mem x).mp hx
  rw [List.length_map] at this; exact this
end Lt
namespace Lt
open PySem L2 TL
open C8 (pss_cut)
structure Z (mg : Str → Option Value) : Prop where
  abs : mg "abs" = none
  int : mg "int" = none
  len : mg "len" = none
  range : mg "range" = none
  list : mg "list" = none
  str : mg "str" = none
  tuple : mg "tuple" = none
  sorted : mg "sorted" = none
  isinstance : mg "isinstance" = none
  dict : mg "dict" = none
  set : mg "set" = none
  bool : mg "bool" = none
section
variable {P : Program} {w : World} {K : PySem.W.Frag} {mg : Str → Option Value} {base : Heap}
theorem ok_law_tape {f : Addr} {fd : FuncData} (k : Kn K mg "_law_tape" s_law_tape ["script"] f fd) (z : Z mg) :
    Cal P w K mg base 1 "_law_tape" ["script"] (spTape K) f fd := k.cal (by
  refine k.F.ok sc_law_tape (fun vs H Q E h => ?_) (fun cdv A outer s H vs Q E hr h => ?_)
  · obtain ⟨a, ns, rfl, _⟩ := h; rfl
  · obtain ⟨a, ns, rfl, hS, h63, q⟩ := h
    have hu := hu_of hr
    refine ⟨_, (pss_cons (ps_setLc (i := 2) (own := [("cell", 1)]) (g := gName 1) (tt := tYes) (by rfl) sc_law_tape.nd rfl rfl (sw_true rfl rfl rfl (by decide +kernel)) (pi_list (pv 0)) (blkOk_by (own := [("cell", 1)]) (N := ["script", "cell", "cells", "seed"]) (sc := defScope s_law_tape) (by decide +kernel)) (fun _ _ _ _ _ => pg_name (i := 1) sc_law_tape.nd rfl (Or.inl rfl)) (fun _ _ _ _ _ => pts_nil) (fun _ _ _ _ _ => (pe_callB call_abs (by rfl) z.abs (by decide +kernel) (pa_cons (pe_callTy call_int1 (by rfl) z.int (by decide +kernel) (pa_cons (pv 1) pa_nil)) pa_nil))))
        (pss_cons (ps_set (i := 3) sc_law_tape.nd rfl (Or.inl rfl) pe_int)
        (pss_cons (ps_for PassesOwn.never rfl (pi_list (pv 2)) (pg_name (i := 1) sc_law_tape.nd rfl (Or.inl rfl))
        (pss_one (ps_set (i := 3) sc_law_tape.nd rfl (Or.inl rfl) (pe_op op_mod (pe_callTy call_int1 (by rfl) z.int (by decide +kernel) (pa_cons (pe_op op_add (pe_op op_mul (pv 3) pe_int) (pv 1)) pa_nil)) pe_int))))
        (pss_one (ps_ret (pe_disp (pps_cons pe_str (pv 2) (pps_cons pe_str pe_int (pps_cons pe_str pe_int (pps_cons pe_str (pv 3) (pps_cons pe_str pe_int pps_nil))))) (by rfl) (by rfl) (fun z => by cases z) (by decide))))))), ?_⟩
    refine ⟨_, rfl, a, rfl, ⟨_, hS⟩, fun D hD => lc_list (K := K) (a := a) (xs := ns.map V.int) (fun i H' => ∃ cs : List Int, H' D = some (.lst (cs.map V.int)) ∧ cs.length = i ∧ (∀ x ∈ cs, (0 : Int) ≤ x) ∧ Same H H') ⟨[], upd_same, rfl, (by intro x hx; cases hx), same_new hD _⟩ (fun i H' _ ⟨_, _, _, _, s1⟩ => s1.seq hS) ?_ ?_⟩
    · rintro i x H1 hi ⟨cs, hc, hl, hn, s1⟩
      obtain ⟨z, rfl, hz⟩ := int_at hi
      have hi63 : i < ns.length := (List.getElem?_eq_some_iff.mp hz).1
      refine ⟨rfl, _, rfl, .inl ⟨z, rfl, z, rfl, _, hc, (by rw [List.length_map]; exact small1000 (by omega)), cs ++ [if z < 0 then -z else z], ?_, by simp [hl], ?_, same_upd hD _ s1⟩⟩
      · rw [upd_same, List.map_append]; rfl
      · intro y hy
        rcases List.mem_append.mp hy with hy | hy
        · exact hn y hy
        · rw [List.mem_singleton.mp hy]
          by_cases h0 : z < 0
          · rw [if_pos h0]; omega
          · rw [if_neg h0]; omega
    · rintro H1 ⟨cs, hc, hl, hn, s1⟩
      refine ⟨_, rfl, D, rfl, ⟨_, SqL.of hc⟩, for_list (K := K) (a := D) (xs := cs.map V.int) (fun i σ H2 => ∃ v s, σ = [some (.ref a), v, some (.ref D), some (.int s)] ∧ H2 = H1) ⟨none, 7, rfl, rfl⟩ (fun i σ H2 _ ⟨_, _, _, e⟩ => by rw [e]; exact SqL.of hc) ?_ ?_⟩
      · rintro i x σ H2 hi ⟨v, s, rfl, rfl⟩
        obtain ⟨z, rfl, hz⟩ := int_at hi
        refine ⟨_, rfl, _, _, rfl, rfl, .inr ⟨by decide, by decide⟩, _, rfl, _, _, rfl, rfl, .inl ⟨_, rfl, _, _, rfl, rfl, (by show (0 : Int) < 2147483647; decide), ?_⟩⟩
        exact ⟨_, _, rfl, rfl⟩
      · rintro σ H2 ⟨v, s, rfl, rfl⟩
        refine fun p hp => ⟨_, rfl, _, rfl, upd_same, tk D 0 0 s 0, rfl, (by show 5 ≤ 15; decide), ?_⟩
        have hp0 : H p = none := s1.free hp
        refine q p D cs _ ⟨⟨0, 0, s, 0, by rw [upd_same, merge_tk], Int.le_refl _, Int.le_refl _⟩, ?_, hn⟩ (same_upd hp0 _ (same_upd hp0 _ s1)) hp0
        rw [upd_ne (ne_of_none hc hp), upd_ne (ne_of_none hc hp)]
        exact hc)
theorem ok_law_take {f : Addr} {fd : FuncData} (k : Kn K mg "_law_take" s_law_take ["tape", "many"] f fd) (z : Z mg) :
    Cal P w K mg base 1 "_law_take" ["tape", "many"] (spTake) f fd := k.cal (by
  refine k.F.ok sc_law_take (fun vs H Q E h => ?_) (fun cdv A outer s H vs Q E hr h => ?_)
  · obtain ⟨t, c, cs, many, rfl, _⟩ := h; rfl
  · obtain ⟨t, c, cs, many, rfl, T, h0, h9, q⟩ := h
    have hu := hu_of hr
    have cne : c ≠ t := T.ne
    obtain ⟨⟨a, l, s0, m, hd, ha, hl⟩, hc, hn⟩ := id T
    refine ⟨_, (pss_cut (ps_if (PW.pt (pw_and (pt_cmpR op_eq (pe_dget hu (pv 0) pe_str (fun _ _ => rfl)) pe_int (nomark _)) (pw_and1 (pt_cmpR op_lt (pe_dget hu (pv 0) pe_str (fun _ _ => rfl)) (pe_callB call_len_seq (by rfl) z.len (by decide +kernel) (pa_cons (pe_dget hu (pv 0) pe_str (fun _ _ => rfl)) pa_nil)) (nomark _))))) (pss_cons (ps_dput hu (pv 0) pe_str (pe_ix ix_list (pe_dget hu (pv 0) pe_str (fun _ _ => rfl)) (pe_dget hu (pv 0) pe_str (fun _ _ => rfl)) (fun _ _ => rfl)) rfl)
        (pss_one (ps_dput hu (pv 0) pe_str (pe_op op_add (pe_dget hu (pv 0) pe_str (fun _ _ => rfl)) pe_int) rfl))) pss_nil)
        (pss_cons (ps_if (pt_cmpR op_gt (pe_dget hu (pv 0) pe_str (fun _ _ => rfl)) pe_int (nomark _)) (pss_cons (ps_set (i := 2) sc_law_take.nd rfl (Or.inl rfl) (pe_op op_mod (pe_callTy call_int1 (by rfl) z.int (by decide +kernel) (pa_cons (pe_dget hu (pv 0) pe_str (fun _ _ => rfl)) pa_nil)) (pv 1)))
        (pss_cons (ps_dput hu (pv 0) pe_str (pe_op op_fdivW (pe_dget hu (pv 0) pe_str (fun _ _ => rfl)) (pv 1)) rfl)
        (pss_one (ps_ret (pv 2))))) pss_nil)
        (pss_cons (ps_dput hu (pv 0) pe_str (pe_op op_add (pe_dget hu (pv 0) pe_str (fun _ _ => rfl)) pe_int) rfl)
        (pss_cons (ps_set (i := 3) sc_law_take.nd rfl (Or.inl rfl) (pe_op op_mod (pe_callTy call_int1 (by rfl) z.int (by decide +kernel) (pa_cons (pe_op op_add (pe_op op_mul (pe_dget hu (pv 0) pe_str (fun _ _ => rfl)) pe_int) (pe_op op_mul (pe_dget hu (pv 0) pe_str (fun _ _ => rfl)) pe_int)) pa_nil)) pe_int))
        (pss_cons (ps_set (i := 3) sc_law_take.nd rfl (Or.inl rfl) (pe_op op_mod (pe_callTy call_int1 (by rfl) z.int (by decide +kernel) (pa_cons (pe_op op_add (pe_op op_add (pe_op op_mul (pv 3) (pv 3)) (pe_op op_mul (pe_dget hu (pv 0) pe_str (fun _ _ => rfl)) pe_int)) pe_int) pa_nil)) pe_int))
        (pss_one (ps_ret (pe_op op_mod (pe_callTy call_int1 (by rfl) z.int (by decide +kernel) (pa_cons (pv 3) pa_nil)) (pv 1))))))))), ?_⟩
    refine ⟨fun σ' H' => ∃ a l m : Int, σ' = [some (.ref t), some (.int many), none, none] ∧ H' t = some (.dK (tk c a l s0 m)) ∧ 0 ≤ a ∧ 0 ≤ l ∧ SameX t H H', ?_, ?_⟩
    · refine ⟨_, rfl, t, .int l, rfl, d_left hd, rfl, _, rfl, ?_⟩
      refine ite2 (fun e0 => ?_) (fun e0 => ?_)
      · refine ⟨_, rfl, t, .int a, rfl, d_at hd, _, rfl, t, .ref c, rfl, d_cells hd, c, _, rfl, .inl (SqL.of hc), _, _, rfl, rfl, _, rfl, ?_⟩
        refine ite2 (fun e1 => ?_) (fun e1 => ?_)
        · have e2 : a < (((cs.map V.int).length : Nat) : Int) := of_decide_eq_true e1
          rw [List.length_map] at e2
          have hk : a.toNat < cs.length := by omega
          have hat : atI (cs.map V.int) a = some (.int cs[a.toNat]) := at_of (j := a.toNat) (by omega) (by rw [List.getElem?_map, List.getElem?_eq_getElem hk]; rfl)
          have hx : 0 ≤ cs[a.toNat] := hn _ (List.getElem_mem hk)
          refine ⟨_, rfl, t, .ref c, rfl, d_cells hd, _, rfl, t, .int a, rfl, d_at hd, c, _, a, _, rfl, rfl, SqL.of hc, hat, _, rfl, t, _, rfl, p_left hd _, ?_⟩
          refine ⟨_, rfl, t, .int a, rfl, d_at upd_same, _, _, rfl, rfl, _, rfl, t, _, rfl, p_at upd_same _, ?_⟩
          exact ⟨a + 1, _, m, rfl, upd_same, by omega, hx, (SameX.upd _).trans (SameX.upd _)⟩
        · exact ⟨a, l, m, rfl, hd, ha, hl, SameX.refl _ _⟩
      · exact ⟨a, l, m, rfl, hd, ha, hl, SameX.refl _ _⟩
    · rintro σ1 H1 ⟨a, l, m, rfl, hd, ha, hl, S1⟩
      have hc1 : H1 c = some (.lst (cs.map V.int)) := S1 _ _ hc cne
      refine ⟨_, rfl, t, .int l, rfl, d_left hd, _, _, rfl, rfl, _, rfl, ?_⟩
      refine ite2 (fun e0 => ?_) (fun e0 => ?_)
      · refine ⟨_, rfl, t, .int l, rfl, d_left hd, .inl ⟨_, rfl, _, rfl, _, _, rfl, rfl, h0, ?_⟩⟩
        refine ⟨_, rfl, t, .int l, rfl, d_left hd, _, rfl, _, _, rfl, rfl, wide_div h0 h9 (by decide) (by decide), _, rfl, t, _, rfl, p_left hd _, ?_⟩
        refine ⟨_, rfl, ?_⟩
        refine q _ _ (Int.emod_nonneg _ (by omega)) (Int.emod_lt_of_pos _ h0) ⟨⟨a, _, s0, m, upd_same, ha, Int.ediv_nonneg hl (by omega)⟩, by rw [upd_ne cne]; exact hc1, hn⟩ (S1.trans (SameX.upd _))
      · refine ⟨_, rfl, t, .int m, rfl, d_salt hd, _, _, rfl, rfl, _, rfl, t, _, rfl, p_salt hd _, ?_⟩
        have hd2 : upd H1 t (.dK (tk c a l s0 (m + 1))) t = some (.dK (tk c a l s0 (m + 1))) := upd_same
        refine ⟨_, rfl, t, .int s0, rfl, d_seed hd2, _, _, rfl, rfl, .inr ⟨by decide, by decide⟩, _, rfl, t, .int _, rfl, d_salt hd2, _, _, rfl, rfl, .inr ⟨by decide, by decide⟩, _, _, rfl, rfl, .inl ⟨_, rfl, _, _, rfl, rfl, (by show (0 : Int) < 2147483647; decide), ?_⟩⟩
        generalize hmx : (s0 * 48271 + (m + 1) * 69621) % 2147483647 = mx
        have b1 : 0 ≤ mx := by rw [← hmx]; exact Int.emod_nonneg _ (by decide)
        have b2 : mx < 2147483647 := by rw [← hmx]; exact Int.emod_lt_of_pos _ (by decide)
        refine ⟨_, rfl, _, rfl, _, _, rfl, rfl, .inl ⟨by omega, by omega⟩, _, rfl, t, .int _, rfl, d_salt hd2, _, _, rfl, rfl, .inr ⟨by decide, by decide⟩, _, _, rfl, rfl, _, _, rfl, rfl, .inl ⟨_, rfl, _, _, rfl, rfl, (by show (0 : Int) < 2147483399; decide), ?_⟩⟩
        refine ⟨_, rfl, .inl ⟨_, rfl, _, rfl, _, _, rfl, rfl, h0, ?_⟩⟩
        exact q _ _ (Int.emod_nonneg _ (by omega)) (Int.emod_lt_of_pos _ h0) ⟨⟨a, l, s0, m + 1, hd2, ha, hl⟩, by rw [upd_ne cne]; exact hc1, hn⟩ (S1.trans (SameX.upd _)))

theorem lt_len : ("abcdefghijklmnopqrstuvwxyz" : Str).cps.toList.length = 26 := by decide +kernel
theorem lt_at : ∀ j : Nat, j < 26 → ("abcdefghijklmnopqrstuvwxyz" : Str).cps.toList[j]? = some (97 + j) := by decide +kernel
theorem lt_ok : ∀ ch ∈ ("abcdefghijklmnopqrstuvwxyz" : Str).cps.toList, 97 ≤ ch ∧ ch ≤ 122 := by decide +kernel
theorem sg_len : (("abcdefghijklmnopqrstuvwxyz" : Str) ++ ("0123456789_" : Str)).cps.toList.length = 37 := by decide +kernel
theorem sg_ok : ∀ ch ∈ (("abcdefghijklmnopqrstuvwxyz" : Str) ++ ("0123456789_" : Str)).cps.toList, nmCh ch := by decide +kernel
theorem ok_law_name {f : Addr} {fd : FuncData} (k : Kn K mg "_law_name" s_law_name ["tape", "used"] f fd) (z : Z mg)
    {g_law_take : Addr} {gd_law_take : FuncData} (c_law_take : Cal P w K mg base 1 "_law_take" ["tape", "many"] (spTake) g_law_take gd_law_take) :
    Cal P w K mg base 2 "_law_name" ["tape", "used"] (spName) f fd := k.cal (by
  refine k.F.ok sc_law_name (fun vs H Q E h => ?_) (fun cdv A outer s H vs Q E hr h => ?_)
  · obtain ⟨t, c, u, cs, us, rfl, _⟩ := h; rfl
  · obtain ⟨t, c, u, cs, us, rfl, T, hu0, huc, hl, q⟩ := h
    have hut : u ≠ t := T.notL hu0
    refine ⟨_, (pss_cons (ps_set (i := 2) sc_law_name.nd rfl (Or.inl rfl) pe_str)
        (pss_cons (ps_set (i := 3) sc_law_name.nd rfl (Or.inr rfl) (pe_op op_add_str (pv 2) pe_str))
        (pss_cons (ps_set (i := 4) sc_law_name.nd rfl (Or.inl rfl) (pe_call c_law_take.G (hr.mono (by decide)) (by rfl) c_law_take.m c_law_take.kp c_law_take.b .nil pass0 (pa_cons (pv 0) (pa_cons pe_int pa_nil))))
        (pss_cut (ps_if (pt_cmpR op_eq (pe_call c_law_take.G (hr.mono (by decide)) (by rfl) c_law_take.m c_law_take.kp c_law_take.b .nil pass0 (pa_cons (pv 0) (pa_cons pe_int pa_nil))) pe_int (nomark _)) (pss_one (ps_set (i := 4) sc_law_name.nd rfl (Or.inl rfl) pe_int)) pss_nil)
        (pss_cons (ps_set (i := 6) sc_law_name.nd rfl (Or.inl rfl) (pe_op op_add_str (pe_ix ix_str (pv 2) (pe_call c_law_take.G (hr.mono (by decide)) (by rfl) c_law_take.m c_law_take.kp c_law_take.b .nil pass0 (pa_cons (pv 0) (pa_cons pe_int pa_nil))) (fun _ _ => rfl)) (pe_join pe_str (pe_lc (own := [("k", 5)]) (g := gName 5) (tt := tYes) (by rfl) sc_law_name.nd (pi_range1 (by rfl) z.range (pa_cons (pv 4) pa_nil)) (blkOk_by (own := [("k", 5)]) (N := ["tape", "used", "letters", "signs", "size", "k", "name"]) (sc := defScope s_law_name) (by decide +kernel)) (fun _ _ _ _ _ => pg_name (i := 5) sc_law_name.nd rfl (Or.inl rfl)) (fun _ _ _ _ _ => pts_nil) (fun _ _ _ _ _ => (pe_ix ix_str (pv 3) (pe_call c_law_take.G (hr.mono (by decide)) (by rfl) c_law_take.m c_law_take.kp c_law_take.b .nil pass0 (pa_cons (pv 0) (pa_cons pe_int pa_nil))) (fun _ _ => rfl)))))))
        (pss_cons (ps_for PassesOwn.never rfl (pi_range1 (by rfl) z.range (pa_cons pe_int pa_nil)) (pg_name (i := 5) sc_law_name.nd rfl (Or.inl rfl))
        (pss_one (ps_if (pt_cmpR op_in_seq (pv 6) (pv 1) (by rfl)) (pss_one (ps_set (i := 6) sc_law_name.nd rfl (Or.inl rfl) (pe_op op_add_str (pe_ix ix_str (pv 2) (pv 5) (fun _ _ => rfl)) (pe_slice sl_str (pv 6) po_none (po_some pe_int))))) pss_nil)))
        (pss_cons (ps_expr (pe_bm PySem.F.plainAttrs_list PySem.F.slot_list_append PySem.F.type_list_append mt_append (pv 1) (pa_cons (pv 6) pa_nil)))
        (pss_one (ps_ret (pv 6)))))))))), ?_⟩
    refine ⟨_, rfl, _, _, rfl, rfl, (by decide +kernel), ?_⟩
    refine ⟨_, rfl, t, c, cs, 4, rfl, T, by decide, by decide +kernel, fun d H1 d0 d1 T1 s1 => ?_⟩
    refine ⟨fun σ' H' => ∃ n : Int, σ' = [some (.ref t), some (.ref u), some (.str "abcdefghijklmnopqrstuvwxyz"), some (.str (("abcdefghijklmnopqrstuvwxyz" : Str) ++ ("0123456789_" : Str))), some (.int n), none, none] ∧ 0 ≤ n ∧ n ≤ 19 ∧ TapeAt H' t c cs ∧ SameX t H H', ?_, ?_⟩
    · refine ⟨_, rfl, t, c, cs, 9, rfl, T1, by decide, by decide +kernel, fun e H2 e0 e1 T2 s2 => ⟨rfl, _, rfl, ?_⟩⟩
      refine ifD (fun _ => ?_) (fun _ => ?_)
      · exact ⟨19, rfl, by decide, by decide, T2, s1.trans s2⟩
      · exact ⟨d, rfl, d0, by omega, T2, s1.trans s2⟩
    rintro σ2 H2 ⟨n, rfl, n0, n1, T2, s2⟩
    refine ⟨_, rfl, _, rfl, t, c, cs, 26, rfl, T2, by decide, by decide +kernel, fun e H3 e0 e1 T3 s3 => ?_⟩
    obtain ⟨ch0, h1, h2⟩ := at_in (xs := ("abcdefghijklmnopqrstuvwxyz" : Str).cps.toList) e0 (by rw [lt_len]; exact e1)
    refine ⟨_, _, ch0, rfl, rfl, (by decide +kernel), h1, ?_⟩
    refine ⟨⟨_, rfl⟩, _, rfl, n, rfl, by omega, by omega, fun D hD => lc_range (lo := 0) (n := n.toNat) (fun i H' => ∃ chs : List Nat, H' D = some (.lst ((chs.map one).map V.str)) ∧ chs.length = i ∧ (∀ x ∈ chs, nmCh x) ∧ TapeAt H' t c cs ∧ SameX t H3 H') ?_ ?_ ?_⟩
    · exact ⟨[], upd_same, rfl, (by intro x hx; cases hx), T3.mono (same_new hD _), SameX.of (same_new hD _)⟩
    · rintro i H4 hi ⟨chs, hc, hl', hn', T4, s4⟩
      have hDt := T3.fresh hD
      refine ⟨rfl, _, rfl, _, rfl, t, c, cs, 37, rfl, T4, by decide, by decide +kernel, fun g H5 g0 g1 T5 s5 => ?_⟩
      obtain ⟨ch, k1, k2⟩ := at_in (xs := (("abcdefghijklmnopqrstuvwxyz" : Str) ++ ("0123456789_" : Str)).cps.toList) g0 (by rw [sg_len]; exact g1)
      refine ⟨_, _, _, rfl, rfl, (by decide +kernel), k1, _, s5 _ _ hc hDt.1, (by rw [List.length_map, List.length_map]; exact small1000 (by omega)), chs ++ [ch], ?_, by simp [hl'], ?_, T5.upd hDt.1 hDt.2, samex_upd hD _ (s4.trans s5)⟩
      · rw [upd_same, List.map_append, List.map_append]; rfl
      · intro y hy
        rcases List.mem_append.mp hy with hy | hy
        · exact hn' y hy
        · rw [List.mem_singleton.mp hy]; exact sg_ok _ k2
    rintro H4 ⟨chs, hc, hl', hn', T4, s4⟩
    have hsum : ((chs.map one).map (·.length)).sum + (chs.map one).length * ("" : Str).length ≤ 16777216 := by
      have e0 : ("" : Str).length = 0 := by decide +kernel
      rw [sum_ones, e0, Nat.mul_zero]; omega
    have S4 : SameX t H H4 := s2.trans (s3.trans s4)
    have hu4 : H4 u = some (.lst (us.map V.str)) := S4 _ _ hu0 hut
    refine ⟨_, D, _, rfl, rfl, .inl (SqL.of hc), hsum, _, _, rfl, rfl, (by rw [len_joined]; exact Nat.le_of_lt (small1000 (by show 1 + _ ≤ _; omega))), ?_⟩
    have nz : nameOk (one ch0 ++ Txt.join ("" : Str) (chs.map one)) := by
      have et : tl (one ch0 ++ Txt.join ("" : Str) (chs.map one)) = ch0 :: chs := by rw [tl_append, tl_joined]; rfl
      refine ⟨?_, ⟨ch0, chs, et, lt_ok _ h2⟩, ?_⟩
      · rw [len_tl, et, List.length_cons]; omega
      · rw [et]
        intro x hx
        rcases List.mem_cons.mp hx with rfl | hx
        · have := lt_ok _ h2; unfold nmCh; omega
        · exact hn' x hx
    refine ⟨26, rfl, by decide, by decide, for_range (lo := 0) (n := 26) (fun i σ H' => ∃ v z, σ = [some (.ref t), some (.ref u), some (.str "abcdefghijklmnopqrstuvwxyz"), some (.str (("abcdefghijklmnopqrstuvwxyz" : Str) ++ ("0123456789_" : Str))), some (.int n), v, some (.str z)] ∧ H' = H4 ∧ nameOk z ∧ (z ∉ us ∨ Hit us i)) ⟨none, _, rfl, rfl, nz, .inr ⟨[], rfl, List.nodup_nil, fun v hv => by cases hv⟩⟩ ?_ ?_⟩
    · rintro i σ H' hi ⟨v, z0, rfl, rfl, nk, hit⟩
      refine ⟨_, rfl, _, rfl, u, _, rfl, .inl (SqL.of hu4), rfl, flat_strs us, _, rfl, ?_⟩
      show if inV (.str z0) (us.map V.str) = true then _ else _
      rw [inV_str]
      refine ifD (fun hin => ?_) (fun hout => ⟨_, z0, rfl, rfl, nk, .inl hout⟩)
      have hk : atI ("abcdefghijklmnopqrstuvwxyz" : Str).cps.toList (0 + (i : Int)) = some (97 + i) := at_ofN (z := 0 + (i : Int)) (j := i) (by omega) (lt_at i hi)
      have l1 := cutS_length z0 none (some 19)
      refine ⟨_, rfl, _, rfl, _, _, _, rfl, rfl, (by decide +kernel), hk, _, rfl, _, rfl, _, rfl, Nat.le_of_lt (small1000 (by have := nk.1; omega)), _, _, rfl, rfl, Nat.le_of_lt (small1000 (by show 1 + _ ≤ _; have := nk.1; omega)), ?_⟩
      have et : tl (one (97 + i) ++ cutS z0 none (some 19)) = (97 + i) :: tl (cutS z0 none (some 19)) := by rw [tl_append]; rfl
      have l2 : (cutS z0 none (some 19)).length ≤ 19 := by
        show (((z0.cps.toList.drop (HT.sIx z0.length 0 none)).take (HT.sIx z0.length z0.length (some 19) - HT.sIx z0.length 0 none)).toArray).size ≤ 19
        rw [List.size_toArray, List.length_take]
        have : HT.sIx z0.length z0.length (some 19) = min 19 z0.length := HT.sIx_nat _ _ 19
        rw [this]
        omega
      refine ⟨_, _, rfl, rfl, ⟨?_, ⟨97 + i, _, et, by omega, by omega⟩, ?_⟩, ?_⟩
      · rw [len_app]; show 1 + _ ≤ _; omega
      · show ∀ ch ∈ tl (one (97 + i) ++ cutS z0 none (some 19)), nmCh ch
        rw [et]
        intro x hx
        rcases List.mem_cons.mp hx with rfl | hx
        · unfold nmCh; omega
        · exact nk.2.2 x (cutS_sub _ hx)
      · rcases hit with hit | hit
        · exact absurd hin hit
        · exact hit.step et
    rintro σ H' ⟨v, z0, rfl, rfl, nk, hit⟩
    have hz0 : z0 ∉ us := by
      rcases hit with hit | hit
      · exact hit
      · exact absurd (hit.no (by omega)) (fun z => z)
    refine ⟨_, rfl, .inl ⟨rfl, _, SqL.of hu4⟩, _, rfl, u, _, _, rfl, rfl, hu4, (by rw [List.length_map]; exact small1000 (by omega)), ?_⟩
    refine ⟨_, rfl, ?_⟩
    refine q z0 _ nk hz0 (T4.upd hut huc.symm) ?_ (SameXY.updY _ (SameXY.ofX S4))
    rw [upd_same, List.map_append]
    rfl)
theorem ok_law_table {f : Addr} {fd : FuncData} (k : Kn K mg "_law_table" s_law_table ["columns"] f fd) (z : Z mg) :
    Cal P w K mg base 1 "_law_table" ["columns"] (spTable) f fd := k.cal (by
  refine k.F.ok sc_law_table (fun vs H Q E h => ?_) (fun cdv A outer s H vs Q E hr h => ?_)
  · obtain ⟨L, cols, rfl, _⟩ := h; rfl
  · obtain ⟨L, cols, rfl, ⟨xs, hL, rL⟩, q⟩ := h
    refine ⟨_, (pss_one (ps_ret (pe_disp (pps_cons pe_str (pe_callTy call_list_of (by rfl) z.list (by decide +kernel) (pa_cons (pv 0) pa_nil)) (pps_cons pe_str (pe_lst pa_nil) (pps_cons pe_str (pe_lst pa_nil) (pps_cons pe_str (pe_lst pa_nil) pps_nil)))) (by rfl) (by rfl) (fun z => by cases z) (by decide)))), ?_⟩
    refine fun p hp => ?_
    have Lp : L ≠ p := ne_of_none hL hp
    refine ⟨_, rfl, L, xs, rfl, .inl (SqL.of (by rw [upd_ne Lp]; exact hL)), fun c hc => ⟨(by show 0 ≤ sizeLine; decide), fun k hk => ⟨(by show 0 ≤ sizeLine; decide), fun u hu => ⟨(by show 0 ≤ sizeLine; decide), fun r hr' => ?_⟩⟩⟩⟩
    have m1 := same_new hc (.lst xs)
    have m2 := same_new hk (.lst [])
    have m3 := same_new hu (.lst [])
    have m4 := same_new hr' (.lst [])
    have kp : (upd (upd (upd (upd (upd H p (.dK [])) c (.lst xs)) k (.lst [])) u (.lst [])) r (.lst [])) p = some (.dK []) := m4 _ _ (m3 _ _ (m2 _ _ (m1 _ _ upd_same)))
    have kc : (upd (upd (upd (upd (upd H p (.dK [])) c (.lst xs)) k (.lst [])) u (.lst [])) r (.lst [])) c = some (.lst xs) := m4 _ _ (m3 _ _ (m2 _ _ upd_same))
    have kk : (upd (upd (upd (upd (upd H p (.dK [])) c (.lst xs)) k (.lst [])) u (.lst [])) r (.lst [])) k = some (.lst []) := m4 _ _ (m3 _ _ upd_same)
    have ku : (upd (upd (upd (upd (upd H p (.dK [])) c (.lst xs)) k (.lst [])) u (.lst [])) r (.lst [])) u = some (.lst []) := m4 _ _ upd_same
    have kr : (upd (upd (upd (upd (upd H p (.dK [])) c (.lst xs)) k (.lst [])) u (.lst [])) r (.lst [])) r = some (.lst []) := upd_same
    have S5 : Same H (upd (upd (upd (upd (upd H p (.dK [])) c (.lst xs)) k (.lst [])) u (.lst [])) r (.lst [])) := (same_new hp _).trans (m1.trans (m2.trans (m3.trans m4)))
    have ckn : c ≠ k := ne_of_none upd_same hk
    have cun : c ≠ u := ne_of_none (m2 _ _ upd_same) hu
    have crn : c ≠ r := ne_of_none (m3 _ _ (m2 _ _ upd_same)) hr'
    have kun : k ≠ u := ne_of_none upd_same hu
    have krn : k ≠ r := ne_of_none (m3 _ _ upd_same) hr'
    have urn : u ≠ r := ne_of_none upd_same hr'
    have fr1 : H c = none := (same_new hp _).free hc
    have fr2 : H k = none := (same_new hp _).free (m1.free hk)
    have fr3 : H u = none := (same_new hp _).free (m1.free (m2.free hu))
    have fr4 : H r = none := (same_new hp _).free (m1.free (m2.free (m3.free hr')))
    generalize hH : (upd (upd (upd (upd (upd H p (.dK [])) c (.lst xs)) k (.lst [])) u (.lst [])) r (.lst [])) = H5 at *
    refine ⟨kp, descD ⟨p, c, k, u, r⟩, rfl, (by show 4 ≤ 15; decide), ?_⟩
    rw [merge_desc]
    have np : ∀ b, (∃ ys, H5 b = some (.lst ys)) → b ≠ p := fun b ⟨ys, e⟩ => ne_of e kp (by intro z; cases z)
    have kt : KeepT H (upd H5 p (.dK (descD ⟨p, c, k, u, r⟩))) := (KeepT.of S5).trans (KeepT.upd fun ys z => by rw [kp] at z; cases z)
    refine q ⟨p, c, k, u, r⟩ _ (fun n => ⟨upd_same, ⟨xs, by rw [upd_ne (np _ ⟨_, kc⟩)]; exact kc, rL.mono kt⟩, ⟨[], by rw [upd_ne (np _ ⟨_, kk⟩)]; exact kk, .nil⟩, by rw [upd_ne (np _ ⟨_, ku⟩)]; exact ku, ⟨[], by rw [upd_ne (np _ ⟨_, kr⟩)]; exact kr, .nil⟩⟩) (same_upd hp _ S5) hp ?_ ?_
    · intro b hb
      simp only [adL, List.mem_cons, List.not_mem_nil, or_false] at hb
      rcases hb with rfl | rfl | rfl | rfl
      · exact fr1
      · exact fr2
      · exact fr3
      · exact fr4
    · simp only [adL, List.nodup_cons, List.mem_cons, List.not_mem_nil, or_false, not_or, not_false_eq_true, List.nodup_nil, and_true]
      exact ⟨⟨ckn, cun, crn⟩, ⟨kun, krn⟩, urn⟩)
theorem ok_law_columns {f : Addr} {fd : FuncData} (k : Kn K mg "_law_columns" s_law_columns ["tape", "used", "many"] f fd) (z : Z mg)
    {g_law_take : Addr} {gd_law_take : FuncData} (c_law_take : Cal P w K mg base 1 "_law_take" ["tape", "many"] (spTake) g_law_take gd_law_take)
    {g_law_name : Addr} {gd_law_name : FuncData} (c_law_name : Cal P w K mg base 2 "_law_name" ["tape", "used"] (spName) g_law_name gd_law_name) :
    Cal P w K mg base 3 "_law_columns" ["tape", "used", "many"] (spColumns) f fd := k.cal (by
  refine k.F.ok sc_law_columns (fun vs H Q E h => ?_) (fun cdv A outer s H vs Q E hr h => ?_)
  · obtain ⟨t, c, u, cs, us, m, rfl, _⟩ := h; rfl
  · obtain ⟨t, c, u, cs, us, m, rfl, T, hu0, huc, m0, m8, hl, q⟩ := h
    have hut : u ≠ t := T.notL hu0
    refine ⟨_, (pss_cons (ps_set (i := 3) sc_law_columns.nd rfl (Or.inl rfl) (pe_lst (pa_cons pe_str (pa_cons pe_str pa_nil))))
        (pss_cons (ps_set (i := 4) sc_law_columns.nd rfl (Or.inl rfl) (pe_lst (pa_cons (pe_tup (pa_cons (pe_call c_law_name.G (hr.mono (by decide)) (by rfl) c_law_name.m c_law_name.kp c_law_name.b .nil pass0 (pa_cons (pv 0) (pa_cons (pv 1) pa_nil))) (pa_cons (pe_ix ix_list (pv 3) (pe_call c_law_take.G (hr.mono (by decide)) (by rfl) c_law_take.m c_law_take.kp c_law_take.b .nil pass0 (pa_cons (pv 0) (pa_cons pe_int pa_nil))) (fun _ _ => rfl)) (pa_cons pe_bl pa_nil)))) pa_nil)))
        (pss_cons (ps_for PassesOwn.never rfl (pi_range1 (by rfl) z.range (pa_cons (pv 2) pa_nil)) (pg_name (i := 5) sc_law_columns.nd rfl (Or.inl rfl))
        (pss_one (ps_expr (pe_bm PySem.F.plainAttrs_list PySem.F.slot_list_append PySem.F.type_list_append mt_append (pv 4) (pa_cons (pe_tup (pa_cons (pe_call c_law_name.G (hr.mono (by decide)) (by rfl) c_law_name.m c_law_name.kp c_law_name.b .nil pass0 (pa_cons (pv 0) (pa_cons (pv 1) pa_nil))) (pa_cons (pe_ix ix_list (pv 3) (pe_call c_law_take.G (hr.mono (by decide)) (by rfl) c_law_take.m c_law_take.kp c_law_take.b .nil pass0 (pa_cons (pv 0) (pa_cons pe_int pa_nil))) (fun _ _ => rfl)) (pa_cons (pe_cmpR op_eq (pe_call c_law_take.G (hr.mono (by decide)) (by rfl) c_law_take.m c_law_take.kp c_law_take.b .nil pass0 (pa_cons (pv 0) (pa_cons pe_int pa_nil))) pe_int (nomark _)) pa_nil)))) pa_nil)))))
        (pss_one (ps_ret (pv 4)))))), ?_⟩
    refine ⟨(by show 2 ≤ sizeLine; decide), fun KL hKL => ?_⟩
    have TK := T.mono (same_new hKL (.lst [.str "int", .str "text"]))
    have fK := T.fresh hKL
    have uK : u ≠ KL := ne_of_none hu0 hKL
    have kinds : ∀ {d : Int}, 0 ≤ d → d < 2 → ∃ k : Str, atI [V.str ("int" : Str), V.str ("text" : Str)] d = some (.str k) ∧ (k = ("int" : Str) ∨ k = ("text" : Str)) := fun d0 d1 => by
      obtain ⟨v, h1, h2⟩ := at_in (xs := [V.str ("int" : Str), V.str ("text" : Str)]) d0 (by simpa using d1)
      simp only [List.mem_cons, List.not_mem_nil, or_false] at h2
      rcases h2 with rfl | rfl
      · exact ⟨_, h1, .inl rfl⟩
      · exact ⟨_, h1, .inr rfl⟩
    refine ⟨_, rfl, _, rfl, t, c, u, cs, us, rfl, TK, (by rw [upd_ne uK]; exact hu0), huc, by omega, fun n1 H1 nk1 nf1 T1 hu1 s1 => ?_⟩
    have hK1 := s1 _ _ upd_same fK.1 uK.symm
    refine ⟨_, rfl, _, rfl, t, c, cs, 2, rfl, T1, by decide, by decide +kernel, fun d H2 d0 d1 T2 s2 => ?_⟩
    obtain ⟨k1, a1, b1⟩ := kinds d0 d1
    refine ⟨KL, _, d, _, rfl, rfl, SqL.of (s2 _ _ hK1 fK.1), a1, (by show 3 ≤ sizeLine; decide), fun p hp => ⟨(by show 1 ≤ sizeLine; decide), fun L hL => ?_⟩⟩
    have S2 : SameXY t u H H2 := (SameXY.of (same_new hKL _)).trans (s1.trans (SameXY.ofX s2))
    have hu2 : H2 u = some (.lst ((us ++ [n1]).map V.str)) := s2 _ _ hu1 hut
    have hK2 := s2 _ _ hK1 fK.1
    have e2 : Same H2 (upd (upd H2 p (.tup [.str n1, .str k1, .bl false])) L (.lst [.ref p])) := (same_new hp _).trans (same_new hL _)
    have hLt := (T2.mono (same_new hp (.tup [.str n1, .str k1, .bl false]))).fresh hL
    have uL : u ≠ L := ne_of_none (same_new hp _ _ _ hu2) hL
    have KLL : KL ≠ L := ne_of_none (same_new hp _ _ _ hK2) hL
    have hL2 : H2 L = none := by
      cases e : H2 L with
      | none => rfl
      | some o => have := same_new hp (.tup [.str n1, .str k1, .bl false]) _ _ e; rw [hL] at this; cases this
    have hL0 : H L = none := by
      cases e : H L with
      | none => rfl
      | some o => have := S2 _ _ e hLt.1 uL.symm; rw [hL2] at this; cases this
    refine ⟨_, rfl, m, rfl, by omega, by omega, for_range (lo := 0) (n := m.toNat) (fun i σ H' => ∃ v cols xs, σ = [some (.ref t), some (.ref u), some (.int m), some (.ref KL), some (.ref L), v] ∧ H' L = some (.lst xs) ∧ TpL H' xs (cols.map colD) ∧ cols.length = i + 1 ∧ ColsOk us cols ∧ TapeAt H' t c cs ∧ H' u = some (.lst ((us ++ colNs cols).map V.str)) ∧ H' KL = some (.lst [.str "int", .str "text"]) ∧ SameXY t u H H') ?_ ?_ ?_⟩
    · refine ⟨none, [⟨n1, k1, false⟩], [.ref p], rfl, upd_same, .cons (col_mk (by rw [upd_ne (ne_of_none upd_same hL)]; exact upd_same)) .nil, rfl, ⟨?_, ?_, ?_, ?_⟩, T2.mono e2, e2 _ _ hu2, e2 _ _ hK2, S2.trans (SameXY.of e2)⟩
      · show ([n1] : List Str).Nodup; simp
      · intro n hn
        have : n = n1 := by simpa [colNs] using hn
        subst this
        exact ⟨nf1, nk1⟩
      · intro cc hc
        have : cc = ⟨n1, k1, false⟩ := by simpa using hc
        subst this
        exact b1
      · intro cc hc
        have : cc = ⟨n1, k1, false⟩ := by simpa using hc.symm
        subst this
        rfl
    · rintro i σ H3 hi ⟨v, cols, xs, rfl, h3, r3, l3, C3, T3, u3, K3, s3⟩
      have hlen : (us ++ colNs cols).length ≤ 25 := by rw [List.length_append]; unfold colNs; rw [List.length_map]; omega
      refine ⟨_, rfl, .inl ⟨rfl, _, SqL.of h3⟩, ?_⟩
      refine ⟨_, rfl, _, rfl, t, c, u, cs, us ++ colNs cols, rfl, T3, u3, huc, hlen, fun n4 H4 nk4 nf4 T4 hu4 s4 => ?_⟩
      have h4 := s4 _ _ h3 (T3.notL h3) uL.symm
      have K4 := s4 _ _ K3 fK.1 uK.symm
      have r4 := r3.mono (KeepT.ofXY T3 u3 s4)
      refine ⟨_, rfl, _, rfl, t, c, cs, 2, rfl, T4, by decide, by decide +kernel, fun d H5 d0 d1 T5 s5 => ?_⟩
      obtain ⟨k5, a5, b5⟩ := kinds d0 d1
      have K5 := s5 _ _ K4 fK.1
      refine ⟨KL, _, d, _, rfl, rfl, SqL.of K5, a5, ?_⟩
      refine ⟨_, rfl, t, c, cs, 2, rfl, T5, by decide, by decide +kernel, fun e H6 e0 e1 T6 s6 => ?_⟩
      have s46 : SameXY t u H3 H6 := s4.trans ((SameXY.ofX s5).trans (SameXY.ofX s6))
      have h6 := s6 _ _ (s5 _ _ h4 (T3.notL h3)) (T3.notL h3)
      have u6 := s6 _ _ (s5 _ _ hu4 hut) hut
      have K6 := s6 _ _ K5 fK.1
      have r6 := (r4.mono (KeepT.ofX T4 s5)).mono (KeepT.ofX T5 s6)
      refine ⟨rfl, (by show 3 ≤ sizeLine; decide), fun p6 hp6 => ?_⟩
      have m7 := same_new hp6 (.tup [.str n4, .str k5, .bl (decide (V.int e = V.int 1))])
      have nL : L ≠ p6 := ne_of_none h6 hp6
      refine ⟨L, xs, _, rfl, rfl, m7 _ _ h6, (by rw [r3.length, List.length_map]; exact small1000 (by omega)), ?_⟩
      have ku : KeepT (upd H6 p6 (.tup [.str n4, .str k5, .bl (decide (V.int e = V.int 1))])) (upd (upd H6 p6 (.tup [.str n4, .str k5, .bl (decide (V.int e = V.int 1))])) L (.lst (xs ++ [.ref p6]))) := KeepT.upd (fun ys z => by rw [m7 _ _ h6] at z; cases z)
      refine ⟨_, cols ++ [⟨n4, k5, decide (V.int e = V.int 1)⟩], xs ++ [.ref p6], rfl, upd_same, ?_, by simp [l3], ⟨?_, ?_, ?_, ?_⟩, (T6.mono m7).upd (T3.notL h3) (fun z => by subst z; exact hLt.2 rfl), ?_, ?_, ?_⟩
      · rw [List.map_append]
        exact TpL.snoc ((r6.mono (KeepT.of m7)).mono ku) (col_mk (ku _ _ upd_same))
      · unfold colNs
        rw [List.map_append]
        refine List.nodup_append.mpr ⟨C3.nd, by simp, ?_⟩
        intro a ha b hb
        have : b = n4 := by simpa using hb
        subst this
        rintro rfl
        exact nf4 (List.mem_append.mpr (.inr ha))
      · intro n hn
        unfold colNs at hn
        rw [List.map_append] at hn
        rcases List.mem_append.mp hn with hn | hn
        · exact C3.fr n hn
        · have : n = n4 := by simpa using hn
          subst this
          exact ⟨fun z => nf4 (List.mem_append.mpr (.inl z)), nk4⟩
      · intro cc hc
        rcases List.mem_append.mp hc with hc | hc
        · exact C3.kd cc hc
        · have : cc = ⟨n4, k5, decide (V.int e = V.int 1)⟩ := by simpa using hc
          subst this
          exact b5
      · intro cc hc
        rw [List.getElem?_append_left (by omega)] at hc
        exact C3.hd cc hc
      · have ec : colNs (cols ++ [⟨n4, k5, decide (V.int e = V.int 1)⟩]) = colNs cols ++ [n4] := by unfold colNs; rw [List.map_append]; rfl
        rw [upd_ne uL, m7 _ _ u6, ec, List.append_assoc]
      · rw [upd_ne KLL]; exact m7 _ _ K6
      · exact samexy_upd hL0 _ (s3.trans (s46.trans (SameXY.of m7)))
    · rintro σ H3 ⟨v, cols, xs, rfl, h3, r3, l3, C3, T3, u3, K3, s3⟩
      exact ⟨_, rfl, q L cols xs H3 hL0 h3 r3 (by omega) C3 T3 u3 s3⟩)
theorem ok_law_names {f : Addr} {fd : FuncData} (k : Kn K mg "_law_names" s_law_names ["columns"] f fd) (z : Z mg) :
    Cal P w K mg base 1 "_law_names" ["columns"] (spNames) f fd := k.cal (by
  refine k.F.ok sc_law_names (fun vs H Q E h => ?_) (fun cdv A outer s H vs Q E hr h => ?_)
  · obtain ⟨L, cols, rfl, _⟩ := h; rfl
  · obtain ⟨L, cols, rfl, C, hl, q⟩ := h
    refine ⟨_, (pss_one (ps_ret (pe_lc (own := [("column", 1)]) (g := gName 1) (tt := tYes) (by rfl) sc_law_names.nd (pi_list (pv 0)) (blkOk_by (own := [("column", 1)]) (N := ["columns", "column"]) (sc := defScope s_law_names) (by decide +kernel)) (fun _ _ _ _ _ => pg_name (i := 1) sc_law_names.nd rfl (Or.inl rfl)) (fun _ _ _ _ _ => pts_nil) (fun _ _ _ _ _ => (pe_ix (r := rIxT K) ix_tup (pv 1) pe_int (fun _ _ => rfl)))))), ?_⟩
    obtain ⟨xs, h1, h2⟩ := id C
    have hx : xs.length = cols.length := by rw [h2.length, List.length_map]
    refine ⟨_, rfl, L, rfl, ⟨_, SqL.of h1⟩, fun D hD => lc_list (K := K) (a := L) (xs := xs) (fun i H' => H' D = some (.lst (((colNs cols).take i).map V.str)) ∧ Same H H') ⟨upd_same, same_new hD _⟩ (fun i H' _ hh => SqL.of (hh.2 _ _ h1)) ?_ ?_⟩
    · rintro i x H1 hi ⟨hD1, s1⟩
      have hil : i < cols.length := by rw [← hx]; exact (List.getElem?_eq_some_iff.mp hi).1
      obtain ⟨xs', a, k1, k2, k3⟩ := C.get (List.getElem?_eq_getElem hil)
      rw [h1] at k1
      cases k1
      rw [hi] at k2
      cases k2
      refine ⟨rfl, _, rfl, a, _, 0, _, rfl, rfl, SqT.of (s1 _ _ k3), atI_nat (j := 0) rfl, _, hD1, (by rw [List.length_map, List.length_take]; exact small1000 (by omega)), ?_, same_upd hD _ s1⟩
      rw [upd_same, List.take_add_one]
      have : (colNs cols)[i]? = some cols[i].n := by unfold colNs; rw [List.getElem?_map, List.getElem?_eq_getElem hil]; rfl
      rw [this]
      simp
    · rintro H1 ⟨hD1, s1⟩
      have : (colNs cols).take xs.length = colNs cols := List.take_of_length_le (by unfold colNs; rw [List.length_map]; omega)
      rw [this] at hD1
      exact q D H1 hD s1 hD1)
theorem ok_law_integer {f : Addr} {fd : FuncData} (k : Kn K mg "_law_integer" s_law_integer ["tape"] f fd) (z : Z mg)
    {g_law_take : Addr} {gd_law_take : FuncData} (c_law_take : Cal P w K mg base 1 "_law_take" ["tape", "many"] (spTake) g_law_take gd_law_take) :
    Cal P w K mg base 2 "_law_integer" ["tape"] (spDraw (isInt (-999999999) 999999999)) f fd := k.cal (by
  refine k.F.ok sc_law_integer (fun vs H Q E h => ?_) (fun cdv A outer s H vs Q E hr h => ?_)
  · obtain ⟨t, c, cs, rfl, _⟩ := h; rfl
  · obtain ⟨t, c, cs, rfl, T, q⟩ := h
    refine ⟨_, (pss_cons (ps_set (i := 1) sc_law_integer.nd rfl (Or.inl rfl) (pe_call c_law_take.G (hr.mono (by decide)) (by rfl) c_law_take.m c_law_take.kp c_law_take.b .nil pass0 (pa_cons (pv 0) (pa_cons pe_int pa_nil))))
        (pss_cons (ps_if (pt_cmpR op_eq (pv 1) pe_int (nomark _)) (pss_one (ps_ret (pe_op op_sub (pe_call c_law_take.G (hr.mono (by decide)) (by rfl) c_law_take.m c_law_take.kp c_law_take.b .nil pass0 (pa_cons (pv 0) (pa_cons pe_int pa_nil))) pe_int))) pss_nil)
        (pss_cons (ps_if (pt_cmpR op_eq (pv 1) pe_int (nomark _)) (pss_one (ps_ret (pe_ix ix_list (pe_lst (pa_cons pe_int (pa_cons (pe_un un_neg pe_int) (pa_cons pe_int (pa_cons pe_int pa_nil))))) (pe_call c_law_take.G (hr.mono (by decide)) (by rfl) c_law_take.m c_law_take.kp c_law_take.b .nil pass0 (pa_cons (pv 0) (pa_cons pe_int pa_nil))) (fun _ _ => rfl)))) pss_nil)
        (pss_cons (ps_if (pt_cmpR op_eq (pv 1) pe_int (nomark _)) (pss_one (ps_ret (pe_un un_neg (pe_call c_law_take.G (hr.mono (by decide)) (by rfl) c_law_take.m c_law_take.kp c_law_take.b .nil pass0 (pa_cons (pv 0) (pa_cons pe_int pa_nil)))))) pss_nil)
        (pss_one (ps_ret (pe_call c_law_take.G (hr.mono (by decide)) (by rfl) c_law_take.m c_law_take.kp c_law_take.b .nil pass0 (pa_cons (pv 0) (pa_cons pe_int pa_nil))))))))), ?_⟩
    refine ⟨_, rfl, t, c, cs, 8, rfl, T, by decide, by decide +kernel, fun d H1 d0 d1 T1 s1 => ?_⟩
    refine ⟨_, rfl, rfl, _, rfl, ?_⟩
    refine ifD (fun _ => ?_) (fun _ => ?_)
    · refine ⟨_, rfl, t, c, cs, 1999999999, rfl, T1, by decide, by decide +kernel, fun e H2 e0 e1 T2 s2 => ⟨_, _, rfl, rfl, ?_⟩⟩
      exact q _ H2 ⟨_, by omega, by omega, rfl⟩ T2 (s1.trans s2)
    refine ⟨_, rfl, rfl, _, rfl, ?_⟩
    refine ifD (fun _ => ?_) (fun _ => ?_)
    · refine ⟨_, rfl, (by show 4 ≤ sizeLine; decide), fun L hL => ?_⟩
      refine ⟨_, rfl, t, c, cs, 4, rfl, T1.mono (same_new hL _), by decide, by decide +kernel, fun e H2 e0 e1 T2 s2 => ?_⟩
      obtain ⟨v, h1, h2⟩ := at_in (xs := [V.int 999999999, V.int (-999999999), V.int 999999998, V.int 0]) e0 (by simpa using e1)
      obtain ⟨n, rfl, n0, n1⟩ : ∃ n : Int, v = V.int n ∧ -999999999 ≤ n ∧ n ≤ 999999999 := by
        simp only [List.mem_cons, List.not_mem_nil, or_false] at h2
        rcases h2 with rfl | rfl | rfl | rfl <;> exact ⟨_, rfl, by decide, by decide⟩
      refine ⟨L, _, e, _, rfl, rfl, SqL.of (s2 _ _ upd_same (T1.fresh hL).1), h1, ?_⟩
      exact q _ H2 ⟨n, n0, n1, rfl⟩ T2 (s1.trans ((SameX.of (same_new hL _)).trans s2))
    refine ⟨_, rfl, rfl, _, rfl, ?_⟩
    refine ifD (fun _ => ?_) (fun _ => ?_)
    · refine ⟨_, rfl, t, c, cs, 12, rfl, T1, by decide, by decide +kernel, fun e H2 e0 e1 T2 s2 => ⟨_, rfl, ?_⟩⟩
      exact q _ H2 ⟨_, by omega, by omega, rfl⟩ T2 (s1.trans s2)
    · refine ⟨_, rfl, t, c, cs, 6, rfl, T1, by decide, by decide +kernel, fun e H2 e0 e1 T2 s2 => ?_⟩
      exact q _ H2 ⟨_, by omega, by omega, rfl⟩ T2 (s1.trans s2))

theorem chars_len : (((" !\"#$&'()*+,-./0123456789:;<=>?@ABCDEFGHIJKLMNOPQRSTUVWXYZ[\\]^" : Str) ++ ("_`abcdefghijklmnopqrstuvwxyz{|}~" : Str)).cps.toList).length = 94 := by decide +kernel
theorem chars_ok : ∀ c ∈ ((" !\"#$&'()*+,-./0123456789:;<=>?@ABCDEFGHIJKLMNOPQRSTUVWXYZ[\\]^" : Str) ++ ("_`abcdefghijklmnopqrstuvwxyz{|}~" : Str)).cps.toList, chOk c := by decide +kernel
theorem few_len : ("ab -07" : Str).cps.toList.length = 6 := by decide +kernel
theorem few_ok : ∀ c ∈ ("ab -07" : Str).cps.toList, chOk c := by decide +kernel
theorem ok_law_char {f : Addr} {fd : FuncData} (k : Kn K mg "_law_char" s_law_char ["tape"] f fd) (z : Z mg)
    {g_law_take : Addr} {gd_law_take : FuncData} (c_law_take : Cal P w K mg base 1 "_law_take" ["tape", "many"] (spTake) g_law_take gd_law_take) :
    Cal P w K mg base 2 "_law_char" ["tape"] (spDraw isChar) f fd := k.cal (by
  refine k.F.ok sc_law_char (fun vs H Q E h => ?_) (fun cdv A outer s H vs Q E hr h => ?_)
  · obtain ⟨t, c, cs, rfl, _⟩ := h; rfl
  · obtain ⟨t, c, cs, rfl, T, q⟩ := h
    refine ⟨_, (pss_cons (ps_set (i := 1) sc_law_char.nd rfl (Or.inl rfl) pe_str)
        (pss_cons (ps_set (i := 1) sc_law_char.nd rfl (Or.inl rfl) (pe_op op_add_str (pv 1) pe_str))
        (pss_cons (ps_if (pt_cmpR op_eq (pe_call c_law_take.G (hr.mono (by decide)) (by rfl) c_law_take.m c_law_take.kp c_law_take.b .nil pass0 (pa_cons (pv 0) (pa_cons pe_int pa_nil))) pe_int (nomark _)) (pss_one (ps_ret (pe_ix ix_str (pv 1) (pe_call c_law_take.G (hr.mono (by decide)) (by rfl) c_law_take.m c_law_take.kp c_law_take.b .nil pass0 (pa_cons (pv 0) (pa_cons pe_int pa_nil))) (fun _ _ => rfl)))) pss_nil)
        (pss_one (ps_ret (pe_ix ix_str pe_str (pe_call c_law_take.G (hr.mono (by decide)) (by rfl) c_law_take.m c_law_take.kp c_law_take.b .nil pass0 (pa_cons (pv 0) (pa_cons pe_int pa_nil))) (fun _ _ => rfl))))))), ?_⟩
    refine ⟨_, rfl, _, _, rfl, rfl, (by decide +kernel), ?_⟩
    refine ⟨_, rfl, t, c, cs, 3, rfl, T, by decide, by decide +kernel, fun d H1 d0 d1 T1 s1 => ⟨rfl, _, rfl, ?_⟩⟩
    refine ite2 (fun _ => ?_) (fun _ => ?_)
    · refine ⟨_, rfl, _, rfl, t, c, cs, 94, rfl, T1, by decide, by decide +kernel, fun e H2 e0 e1 T2 s2 => ?_⟩
      obtain ⟨ch, h1, h2⟩ := at_in (xs := ((" !\"#$&'()*+,-./0123456789:;<=>?@ABCDEFGHIJKLMNOPQRSTUVWXYZ[\\]^" : Str) ++ ("_`abcdefghijklmnopqrstuvwxyz{|}~" : Str)).cps.toList) e0 (by rw [chars_len]; exact e1)
      exact ⟨_, _, _, rfl, rfl, (by decide +kernel), h1, q _ H2 ⟨ch, chars_ok _ h2, rfl⟩ T2 (s1.trans s2)⟩
    · refine ⟨_, rfl, t, c, cs, 6, rfl, T1, by decide, by decide +kernel, fun e H2 e0 e1 T2 s2 => ?_⟩
      obtain ⟨ch, h1, h2⟩ := at_in (xs := ("ab -07" : Str).cps.toList) e0 (by rw [few_len]; exact e1)
      exact ⟨_, _, _, rfl, rfl, (by decide +kernel), h1, q _ H2 ⟨ch, few_ok _ h2, rfl⟩ T2 (s1.trans s2)⟩)
theorem ok_law_text {f : Addr} {fd : FuncData} (k : Kn K mg "_law_text" s_law_text ["tape"] f fd) (z : Z mg)
    {g_law_take : Addr} {gd_law_take : FuncData} (c_law_take : Cal P w K mg base 1 "_law_take" ["tape", "many"] (spTake) g_law_take gd_law_take)
    {g_law_char : Addr} {gd_law_char : FuncData} (c_law_char : Cal P w K mg base 2 "_law_char" ["tape"] (spDraw isChar) g_law_char gd_law_char) :
    Cal P w K mg base 3 "_law_text" ["tape"] (spDraw (isText 30)) f fd := k.cal (by
  refine k.F.ok sc_law_text (fun vs H Q E h => ?_) (fun cdv A outer s H vs Q E hr h => ?_)
  · obtain ⟨t, c, cs, rfl, _⟩ := h; rfl
  · obtain ⟨t, c, cs, rfl, T, q⟩ := h
    have ht : ∃ o, H t = some o := by obtain ⟨_, _, _, _, e, _⟩ := T.dk; exact ⟨_, e⟩
    refine ⟨_, (pss_cons (ps_set (i := 1) sc_law_text.nd rfl (Or.inl rfl) (pe_call c_law_take.G (hr.mono (by decide)) (by rfl) c_law_take.m c_law_take.kp c_law_take.b .nil pass0 (pa_cons (pv 0) (pa_cons pe_int pa_nil))))
        (pss_cut (ps_if (pt_cmpR op_eq (pe_call c_law_take.G (hr.mono (by decide)) (by rfl) c_law_take.m c_law_take.kp c_law_take.b .nil pass0 (pa_cons (pv 0) (pa_cons pe_int pa_nil))) pe_int (nomark _)) (pss_one (ps_set (i := 1) sc_law_text.nd rfl (Or.inl rfl) (pe_op op_add pe_int (pe_call c_law_take.G (hr.mono (by decide)) (by rfl) c_law_take.m c_law_take.kp c_law_take.b .nil pass0 (pa_cons (pv 0) (pa_cons pe_int pa_nil)))))) pss_nil)
        (pss_one (ps_ret (pe_join pe_str (pe_lc (own := [("k", 2)]) (g := gName 2) (tt := tYes) (by rfl) sc_law_text.nd (pi_range1 (by rfl) z.range (pa_cons (pv 1) pa_nil)) (blkOk_by (own := [("k", 2)]) (N := ["tape", "size", "k"]) (sc := defScope s_law_text) (by decide +kernel)) (fun _ _ _ _ _ => pg_name (i := 2) sc_law_text.nd rfl (Or.inl rfl)) (fun _ _ _ _ _ => pts_nil) (fun _ _ _ _ _ => (pe_call c_law_char.G (hr.mono (by decide)) (by rfl) c_law_char.m c_law_char.kp c_law_char.b .nil pass0 (pa_cons (pv 0) pa_nil))))))))), ?_⟩
    refine ⟨_, rfl, t, c, cs, 6, rfl, T, by decide, by decide +kernel, fun d H1 d0 d1 T1 s1 => ?_⟩
    refine ⟨fun σ H' => ∃ n : Int, σ = [some (.ref t), some (.int n), none] ∧ 0 ≤ n ∧ n ≤ 30 ∧ TapeAt H' t c cs ∧ SameX t H H', ?_, ?_⟩
    · refine ⟨_, rfl, t, c, cs, 12, rfl, T1, by decide, by decide +kernel, fun e H2 e0 e1 T2 s2 => ⟨rfl, _, rfl, ?_⟩⟩
      refine ite2 (fun _ => ?_) (fun _ => ?_)
      · refine ⟨_, rfl, t, c, cs, 6, rfl, T2, by decide, by decide +kernel, fun g H3 g0 g1 T3 s3 => ⟨_, _, rfl, rfl, _, rfl, by omega, by omega, T3, s1.trans (s2.trans s3)⟩⟩
      · exact ⟨d, rfl, d0, by omega, T2, s1.trans s2⟩
    · rintro σ H2 ⟨n, rfl, n0, n1, T2, s2⟩
      refine ⟨⟨_, rfl⟩, _, rfl, n, rfl, by omega, by omega, fun D hD => lc_range (lo := 0) (n := n.toNat) (fun i H' => ∃ chs : List Nat, H' D = some (.lst ((chs.map one).map V.str)) ∧ chs.length = i ∧ (∀ x ∈ chs, chOk x) ∧ TapeAt H' t c cs ∧ SameX t H H' ∧ (∀ b o, H2 b = some o → b ≠ t → H' b = some o)) ?_ ?_ ?_⟩
      · exact ⟨[], upd_same, rfl, (by intro x hx; cases hx), T2.mono (same_new hD _), s2.trans (SameX.of (same_new hD _)), fun b o e _ => same_new hD _ b o e⟩
      · rintro i H3 hi ⟨chs, hc, hl, hn, T3, s3, s3'⟩
        have hDt : D ≠ t := by
          obtain ⟨_, _, _, _, e, _⟩ := T2.dk
          intro z; subst z; rw [hD] at e; cases e
        refine ⟨rfl, _, rfl, t, c, cs, rfl, T3, fun v H4 ⟨ch, hch, e⟩ T4 s4 => ?_⟩
        subst e
        refine ⟨_, s4 _ _ hc hDt, (by rw [List.length_map, List.length_map]; exact small1000 (by omega)), chs ++ [ch], ?_, by simp [hl], ?_, ?_, ?_, ?_⟩
        · rw [upd_same, List.map_append, List.map_append]; rfl
        · intro y hy
          rcases List.mem_append.mp hy with hy | hy
          · exact hn y hy
          · rw [List.mem_singleton.mp hy]; exact hch
        · obtain ⟨a, l, s, m, h1, h2, h3⟩ := T4.dk
          have hDc : c ≠ D := by
            intro z; subst z
            have h5 := T2.ls
            rw [hD] at h5; cases h5
          exact ⟨⟨a, l, s, m, by rw [upd_ne hDt.symm]; exact h1, h2, h3⟩, by rw [upd_ne hDc]; exact T4.ls, T4.nn⟩
        · intro b o e ne
          have hb : b ≠ D := by
            intro z; subst z
            have := s2 _ _ e ne
            rw [hD] at this; cases this
          rw [upd_ne hb]; exact s4 _ _ (s3 _ _ e ne) ne
        · intro b o e ne
          rw [upd_ne (ne_of_none e hD)]; exact s4 _ _ (s3' _ _ e ne) ne
      · rintro H3 ⟨chs, hc, hl, hn, T3, s3, _⟩
        have hsum : ((chs.map one).map (·.length)).sum + (chs.map one).length * ("" : Str).length ≤ 16777216 := by
          have e0 : ("" : Str).length = 0 := by decide +kernel
          rw [sum_ones, e0, Nat.mul_zero]; omega
        refine ⟨_, D, _, rfl, rfl, .inl (SqL.of hc), hsum, ?_⟩
        exact q _ H3 ⟨_, by rw [len_joined]; omega, by rw [tl_joined]; exact hn, rfl⟩ T3 s3)
theorem ok_law_value {f : Addr} {fd : FuncData} (k : Kn K mg "_law_value" s_law_value ["tape", "kind", "nullable"] f fd) (z : Z mg)
    {g_law_take : Addr} {gd_law_take : FuncData} (c_law_take : Cal P w K mg base 1 "_law_take" ["tape", "many"] (spTake) g_law_take gd_law_take)
    {g_law_integer : Addr} {gd_law_integer : FuncData} (c_law_integer : Cal P w K mg base 2 "_law_integer" ["tape"] (spDraw (isInt (-999999999) 999999999)) g_law_integer gd_law_integer)
    {g_law_text : Addr} {gd_law_text : FuncData} (c_law_text : Cal P w K mg base 3 "_law_text" ["tape"] (spDraw (isText 30)) g_law_text gd_law_text) :
    Cal P w K mg base 4 "_law_value" ["tape", "kind", "nullable"] (spVal) f fd := k.cal (by
  refine k.F.ok sc_law_value (fun vs H Q E h => ?_) (fun cdv A outer s H vs Q E hr h => ?_)
  · obtain ⟨t, c, cs, kk, b, rfl, _⟩ := h; rfl
  · obtain ⟨t, c, cs, kk, b, rfl, T, q⟩ := h
    refine ⟨_, (pss_cut (ps_if (PW.pt (pw_and (pt_val (pv 2)) (pw_and1 (pt_cmpR op_eq (pe_call c_law_take.G (hr.mono (by decide)) (by rfl) c_law_take.m c_law_take.kp c_law_take.b .nil pass0 (pa_cons (pv 0) (pa_cons pe_int pa_nil))) pe_int (nomark _))))) (pss_one (ps_ret pe_non)) pss_nil)
        (pss_cons (ps_if (pt_cmpR op_eq (pv 1) pe_str (nomark _)) (pss_one (ps_ret (pe_call c_law_integer.G (hr.mono (by decide)) (by rfl) c_law_integer.m c_law_integer.kp c_law_integer.b .nil pass0 (pa_cons (pv 0) pa_nil)))) pss_nil)
        (pss_cons (ps_if (pt_cmpR op_eq (pe_call c_law_take.G (hr.mono (by decide)) (by rfl) c_law_take.m c_law_take.kp c_law_take.b .nil pass0 (pa_cons (pv 0) (pa_cons pe_int pa_nil))) pe_int (nomark _)) (pss_one (ps_ret (pe_op op_add_str (pe_ix ix_list (pe_lst (pa_cons pe_str (pa_cons pe_str (pa_cons pe_str (pa_cons pe_str pa_nil))))) (pe_call c_law_take.G (hr.mono (by decide)) (by rfl) c_law_take.m c_law_take.kp c_law_take.b .nil pass0 (pa_cons (pv 0) (pa_cons pe_int pa_nil))) (fun _ _ => rfl)) (pe_callTy call_str_int (by rfl) z.str (by decide +kernel) (pa_cons (pe_call c_law_integer.G (hr.mono (by decide)) (by rfl) c_law_integer.m c_law_integer.kp c_law_integer.b .nil pass0 (pa_cons (pv 0) pa_nil)) pa_nil))))) pss_nil)
        (pss_one (ps_ret (pe_call c_law_text.G (hr.mono (by decide)) (by rfl) c_law_text.m c_law_text.kp c_law_text.b .nil pass0 (pa_cons (pv 0) pa_nil))))))), ?_⟩
    refine ⟨fun σ' H' => σ' = [some (.ref t), some (.str kk), some (.bl b)] ∧ TapeAt H' t c cs ∧ SameX t H H', ?_, ?_⟩
    · refine ⟨_, rfl, b, rfl, ?_⟩
      cases b with
      | false => exact iteF ⟨rfl, T, SameX.refl _ _⟩
      | true =>
        refine iteT ⟨_, rfl, t, c, cs, 4, rfl, T, by decide, by decide +kernel, fun d H1 d0 d1 T1 s1 => ⟨rfl, _, rfl, ?_⟩⟩
        exact ifD (fun _ => q _ H1 (.inl ⟨rfl, rfl⟩) T1 s1) (fun _ => ⟨rfl, T1, s1⟩)
    rintro σ1 H1 ⟨rfl, T1, s1⟩
    refine ⟨_, rfl, rfl, _, rfl, ?_⟩
    refine ifD (fun hk => ?_) (fun hk => ?_)
    · refine ⟨_, rfl, t, c, cs, rfl, T1, fun v H2 hv T2 s2 => ?_⟩
      obtain ⟨i, i0, i1, rfl⟩ := hv
      exact q _ H2 (.inr (.inl ⟨V.str.inj hk, i, rfl, i0, i1⟩)) T2 (s1.trans s2)
    have hk' : kk ≠ ("int" : Str) := fun z => hk (congrArg V.str z)
    refine ⟨_, rfl, t, c, cs, 3, rfl, T1, by decide, by decide +kernel, fun d H2 d0 d1 T2 s2 => ⟨rfl, _, rfl, ?_⟩⟩
    refine ifD (fun _ => ?_) (fun _ => ?_)
    · refine ⟨(by show 4 ≤ sizeLine; decide), fun L hL => ?_⟩
      refine ⟨_, rfl, t, c, cs, 4, rfl, T2.mono (same_new hL _), by decide, by decide +kernel, fun e H3 e0 e1 T3 s3 => ?_⟩
      obtain ⟨v, h1, h2⟩ := at_in (xs := [V.str ("" : Str), V.str ("0" : Str), V.str ("-" : Str), V.str ("+" : Str)]) e0 (by simpa using e1)
      obtain ⟨y, rfl, hy, hyo⟩ : ∃ y : Str, v = V.str y ∧ y.length ≤ 1 ∧ ∀ c ∈ tl y, chOk c := by
        simp only [List.mem_cons, List.not_mem_nil, or_false] at h2
        rcases h2 with rfl | rfl | rfl | rfl
        · exact ⟨_, rfl, by decide +kernel, by decide +kernel⟩
        · exact ⟨_, rfl, by decide +kernel, by decide +kernel⟩
        · exact ⟨_, rfl, by decide +kernel, by decide +kernel⟩
        · exact ⟨_, rfl, by decide +kernel, by decide +kernel⟩
      refine ⟨L, _, e, _, rfl, rfl, SqL.of (s3 _ _ upd_same (T2.fresh hL).1), h1, ?_⟩
      refine ⟨_, rfl, t, c, cs, rfl, T3, fun v H4 hv T4 s4 => ?_⟩
      obtain ⟨i, i0, i1, rfl⟩ := hv
      obtain ⟨l1, l2⟩ := int_text i0 i1
      refine ⟨i, rfl, log_small i0 i1, _, _, rfl, rfl, Nat.le_of_lt (small1000 (by omega)), ?_⟩
      refine q _ H4 (.inr (.inr ⟨hk', _, rfl, by rw [len_app]; omega, fun ch hch => ?_⟩)) T4 (s1.trans (s2.trans ((SameX.of (same_new hL _)).trans (s3.trans s4))))
      rw [tl_append] at hch
      rcases List.mem_append.mp hch with hch | hch
      · exact hyo _ hch
      · exact digit_ok (l2 _ hch)
    · refine ⟨_, rfl, t, c, cs, rfl, T2, fun v H3 hv T3 s3 => ?_⟩
      obtain ⟨y, y0, y1, rfl⟩ := hv
      exact q _ H3 (.inr (.inr ⟨hk', y, rfl, y0, y1⟩)) T3 (s1.trans (s2.trans s3)))

theorem ops_cases {v : V} (h : v ∈ [V.str ("=" : Str), V.str ("!=" : Str), V.str ("<" : Str), V.str ("<=" : Str), V.str (">" : Str), V.str (">=" : Str), V.str ("null" : Str), V.str ("given" : Str)]) : ∃ o : Str, v = V.str o ∧ PyData.strOk o = true := by
  simp only [List.mem_cons, List.not_mem_nil, or_false] at h
  rcases h with rfl | rfl | rfl | rfl | rfl | rfl | rfl | rfl <;> exact ⟨_, rfl, by decide +kernel⟩
theorem ok_law_clause {f : Addr} {fd : FuncData} (k : Kn K mg "_law_clause" s_law_clause ["tape", "columns"] f fd) (z : Z mg)
    {g_law_take : Addr} {gd_law_take : FuncData} (c_law_take : Cal P w K mg base 1 "_law_take" ["tape", "many"] (spTake) g_law_take gd_law_take)
    {g_law_value : Addr} {gd_law_value : FuncData} (c_law_value : Cal P w K mg base 4 "_law_value" ["tape", "kind", "nullable"] (spVal) g_law_value gd_law_value) :
    Cal P w K mg base 5 "_law_clause" ["tape", "columns"] (spClause) f fd := k.cal (by
  refine k.F.ok sc_law_clause (fun vs H Q E h => ?_) (fun cdv A outer s H vs Q E hr h => ?_)
  · obtain ⟨t, c, L, cs, cols, rfl, _⟩ := h; rfl
  · obtain ⟨t, c, L, cs, cols, rfl, T, C, hp0, hl, q⟩ := h
    refine ⟨_, (pss_cons (ps_set (i := 2) sc_law_clause.nd rfl (Or.inl rfl) (pe_ix ix_list (pv 1) (pe_call c_law_take.G (hr.mono (by decide)) (by rfl) c_law_take.m c_law_take.kp c_law_take.b .nil pass0 (pa_cons (pv 0) (pa_cons (pe_callB call_len_seq (by rfl) z.len (by decide +kernel) (pa_cons (pv 1) pa_nil)) pa_nil))) (fun _ _ => rfl)))
        (pss_cons (ps_set (i := 3) sc_law_clause.nd rfl (Or.inl rfl) (pe_ix ix_list (pe_lst (pa_cons pe_str (pa_cons pe_str (pa_cons pe_str (pa_cons pe_str (pa_cons pe_str (pa_cons pe_str (pa_cons pe_str (pa_cons pe_str pa_nil))))))))) (pe_call c_law_take.G (hr.mono (by decide)) (by rfl) c_law_take.m c_law_take.kp c_law_take.b .nil pass0 (pa_cons (pv 0) (pa_cons pe_int pa_nil))) (fun _ _ => rfl)))
        (pss_cons (ps_if (PW.pt (pw_or (pt_cmpR op_eq (pv 3) pe_str (nomark _)) (pw_or1 (pt_cmpR op_eq (pv 3) pe_str (nomark _))))) (pss_one (ps_ret (pe_tup (pa_cons (pe_ix ix_tup (pv 2) pe_int (fun _ _ => rfl)) (pa_cons (pv 3) (pa_cons pe_non pa_nil)))))) pss_nil)
        (pss_one (ps_ret (pe_tup (pa_cons (pe_ix ix_tup (pv 2) pe_int (fun _ _ => rfl)) (pa_cons (pv 3) (pa_cons (pe_call c_law_value.G (hr.mono (by decide)) (by rfl) c_law_value.m c_law_value.kp c_law_value.b .nil pass0 (pa_cons (pv 0) (pa_cons (pe_ix ix_tup (pv 2) pe_int (fun _ _ => rfl)) (pa_cons pe_bl pa_nil)))) pa_nil))))))))), ?_⟩
    obtain ⟨xs, h1, h2⟩ := id C
    have hx : xs.length = cols.length := by rw [h2.length, List.length_map]
    refine ⟨_, rfl, _, rfl, _, rfl, L, _, rfl, .inl (SqL.of h1), t, c, cs, (xs.length : Int), rfl, T, by omega, ?_, fun d H1 d0 d1 T1 s1 => ?_⟩
    · have b9 : (2 : Nat) ^ 9000 = 2 ^ 7 * 2 ^ 8993 := by rw [← Nat.pow_add]
      have b8 : 0 < (2 : Nat) ^ 8993 := Nat.pow_pos (by decide)
      rw [b9]
      have : ((xs.length : Int)).natAbs = xs.length := by omega
      omega
    have hd : d.toNat < cols.length := by omega
    obtain ⟨xs', a, k1, k2, k3⟩ := C.get (List.getElem?_eq_getElem hd)
    rw [h1] at k1
    cases k1
    have hLt := T.notL h1
    refine ⟨L, _, d, _, rfl, rfl, SqL.of (s1 _ _ h1 hLt), at_of (by omega) k2, ?_⟩
    refine ⟨(by show 8 ≤ sizeLine; decide), fun O hO => ?_⟩
    refine ⟨_, rfl, t, c, cs, 8, rfl, T1.mono (same_new hO _), by decide, by decide +kernel, fun e H2 e0 e1 T2 s2 => ?_⟩
    obtain ⟨v, g1, g2⟩ := at_in (xs := [V.str ("=" : Str), V.str ("!=" : Str), V.str ("<" : Str), V.str ("<=" : Str), V.str (">" : Str), V.str (">=" : Str), V.str ("null" : Str), V.str ("given" : Str)]) e0 (by simpa using e1)
    obtain ⟨op, rfl, hop⟩ := ops_cases g2
    refine ⟨O, _, e, _, rfl, rfl, SqL.of (s2 _ _ upd_same (T1.fresh hO).1), g1, ?_⟩
    have S2 : SameX t H H2 := s1.trans ((SameX.of (same_new hO _)).trans s2)
    have k4 := KeepT.ofX T S2 _ _ k3
    have hc : cols[d.toNat] ∈ cols := List.getElem_mem hd
    refine ⟨_, rfl, rfl, _, rfl, ?_⟩
    refine ifD (fun ho => ?_) (fun ho => ?_)
    · refine ⟨_, rfl, a, _, 0, _, rfl, rfl, SqT.of k4, atI_nat (j := 0) rfl, _, rfl, (by show 3 ≤ sizeLine; decide), fun p hp => ?_⟩
      exact q (.ref p) ⟨cols[d.toNat].n, op, .non⟩ _ (cl_mk upd_same rfl) ⟨hop, _, hc, rfl, .inl ⟨.inl (V.str.inj ho), rfl⟩⟩ (T2.mono (same_new hp _)) (S2.trans (SameX.of (same_new hp _)))
    refine ⟨_, rfl, rfl, _, rfl, ?_⟩
    refine ifD (fun ho2 => ?_) (fun ho2 => ?_)
    · refine ⟨_, rfl, a, _, 0, _, rfl, rfl, SqT.of k4, atI_nat (j := 0) rfl, _, rfl, (by show 3 ≤ sizeLine; decide), fun p hp => ?_⟩
      exact q (.ref p) ⟨cols[d.toNat].n, op, .non⟩ _ (cl_mk upd_same rfl) ⟨hop, _, hc, rfl, .inl ⟨.inr (V.str.inj ho2), rfl⟩⟩ (T2.mono (same_new hp _)) (S2.trans (SameX.of (same_new hp _)))
    · refine ⟨_, rfl, a, _, 0, _, rfl, rfl, SqT.of k4, atI_nat (j := 0) rfl, _, rfl, ?_⟩
      refine ⟨_, rfl, _, rfl, a, _, 1, _, rfl, rfl, SqT.of k4, atI_nat (j := 1) rfl, t, c, cs, _, _, rfl, T2, fun w H3 hw T3 s3 => ?_⟩
      refine ⟨(by show 3 ≤ sizeLine; decide), fun p hp => ?_⟩
      exact q (.ref p) ⟨cols[d.toNat].n, op, w⟩ _ (cl_mk upd_same hw.scal) ⟨hop, _, hc, rfl, .inr ⟨⟨fun z => ho (congrArg V.str z), fun z => ho2 (congrArg V.str z)⟩, hw⟩⟩ (T3.mono (same_new hp _)) (S2.trans (s3.trans (SameX.of (same_new hp _)))))

theorem five_a {d : Int} (d0 : 0 ≤ d) (d1 : d < 5) : ∃ n : Int, atI [V.int 1, V.int 0, V.int 2, V.int 1, V.int 4] d = some (.int n) ∧ 0 ≤ n ∧ n ≤ 4 := by
  obtain ⟨v, h1, h2⟩ := at_in (xs := [V.int 1, V.int 0, V.int 2, V.int 1, V.int 4]) d0 (by simpa using d1)
  simp only [List.mem_cons, List.not_mem_nil, or_false] at h2
  rcases h2 with rfl | rfl | rfl | rfl | rfl <;> exact ⟨_, h1, by decide, by decide⟩
theorem five_b {d : Int} (d0 : 0 ≤ d) (d1 : d < 5) : ∃ n : Int, atI [V.int 1, V.int 2, V.int 0, V.int 1, V.int 4] d = some (.int n) ∧ 0 ≤ n ∧ n ≤ 4 := by
  obtain ⟨v, h1, h2⟩ := at_in (xs := [V.int 1, V.int 2, V.int 0, V.int 1, V.int 4]) d0 (by simpa using d1)
  simp only [List.mem_cons, List.not_mem_nil, or_false] at h2
  rcases h2 with rfl | rfl | rfl | rfl | rfl <;> exact ⟨_, h1, by decide, by decide⟩
theorem ok_law_condition {f : Addr} {fd : FuncData} (k : Kn K mg "_law_condition" s_law_condition ["tape", "columns"] f fd) (z : Z mg)
    {g_law_take : Addr} {gd_law_take : FuncData} (c_law_take : Cal P w K mg base 1 "_law_take" ["tape", "many"] (spTake) g_law_take gd_law_take)
    {g_law_clause : Addr} {gd_law_clause : FuncData} (c_law_clause : Cal P w K mg base 5 "_law_clause" ["tape", "columns"] (spClause) g_law_clause gd_law_clause) :
    Cal P w K mg base 6 "_law_condition" ["tape", "columns"] (spCond) f fd := k.cal (by
  refine k.F.ok sc_law_condition (fun vs H Q E h => ?_) (fun cdv A outer s H vs Q E hr h => ?_)
  · obtain ⟨t, c, L, cs, cols, rfl, _⟩ := h; rfl
  · obtain ⟨t, c, L, cs, cols, rfl, T, C, hp0, hl, q⟩ := h
    refine ⟨_, (pss_cons (ps_set (i := 2) sc_law_condition.nd rfl (Or.inl rfl) (pe_lst pa_nil))
        (pss_cons (ps_for PassesOwn.never rfl (pi_range1 (by rfl) z.range (pa_cons (pe_ix ix_list (pe_lst (pa_cons pe_int (pa_cons pe_int (pa_cons pe_int (pa_cons pe_int (pa_cons pe_int pa_nil)))))) (pe_call c_law_take.G (hr.mono (by decide)) (by rfl) c_law_take.m c_law_take.kp c_law_take.b .nil pass0 (pa_cons (pv 0) (pa_cons pe_int pa_nil))) (fun _ _ => rfl)) pa_nil)) (pg_name (i := 3) sc_law_condition.nd rfl (Or.inl rfl))
        (pss_cons (ps_set (i := 4) sc_law_condition.nd rfl (Or.inl rfl) (pe_ix ix_list (pe_lst (pa_cons pe_int (pa_cons pe_int (pa_cons pe_int (pa_cons pe_int (pa_cons pe_int pa_nil)))))) (pe_call c_law_take.G (hr.mono (by decide)) (by rfl) c_law_take.m c_law_take.kp c_law_take.b .nil pass0 (pa_cons (pv 0) (pa_cons pe_int pa_nil))) (fun _ _ => rfl)))
        (pss_one (ps_expr (pe_bm PySem.F.plainAttrs_list PySem.F.slot_list_append PySem.F.type_list_append mt_append (pv 2) (pa_cons (pe_callTy call_tuple_of (by rfl) z.tuple (by decide +kernel) (pa_cons (pe_lc (own := [("j", 5)]) (g := gName 5) (tt := tYes) (by rfl) sc_law_condition.nd (pi_range1 (by rfl) z.range (pa_cons (pv 4) pa_nil)) (blkOk_by (own := [("j", 5)]) (N := ["tape", "columns", "condition", "k", "many", "j"]) (sc := defScope s_law_condition) (by decide +kernel)) (fun _ _ _ _ _ => pg_name (i := 5) sc_law_condition.nd rfl (Or.inl rfl)) (fun _ _ _ _ _ => pts_nil) (fun _ _ _ _ _ => (pe_call c_law_clause.G (hr.mono (by decide)) (by rfl) c_law_clause.m c_law_clause.kp c_law_clause.b .nil pass0 (pa_cons (pv 0) (pa_cons (pv 1) pa_nil))))) pa_nil)) pa_nil))))))
        (pss_one (ps_ret (pe_callTy call_tuple_of (by rfl) z.tuple (by decide +kernel) (pa_cons (pv 2) pa_nil)))))), ?_⟩
    have hLt : L ≠ t := by obtain ⟨xs, h1, _⟩ := C; exact T.notL h1
    refine ⟨(by show 0 ≤ sizeLine; decide), fun R hR => ?_⟩
    have fR := T.fresh hR
    refine ⟨(by show 5 ≤ sizeLine; decide), fun A1 hA1 => ?_⟩
    have TA := (T.mono (same_new hR (.lst []))).mono (same_new hA1 (.lst [.int 1, .int 0, .int 2, .int 1, .int 4]))
    refine ⟨_, rfl, t, c, cs, 5, rfl, TA, by decide, by decide +kernel, fun d H1 d0 d1 T1 s1 => ?_⟩
    obtain ⟨n, hn, n0, n4⟩ := five_a d0 d1
    have fA := (T.mono (same_new hR (.lst []))).fresh hA1
    have RA : R ≠ A1 := ne_of_none upd_same hA1
    have R1 : H1 R = some (.lst []) := s1 _ _ (by rw [upd_ne RA]; exact upd_same) fR.1
    have S1 : SameX t H H1 := (SameX.of ((same_new hR _).trans (same_new hA1 _))).trans s1
    refine ⟨A1, _, d, _, rfl, rfl, SqL.of (s1 _ _ upd_same fA.1), hn, n, rfl, by omega, by omega, for_range (lo := 0) (n := n.toNat) (fun i σ H' => ∃ v3 v4 v5 xs, ∃ cond : Cond, σ = [some (.ref t), some (.ref L), some (.ref R), v3, v4, v5] ∧ H' R = some (.lst xs) ∧ TpL H' xs (cond.map altD) ∧ cond.length = i ∧ (∀ a ∈ cond, ∀ cl ∈ a, ClOk cols cl) ∧ (∀ a ∈ cond, a.length ≤ 4) ∧ TapeAt H' t c cs ∧ SameX t H H') ⟨none, none, none, [], [], rfl, R1, .nil, rfl, (fun a h => by cases h), (fun a h => by cases h), T1, S1⟩ ?_ ?_⟩
    · rintro i σ H2 hi ⟨v3, v4, v5, xs, cond, rfl, R2, r2, l2, k2, m2, T2, s2⟩
      refine ⟨(by show 5 ≤ sizeLine; decide), fun B hB => ?_⟩
      have e3 := same_new hB (.lst [.int 1, .int 2, .int 0, .int 1, .int 4])
      have fB := T2.fresh hB
      refine ⟨_, rfl, t, c, cs, 5, rfl, T2.mono e3, by decide, by decide +kernel, fun d H3 d0 d1 T3 s3 => ?_⟩
      obtain ⟨g, hg, g0, g4⟩ := five_b d0 d1
      refine ⟨B, _, d, _, rfl, rfl, SqL.of (s3 _ _ upd_same fB.1), hg, ?_⟩
      have S3 : SameX t H2 H3 := (SameX.of e3).trans s3
      have R3 := S3 _ _ R2 fR.1
      have r3 := r2.mono (KeepT.ofX T2 S3)
      have C3 := C.mono (KeepT.ofX T (s2.trans S3)) (fun o h => (s2.trans S3) _ _ h hLt)
      refine ⟨_, rfl, .inl ⟨rfl, _, SqL.of R3⟩, ?_⟩
      refine ⟨_, rfl, g, rfl, by omega, by omega, fun D hD => lc_range (lo := 0) (n := g.toNat) (fun j H' => ∃ ys, ∃ cls : List Cl, H' D = some (.lst ys) ∧ TpL H' ys (cls.map clD) ∧ cls.length = j ∧ (∀ cl ∈ cls, ClOk cols cl) ∧ TapeAt H' t c cs ∧ SameX t H3 H') ?_ ?_ ?_⟩
      · exact ⟨[], [], upd_same, .nil, rfl, (fun cl h => by cases h), T3.mono (same_new hD _), SameX.of (same_new hD _)⟩
      · rintro j H4 hj ⟨ys, cls, D4, r4, l4, k4, T4, s4⟩
        have fD := T3.fresh hD
        have C4 := C3.mono (KeepT.ofX T3 s4) (fun o h => s4 _ _ h hLt)
        refine ⟨rfl, _, rfl, _, rfl, t, c, L, cs, cols, rfl, T4, C4, hp0, hl, fun v cl H5 hv kcl T5 s5 => ?_⟩
        have D5 := s5 _ _ D4 fD.1
        refine ⟨ys, D5, (by rw [r4.length, List.length_map]; exact small1000 (by omega)), ys ++ [v], cls ++ [cl], upd_same, ?_, by simp [l4], ?_, T5.upd fD.1 fD.2, samex_upd hD _ (s4.trans s5)⟩
        · rw [List.map_append]
          have ku : KeepT H5 (upd H5 D (.lst (ys ++ [v]))) := KeepT.upd (fun zs z => by rw [D5] at z; cases z)
          exact TpL.snoc ((r4.mono (KeepT.ofX T4 s5)).mono ku) (hv.mono ku)
        · intro x hx
          rcases List.mem_append.mp hx with hx | hx
          · exact k4 x hx
          · rw [List.mem_singleton.mp hx]; exact kcl
      rintro H4 ⟨ys, cls, D4, r4, l4, k4, T4, s4⟩
      refine ⟨D, ys, rfl, .inl ⟨SqL.of D4, fun p hp => ?_⟩⟩
      have e5 := same_new hp (.tup ys)
      have R4 := s4 _ _ R3 fR.1
      have Rp : R ≠ p := ne_of_none R4 hp
      refine ⟨R, xs, _, rfl, rfl, e5 _ _ R4, (by rw [r2.length, List.length_map]; exact small1000 (by omega)), ?_⟩
      have ku : KeepT (upd H4 p (.tup ys)) (upd (upd H4 p (.tup ys)) R (.lst (xs ++ [.ref p]))) := KeepT.upd (fun zs z => by rw [e5 _ _ R4] at z; cases z)
      have S4 : SameX t H (upd H4 p (.tup ys)) := s2.trans (S3.trans (s4.trans (SameX.of e5)))
      refine ⟨_, _, _, xs ++ [.ref p], cond ++ [cls], rfl, upd_same, ?_, by simp [l2], ?_, ?_, (T4.mono e5).upd fR.1 fR.2, samex_upd hR _ S4⟩
      · rw [List.map_append]
        exact TpL.snoc (((r3.mono (KeepT.ofX T3 s4)).mono (KeepT.of e5)).mono ku) (.t (ku _ _ upd_same) ((r4.mono (KeepT.of e5)).mono ku))
      · intro a ha
        rcases List.mem_append.mp ha with ha | ha
        · exact k2 a ha
        · rw [List.mem_singleton.mp ha]; exact k4
      · intro a ha
        rcases List.mem_append.mp ha with ha | ha
        · exact m2 a ha
        · rw [List.mem_singleton.mp ha]; omega
    · rintro σ H2 ⟨v3, v4, v5, xs, cond, rfl, R2, r2, l2, k2, m2, T2, s2⟩
      refine ⟨_, rfl, R, xs, rfl, .inl ⟨SqL.of R2, fun p hp => ?_⟩⟩
      exact q (.ref p) cond _ (.t upd_same (r2.mono (KeepT.new hp _))) k2 (by omega) m2 (T2.mono (same_new hp _)) (s2.trans (SameX.of (same_new hp _))))

theorem four_a {d : Int} (d0 : 0 ≤ d) (d1 : d < 4) : ∃ n : Int, atI [V.int 0, V.int 0, V.int 1, V.int 2] d = some (.int n) ∧ 0 ≤ n ∧ n ≤ 2 := by
  obtain ⟨v, h1, h2⟩ := at_in (xs := [V.int 0, V.int 0, V.int 1, V.int 2]) d0 (by simpa using d1)
  simp only [List.mem_cons, List.not_mem_nil, or_false] at h2
  rcases h2 with rfl | rfl | rfl | rfl <;> exact ⟨_, h1, by decide, by decide⟩
theorem ok_law_limits {f : Addr} {fd : FuncData} (k : Kn K mg "_law_limits" s_law_limits ["tape", "schema", "table"] f fd) (z : Z mg)
    {g_law_names : Addr} {gd_law_names : FuncData} (c_law_names : Cal P w K mg base 1 "_law_names" ["columns"] (spNames) g_law_names gd_law_names)
    {g_law_take : Addr} {gd_law_take : FuncData} (c_law_take : Cal P w K mg base 1 "_law_take" ["tape", "many"] (spTake) g_law_take gd_law_take)
    {g_law_condition : Addr} {gd_law_condition : FuncData} (c_law_condition : Cal P w K mg base 6 "_law_condition" ["tape", "columns"] (spCond) g_law_condition gd_law_condition) :
    Cal P w K mg base 7 "_law_limits" ["tape", "schema", "table"] (spLimits) f fd := k.cal (by
  refine k.F.ok sc_law_limits (fun vs H Q E h => ?_) (fun cdv A outer s H vs Q E hr h => ?_)
  · obtain ⟨t, c, S, cs, s, a, tab, rfl, _⟩ := h; rfl
  · obtain ⟨t, c, S, cs, s, a, tab, rfl, T, A, l6, hnk, hm, bare, q⟩ := h
    have hu := hu_of hr
    have htk : ∃ kvs, H t = some (.dK kvs) := by obtain ⟨_, _, _, _, e, _⟩ := T.dk; exact ⟨_, e⟩
    have D := A.ds _ hm
    obtain ⟨a1, a2, a3, a4⟩ := A.tS
    have hk0 : H a.k = some (.lst []) := by obtain ⟨xs, g1, g2⟩ := D.ch; rw [bare.c0] at g2; cases g2; exact g1
    have hu0 : H a.u = some (.lst []) := by have := D.un; rw [bare.u0] at this; exact this
    have hr0 : H a.r = some (.lst []) := by obtain ⟨xs, g1, g2⟩ := D.rf; rw [bare.r0] at g2; cases g2; exact g1
    have l5 := bare.l5
    have l0 := bare.l0
    have ck : a.k ≠ c := a4 _ hm _ (by simp [adL])
    have cu : a.u ≠ c := a4 _ hm _ (by simp [adL])
    have cr : a.r ≠ c := a4 _ hm _ (by simp [adL])
    have kt' : a.k ≠ t := T.notL hk0
    have ut' : a.u ≠ t := T.notL hu0
    have rt' : a.r ≠ t := T.notL hr0
    have lcn : (colNs tab.cols).length = tab.cols.length := by unfold colNs; rw [List.length_map]
    have ndA : (adL a).Nodup := (List.pairwise_flatMap.mp (List.nodup_cons.mp A.ln).2).1 _ hm
    simp only [adL, List.nodup_cons, List.mem_cons, List.not_mem_nil, or_false, not_or] at ndA
    obtain ⟨⟨n1, n2, n3⟩, ⟨n4, n5⟩, n6, _⟩ := ndA
    refine ⟨_, (pss_cons (ps_set (i := 3) sc_law_limits.nd rfl (Or.inl rfl) (pe_dget hu (pe_dget hu (pv 1) (pv 2) (fun _ _ => rfl)) pe_str (fun _ _ => rfl)))
        (pss_cons (ps_set (i := 4) sc_law_limits.nd rfl (Or.inl rfl) (pe_slice sl_list (pe_call c_law_names.G (hr.mono (by decide)) (by rfl) c_law_names.m c_law_names.kp c_law_names.b .nil pass0 (pa_cons (pv 3) pa_nil)) (po_some pe_int) po_none))
        (pss_cons (ps_setLc (i := 6) (own := [("name", 5)]) (g := gName 5) (by rfl) sc_law_limits.nd rfl rfl (sw_true rfl rfl rfl (by decide +kernel)) (pi_list (pe_callB (call_sortedD rfl) (by rfl) z.sorted (by decide +kernel) (pa_cons (pv 1) pa_nil))) (blkOk_by (own := [("name", 5)]) (N := ["tape", "schema", "table", "columns", "names", "name", "others", "k", "column", "other"]) (sc := defScope s_law_limits) (by decide +kernel)) (fun _ _ _ _ _ => pg_name (i := 5) sc_law_limits.nd rfl (Or.inl rfl)) (fun _ _ _ _ _ => (pts_one (pt_cmpR op_ne (pv 5) (pv 2) (nomark _)))) (fun _ _ _ _ _ => (pv 5)))
        (pss_cons (ps_for PassesOwn.never rfl (pi_range1 (by rfl) z.range (pa_cons (pe_ix ix_list (pe_lst (pa_cons pe_int (pa_cons pe_int (pa_cons pe_int (pa_cons pe_int pa_nil))))) (pe_call c_law_take.G (hr.mono (by decide)) (by rfl) c_law_take.m c_law_take.kp c_law_take.b .nil pass0 (pa_cons (pv 0) (pa_cons pe_int pa_nil))) (fun _ _ => rfl)) pa_nil)) (pg_name (i := 7) sc_law_limits.nd rfl (Or.inl rfl))
        (pss_one (ps_expr (pe_bm PySem.F.plainAttrs_list PySem.F.slot_list_append PySem.F.type_list_append mt_append (pe_dget hu (pe_dget hu (pv 1) (pv 2) (fun _ _ => rfl)) pe_str (fun _ _ => rfl)) (pa_cons (pe_call c_law_condition.G (hr.mono (by decide)) (by rfl) c_law_condition.m c_law_condition.kp c_law_condition.b .nil pass0 (pa_cons (pv 0) (pa_cons (pv 3) pa_nil))) pa_nil)))))
        (pss_cons (ps_for PassesOwn.never rfl (pi_list (pv 4)) (pg_name (i := 5) sc_law_limits.nd rfl (Or.inl rfl))
        (pss_one (ps_if (PW.pt (pw_and (pt_cmpR op_eq (pe_call c_law_take.G (hr.mono (by decide)) (by rfl) c_law_take.m c_law_take.kp c_law_take.b .nil pass0 (pa_cons (pv 0) (pa_cons pe_int pa_nil))) pe_int (nomark _)) (pw_and1 (pt_cmpR op_lt (pe_callB call_len_seq (by rfl) z.len (by decide +kernel) (pa_cons (pe_dget hu (pe_dget hu (pv 1) (pv 2) (fun _ _ => rfl)) pe_str (fun _ _ => rfl)) pa_nil)) pe_int (nomark _))))) (pss_one (ps_expr (pe_bm PySem.F.plainAttrs_list PySem.F.slot_list_append PySem.F.type_list_append mt_append (pe_dget hu (pe_dget hu (pv 1) (pv 2) (fun _ _ => rfl)) pe_str (fun _ _ => rfl)) (pa_cons (pv 5) pa_nil)))) pss_nil)))
        (pss_one (ps_for PassesOwn.never rfl (pi_list (pe_slice sl_list (pv 3) (po_some pe_int) po_none)) (pg_name (i := 8) sc_law_limits.nd rfl (Or.inl rfl))
        (pss_one (ps_if (PW.pt (pw_and (pt_cmpR (op_neD hr.units) (pv 6) (pe_lst pa_nil) (nomark _)) (pw_and (pt_cmpR op_eq (pe_call c_law_take.G (hr.mono (by decide)) (by rfl) c_law_take.m c_law_take.kp c_law_take.b .nil pass0 (pa_cons (pv 0) (pa_cons pe_int pa_nil))) pe_int (nomark _)) (pw_and1 (pt_cmpR op_lt (pe_callB call_len_seq (by rfl) z.len (by decide +kernel) (pa_cons (pe_dget hu (pe_dget hu (pv 1) (pv 2) (fun _ _ => rfl)) pe_str (fun _ _ => rfl)) pa_nil)) pe_int (nomark _)))))) (pss_cons (ps_set (i := 9) sc_law_limits.nd rfl (Or.inl rfl) (pe_ix ix_list (pv 6) (pe_call c_law_take.G (hr.mono (by decide)) (by rfl) c_law_take.m c_law_take.kp c_law_take.b .nil pass0 (pa_cons (pv 0) (pa_cons (pe_callB call_len_seq (by rfl) z.len (by decide +kernel) (pa_cons (pv 6) pa_nil)) pa_nil))) (fun _ _ => rfl)))
        (pss_one (ps_if (pt_cmpR op_eq (pe_ix ix_tup (pe_ix ix_list (pe_dget hu (pe_dget hu (pv 1) (pv 9) (fun _ _ => rfl)) pe_str (fun _ _ => rfl)) pe_int (fun _ _ => rfl)) pe_int (fun _ _ => rfl)) (pe_ix ix_tup (pv 8) pe_int (fun _ _ => rfl)) (nomark _)) (pss_one (ps_expr (pe_bm PySem.F.plainAttrs_list PySem.F.slot_list_append PySem.F.type_list_append mt_append (pe_dget hu (pe_dget hu (pv 1) (pv 2) (fun _ _ => rfl)) pe_str (fun _ _ => rfl)) (pa_cons (pe_tup (pa_cons (pe_ix ix_tup (pv 8) pe_int (fun _ _ => rfl)) (pa_cons (pv 9) pa_nil))) pa_nil)))) pss_nil))) pss_nil))))))))), ?_⟩
    refine ⟨_, rfl, _, rfl, S, _, rfl, A.desc hm, a.d, _, rfl, D.gc, ?_⟩
    refine ⟨_, rfl, a.c, tab.cols, rfl, D.co, by omega, fun N H1 hN0 s1 hN => ⟨_, rfl, N, _, rfl, SqL.of hN, fun NL hNL => ?_⟩⟩
    rw [cut_tail, ← List.map_drop]
    have e2 := same_new hNL (.lst (((colNs tab.cols).drop 1).map V.str))
    have S2 : Same H (upd H1 NL (.lst (((colNs tab.cols).drop 1).map V.str))) := s1.trans e2
    refine ⟨_, rfl, S, schK s, schN s, rfl, .inl (S2 _ _ A.sk), sch_keys s, (by unfold schN; rw [List.length_map]; omega), fun ys P hper _ hP => ?_⟩
    have e3 := same_new hP (.lst (ys.map V.str))
    have ly : ys.length ≤ 6 := by rw [hper.length_eq]; unfold schN; rw [List.length_map]; exact l6
    refine ⟨P, rfl, ⟨_, SqL.of upd_same⟩, fun OL hOL => inner walk_list (fun i H' => ∃ os : List Str, H' OL = some (.lst (os.map V.str)) ∧ (∀ o ∈ os, o ∈ schN s ∧ o ≠ tab.n) ∧ os.length ≤ i ∧ Same (upd (upd H1 NL (.lst (((colNs tab.cols).drop 1).map V.str))) P (.lst (ys.map V.str))) H') ⟨[], upd_same, (by intro o ho; cases ho), Nat.le_refl _, same_new hOL _⟩ (fun i H' _ ⟨_, _, _, _, s⟩ => SqL.of (s _ _ upd_same)) ?_ ?_⟩
    · rintro i x H4 H4' hi ⟨os, h1, h2, h3, h4⟩ ⟨rfl, ex⟩
      obtain ⟨z, hz, rfl⟩ : ∃ z, z ∈ ys ∧ x = V.str z := by
        obtain ⟨z, h1, h2⟩ := List.mem_map.mp (List.mem_of_getElem? ex)
        exact ⟨z, h1, h2.symm⟩
      refine ⟨rfl, _, rfl, _, rfl, rfl, _, rfl, ?_⟩
      refine ifN (fun hne => ?_) (fun _ => ⟨os, h1, h2, by omega, h4⟩)
      rw [List.length_map] at hi
      refine ⟨_, rfl, _, h1, (by rw [List.length_map]; exact small1000 (by omega)), os ++ [z], by rw [upd_same, List.map_append]; rfl, ?_, by rw [List.length_append, List.length_singleton]; omega, same_upd hOL _ h4⟩
      intro o ho
      rcases List.mem_append.mp ho with ho | ho
      · exact h2 o ho
      · rw [List.mem_singleton.mp ho]
        exact ⟨hper.mem_iff.mp hz, fun e => hne (congrArg V.str e)⟩
    rintro H4 ⟨os, ol, ho, lo, s4⟩
    have lo6 : os.length ≤ 6 := by rw [List.length_map] at lo; omega
    have S4 : Same H H4 := S2.trans (e3.trans s4)
    have hNL4 : H4 NL = some (.lst (((colNs tab.cols).drop 1).map V.str)) := s4 _ _ (e3 _ _ upd_same)
    have L4 : Lim H H4 t c cs a OL os [] [] [] := ⟨T.mono S4, KeepT.of S4, SameE.of S4, ol, ⟨[], S4 _ _ hk0, .nil⟩, S4 _ _ hu0, ⟨[], S4 _ _ hr0, .nil⟩⟩
    have fresh : ∀ {b : Addr}, H b = none → b ≠ a.k ∧ b ≠ a.u ∧ b ≠ a.r ∧ b ≠ t := fun h => ⟨(ne_of_none hk0 h).symm, (ne_of_none hu0 h).symm, (ne_of_none hr0 h).symm, by obtain ⟨_, e⟩ := htk; exact (ne_of_none e h).symm⟩
    have fNL : H NL = none := s1.free hNL
    have fOL : H OL = none := (S2.trans e3).free hOL
    obtain ⟨x1, x2, x3, x4⟩ := fresh fNL
    obtain ⟨y1, y2, y3, y4⟩ := fresh fOL
    -- the checks
    refine ⟨(by show 4 ≤ sizeLine; decide), fun M hM => ?_⟩
    have e5 := same_new hM (.lst [.int 0, .int 0, .int 1, .int 2])
    refine ⟨_, rfl, t, c, cs, 4, rfl, L4.T.mono e5, by decide, by decide +kernel, fun d H6 d0 d1 T6 s6 => ?_⟩
    obtain ⟨n, hn, m0, m2⟩ := four_a d0 d1
    have L6 := (L4.step e5).stepX T6 s6
    have hNL6 := s6 _ _ (e5 _ _ hNL4) x4
    refine ⟨M, _, d, _, rfl, rfl, SqL.of (s6 _ _ upd_same (L4.T.fresh hM).1), hn, n, rfl, by omega, by omega, for_range (lo := 0) (n := n.toNat) (fun i σ H' => ∃ v5 v7, ∃ conds : List Cond, σ = [some (.ref t), some (.ref S), some (.str tab.n), some (.ref a.c), some (.ref NL), v5, some (.ref OL), v7, none, none] ∧ Lim H H' t c cs a OL os conds [] [] ∧ conds.length = i ∧ (∀ cd ∈ conds, cd.length ≤ 4 ∧ ∀ x ∈ cd, x.length ≤ 4 ∧ ∀ cl ∈ x, ClOk tab.cols cl) ∧ H' NL = some (.lst (((colNs tab.cols).drop 1).map V.str))) ⟨_, _, [], rfl, L6, rfl, (by intro x hx; cases hx), hNL6⟩ ?_ ?_⟩
    · rintro i σ H7 hi ⟨v5, v7, conds, rfl, L7, l7, k7, N7⟩
      obtain ⟨g1, g2, g3, g4, g5, g6, _⟩ := L7.see A hm htk
      obtain ⟨xs, c1, c2⟩ := L7.ch
      refine ⟨_, rfl, _, rfl, S, _, rfl, g1, a.d, _, rfl, g3, .inl ⟨rfl, _, SqL.of c1⟩, ?_⟩
      refine ⟨_, rfl, _, rfl, t, c, a.c, cs, tab.cols, rfl, L7.T, g6, by omega, by omega, fun v cond H8 hv kc lc mc T8 s8 => ?_⟩
      have L8 := L7.stepX T8 s8
      have c8 := s8 _ _ c1 kt'
      have r8 := c2.mono (KeepT.ofX L7.T s8)
      refine ⟨a.k, xs, v, rfl, rfl, c8, (by rw [c2.length, List.length_map]; exact small1000 (by omega)), ?_⟩
      have ku : KeepT H8 (upd H8 a.k (.lst (xs ++ [v]))) := KeepT.upd (fun zs z => by rw [c8] at z; cases z)
      obtain ⟨ys', r1, r2⟩ := L8.rf
      refine ⟨_, _, conds ++ [cond], rfl, ⟨T8.upd kt' ck.symm, L8.kt.trans ku, SameE.upd (by simp) _ L8.se, by rw [upd_ne y1]; exact L8.ol, ⟨xs ++ [v], upd_same, ?_⟩, by rw [upd_ne (Ne.symm n4)]; exact L8.un, ⟨ys', by rw [upd_ne (Ne.symm n5)]; exact r1, r2.mono ku⟩⟩, by rw [List.length_append, List.length_singleton, l7], ?_, by rw [upd_ne x1]; exact s8 _ _ N7 x4⟩
      · rw [List.map_append]
        exact TpL.snoc (r8.mono ku) (hv.mono ku)
      · intro x hx
        rcases List.mem_append.mp hx with hx | hx
        · exact k7 x hx
        · rw [List.mem_singleton.mp hx]
          exact ⟨lc, fun y hy => ⟨mc y hy, kc y hy⟩⟩
    rintro σ H7 ⟨v5, v7, conds, rfl, L7, l7, k7, N7⟩
    -- the uniques
    refine ⟨_, rfl, NL, rfl, ⟨_, SqL.of N7⟩, for_it walk_list (fun j σ H' => ∃ v5, ∃ un : List Str, σ = [some (.ref t), some (.ref S), some (.str tab.n), some (.ref a.c), some (.ref NL), v5, some (.ref OL), v7, none, none] ∧ Lim H H' t c cs a OL os conds un [] ∧ un.length ≤ 4 ∧ un.Nodup ∧ (∀ x ∈ un, x ∈ ((colNs tab.cols).drop 1).take j) ∧ H' NL = some (.lst (((colNs tab.cols).drop 1).map V.str))) ⟨v5, [], rfl, L7, by decide, List.nodup_nil, (by intro x hx; cases hx), N7⟩ (fun j σ H' _ ⟨_, _, _, _, _, _, _, e⟩ => SqL.of e) ?_ ?_⟩
    · rintro j x σ H8 H8' hj ⟨v5, un, rfl, L8, l8, nd8, k8, N8⟩ ⟨rfl, ex⟩
      rw [List.length_map] at hj
      obtain ⟨z, hz, rfl⟩ : ∃ z, ((colNs tab.cols).drop 1)[j]? = some z ∧ x = V.str z := by
        rw [List.getElem?_map] at ex
        cases e : ((colNs tab.cols).drop 1)[j]? with
        | none => rw [e] at ex; cases ex
        | some z => rw [e] at ex; exact ⟨z, rfl, (Option.some.inj ex).symm⟩
      have mono : ∀ y ∈ un, y ∈ ((colNs tab.cols).drop 1).take (j + 1) := fun y hy => by rw [List.take_add_one]; exact List.mem_append.mpr (.inl (k8 y hy))
      refine ⟨_, rfl, t, c, cs, 4, rfl, L8.T, by decide, by decide +kernel, fun d H9 d0 d1 T9 s9 => ⟨rfl, _, rfl, ?_⟩⟩
      have L9 := L8.stepX T9 s9
      have N9 := s9 _ _ N8 x4
      refine ifD (fun _ => ?_) (fun _ => ⟨_, un, rfl, L9, l8, nd8, mono, N9⟩)
      obtain ⟨g1, g2, g3, g4, g5, g6, _⟩ := L9.see A hm htk
      refine ⟨_, rfl, _, rfl, S, _, rfl, g1, a.d, _, rfl, g4, a.u, _, rfl, .inl (SqL.of L9.un), _, _, rfl, rfl, _, rfl, ?_⟩
      refine ifD (fun h4 => ?_) (fun _ => ⟨_, un, rfl, L9, l8, nd8, mono, N9⟩)
      rw [List.length_map] at h4
      refine ⟨_, rfl, _, rfl, S, _, rfl, g1, a.d, _, rfl, g4, .inl ⟨rfl, _, SqL.of L9.un⟩, _, rfl, a.u, _, _, rfl, rfl, L9.un, (by rw [List.length_map]; exact small1000 (by omega)), ?_⟩
      have ku : KeepT H9 (upd H9 a.u (.lst (un.map V.str ++ [.str z]))) := KeepT.upd (fun zs q => by rw [L9.un] at q; cases q)
      obtain ⟨xs', r1, r2⟩ := L9.ch
      obtain ⟨ys', r3, r4⟩ := L9.rf
      refine ⟨_, un ++ [z], rfl, ⟨T9.upd ut' cu.symm, L9.kt.trans ku, SameE.upd (by simp) _ L9.se, by rw [upd_ne y2]; exact L9.ol, ⟨xs', by rw [upd_ne n4]; exact r1, r2.mono ku⟩, by rw [upd_same, List.map_append]; rfl, ⟨ys', by rw [upd_ne (Ne.symm n6)]; exact r3, r4.mono ku⟩⟩, by rw [List.length_append, List.length_singleton]; omega, ?_, ?_, by rw [upd_ne x2]; exact N9⟩
      · refine List.nodup_append.mpr ⟨nd8, by simp, fun y hy w hw => ?_⟩
        have : w = z := by simpa using hw
        subst this
        rintro rfl
        obtain ⟨i0, hi0, ei⟩ := List.getElem_of_mem (k8 _ hy)
        rw [List.length_take] at hi0
        rw [List.getElem_take] at ei
        have ndn : ((colNs tab.cols).drop 1).Nodup := bare.co.nd.sublist (List.drop_sublist _ _)
        have b1 : ((colNs tab.cols).drop 1)[i0]? = some y := by rw [List.getElem?_eq_getElem (by omega), ei]
        have := nd_ix ndn b1 hz
        omega
      · intro y hy
        rcases List.mem_append.mp hy with hy | hy
        · exact mono y hy
        · rw [List.mem_singleton.mp hy, List.take_add_one, hz]
          exact List.mem_append.mpr (.inr (by simp))
    rintro σ H8 ⟨v5, un, rfl, L8, l8, nd8, k8, N8⟩
    have hun : ∀ x ∈ un, x ∈ colNs (tab.cols.drop 1) := fun x hx => by
      have := List.mem_of_mem_take (k8 x hx)
      unfold colNs at this ⊢
      rw [List.map_drop]
      exact this
    -- the references
    obtain ⟨g1, g2, g3, g4, g5, ⟨xc, g6, g7⟩, _⟩ := L8.see A hm htk
    have lx : xc.length = tab.cols.length := by rw [g7.length, List.length_map]
    refine ⟨_, rfl, _, rfl, a.c, xc, rfl, SqL.of g6, fun CL hCL => ?_⟩
    rw [cut_tail]
    have e9 := same_new hCL (.lst (xc.drop 1))
    have fCL : H CL = none := by
      cases e : H CL with
      | none => rfl
      | some o =>
        exfalso
        by_cases hin : CL ∈ [t, a.k, a.u, a.r]
        · simp only [List.mem_cons, List.not_mem_nil, or_false] at hin
          obtain ⟨xs', r1, _⟩ := L8.ch
          obtain ⟨ys', r3, _⟩ := L8.rf
          rcases hin with z | z | z | z
          · obtain ⟨_, _, _, _, e', _⟩ := L8.T.dk; rw [z, e'] at hCL; cases hCL
          · rw [z, r1] at hCL; cases hCL
          · rw [z, L8.un] at hCL; cases hCL
          · rw [z, r3] at hCL; cases hCL
        · have := L8.se _ _ e hin; rw [hCL] at this; cases this
    obtain ⟨w1, w2, w3, w4⟩ := fresh fCL
    refine ⟨CL, rfl, ⟨_, SqL.of upd_same⟩, for_it walk_list (fun j σ H' => ∃ v8 v9, ∃ rf : List (Str × Str), σ = [some (.ref t), some (.ref S), some (.str tab.n), some (.ref a.c), some (.ref NL), v5, some (.ref OL), v7, v8, v9] ∧ Lim H H' t c cs a OL os conds un rf ∧ rf.length ≤ 4 ∧ (rf.map (·.1)).Nodup ∧ (∀ p ∈ rf, p.1 ∈ ((colNs tab.cols).drop 1).take j) ∧ (∀ p ∈ rf, ∃ col ∈ tab.cols.drop 1, col.n = p.1 ∧ p.2 ≠ tab.n ∧ ∃ f ∈ frOf s, f.1 = p.2 ∧ ∃ kc, f.2[0]? = some kc ∧ kc.k = col.k) ∧ H' CL = some (.lst (xc.drop 1))) ⟨_, _, [], rfl, L8.step e9, by decide, List.nodup_nil, (by intro x hx; cases hx), (by intro x hx; cases hx), upd_same⟩ (fun j σ H' _ ⟨_, _, _, _, _, _, _, _, _, e⟩ => SqL.of e) ?_ ?_⟩
    · rintro j x σ H9 H9' hj ⟨v8, v9, rf, rfl, L9, l9, nd9, k9, rc9, C9⟩ ⟨rfl, ex⟩
      have ex1 : xc[j + 1]? = some x := by rw [List.getElem?_drop] at ex; rw [show j + 1 = 1 + j by omega]; exact ex
      have hjl : j + 1 < tab.cols.length := by rw [← lx]; exact (List.getElem?_eq_some_iff.mp ex1).1
      have ecol : tab.cols[j + 1]? = some tab.cols[j + 1] := List.getElem?_eq_getElem hjl
      obtain ⟨xs', ca, u1, u2, u3⟩ := (D.co).get ecol
      have hxc : xs' = xc := by
        have := L8.se _ _ u1 (by
          simp only [List.mem_cons, List.not_mem_nil, or_false, not_or]
          exact ⟨T.notL u1, n1, n2, n3⟩)
        rw [g6] at this
        cases this
        rfl
      rw [hxc, ex1] at u2
      cases u2
      have hca : ∀ {H' : Hp} {rf' : List (Str × Str)}, Lim H H' t c cs a OL os conds un rf' → H' ca = some (.tup [.str tab.cols[j + 1].n, .str tab.cols[j + 1].k, .bl tab.cols[j + 1].b]) := fun L => L.kt _ _ u3
      have mono : ∀ p ∈ rf, p.1 ∈ ((colNs tab.cols).drop 1).take (j + 1) := fun p hp => by rw [List.take_add_one]; exact List.mem_append.mpr (.inl (k9 p hp))
      have skip : ∀ (H' : Hp) (v9 : Option V), Lim H H' t c cs a OL os conds un rf → H' CL = some (.lst (xc.drop 1)) → ∃ v8 v9', ∃ rf' : List (Str × Str), [some (V.ref t), some (V.ref S), some (V.str tab.n), some (V.ref a.c), some (V.ref NL), v5, some (V.ref OL), v7, some (V.ref ca), v9] = [some (V.ref t), some (V.ref S), some (V.str tab.n), some (V.ref a.c), some (V.ref NL), v5, some (V.ref OL), v7, v8, v9'] ∧ Lim H H' t c cs a OL os conds un rf' ∧ rf'.length ≤ 4 ∧ (rf'.map (·.1)).Nodup ∧ (∀ p ∈ rf', p.1 ∈ ((colNs tab.cols).drop 1).take (j + 1)) ∧ (∀ p ∈ rf', ∃ col ∈ tab.cols.drop 1, col.n = p.1 ∧ p.2 ≠ tab.n ∧ ∃ f ∈ frOf s, f.1 = p.2 ∧ ∃ kc, f.2[0]? = some kc ∧ kc.k = col.k) ∧ H' CL = some (.lst (xc.drop 1)) :=
        fun H' v9 L h => ⟨_, _, rf, rfl, L, l9, nd9, mono, rc9, h⟩
      refine ⟨_, rfl, (by show 0 ≤ sizeLine; decide), fun pe hpe => ?_⟩
      have e10 := same_new hpe (.lst [])
      have L10 := L9.step e10
      have C10 := e10 _ _ C9
      have sok : ∀ x ∈ os, PySem.PyData.strOk x = true := fun x hx => by
        obtain ⟨p, hp, e⟩ := sch_in (ho x hx).1
        rw [← e]
        exact (hnk p hp).1.str
      refine ⟨.list (os.map PyData.str), .list [], .lst (SqL.of L10.ol) (strs_dp _), .lst (SqL.of upd_same) .nil, strs_shaped sok, rfl, _, rfl, ?_⟩
      rw [strs_eqv]
      refine ite2 (fun hne => ?_) (fun _ => skip _ _ L10 C10)
      have hpos : 0 < os.length := by
        cases os with
        | nil => cases hne
        | cons y r => exact Nat.succ_pos _
      refine ⟨_, rfl, t, c, cs, 3, rfl, L10.T, by decide, by decide +kernel, fun d H11 d0 d1 T11 s11 => ⟨rfl, _, rfl, ?_⟩⟩
      have L11 := L10.stepX T11 s11
      have C11 := s11 _ _ C10 w4
      refine ifD (fun _ => ?_) (fun _ => skip _ _ L11 C11)
      obtain ⟨g1, g2, g3, g4, g5, g6', _⟩ := L11.see A hm htk
      obtain ⟨ys', r3, r4⟩ := L11.rf
      have lr : ys'.length = rf.length := by rw [r4.length, List.length_map]
      refine ⟨_, rfl, _, rfl, S, _, rfl, g1, a.d, _, rfl, g5, a.r, _, rfl, .inl (SqL.of r3), _, _, rfl, rfl, _, rfl, ?_⟩
      refine ifD (fun h4 => ?_) (fun _ => skip _ _ L11 C11)
      refine ⟨_, rfl, _, rfl, _, rfl, OL, _, rfl, .inl (SqL.of L11.ol), t, c, cs, ((os.map V.str).length : Int), rfl, L11.T, by rw [List.length_map]; omega, ?_, fun g H12 gg0 gg1 T12 s12 => ?_⟩
      · have b9 : (2 : Nat) ^ 9000 = 2 ^ 7 * 2 ^ 8993 := by rw [← Nat.pow_add]
        have b8 : 0 < (2 : Nat) ^ 8993 := Nat.pow_pos (by decide)
        rw [b9]
        have : (((os.map V.str).length : Int)).natAbs = os.length := by rw [List.length_map]; omega
        omega
      have L12 := L11.stepX T12 s12
      have C12 := s12 _ _ C11 w4
      rw [List.length_map] at gg1
      have hgl : g.toNat < os.length := by omega
      have eo : os[g.toNat]? = some os[g.toNat] := List.getElem?_eq_getElem hgl
      have hmo := List.getElem_mem hgl
      generalize os[g.toNat] = oth at eo hmo
      obtain ⟨hin, hneq⟩ := ho _ hmo
      obtain ⟨p, hp, ep⟩ := sch_in hin
      subst ep
      refine ⟨OL, _, g, _, rfl, rfl, SqL.of L12.ol, at_of (j := g.toNat) (by omega) (by rw [List.getElem?_map, eo]; rfl), ?_⟩
      obtain ⟨g1, g2, g3, g4, g5, g6', gq⟩ := L12.see A hm htk
      obtain ⟨q1, q2, q3⟩ := gq p hp
      have hp0 : p.2.cols[0]? = some (p.2.cols[0]'((hnk p hp).2)) := List.getElem?_eq_getElem _
      obtain ⟨xq, qa, z1, z2, z3⟩ := q3.get hp0
      generalize p.2.cols[0]'((hnk p hp).2) = kc at hp0 z3
      refine ⟨_, rfl, _, rfl, S, _, rfl, q1, p.1.d, _, rfl, q2, p.1.c, _, 0, _, rfl, rfl, SqL.of z1, atI_nat (j := 0) z2, qa, _, 1, _, rfl, rfl, SqT.of z3, atI_nat (j := 1) rfl, _, rfl, ca, _, 1, _, rfl, rfl, SqT.of (hca L12), atI_nat (j := 1) rfl, rfl, _, rfl, ?_⟩
      refine ifD (fun hkk => ?_) (fun _ => skip _ _ L12 C12)
      obtain ⟨ys2, r5, r6⟩ := L12.rf
      refine ⟨_, rfl, _, rfl, S, _, rfl, g1, a.d, _, rfl, g5, .inl ⟨rfl, _, SqL.of r5⟩, ?_⟩
      refine ⟨_, rfl, ca, _, 0, _, rfl, rfl, SqT.of (hca L12), atI_nat (j := 0) rfl, _, rfl, (by show 2 ≤ sizeLine; decide), fun pt hpt => ?_⟩
      have e13 := same_new hpt (.tup [.str tab.cols[j + 1].n, .str p.2.n])
      have L13 := L12.step e13
      have r7 := e13 _ _ r5
      refine ⟨a.r, ys2, _, rfl, rfl, r7, (by rw [r6.length, List.length_map]; exact small1000 (by omega)), ?_⟩
      have ku : KeepT (upd H12 pt (.tup [.str tab.cols[j + 1].n, .str p.2.n])) (upd (upd H12 pt (.tup [.str tab.cols[j + 1].n, .str p.2.n])) a.r (.lst (ys2 ++ [.ref pt]))) := KeepT.upd (fun zs q => by rw [r7] at q; cases q)
      obtain ⟨xs3, v1, v2⟩ := L13.ch
      have enm : ((colNs tab.cols).drop 1)[j]? = some tab.cols[j + 1].n := by
        rw [List.getElem?_drop, show 1 + j = j + 1 by omega]
        unfold colNs
        rw [List.getElem?_map, ecol]
        rfl
      refine ⟨_, _, rf ++ [(tab.cols[j + 1].n, p.2.n)], rfl, ⟨L13.T.upd rt' cr.symm, L13.kt.trans ku, SameE.upd (by simp) _ L13.se, by rw [upd_ne y3]; exact L13.ol, ⟨xs3, by rw [upd_ne n5]; exact v1, v2.mono ku⟩, by rw [upd_ne n6]; exact L13.un, ⟨ys2 ++ [.ref pt], upd_same, ?_⟩⟩, by rw [List.length_append, List.length_singleton]; omega, ?_, ?_, ?_, by rw [upd_ne w3]; exact e13 _ _ C12⟩
      · rw [List.map_append]
        exact TpL.snoc ((r6.mono (KeepT.of e13)).mono ku) (rf_mk (ku _ _ upd_same))
      · rw [List.map_append]
        refine List.nodup_append.mpr ⟨nd9, by simp, fun y hy w hw => ?_⟩
        have : w = tab.cols[j + 1].n := by simpa using hw
        subst this
        rintro rfl
        obtain ⟨pp, hpp, epp⟩ := List.mem_map.mp hy
        have hkk9 := k9 pp hpp
        rw [epp] at hkk9
        obtain ⟨i0, hi0, ei⟩ := List.getElem_of_mem hkk9
        rw [List.length_take] at hi0
        rw [List.getElem_take] at ei
        have ndn : ((colNs tab.cols).drop 1).Nodup := bare.co.nd.sublist (List.drop_sublist _ _)
        have b1 : ((colNs tab.cols).drop 1)[i0]? = some tab.cols[j + 1].n := by rw [List.getElem?_eq_getElem (by omega), ei]
        have := nd_ix ndn b1 enm
        omega
      · intro y hy
        rcases List.mem_append.mp hy with hy | hy
        · exact mono y hy
        · rw [List.mem_singleton.mp hy, List.take_add_one, enm]
          exact List.mem_append.mpr (.inr (by simp))
      · intro y hy
        rcases List.mem_append.mp hy with hy | hy
        · exact rc9 y hy
        · rw [List.mem_singleton.mp hy]
          refine ⟨tab.cols[j + 1], ?_, rfl, hneq, (p.2.n, p.2.cols), List.mem_map.mpr ⟨p, hp, rfl⟩, rfl, kc, hp0, V.str.inj hkk⟩
          refine List.mem_of_getElem? (i := j) ?_
          rw [List.getElem?_drop, show 1 + j = j + 1 by omega]
          exact ecol
    · rintro σ H9 ⟨v8, v9, rf, rfl, L9, l9, nd9, k9, rc9, C9⟩
      obtain ⟨g1, g2, g3, g4, g5, g6', _⟩ := L9.see A hm htk
      obtain ⟨xs3, v1, v2⟩ := L9.ch
      obtain ⟨ys3, v3, v4⟩ := L9.rf
      have hd9 : H9 a.d = some (.dK (descD a)) := L9.se _ _ D.dk (by
        simp only [List.mem_cons, List.not_mem_nil, or_false, not_or]
        exact ⟨a2 _ hm, ne_of D.dk hk0 (by intro z; cases z), ne_of D.dk hu0 (by intro z; cases z), ne_of D.dk hr0 (by intro z; cases z)⟩)
      exact q ⟨tab.n, tab.cols, conds, un, rf⟩ H9 rfl rfl ⟨bare.nm, bare.co, bare.l0, bare.l5, by show conds.length ≤ 2; omega, k7, l8, nd8, hun, l9, nd9, rc9⟩ ⟨hd9, g6', ⟨xs3, v1, v2⟩, L9.un, ⟨ys3, v3, v4⟩⟩ L9.T L9.kt L9.se)

theorem small_nat {x : Int} (h : 0 ≤ x) (h2 : x ≤ 1000) : x.natAbs < 2 ^ 9000 := by
  have h1 : x.natAbs ≤ 1000 := by omega
  exact Nat.lt_of_le_of_lt h1 (by decide +kernel)
theorem ok_law_schema {f : Addr} {fd : FuncData} (k : Kn K mg "_law_schema" s_law_schema ["tape", "least", "most"] f fd) (z : Z mg)
    {g_law_take : Addr} {gd_law_take : FuncData} (c_law_take : Cal P w K mg base 1 "_law_take" ["tape", "many"] (spTake) g_law_take gd_law_take)
    {g_law_name : Addr} {gd_law_name : FuncData} (c_law_name : Cal P w K mg base 2 "_law_name" ["tape", "used"] (spName) g_law_name gd_law_name)
    {g_law_table : Addr} {gd_law_table : FuncData} (c_law_table : Cal P w K mg base 1 "_law_table" ["columns"] (spTable) g_law_table gd_law_table)
    {g_law_columns : Addr} {gd_law_columns : FuncData} (c_law_columns : Cal P w K mg base 3 "_law_columns" ["tape", "used", "many"] (spColumns) g_law_columns gd_law_columns)
    {g_law_limits : Addr} {gd_law_limits : FuncData} (c_law_limits : Cal P w K mg base 7 "_law_limits" ["tape", "schema", "table"] (spLimits) g_law_limits gd_law_limits) :
    Cal P w K mg base 8 "_law_schema" ["tape", "least", "most"] (spSchema) f fd := k.cal (by
  refine k.F.ok sc_law_schema (fun vs H Q E h => ?_) (fun cdv A outer s H vs Q E hr h => ?_)
  · obtain ⟨t, c, cs, least, most, rfl, _⟩ := h; rfl
  · obtain ⟨t, c, cs, least, most, rfl, T, b0, b1, b6, q⟩ := h
    have hu := hu_of hr
    refine ⟨_, (pss_cons (ps_set (i := 3) sc_law_schema.nd rfl (Or.inl rfl) (pe_lst pa_nil))
        (pss_cons (ps_set (i := 4) sc_law_schema.nd rfl (Or.inl rfl) pe_dnewK)
        (pss_cons (ps_for PassesOwn.never rfl (pi_range1 (by rfl) z.range (pa_cons (pe_op op_add (pv 1) (pe_call c_law_take.G (hr.mono (by decide)) (by rfl) c_law_take.m c_law_take.kp c_law_take.b .nil pass0 (pa_cons (pv 0) (pa_cons (pe_op op_add (pe_op op_sub (pv 2) (pv 1)) pe_int) pa_nil)))) pa_nil)) (pg_name (i := 5) sc_law_schema.nd rfl (Or.inl rfl))
        (pss_one (ps_dput hu (pv 4) (pe_call c_law_name.G (hr.mono (by decide)) (by rfl) c_law_name.m c_law_name.kp c_law_name.b .nil pass0 (pa_cons (pv 0) (pa_cons (pv 3) pa_nil))) (pe_call c_law_table.G (hr.mono (by decide)) (by rfl) c_law_table.m c_law_table.kp c_law_table.b .nil pass0 (pa_cons (pe_call c_law_columns.G (hr.mono (by decide)) (by rfl) c_law_columns.m c_law_columns.kp c_law_columns.b .nil pass0 (pa_cons (pv 0) (pa_cons (pe_lst pa_nil) (pa_cons (pe_call c_law_take.G (hr.mono (by decide)) (by rfl) c_law_take.m c_law_take.kp c_law_take.b .nil pass0 (pa_cons (pv 0) (pa_cons pe_int pa_nil))) pa_nil)))) pa_nil)) rfl)))
        (pss_cons (ps_for PassesOwn.never rfl (pi_list (pe_callB (call_sortedD rfl) (by rfl) z.sorted (by decide +kernel) (pa_cons (pv 4) pa_nil))) (pg_name (i := 6) sc_law_schema.nd rfl (Or.inl rfl))
        (pss_one (ps_expr (pe_call c_law_limits.G (hr.mono (by decide)) (by rfl) c_law_limits.m c_law_limits.kp c_law_limits.b .nil pass0 (pa_cons (pv 0) (pa_cons (pv 4) (pa_cons (pv 6) pa_nil)))))))
        (pss_one (ps_ret (pv 4))))))), ?_⟩
    refine ⟨(by show 0 ≤ sizeLine; decide), fun U hU => ?_⟩
    refine fun S hS => ?_
    have m1 := same_new hU (.lst [])
    have m2 := same_new hS (.dK [])
    have M := m1.trans m2
    have fS : H S = none := m1.free hS
    have US : U ≠ S := ne_of_none upd_same hS
    have hUt := T.fresh hU
    have hSt := T.fresh fS
    refine ⟨_, rfl, _, rfl, _, rfl, _, rfl, _, _, rfl, rfl, _, _, rfl, rfl, t, c, cs, most - least + 1, rfl, T.mono M, by omega, small_nat (by omega) (by omega), fun d H1 d0 d1 T1 s1 => ?_⟩
    have hU1 : H1 U = some (.lst []) := s1 _ _ (m2 _ _ upd_same) hUt.1
    have hS1 : H1 S = some (.dK []) := s1 _ _ upd_same hSt.1
    refine ⟨_, _, rfl, rfl, _, rfl, by omega, by omega, for_range (lo := 0) (n := (least + d).toNat) (fun i σ H' => ∃ v, ∃ s : Sch, σ = [some (.ref t), some (.int least), some (.int most), some (.ref U), some (.ref S), v, none] ∧ SchAt H' S s t c ∧ TapeAt H' t c cs ∧ H' U = some (.lst ((schN s).map V.str)) ∧ U ∉ schL s ∧ (∀ p ∈ s, TabBare p.2) ∧ s.length = i ∧ SameX t H H' ∧ (∀ b ∈ schL s, H b = none)) ⟨none, [], rfl, ⟨hS1, (by intro p hp; cases hp), List.nodup_nil, ?_, ?_⟩, T1, hU1, (by intro z; cases z), (by intro p hp; cases hp), rfl, (SameX.of M).trans s1, (by intro p hp; cases hp)⟩ ?_ ?_⟩
    · show [t, S].Nodup
      simp only [List.nodup_cons, List.mem_cons, List.not_mem_nil, or_false, not_false_eq_true, List.nodup_nil, and_true]
      exact hSt.1.symm
    · show [c].Nodup
      simp
    · rintro i σ H2 hi ⟨v, s, rfl, A, T2, hU2, nU, bare, ls, S2, new⟩
      have ln : (schN s).length = i := by unfold schN; rw [List.length_map]; exact ls
      refine ⟨_, rfl, (by show 0 ≤ sizeLine; decide), fun E hE => ?_⟩
      have e3 := same_new hE (.lst [])
      refine ⟨_, rfl, t, c, cs, 5, rfl, T2.mono e3, by decide, by decide +kernel, fun d H3 d0 d1 T3 s3 => ?_⟩
      have fE := T2.fresh hE
      refine ⟨t, c, E, cs, [], d, rfl, T3, s3 _ _ upd_same fE.1, fE.2.symm, d0, by omega, (by show ((0 : Nat) : Int) + d ≤ 25; omega), fun L cols xs H4 _ hL rL lc okc T4 _ s4 => ?_⟩
      refine ⟨L, cols, rfl, ⟨xs, hL, rL⟩, fun a H5 D5 s5 fd fl ndA => ?_⟩
      have X24 : ∀ b o, H2 b = some o → b ≠ t → H4 b = some o := fun b o hb ht => s4 _ _ (s3 _ _ (e3 _ _ hb) ht) ht (ne_of_none hb hE)
      have X25 : SameX t H2 H5 := fun b o hb ht => s5 _ _ (X24 b o hb ht)
      have ht4 : ∃ o, H4 t = some o := by obtain ⟨_, _, _, _, e, _⟩ := T4.dk; exact ⟨_, e⟩
      have back : ∀ {b : Addr}, H4 b = none → b ≠ t ∧ H2 b = none := fun {b} hb => by
        have h1 : b ≠ t := fun z => by obtain ⟨o, e⟩ := ht4; rw [z, e] at hb; cases hb
        refine ⟨h1, ?_⟩
        cases z : H2 b with
        | none => rfl
        | some o => have := X24 b o z h1; rw [hb] at this; cases this
      have T5 := T4.mono s5
      have A5 := A.monoX T2 X25
      have hU5 := X25 _ _ hU2 hUt.1
      refine ⟨_, rfl, _, rfl, _, rfl, t, c, U, cs, schN s, rfl, T5, hU5, hUt.2.symm, by omega, fun z H6 nk nf T6 hU6 s6 => ?_⟩
      have A6 := A5.monoXY T5 hU5 nU s6
      have hdk : H5 a.d = some (.dK (descD a)) := (D5 z).dk
      have aU : a.d ≠ U := fun e => by rw [e, hU5] at hdk; cases hdk
      have bU : ∀ b ∈ adL a, b ≠ U := fun b hb e => by
        have := (back (fl b hb)).2
        rw [e, hU2] at this; cases this
      have D6 : DescAt H6 a ⟨z, cols, [], [], []⟩ := (D5 z).frame (KeepT.ofXY T5 hU5 s6) (fun o e => s6 _ _ e (back fd).1 aU) (fun b hb o e => s6 _ _ e (back (fl b hb)).1 (bU b hb))
      refine ⟨S, _, rfl, DPut.k (k := (Sum.inr z : Key)) A6.sk (by unfold schK; rw [List.length_map]; exact Nat.lt_of_lt_of_le (by omega : s.length < 1000) (by show 1000 ≤ sizeLine; decide)), ?_⟩
      rw [schK_new (s := s) (a := a) (tab := ⟨z, cols, [], [], []⟩) nf]
      refine ⟨_, s ++ [(a, ⟨z, cols, [], [], []⟩)], rfl, A6.add D6 nf ?_ ?_ ndA, T6.upd hSt.1 hSt.2, ?_, ?_, ?_, (by rw [List.length_append, List.length_singleton, ls]), ?_, ?_⟩
      · refine ⟨(back fd).1, fun e => ?_, fun p hp e => ?_⟩
        · have := (back fd).2; rw [e, A.sk] at this; cases this
        · have := (back fd).2; rw [e, (A.ds p hp).dk] at this; cases this
      · refine fun b hb => ⟨fun e => ?_, fun e => ?_⟩
        · have := (back (fl b hb)).2; rw [e, T2.ls] at this; cases this
        · obtain ⟨p, hp, hbp⟩ := List.mem_flatMap.mp e
          obtain ⟨xs', g⟩ := (A.ds p hp).isL b hbp
          have := (back (fl b hb)).2; rw [g] at this; cases this
      · rw [upd_ne US, hU6]
        have : schN (s ++ [(a, ⟨z, cols, [], [], []⟩)]) = schN s ++ [z] := by unfold schN; rw [List.map_append]; rfl
        rw [this]
      · intro e
        unfold schL at e
        rw [List.flatMap_append] at e
        rcases List.mem_append.mp e with e | e
        · exact nU e
        · exact bU U (by simpa using e) rfl
      · intro p hp
        rcases List.mem_append.mp hp with hp | hp
        · exact bare p hp
        · rw [List.mem_singleton.mp hp]
          exact ⟨nk, okc, by show 1 ≤ cols.length; omega, by show cols.length ≤ 5; omega, rfl, rfl, rfl⟩
      · intro b o hb ht
        have nb : b ≠ U := ne_of_none hb hU
        rw [upd_ne (ne_of_none hb fS)]
        exact s6 _ _ (X25 _ _ (S2 _ _ hb ht) ht) ht nb
      · intro b hb
        unfold schL at hb
        rw [List.flatMap_append] at hb
        rcases List.mem_append.mp hb with hb | hb
        · exact new b hb
        · have hb : b ∈ adL a := by simpa using hb
          have h2 := back (fl b hb)
          exact S2.free h2.1 h2.2
    rintro σ H2 ⟨v, s, rfl, A, T2, hU2, nU, bare, ls, S2, new⟩
    have l6 : s.length ≤ 6 := by omega
    refine ⟨_, rfl, S, schK s, schN s, rfl, .inl A.sk, sch_keys s, (by unfold schN; rw [List.length_map]; omega), fun ys P hper _ hP => ?_⟩
    have e3 := same_new hP (.lst (ys.map V.str))
    have ndy : ys.Nodup := hper.nodup_iff.mpr A.nm
    refine ⟨P, rfl, ⟨_, SqL.of upd_same⟩, for_it walk_list (fun j σ H' => ∃ w, ∃ s' : Sch, σ = [some (.ref t), some (.int least), some (.int most), some (.ref U), some (.ref S), v, w] ∧ Half H H' t c cs S s s' (ys.take j) ∧ H' P = some (.lst (ys.map V.str))) ⟨none, s, rfl, ⟨A.monoX T2 (SameX.of e3), T2.mono e3, rfl, rfl, (by intro p hp hd; cases hd), fun p hp _ => bare p hp, S2.trans (SameX.of e3), new⟩, upd_same⟩ (fun j σ H' _ ⟨_, _, _, _, e⟩ => SqL.of e) ?_ ?_⟩
    · rintro j x σ H3 H3' hj ⟨w, s', rfl, L, hP3⟩ ⟨rfl, ex⟩
      rw [List.length_map] at hj
      have ey : ys[j]? = some ys[j] := List.getElem?_eq_getElem hj
      rw [List.getElem?_map, ey] at ex
      cases ex
      have hin : ys[j] ∈ schN s' := by rw [schN_of L.fr]; exact hper.mem_iff.mp (List.getElem_mem hj)
      obtain ⟨⟨a, tab⟩, hm, hn⟩ := sch_in hin
      have hn : tab.n = ys[j] := hn
      have hnd : tab.n ∉ ys.take j := by
        rw [hn]
        intro z
        obtain ⟨i0, hi0, ei⟩ := List.getElem_of_mem z
        rw [List.length_take] at hi0
        rw [List.getElem_take] at ei
        have b1 : ys[i0]? = some ys[j] := by rw [List.getElem?_eq_getElem (by omega), ei]
        have := nd_ix ndy b1 ey
        omega
      have l6' : s'.length ≤ 6 := by have := congrArg List.length L.ads; simp only [List.length_map] at this; omega
      refine ⟨_, rfl, _, rfl, _, rfl, t, c, S, cs, s', a, tab, (by rw [hn]; rfl), L.T, L.A, l6', fun p hp => ?_, hm, L.ba _ hm hnd, fun tab' H4 hn' hc' ok D T4 kt se => ?_⟩
      · by_cases hd : p.2.n ∈ ys.take j
        · have k := L.ok p hp hd; exact ⟨k.nm, k.l0⟩
        · have k := L.ba p hp hd; exact ⟨k.nm, k.l0⟩
      obtain ⟨s2, L2⟩ := L.put hm hn' hc' ok D T4 kt se
      have et : ys.take (j + 1) = ys.take j ++ [tab.n] := by rw [List.take_add_one, ey, hn]; rfl
      refine ⟨_, s2, rfl, by rw [et]; exact L2, se _ _ hP3 fun hc => ?_⟩
      have hP0 : H2 P = none := hP
      obtain ⟨_, _, _, _, et2, _⟩ := T2.dk
      have dd : ∀ b ∈ adL a, H2 b ≠ none := fun b hb z => by
        have e1 : b ∈ schL s := by rw [← schL_of L.ads]; exact mem_flat hm hb
        obtain ⟨p, hp, hbp⟩ := List.mem_flatMap.mp e1
        obtain ⟨xs', g⟩ := (A.ds p hp).isL b hbp
        rw [g] at z; cases z
      simp only [List.mem_cons, List.not_mem_nil, or_false] at hc
      rcases hc with z | z | z | z
      · rw [z, et2] at hP0; cases hP0
      · exact dd a.k (by simp [adL]) (z ▸ hP0)
      · exact dd a.u (by simp [adL]) (z ▸ hP0)
      · exact dd a.r (by simp [adL]) (z ▸ hP0)
    rintro σ H3 ⟨w, s', rfl, L, hP3⟩
    rw [List.length_map, List.take_length] at L
    have ls' : s'.length = s.length := by have := congrArg List.length L.ads; simpa using this
    refine ⟨_, rfl, q S s' H3 L.A (fun p hp => ?_) (by omega) (by omega) L.T L.se⟩
    rw [L.fr]
    refine L.ok p hp (hper.mem_iff.mpr ?_)
    rw [← schN_of L.fr]
    exact List.mem_map.mpr ⟨p, hp, rfl⟩)
theorem ok_law_rest {f : Addr} {fd : FuncData} (k : Kn K mg "_law_rest" s_law_rest ["tape", "columns"] f fd) (z : Z mg)
    {g_law_value : Addr} {gd_law_value : FuncData} (c_law_value : Cal P w K mg base 4 "_law_value" ["tape", "kind", "nullable"] (spVal) g_law_value gd_law_value) :
    Cal P w K mg base 5 "_law_rest" ["tape", "columns"] (spRest) f fd := k.cal (by
  refine k.F.ok sc_law_rest (fun vs H Q E h => ?_) (fun cdv A outer s H vs Q E hr h => ?_)
  · obtain ⟨t, c, L, cs, cols, rfl, _⟩ := h; rfl
  · obtain ⟨t, c, L, cs, cols, rfl, T, C, hp0, hl, q⟩ := h
    refine ⟨_, (pss_one (ps_ret (pe_callTy call_tuple_of (by rfl) z.tuple (by decide +kernel) (pa_cons (pe_lc (own := [("column", 2)]) (g := gName 2) (tt := tYes) (by rfl) sc_law_rest.nd (pi_list (pe_slice sl_list (pv 1) (po_some pe_int) po_none)) (blkOk_by (own := [("column", 2)]) (N := ["tape", "columns", "column"]) (sc := defScope s_law_rest) (by decide +kernel)) (fun _ _ _ _ _ => pg_name (i := 2) sc_law_rest.nd rfl (Or.inl rfl)) (fun _ _ _ _ _ => pts_nil) (fun _ _ _ _ _ => (pe_call c_law_value.G (hr.mono (by decide)) (by rfl) c_law_value.m c_law_value.kp c_law_value.b .nil pass0 (pa_cons (pv 0) (pa_cons (pe_ix (r := rIxT K) ix_tup (pv 2) pe_int (fun _ _ => rfl)) (pa_cons (pe_ix (r := rIxT K) ix_tup (pv 2) pe_int (fun _ _ => rfl)) pa_nil)))))) pa_nil)))), ?_⟩
    obtain ⟨xs, h1, h2⟩ := id C
    have hx : xs.length = cols.length := by rw [h2.length, List.length_map]
    refine ⟨_, rfl, _, rfl, L, _, rfl, SqL.of h1, fun S hS => ?_⟩
    rw [cut_tail]
    have tS := T.fresh hS
    refine ⟨S, rfl, ⟨_, SqL.of upd_same⟩, fun D hD => lc_list (K := K) (a := S) (xs := xs.drop 1) (fun i H' => ∃ vs, H' D = some (.lst vs) ∧ vs.length = i ∧ (∀ (j : Nat) (col : Col) (v : V), cols[j + 1]? = some col → vs[j]? = some v → ValOf col.k col.b v) ∧ TapeAt H' t c cs ∧ SameX t H H' ∧ H' S = some (.lst (xs.drop 1))) ?_ (fun i H' _ ⟨_, _, _, _, _, _, e⟩ => SqL.of e) ?_ ?_⟩
    · have tS' := T.mono (same_new hS (.lst (xs.drop 1)))
      exact ⟨[], upd_same, rfl, (fun j col v _ h => by cases h), tS'.mono (same_new hD _), SameX.of ((same_new hS _).trans (same_new hD _)), same_new hD _ _ _ upd_same⟩
    · rintro i x H1 hi ⟨vs, hD1, l1, f1, T1, s1, hS1⟩
      have tD := (T.mono (same_new hS (.lst (xs.drop 1)))).fresh hD
      have hi2 : xs[i + 1]? = some x := by rw [List.getElem?_drop] at hi; rw [show i + 1 = 1 + i by omega]; exact hi
      have hil : i + 1 < cols.length := by rw [← hx]; exact (List.getElem?_eq_some_iff.mp hi2).1
      obtain ⟨xs', a, k1, k2, k3⟩ := C.get (List.getElem?_eq_getElem hil)
      rw [h1] at k1
      cases k1
      rw [hi2] at k2
      cases k2
      have k4 := KeepT.ofX T s1 _ _ k3
      refine ⟨rfl, _, rfl, _, rfl, a, _, 1, _, rfl, rfl, SqT.of k4, atI_nat (j := 1) rfl, _, rfl, a, _, 2, _, rfl, rfl, SqT.of k4, atI_nat (j := 2) rfl, t, c, cs, _, _, rfl, T1, fun v H2 hv T2 s2 => ?_⟩
      have hSD : S ≠ D := ne_of_none upd_same hD
      have hD0 : H D = none := by
        cases e : H D with
        | none => rfl
        | some o => have := same_new hS (.lst (xs.drop 1)) _ _ e; rw [hD] at this; cases this
      refine ⟨_, s2 _ _ hD1 tD.1, (by exact small1000 (by omega)), vs ++ [v], upd_same, by simp [l1], ?_, T2.upd tD.1 tD.2, samex_upd hD0 _ (s1.trans s2), ?_⟩
      · intro j col w hc hw
        by_cases hj : j < vs.length
        · rw [List.getElem?_append_left hj] at hw
          exact f1 j col w hc hw
        · have hj2 : j = vs.length := by
            have := (List.getElem?_eq_some_iff.mp hw).1
            rw [List.length_append, List.length_singleton] at this
            omega
          subst hj2
          rw [List.getElem?_append_right (Nat.le_refl _), Nat.sub_self] at hw
          cases hw
          rw [l1, List.getElem?_eq_getElem hil] at hc
          cases hc
          exact hv
      · rw [upd_ne hSD]
        exact s2 _ _ hS1 (by
          obtain ⟨_, _, _, _, e, _⟩ := T1.dk
          exact ne_of hS1 e (by intro z; cases z))
    · rintro H1 ⟨vs, hD1, l1, f1, T1, s1, hS1⟩
      refine ⟨D, vs, rfl, .inl ⟨SqL.of hD1, fun p hp => ?_⟩⟩
      have hpt := T1.fresh hp
      refine q p vs _ (s1.free hpt.1 hp) upd_same ⟨?_, f1⟩ (T1.mono (same_new hp _)) (s1.trans (SameX.of (same_new hp _)))
      rw [l1, List.length_drop]
      omega)
theorem ok_law_rows {f : Addr} {fd : FuncData} (k : Kn K mg "_law_rows" s_law_rows ["tape", "columns", "most"] f fd) (z : Z mg)
    {g_law_take : Addr} {gd_law_take : FuncData} (c_law_take : Cal P w K mg base 1 "_law_take" ["tape", "many"] (spTake) g_law_take gd_law_take)
    {g_law_value : Addr} {gd_law_value : FuncData} (c_law_value : Cal P w K mg base 4 "_law_value" ["tape", "kind", "nullable"] (spVal) g_law_value gd_law_value)
    {g_law_rest : Addr} {gd_law_rest : FuncData} (c_law_rest : Cal P w K mg base 5 "_law_rest" ["tape", "columns"] (spRest) g_law_rest gd_law_rest) :
    Cal P w K mg base 6 "_law_rows" ["tape", "columns", "most"] (spRowsDraw) f fd := k.cal (by
  refine k.F.ok sc_law_rows (fun vs H Q E h => ?_) (fun cdv A outer s H vs Q E hr h => ?_)
  · obtain ⟨t, c, L, cs, cols, most, rfl, _⟩ := h; rfl
  · obtain ⟨t, c, L, cs, cols, most, rfl, T, C, c0, c100, m0, m20, q⟩ := h
    have hu := hu_of hr
    refine ⟨_, (pss_cons (ps_set (i := 3) sc_law_rows.nd rfl (Or.inl rfl) pe_dnewK)
        (pss_cons (ps_for PassesOwn.never rfl (pi_range1 (by rfl) z.range (pa_cons (pe_call c_law_take.G (hr.mono (by decide)) (by rfl) c_law_take.m c_law_take.kp c_law_take.b .nil pass0 (pa_cons (pv 0) (pa_cons (pe_op op_add (pv 2) pe_int) pa_nil))) pa_nil)) (pg_name (i := 4) sc_law_rows.nd rfl (Or.inl rfl))
        (pss_one (ps_dput hu (pv 3) (pe_call c_law_value.G (hr.mono (by decide)) (by rfl) c_law_value.m c_law_value.kp c_law_value.b .nil pass0 (pa_cons (pv 0) (pa_cons (pe_ix ix_tup (pe_ix ix_list (pv 1) pe_int (fun _ _ => rfl)) pe_int (fun _ _ => rfl)) (pa_cons pe_bl pa_nil)))) (pe_call c_law_rest.G (hr.mono (by decide)) (by rfl) c_law_rest.m c_law_rest.kp c_law_rest.b .nil pass0 (pa_cons (pv 0) (pa_cons (pv 1) pa_nil))) rfl)))
        (pss_one (ps_ret (pv 3))))), ?_⟩
    refine fun M hM => ?_
    have e1 := same_new hM (.dK [])
    have fM := T.fresh hM
    have T1 := T.mono e1
    have C1 : ColsAt (upd H M (.dK [])) L cols := C.mono (KeepT.of e1) (fun o => e1 _ _)
    refine ⟨_, rfl, _, rfl, _, _, rfl, rfl, t, c, cs, most + 1, rfl, T1, by omega, natSm (by omega) (by omega), fun d H2 d0 d1 T2 s2 => ?_⟩
    refine ⟨_, rfl, by omega, by omega, for_range (lo := 0) (n := d.toNat) (fun i σ H' => ∃ v, ∃ rs : List Ro, σ = [some (.ref t), some (.ref L), some (.int most), some (.ref M), v] ∧ TAt H' M rs ∧ (∀ r ∈ rs, RowFit cols r) ∧ rs.length ≤ i ∧ TapeAt H' t c cs ∧ ColsAt H' L cols ∧ SameX t H H') ⟨none, [], rfl, ⟨s2 _ _ upd_same fM.1, (by intro r h; cases h), List.nodup_nil⟩, (by intro r h; cases h), Nat.le_refl _, T2, ?_, (SameX.of e1).trans s2⟩ ?_ ?_⟩
    · obtain ⟨xs, h1, h2⟩ := C1
      exact ⟨xs, s2 _ _ h1 (T1.notL h1), h2.mono (KeepT.ofX T1 s2)⟩
    · rintro i σ H3 hi ⟨v, rs, rfl, A3, f3, l3, T3, C3, s3⟩
      have ecol : cols[0]? = some cols[0] := List.getElem?_eq_getElem c0
      refine ⟨_, rfl, _, rfl, t, c, L, cs, cols, rfl, T3, C3, c0, c100, fun pr ws H4 hp0 hp fit T4 s4 => ?_⟩
      have ML : L ≠ t := by obtain ⟨xs, h1, _⟩ := C3; exact T3.notL h1
      have C4 : ColsAt H4 L cols := by
        obtain ⟨xs, h1, h2⟩ := C3
        exact ⟨xs, s4 _ _ h1 ML, h2.mono (KeepT.ofX T3 s4)⟩
      have A4 := A3.mono (KeepT.ofX T3 s4) (fun o h => s4 _ _ h fM.1)
      obtain ⟨xs, a, k1, k2, k3⟩ := C4.get ecol
      refine ⟨_, rfl, _, rfl, _, rfl, L, _, 0, _, rfl, rfl, SqL.of k1, atI_nat (j := 0) k2, a, _, 1, _, rfl, rfl, SqT.of k3, atI_nat (j := 1) rfl, t, c, cs, cols[0].k, false, rfl, T4, fun kv H5 hv T5 s5 => ?_⟩
      have A5 := A4.mono (KeepT.ofX T4 s5) (fun o h => s5 _ _ h fM.1)
      have C5 : ColsAt H5 L cols := by
        obtain ⟨xs, h1, h2⟩ := C4
        exact ⟨xs, s5 _ _ h1 (T4.notL h1), h2.mono (KeepT.ofX T4 s5)⟩
      have hp5 := KeepT.ofX T4 s5 _ _ hp
      have hk := hv.key
      have dp := DPut.k (k := vKey kv) (v := .ref pr) A5.dk (by unfold roK; rw [List.length_map]; exact small1000 (by omega))
      rw [hk] at dp
      refine ⟨M, _, rfl, dp, ?_⟩
      rw [putRo_K rs ⟨vKey kv, pr, ws⟩]
      have ku : KeepT H5 (upd H5 M (.dK (roK (putRo rs ⟨vKey kv, pr, ws⟩)))) := KeepT.lock A5.dk
      refine ⟨_, putRo rs ⟨vKey kv, pr, ws⟩, rfl, ⟨upd_same, fun r hr' => ?_, putRo_nd A5.nd _⟩, fun r hr' => ?_, by have := putRo_len rs ⟨vKey kv, pr, ws⟩; omega, T5.upd fM.1 fM.2, ?_, ?_⟩
      · rcases putRo_mem hr' with ⟨_, ea, ev⟩ | h
        · rw [ea, ev]; exact ku _ _ hp5
        · exact ku _ _ (A5.rt r h)
      · rcases putRo_mem hr' with ⟨ek, ea, ev⟩ | h
        · have := RowFit.mk' (a := pr) ecol hv fit
          refine ⟨fun c' hc' => by rw [ek]; exact this.k c' hc', by rw [ev]; exact this.r⟩
        · exact f3 r h
      · obtain ⟨xs, h1, h2⟩ := C5
        exact ⟨xs, by rw [upd_ne (fun z => by rw [z, A5.dk] at h1; cases h1)]; exact h1, h2.mono ku⟩
      · exact fun b o hb hbt => by
          rw [upd_ne (ne_of_none hb hM)]
          exact s5 _ _ (s4 _ _ (s3 _ _ hb hbt) hbt) hbt
    · rintro σ H3 ⟨v, rs, rfl, A3, f3, l3, T3, C3, s3⟩
      exact ⟨_, rfl, q M rs H3 A3 f3 (by omega) hM T3 s3⟩)
theorem ok_law_state {f : Addr} {fd : FuncData} (k : Kn K mg "_law_state" s_law_state ["tape", "schema", "most"] f fd) (z : Z mg)
    {g_law_rows : Addr} {gd_law_rows : FuncData} (c_law_rows : Cal P w K mg base 6 "_law_rows" ["tape", "columns", "most"] (spRowsDraw) g_law_rows gd_law_rows) :
    Cal P w K mg base 7 "_law_state" ["tape", "schema", "most"] (spState) f fd := k.cal (by
  refine k.F.ok sc_law_state (fun vs H Q E h => ?_) (fun cdv A outer s H vs Q E hr h => ?_)
  · obtain ⟨t, c, S, cs, s, most, rfl, _⟩ := h; rfl
  · obtain ⟨t, c, S, cs, s, most, rfl, T, A, ok, l6, m0, m20, q⟩ := h
    have hu := hu_of hr
    refine ⟨_, (pss_cons (ps_set (i := 3) sc_law_state.nd rfl (Or.inl rfl) pe_dnewK)
        (pss_cons (ps_for PassesOwn.never rfl (pi_list (pe_callB (call_sortedD rfl) (by rfl) z.sorted (by decide +kernel) (pa_cons (pv 1) pa_nil))) (pg_name (i := 4) sc_law_state.nd rfl (Or.inl rfl))
        (pss_one (ps_dput hu (pv 3) (pv 4) (pe_call c_law_rows.G (hr.mono (by decide)) (by rfl) c_law_rows.m c_law_rows.kp c_law_rows.b .nil pass0 (pa_cons (pv 0) (pa_cons (pe_dget hu (pe_dget hu (pv 1) (pv 4) (fun _ _ => rfl)) pe_str (fun _ _ => rfl)) (pa_cons (pv 2) pa_nil)))) rfl)))
        (pss_one (ps_ret (pv 3))))), ?_⟩
    refine fun M hM => ?_
    have e1 := same_new hM (.dK [])
    have fM := T.fresh hM
    have T1 := T.mono e1
    have A1 := A.monoX T (SameX.of e1)
    refine ⟨_, rfl, S, schK s, schN s, rfl, .inl A1.sk, sch_keys s, (by unfold schN; rw [List.length_map]; omega), fun ys P hper _ hP => ?_⟩
    have e2 := same_new hP (.lst (ys.map V.str))
    have fP := T1.fresh hP
    have ndy : ys.Nodup := hper.nodup_iff.mpr A.nm
    have ly : ys.length = s.length := by rw [hper.length_eq]; unfold schN; rw [List.length_map]
    have MP : M ≠ P := ne_of_none upd_same hP
    refine ⟨P, rfl, ⟨_, SqL.of upd_same⟩, for_it walk_list (fun i σ H' => ∃ v, ∃ st : List TS, σ = [some (.ref t), some (.ref S), some (.int most), some (.ref M), v] ∧ H' M = some (.dK (stK st)) ∧ (∀ p ∈ st, TAt H' p.d p.rs) ∧ stN st = ys.take i ∧ (∀ p ∈ st, H p.d = none ∧ p.d ≠ M ∧ p.d ≠ t) ∧ (st.map fun q => q.d).Nodup ∧ (∀ p ∈ s, p.2.n ∈ ys.take i → ∃ q ∈ st, q.n = p.2.n ∧ ∀ r ∈ q.rs, RowFit p.2.cols r) ∧ (∀ p ∈ st, p.rs.length ≤ most.toNat) ∧ TapeAt H' t c cs ∧ SchAt H' S s t c ∧ H' P = some (.lst (ys.map V.str)) ∧ SameX t H H') ⟨none, [], rfl, e2 _ _ upd_same, (by intro p h; cases h), rfl, (by intro p h; cases h), List.nodup_nil, (by intro p _ h; cases h), (by intro p h; cases h), T1.mono e2, A1.monoX T1 (SameX.of e2), upd_same, SameX.of (e1.trans e2)⟩ (fun i σ H' _ ⟨_, _, _, _, _, _, _, _, _, _, _, _, e, _⟩ => SqL.of e) ?_ ?_⟩
    · rintro i x σ H3 H3' hi ⟨v, st, rfl, hM3, hD3, hn3, fr3, dn3, fit3, l3, T3, A3, hP3, s3⟩ ⟨rfl, ex⟩
      rw [List.length_map] at hi
      have ey : ys[i]? = some ys[i] := List.getElem?_eq_getElem hi
      rw [List.getElem?_map, ey] at ex
      cases ex
      have hmy := List.getElem_mem hi
      generalize ys[i] = y at ey hmy
      obtain ⟨p, hp, rfl⟩ := sch_in (hper.mem_iff.mp hmy)
      have D3 := A3.ds p hp
      have okp := ok p hp
      have l5 := okp.l5
      have l0 := okp.l0
      refine ⟨_, rfl, _, rfl, _, rfl, S, _, rfl, A3.desc hp, p.1.d, _, rfl, D3.gc, _, rfl, t, c, p.1.c, cs, p.2.cols, most, rfl, T3, D3.co, by omega, by omega, m0, m20, fun d rs H4 A4 f4 lr d0 T4 s4 => ?_⟩
      have hnot : p.2.n ∉ stN st := by
        rw [hn3]
        intro z
        obtain ⟨j, hj, ej⟩ := List.getElem_of_mem z
        rw [List.length_take] at hj
        rw [List.getElem_take] at ej
        have b1 : ys[j]? = some p.2.n := by rw [List.getElem?_eq_getElem (by omega), ej]
        have := nd_ix ndy b1 ey
        omega
      have hM4 := s4 _ _ hM3 fM.1
      have lst : st.length = i := by
        have := congrArg List.length hn3
        unfold stN at this
        rw [List.length_map, List.length_take] at this
        omega
      have ft : ∀ {b : Addr}, H3' b = none → b ≠ t ∧ H b = none := fun {b} hb => by
        have n1 : b ≠ t := by obtain ⟨_, _, _, _, e, _⟩ := T3.dk; exact (ne_of_none e hb).symm
        refine ⟨n1, ?_⟩
        cases e : H b with
        | none => rfl
        | some o => have := s3 _ _ e n1; rw [hb] at this; cases this
      have dM : d ≠ M := (ne_of_none hM3 d0).symm
      refine ⟨_, rfl, _, rfl, M, _, rfl, DPut.k (k := (Sum.inr p.2.n : Key)) hM4 (by unfold stK; rw [List.length_map]; exact small1000 (by omega)), ?_⟩
      rw [st_new (x := ⟨p.2.n, d, rs⟩) hnot]
      have ku : KeepT H4 (upd H4 M (.dK (stK (st ++ [⟨p.2.n, d, rs⟩])))) := KeepT.lock hM4
      have tk : ys.take (i + 1) = ys.take i ++ [p.2.n] := by rw [List.take_add_one, ey]; rfl
      refine ⟨_, st ++ [⟨p.2.n, d, rs⟩], rfl, upd_same, fun z hz => ?_, ?_, fun z hz => ?_, ?_, fun z hz hzn => ?_, fun z hz => ?_, T4.upd fM.1 fM.2, ?_, ?_, ?_⟩
      · rcases List.mem_append.mp hz with h | h
        · have A' := (hD3 z h).mono (KeepT.ofX T3 s4) (fun o e => s4 _ _ e (fr3 z h).2.2)
          exact A'.mono ku fun o e => by rw [upd_ne (fr3 z h).2.1]; exact e
        · rw [List.mem_singleton.mp h]
          exact A4.mono ku fun o e => by rw [upd_ne dM]; exact e
      · rw [tk, ← hn3]; unfold stN; rw [List.map_append]; rfl
      · rcases List.mem_append.mp hz with h | h
        · exact fr3 z h
        · rw [List.mem_singleton.mp h]
          exact ⟨(ft d0).2, dM, (ft d0).1⟩
      · rw [List.map_append]
        refine List.nodup_append.mpr ⟨dn3, by simp, fun x hx y hy => ?_⟩
        have : y = d := by simpa using hy
        subst this
        rintro rfl
        obtain ⟨z, hz, e⟩ := List.mem_map.mp hx
        have e : z.d = x := e
        have := (hD3 z hz).dk
        rw [e, d0] at this
        cases this
      · rw [tk] at hzn
        rcases List.mem_append.mp hzn with h | h
        · obtain ⟨w, h1, h2, h3⟩ := fit3 z hz h
          exact ⟨w, List.mem_append.mpr (.inl h1), h2, h3⟩
        · have ezp := sch_one A.nm hz hp (List.mem_singleton.mp h)
          subst ezp
          exact ⟨_, List.mem_append.mpr (.inr (List.mem_singleton.mpr rfl)), rfl, f4⟩
      · rcases List.mem_append.mp hz with h | h
        · exact l3 z h
        · rw [List.mem_singleton.mp h]
          show rs.length ≤ most.toNat
          omega
      · exact (A3.monoX T3 s4).other hM4 (ne_of_none A.sk hM) (fun z hz => ne_of_none (A.ds z hz).dk hM)
      · rw [upd_ne MP.symm]; exact s4 _ _ hP3 fP.1
      · exact fun b o hb hbt => by
          rw [upd_ne (ne_of_none hb hM)]
          exact s4 _ _ (s3 _ _ hb hbt) hbt
    · rintro σ H3 ⟨v, st, rfl, hM3, hD3, hn3, fr3, dn3, fit3, l3, T3, A3, hP3, s3⟩
      rw [List.length_map, List.take_length] at hn3 fit3
      have lst : st.length = s.length := by
        have := congrArg List.length hn3
        unfold stN at this
        rw [List.length_map] at this
        omega
      refine ⟨_, rfl, q M st H3 ⟨hM3, hD3, by rw [hn3]; exact ndy⟩ ⟨fun p hp => fit3 p hp (hper.mem_iff.mpr (List.mem_map.mpr ⟨p, hp, rfl⟩)), l3, fun z hz => hper.mem_iff.mp (by rw [← hn3]; exact List.mem_map.mpr ⟨z, hz, rfl⟩), lst⟩ ?_ ?_ T3 s3⟩
      · unfold stD
        refine List.nodup_cons.mpr ⟨fun h => ?_, dn3⟩
        obtain ⟨z, hz, e⟩ := List.mem_map.mp h
        exact (fr3 z hz).2.1 e
      · intro b hb
        rcases List.mem_cons.mp hb with rfl | hb
        · exact hM
        · obtain ⟨z, hz, rfl⟩ := List.mem_map.mp hb
          exact (fr3 z hz).1)

theorem no_copy {f : Addr} {fd : FuncData} : FnOk P w K mg base CX0 0 f fd ["thing"] (spCopyG 0) := by
  have no : ∀ vs H Q E, ¬ spCopyG 0 vs H Q E := fun vs H Q E h => by
    obtain ⟨x, g, D, _, _, h1, _⟩ := h
    exact Nat.not_lt_zero _ h1
  exact ⟨fun vs H Q E h => absurd h (no vs H Q E), fun A outer s H args us vs Q E _ _ _ _ h => absurd h (no vs H Q E)⟩
theorem ok_copy {n : Nat} {f : Addr} {fd : FuncData} (k : Kn K mg "_law_copy" s_law_copy ["thing"] f fd) (z : Z mg)
    (c_law_copy : Cal P w K mg base n "_law_copy" ["thing"] (spCopyG n) f fd) : Cal P w K mg base (n + 1) "_law_copy" ["thing"] (spCopyG (n + 1)) f fd := k.cal (by
  refine k.F.ok sc_law_copy (fun vs H Q E h => ?_) (fun cdv A outer s H vs Q E hr h => ?_)
  · obtain ⟨x, g, D, rfl, _⟩ := h; rfl
  · obtain ⟨x, g, D, rfl, hx, hdep, q⟩ := h
    have hu := hu_of hr
    refine ⟨_, (pss_cons (ps_if (pt_val (pe_callB call_isi (by rfl) z.isinstance (by decide +kernel) (pa_cons (pv 0) (pa_cons (pe_bltn (v := .ty "list") (u := .type "list") (by rfl) z.list (by decide +kernel) rfl) pa_nil)))) (pss_one (ps_ret (pe_lc (own := [("item", 3)]) (g := gName 3) (tt := tYes) (by rfl) sc_law_copy.nd (pi_list (pv 0)) (blkOk_by (own := [("item", 3)]) (N := ["thing", "result", "key", "item"]) (sc := defScope s_law_copy) (by decide +kernel)) (fun _ _ _ _ _ => pg_name (i := 3) sc_law_copy.nd rfl (Or.inl rfl)) (fun _ _ _ _ _ => pts_nil) (fun _ _ _ _ _ => (pe_call c_law_copy.G (hr.mono (by omega)) (by rfl) c_law_copy.m c_law_copy.kp c_law_copy.b .nil pass0 (pa_cons (pv 3) pa_nil)))))) pss_nil)
    (pss_cons (ps_if (pt_val (pe_callB call_isi (by rfl) z.isinstance (by decide +kernel) (pa_cons (pv 0) (pa_cons (pe_bltn (v := .ty "tuple") (u := .type "tuple") (by rfl) z.tuple (by decide +kernel) rfl) pa_nil)))) (pss_one (ps_ret (pe_callTy call_tuple_of (by rfl) z.tuple (by decide +kernel) (pa_cons (pe_lc (own := [("item", 3)]) (g := gName 3) (tt := tYes) (by rfl) sc_law_copy.nd (pi_tup (pv 0)) (blkOk_by (own := [("item", 3)]) (N := ["thing", "result", "key", "item"]) (sc := defScope s_law_copy) (by decide +kernel)) (fun _ _ _ _ _ => pg_name (i := 3) sc_law_copy.nd rfl (Or.inl rfl)) (fun _ _ _ _ _ => pts_nil) (fun _ _ _ _ _ => (pe_call c_law_copy.G (hr.mono (by omega)) (by rfl) c_law_copy.m c_law_copy.kp c_law_copy.b .nil pass0 (pa_cons (pv 3) pa_nil)))) pa_nil)))) pss_nil)
    (pss_cons (ps_if (pt_val (pe_callB call_isi (by rfl) z.isinstance (by decide +kernel) (pa_cons (pv 0) (pa_cons (pe_bltn (v := .ty "dict") (u := .type "dict") (by rfl) z.dict (by decide +kernel) rfl) pa_nil)))) (pss_cons (ps_set (i := 1) sc_law_copy.nd rfl (Or.inl rfl) pe_dnewK)
    (pss_cons (ps_lock (ps_for PassesOwn.never rfl (pi_keys (pv 0)) (pg_name (i := 2) sc_law_copy.nd rfl (Or.inl rfl))
    (pss_one (ps_dput hu (pv 1) (pv 2) (pe_call c_law_copy.G (hr.mono (by omega)) (by rfl) c_law_copy.m c_law_copy.kp c_law_copy.b .nil pass0 (pa_cons (pe_dget hu (pv 0) (pv 2) (fun _ _ => rfl)) pa_nil)) rfl))))
    (pss_one (ps_ret (pv 1))))) pss_nil)
    (pss_one (ps_ret (pv 0)))))), ?_⟩
    -- the items of a list or a tuple, one by one, into a new list R
    have part : ∀ (gs : List G) (xs : List V) (R : Addr), H R = none → (∀ g ∈ gs, g.dep < n) → xs.length = gs.length → xs.length ≤ 1000 → True := fun _ _ _ _ _ _ _ => True.intro
    cases hx with
    | @s v hs =>
      obtain ⟨t, hT, c⟩ := ty_scal (K := K) (H := H) hs
      have n1 : kitB t "list" = some false ∧ kitB t "tuple" = some false ∧ kitB t "dict" = some false := by
        rcases c with ⟨_, rfl⟩ | ⟨_, rfl⟩ | ⟨_, rfl⟩ | ⟨_, rfl⟩ <;> exact ⟨by decide +kernel, by decide +kernel, by decide +kernel⟩
      refine ⟨_, rfl, _, _, _, _, false, rfl, .ty _, hT, kit_ty n1.1, _, rfl, ?_⟩
      refine ⟨_, rfl, _, _, _, _, false, rfl, .ty _, hT, kit_ty n1.2.1, _, rfl, ?_⟩
      refine ⟨_, rfl, _, _, _, _, false, rfl, .ty _, hT, kit_ty n1.2.2, _, rfl, ?_⟩
      exact ⟨_, rfl, q _ [] _ (.s hs) (Same.refl _) (fun a h => by cases h) List.nodup_nil⟩
    | @l a xs gs D hxa hn rx =>
      have hA : TyX K H (.ref a) (.type "list") := .base (.lst hxa)
      have hd : ∀ g ∈ gs, g.dep < n := fun g hg => by have := depL_mem hg; simp only [G.dep] at hdep; omega
      refine ⟨_, rfl, _, _, _, _, true, rfl, .ty _, hA, kit_ty (by decide +kernel), _, rfl, ?_⟩
      refine ⟨_, rfl, a, rfl, ⟨_, SqL.of hxa⟩, fun R hR => inner walk_list (fun i H' => ∃ ys E, H' R = some (.lst ys) ∧ GpL H' ys (gs.take i) E ∧ Same H H' ∧ (∀ b ∈ E, H b = none ∧ b ≠ R) ∧ E.Nodup) ⟨[], [], upd_same, .nil, same_new hR _, (fun b h => by cases h), List.nodup_nil⟩ (fun i H' _ ⟨_, _, _, _, s, _⟩ => SqL.of (s _ _ hxa)) ?_ ?_⟩
      · rintro i x H1 H1' hi ⟨ys, E, R1, r1, s1, f1, nd1⟩ ⟨rfl, ex⟩
        obtain ⟨g1, D1, e1, p1, i1⟩ := rx.get ex
        refine ⟨rfl, _, rfl, x, g1, D1, rfl, p1.mono s1, hd g1 (List.mem_of_getElem? e1), fun x' D' H2 p2 s2 f2 nd2 => ?_⟩
        have R2 := s2 _ _ R1
        have ku : KeepT H2 (upd H2 R (.lst (ys ++ [x']))) := KeepT.upd (fun zs z => by rw [R2] at z; cases z)
        have nR : ∀ b ∈ D', b ≠ R := fun b hb e => by subst e; have := f2 _ hb; rw [R1] at this; cases this
        refine ⟨ys, R2, (by rw [r1.length, List.length_take]; exact small1000 (by omega)), ys ++ [x'], E ++ D', upd_same, ?_, same_upd hR _ (s1.trans s2), ?_, List.nodup_append.mpr ⟨nd1, nd2, fun x hx y hy e => r1.there x hx (f2 x (e ▸ hy))⟩⟩
        · rw [List.take_add_one, e1]
          exact GpL.snoc ((r1.mono s2).frame ku fun b hb o ho => by rw [upd_ne (f1 b hb).2]; exact ho) (p2.frame ku fun b hb o ho => by rw [upd_ne (nR b hb)]; exact ho)
        · intro b hb
          rcases List.mem_append.mp hb with hb | hb
          · exact f1 b hb
          · exact ⟨s1.free (f2 b hb), nR b hb⟩
      · rintro H1 ⟨ys, E, R1, r1, s1, f1, nd1⟩
        rw [List.take_of_length_le (by rw [rx.length]; omega)] at r1
        refine q (.ref R) (R :: E) H1 (.l R1 (by rw [r1.length, ← rx.length]; exact hn) r1) s1 (fun b hb => ?_) (List.nodup_cons.mpr ⟨fun h => (f1 R h).2 rfl, nd1⟩)
        rcases List.mem_cons.mp hb with rfl | hb
        · exact hR
        · exact (f1 b hb).1
    | @t a xs gs D hxa hn rx =>
      have hA : TyX K H (.ref a) (.type "tuple") := .base (.tup hxa)
      have hd : ∀ g ∈ gs, g.dep < n := fun g hg => by have := depL_mem hg; simp only [G.dep] at hdep; omega
      refine ⟨_, rfl, _, _, _, _, false, rfl, .ty _, hA, kit_ty (by decide +kernel), _, rfl, ?_⟩
      refine ⟨_, rfl, _, _, _, _, true, rfl, .ty _, hA, kit_ty (by decide +kernel), _, rfl, ?_⟩
      refine ⟨_, rfl, a, rfl, ⟨_, SqT.of hxa⟩, fun R hR => inner walk_tup (fun i H' => ∃ ys E, H' R = some (.lst ys) ∧ GpL H' ys (gs.take i) E ∧ Same H H' ∧ (∀ b ∈ E, H b = none ∧ b ≠ R) ∧ E.Nodup) ⟨[], [], upd_same, .nil, same_new hR _, (fun b h => by cases h), List.nodup_nil⟩ (fun i H' _ ⟨_, _, _, _, s, _⟩ => SqT.of (s _ _ hxa)) ?_ ?_⟩
      · rintro i x H1 H1' hi ⟨ys, E, R1, r1, s1, f1, nd1⟩ ⟨rfl, ex⟩
        obtain ⟨g1, D1, e1, p1, i1⟩ := rx.get ex
        refine ⟨rfl, _, rfl, x, g1, D1, rfl, p1.mono s1, hd g1 (List.mem_of_getElem? e1), fun x' D' H2 p2 s2 f2 nd2 => ?_⟩
        have R2 := s2 _ _ R1
        have ku : KeepT H2 (upd H2 R (.lst (ys ++ [x']))) := KeepT.upd (fun zs z => by rw [R2] at z; cases z)
        have nR : ∀ b ∈ D', b ≠ R := fun b hb e => by subst e; have := f2 _ hb; rw [R1] at this; cases this
        refine ⟨ys, R2, (by rw [r1.length, List.length_take]; exact small1000 (by omega)), ys ++ [x'], E ++ D', upd_same, ?_, same_upd hR _ (s1.trans s2), ?_, List.nodup_append.mpr ⟨nd1, nd2, fun x hx y hy e => r1.there x hx (f2 x (e ▸ hy))⟩⟩
        · rw [List.take_add_one, e1]
          exact GpL.snoc ((r1.mono s2).frame ku fun b hb o ho => by rw [upd_ne (f1 b hb).2]; exact ho) (p2.frame ku fun b hb o ho => by rw [upd_ne (nR b hb)]; exact ho)
        · intro b hb
          rcases List.mem_append.mp hb with hb | hb
          · exact f1 b hb
          · exact ⟨s1.free (f2 b hb), nR b hb⟩
      · rintro H1 ⟨ys, E, R1, r1, s1, f1, nd1⟩
        rw [List.take_of_length_le (by rw [rx.length]; omega)] at r1
        refine ⟨R, ys, rfl, .inl ⟨SqL.of R1, fun p hp => ?_⟩⟩
        exact q (.ref p) E _ (.t upd_same (by rw [r1.length, ← rx.length]; exact hn) (r1.mono (same_new hp _))) (s1.trans (same_new hp _)) (fun b hb => (f1 b hb).1) nd1
    | @d a kvs kgs D hxa hn nd rx fx =>
      have hA : TyX K H (.ref a) (.type "dict") := .base (.dK hxa)
      have hd : ∀ (k : Key) (g : G), (k, g) ∈ kgs → g.dep < n := fun k g hg => by have := depK_mem hg; simp only [G.dep] at hdep; omega
      refine ⟨_, rfl, _, _, _, _, false, rfl, .ty _, hA, kit_ty (by decide +kernel), _, rfl, ?_⟩
      refine ⟨_, rfl, _, _, _, _, false, rfl, .ty _, hA, kit_ty (by decide +kernel), _, rfl, ?_⟩
      refine ⟨_, rfl, _, _, _, _, true, rfl, .ty _, hA, kit_ty (by decide +kernel), _, rfl, ?_⟩
      refine fun R hR => ?_
      have aR : a ≠ R := ne_of_none hxa hR
      have hxa1 : (upd H R (.dK [])) a = some (.dK kvs) := by rw [upd_ne aR]; exact hxa
      refine ⟨a, .dK kvs, hxa1, True.intro, fun od => ?_⟩
      refine ⟨_, rfl, a, od, rfl, .inl ⟨kvs, upd_same, for_it walk_keys (fun i σ H' => ∃ v2 ys E, σ = [some (.ref a), some (.ref R), v2, none] ∧ H' a = some (.frz od (.dK kvs)) ∧ H' R = some (.dK ys) ∧ GpK H' ys (kgs.take i) E ∧ (∀ b o, H b = some o → b ≠ a → H' b = some o) ∧ (∀ b ∈ E, H b = none ∧ b ≠ R) ∧ E.Nodup) ⟨none, [], [], rfl, upd_same, by rw [upd_ne aR.symm]; exact upd_same, .nil, fun b o h nb => by rw [upd_ne nb, upd_ne (ne_of_none h hR)]; exact h, (fun b h => by cases h), List.nodup_nil⟩ (fun i σ H' _ ⟨_, _, _, _, e, _⟩ => e) ?_ ?_⟩⟩
      · rintro i x σ H1 H1' hi ⟨v2, ys, E, rfl, a1, R1, r1, s1, f1, nd1⟩ ⟨rfl, key, wv, ek, rfl⟩
        obtain ⟨g1, D1, e1, p1, i1⟩ := rx.get ek
        have ga : DGet H1' a (kV key) (some wv) := .inl ⟨kvs, key, .inr ⟨od, a1⟩, rfl, (valV_at nd ek).symm⟩
        have p1' : Gp H1' wv g1 D1 := p1.frame (fun b zs h => s1 _ _ h (ne_of h hxa (by intro z; cases z))) (fun b hb o h => s1 _ _ h (fun e => by subst e; exact fx (i1 _ hb)))
        refine ⟨_, rfl, _, rfl, a, wv, rfl, ga, wv, g1, D1, rfl, p1', hd _ _ (List.mem_of_getElem? e1), fun x' D' H2 p2 s2 f2 nd2 => ?_⟩
        have R2 := s2 _ _ R1
        have a2 := s2 _ _ a1
        have nR : ∀ b ∈ D', b ≠ R := fun b hb e => by subst e; have := f2 _ hb; rw [R1] at this; cases this
        have lk : ys.length = i := by
          have := congrArg List.length r1.keys
          rw [List.length_map, List.length_map, List.length_take] at this
          have l2 := congrArg List.length rx.keys
          rw [List.length_map, List.length_map] at l2
          omega
        have hno : valV ys key = none := by
          cases e : valV ys key with
          | none => rfl
          | some v =>
            exfalso
            have hin := valV_in e
            rw [r1.keys, List.map_take, ← rx.keys] at hin
            obtain ⟨j, hj, ej⟩ := List.getElem_of_mem hin
            rw [List.length_take] at hj
            rw [List.getElem_take] at ej
            have b1 : (kvs.map (·.1))[j]? = some key := by rw [List.getElem?_eq_getElem (by omega), ej]
            have b2 : (kvs.map (·.1))[i]? = some key := by rw [List.getElem?_map, ek]; rfl
            have := nd_ix nd b1 b2
            omega
        refine ⟨_, rfl, _, rfl, R, _, rfl, DPut.k (k := key) R2 (by rw [lk]; exact small1000 (by omega)), ?_⟩
        rw [putK_new _ hno]
        have ku : KeepT H2 (upd H2 R (.dK (ys ++ [(key, x')]))) := KeepT.upd (fun zs z => by rw [R2] at z; cases z)
        refine ⟨_, ys ++ [(key, x')], E ++ D', rfl, by rw [upd_ne aR]; exact a2, upd_same, ?_, ?_, ?_, List.nodup_append.mpr ⟨nd1, nd2, fun x hx y hy e => r1.there x hx (f2 x (e ▸ hy))⟩⟩
        · rw [List.take_add_one, e1]
          exact GpK.snoc ((r1.mono s2).frame ku fun b hb o ho => by rw [upd_ne (f1 b hb).2]; exact ho) (p2.frame ku fun b hb o ho => by rw [upd_ne (nR b hb)]; exact ho)
        · intro b o h nb
          rw [upd_ne (ne_of_none h hR)]
          exact s2 _ _ (s1 b o h nb)
        · intro b hb
          rcases List.mem_append.mp hb with hb | hb
          · exact f1 b hb
          · refine ⟨?_, nR b hb⟩
            cases e : H b with
            | none => rfl
            | some o =>
              by_cases eb : b = a
              · subst eb; have := f2 _ hb; rw [a1] at this; cases this
              · have := s1 b o e eb
                rw [f2 _ hb] at this
                cases this
      · rintro σ H1 ⟨v2, ys, E, rfl, a1, R1, r1, s1, f1, nd1⟩
        have l2 : kvs.length = kgs.length := by have := congrArg List.length rx.keys; simpa using this
        rw [List.take_of_length_le (by omega)] at r1
        have kk : ys.map (·.1) = kvs.map (·.1) := by rw [r1.keys, rx.keys]
        have ly : ys.length = kvs.length := by have := congrArg List.length kk; simpa using this
        refine ⟨a1, ?_⟩
        have ku : KeepT H1 (upd H1 a (.dK kvs)) := KeepT.upd (fun zs z => by rw [a1] at z; cases z)
        have na : ∀ b ∈ E, b ≠ a := fun b hb e => by subst e; have := (f1 _ hb).1; rw [hxa] at this; cases this
        refine ⟨_, rfl, q (.ref R) (R :: E) _ (.d (by rw [upd_ne aR.symm]; exact R1) (by omega) (by rw [kk]; exact nd) (r1.frame ku fun b hb o ho => by rw [upd_ne (na b hb)]; exact ho) (fun h => (f1 R h).2 rfl)) ?_ ?_ ?_⟩
        · intro b o h
          by_cases e : b = a
          · subst e; rw [hxa] at h; cases h; exact upd_same
          · rw [upd_ne e]; exact s1 b o h e
        · intro b hb
          rcases List.mem_cons.mp hb with rfl | hb
          · exact hR
          · exact (f1 b hb).1
        · exact List.nodup_cons.mpr ⟨fun h => (f1 R h).2 rfl, nd1⟩)
theorem ok_law_copy {f : Addr} {fd : FuncData} (k : Kn K mg "_law_copy" s_law_copy ["thing"] f fd) (z : Z mg) : ∀ n : Nat, Cal P w K mg base n "_law_copy" ["thing"] (spCopyG n) f fd
  | 0 => k.cal no_copy
  | n + 1 => ok_copy k z (ok_law_copy k z n)
theorem ok_law_some_key {f : Addr} {fd : FuncData} (k : Kn K mg "_law_some_key" s_law_some_key ["tape", "rows", "columns"] f fd) (z : Z mg)
    {g_law_take : Addr} {gd_law_take : FuncData} (c_law_take : Cal P w K mg base 1 "_law_take" ["tape", "many"] (spTake) g_law_take gd_law_take)
    {g_law_value : Addr} {gd_law_value : FuncData} (c_law_value : Cal P w K mg base 4 "_law_value" ["tape", "kind", "nullable"] (spVal) g_law_value gd_law_value) :
    Cal P w K mg base 5 "_law_some_key" ["tape", "rows", "columns"] (spSomeKey) f fd := k.cal (by
  refine k.F.ok sc_law_some_key (fun vs H Q E h => ?_) (fun cdv A outer s H vs Q E hr h => ?_)
  · obtain ⟨t, c, d, L, cs, rs, cols, rfl, _⟩ := h; rfl
  · obtain ⟨t, c, d, L, cs, rs, cols, rfl, T, hT, l200, hL, hco, l1, dt, hk, q⟩ := h
    have hu := hu_of hr
    refine ⟨_, (pss_cons (ps_set (i := 3) sc_law_some_key.nd rfl (Or.inl rfl) (pe_callB (call_sortedK rfl) (by rfl) z.sorted (by decide +kernel) (pa_cons (pv 1) pa_nil)))
        (pss_cons (ps_if (PW.pt (pw_and (pt_cmpR (op_neD hr.units) (pv 3) (pe_lst pa_nil) (nomark _)) (pw_and1 (pt_cmpR op_gt (pe_call c_law_take.G (hr.mono (by decide)) (by rfl) c_law_take.m c_law_take.kp c_law_take.b .nil pass0 (pa_cons (pv 0) (pa_cons pe_int pa_nil))) pe_int (nomark _))))) (pss_one (ps_ret (pe_ix ix_list (pv 3) (pe_call c_law_take.G (hr.mono (by decide)) (by rfl) c_law_take.m c_law_take.kp c_law_take.b .nil pass0 (pa_cons (pv 0) (pa_cons (pe_callB call_len_seq (by rfl) z.len (by decide +kernel) (pa_cons (pv 3) pa_nil)) pa_nil))) (fun _ _ => rfl)))) pss_nil)
        (pss_one (ps_ret (pe_call c_law_value.G (hr.mono (by decide)) (by rfl) c_law_value.m c_law_value.kp c_law_value.b .nil pass0 (pa_cons (pv 0) (pa_cons (pe_ix ix_tup (pe_ix ix_list (pv 2) pe_int (fun _ _ => rfl)) pe_int (fun _ _ => rfl)) (pa_cons pe_bl pa_nil)))))))), ?_⟩
    have hkn : ∀ k ∈ roN rs, keyB cols (kV k) = true := fun k hm => by
      obtain ⟨r, hr, rfl⟩ := ro_mem hm
      exact hk r hr
    obtain ⟨c0, hc0⟩ : ∃ c, cols[0]? = some c := ⟨cols[0]'(by omega), List.getElem?_eq_getElem _⟩
    refine ⟨_, rfl, d, roK rs, rfl, .inl hT.dk, by rw [roK_keys]; exact one_keys l1 hkn, fun ys P hper hsrt hP => ?_⟩
    rw [roK_keys] at hper
    have s1 := same_new hP (.lst (ys.map kV))
    have hP1 : (upd H P (.lst (ys.map kV))) P = some (.lst (ys.map kV)) := upd_same
    have T1 := T.mono s1
    have L1 : ColsAt (upd H P (.lst (ys.map kV))) L cols := hL.mono (KeepT.of s1) (fun o => s1 _ _)
    generalize upd H P (.lst (ys.map kV)) = H1 at s1 hP1 T1 L1 ⊢
    have hy : ∀ k ∈ ys, keyB cols (kV k) = true := fun k hm => hkn k (hper.mem_iff.mp hm)
    have ly : ys.length ≤ 200 := by have := hper.length_eq; unfold roN at this; rw [List.length_map] at this; omega
    have Pt : ∀ {H'}, H' P = some (.lst (ys.map kV)) → TapeAt H' t c cs → P ≠ t := fun {H'} e T' z => by
      obtain ⟨_, _, _, _, e', _⟩ := T'.dk
      rw [← z, e] at e'; cases e'
    have last : ∀ H', SameX t H H' → TapeAt H' t c cs → ColsAt H' L cols → L2.tRet (tCall spVal [] E0 (tCons (tVar 0) (tCons (tOp (rIxT K) (tOp (rIxL K) (tVar 2) (tC (.int 0))) (tC (.int 1))) (tCons (tC (.bl false)) tNil)))) { nx := fun x H' => Q .non H', rt := Q } [some (.ref t), some (.ref d), some (.ref L), some (.ref P)] H' := fun H' x T' L' => by
      obtain ⟨as, ca, k1, k2, k3⟩ := L'.get hc0
      refine ⟨_, rfl, _, rfl, L, _, _, .ref ca, rfl, rfl, SqL.of k1, at_ofN (j := 0) rfl k2, ca, _, _, .str c0.k, rfl, rfl, SqT.of k3, at_ofN (j := 1) rfl rfl, t, c, cs, c0.k, false, rfl, T', fun v H2 hv T2 x2 => ?_⟩
      exact q v H2 (by rw [keyB_at hc0]; exact hv.fitB (hco.kd c0 (List.mem_of_getElem? hc0)) (fun z => nomatch z)) hv.e T2 (x.trans x2)
    refine ⟨_, rfl, Nat.zero_le _, fun Z hZ => ?_⟩
    have s2 := same_new hZ (.lst [])
    refine ⟨_, _, .lst (SqL.of (s2 _ _ hP1)) (keys_dp ys), .lst (SqL.of upd_same) .nil, keys_shaped (fun k hm => keyB_e hc0 (hy k hm)), keys_shaped (ks := []) (fun k hm => by cases hm), _, rfl, ?_⟩
    rw [keys_nil]
    have hP2 := s2 _ _ hP1
    have T2 := T1.mono s2
    have Lc := L1.mono (KeepT.of s2) (fun o => s2 _ _)
    have s12 := s1.trans s2
    generalize upd H1 Z (.lst []) = H2 at s12 hP2 T2 Lc ⊢
    cases ys with
    | nil => exact iteF (last H2 (SameX.of s12) T2 Lc)
    | cons y0 yr =>
    refine iteT ?_
    refine ⟨_, rfl, t, c, cs, 4, rfl, T2, by decide, by decide +kernel, fun d1 H3 d10 d11 T3 x3 => ?_⟩
    have PP := Pt hP2 T2
    have hP3 := x3 _ _ hP2 PP
    have Lt3 : ∀ o, H2 L = some o → H3 L = some o := fun o e => x3 _ _ e (fun z => by
      obtain ⟨as, k1, _⟩ := Lc
      obtain ⟨_, _, _, _, e', _⟩ := T2.dk
      rw [← z, k1] at e'; cases e')
    have Lc3 := Lc.mono (KeepT.ofX T2 x3) Lt3
    refine ⟨_, _, rfl, rfl, _, rfl, ?_⟩
    refine ifD (fun _ => ?_) (fun _ => last H3 ((SameX.of s12).trans x3) T3 Lc3)
    refine ⟨_, rfl, _, rfl, _, rfl, P, _, rfl, .inl (SqL.of hP3), t, c, cs, _, rfl, T3, ?_, ?_, fun d2 H4 d20 d21 T4 x4 => ?_⟩
    · rw [List.length_map, List.length_cons]; omega
    · rw [List.length_map]
      exact Nat.lt_of_le_of_lt (m := 200) (by omega) (by decide +kernel)
    obtain ⟨v, hv1, hv2⟩ := at_in (xs := (y0 :: yr).map kV) d20 d21
    obtain ⟨k0, hk0, rfl⟩ := List.mem_map.mp hv2
    refine ⟨P, _, _, kV k0, rfl, rfl, SqL.of (x4 _ _ hP3 PP), hv1, q _ H4 (hy k0 hk0) (keyB_e hc0 (hy k0 hk0)) T4 ((SameX.of s12).trans (x3.trans x4))⟩)
theorem ok_law_edit {f : Addr} {fd : FuncData} (k : Kn K mg "_law_edit" s_law_edit ["tape", "schema", "state"] f fd) (z : Z mg)
    {g_law_take : Addr} {gd_law_take : FuncData} (c_law_take : Cal P w K mg base 1 "_law_take" ["tape", "many"] (spTake) g_law_take gd_law_take)
    {g_law_some_key : Addr} {gd_law_some_key : FuncData} (c_law_some_key : Cal P w K mg base 5 "_law_some_key" ["tape", "rows", "columns"] (spSomeKey) g_law_some_key gd_law_some_key)
    {g_law_value : Addr} {gd_law_value : FuncData} (c_law_value : Cal P w K mg base 4 "_law_value" ["tape", "kind", "nullable"] (spVal) g_law_value gd_law_value)
    {g_law_rest : Addr} {gd_law_rest : FuncData} (c_law_rest : Cal P w K mg base 5 "_law_rest" ["tape", "columns"] (spRest) g_law_rest gd_law_rest) :
    Cal P w K mg base 6 "_law_edit" ["tape", "schema", "state"] (spLawEdit) f fd := k.cal (by
  refine k.F.ok sc_law_edit (fun vs H Q E h => ?_) (fun cdv A outer s H vs Q E hr h => ?_)
  · obtain ⟨t, c, S, T, cs, s, st, b, rfl, _⟩ := h; rfl
  · obtain ⟨t, c, S, T, cs, s, st, b, rfl, Tp0, A, tv, l1, l6, hT, W, hb, MK, Tt, dt, q⟩ := h
    have hu := hu_of hr
    refine ⟨_, (pss_cons (ps_set (i := 3) sc_law_edit.nd rfl (Or.inl rfl) (pe_ix ix_list (pe_callB (call_sortedK rfl) (by rfl) z.sorted (by decide +kernel) (pa_cons (pv 1) pa_nil)) (pe_call c_law_take.G (hr.mono (by decide)) (by rfl) c_law_take.m c_law_take.kp c_law_take.b .nil pass0 (pa_cons (pv 0) (pa_cons (pe_callB call_lenD (by rfl) z.len (by decide +kernel) (pa_cons (pv 1) pa_nil)) pa_nil))) (fun _ _ => rfl)))
        (pss_cons (ps_set (i := 4) sc_law_edit.nd rfl (Or.inl rfl) (pe_dget hu (pe_dget hu (pv 1) (pv 3) (fun _ _ => rfl)) pe_str (fun _ _ => rfl)))
        (pss_cons (ps_set (i := 5) sc_law_edit.nd rfl (Or.inl rfl) (pe_ix ix_list (pe_lst (pa_cons pe_str (pa_cons pe_str (pa_cons pe_str (pa_cons pe_str (pa_cons pe_str pa_nil)))))) (pe_call c_law_take.G (hr.mono (by decide)) (by rfl) c_law_take.m c_law_take.kp c_law_take.b .nil pass0 (pa_cons (pv 0) (pa_cons pe_int pa_nil))) (fun _ _ => rfl)))
        (pss_cons (ps_set (i := 6) sc_law_edit.nd rfl (Or.inl rfl) (pe_call c_law_some_key.G (hr.mono (by decide)) (by rfl) c_law_some_key.m c_law_some_key.kp c_law_some_key.b .nil pass0 (pa_cons (pv 0) (pa_cons (pe_dget hu (pv 2) (pv 3) (fun _ _ => rfl)) (pa_cons (pv 4) pa_nil)))))
        (pss_cut (ps_if (PW.pt (pw_and (pt_cmpR op_eq (pv 5) pe_str (nomark _)) (pw_and1 (pt_cmpR op_gt (pe_call c_law_take.G (hr.mono (by decide)) (by rfl) c_law_take.m c_law_take.kp c_law_take.b .nil pass0 (pa_cons (pv 0) (pa_cons pe_int pa_nil))) pe_int (nomark _))))) (pss_one (ps_set (i := 6) sc_law_edit.nd rfl (Or.inl rfl) (pe_call c_law_value.G (hr.mono (by decide)) (by rfl) c_law_value.m c_law_value.kp c_law_value.b .nil pass0 (pa_cons (pv 0) (pa_cons (pe_ix ix_tup (pe_ix ix_list (pv 4) pe_int (fun _ _ => rfl)) pe_int (fun _ _ => rfl)) (pa_cons pe_bl pa_nil)))))) pss_nil)
        (pss_cons (ps_if (PW.pt (pw_and (pt_cmpR op_eq (pv 5) pe_str (nomark _)) (pw_and1 (pt_cmpR op_gt (pe_callB call_len_seq (by rfl) z.len (by decide +kernel) (pa_cons (pv 4) pa_nil)) pe_int (nomark _))))) (pss_cons (ps_set (i := 7) sc_law_edit.nd rfl (Or.inl rfl) (pe_ix ix_list (pv 4) (pe_op op_add pe_int (pe_call c_law_take.G (hr.mono (by decide)) (by rfl) c_law_take.m c_law_take.kp c_law_take.b .nil pass0 (pa_cons (pv 0) (pa_cons (pe_op op_sub (pe_callB call_len_seq (by rfl) z.len (by decide +kernel) (pa_cons (pv 4) pa_nil)) pe_int) pa_nil)))) (fun _ _ => rfl)))
        (pss_one (ps_ret (pe_tup (pa_cons pe_str (pa_cons (pv 3) (pa_cons (pv 6) (pa_cons (pe_ix ix_tup (pv 7) pe_int (fun _ _ => rfl)) (pa_cons (pe_call c_law_value.G (hr.mono (by decide)) (by rfl) c_law_value.m c_law_value.kp c_law_value.b .nil pass0 (pa_cons (pv 0) (pa_cons (pe_ix ix_tup (pv 7) pe_int (fun _ _ => rfl)) (pa_cons (pe_ix ix_tup (pv 7) pe_int (fun _ _ => rfl)) pa_nil)))) pa_nil))))))))) pss_nil)
        (pss_cons (ps_if (PW.pt (pw_or (pt_cmpR op_eq (pv 5) pe_str (nomark _)) (pw_or1 (pt_cmpR op_eq (pv 5) pe_str (nomark _))))) (pss_one (ps_ret (pe_tup (pa_cons pe_str (pa_cons (pv 3) (pa_cons (pv 6) pa_nil)))))) pss_nil)
        (pss_one (ps_ret (pe_tup (pa_cons (pv 5) (pa_cons (pv 3) (pa_cons (pe_op op_catA (pe_tup (pa_cons (pv 6) pa_nil)) (pe_call c_law_rest.G (hr.mono (by decide)) (by rfl) c_law_rest.m c_law_rest.kp c_law_rest.b .nil pass0 (pa_cons (pv 0) (pa_cons (pv 4) pa_nil)))) pa_nil))))))))))))), ?_⟩
    have lks : (schK s).length = s.length := by unfold schK; rw [List.length_map]
    refine ⟨_, rfl, S, schK s, rfl, .inl A.sk, .inr ⟨schN s, sch_keys s⟩, fun ys P hper hsrt hP => ?_⟩
    rw [sch_keys] at hper
    have s1 := same_new hP (.lst (ys.map kV))
    have hP1 : (upd H P (.lst (ys.map kV))) P = some (.lst (ys.map kV)) := upd_same
    have T1 := Tp0.mono s1
    generalize upd H P (.lst (ys.map kV)) = H1 at s1 hP1 T1 ⊢
    have ly : ys.length = s.length := by have := hper.length_eq; unfold schN at this; rw [List.length_map, List.length_map] at this; exact this
    refine ⟨_, rfl, _, rfl, S, schK s, rfl, s1 _ _ A.sk, t, c, cs, _, rfl, T1, ?_, ?_, fun d1 H2 d10 d11 T2 x2 => ?_⟩
    · rw [lks]; omega
    · rw [lks]; exact Nat.lt_of_le_of_lt (m := 6) (by omega) (by decide +kernel)
    have Pt : P ≠ t := fun z => by
      obtain ⟨_, _, _, _, e, _⟩ := T1.dk
      rw [← z, hP1] at e; cases e
    obtain ⟨vn, hv1, hv2⟩ := at_in (xs := ys.map kV) d10 (by rw [List.length_map, ly, ← lks]; exact d11)
    obtain ⟨kn, hkn, rfl⟩ := List.mem_map.mp hv2
    obtain ⟨nm, hnm, rfl⟩ := List.mem_map.mp (hper.mem_iff.mp hkn)
    obtain ⟨p, hp, rfl⟩ := List.mem_map.mp hnm
    refine ⟨P, _, _, .str p.2.n, rfl, rfl, SqL.of (x2 _ _ hP1 Pt), hv1, ?_⟩
    have X2 := (SameX.of s1).trans x2
    have A2 := A.monoX Tp0 X2
    have tvp := tv p hp
    refine ⟨_, rfl, _, rfl, S, _, rfl, sch_getK A2.sk A2.nm hp, p.1.d, _, rfl, (A2.ds p hp).gc, ?_⟩
    refine ⟨(by show 5 ≤ sizeLine; decide), fun L hL => ?_⟩
    have s3 := same_new hL (.lst [V.str "insert", V.str "insert", V.str "replace", V.str "set", V.str "delete"])
    refine ⟨_, rfl, t, c, cs, 5, rfl, T2.mono s3, by decide, by decide +kernel, fun d2 H4 d20 d21 T4 x4 => ?_⟩
    have Ltt : L ≠ t := fun z => by
      obtain ⟨_, _, _, _, e, _⟩ := T2.dk
      rw [← z, hL] at e; cases e
    obtain ⟨kv, hw1, hw2⟩ := at_in (xs := [V.str "insert", V.str "insert", V.str "replace", V.str "set", V.str "delete"]) d20 (by exact d21)
    refine ⟨L, _, _, kv, rfl, rfl, SqL.of (x4 _ _ upd_same Ltt), hw1, ?_⟩
    have X4 := X2.trans ((SameX.of s3).trans x4)
    have A4 := A.monoX Tp0 X4
    obtain ⟨pt, hpt, ept⟩ := st_in (st := st) (n := p.2.n) (W.names rfl (t := p.2) (List.mem_map.mpr ⟨p, hp, rfl⟩))
    have gT : DGet H4 T (.str p.2.n) (some (.ref pt.d)) := by
      have g := DGet.k (k := (Sum.inr p.2.n : Key)) (X4 _ _ hT.sk Tt)
      rw [← ept, st_get hT.nm hpt] at g
      rw [← ept]; exact g
    have Td4 : TAt H4 pt.d pt.rs := (hT.ds pt hpt).mono (KeepT.ofX Tp0 X4) (fun o e => X4 _ _ e (dt pt hpt))
    have pm : (pt.n, rM pt.rs) ∈ stM st := List.mem_map.mpr ⟨pt, hpt, rfl⟩
    have lr : pt.rs.length ≤ 180 := by have := W.ln _ pm; unfold rM at this; rw [List.length_map] at this; omega
    obtain ⟨c0, hc0⟩ : ∃ c, p.2.cols[0]? = some c := ⟨p.2.cols[0]'(by have := tvp.l0; omega), List.getElem?_eq_getElem _⟩
    refine ⟨_, rfl, _, rfl, _, rfl, T, _, rfl, gT, _, rfl, t, c, pt.d, p.1.c, cs, pt.rs, p.2.cols, rfl, T4, Td4, by omega, (A4.ds p hp).co, tvp.co, tvp.l0, dt pt hpt, (fun r hr => MK _ pm p.2 (List.mem_map.mpr ⟨p, hp, rfl⟩) ept.symm (r.k, r.vs) (List.mem_map.mpr ⟨r, hr, rfl⟩)), fun key H5 hkey hke T5 x5 => ?_⟩
    have X5 := X4.trans x5
    refine ⟨fun σ H' => ∃ key, σ = [some (.ref t), some (.ref S), some (.ref T), some (.str p.2.n), some (.ref p.1.c), some kv, some key, none] ∧ keyB p.2.cols key = true ∧ valE key ∧ TapeAt H' t c cs ∧ SameX t H H', ?_, ?_⟩
    · have sc : scal kv (.str "insert") = true := by
        simp only [List.mem_cons, List.not_mem_nil, or_false] at hw2
        rcases hw2 with rfl | rfl | rfl | rfl | rfl <;> rfl
      refine ⟨_, rfl, sc, _, rfl, ?_⟩
      refine ifD (fun _ => ?_) (fun _ => ⟨key, rfl, hkey, hke, T5, X5⟩)
      refine ⟨_, rfl, t, c, cs, 4, rfl, T5, by decide, by decide +kernel, fun d3 H6 d30 d31 T6 x6 => ⟨_, _, rfl, rfl, _, rfl, ?_⟩⟩
      have X6 := X5.trans x6
      refine ifD (fun _ => ?_) (fun _ => ⟨key, rfl, hkey, hke, T6, X6⟩)
      obtain ⟨as, ca, k1, k2, k3⟩ := ((A.monoX Tp0 X6).ds p hp).co.get hc0
      refine ⟨_, rfl, _, rfl, p.1.c, _, _, .ref ca, rfl, rfl, SqL.of k1, at_ofN (j := 0) rfl k2, ca, _, _, .str c0.k, rfl, rfl, SqT.of k3, at_ofN (j := 1) rfl rfl, t, c, cs, c0.k, false, rfl, T6, fun v H7 hv T7 x7 => ?_⟩
      exact ⟨v, rfl, by rw [keyB_at hc0]; exact hv.fitB (tvp.co.kd c0 (List.mem_of_getElem? hc0)) (fun z => nomatch z), hv.e, T7, X6.trans x7⟩
    rintro σ H6 ⟨key, rfl, hkey, hke, T6, X6⟩
    have A6 := A.monoX Tp0 X6
    have fit : ∀ e, edT e = p.2.n → rowBad p.2.cols e = false → edK e = key → EdFit s e := fun e e1 e2 e3 => ⟨p, hp, e1.symm, e2, by rw [e3]; exact hkey⟩
    have sok : PyData.strOk p.2.n = true := tvp.nm.str
    have sc2 : scal kv (.str "set") = true ∧ scal kv (.str "delete") = true := by
      simp only [List.mem_cons, List.not_mem_nil, or_false] at hw2
      rcases hw2 with rfl | rfl | rfl | rfl | rfl <;> exact ⟨rfl, rfl⟩
    obtain ⟨as, ca0, k1, k2, k3⟩ := (A6.ds p hp).co.get hc0
    obtain ⟨as', k1', k4⟩ := (A6.ds p hp).co
    rw [k1] at k1'
    cases k1'
    have las : as.length = p.2.cols.length := by have := k4.length; rw [List.length_map] at this; exact this
    have del : ∀ {D' : Ends}, D'.rt = Q → kv = .str "set" ∨ kv = .str "delete" → L2.tRet (tTup (tCons (tC (.str "delete")) (tCons (tVar 3) (tCons (tVar 6) tNil)))) D' [some (.ref t), some (.ref S), some (.ref T), some (.str p.2.n), some (.ref p.1.c), some kv, some key, none] H6 := fun {D'} hD _ => by
      refine ⟨_, rfl, _, rfl, (by show 3 ≤ sizeLine; decide), fun r hr2 => ?_⟩
      rw [hD]
      have sr := same_new hr2 (.tup [.str "delete", .str p.2.n, key])
      exact q (.ref r) (.del p.2.n key) _ (.t upd_same (.cons (.s rfl) (.cons (.s rfl) (.cons (.s hke.scal) .nil)))) ⟨sok, hke⟩ (fit _ rfl rfl rfl) (T6.mono sr) (X6.trans (SameX.of sr))
    refine ⟨_, rfl, sc2.1, _, rfl, ?_⟩
    refine ifD (fun hset => ?_) (fun hset => ?_)
    · refine ⟨_, rfl, p.1.c, as, rfl, .inl (SqL.of k1), _, _, rfl, rfl, _, rfl, ?_⟩
      refine ifD (fun hmore => ?_) (fun hmore => ?_)
      · refine ⟨_, rfl, _, rfl, _, rfl, p.1.c, as, rfl, .inl (SqL.of k1), _, _, rfl, rfl, t, c, cs, _, rfl, T6, ?_, ?_, fun d4 H7 d40 d41 T7 x7 => ?_⟩
        · omega
        · have := tvp.l8; exact Nat.lt_of_le_of_lt (m := 8) (by omega) (by decide +kernel)
        have X7 := X6.trans x7
        have hi : (1 + d4.toNat) < p.2.cols.length := by omega
        have ecl : p.2.cols[1 + d4.toNat]? = some (p.2.cols[1 + d4.toNat]'hi) := List.getElem?_eq_getElem hi
        have ecd : (p.2.cols.drop 1)[d4.toNat]? = some (p.2.cols[1 + d4.toNat]'hi) := by rw [List.getElem?_drop]; exact ecl
        generalize p.2.cols[1 + d4.toNat]'hi = col at ecl ecd
        obtain ⟨as2, ca, m1, m2, m3⟩ := ((A.monoX Tp0 X7).ds p hp).co.get ecl
        refine ⟨_, _, rfl, rfl, p.1.c, _, _, .ref ca, rfl, rfl, SqL.of m1, at_ofN (j := 1 + d4.toNat) (by omega) m2, ?_⟩
        refine ⟨_, rfl, _, rfl, _, rfl, ca, _, _, .str col.n, rfl, rfl, SqT.of m3, at_ofN (j := 0) rfl rfl, _, rfl, _, rfl, ca, _, _, .str col.k, rfl, rfl, SqT.of m3, at_ofN (j := 1) rfl rfl, _, rfl, ca, _, _, .bl col.b, rfl, rfl, SqT.of m3, at_ofN (j := 2) rfl rfl, t, c, cs, col.k, col.b, rfl, T7, fun v H8 hv T8 x8 => ?_⟩
        refine ⟨(by show 5 ≤ sizeLine; decide), fun r hr2 => ?_⟩
        have sr := same_new hr2 (.tup [.str "set", .str p.2.n, key, .str col.n, v])
        have hcm : col ∈ p.2.cols := List.mem_of_getElem? ecl
        have nmo := (tvp.co.fr col.n (List.mem_map.mpr ⟨col, hcm, rfl⟩)).2
        refine q (.ref r) (.set p.2.n key (.str col.n) v) _ (.t upd_same (.cons (.s rfl) (.cons (.s rfl) (.cons (.s hke.scal) (.cons (.s rfl) (.cons (.s hv.e.scal) .nil)))))) ⟨sok, hke, ?_, hv.e⟩ (fit _ rfl ?_ rfl) (T8.mono sr) (X7.trans (x8.trans (SameX.of sr)))
        · exact ⟨by have := nmo.1; omega, fun c hc => (nmo.2.2 c hc).ok⟩
        · show (!setB p.2.cols (.str col.n) v) = false
          rw [setB_col tvp.co.nd (List.mem_of_getElem? ecd) (hv.fitB (tvp.co.kd col hcm) (fun z => z))]; rfl
      · refine ⟨_, rfl, sc2.2, _, rfl, ifD (fun z => del rfl (.inr z)) (fun _ => ?_)⟩
        exact ⟨_, rfl, sc2.1, _, rfl, ifD (fun z => del rfl (.inl z)) (fun z => absurd hset z)⟩
    refine ⟨_, rfl, sc2.2, _, rfl, ifD (fun z => del rfl (.inr z)) (fun hdel => ?_)⟩
    refine ⟨_, rfl, sc2.1, _, rfl, ifD (fun z => absurd z hset) (fun _ => ?_)⟩
    obtain ⟨ins, rfl⟩ : ∃ ins : Bool, kv = .str (if ins = true then ("insert" : Str) else ("replace" : Str)) := by
      simp only [List.mem_cons, List.not_mem_nil, or_false] at hw2
      rcases hw2 with rfl | rfl | rfl | rfl | rfl
      · exact ⟨true, rfl⟩
      · exact ⟨true, rfl⟩
      · exact ⟨false, rfl⟩
      · exact absurd rfl hset
      · exact absurd rfl hdel
    refine ⟨_, rfl, _, rfl, _, rfl, (by show 1 ≤ sizeLine; decide), fun x1 hx1 => ?_⟩
    have sx := same_new hx1 (.tup [key])
    have x1t : x1 ≠ t := fun z => by
      obtain ⟨_, _, _, _, e, _⟩ := T6.dk
      rw [← z, hx1] at e; cases e
    refine ⟨_, rfl, _, rfl, t, c, p.1.c, cs, p.2.cols, rfl, T6.mono sx, ((A6.ds p hp).mono sx).co, (by have := tvp.l0; omega), (by have := tvp.l8; omega), fun pr ws H8 np h8 hro T8 x8 => ?_⟩
    have lw := hro.1
    refine cat_any (x8 _ _ upd_same x1t) h8 (by rw [List.length_cons, List.length_nil]; have := tvp.l8; omega) (fun x2 H9 h9 s9 => ?_)
    refine ⟨(by show 3 ≤ sizeLine; decide), fun r hr2 => ?_⟩
    have hrow := rowB_mk tvp.co.kd hc0 hkey hro
    have hwe := rest_e hro
    have X9 := X6.trans ((SameX.of sx).trans (x8.trans (SameX.of s9)))
    cases ins with
    | true =>
      have sr := same_new hr2 (.tup [.str "insert", .str p.2.n, .ref x2])
      exact q (.ref r) (.row true p.2.n (key :: ws)) _ (.t upd_same (.cons (.s rfl) (.cons (.s rfl) (.cons (.t (sr _ _ h9) (TpL.scal (fun v hv => by rcases List.mem_cons.mp hv with rfl | hv; exact hke.scal; exact (hwe v hv).scal))) .nil)))) ⟨sok, by rw [List.length_cons]; have := tvp.l8; omega, fun v hv => by rcases List.mem_cons.mp hv with rfl | hv; exact hke; exact hwe v hv⟩ (fit _ rfl (by show (!rowB p.2.cols (key :: ws)) = false; rw [hrow]; rfl) rfl) ((T8.mono s9).mono sr) (X9.trans (SameX.of sr))
    | false =>
      have sr := same_new hr2 (.tup [.str "replace", .str p.2.n, .ref x2])
      exact q (.ref r) (.row false p.2.n (key :: ws)) _ (.t upd_same (.cons (.s rfl) (.cons (.s rfl) (.cons (.t (sr _ _ h9) (TpL.scal (fun v hv => by rcases List.mem_cons.mp hv with rfl | hv; exact hke.scal; exact (hwe v hv).scal))) .nil)))) ⟨sok, by rw [List.length_cons]; have := tvp.l8; omega, fun v hv => by rcases List.mem_cons.mp hv with rfl | hv; exact hke; exact hwe v hv⟩ (fit _ rfl (by show (!rowB p.2.cols (key :: ws)) = false; rw [hrow]; rfl) rfl) ((T8.mono s9).mono sr) (X9.trans (SameX.of sr)))
theorem ok_law_key_of {f : Addr} {fd : FuncData} (k : Kn K mg "_law_key_of" s_law_key_of ["edit"] f fd) (z : Z mg) :
    Cal P w K mg base 1 "_law_key_of" ["edit"] (spKeyOfE) f fd := k.cal (by
  refine k.F.ok sc_law_key_of (fun vs H Q E h => ?_) (fun cdv A outer s H vs Q E hr h => ?_)
  · obtain ⟨v, e, rfl, _⟩ := h; rfl
  · obtain ⟨v, e, rfl, he, hf, q⟩ := h
    refine ⟨_, (pss_cons (ps_if (PW.pt (pw_or (pt_cmpR op_eq (pe_ix ix_tup (pv 0) pe_int (fun _ _ => rfl)) pe_str (nomark _)) (pw_or1 (pt_cmpR op_eq (pe_ix ix_tup (pv 0) pe_int (fun _ _ => rfl)) pe_str (nomark _))))) (pss_one (ps_ret (pe_ix ix_tup (pe_ix ix_tup (pv 0) pe_int (fun _ _ => rfl)) pe_int (fun _ _ => rfl)))) pss_nil)
        (pss_one (ps_ret (pe_ix ix_tup (pv 0) pe_int (fun _ _ => rfl))))), ?_⟩
    obtain ⟨a, ys, rfl, h1, hys⟩ := ed_head he
    refine ⟨_, rfl, a, _, _, .str (edA e), rfl, rfl, SqT.of h1, at_ofN (j := 0) rfl rfl, rfl, _, rfl, ?_⟩
    cases e with
    | row b t r =>
      obtain ⟨u, us, rfl, k1, h3⟩ := hys.c1
      obtain ⟨p, zs, rfl, h4, h5⟩ := t_at k1
      have := scal_L h5
      subst this
      cases zs with
      | nil => exact absurd rfl hf
      | cons x r =>
        have fin := q H (Same.refl _)
        cases b with
        | true => exact ifD (fun _ => ⟨_, rfl, a, _, _, .ref p, rfl, rfl, SqT.of h1, at_ofN (j := 2) rfl rfl, p, _, _, x, rfl, rfl, SqT.of h4, at_ofN (j := 0) rfl rfl, fin⟩) (fun z => absurd rfl z)
        | false =>
          refine ifD (fun z => absurd z (by show ¬ V.str "replace" = V.str "insert"; decide +kernel)) (fun _ => ?_)
          refine ⟨_, rfl, a, _, _, .str "replace", rfl, rfl, SqT.of h1, at_ofN (j := 0) rfl rfl, rfl, _, rfl, ifD (fun _ => ?_) (fun z => absurd rfl z)⟩
          exact ⟨_, rfl, a, _, _, .ref p, rfl, rfl, SqT.of h1, at_ofN (j := 2) rfl rfl, p, _, _, x, rfl, rfl, SqT.of h4, at_ofN (j := 0) rfl rfl, fin⟩
    | set t k c w =>
      refine ifD (fun z => absurd z (by show ¬ V.str "set" = V.str "insert"; decide +kernel)) (fun _ => ?_)
      refine ⟨_, rfl, a, _, _, .str "set", rfl, rfl, SqT.of h1, at_ofN (j := 0) rfl rfl, rfl, _, rfl, ifD (fun z => absurd z (by show ¬ V.str "set" = V.str "replace"; decide +kernel)) (fun _ => ?_)⟩
      obtain ⟨u, us, rfl, k1, h3⟩ := hys.c1
      rw [k1.s1] at h1
      exact ⟨_, rfl, a, _, _, k, rfl, rfl, SqT.of h1, at_ofN (j := 2) rfl rfl, q H (Same.refl _)⟩
    | del t k =>
      refine ifD (fun z => absurd z (by show ¬ V.str "delete" = V.str "insert"; decide +kernel)) (fun _ => ?_)
      refine ⟨_, rfl, a, _, _, .str "delete", rfl, rfl, SqT.of h1, at_ofN (j := 0) rfl rfl, rfl, _, rfl, ifD (fun z => absurd z (by show ¬ V.str "delete" = V.str "replace"; decide +kernel)) (fun _ => ?_)⟩
      obtain ⟨u, us, rfl, k1, h3⟩ := hys.c1
      rw [k1.s1] at h1
      exact ⟨_, rfl, a, _, _, k, rfl, rfl, SqT.of h1, at_ofN (j := 2) rfl rfl, q H (Same.refl _)⟩)
theorem ok_law_right {f : Addr} {fd : FuncData} (k : Kn K mg "_law_right" s_law_right ["state", "edit"] f fd) (z : Z mg)
    {g_law_key_of : Addr} {gd_law_key_of : FuncData} (c_law_key_of : Cal P w K mg base 1 "_law_key_of" ["edit"] (spKeyOfE) g_law_key_of gd_law_key_of) :
    Cal P w K mg base 2 "_law_right" ["state", "edit"] (spRightE) f fd := k.cal (by
  refine k.F.ok sc_law_right (fun vs H Q E h => ?_) (fun cdv A outer s H vs Q E hr h => ?_)
  · obtain ⟨T, st, v, e, rfl, _⟩ := h; rfl
  · obtain ⟨T, st, v, e, rfl, hT, hn, he, hf, hk, q⟩ := h
    have hu := hu_of hr
    refine ⟨_, (pss_one (ps_ret (pe_cmpR op_ne (pe_cmp (pc_din hu (pe_call c_law_key_of.G (hr.mono (by decide)) (by rfl) c_law_key_of.m c_law_key_of.kp c_law_key_of.b .nil pass0 (pa_cons (pv 1) pa_nil)) (pe_dget hu (pv 0) (pe_ix ix_tup (pv 1) pe_int (fun _ _ => rfl)) (fun _ _ => rfl))) rfl) (pe_cmpR op_eq (pe_ix ix_tup (pv 1) pe_int (fun _ _ => rfl)) pe_str (nomark _)) (nomark _)))), ?_⟩
    refine ⟨_, rfl, v, e, rfl, he, hf, fun H1 s1 => ?_⟩
    obtain ⟨a, ys, rfl, h1, _⟩ := ed_head (he.mono (KeepT.of s1))
    obtain ⟨pt, hpt, ept⟩ := st_in hn
    have hT1 := hT.mono s1
    have gT : DGet H1 T (.str (edT e)) (some (.ref pt.d)) := by rw [← ept]; exact hT1.get hpt
    have gK : DGet H1 pt.d (edK e) (valV (roK pt.rs) (keyOf (edK e))) := by
      have g := DGet.k (k := keyOf (edK e)) (hT1.ds pt hpt).dk
      rw [← hk] at g
      exact g
    have er : rwsOf (stM st) (edT e) = rM pt.rs := by rw [← ept]; exact rwsOf_in hT.nm hpt
    rw [er] at q
    refine ⟨_, rfl, _, rfl, a, _, _, .str (edT e), rfl, rfl, SqT.of h1, at_ofN (j := 1) rfl rfl, T, _, rfl, gT, pt.d, _, rfl, gK, _, rfl, a, _, _, .str (edA e), rfl, rfl, SqT.of h1, at_ofN (j := 0) rfl rfl, rfl, rfl, ?_⟩
    rw [hasK_ro, isIns_eq]
    have e9 : (!decide (V.bl (hasK (rM pt.rs) (keyOf (edK e))) = V.bl (isIns e))) = decide (hasK (rM pt.rs) (keyOf (edK e)) ≠ isIns e) := by
      rw [Bool.eq_iff_iff]
      simp
    rw [e9]
    exact q H1 s1)
theorem ok_law_do {f : Addr} {fd : FuncData} (k : Kn K mg "_law_do" s_law_do ["schema", "state", "edit"] f fd) (z : Z mg)
    {g_law_key_of : Addr} {gd_law_key_of : FuncData} (c_law_key_of : Cal P w K mg base 1 "_law_key_of" ["edit"] (spKeyOfE) g_law_key_of gd_law_key_of)
    {g_law_names : Addr} {gd_law_names : FuncData} (c_law_names : Cal P w K mg base 1 "_law_names" ["columns"] (spNames) g_law_names gd_law_names) :
    Cal P w K mg base 2 "_law_do" ["schema", "state", "edit"] (spLawDo) f fd := k.cal (by
  refine k.F.ok sc_law_do (fun vs H Q E h => ?_) (fun cdv A outer s H vs Q E hr h => ?_)
  · obtain ⟨S, s, T, st, v, e, b, rfl, _⟩ := h; rfl
  · obtain ⟨S, s, T, st, v, e, b, rfl, hS, hT, nd, he, ok, hc, W, hb, q⟩ := h
    have hu := hu_of hr
    refine ⟨_, (pss_cons (ps_set (i := 3) sc_law_do.nd rfl (Or.inl rfl) (pe_dget hu (pv 1) (pe_ix ix_tup (pv 2) pe_int (fun _ _ => rfl)) (fun _ _ => rfl)))
        (pss_cons (ps_set (i := 4) sc_law_do.nd rfl (Or.inl rfl) (pe_call c_law_key_of.G (hr.mono (by decide)) (by rfl) c_law_key_of.m c_law_key_of.kp c_law_key_of.b .nil pass0 (pa_cons (pv 2) pa_nil)))
        (pss_one (ps_if (pt_cmpR op_eq (pe_ix ix_tup (pv 2) pe_int (fun _ _ => rfl)) pe_str (nomark _)) (pss_one (ps_expr (pe_dpop1 (pv 3) (pv 4) ⟨rfl, rfl, rfl, rfl⟩))) (pss_one (ps_if (pt_cmpR op_eq (pe_ix ix_tup (pv 2) pe_int (fun _ _ => rfl)) pe_str (nomark _)) (pss_cons (ps_set (i := 5) sc_law_do.nd rfl (Or.inl rfl) (pe_bm PySem.F.plainAttrs_list PySem.F.slot_list_index PySem.F.type_list_index mt_index (pe_call c_law_names.G (hr.mono (by decide)) (by rfl) c_law_names.m c_law_names.kp c_law_names.b .nil pass0 (pa_cons (pe_dget hu (pe_dget hu (pv 0) (pe_ix ix_tup (pv 2) pe_int (fun _ _ => rfl)) (fun _ _ => rfl)) pe_str (fun _ _ => rfl)) pa_nil)) (pa_cons (pe_ix ix_tup (pv 2) pe_int (fun _ _ => rfl)) pa_nil)))
        (pss_cons (ps_set (i := 6) sc_law_do.nd rfl (Or.inl rfl) (pe_op op_catA (pe_tup (pa_cons (pv 4) pa_nil)) (pe_dget hu (pv 3) (pv 4) (fun _ _ => rfl))))
        (pss_one (ps_dput hu (pv 3) (pv 4) (pe_slice sl_tupA (pe_op op_catA (pe_op op_catA (pe_slice sl_tupA (pv 6) po_none (po_some (pv 5))) (pe_tup (pa_cons (pe_ix ix_tup (pv 2) pe_int (fun _ _ => rfl)) pa_nil))) (pe_slice sl_tupA (pv 6) (po_some (pe_op op_add (pv 5) pe_int)) po_none)) (po_some pe_int) po_none) rfl)))) (pss_one (ps_dput hu (pv 3) (pv 4) (pe_slice sl_tupA (pe_ix ix_tup (pv 2) pe_int (fun _ _ => rfl)) (po_some pe_int) po_none) rfl)))))))), ?_⟩
    obtain ⟨a, ys, rfl, h1, hys⟩ := ed_head he
    obtain ⟨t, g1, g2, g3, g4⟩ := edC_good hc
    obtain ⟨ht1, htn⟩ := tabOf_mem g1
    obtain ⟨p, hp, hpt⟩ := List.mem_map.mp ht1
    subst hpt
    have tv := hS.ok p hp
    have l40 : p.2.cols.length ≤ 40 := by have := tv.l8; omega
    obtain ⟨pt, hpt, ept⟩ := st_in (st := st) (n := edT e) (by rw [← htn]; exact W.names rfl ht1)
    have er1 : rwsOf (stM st) (edT e) = rM pt.rs := by rw [← ept]; exact rwsOf_in hT.nm hpt
    have good : EdGood p.2.cols pt.rs e := ⟨g2, g3, by rw [← er1]; exact g4⟩
    have full := good.full
    have ekey := keyB_key tv.co g3
    have gT : DGet H T (.str (edT e)) (some (.ref pt.d)) := by rw [← ept]; exact hT.get hpt
    have gS : DGet H S (.str (edT e)) (some (.ref p.1.d)) := by rw [← htn]; exact sch_getK hS.sk hS.nm hp
    have D := hS.ds p hp
    have T0 := hT.ds pt hpt
    have pm : (pt.n, rM pt.rs) ∈ stM st := List.mem_map.mpr ⟨pt, hpt, rfl⟩
    have lr : pt.rs.length ≤ 180 := by have := W.ln _ pm; unfold rM at this; rw [List.length_map] at this; omega
    have wd : ∀ r ∈ pt.rs, r.vs.length + 1 = p.2.cols.length := fun r hr => W.wd _ pm p.2 ht1 (by show p.2.n = pt.n; rw [htn, ept]) (r.k, r.vs) (List.mem_map.mpr ⟨r, hr, rfl⟩)
    have fin : ∀ H2 rs', Same H H2 → (∀ r ∈ rs', H2 r.a = some (.tup r.vs)) → (roN rs').Nodup → rM rs' = rowsAfter p.2.cols (rM pt.rs) e → Q .non (upd H2 pt.d (.dK (roK rs'))) := fun H2 rs' s2 rt kn em => by
      obtain ⟨A2, dm⟩ := (hT.mono s2).own nd hpt rt kn
      refine q _ _ A2 ?_ dm (own_same hpt s2) (own_keep (s2 _ _ T0.dk) s2)
      rw [replT_M, ept]
      exact edM_eq hT.nm rfl hpt ept g1 em
    refine ⟨_, rfl, _, rfl, a, _, _, .str (edT e), rfl, rfl, SqT.of h1, at_ofN (j := 1) rfl rfl, T, _, rfl, gT, ?_⟩
    refine ⟨_, rfl, .ref a, e, rfl, he, full, fun H1 s1 => ?_⟩
    have h11 := s1 _ _ h1
    have T1 := T0.mono (KeepT.of s1) (fun o => s1 _ _)
    refine ⟨_, rfl, a, _, _, .str (edA e), rfl, rfl, SqT.of h11, at_ofN (j := 0) rfl rfl, rfl, _, rfl, ?_⟩
    cases e with
    | del tn k =>
      refine ifD (fun _ => ?_) (fun z => absurd rfl z)
      have hk : hasK (rM pt.rs) (keyOf k) = true := by
        have h7 : hasK (rM pt.rs) (keyOf k) ≠ false := good.kk
        cases h : hasK (rM pt.rs) (keyOf k) with
        | true => rfl
        | false => exact absurd h h7
      obtain ⟨r, hr, ekr⟩ := ro_mem (rs := pt.rs) (k := keyOf k) (by rw [← hasK_ro, valV_isSome, roK_keys] at hk; exact hk)
      refine ⟨_, rfl, pt.d, rfl, .inl ⟨_, .inl T1.dk⟩, _, rfl, roK pt.rs, keyOf k, .ref r.a, T1.dk, ekey, by rw [← ekr]; exact ro_get T1.nd hr, ?_⟩
      rw [roK_drop]
      exact fin H1 (dropRo pt.rs (keyOf k)) s1 (fun x hx => T1.rt x (List.mem_filter.mp hx).1) (dropRo_nd T1.nd _) (rM_drop pt.rs _)
    | set tn k c w =>
      refine ifD (fun z => absurd z (by show ¬ V.str "set" = V.str "delete"; decide +kernel)) (fun _ => ?_)
      refine ⟨_, rfl, a, _, _, .str "set", rfl, rfl, SqT.of h11, at_ofN (j := 0) rfl rfl, rfl, _, rfl, ifD (fun _ => ?_) (fun z => absurd rfl z)⟩
      have hk : hasK (rM pt.rs) (keyOf k) = true := by
        have h7 : hasK (rM pt.rs) (keyOf k) ≠ false := good.kk
        cases h : hasK (rM pt.rs) (keyOf k) with
        | true => rfl
        | false => exact absurd h h7
      obtain ⟨r, hr, ekr⟩ := ro_mem (rs := pt.rs) (k := keyOf k) (by rw [← hasK_ro, valV_isSome, roK_keys] at hk; exact hk)
      have ek' : k = kV (keyOf k) := ekey
      have hset : (setC p.2.cols c).isSome = true := by
        have h6 : (!setB p.2.cols c w) = false := good.rb
        unfold setB at h6
        cases h7 : setC p.2.cols c with
        | none => rw [h7] at h6; cases h6
        | some col => rfl
      obtain ⟨col, hcol⟩ := Option.isSome_iff_exists.mp hset
      obtain ⟨rfl, hm⟩ := setC_some hcol
      have hin : col.n ∈ colNs p.2.cols := List.mem_map.mpr ⟨col, List.mem_of_mem_drop hm, rfl⟩
      obtain ⟨p1, p2⟩ := idx_pos tv.co.nd (List.mem_map.mpr ⟨col, hm, rfl⟩ : col.n ∈ colNs (p.2.cols.drop 1))
      obtain ⟨z, i1, i2, i3, i4⟩ := ix_names hin
      obtain ⟨j, ej⟩ : ∃ j, (colNs p.2.cols).idxOf col.n = j + 1 := ⟨(colNs p.2.cols).idxOf col.n - 1, by omega⟩
      have wr := wd r hr
      obtain ⟨a', e', h5⟩ := set_at he
      cases e'
      have h51 := s1 _ _ h5
      have D1 := D.mono s1
      have gS1 : DGet H1 S (.str tn) (some (.ref p.1.d)) := by have := sch_getK (hS.mono s1).sk hS.nm hp; rw [htn] at this; exact this
      refine ⟨_, rfl, _, rfl, a, _, _, .str tn, rfl, rfl, SqT.of h51, at_ofN (j := 1) rfl rfl, S, _, rfl, gS1, p.1.d, _, rfl, D1.gc, p.1.c, p.2.cols, rfl, D1.co, by omega, fun N H2 hN s2 hN2 => ?_⟩
      refine ⟨.inl ⟨rfl, _, SqL.of hN2⟩, _, rfl, a, _, _, .str col.n, rfl, rfl, SqT.of (s2 _ _ h51), at_ofN (j := 3) rfl rfl, N, _, _, (colNs p.2.cols).idxOf col.n, z, rfl, rfl, SqL.of hN2, rfl, i1, i2, i3, i4, ?_⟩
      have T2 := T1.mono (KeepT.of s2) (fun o => s2 _ _)
      have gR : ∀ {H'}, Same H2 H' → DGet H' pt.d k (some (.ref r.a)) := fun {H'} s' => by
        have g := (T2.mono (KeepT.of s') (fun o => s' _ _)).get hr
        rw [ekr, ← ek'] at g
        exact g
      refine ⟨_, rfl, (by show 1 ≤ sizeLine; decide), fun x1 hx1 => ?_⟩
      have s3 := same_new hx1 (.tup [k])
      refine ⟨_, rfl, _, rfl, pt.d, _, rfl, gR s3, ?_⟩
      refine cat_any upd_same (s3 _ _ (T2.rt r hr)) (by rw [List.length_cons, List.length_nil]; omega) (fun x2 H4 h4 s4 => ?_)
      have s24 := s3.trans s4
      refine ⟨_, rfl, _, rfl, _, rfl, cut_any h4 (fun x3 H5 h5' s5 => ?_)⟩
      have e5 : cutV ([k] ++ r.vs) none (some (((colNs p.2.cols).idxOf col.n : Nat) : Int)) = k :: r.vs.take j := by rw [ej]; exact cut_takeE _ _
      have h5 : H5 x3 = some (.tup (k :: r.vs.take j)) := by rw [h5']; exact congrArg (fun z => some (HO.tup z)) e5
      have s25 := s24.trans s5
      refine ⟨_, rfl, a, _, _, w, rfl, rfl, SqT.of (s25 _ _ (s2 _ _ h51)), at_ofN (j := 4) rfl rfl, (by show 1 ≤ sizeLine; decide), fun x4 hx4 => ?_⟩
      have s6 := same_new hx4 (.tup [w])
      refine cat_any (s6 _ _ h5) upd_same (by rw [List.length_cons, List.length_take, List.length_cons, List.length_nil]; omega) (fun x5 H7 h7 s7 => ?_)
      have s57 := s6.trans s7
      refine ⟨_, rfl, _, rfl, _, _, rfl, rfl, _, rfl, ?_⟩
      dsimp only [tNoPart]
      refine cut_any (s57 _ _ (s5 _ _ h4)) (fun x6 H8 h8' s8 => ?_)
      have e8 : cutV ([k] ++ r.vs) (some ((((colNs p.2.cols).idxOf col.n : Nat) : Int) + 1)) none = r.vs.drop (j + 1) := by
        have e81 : ((((colNs p.2.cols).idxOf col.n : Nat) : Int) + 1) = ((j + 2 : Nat) : Int) := by omega
        rw [e81, cut_back _ _ (by rw [List.length_append, List.length_cons, List.length_nil]; omega)]
        rfl
      have h8 : H8 x6 = some (.tup (r.vs.drop (j + 1))) := by rw [h8']; exact congrArg (fun z => some (HO.tup z)) e8
      refine cat_any (s8 _ _ h7) h8 (by simp only [List.length_append, List.length_cons, List.length_take, List.length_drop, List.length_nil]; omega) (fun x7 H9 h9 s9 => ?_)
      refine ⟨_, rfl, ?_⟩
      dsimp only [tNoPart]
      refine cut_any h9 (fun x8 H10 h10 s10 => ?_)
      rw [cut_tail] at h10
      have e10 : ((k :: r.vs.take j ++ [w]) ++ r.vs.drop (j + 1)).drop 1 = r.vs.set j w := by
        show (r.vs.take j ++ [w]) ++ r.vs.drop (j + 1) = _
        exact set_cut _ _ _ (by omega)
      have h10' : H10 x8 = some (.tup (setAt p.2.cols r.vs (.str col.n) w)) := by
        rw [h10, e10]
        show _ = some (HO.tup (r.vs.set ((colNs p.2.cols).idxOf col.n - 1) w))
        rw [ej]; rfl
      have s210 := s25.trans (s57.trans (s8.trans (s9.trans s10)))
      have T10 := T2.mono (KeepT.of s210) (fun o => s210 _ _)
      refine ⟨_, rfl, _, rfl, pt.d, _, rfl, (by show DPut H10 pt.d k _ _; rw [ek']; exact DPut.k (k := keyOf k) T10.dk (by unfold roK; rw [List.length_map]; exact small1000 (by omega))), ?_⟩
      have ep' : putK (roK pt.rs) (keyOf k) (.ref x8) = roK (putRo pt.rs ⟨keyOf k, x8, setAt p.2.cols r.vs (.str col.n) w⟩) := putRo_K pt.rs ⟨keyOf k, x8, setAt p.2.cols r.vs (.str col.n) w⟩
      rw [ep']
      refine fin H10 _ (s1.trans (s2.trans s210)) (fun x hx => ?_) (putRo_nd T1.nd _) ?_
      · rcases putRo_mem hx with ⟨_, e2, e3⟩ | hx
        · rw [e2, e3]; exact h10'
        · exact T10.rt x hx
      · show _ = putRw (rM pt.rs) (keyOf k) (setAt p.2.cols (restOf (rM pt.rs) (keyOf k)) (.str col.n) w)
        rw [rM_put, ← ekr, restOf_rM T1.nd hr]
    | row ins tn r =>
      refine ifD (fun z => absurd z (by cases ins <;> simp only [edA] <;> decide +kernel)) (fun _ => ?_)
      refine ⟨_, rfl, a, _, _, _, rfl, rfl, SqT.of h11, at_ofN (j := 0) rfl rfl, rfl, _, rfl, ifD (fun z => absurd z (by cases ins <;> simp only [edA] <;> decide +kernel)) (fun _ => ?_)⟩
      obtain ⟨b', pr, e', h5, h6⟩ := row_at he
      cases e'
      refine ⟨_, rfl, a, _, _, .ref pr, rfl, rfl, SqT.of (s1 _ _ h5), at_ofN (j := 2) rfl rfl, _, rfl, ?_⟩
      dsimp only [tNoPart]
      refine cut_any (s1 _ _ h6) (fun r' H3 h3 s3 => ?_)
      rw [cut_tail] at h3
      have T3 := T1.mono (KeepT.of s3) (fun o => s3 _ _)
      have ek' : r.headD .non = kV (keyOf (r.headD .non)) := ekey
      refine ⟨_, rfl, _, rfl, pt.d, _, rfl, (by show DPut H3 pt.d (r.headD .non) _ _; rw [ek']; exact DPut.k (k := keyOf (r.headD .non)) T3.dk (by unfold roK; rw [List.length_map]; exact small1000 (by omega))), ?_⟩
      have ep := putRo_K pt.rs ⟨keyOf (r.headD .non), r', r.drop 1⟩
      have ep' : putK (roK pt.rs) (keyOf (r.headD .non)) (.ref r') = roK (putRo pt.rs ⟨keyOf (r.headD .non), r', r.drop 1⟩) := ep
      rw [ep']
      refine fin H3 _ (s1.trans s3) (fun x hx => ?_) (putRo_nd T1.nd _) (rM_put _ _ _ _)
      rcases putRo_mem hx with ⟨_, e2, e3⟩ | hx
      · rw [e2, e3]; exact h3
      · exact T3.rt x hx)
theorem ok_law_write {f : Addr} {fd : FuncData} (k : Kn K mg "_law_write" s_law_write ["tape", "schema", "state", "most"] f fd) (z : Z mg)
    {g_law_copy : Addr} {gd_law_copy : FuncData} (c_law_copy : Cal P w K mg base 9 "_law_copy" ["thing"] (spCopyG 9) g_law_copy gd_law_copy)
    {g_law_take : Addr} {gd_law_take : FuncData} (c_law_take : Cal P w K mg base 1 "_law_take" ["tape", "many"] (spTake) g_law_take gd_law_take)
    {g_law_edit : Addr} {gd_law_edit : FuncData} (c_law_edit : Cal P w K mg base 6 "_law_edit" ["tape", "schema", "state"] (spLawEdit) g_law_edit gd_law_edit)
    {g_law_right : Addr} {gd_law_right : FuncData} (c_law_right : Cal P w K mg base 2 "_law_right" ["state", "edit"] (spRightE) g_law_right gd_law_right)
    {g_law_do : Addr} {gd_law_do : FuncData} (c_law_do : Cal P w K mg base 2 "_law_do" ["schema", "state", "edit"] (spLawDo) g_law_do gd_law_do) :
    Cal P w K mg base 10 "_law_write" ["tape", "schema", "state", "most"] (spLawWriteS) f fd := k.cal (by
  refine k.F.ok sc_law_write (fun vs H Q E h => ?_) (fun cdv A outer s H vs Q E hr h => ?_)
  · obtain ⟨t, c, S, T, cs, s, st, b, most, rfl, _⟩ := h; rfl
  · obtain ⟨t, c, S, T, cs, s, st, b, most, rfl, Tp0, A, tv, l1, l6, hT, W, MS, M0, hb, l100, MK, m30, q⟩ := h
    have hu := hu_of hr
    refine ⟨_, (pss_cons (ps_set (i := 2) sc_law_write.nd rfl (Or.inl rfl) (pe_call c_law_copy.G (hr.mono (by decide)) (by rfl) c_law_copy.m c_law_copy.kp c_law_copy.b .nil pass0 (pa_cons (pv 2) pa_nil)))
        (pss_cons (ps_set (i := 4) sc_law_write.nd rfl (Or.inl rfl) (pe_lst pa_nil))
        (pss_cons (ps_for PassesOwn.never rfl (pi_range1 (by rfl) z.range (pa_cons (pe_call c_law_take.G (hr.mono (by decide)) (by rfl) c_law_take.m c_law_take.kp c_law_take.b .nil pass0 (pa_cons (pv 0) (pa_cons (pe_op op_add (pv 3) pe_int) pa_nil))) pa_nil)) (pg_name (i := 5) sc_law_write.nd rfl (Or.inl rfl))
        (pss_one (ps_if (pt_cmpR op_gt (pe_callB call_lenD (by rfl) z.len (by decide +kernel) (pa_cons (pv 1) pa_nil)) pe_int (nomark _)) (pss_cons (ps_set (i := 6) sc_law_write.nd rfl (Or.inl rfl) (pe_call c_law_edit.G (hr.mono (by decide)) (by rfl) c_law_edit.m c_law_edit.kp c_law_edit.b .nil pass0 (pa_cons (pv 0) (pa_cons (pv 1) (pa_cons (pv 2) pa_nil)))))
        (pss_one (ps_if (pt_val (pe_call c_law_right.G (hr.mono (by decide)) (by rfl) c_law_right.m c_law_right.kp c_law_right.b .nil pass0 (pa_cons (pv 2) (pa_cons (pv 6) pa_nil)))) (pss_cons (ps_expr (pe_bm PySem.F.plainAttrs_list PySem.F.slot_list_append PySem.F.type_list_append mt_append (pv 4) (pa_cons (pv 6) pa_nil)))
        (pss_one (ps_expr (pe_call c_law_do.G (hr.mono (by decide)) (by rfl) c_law_do.m c_law_do.kp c_law_do.b .nil pass0 (pa_cons (pv 1) (pa_cons (pv 2) (pa_cons (pv 6) pa_nil))))))) pss_nil))) pss_nil)))
        (pss_one (ps_ret (pe_tup (pa_cons (pv 4) (pa_cons (pv 2) pa_nil)))))))), ?_⟩
    have ht0 : ∃ o, H t = some o := by obtain ⟨_, _, _, _, e, _⟩ := Tp0.dk; exact ⟨_, e⟩
    have lks : (schK s).length = s.length := by unfold schK; rw [List.length_map]
    have tnd : ((tbs s).map (·.n)).Nodup := by
      have := A.nm
      unfold tbs
      rw [List.map_map]
      exact this
    refine ⟨_, rfl, .ref T, stG st, _, rfl, hT.gM W MS (by omega) (by omega), Nat.lt_of_le_of_lt (st_dep st) (by decide), fun x' D' H1 g1 s1 f1 nd1 => ?_⟩
    obtain ⟨T0, st0, rfl, A0, em0, rfl⟩ := gp_st g1 hT.nm
    refine ⟨Nat.zero_le _, fun L hL => ?_⟩
    have L0 : H L = none := s1.free hL
    have s2 := s1.trans (same_new hL (.lst []))
    have A2 := A0.mono (same_new hL (.lst []))
    have hL2 : (upd H1 L (.lst [])) L = some (.lst []) := upd_same
    have LD : L ∉ stD T0 st0 := fun hm => g1.there L hm hL
    generalize upd H1 L (.lst []) = H2 at s2 A2 hL2 ⊢
    refine ⟨_, rfl, _, rfl, _, _, rfl, rfl, t, c, cs, _, rfl, Tp0.mono s2, by omega, Nat.lt_of_le_of_lt (m := 31) (by omega) (by decide +kernel), fun d H3 d0 d1 T3 x3 => ?_⟩
    have Lt0 : L ≠ t := fun z => by obtain ⟨o, e⟩ := ht0; rw [← z, L0] at e; cases e
    have frt : ∀ a ∈ stD T0 st0, a ≠ t := fun a ha z => by obtain ⟨o, e⟩ := ht0; rw [← z, f1 a ha] at e; cases e
    refine ⟨d, rfl, by omega, by omega, for_range (lo := 0) (n := d.toNat) (fun i σ H' => ∃ v5 v6 st' m xs es, σ = [some (.ref t), some (.ref S), some (.ref T0), some (.int (most : Nat)), some (.ref L), v5, v6] ∧ StAt H' T0 st' ∧ stM st' = m ∧ (stD T0 st').Nodup ∧ (∀ a ∈ stD T0 st', H a = none) ∧ L ∉ stD T0 st' ∧ MW (tbs s) m (b + i) ∧ MKy (tbs s) m ∧ MSt s m ∧ tot m ≤ tot (stM st) + i ∧ H' L = some (.lst xs) ∧ TpL H' xs (es.map edD) ∧ (∀ e ∈ es, edOk e ∧ EdFit s e) ∧ es.length ≤ i ∧ TapeAt H' t c cs ∧ SameX t H H') ⟨none, none, st0, stM st, [], [], rfl, A2.frame (KeepT.ofX (Tp0.mono s2) x3) (fun a ha o e => x3 _ _ e (frt a ha)), em0, nd1, f1, LD, W, MK, M0, Nat.le_refl _, x3 _ _ hL2 Lt0, .nil, (fun e he => by cases he), Nat.le_refl _, T3, (SameX.of s2).trans x3⟩ ?_ ?_⟩
    rotate_left
    · rintro σ H4 ⟨v5, v6, st', m, xs, es, rfl, A4, em, nd, fr, LD', W4, MK4, M4, tm4, hL4, hx, hok, le, T4, X4⟩
      refine ⟨_, rfl, _, rfl, (by show 2 ≤ sizeLine; decide), fun r hr2 => ?_⟩
      have sr := same_new hr2 (.tup [V.ref L, V.ref T0])
      have ls : st'.length = st.length := by
        have h1 := M4.nm
        have p1 : (m.map (·.1)).Perm ((stM st).map (·.1)) := (List.perm_ext_iff_of_nodup M4.nm M0.nm).mpr fun n => (M4.inn n).trans (M0.inn n).symm
        have := p1.length_eq
        rw [List.length_map, List.length_map, stM_len, ← em, stM_len] at this
        exact this
      exact q L T0 st' r xs es _ upd_same (sr _ _ hL4) (hx.mono (KeepT.of sr)) hok (by omega) L0 (A4.mono sr) (by rw [em]; exact M4) (by rw [em]; exact W4.up (by omega)) (by rw [em]; omega) nd fr ls (T4.mono sr) (X4.trans (SameX.of sr))
    rintro i σ H4 hi ⟨v5, v6, st', m, xs, es, rfl, A4, em, nd, fr, LD', W4, MK4, M4, tm4, hL4, hx, hok, le, T4, X4⟩
    have frt' : ∀ a ∈ stD T0 st', a ≠ t := fun a ha z => by obtain ⟨o, e⟩ := ht0; rw [← z, fr a ha] at e; cases e
    have As4 := A.monoX Tp0 X4
    refine ⟨_, rfl, S, schK s, rfl, As4.sk, _, _, rfl, rfl, _, rfl, ifD (fun _ => ?_) (fun z => absurd (by rw [lks]; omega) z)⟩
    refine ⟨_, rfl, _, rfl, _, rfl, t, c, S, T0, cs, s, st', b + i, rfl, T4, As4, tv, l1, l6, A4, by rw [em]; exact W4, by omega, by rw [em]; exact MK4, frt' T0 (List.mem_cons_self ..), (fun q hq => frt' q.d (List.mem_cons_of_mem _ (List.mem_map.mpr ⟨q, hq, rfl⟩))), fun v e H5 hte ok fit T5 x5 => ?_⟩
    have A5 := A4.frame (KeepT.ofX T4 x5) (fun a ha o e => x5 _ _ e (frt' a ha))
    have hL5 := x5 _ _ hL4 Lt0
    have hx5 := hx.mono (KeepT.ofX T4 x5)
    have X5 := X4.trans x5
    obtain ⟨p, hp, hpn, _, hkb⟩ := id fit
    have hin : edT e ∈ stN st' := by rw [← hpn]; exact W4.names em (t := p.2) (List.mem_map.mpr ⟨p, hp, rfl⟩)
    refine ⟨_, rfl, _, rfl, T0, st', v, e, rfl, A5, hin, hte, fit.full, keyB_key (tv p hp).co hkb, fun H6 s6 => ⟨_, rfl, ?_⟩⟩
    rw [em]
    have A6 := A5.mono s6
    have T6 := T5.mono s6
    have X6 := X5.trans (SameX.of s6)
    refine ifD (fun hgood => ?_) (fun _ => ⟨_, _, st', m, xs, es, rfl, A6, em, nd, fr, LD', W4.up (by omega), MK4, M4, by omega, s6 _ _ hL5, hx5.mono (KeepT.of s6), hok, by omega, T6, X6⟩)
    have hL6 := s6 _ _ hL5
    refine ⟨_, rfl, .inl ⟨rfl, _, SqL.of hL6⟩, _, rfl, L, _, _, rfl, rfl, hL6, ?_, ?_⟩
    · have := hx.length; rw [List.length_map] at this; exact small1000 (by omega)
    have ku : KeepT H6 (upd H6 L (.lst (xs ++ [v]))) := KeepT.upd fun zs z => by rw [hL6] at z; cases z
    have A7 : StAt (upd H6 L (.lst (xs ++ [v]))) T0 st' := A6.frame ku (fun a ha o e => by rw [upd_ne (fun z => LD' (by rw [← z]; exact ha))]; exact e)
    have X7 : SameX t H (upd H6 L (.lst (xs ++ [v]))) := samex_upd L0 _ X6
    have Lc : L ≠ c := fun z => by have e := Tp0.ls; rw [← z, L0] at e; cases e
    have T7 : TapeAt (upd H6 L (.lst (xs ++ [v]))) t c cs := T6.upd Lt0 Lc.symm
    have hL7 : (upd H6 L (.lst (xs ++ [v]))) L = some (.lst (xs ++ [v])) := upd_same
    have hx7 : TpL (upd H6 L (.lst (xs ++ [v]))) (xs ++ [v]) ((es ++ [e]).map edD) := by
      rw [List.map_append]
      exact ((hx5.mono (KeepT.of s6)).mono ku).snoc ((hte.mono (KeepT.of s6)).mono ku)
    have ht7 := (hte.mono (KeepT.of s6)).mono ku
    generalize upd H6 L (.lst (xs ++ [v])) = H7 at A7 X7 T7 hL7 hx7 ht7 ⊢
    have As7 := A.monoX Tp0 X7
    have ec := edC_ok A.nm fit (m := m) hgood
    refine ⟨_, rfl, _, rfl, _, rfl, S, s, T0, st', v, e, b + i, rfl, ⟨As7.sk, As7.ds, As7.nm, tv, l6⟩, A7, nd, ht7, ok, by rw [em]; exact ec, by rw [em]; exact W4, by omega, fun st2 H8 A8 em8 dm SE KT => ?_⟩
    have dD : stD T0 st2 = stD T0 st' := by unfold stD; rw [dm]
    have out : ∀ a o, H a = some o → a ∉ st'.map (fun q => q.d) := fun a o e hm => by rw [fr a (List.mem_cons_of_mem _ hm)] at e; cases e
    have hc0 : ∃ o, H c = some o := ⟨_, Tp0.ls⟩
    refine ⟨_, _, st2, edM (tbs s) m e, xs ++ [v], es ++ [e], rfl, A8, by rw [em8, em], by rw [dD]; exact nd, by rw [dD]; exact fr, by rw [dD]; exact LD', by rw [← Nat.add_assoc]; exact W4.step tnd ec, MK4.step A.nm (fun p hp => (tv p hp).co) fit, M4.step A.nm tv fit hgood, (by have := tot_step (s := s) (e := e) M4.nm; omega), SE _ _ hL7 (fun hm => LD' (List.mem_cons_of_mem _ hm)), hx7.mono KT, ?_, by rw [List.length_append, List.length_cons, List.length_nil]; omega, T7.frame (fun o e => SE _ _ e (by obtain ⟨o', e'⟩ := ht0; exact out t o' e')) (fun o e => SE _ _ e (by obtain ⟨o', e'⟩ := hc0; exact out c o' e')), fun a o e ne => SE _ _ (X7 a o e ne) (out a o e)⟩
    intro e' he'
    rcases List.mem_append.mp he' with h | h
    · exact hok e' h
    · rw [List.mem_singleton.mp h]; exact ⟨ok, fit⟩)
theorem ok_row_difference {f : Addr} {fd : FuncData} (k : Kn K mg "row_difference" s_row_difference ["table", "key", "old", "new"] f fd) (z : Z mg) :
    Cal P w K mg base 1 "row_difference" ["table", "key", "old", "new"] (spRowDiff) f fd := k.cal (by
  refine k.F.ok sc_row_difference (fun vs H Q E h => ?_) (fun cdv A outer s H vs Q E hr h => ?_)
  · obtain ⟨n, k, v1, v2, o1, o2, rfl, _⟩ := h; rfl
  · obtain ⟨n, k, v1, v2, o1, o2, rfl, a1, a2, r1, r2, q⟩ := h
    have hu := hu_of hr
    refine ⟨_, (pss_cons (ps_if (pt_cmpR (op_eqD hr.units) (pv 2) (pv 3) (nomark _)) (pss_one (ps_ret (pe_lst pa_nil))) pss_nil)
        (pss_cons (ps_if (pt_cmpR op_isN (pv 3) pe_non (nomark _)) (pss_one (ps_ret (pe_lst (pa_cons (pe_tup (pa_cons pe_str (pa_cons (pv 0) (pa_cons (pv 1) pa_nil)))) pa_nil)))) pss_nil)
        (pss_cons (ps_if (pt_cmpR op_isN (pv 2) pe_non (nomark _)) (pss_one (ps_ret (pe_lst (pa_cons (pe_tup (pa_cons pe_str (pa_cons (pv 0) (pa_cons (pe_op op_catA (pe_tup (pa_cons (pv 1) pa_nil)) (pv 3)) pa_nil)))) pa_nil)))) pss_nil)
        (pss_one (ps_ret (pe_lst (pa_cons (pe_tup (pa_cons pe_str (pa_cons (pv 0) (pa_cons (pe_op op_catA (pe_tup (pa_cons (pv 1) pa_nil)) (pv 3)) pa_nil)))) pa_nil))))))), ?_⟩
    refine ⟨_, rfl, _, rfl, _, _, (r1.tp a1).py, (r2.tp a2).py, opt_shaped r1, opt_shaped r2, _, rfl, ?_⟩
    rw [opt_eqv r1 r2]
    refine ifD (fun he => ?_) (fun hne => ?_)
    · refine ⟨Nat.zero_le _, fun Z hZ => ?_⟩
      exact q Z [] _ upd_same (by rw [rowDiff_nil.mpr he]; exact .nil) (same_new hZ _) hZ
    refine ⟨_, rfl, rfl, _, rfl, ?_⟩
    have fin : ∀ {p : Addr} {H2 : Hp} {e : Ed}, Same H H2 → rowDiff n k o1 o2 = [e] → Tp H2 (.ref p) (edD e) → ∀ P, H2 P = none → Q (.ref P) (upd H2 P (.lst [.ref p])) := fun {p H2 e} s2 he ht P hP => by
      have s3 := same_new hP (.lst [.ref p])
      exact q P [.ref p] _ upd_same (by rw [he]; exact .cons (ht.mono (KeepT.of s3)) .nil) (s2.trans s3) (s2.free hP)
    rcases a2 with ⟨rfl, rfl⟩ | ⟨p2, w2, rfl, h2, rfl⟩
    · refine ifD (fun _ => ?_) (fun z => absurd rfl z)
      refine ⟨_, rfl, _, rfl, (by show 3 ≤ sizeLine; decide), fun p hp => ⟨(by show 1 ≤ sizeLine; decide), fun P hP => ?_⟩⟩
      have e : rowDiff n k o1 none = [.del n (kV k)] := by
        cases o1 with
        | none => exact absurd rfl hne
        | some w => rfl
      exact fin (same_new hp _) e (del_tp upd_same) P hP
    refine ifD (fun z => nomatch z) (fun _ => ?_)
    have lw := (r2 w2 rfl).1
    have vw : ∀ x ∈ w2, valE x := fun x hx => ((r2 w2 rfl).2 x hx).1
    have tail : ∀ {b : Bool} {H2 : Hp} {p3 : Addr}, Same H H2 → H2 p3 = some (.tup (kV k :: w2)) → rowDiff n k o1 (some w2) = [.row b n (kV k :: w2)] → ∀ p, H2 p = none → ∀ P, upd H2 p (.tup [.str (edA (.row b n (kV k :: w2))), .str n, .ref p3]) P = none → Q (.ref P) (upd (upd H2 p (.tup [.str (edA (.row b n (kV k :: w2))), .str n, .ref p3])) P (.lst [.ref p])) := fun {b H2 p3} s2 h3 he p hp P hP => by
      have s3 := same_new hp (.tup [.str (edA (.row b n (kV k :: w2))), .str n, .ref p3])
      exact fin (s2.trans s3) he (row_tp (s3 _ _ h3) upd_same vw) P hP
    have cat : ∀ {b : Bool} {H2 : Hp} {p1 : Addr}, Same H H2 → H2 p1 = some (.tup [kV k]) → rowDiff n k o1 (some w2) = [.row b n (kV k :: w2)] → rCatA K (.ref p1) (.ref p2) H2 fun y H3 => [V.str (edA (.row b n (kV k :: w2))), .str n, y].length ≤ sizeLine ∧ ∀ p, H3 p = none → 1 ≤ sizeLine ∧ ∀ P, upd H3 p (.tup [.str (edA (.row b n (kV k :: w2))), .str n, y]) P = none → Q (.ref P) (upd (upd H3 p (.tup [.str (edA (.row b n (kV k :: w2))), .str n, y])) P (.lst [.ref p])) := fun {b H2 p1} s2 h1 he => by
      refine ⟨p1, p2, [kV k], w2, rfl, rfl, SqT.of h1, SqT.of (s2 _ _ h2), Nat.le_trans (by show 1 + w2.length ≤ 100; omega) (by decide), (fun z => nomatch z), fun _ ew => ?_, fun _ _ p3 h3 => ?_⟩
      · subst ew
        exact ⟨(by show 3 ≤ sizeLine; decide), fun p hp => ⟨(by show 1 ≤ sizeLine; decide), tail s2 h1 he p hp⟩⟩
      · exact ⟨(by show 3 ≤ sizeLine; decide), fun p hp => ⟨(by show 1 ≤ sizeLine; decide), tail (s2.trans (same_new h3 _)) upd_same he p hp⟩⟩
    refine ⟨_, rfl, rfl, _, rfl, ?_⟩
    rcases a1 with ⟨rfl, rfl⟩ | ⟨p1, w1, rfl, h1, rfl⟩
    · refine ifD (fun _ => ?_) (fun z => absurd rfl z)
      refine ⟨_, rfl, _, rfl, (by show 1 ≤ sizeLine; decide), fun p1 hp1 => ⟨_, rfl, ?_⟩⟩
      exact cat (b := true) (same_new hp1 _) upd_same rfl
    refine ifD (fun z => nomatch z) (fun _ => ?_)
    refine ⟨_, rfl, _, rfl, (by show 1 ≤ sizeLine; decide), fun p1 hp1 => ⟨_, rfl, ?_⟩⟩
    refine cat (b := false) (same_new hp1 _) upd_same ?_
    show (if w1 = w2 then [] else [Ed.row false n (kV k :: w2)]) = _
    rw [if_neg fun z => hne (by rw [z])])
theorem ok_difference {f : Addr} {fd : FuncData} (k : Kn K mg "difference" s_difference ["schema", "before", "after"] f fd) (z : Z mg)
    {g_row_difference : Addr} {gd_row_difference : FuncData} (c_row_difference : Cal P w K mg base 1 "row_difference" ["table", "key", "old", "new"] (spRowDiff) g_row_difference gd_row_difference) :
    Cal P w K mg base 2 "difference" ["schema", "before", "after"] (spDiffer) f fd := k.cal (by
  refine k.F.ok sc_difference (fun vs H Q E h => ?_) (fun cdv A outer s H vs Q E hr h => ?_)
  · obtain ⟨S, s, T1, st1, T2, st2, rfl, _⟩ := h; rfl
  · obtain ⟨S, s, T1, st1, T2, st2, rfl, hS, A1, A2, M1, M2, l1, l2, dj, q⟩ := h
    have hu := hu_of hr
    refine ⟨_, (pss_cons (ps_set (i := 3) sc_difference.nd rfl (Or.inl rfl) (pe_lst pa_nil))
        (pss_cons (ps_for PassesOwn.never rfl (pi_list (pe_callB (call_sortedK rfl) (by rfl) z.sorted (by decide +kernel) (pa_cons (pv 0) pa_nil))) (pg_name (i := 4) sc_difference.nd rfl (Or.inl rfl))
        (pss_cons (ps_set (i := 5) sc_difference.nd rfl (Or.inl rfl) (pe_dget hu (pv 1) (pv 4) (fun _ _ => rfl)))
        (pss_cons (ps_set (i := 6) sc_difference.nd rfl (Or.inl rfl) (pe_dget hu (pv 2) (pv 4) (fun _ _ => rfl)))
        (pss_one (ps_for PassesOwn.never rfl (pi_list (pe_callB (call_sortKS rfl) (by rfl) z.sorted (by decide +kernel) (pa_cons (pe_callTy (cr_setKS rfl) (by rfl) z.set (by decide +kernel) (pa_cons (pe_op op_cat (pe_callTy (call_listD rfl) (by rfl) z.list (by decide +kernel) (pa_cons (pv 5) pa_nil)) (pe_callTy (call_listD rfl) (by rfl) z.list (by decide +kernel) (pa_cons (pv 6) pa_nil))) pa_nil)) pa_nil))) (pg_name (i := 7) sc_difference.nd rfl (Or.inl rfl))
        (pss_one (ps_expr (pe_bm PySem.F.plainAttrs_list PySem.F.slot_list_extend PySem.F.type_list_extend mt_extend (pv 3) (pa_cons (pe_call c_row_difference.G (hr.mono (by decide)) (by rfl) c_row_difference.m c_row_difference.kp c_row_difference.b .nil pass0 (pa_cons (pv 4) (pa_cons (pv 7) (pa_cons (pe_dget1 hu (pv 5) (pv 7) ⟨rfl, rfl, rfl, rfl⟩) (pa_cons (pe_dget1 hu (pv 6) (pv 7) ⟨rfl, rfl, rfl, rfl⟩) pa_nil))))) pa_nil)))))))))
        (pss_one (ps_ret (pv 3))))), ?_⟩
    refine ⟨Nat.zero_le _, fun Z hZ => ?_⟩
    have e1 := same_new hZ (.lst [])
    refine ⟨_, rfl, S, schK s, rfl, .inl (e1 _ _ hS.sk), (by rw [sch_keys]; exact .inr ⟨schN s, rfl⟩), fun ys N hper hsrt hN => ?_⟩
    rw [sch_keys] at hper
    obtain rfl := sortK_eq hper hsrt
    rw [names_kV]
    have NZ : N ≠ Z := fun e => by rw [e, upd_same] at hN; cases hN
    have e2 := same_new hN (.lst ((nsOf s).map V.str))
    refine ⟨N, rfl, ⟨_, SqL.of upd_same⟩, for_it walk_list (fun i σ H' => ∃ xs v4 v5 v6 v7, σ = [some (.ref S), some (.ref T1), some (.ref T2), some (.ref Z), v4, v5, v6, v7] ∧ H' Z = some (.lst xs) ∧ TpL H' xs ((((nsOf s).take i).flatMap fun n => diffT n (rwsOf (stM st1) n) (rwsOf (stM st2) n)).map edD) ∧ xs.length ≤ i * 200 ∧ H' N = some (.lst ((nsOf s).map V.str)) ∧ Same H H') ⟨[], none, none, none, none, rfl, e2 _ _ upd_same, .nil, Nat.zero_le _, upd_same, e1.trans e2⟩ (fun i σ H' _ ⟨_, _, _, _, _, _, _, _, _, e, _⟩ => SqL.of e) ?_ ?_⟩
    rotate_left
    · rintro σ H3 ⟨xs, v4, v5, v6, v7, rfl, hZ3, hx3, _, _, s3⟩
      refine ⟨_, rfl, q Z xs H3 hZ3 ?_ s3 hZ⟩
      rw [List.length_map, List.take_length, ← diffM_eq] at hx3
      exact hx3
    rintro i x σ Hx H3 hi ⟨xs, v4, v5, v6, v7, rfl, hZ3, hx3, lx, hN3, s3⟩ ⟨rfl, ex⟩
    rw [List.length_map] at hi
    have ey : (nsOf s)[i]? = some (nsOf s)[i] := List.getElem?_eq_getElem hi
    rw [List.getElem?_map, ey] at ex
    cases ex
    have hm := List.getElem_mem hi
    have tk : (nsOf s).take (i + 1) = (nsOf s).take i ++ [(nsOf s)[i]] := by rw [List.take_succ, ey]; rfl
    generalize (nsOf s)[i] = n at ey hm tk
    have hn := nsOf_mem.mp hm
    have i6 : i < 6 := by rw [nsOf_len] at hi; have := hS.l6; omega
    have inst : ∀ {m : StM} {st : List TS}, stM st = m → MSt s m → ∃ p ∈ st, p.n = n := fun {m st} e M => st_in (by rw [← stM_names, e]; exact (M.inn n).mpr hn)
    obtain ⟨p1, hp1, en1⟩ := inst rfl M1
    obtain ⟨p2, hp2, en2⟩ := inst rfl M2
    have B1 := A1.mono s3
    have B2 := A2.mono s3
    have w1 : rwsOf (stM st1) n = rM p1.rs := by rw [← en1]; exact rwsOf_in A1.nm hp1
    have w2 : rwsOf (stM st2) n = rM p2.rs := by rw [← en2]; exact rwsOf_in A2.nm hp2
    have g1 : DGet H3 T1 (.str n) (some (.ref p1.d)) := by rw [← en1]; exact B1.get hp1
    have g2 : DGet H3 T2 (.str n) (some (.ref p2.d)) := by rw [← en2]; exact B2.get hp2
    refine ⟨_, rfl, _, rfl, T1, _, rfl, g1, ?_⟩
    refine ⟨_, rfl, _, rfl, T2, _, rfl, g2, ?_⟩
    have D1 := B1.ds p1 hp1
    have D2 := B2.ds p2 hp2
    have ll1 := l1 p1 hp1
    have ll2 := l2 p2 hp2
    refine ⟨_, rfl, p1.d, _, rfl, .inl D1.dk, fun q1 hq1 => ?_⟩
    have f1 := same_new hq1 (.lst ((roK p1.rs).map fun kv => kV kv.1))
    refine ⟨_, rfl, p2.d, _, rfl, .inl (f1 _ _ D2.dk), fun q2 hq2 => ?_⟩
    have f2 := same_new hq2 (.lst ((roK p2.rs).map fun kv => kV kv.1))
    refine ⟨q1, q2, _, _, rfl, rfl, f2 _ _ upd_same, upd_same, ?_, fun q3 hq3 => ?_⟩
    · rw [List.length_map, List.length_map, roK_len, roK_len]; exact Nat.le_trans (by omega : _ ≤ 200) (by decide)
    have ek : ((roK p1.rs).map fun kv => kV kv.1) ++ ((roK p2.rs).map fun kv => kV kv.1) = (roN p1.rs ++ roN p2.rs).map kV := by
      rw [List.map_append, ← roK_keys, ← roK_keys, List.map_map, List.map_map]; rfl
    rw [ek]
    have f3 := same_new hq3 (.lst ((roN p1.rs ++ roN p2.rs).map kV))
    have lk : (roN p1.rs ++ roN p2.rs).length ≤ 200 := by rw [List.length_append]; unfold roN; rw [List.length_map, List.length_map]; omega
    refine ⟨q3, roN p1.rs ++ roN p2.rs, rfl, SqL.of upd_same, Nat.lt_of_le_of_lt lk (by decide), fun q4 L hq4 nd mem => ?_⟩
    have one : OneKind (roN p1.rs ++ roN p2.rs) := by
      obtain ⟨p, hp, en⟩ := sch_in hn
      refine one_keys (cols := p.2.cols) (hS.ok p hp).l0 fun k hk => ?_
      have row : ∀ {m : StM} {rs : List Ro}, MSt s m → rwsOf m n = rM rs → k ∈ roN rs → keyB p.2.cols (kV k) = true := fun {m rs} M e hk => by
        obtain ⟨r, hr, rfl⟩ := ro_mem hk
        have : optR (rwsOf m p.2.n) r.k = some r.vs := by
          rw [en]
          exact optR_of (rws_kn M n) (by rw [e]; exact List.mem_map.mpr ⟨r, hr, rfl⟩)
        exact row_key (M.row hp this)
      rcases List.mem_append.mp hk with h | h
      · exact row M1 w1 h
      · exact row M2 w2 h
    have f4 := same_new hq4 (KSetO P w q4 L)
    refine ⟨q4, L, rfl, upd_same, one_sub one fun k hk => (mem k).mp hk, fun ys q5 hper2 hsrt2 hq5 => ?_⟩
    have f5 := same_new hq5 (.lst (ys.map kV))
    obtain rfl : ys = keysT (rwsOf (stM st1) n) (rwsOf (stM st2) n) := by
      rw [w1, w2]
      refine sorted_one (rM_nd D1.nd) (rM_nd D2.nd) (hper2.nodup_iff.mpr nd) (fun k => ?_) hsrt2
      rw [hper2.mem_iff, mem, rM_keys, rM_keys]
    have q5Z : q5 ≠ Z := fun e => by
      have := (((f1.trans f2).trans f3).trans f4) _ _ hZ3
      rw [e] at hq5
      exact absurd (this.symm.trans hq5) (fun z => nomatch z)
    have f := (((f1.trans f2).trans f3).trans f4).trans f5
    have lys : (keysT (rwsOf (stM st1) n) (rwsOf (stM st2) n)).length ≤ 200 := by
      unfold keysT
      rw [sortK_len]
      have := unionK_len ((rwsOf (stM st1) n).map (·.1)) ((rwsOf (stM st2) n).map (·.1))
      rw [w1, w2, rM_keys, rM_keys] at this ⊢
      unfold roN at this ⊢
      rw [List.length_map, List.length_map] at this
      omega
    refine ⟨q5, rfl, ⟨_, SqL.of upd_same⟩, for_it walk_list (fun j σ H' => ∃ ys v7, σ = [some (.ref S), some (.ref T1), some (.ref T2), some (.ref Z), some (.str n), some (.ref p1.d), some (.ref p2.d), v7] ∧ H' Z = some (.lst ys) ∧ TpL H' ys (((((nsOf s).take i).flatMap fun n => diffT n (rwsOf (stM st1) n) (rwsOf (stM st2) n)) ++ ((keysT (rwsOf (stM st1) n) (rwsOf (stM st2) n)).take j).flatMap fun k => rowDiff n k (optR (rwsOf (stM st1) n) k) (optR (rwsOf (stM st2) n) k)).map edD) ∧ ys.length ≤ i * 200 + j ∧ H' q5 = some (.lst ((keysT (rwsOf (stM st1) n) (rwsOf (stM st2) n)).map kV)) ∧ H' N = some (.lst ((nsOf s).map V.str)) ∧ Same H H') ⟨xs, v7, rfl, f _ _ hZ3, ?_, lx, upd_same, f _ _ hN3, s3.trans f⟩ (fun i σ H' _ ⟨_, _, _, _, _, _, e, _⟩ => SqL.of e) ?_ ?_⟩
    · rw [List.take_zero, List.flatMap_nil, List.append_nil]
      exact hx3.mono (KeepT.of f)
    rotate_left
    · rintro σ H5 ⟨ys, v7', rfl, hZ5, hx5, ly, _, hN5, s5⟩
      refine ⟨ys, _, _, _, _, rfl, hZ5, ?_, ?_, hN5, s5⟩
      · rw [tk, List.flatMap_append, List.flatMap_singleton]
        rw [List.length_map, List.take_length] at hx5
        exact hx5
      · rw [List.length_map] at ly
        rw [Nat.succ_mul]; omega
    rintro j x σ Hy H5 hj ⟨ys, v7', rfl, hZ5, hx5, ly, hq5', hN5, s5⟩ ⟨rfl, ex⟩
    rw [List.length_map] at hj
    have ez : (keysT (rwsOf (stM st1) n) (rwsOf (stM st2) n))[j]? = some (keysT (rwsOf (stM st1) n) (rwsOf (stM st2) n))[j] := List.getElem?_eq_getElem hj
    rw [List.getElem?_map, ez] at ex
    cases ex
    have tk2 : (keysT (rwsOf (stM st1) n) (rwsOf (stM st2) n)).take (j + 1) = (keysT (rwsOf (stM st1) n) (rwsOf (stM st2) n)).take j ++ [(keysT (rwsOf (stM st1) n) (rwsOf (stM st2) n))[j]] := by rw [List.take_succ, ez]; rfl
    generalize (keysT (rwsOf (stM st1) n) (rwsOf (stM st2) n))[j] = k at ez tk2
    have E1 := (A1.mono s5).ds p1 hp1
    have E2 := (A2.mono s5).ds p2 hp2
    have o1 := E1.opt k
    have o2 := E2.opt k
    rw [← w1] at o1
    rw [← w2] at o2
    refine ⟨_, rfl, .inl ⟨rfl, _, SqL.of hZ5⟩, _, rfl, _, rfl, _, rfl, p1.d, rfl, .inl ⟨_, .inl E1.dk⟩, _, rfl, _, DGet.k E1.dk, _, rfl, p2.d, rfl, .inl ⟨_, .inl E2.dk⟩, _, rfl, _, DGet.k E2.dk, n, k, _, _, _, _, rfl, o1, o2, M1.ok hS.ok hn k, M2.ok hS.ok hn k, fun R zs H6 hR6 hz6 s6 hR5 => ?_⟩
    have hZ6 := s6 _ _ hZ5
    have lz : zs.length ≤ 1 := by
      have := hz6.length
      rw [List.length_map] at this
      rw [this]
      exact rowDiff_len _ _ _ _
    refine ⟨Z, R, ys, zs, rfl, rfl, hZ6, hR6, Nat.le_trans (by omega : _ ≤ 2000) (by decide), ?_⟩
    have ZR : R ≠ Z := fun e => by rw [e, hZ5] at hR5; cases hR5
    have ku : KeepT H6 (upd H6 Z (.lst (ys ++ zs))) := KeepT.upd fun vs z => by rw [hZ6] at z; cases z
    have stay : Same H (upd H6 Z (.lst (ys ++ zs))) := fun b o e => by
      rw [upd_ne (fun z => by rw [z, hZ] at e; cases e)]
      exact s6 _ _ (s5 _ _ e)
    refine ⟨ys ++ zs, _, rfl, upd_same, ?_, ?_, ?_, ?_, stay⟩
    · rw [tk2, List.flatMap_append, List.flatMap_singleton, ← List.append_assoc, List.map_append]
      exact ((hx5.mono (KeepT.of s6)).mono ku).app (hz6.mono ku)
    · rw [List.length_append]; omega
    · rw [upd_ne q5Z]
      exact s6 _ _ hq5'
    · rw [upd_ne NZ]
      exact s6 _ _ hN5)
theorem ok_law_is_integer {f : Addr} {fd : FuncData} (k : Kn K mg "_law_is_integer" s_law_is_integer ["actual"] f fd) (z : Z mg) :
    Cal P w K mg base 1 "_law_is_integer" ["actual"] (spIsInt) f fd := k.cal (by
  refine k.F.ok sc_law_is_integer (fun vs H Q E h => ?_) (fun cdv A outer s H vs Q E hr h => ?_)
  · obtain ⟨x, rfl, _⟩ := h; rfl
  · obtain ⟨x, rfl, hx, q⟩ := h
    refine ⟨_, (pss_one (ps_ret (pe_and (pe_callB call_isi (by rfl) z.isinstance (by decide +kernel) (pa_cons (pv 0) (pa_cons (pe_bltn (v := .ty "int") (u := .type "int") (by rfl) z.int (by decide +kernel) rfl) pa_nil))) (pe_one (pe_not (pe_callB call_isi (by rfl) z.isinstance (by decide +kernel) (pa_cons (pv 0) (pa_cons (pe_bltn (v := .ty "bool") (u := .type "bool") (by rfl) z.bool (by decide +kernel) rfl) pa_nil)))))))), ?_⟩
    obtain ⟨t, hT, c⟩ := ty_scal (K := K) (H := H) hx
    rcases c with ⟨rfl, rfl⟩ | ⟨⟨b, rfl⟩, rfl⟩ | ⟨⟨i, rfl⟩, rfl⟩ | ⟨⟨y, rfl⟩, rfl⟩
    · exact ⟨_, rfl, _, _, _, _, false, rfl, .ty _, hT, kit_ty (by decide +kernel), ⟨_, rfl, q⟩⟩
    · exact ⟨_, rfl, _, _, _, _, true, rfl, .ty _, hT, kit_ty (by decide +kernel), ⟨_, rfl, ⟨_, rfl, _, _, _, _, true, rfl, .ty _, hT, kit_ty (by decide +kernel), ⟨_, rfl, q⟩⟩⟩⟩
    · exact ⟨_, rfl, _, _, _, _, true, rfl, .ty _, hT, kit_ty (by decide +kernel), ⟨_, rfl, ⟨_, rfl, _, _, _, _, false, rfl, .ty _, hT, kit_ty (by decide +kernel), ⟨_, rfl, q⟩⟩⟩⟩
    · exact ⟨_, rfl, _, _, _, _, false, rfl, .ty _, hT, kit_ty (by decide +kernel), ⟨_, rfl, q⟩⟩)

theorem no_same {f : Addr} {fd : FuncData} : FnOk P w K mg base CX0 0 f fd ["actual", "expected"] (spSameE 0) := by
  have no : ∀ vs H Q E, ¬ spSameE 0 vs H Q E := fun vs H Q E h => by
    rcases h with ⟨x, y, g, g', D, E', _, _, _, _, _, h1, _⟩ | ⟨h1, _⟩
    · exact Nat.not_lt_zero _ h1
    · omega
  exact ⟨fun vs H Q E h => absurd h (no vs H Q E), fun A outer s H args us vs Q E _ _ _ _ h => absurd h (no vs H Q E)⟩
theorem ok_items {n : Nat} {f g : Addr} {fd gd : FuncData} (k : Kn K mg "_law_same_items" s_law_same_items ["actual", "expected"] f fd) (z : Z mg)
    (c_law_same : Cal P w K mg base (2 * n) "_law_same" ["actual", "expected"] (spSameE n) g gd) : Cal P w K mg base (2 * n + 1) "_law_same_items" ["actual", "expected"] (spItemsE n) f fd := k.cal (by
  refine k.F.ok sc_law_same_items (fun vs H Q E h => ?_) (fun cdv A outer s H vs Q E hr h => ?_)
  · obtain ⟨a, b, xs, ys, rfl, _⟩ := h; rfl
  · obtain ⟨a, b, xs, ys, rfl, hk, hl, h1, each, q⟩ := h
    have A1 : SqL K H a xs ∨ SqT K H a xs := by rcases hk with hk | hk; exact .inl (SqL.of hk.1); exact .inr (SqT.of hk.1)
    have B1 : SqL K H b ys ∨ SqT K H b ys := by rcases hk with hk | hk; exact .inl (SqL.of hk.2); exact .inr (SqT.of hk.2)
    refine ⟨_, (pss_cons (ps_if (pt_cmpR op_ne (pe_callB call_len_seq (by rfl) z.len (by decide +kernel) (pa_cons (pv 0) pa_nil)) (pe_callB call_len_seq (by rfl) z.len (by decide +kernel) (pa_cons (pv 1) pa_nil)) (nomark _)) (pss_one (ps_ret pe_bl)) pss_nil)
    (pss_cons (ps_for PassesOwn.never rfl (pi_range1 (by rfl) z.range (pa_cons (pe_callB call_len_seq (by rfl) z.len (by decide +kernel) (pa_cons (pv 1) pa_nil)) pa_nil)) (pg_name (i := 2) sc_law_same_items.nd rfl (Or.inl rfl))
    (pss_one (ps_if (pt_not (pt_val (pe_call c_law_same.G (hr.mono (by omega)) (by rfl) c_law_same.m c_law_same.kp c_law_same.b .nil pass0 (pa_cons (pe_ix ix_seq (pv 0) (pv 2) (fun _ _ => rfl)) (pa_cons (pe_ix ix_seq (pv 1) (pv 2) (fun _ _ => rfl)) pa_nil))))) (pss_one (ps_ret pe_bl)) pss_nil)))
    (pss_one (ps_ret pe_bl)))), ?_⟩
    refine ⟨_, rfl, a, _, rfl, A1, _, rfl, b, _, rfl, B1, rfl, _, rfl, ?_⟩
    refine iteNS (by rw [hl]) ?_
    refine ⟨_, rfl, b, _, rfl, B1, _, rfl, (by omega), (by omega), for_range (lo := 0) (n := ys.length) (fun i σ H2 => (∃ v, σ = [some (.ref a), some (.ref b), v]) ∧ H2 = H) ⟨⟨none, rfl⟩, rfl⟩ ?_ ?_⟩
    · rintro i σ H2 hi ⟨⟨v, rfl⟩, rfl⟩
      have hx : xs[i]? = some xs[i] := List.getElem?_eq_getElem (by omega)
      have hy : ys[i]? = some ys[i] := List.getElem?_eq_getElem hi
      obtain ⟨g1, g2, E1, E2, p1, p2, ge, hdis, hd⟩ := each i _ _ hx hy
      refine ⟨_, rfl, _, rfl, ixq A1 (at_of (by omega) hx) ⟨_, rfl, _, rfl, ixq B1 (at_of (by omega) hy) (.inl ⟨_, _, g1, g2, E1, E2, rfl, p1, p2, ge, hdis, hd, ⟨_, rfl, ?_⟩⟩)⟩⟩
      exact iteF ⟨⟨_, rfl⟩, rfl⟩
    · rintro σ H2 ⟨⟨v, rfl⟩, rfl⟩
      exact q)
theorem ok_same {n : Nat} {f g i : Addr} {fd gd ii : FuncData} (k : Kn K mg "_law_same" s_law_same ["actual", "expected"] f fd) (z : Z mg)
    (c_law_same : Cal P w K mg base (2 * n) "_law_same" ["actual", "expected"] (spSameE n) f fd)
    (c_law_is_integer : Cal P w K mg base 1 "_law_is_integer" ["actual"] spIsInt i ii)
    (c_law_same_items : Cal P w K mg base (2 * n + 1) "_law_same_items" ["actual", "expected"] (spItemsE n) g gd) : Cal P w K mg base (2 * n + 2) "_law_same" ["actual", "expected"] (spSameE (n + 1)) f fd := k.cal (by
  refine k.F.ok sc_law_same (fun vs H Q E h => ?_) (fun cdv A outer s H vs Q E hr h => ?_)
  · rcases h with ⟨x, y, g, g', D, E', rfl, _⟩ | ⟨_, a, b, ns, rfl, _⟩ <;> rfl
  · have hu := hu_of hr
    refine ⟨_, (pss_cons (ps_if (pt_cmpR op_isN (pv 1) pe_non (nomark _)) (pss_one (ps_ret (pe_cmpR op_isN (pv 0) pe_non (nomark _)))) pss_nil)
    (pss_cons (ps_if (pt_val (pe_callB call_isi (by rfl) z.isinstance (by decide +kernel) (pa_cons (pv 1) (pa_cons (pe_bltn (v := .ty "bool") (u := .type "bool") (by rfl) z.bool (by decide +kernel) rfl) pa_nil)))) (pss_one (ps_ret (pe_and (pe_callB call_isi (by rfl) z.isinstance (by decide +kernel) (pa_cons (pv 0) (pa_cons (pe_bltn (v := .ty "bool") (u := .type "bool") (by rfl) z.bool (by decide +kernel) rfl) pa_nil))) (pe_one (pe_cmpR op_eq (pv 0) (pv 1) (nomark _)))))) pss_nil)
    (pss_cons (ps_if (pt_val (pe_callB call_isi (by rfl) z.isinstance (by decide +kernel) (pa_cons (pv 1) (pa_cons (pe_bltn (v := .ty "int") (u := .type "int") (by rfl) z.int (by decide +kernel) rfl) pa_nil)))) (pss_one (ps_ret (pe_and (pe_call c_law_is_integer.G (hr.mono (by omega)) (by rfl) c_law_is_integer.m c_law_is_integer.kp c_law_is_integer.b .nil pass0 (pa_cons (pv 0) pa_nil)) (pe_one (pe_cmpR op_eq (pv 0) (pv 1) (nomark _)))))) pss_nil)
    (pss_cons (ps_if (pt_val (pe_callB call_isi (by rfl) z.isinstance (by decide +kernel) (pa_cons (pv 1) (pa_cons (pe_bltn (v := .ty "str") (u := .type "str") (by rfl) z.str (by decide +kernel) rfl) pa_nil)))) (pss_one (ps_ret (pe_and (pe_callB call_isi (by rfl) z.isinstance (by decide +kernel) (pa_cons (pv 0) (pa_cons (pe_bltn (v := .ty "str") (u := .type "str") (by rfl) z.str (by decide +kernel) rfl) pa_nil))) (pe_one (pe_cmpR op_eq (pv 0) (pv 1) (nomark _)))))) pss_nil)
    (pss_cons (ps_if (pt_val (pe_callB call_isi (by rfl) z.isinstance (by decide +kernel) (pa_cons (pv 1) (pa_cons (pe_bltn (v := .ty "tuple") (u := .type "tuple") (by rfl) z.tuple (by decide +kernel) rfl) pa_nil)))) (pss_one (ps_ret (pe_and (pe_callB call_isi (by rfl) z.isinstance (by decide +kernel) (pa_cons (pv 0) (pa_cons (pe_bltn (v := .ty "tuple") (u := .type "tuple") (by rfl) z.tuple (by decide +kernel) rfl) pa_nil))) (pe_one (pe_call c_law_same_items.G (hr.mono (by omega)) (by rfl) c_law_same_items.m c_law_same_items.kp c_law_same_items.b .nil pass0 (pa_cons (pv 0) (pa_cons (pv 1) pa_nil))))))) pss_nil)
    (pss_cons (ps_if (pt_val (pe_callB call_isi (by rfl) z.isinstance (by decide +kernel) (pa_cons (pv 1) (pa_cons (pe_bltn (v := .ty "list") (u := .type "list") (by rfl) z.list (by decide +kernel) rfl) pa_nil)))) (pss_one (ps_ret (pe_and (pe_callB call_isi (by rfl) z.isinstance (by decide +kernel) (pa_cons (pv 0) (pa_cons (pe_bltn (v := .ty "list") (u := .type "list") (by rfl) z.list (by decide +kernel) rfl) pa_nil))) (pe_one (pe_call c_law_same_items.G (hr.mono (by omega)) (by rfl) c_law_same_items.m c_law_same_items.kp c_law_same_items.b .nil pass0 (pa_cons (pv 0) (pa_cons (pv 1) pa_nil))))))) pss_nil)
    (pss_cons (ps_if (PW.pt (pw_or (pt_not (pt_val (pe_callB call_isi (by rfl) z.isinstance (by decide +kernel) (pa_cons (pv 0) (pa_cons (pe_bltn (v := .ty "dict") (u := .type "dict") (by rfl) z.dict (by decide +kernel) rfl) pa_nil))))) (pw_or1 (pt_cmpR op_ne (pe_callB call_lenD (by rfl) z.len (by decide +kernel) (pa_cons (pv 0) pa_nil)) (pe_callB call_lenD (by rfl) z.len (by decide +kernel) (pa_cons (pv 1) pa_nil)) (nomark _))))) (pss_one (ps_ret pe_bl)) pss_nil)
    (pss_cons (ps_lock (ps_for PassesOwn.never rfl (pi_keys (pv 1)) (pg_name (i := 2) sc_law_same.nd rfl (Or.inl rfl))
    (pss_one (ps_if (PW.pt (pw_or (pt_cmp (pc_dnotin hu (pv 2) (pv 0))) (pw_or1 (pt_not (pt_val (pe_call c_law_same.G (hr.mono (by omega)) (by rfl) c_law_same.m c_law_same.kp c_law_same.b .nil pass0 (pa_cons (pe_dget hu (pv 0) (pv 2) (fun _ _ => rfl)) (pa_cons (pe_dget hu (pv 1) (pv 2) (fun _ _ => rfl)) pa_nil)))))))) (pss_one (ps_ret pe_bl)) pss_nil))))
    (pss_cons (ps_lock (ps_for PassesOwn.never rfl (pi_keys (pv 0)) (pg_name (i := 2) sc_law_same.nd rfl (Or.inl rfl))
    (pss_one (ps_if (pt_val (pe_callB call_isi (by rfl) z.isinstance (by decide +kernel) (pa_cons (pv 2) (pa_cons (pe_bltn (v := .ty "bool") (u := .type "bool") (by rfl) z.bool (by decide +kernel) rfl) pa_nil)))) (pss_one (ps_ret pe_bl)) pss_nil))))
    (pss_one (ps_ret pe_bl))))))))))), ?_⟩
    rcases h with ⟨x, y, g, g', D, E', rfl, hx, hy, ge, hdis, hdep, q⟩ | ⟨n2, a, b, ns, rfl, ha, hb, hl, q⟩
    · cases ge with
      | s v =>
        cases hx with
        | s hs =>
        cases hy with
        | s _ =>
        obtain ⟨t, hT, c⟩ := ty_scal (K := K) (H := H) hs
        rcases c with ⟨rfl, rfl⟩ | ⟨⟨b, rfl⟩, rfl⟩ | ⟨⟨i, rfl⟩, rfl⟩ | ⟨⟨y, rfl⟩, rfl⟩
        · exact ⟨_, rfl, rfl, _, rfl, iteDT rfl ⟨_, rfl, rfl, bl_T rfl q⟩⟩
        · refine ⟨_, rfl, rfl, _, rfl, iteDF (fun e => nomatch e) ⟨_, rfl, _, _, _, _, true, rfl, .ty _, hT, kit_ty (by decide +kernel), ⟨_, rfl, ?_⟩⟩⟩
          exact ⟨_, rfl, _, _, _, _, true, rfl, .ty _, hT, kit_ty (by decide +kernel), ⟨_, rfl, ⟨_, rfl, _, rfl, rfl, bl_T rfl q⟩⟩⟩
        · refine ⟨_, rfl, rfl, _, rfl, iteDF (fun e => nomatch e) ⟨_, rfl, _, _, _, _, false, rfl, .ty _, hT, kit_ty (by decide +kernel), ⟨_, rfl, ?_⟩⟩⟩
          refine ⟨_, rfl, _, _, _, _, true, rfl, .ty _, hT, kit_ty (by decide +kernel), ⟨_, rfl, ?_⟩⟩
          exact ⟨_, rfl, _, rfl, rfl, ⟨_, rfl, ⟨_, rfl, _, rfl, rfl, bl_T rfl q⟩⟩⟩
        · refine ⟨_, rfl, rfl, _, rfl, iteDF (fun e => nomatch e) ⟨_, rfl, _, _, _, _, false, rfl, .ty _, hT, kit_ty (by decide +kernel), ⟨_, rfl, ?_⟩⟩⟩
          refine ⟨_, rfl, _, _, _, _, false, rfl, .ty _, hT, kit_ty (by decide +kernel), ⟨_, rfl, ?_⟩⟩
          refine ⟨_, rfl, _, _, _, _, true, rfl, .ty _, hT, kit_ty (by decide +kernel), ⟨_, rfl, ?_⟩⟩
          exact ⟨_, rfl, _, _, _, _, true, rfl, .ty _, hT, kit_ty (by decide +kernel), ⟨_, rfl, ⟨_, rfl, _, rfl, rfl, bl_T rfl q⟩⟩⟩
      | @l gs hs lg hg =>
        cases hx with
        | @l a xs _ D hxa hn rx =>
        cases hy with
        | @l b ys _ E2 hyb hm ry =>
        have hA : TyX K H (.ref a) (.type "list") := .base (.lst hxa)
        have hB : TyX K H (.ref b) (.type "list") := .base (.lst hyb)
        have hd : ∀ g ∈ hs, g.dep < n := fun g hg => by have := depL_mem hg; simp only [G.dep] at hdep; omega
        refine ⟨_, rfl, rfl, _, rfl, iteDF (fun e => nomatch e) ⟨_, rfl, _, _, _, _, false, rfl, .ty _, hB, kit_ty (by decide +kernel), ⟨_, rfl, ?_⟩⟩⟩
        refine ⟨_, rfl, _, _, _, _, false, rfl, .ty _, hB, kit_ty (by decide +kernel), ⟨_, rfl, ?_⟩⟩
        refine ⟨_, rfl, _, _, _, _, false, rfl, .ty _, hB, kit_ty (by decide +kernel), ⟨_, rfl, ?_⟩⟩
        refine ⟨_, rfl, _, _, _, _, false, rfl, .ty _, hB, kit_ty (by decide +kernel), ⟨_, rfl, ?_⟩⟩
        refine ⟨_, rfl, _, _, _, _, true, rfl, .ty _, hB, kit_ty (by decide +kernel), ⟨_, rfl, ?_⟩⟩
        refine ⟨_, rfl, _, _, _, _, true, rfl, .ty _, hA, kit_ty (by decide +kernel), ⟨_, rfl, ⟨_, rfl, _, rfl, a, b, xs, ys, rfl, .inl ⟨hxa, hyb⟩, by rw [rx.length, ry.length, lg], by omega, fun i x y ex ey => ?_, q⟩⟩⟩
        obtain ⟨g1, F1, e1, p1, i1⟩ := rx.get ex
        obtain ⟨g2, F2, e2, p2, i2⟩ := ry.get ey
        exact ⟨g1, g2, F1, F2, p1, p2, hg i g1 g2 e1 e2, fun c h1 h2 => hdis c (List.mem_cons_of_mem _ (i1 c h1)) (List.mem_cons_of_mem _ (i2 c h2)), hd g2 (List.mem_of_getElem? e2)⟩
      | @t gs hs lg hg =>
        cases hx with
        | @t a xs _ D hxa hn rx =>
        cases hy with
        | @t b ys _ E2 hyb hm ry =>
        have hA : TyX K H (.ref a) (.type "tuple") := .base (.tup hxa)
        have hB : TyX K H (.ref b) (.type "tuple") := .base (.tup hyb)
        have hd : ∀ g ∈ hs, g.dep < n := fun g hg => by have := depL_mem hg; simp only [G.dep] at hdep; omega
        refine ⟨_, rfl, rfl, _, rfl, iteDF (fun e => nomatch e) ⟨_, rfl, _, _, _, _, false, rfl, .ty _, hB, kit_ty (by decide +kernel), ⟨_, rfl, ?_⟩⟩⟩
        refine ⟨_, rfl, _, _, _, _, false, rfl, .ty _, hB, kit_ty (by decide +kernel), ⟨_, rfl, ?_⟩⟩
        refine ⟨_, rfl, _, _, _, _, false, rfl, .ty _, hB, kit_ty (by decide +kernel), ⟨_, rfl, ?_⟩⟩
        refine ⟨_, rfl, _, _, _, _, true, rfl, .ty _, hB, kit_ty (by decide +kernel), ⟨_, rfl, ?_⟩⟩
        refine ⟨_, rfl, _, _, _, _, true, rfl, .ty _, hA, kit_ty (by decide +kernel), ⟨_, rfl, ⟨_, rfl, _, rfl, a, b, xs, ys, rfl, .inr ⟨hxa, hyb⟩, by rw [rx.length, ry.length, lg], by omega, fun i x y ex ey => ?_, q⟩⟩⟩
        obtain ⟨g1, F1, e1, p1, i1⟩ := rx.get ex
        obtain ⟨g2, F2, e2, p2, i2⟩ := ry.get ey
        exact ⟨g1, g2, F1, F2, p1, p2, hg i g1 g2 e1 e2, fun c h1 h2 => hdis c (i1 c h1) (i2 c h2), hd g2 (List.mem_of_getElem? e2)⟩
      | @d ks ms fk lg hk hg =>
        cases hx with
        | @d a kvs _ D hxa hn nd rx fx =>
        cases hy with
        | @d b kws _ E2 hyb hm nd2 ry fy =>
        have hA : TyX K H (.ref a) (.type "dict") := .base (.dK hxa)
        have hB : TyX K H (.ref b) (.type "dict") := .base (.dK hyb)
        have hd : ∀ (k : Key) (g : G), (k, g) ∈ ms → g.dep < n := fun k g hg => by have := depK_mem hg; simp only [G.dep] at hdep; omega
        have hab : a ≠ b := fun e => by subst e; exact hdis a List.mem_cons_self List.mem_cons_self
        have hbD : b ∉ D := fun h => hdis b (List.mem_cons_of_mem _ h) List.mem_cons_self
        have hlen : kvs.length = kws.length := by
          have h1 := congrArg List.length rx.keys
          have h2 := congrArg List.length ry.keys
          rw [List.length_map, List.length_map] at h1 h2
          omega
        have ndk : (ks.map (·.1)).Nodup := by rw [← rx.keys]; exact nd
        refine ⟨_, rfl, rfl, _, rfl, iteDF (fun e => nomatch e) ⟨_, rfl, _, _, _, _, false, rfl, .ty _, hB, kit_ty (by decide +kernel), ⟨_, rfl, ?_⟩⟩⟩
        refine ⟨_, rfl, _, _, _, _, false, rfl, .ty _, hB, kit_ty (by decide +kernel), ⟨_, rfl, ?_⟩⟩
        refine ⟨_, rfl, _, _, _, _, false, rfl, .ty _, hB, kit_ty (by decide +kernel), ⟨_, rfl, ?_⟩⟩
        refine ⟨_, rfl, _, _, _, _, false, rfl, .ty _, hB, kit_ty (by decide +kernel), ⟨_, rfl, ?_⟩⟩
        refine ⟨_, rfl, _, _, _, _, false, rfl, .ty _, hB, kit_ty (by decide +kernel), ⟨_, rfl, ?_⟩⟩
        refine ⟨_, rfl, _, _, _, _, true, rfl, .ty _, hA, kit_ty (by decide +kernel), ⟨_, rfl, ?_⟩⟩
        refine ⟨_, rfl, a, kvs, rfl, hxa, _, rfl, b, kws, rfl, hyb, rfl, _, rfl, ?_⟩
        refine iteNS (by rw [hlen]) ?_
        refine ⟨b, .dK kws, hyb, True.intro, fun od => ?_⟩
        have hLa : (upd H b (.frz od (.dK kws))) a = some (.dK kvs) := by rw [upd_ne hab]; exact hxa
        refine ⟨_, rfl, b, od, rfl, .inl ⟨kws, upd_same, for_it walk_keys (fun i σ H2 => (∃ v, σ = [some (.ref a), some (.ref b), v]) ∧ H2 = upd H b (.frz od (.dK kws))) ⟨⟨none, rfl⟩, rfl⟩ (fun i σ H2 _ hh => by rw [hh.2]; exact upd_same) ?_ ?_⟩⟩
        · rintro i x σ H2 H2' hi ⟨⟨v, rfl⟩, rfl⟩ ⟨rfl, key, wv, ek, rfl⟩
          obtain ⟨g2, F2, e2, p2, i2⟩ := ry.get ek
          have hkm := hk _ (List.mem_of_getElem? e2)
          obtain ⟨vv, F1, evv, p1, i1⟩ := rx.lk ndk (List.mem_map.mpr ⟨_, hkm, rfl⟩)
          rw [lkG_mem ndk hkm] at p1
          have ga : DGet (upd H b (.frz od (.dK kws))) a (kV key) (some vv) := by
            have g := DGet.k (k := key) hLa
            rw [evv] at g
            exact g
          have gb : DGet (upd H b (.frz od (.dK kws))) b (kV key) (some wv) := .inl ⟨kws, key, .inr ⟨od, upd_same⟩, rfl, (valV_at nd2 ek).symm⟩
          refine ⟨_, rfl, _, rfl, a, _, rfl, ga, _, rfl, ?_⟩
          refine iteF ⟨_, rfl, _, rfl, a, vv, rfl, ga, _, rfl, _, rfl, b, wv, rfl, gb, .inl ⟨vv, wv, fk key, g2, F1, F2, rfl, p1.locked hyb (fun h => hbD (i1 b h)), p2.locked hyb (fun h => fy (i2 b h)), hg _ (List.mem_of_getElem? e2), fun c h1 h2 => hdis c (List.mem_cons_of_mem _ (i1 c h1)) (List.mem_cons_of_mem _ (i2 c h2)), hd _ _ (List.mem_of_getElem? e2), _, rfl, ?_⟩⟩
          exact iteF ⟨⟨_, rfl⟩, rfl⟩
        · rintro σ H2 ⟨⟨v, rfl⟩, rfl⟩
          refine ⟨upd_same, ?_⟩
          rw [upd_upd, upd_self hyb]
          refine ⟨a, .dK kvs, hxa, True.intro, fun oe => ?_⟩
          refine ⟨_, rfl, a, oe, rfl, .inl ⟨kvs, upd_same, for_it walk_keys (fun i σ H2 => (∃ v, σ = [some (.ref a), some (.ref b), v]) ∧ H2 = upd H a (.frz oe (.dK kvs))) ⟨⟨v, rfl⟩, rfl⟩ (fun i σ H2 _ hh => by rw [hh.2]; exact upd_same) ?_ ?_⟩⟩
          · rintro i x σ H2 H2' hi ⟨⟨v, rfl⟩, rfl⟩ ⟨rfl, key, wv, ek, rfl⟩
            cases key with
            | inl i0 => exact ⟨_, rfl, _, _, _, _, false, rfl, .ty _, .base (.int _), kit_ty (by decide +kernel), _, rfl, ⟨_, rfl⟩, rfl⟩
            | inr s0 => exact ⟨_, rfl, _, _, _, _, false, rfl, .ty _, .base (.str _), kit_ty (by decide +kernel), _, rfl, ⟨_, rfl⟩, rfl⟩
          · rintro σ H2 ⟨⟨v, rfl⟩, rfl⟩
            refine ⟨upd_same, ?_⟩
            rw [upd_upd, upd_self hxa]
            exact q
    · have hA : TyX K H (.ref a) (.type "list") := .base (.lst ha)
      have hB : TyX K H (.ref b) (.type "list") := .base (.lst hb)
      refine ⟨_, rfl, rfl, _, rfl, iteDF (fun e => nomatch e) ⟨_, rfl, _, _, _, _, false, rfl, .ty _, hB, kit_ty (by decide +kernel), ⟨_, rfl, ?_⟩⟩⟩
      refine ⟨_, rfl, _, _, _, _, false, rfl, .ty _, hB, kit_ty (by decide +kernel), ⟨_, rfl, ?_⟩⟩
      refine ⟨_, rfl, _, _, _, _, false, rfl, .ty _, hB, kit_ty (by decide +kernel), ⟨_, rfl, ?_⟩⟩
      refine ⟨_, rfl, _, _, _, _, false, rfl, .ty _, hB, kit_ty (by decide +kernel), ⟨_, rfl, ?_⟩⟩
      refine ⟨_, rfl, _, _, _, _, true, rfl, .ty _, hB, kit_ty (by decide +kernel), ⟨_, rfl, ?_⟩⟩
      refine ⟨_, rfl, _, _, _, _, true, rfl, .ty _, hA, kit_ty (by decide +kernel), ⟨_, rfl, ⟨_, rfl, _, rfl, a, b, _, _, rfl, .inl ⟨ha, hb⟩, rfl, by rw [List.length_map]; exact hl, fun i x y ex ey => ?_, q⟩⟩⟩
      obtain ⟨c, rfl, hc⟩ := int_at ex
      rw [ex] at ey
      cases ey
      exact ⟨_, _, [], [], .s rfl, .s rfl, .s _, (fun c h => by cases h), (by simp only [G.dep]; omega)⟩)
theorem ok_law_same {f g i : Addr} {fd gd ii : FuncData} (k : Kn K mg "_law_same" s_law_same ["actual", "expected"] f fd) (kI : Kn K mg "_law_same_items" s_law_same_items ["actual", "expected"] g gd) (z : Z mg)
    (c_law_is_integer : Cal P w K mg base 1 "_law_is_integer" ["actual"] spIsInt i ii) : ∀ n : Nat, Cal P w K mg base (2 * n) "_law_same" ["actual", "expected"] (spSameE n) f fd
  | 0 => k.cal no_same
  | n + 1 => by
    have h := ok_law_same k kI z c_law_is_integer n
    exact ok_same k z h c_law_is_integer (ok_items kI z h)
theorem ok_law_expected {f : Addr} {fd : FuncData} (k : Kn K mg "_law_expected" s_law_expected ["schema", "before", "after"] f fd) (z : Z mg) :
    Cal P w K mg base 1 "_law_expected" ["schema", "before", "after"] (spDiffer) f fd := k.cal (by
  refine k.F.ok sc_law_expected (fun vs H Q E h => ?_) (fun cdv A outer s H vs Q E hr h => ?_)
  · obtain ⟨S, s, T1, st1, T2, st2, rfl, _⟩ := h; rfl
  · obtain ⟨S, s, T1, st1, T2, st2, rfl, hS, A1, A2, M1, M2, l1, l2, dj, q⟩ := h
    have hu := hu_of hr
    refine ⟨_, (pss_cons (ps_set (i := 3) sc_law_expected.nd rfl (Or.inl rfl) (pe_lst pa_nil))
        (pss_cons (ps_for PassesOwn.never rfl (pi_list (pe_callB (call_sortedK rfl) (by rfl) z.sorted (by decide +kernel) (pa_cons (pv 0) pa_nil))) (pg_name (i := 4) sc_law_expected.nd rfl (Or.inr rfl))
        (pss_cons (ps_set (i := 6) sc_law_expected.nd rfl (Or.inl rfl) (pe_op op_cat (pe_lock (pe_lc (own := [("key", 5)]) (g := gName 5) (tt := tYes) (by rfl) sc_law_expected.nd (pi_keys (pe_dget hu (pv 1) (pv 4) (fun _ _ => rfl))) (blkOk_by (own := [("key", 5)]) (N := ["schema", "before", "after", "edits", "table", "key", "keys"]) (sc := defScope s_law_expected) (by decide +kernel)) (fun _ _ _ _ _ => pg_name (i := 5) sc_law_expected.nd rfl (Or.inl rfl)) (fun _ _ _ _ _ => pts_nil) (fun _ _ _ _ _ => (pv 5)))) (pe_lock (pe_lc (own := [("key", 5)]) (g := gName 5) (by rfl) sc_law_expected.nd (pi_keys (pe_dget hu (pv 2) (pv 4) (fun _ _ => rfl))) (blkOk_by (own := [("key", 5)]) (N := ["schema", "before", "after", "edits", "table", "key", "keys"]) (sc := defScope s_law_expected) (by decide +kernel)) (fun _ _ _ _ _ => pg_name (i := 5) sc_law_expected.nd rfl (Or.inl rfl)) (fun _ _ _ _ _ => (pts_one (pt_cmp (pc_dnotin hu (pv 5) (pe_dget hu (pv 1) (pv 4) (fun _ _ => rfl)))))) (fun _ _ _ _ _ => (pv 5))))))
        (pss_one (ps_for PassesOwn.never rfl (pi_list (pe_callB call_sortKL (by rfl) z.sorted (by decide +kernel) (pa_cons (pv 6) pa_nil))) (pg_name (i := 5) sc_law_expected.nd rfl (Or.inl rfl))
        (pss_one (ps_if (pt_cmp (pc_dnotin hu (pv 5) (pe_dget hu (pv 2) (pv 4) (fun _ _ => rfl)))) (pss_one (ps_expr (pe_bm PySem.F.plainAttrs_list PySem.F.slot_list_append PySem.F.type_list_append mt_append (pv 3) (pa_cons (pe_tup (pa_cons pe_str (pa_cons (pv 4) (pa_cons (pv 5) pa_nil)))) pa_nil)))) (pss_one (ps_if (pt_cmp (pc_dnotin hu (pv 5) (pe_dget hu (pv 1) (pv 4) (fun _ _ => rfl)))) (pss_one (ps_expr (pe_bm PySem.F.plainAttrs_list PySem.F.slot_list_append PySem.F.type_list_append mt_append (pv 3) (pa_cons (pe_tup (pa_cons pe_str (pa_cons (pv 4) (pa_cons (pe_op op_catA (pe_tup (pa_cons (pv 5) pa_nil)) (pe_dget hu (pe_dget hu (pv 2) (pv 4) (fun _ _ => rfl)) (pv 5) (fun _ _ => rfl))) pa_nil)))) pa_nil)))) (pss_one (ps_if (pt_cmpR (op_neD hr.units) (pe_dget hu (pe_dget hu (pv 1) (pv 4) (fun _ _ => rfl)) (pv 5) (fun _ _ => rfl)) (pe_dget hu (pe_dget hu (pv 2) (pv 4) (fun _ _ => rfl)) (pv 5) (fun _ _ => rfl)) (nomark _)) (pss_one (ps_expr (pe_bm PySem.F.plainAttrs_list PySem.F.slot_list_append PySem.F.type_list_append mt_append (pv 3) (pa_cons (pe_tup (pa_cons pe_str (pa_cons (pv 4) (pa_cons (pe_op op_catA (pe_tup (pa_cons (pv 5) pa_nil)) (pe_dget hu (pe_dget hu (pv 2) (pv 4) (fun _ _ => rfl)) (pv 5) (fun _ _ => rfl))) pa_nil)))) pa_nil)))) pss_nil))))))))))
        (pss_one (ps_ret (pv 3))))), ?_⟩
    refine ⟨Nat.zero_le _, fun Z hZ => ?_⟩
    have e1 := same_new hZ (.lst [])
    refine ⟨_, rfl, S, schK s, rfl, .inl (e1 _ _ hS.sk), (by rw [sch_keys]; exact .inr ⟨schN s, rfl⟩), fun ys N hper hsrt hN => ?_⟩
    rw [sch_keys] at hper
    obtain rfl := sortK_eq hper hsrt
    rw [names_kV]
    have NZ : N ≠ Z := fun e => by rw [e, upd_same] at hN; cases hN
    have e2 := same_new hN (.lst ((nsOf s).map V.str))
    refine ⟨N, rfl, ⟨_, SqL.of upd_same⟩, for_it walk_list (fun i σ H' => ∃ xs v4 v5 v6, σ = [some (.ref S), some (.ref T1), some (.ref T2), some (.ref Z), v4, v5, v6] ∧ H' Z = some (.lst xs) ∧ TpL H' xs ((((nsOf s).take i).flatMap fun n => diffT n (rwsOf (stM st1) n) (rwsOf (stM st2) n)).map edD) ∧ xs.length ≤ i * 200 ∧ H' N = some (.lst ((nsOf s).map V.str)) ∧ Same H H') ⟨[], none, none, none, rfl, e2 _ _ upd_same, .nil, Nat.zero_le _, upd_same, e1.trans e2⟩ (fun i σ H' _ ⟨_, _, _, _, _, _, _, _, e, _⟩ => SqL.of e) ?_ ?_⟩
    rotate_left
    · rintro σ H3 ⟨xs, v4, v5, v6, rfl, hZ3, hx3, _, _, s3⟩
      refine ⟨_, rfl, q Z xs H3 hZ3 ?_ s3 hZ⟩
      rw [List.length_map, List.take_length, ← diffM_eq] at hx3
      exact hx3
    rintro i x σ Hx H3 hi ⟨xs, v4, v5, v6, rfl, hZ3, hx3, lx, hN3, s3⟩ ⟨rfl, ex⟩
    rw [List.length_map] at hi
    have ey : (nsOf s)[i]? = some (nsOf s)[i] := List.getElem?_eq_getElem hi
    rw [List.getElem?_map, ey] at ex
    cases ex
    have hm := List.getElem_mem hi
    have tk : (nsOf s).take (i + 1) = (nsOf s).take i ++ [(nsOf s)[i]] := by rw [List.take_succ, ey]; rfl
    generalize (nsOf s)[i] = n at ey hm tk
    have hn := nsOf_mem.mp hm
    have i6 : i < 6 := by rw [nsOf_len] at hi; have := hS.l6; omega
    have inst : ∀ {m : StM} {st : List TS}, stM st = m → MSt s m → ∃ p ∈ st, p.n = n := fun {m st} e M => st_in (by rw [← stM_names, e]; exact (M.inn n).mpr hn)
    obtain ⟨p1, hp1, en1⟩ := inst rfl M1
    obtain ⟨p2, hp2, en2⟩ := inst rfl M2
    have B1 := A1.mono s3
    have B2 := A2.mono s3
    have w1 : rwsOf (stM st1) n = rM p1.rs := by rw [← en1]; exact rwsOf_in A1.nm hp1
    have w2 : rwsOf (stM st2) n = rM p2.rs := by rw [← en2]; exact rwsOf_in A2.nm hp2
    have g1 : ∀ {H' : Hp}, H' T1 = some (.dK (stK st1)) → DGet H' T1 (.str n) (some (.ref p1.d)) := fun {H'} h => by
      have g := DGet.k (k := (Sum.inr n : Key)) h
      rw [← en1, st_get A1.nm hp1] at g
      rw [← en1]; exact g
    have g2 : ∀ {H' : Hp}, H' T2 = some (.dK (stK st2)) → DGet H' T2 (.str n) (some (.ref p2.d)) := fun {H'} h => by
      have g := DGet.k (k := (Sum.inr n : Key)) h
      rw [← en2, st_get A2.nm hp2] at g
      rw [← en2]; exact g
    have D1 := B1.ds p1 hp1
    have D2 := B2.ds p2 hp2
    have ll1 := l1 p1 hp1
    have ll2 := l2 p2 hp2
    refine ⟨p1.d, .dK (roK p1.rs), D1.dk, True.intro, fun od => ?_⟩
    have T1d : T1 ≠ p1.d := fun e => st_neT A1 p1 hp1 e.symm
    refine ⟨_, rfl, _, rfl, T1, _, rfl, g1 (by rw [upd_ne T1d]; exact B1.sk), p1.d, od, rfl, .inl ⟨roK p1.rs, upd_same, fun N1 hN1 => inner walk_keys (fun i H' => H' N1 = some (.lst (((roN p1.rs).take i).map kV)) ∧ H' p1.d = some (.frz od (.dK (roK p1.rs))) ∧ Same (upd H3 p1.d (.frz od (.dK (roK p1.rs)))) H') ⟨upd_same, by rw [upd_ne (fun z => by rw [← z, upd_same] at hN1; cases hN1)]; exact upd_same, same_new hN1 _⟩ (fun i H' _ hh => hh.2.1) ?_ ?_⟩⟩
    · rintro j x Hj H4 hj ⟨h3, h4, s4⟩ ⟨rfl, key, wv, ek, rfl⟩
      have ekj : (roN p1.rs)[j]? = some key := by rw [← roK_keys, List.getElem?_map, ek]; rfl
      have Na : p1.d ≠ N1 := fun z => by rw [z, h3] at h4; cases h4
      refine ⟨rfl, _, rfl, _, h3, ?_, ?_, ?_, same_upd hN1 _ s4⟩
      · rw [List.length_map, List.length_take]; exact small1000 (by rw [roK_len] at hj; omega)
      · rw [upd_same, List.take_succ, ekj, List.map_append]; rfl
      · rw [upd_ne Na]; exact h4
    rintro H4 ⟨h3, h4, s4⟩
    refine ⟨h4, ?_⟩
    rw [roK_len, List.take_of_length_le (by unfold roN; rw [List.length_map]; exact Nat.le_refl _)] at h3
    have f1 := unlockE D1.dk s4
    have Na : N1 ≠ p1.d := fun z => by rw [z, h4] at h3; cases h3
    have h3' : (upd H4 p1.d (.dK (roK p1.rs))) N1 = some (.lst ((roN p1.rs).map kV)) := by rw [upd_ne Na]; exact h3
    generalize upd H4 p1.d (.dK (roK p1.rs)) = H5 at f1 h3' ⊢
    have D2' := f1 _ _ D2.dk
    refine ⟨p2.d, .dK (roK p2.rs), D2', True.intro, fun oe => ?_⟩
    have T2d : T2 ≠ p2.d := fun e => st_neT A2 p2 hp2 e.symm
    have i1 : T1 ∈ stD T1 st1 := List.mem_cons_self
    have i2 : p1.d ∈ stD T1 st1 := List.mem_cons_of_mem _ (List.mem_map.mpr ⟨p1, hp1, rfl⟩)
    have i3 : p2.d ∈ stD T2 st2 := List.mem_cons_of_mem _ (List.mem_map.mpr ⟨p2, hp2, rfl⟩)
    have n1 : T1 ≠ p2.d := fun e => dj _ i1 (e ▸ i3)
    have n2 : p1.d ≠ p2.d := fun e => dj _ i2 (e ▸ i3)
    have hT1 := f1 _ _ B1.sk
    have hT2 := f1 _ _ B2.sk
    have hD1 := f1 _ _ D1.dk
    have fk : ∀ k : Key, (!(valV (roK p1.rs) k).isSome) = !((roN p1.rs).any fun j => decide (j = k)) := fun k => by
      congr 1
      rw [Bool.eq_iff_iff, valV_isSome, roK_keys]
      exact anyK.symm
    refine ⟨_, rfl, _, rfl, T2, _, rfl, g2 (by rw [upd_ne T2d]; exact hT2), p2.d, oe, rfl, .inl ⟨roK p2.rs, upd_same, fun N2 hN2 => inner walk_keys (fun i H' => H' N2 = some (.lst ((((roN p2.rs).take i).filter fun k => !((roN p1.rs).any fun j => decide (j = k))).map kV)) ∧ H' p2.d = some (.frz oe (.dK (roK p2.rs))) ∧ Same (upd H5 p2.d (.frz oe (.dK (roK p2.rs)))) H') ⟨upd_same, by rw [upd_ne (fun z => by rw [← z, upd_same] at hN2; cases hN2)]; exact upd_same, same_new hN2 _⟩ (fun i H' _ hh => hh.2.1) ?_ ?_⟩⟩
    · rintro j x Hj H6 hj ⟨h5, h6, s6⟩ ⟨rfl, key, wv, ek, rfl⟩
      have ekj : (roN p2.rs)[j]? = some key := by rw [← roK_keys, List.getElem?_map, ek]; rfl
      have Na2 : p2.d ≠ N2 := fun z => by rw [z, h5] at h6; cases h6
      refine ⟨rfl, _, rfl, _, rfl, _, rfl, T1, _, rfl, g1 (s6 _ _ (by rw [upd_ne n1]; exact hT1)), p1.d, _, rfl, DGet.k (s6 _ _ (by rw [upd_ne n2]; exact hD1)), _, rfl, ?_⟩
      rw [fk]
      have tk3 : (roN p2.rs).take (j + 1) = (roN p2.rs).take j ++ [key] := by rw [List.take_succ, ekj]; rfl
      cases hk : (roN p1.rs).any fun j => decide (j = key) with
      | true =>
        refine iteF ⟨?_, h6, s6⟩
        rw [tk3, List.filter_append, List.filter_cons, hk]
        show H6 N2 = some (.lst ((_ ++ []).map kV))
        rw [List.append_nil]; exact h5
      | false =>
        refine iteT ⟨_, rfl, _, h5, ?_, ?_, ?_, same_upd hN2 _ s6⟩
        · have := List.length_filter_le (fun k => !((roN p1.rs).any fun j => decide (j = k))) ((roN p2.rs).take j)
          rw [List.length_take] at this
          rw [List.length_map]; exact small1000 (by rw [roK_len] at hj; omega)
        · rw [upd_same, tk3, List.filter_append, List.filter_cons, hk, List.map_append]; rfl
        · rw [upd_ne Na2]; exact h6
    rintro H6 ⟨h5, h6, s6⟩
    refine ⟨h6, ?_⟩
    rw [roK_len, List.take_of_length_le (by unfold roN; rw [List.length_map]; exact Nat.le_refl _)] at h5
    have f2 := unlockE D2' s6
    have Na2 : N2 ≠ p2.d := fun z => by rw [z, h6] at h5; cases h5
    have h5' : (upd H6 p2.d (.dK (roK p2.rs))) N2 = some (.lst (((roN p2.rs).filter fun k => !((roN p1.rs).any fun j => decide (j = k))).map kV)) := by rw [upd_ne Na2]; exact h5
    generalize upd H6 p2.d (.dK (roK p2.rs)) = H7 at f2 h5' ⊢
    have lu : (unionK (roN p1.rs) (roN p2.rs)).length ≤ 200 := by
      have := unionK_len (roN p1.rs) (roN p2.rs)
      unfold roN at this ⊢
      rw [List.length_map, List.length_map] at this
      omega
    refine ⟨N1, N2, _, _, rfl, rfl, f2 _ _ h3', h5', ?_, fun N3 fN3 => ?_⟩
    · rw [← List.length_append, ← List.map_append, List.length_map]
      exact Nat.le_trans lu (by decide)
    have eu : roN p1.rs ++ (roN p2.rs).filter (fun k => !((roN p1.rs).any fun j => decide (j = k))) = unionK (roN p1.rs) (roN p2.rs) := rfl
    rw [← List.map_append, eu]
    have f3 := same_new fN3 (.lst ((unionK (roN p1.rs) (roN p2.rs)).map kV))
    have one : OneKind (unionK (roN p1.rs) (roN p2.rs)) := by
      obtain ⟨p, hp, en⟩ := sch_in hn
      refine one_keys (cols := p.2.cols) (hS.ok p hp).l0 fun k hk => ?_
      have row : ∀ {m : StM} {rs : List Ro}, MSt s m → rwsOf m n = rM rs → k ∈ roN rs → keyB p.2.cols (kV k) = true := fun {m rs} M e hk => by
        obtain ⟨r, hr, rfl⟩ := ro_mem hk
        have : optR (rwsOf m p.2.n) r.k = some r.vs := by
          rw [en]
          exact optR_of (rws_kn M n) (by rw [e]; exact List.mem_map.mpr ⟨r, hr, rfl⟩)
        exact row_key (M.row hp this)
      rcases unionK_mem.mp hk with h | h
      · exact row M1 w1 h
      · exact row M2 w2 h
    refine ⟨_, rfl, N3, unionK (roN p1.rs) (roN p2.rs), rfl, SqL.of upd_same, one, fun ys N4 hper2 hsrt2 hN4 => ?_⟩
    have f4 := same_new hN4 (.lst (ys.map kV))
    obtain rfl : ys = keysT (rwsOf (stM st1) n) (rwsOf (stM st2) n) := by
      rw [w1, w2]
      unfold keysT
      rw [rM_keys, rM_keys]
      exact sortK_eq hper2 hsrt2
    have f := ((f1.trans f2).trans f3).trans f4
    have N4Z : N4 ≠ Z := fun e => by
      have := ((f1.trans f2).trans f3) _ _ hZ3
      rw [e] at hN4
      exact absurd (this.symm.trans hN4) (fun z => nomatch z)
    have hN4' : (upd (upd H7 N3 (.lst ((unionK (roN p1.rs) (roN p2.rs)).map kV))) N4 (.lst ((keysT (rwsOf (stM st1) n) (rwsOf (stM st2) n)).map kV))) N4 = some (.lst ((keysT (rwsOf (stM st1) n) (rwsOf (stM st2) n)).map kV)) := upd_same
    generalize (upd (upd H7 N3 (.lst ((unionK (roN p1.rs) (roN p2.rs)).map kV))) N4 (.lst ((keysT (rwsOf (stM st1) n) (rwsOf (stM st2) n)).map kV))) = H8 at f hN4' ⊢
    have lys : (keysT (rwsOf (stM st1) n) (rwsOf (stM st2) n)).length ≤ 200 := by
      rw [w1, w2]
      unfold keysT
      rw [sortK_len, rM_keys, rM_keys]
      exact lu
    refine ⟨N4, rfl, ⟨_, SqL.of hN4'⟩, for_it walk_list (fun j σ H' => ∃ ys v5, σ = [some (.ref S), some (.ref T1), some (.ref T2), some (.ref Z), some (.str n), v5, some (.ref N3)] ∧ H' Z = some (.lst ys) ∧ TpL H' ys (((((nsOf s).take i).flatMap fun n => diffT n (rwsOf (stM st1) n) (rwsOf (stM st2) n)) ++ ((keysT (rwsOf (stM st1) n) (rwsOf (stM st2) n)).take j).flatMap fun k => rowDiff n k (optR (rwsOf (stM st1) n) k) (optR (rwsOf (stM st2) n) k)).map edD) ∧ ys.length ≤ i * 200 + j ∧ H' N4 = some (.lst ((keysT (rwsOf (stM st1) n) (rwsOf (stM st2) n)).map kV)) ∧ H' N = some (.lst ((nsOf s).map V.str)) ∧ Same H H') ⟨xs, _, rfl, f _ _ hZ3, ?_, lx, hN4', f _ _ hN3, s3.trans f⟩ (fun i σ H' _ ⟨_, _, _, _, _, _, e, _⟩ => SqL.of e) ?_ ?_⟩
    · rw [List.take_zero, List.flatMap_nil, List.append_nil]
      exact hx3.mono (KeepT.of f)
    rotate_left
    · rintro σ H9 ⟨ys, v5', rfl, hZ5, hx5, ly, _, hN5, s5⟩
      refine ⟨ys, _, _, _, rfl, hZ5, ?_, ?_, hN5, s5⟩
      · rw [tk, List.flatMap_append, List.flatMap_singleton]
        rw [List.length_map, List.take_length] at hx5
        exact hx5
      · rw [List.length_map] at ly
        rw [Nat.succ_mul]; omega
    rintro j x σ Hy H9 hj ⟨ys, v5', rfl, hZ5, hx5, ly, hq5', hN5, s5⟩ ⟨rfl, ex⟩
    rw [List.length_map] at hj
    have ez : (keysT (rwsOf (stM st1) n) (rwsOf (stM st2) n))[j]? = some (keysT (rwsOf (stM st1) n) (rwsOf (stM st2) n))[j] := List.getElem?_eq_getElem hj
    rw [List.getElem?_map, ez] at ex
    cases ex
    have tk2 : (keysT (rwsOf (stM st1) n) (rwsOf (stM st2) n)).take (j + 1) = (keysT (rwsOf (stM st1) n) (rwsOf (stM st2) n)).take j ++ [(keysT (rwsOf (stM st1) n) (rwsOf (stM st2) n))[j]] := by rw [List.take_succ, ez]; rfl
    have hkm := List.getElem_mem hj
    generalize (keysT (rwsOf (stM st1) n) (rwsOf (stM st2) n))[j] = k at ez tk2 hkm
    have C1 := A1.mono s5
    have C2 := A2.mono s5
    have E1 := C1.ds p1 hp1
    have E2 := C2.ds p2 hp2
    have o1 := E1.opt k
    have o2 := E2.opt k
    rw [← w1] at o1
    rw [← w2] at o2
    have k1 := M1.ok hS.ok hn k
    have k2 := M2.ok hS.ok hn k
    have e1k : optR (rwsOf (stM st1) n) k = none ↔ k ∉ roN p1.rs := by rw [w1, optR_none, rM_keys]
    have e2k : optR (rwsOf (stM st2) n) k = none ↔ k ∉ roN p2.rs := by rw [w2, optR_none, rM_keys]
    have sm : ∀ b : Bool, (!b) = !decide (b = true) := fun b => by cases b <;> rfl
    have sin : ∀ {rs : List Ro} {k : Key}, (valV (roK rs) k).isSome = true ↔ k ∈ roN rs := fun {rs k} => by rw [valV_isSome, roK_keys]
    have skip : rowDiff n k (optR (rwsOf (stM st1) n) k) (optR (rwsOf (stM st2) n) k) = [] → ∀ H2, Same H9 H2 → ∃ ys v5, [some (.ref S), some (.ref T1), some (.ref T2), some (.ref Z), some (.str n), some (kV k), some (.ref N3)] = [some (.ref S), some (.ref T1), some (.ref T2), some (.ref Z), some (.str n), v5, some (.ref N3)] ∧ H2 Z = some (.lst ys) ∧ TpL H2 ys (((((nsOf s).take i).flatMap fun n => diffT n (rwsOf (stM st1) n) (rwsOf (stM st2) n)) ++ ((keysT (rwsOf (stM st1) n) (rwsOf (stM st2) n)).take (j + 1)).flatMap fun k => rowDiff n k (optR (rwsOf (stM st1) n) k) (optR (rwsOf (stM st2) n) k)).map edD) ∧ ys.length ≤ i * 200 + (j + 1) ∧ H2 N4 = some (.lst ((keysT (rwsOf (stM st1) n) (rwsOf (stM st2) n)).map kV)) ∧ H2 N = some (.lst ((nsOf s).map V.str)) ∧ Same H H2 := fun e H2 s2 => by
      refine ⟨ys, _, rfl, s2 _ _ hZ5, ?_, by omega, s2 _ _ hq5', s2 _ _ hN5, s5.trans s2⟩
      rw [tk2, List.flatMap_append, List.flatMap_singleton, e, List.append_nil]
      exact hx5.mono (KeepT.of s2)
    have put : ∀ {e : Ed} {a : Addr} {H2 : Hp}, rowDiff n k (optR (rwsOf (stM st1) n) k) (optR (rwsOf (stM st2) n) k) = [e] → Same H9 H2 → Tp H2 (.ref a) (edD e) → rAppend (.ref Z) [.ref a] H2 fun _ H2 => ∃ ys v5, [some (.ref S), some (.ref T1), some (.ref T2), some (.ref Z), some (.str n), some (kV k), some (.ref N3)] = [some (.ref S), some (.ref T1), some (.ref T2), some (.ref Z), some (.str n), v5, some (.ref N3)] ∧ H2 Z = some (.lst ys) ∧ TpL H2 ys (((((nsOf s).take i).flatMap fun n => diffT n (rwsOf (stM st1) n) (rwsOf (stM st2) n)) ++ ((keysT (rwsOf (stM st1) n) (rwsOf (stM st2) n)).take (j + 1)).flatMap fun k => rowDiff n k (optR (rwsOf (stM st1) n) k) (optR (rwsOf (stM st2) n) k)).map edD) ∧ ys.length ≤ i * 200 + (j + 1) ∧ H2 N4 = some (.lst ((keysT (rwsOf (stM st1) n) (rwsOf (stM st2) n)).map kV)) ∧ H2 N = some (.lst ((nsOf s).map V.str)) ∧ Same H H2 := fun {e a H2} he s2 ht => by
      have hZ6 := s2 _ _ hZ5
      have ku : KeepT H2 (upd H2 Z (.lst (ys ++ [.ref a]))) := KeepT.upd fun vs z => by rw [hZ6] at z; cases z
      have stay : Same H (upd H2 Z (.lst (ys ++ [.ref a]))) := fun b o e => by
        rw [upd_ne (fun z => by rw [z, hZ] at e; cases e)]
        exact s2 _ _ (s5 _ _ e)
      refine ⟨Z, ys, .ref a, rfl, rfl, hZ6, Nat.lt_of_le_of_lt (by omega : _ ≤ 2000) (by decide), ?_⟩
      refine ⟨ys ++ [.ref a], _, rfl, upd_same, ?_, ?_, ?_, ?_, stay⟩
      · rw [tk2, List.flatMap_append, List.flatMap_singleton, he, ← List.append_assoc, List.map_append]
        exact ((hx5.mono (KeepT.of s2)).mono ku).snoc (ht.mono ku)
      · rw [List.length_append, List.length_singleton]; omega
      · rw [upd_ne N4Z]
        exact s2 _ _ hq5'
      · rw [upd_ne NZ]
        exact s2 _ _ hN5
    refine ⟨_, rfl, _, rfl, _, rfl, T2, _, rfl, g2 C2.sk, p2.d, _, rfl, DGet.k E2.dk, _, rfl, ?_⟩
    rw [sm (valV (roK p2.rs) k).isSome]
    have get1 : k ∈ roN p1.rs → ∃ r1 ∈ p1.rs, r1.k = k ∧ optR (rwsOf (stM st1) n) k = some r1.vs := fun h => by
      obtain ⟨r, hr, rfl⟩ := ro_mem h
      exact ⟨r, hr, rfl, by rw [w1]; exact optR_of (rM_nd D1.nd) (List.mem_map.mpr ⟨r, hr, rfl⟩)⟩
    have get2 : k ∈ roN p2.rs → ∃ r1 ∈ p2.rs, r1.k = k ∧ optR (rwsOf (stM st2) n) k = some r1.vs := fun h => by
      obtain ⟨r, hr, rfl⟩ := ro_mem h
      exact ⟨r, hr, rfl, by rw [w2]; exact optR_of (rM_nd D2.nd) (List.mem_map.mpr ⟨r, hr, rfl⟩)⟩
    refine ifN (fun hk2 => ?_) (fun hk2 => ?_)
    · have hk2 : k ∉ roN p2.rs := fun z => hk2 (sin.mpr z)
      have hk1 : k ∈ roN p1.rs := by
        have : k ∈ unionK (roN p1.rs) (roN p2.rs) := by
          unfold keysT at hkm
          rw [w1, w2, rM_keys, rM_keys] at hkm
          exact sortK_mem.mp hkm
        exact (unionK_mem.mp this).elim id fun z => absurd z hk2
      obtain ⟨r1, hr1, _, eo1⟩ := get1 hk1
      have e : rowDiff n k (optR (rwsOf (stM st1) n) k) (optR (rwsOf (stM st2) n) k) = [.del n (kV k)] := by
        rw [eo1, e2k.mpr hk2]; rfl
      refine ⟨_, rfl, .inl ⟨rfl, _, SqL.of hZ5⟩, _, rfl, _, rfl, (by show 3 ≤ sizeLine; decide), fun p hp => ?_⟩
      exact put e (same_new hp _) (del_tp upd_same)
    obtain ⟨r2, hr2, ek2, eo2⟩ := get2 (sin.mp hk2)
    subst ek2
    have hr2t := E2.rt r2 hr2
    have dg2 : DGet H9 p2.d (kV r2.k) (some (.ref r2.a)) := E2.get hr2
    have vw := fun x hx => ((k2 r2.vs eo2).2 x hx).1
    have lw := (k2 r2.vs eo2).1
    have row : ∀ {b : Bool} {H2 : Hp} {p1 : Addr}, Same H9 H2 → H2 p1 = some (.tup [kV r2.k]) → rowDiff n r2.k (optR (rwsOf (stM st1) n) r2.k) (optR (rwsOf (stM st2) n) r2.k) = [.row b n (kV r2.k :: r2.vs)] → rCatA K (.ref p1) (.ref r2.a) H2 fun y H3 => [V.str (edA (.row b n (kV r2.k :: r2.vs))), .str n, y].length ≤ sizeLine ∧ ∀ p, H3 p = none → rAppend (.ref Z) [.ref p] (upd H3 p (.tup [.str (edA (.row b n (kV r2.k :: r2.vs))), .str n, y])) fun _ H2 => ∃ ys v5, [some (.ref S), some (.ref T1), some (.ref T2), some (.ref Z), some (.str n), some (kV r2.k), some (.ref N3)] = [some (.ref S), some (.ref T1), some (.ref T2), some (.ref Z), some (.str n), v5, some (.ref N3)] ∧ H2 Z = some (.lst ys) ∧ TpL H2 ys (((((nsOf s).take i).flatMap fun n => diffT n (rwsOf (stM st1) n) (rwsOf (stM st2) n)) ++ ((keysT (rwsOf (stM st1) n) (rwsOf (stM st2) n)).take (j + 1)).flatMap fun k => rowDiff n k (optR (rwsOf (stM st1) n) k) (optR (rwsOf (stM st2) n) k)).map edD) ∧ ys.length ≤ i * 200 + (j + 1) ∧ H2 N4 = some (.lst ((keysT (rwsOf (stM st1) n) (rwsOf (stM st2) n)).map kV)) ∧ H2 N = some (.lst ((nsOf s).map V.str)) ∧ Same H H2 := fun {b H2 p1} s2 h1 he => by
      refine ⟨p1, r2.a, [kV r2.k], r2.vs, rfl, rfl, SqT.of h1, SqT.of (s2 _ _ hr2t), Nat.le_trans (by show 1 + r2.vs.length ≤ 100; omega) (by decide), (fun z => nomatch z), fun _ ew => ?_, fun _ _ p3 h3 => ?_⟩
      · refine ⟨(by show 3 ≤ sizeLine; decide), fun p hp => ?_⟩
        have s3 := same_new hp (.tup [.str (edA (.row b n (kV r2.k :: r2.vs))), .str n, .ref p1])
        exact put he (s2.trans s3) (row_tp (q := p1) ((s3 _ _ h1).trans (by rw [ew])) upd_same vw)
      · refine ⟨(by show 3 ≤ sizeLine; decide), fun p hp => ?_⟩
        have s3 := same_new h3 (.tup (kV r2.k :: r2.vs))
        have s4 := same_new hp (.tup [.str (edA (.row b n (kV r2.k :: r2.vs))), .str n, .ref p3])
        exact put he ((s2.trans s3).trans s4) (row_tp (s4 _ _ upd_same) upd_same vw)
    refine ⟨_, rfl, _, rfl, _, rfl, T1, _, rfl, g1 C1.sk, p1.d, _, rfl, DGet.k E1.dk, _, rfl, ?_⟩
    rw [sm (valV (roK p1.rs) r2.k).isSome]
    refine ifN (fun hk1 => ?_) (fun hk1 => ?_)
    · have e : rowDiff n r2.k (optR (rwsOf (stM st1) n) r2.k) (optR (rwsOf (stM st2) n) r2.k) = [.row true n (kV r2.k :: r2.vs)] := by
        rw [e1k.mpr fun z => hk1 (sin.mpr z), eo2]; rfl
      refine ⟨_, rfl, .inl ⟨rfl, _, SqL.of hZ5⟩, _, rfl, _, rfl, (by show 1 ≤ sizeLine; decide), fun q1 hq1 => ?_⟩
      have s1 := same_new hq1 (.tup [kV r2.k])
      refine ⟨_, rfl, _, rfl, T2, _, rfl, g2 (s1 _ _ C2.sk), _, rfl, p2.d, _, rfl, (E2.mono (KeepT.of s1) (fun o => s1 _ _)).get hr2, ?_⟩
      exact row (b := true) s1 upd_same e
    obtain ⟨r1, hr1, ek1, eo1⟩ := get1 (sin.mp hk1)
    have dg1 : DGet H9 p1.d (kV r2.k) (some (.ref r1.a)) := by rw [← ek1]; exact E1.get hr1
    refine ⟨_, rfl, _, rfl, T1, _, rfl, g1 C1.sk, _, rfl, p1.d, _, rfl, dg1, _, rfl, _, rfl, T2, _, rfl, g2 C2.sk, _, rfl, p2.d, _, rfl, dg2, ?_⟩
    have tp1 := k1.tp (v := .ref r1.a) (H := H9) (.inr ⟨r1.a, r1.vs, rfl, E1.rt r1 hr1, eo1⟩)
    have tp2 := k2.tp (v := .ref r2.a) (H := H9) (.inr ⟨r2.a, r2.vs, rfl, hr2t, eo2⟩)
    refine ⟨_, _, tp1.py, tp2.py, opt_shaped k1, opt_shaped k2, _, rfl, ?_⟩
    rw [opt_eqv k1 k2]
    refine ifN (fun hne => ?_) (fun he => ?_)
    · have e : rowDiff n r2.k (optR (rwsOf (stM st1) n) r2.k) (optR (rwsOf (stM st2) n) r2.k) = [.row false n (kV r2.k :: r2.vs)] := by
        rw [eo1, eo2]
        show (if r1.vs = r2.vs then [] else [Ed.row false n (kV r2.k :: r2.vs)]) = _
        rw [if_neg fun z => hne (by rw [eo1, eo2, z])]
      refine ⟨_, rfl, .inl ⟨rfl, _, SqL.of hZ5⟩, _, rfl, _, rfl, (by show 1 ≤ sizeLine; decide), fun q1 hq1 => ?_⟩
      have s1 := same_new hq1 (.tup [kV r2.k])
      refine ⟨_, rfl, _, rfl, T2, _, rfl, g2 (s1 _ _ C2.sk), _, rfl, p2.d, _, rfl, (E2.mono (KeepT.of s1) (fun o => s1 _ _)).get hr2, ?_⟩
      exact row (b := false) s1 upd_same e
    exact skip (rowDiff_nil.mpr he) _ (fun _ _ h => h))
theorem ok_law_touched {f : Addr} {fd : FuncData} (k : Kn K mg "_law_touched" s_law_touched ["edits"] f fd) (z : Z mg)
    {g_law_key_of : Addr} {gd_law_key_of : FuncData} (c_law_key_of : Cal P w K mg base 1 "_law_key_of" ["edit"] (spKeyOfE) g_law_key_of gd_law_key_of) :
    Cal P w K mg base 2 "_law_touched" ["edits"] (spTouch) f fd := k.cal (by
  refine k.F.ok sc_law_touched (fun vs H Q E h => ?_) (fun cdv A outer s H vs Q E hr h => ?_)
  · obtain ⟨L, xs, es, rfl, _⟩ := h; rfl
  · obtain ⟨L, xs, es, rfl, hL, hE, l64, ok, ag, q⟩ := h
    have hu := hu_of hr
    refine ⟨_, (pss_cons (ps_set (i := 1) sc_law_touched.nd rfl (Or.inl rfl) (pe_lst pa_nil))
        (pss_cons (ps_for PassesOwn.never rfl (pi_list (pv 0)) (pg_name (i := 2) sc_law_touched.nd rfl (Or.inl rfl))
        (pss_cons (ps_set (i := 3) sc_law_touched.nd rfl (Or.inl rfl) (pe_tup (pa_cons (pe_ix ix_tup (pv 2) pe_int (fun _ _ => rfl)) (pa_cons (pe_call c_law_key_of.G (hr.mono (by decide)) (by rfl) c_law_key_of.m c_law_key_of.kp c_law_key_of.b .nil pass0 (pa_cons (pv 2) pa_nil)) pa_nil))))
        (pss_one (ps_if (pt_cmpR (op_notInD (units_of hr)) (pv 3) (pv 1) (by rfl)) (pss_one (ps_expr (pe_bm PySem.F.plainAttrs_list PySem.F.slot_list_append PySem.F.type_list_append mt_append (pv 1) (pa_cons (pv 3) pa_nil)))) pss_nil))))
        (pss_one (ps_ret (pe_callB call_sortPL (by rfl) z.sorted (by decide +kernel) (pa_cons (pv 1) pa_nil)))))), ?_⟩
    have lx : xs.length = es.length := by have := hE.length; rw [List.length_map] at this; exact this
    refine ⟨Nat.zero_le _, fun Z hZ => ?_⟩
    have s0 := same_new hZ (.lst [])
    refine ⟨_, rfl, L, rfl, ⟨_, SqL.of (s0 _ _ hL)⟩, for_it walk_list (fun i σ H' => ∃ (ps : List Pr) (v2 v3 : Option V), σ = [some (.ref L), some (.ref Z), v2, v3] ∧ H' Z = some (.lst (ps.map fun q => V.ref q.1)) ∧ (∀ p ∈ ps, H' p.1 = some (prO p)) ∧ (ps.map (·.2)).Nodup ∧ (∀ x, x ∈ ps.map (·.2) ↔ x ∈ (es.take i).map tg) ∧ ps.length ≤ i ∧ Same H H') ⟨[], none, none, rfl, upd_same, (fun p hp => nomatch hp), List.nodup_nil, (fun x => Iff.rfl), Nat.le_refl _, s0⟩ (fun i σ H' _ ⟨_, _, _, _, _, _, _, _, _, s⟩ => SqL.of (s _ _ hL)) ?_ ?_⟩
    rotate_left
    · rintro σ H1 ⟨ps, v2, v3, rfl, h1, h3, nd, mem, lp, s1⟩
      rw [lx, List.take_length] at mem
      refine ⟨_, rfl, Z, ps, rfl, SqL.of h1, h3, SrtP.agree ag fun x hx => (mem x).mp hx, fun rs b pm st hb => ?_⟩
      have s3 := same_new hb (.lst (rs.map fun q => V.ref q.1))
      exact q b _ (rs.map (·.2)) _ upd_same (prs_tp fun p hp => s3 _ _ (h3 p (pm.mem_iff.mp hp))) ⟨(pm.map (·.2)).nodup_iff.mpr nd, fun x => (pm.map (·.2)).mem_iff.trans (mem x), List.pairwise_map.mpr st⟩ (s1.trans s3) (s1.free hb)
    rintro i x σ Hi H1 hi ⟨ps, v2, v3, rfl, h1, h3, nd, mem, lp, s1⟩ ⟨rfl, ex⟩
    have il : i < es.length := by omega
    obtain ⟨v, hv, hte⟩ := hE.get' (i := i) (d := edD es[i]) (by rw [List.getElem?_map, List.getElem?_eq_getElem il]; rfl)
    rw [ex] at hv
    cases hv
    obtain ⟨oke, full, ekey⟩ := ok _ (List.getElem_mem il)
    have tk : es.take (i + 1) = es.take i ++ [es[i]] := by rw [List.take_succ, List.getElem?_eq_getElem il]; rfl
    have oks : ∀ y ∈ ps.map (·.2), (prD y).cl = true := fun y hy => by
      obtain ⟨e, he, rfl⟩ := List.mem_map.mp ((mem y).mp hy)
      obtain ⟨o1, o2, o3⟩ := ok e (List.mem_of_mem_take he)
      exact prD_cl o1.tx (by show valE (kV (keyOf (edK e))); rw [← o3]; exact o1.key o2)
    generalize es[i] = e at hte oke full ekey tk
    obtain ⟨a, rest, rfl, ha⟩ := ed_two hte
    have ha1 := s1 _ _ ha
    have okx : (prD (tg e)).cl = true := prD_cl oke.tx (by show valE (kV (keyOf (edK e))); rw [← ekey]; exact oke.key full)
    refine ⟨_, rfl, a, _, _, .str (edT e), rfl, rfl, SqT.of ha1, at_ofN (j := 1) rfl rfl, _, rfl, .ref a, e, rfl, hte.mono (KeepT.of s1), full, fun H2 s2 => ⟨(by show 2 ≤ sizeLine; decide), fun p hp => ?_⟩⟩
    have s3 := same_new hp (.tup [.str (edT e), edK e])
    have hp3 : (upd H2 p (.tup [.str (edT e), edK e])) p = some (prO (p, tg e)) := by
      rw [upd_same]
      show some (HO.tup [.str (edT e), edK e]) = some (HO.tup [.str (edT e), kV (keyOf (edK e))])
      rw [← ekey]
    have h13 := s3 _ _ (s2 _ _ h1)
    have h33 : ∀ r ∈ ps, (upd H2 p (.tup [.str (edT e), edK e])) r.1 = some (prO r) := fun r hr' => s3 _ _ (s2 _ _ (h3 r hr'))
    have s4 := (s1.trans s2).trans s3
    generalize upd H2 p (.tup [.str (edT e), edK e]) = H3 at hp3 h13 h33 s4 ⊢
    refine ⟨_, rfl, _, rfl, _, _, (pr_tp (p := (p, tg e)) hp3).py, .lst (SqL.of h13) (prs_tp h33).py, shaped_of okx (Nat.le_trans (prD_dp (tg e)) (by decide)), prs_shaped oks, _, rfl, ?_⟩
    have e0 : ((pyOfL ((ps.map (·.2)).map prD)).any fun z => PyData.eqv z (pyOf (prD (tg e)))) = decide (((pyOfL ((ps.map (·.2)).map prD)).any fun z => PyData.eqv z (pyOf (prD (tg e)))) = true) := by
      cases ((pyOfL ((ps.map (·.2)).map prD)).any fun z => PyData.eqv z (pyOf (prD (tg e)))) <;> rfl
    show (if (!((pyOfL ((ps.map (·.2)).map prD)).any fun z => PyData.eqv z (pyOf (prD (tg e))))) = true then _ else _)
    rw [e0]
    refine ifN (fun hno => ?_) (fun hyes => ?_)
    · have hno : tg e ∉ ps.map (·.2) := fun z => hno (any_pr.mpr z)
      refine ⟨_, rfl, .inl ⟨rfl, _, SqL.of h13⟩, _, rfl, Z, _, _, rfl, rfl, h13, ?_, ps ++ [(p, tg e)], _, _, rfl, ?_, ?_, ?_, ?_, ?_, ?_⟩
      · rw [List.length_map]; exact small1000 (by omega)
      · rw [upd_same, List.map_append]; rfl
      · have ne : ∀ b o, H3 b = some o → (∀ zs, o ≠ .lst zs) → b ≠ Z := fun b o e1 e2 z => by
          rw [z, h13] at e1
          exact e2 _ (Option.some.inj e1).symm
        intro r hr'
        rcases List.mem_append.mp hr' with hm | hm
        · rw [upd_ne (ne _ _ (h33 r hm) fun zs z => nomatch z)]; exact h33 r hm
        · rw [List.mem_singleton.mp hm, upd_ne (ne _ _ hp3 fun zs z => nomatch z)]; exact hp3
      · rw [List.map_append]
        refine List.nodup_append.mpr ⟨nd, List.nodup_cons.mpr ⟨(fun z => nomatch z), List.nodup_nil⟩, fun y hy z hz e1 => ?_⟩
        have : z = tg e := List.mem_singleton.mp hz
        rw [e1, this] at hy
        exact hno hy
      · intro x
        rw [tk, List.map_append, List.map_append, List.mem_append, List.mem_append, mem]
        exact Iff.rfl
      · rw [List.length_append, List.length_singleton]; omega
      · exact same_upd hZ _ s4
    · have hyes := any_pr.mp hyes
      refine ⟨ps, _, _, rfl, h13, h33, nd, fun x => ?_, by omega, s4⟩
      rw [tk, List.map_append, List.mem_append, mem]
      refine ⟨.inl, fun z => z.elim id fun y => ?_⟩
      have : x = tg e := List.mem_singleton.mp y
      rw [this]; exact (mem _).mp hyes)
theorem ok_key_of {f : Addr} {fd : FuncData} (k : Kn K mg "key_of" s_key_of ["edit"] f fd) (z : Z mg) :
    Cal P w K mg base 1 "key_of" ["edit"] (spKeyOfE) f fd := k.cal (by
  refine k.F.ok sc_key_of (fun vs H Q E h => ?_) (fun cdv A outer s H vs Q E hr h => ?_)
  · obtain ⟨v, e, rfl, _⟩ := h; rfl
  · obtain ⟨v, e, rfl, he, hf, q⟩ := h
    refine ⟨_, (pss_cons (ps_if (pt_cmpR op_in_seq (pe_ix ix_tup (pv 0) pe_int (fun _ _ => rfl)) (pe_tup (pa_cons pe_str (pa_cons pe_str pa_nil))) (by rfl)) (pss_one (ps_ret (pe_ix ix_tup (pe_ix ix_tup (pv 0) pe_int (fun _ _ => rfl)) pe_int (fun _ _ => rfl)))) pss_nil)
        (pss_one (ps_ret (pe_ix ix_tup (pv 0) pe_int (fun _ _ => rfl))))), ?_⟩
    obtain ⟨a, ys, rfl, h1, hys⟩ := ed_head he
    refine ⟨_, rfl, a, _, _, .str (edA e), rfl, rfl, SqT.of h1, at_ofN (j := 0) rfl rfl, (by show 2 ≤ sizeLine; decide), fun P hP => ⟨P, _, rfl, .inr (SqT.of upd_same), rfl, rfl, _, rfl, ?_⟩⟩
    have s1 := same_new hP (.tup [V.str "insert", V.str "replace"])
    show if inV (.str (edA e)) [.str "insert", .str "replace"] = true then _ else _
    cases e with
    | row b t r =>
      refine ite2 (fun _ => ?_) (fun z => absurd (by cases b <;> simp only [edA] <;> decide +kernel) z)
      obtain ⟨u, us, rfl, k1, h3⟩ := hys.c1
      obtain ⟨p, zs, rfl, h4, h5⟩ := t_at k1
      have := scal_L h5
      subst this
      cases zs with
      | nil => exact absurd rfl hf
      | cons x r =>
        exact ⟨_, rfl, a, _, _, .ref p, rfl, rfl, SqT.of (s1 _ _ h1), at_ofN (j := 2) rfl rfl, p, _, _, x, rfl, rfl, SqT.of (s1 _ _ h4), at_ofN (j := 0) rfl rfl, q _ s1⟩
    | set t k c w =>
      refine ite2 (fun z => absurd z (by simp only [edA]; decide +kernel)) (fun _ => ?_)
      obtain ⟨u, us, rfl, k1, h3⟩ := hys.c1
      rw [k1.s1] at h1
      exact ⟨_, rfl, a, _, _, k, rfl, rfl, SqT.of (s1 _ _ h1), at_ofN (j := 2) rfl rfl, q _ s1⟩
    | del t k =>
      refine ite2 (fun z => absurd z (by simp only [edA]; decide +kernel)) (fun _ => ?_)
      obtain ⟨u, us, rfl, k1, h3⟩ := hys.c1
      rw [k1.s1] at h1
      exact ⟨_, rfl, a, _, _, k, rfl, rfl, SqT.of (s1 _ _ h1), at_ofN (j := 2) rfl rfl, q _ s1⟩)
theorem ok_touched {f : Addr} {fd : FuncData} (k : Kn K mg "touched" s_touched ["edits"] f fd) (z : Z mg)
    {g_key_of : Addr} {gd_key_of : FuncData} (c_key_of : Cal P w K mg base 1 "key_of" ["edit"] (spKeyOfE) g_key_of gd_key_of) :
    Cal P w K mg base 2 "touched" ["edits"] (spTouch) f fd := k.cal (by
  refine k.F.ok sc_touched (fun vs H Q E h => ?_) (fun cdv A outer s H vs Q E hr h => ?_)
  · obtain ⟨L, xs, es, rfl, _⟩ := h; rfl
  · obtain ⟨L, xs, es, rfl, hL, hE, l64, ok, ag, q⟩ := h
    have hu := hu_of hr
    refine ⟨_, (pss_one (ps_ret (pe_callB (call_sortPS rfl) (by rfl) z.sorted (by decide +kernel) (pa_cons (pe_callTy (cr_setTT rfl hr.units) (by rfl) z.set (by decide +kernel) (pa_cons (pe_lc (own := [("edit", 1)]) (g := gName 1) (tt := tYes) (by rfl) sc_touched.nd (pi_list (pv 0)) (blkOk_by (own := [("edit", 1)]) (N := ["edits", "edit"]) (sc := defScope s_touched) (by decide +kernel)) (fun _ _ _ _ _ => pg_name (i := 1) sc_touched.nd rfl (Or.inl rfl)) (fun _ _ _ _ _ => pts_nil) (fun _ _ _ _ _ => (pe_tup (pa_cons (pe_ix (r := rIxT K) ix_tup (pv 1) pe_int (fun _ _ => rfl)) (pa_cons (pe_call c_key_of.G (hr.mono (by decide)) (by rfl) c_key_of.m c_key_of.kp c_key_of.b .nil pass0 (pa_cons (pv 1) pa_nil)) pa_nil))))) pa_nil)) pa_nil)))), ?_⟩
    have lx : xs.length = es.length := by have := hE.length; rw [List.length_map] at this; exact this
    refine ⟨_, rfl, L, rfl, ⟨_, SqL.of hL⟩, fun N hN => inner walk_list (fun i H' => ∃ ps : List Pr, H' N = some (.lst (ps.map fun q => V.ref q.1)) ∧ ps.map (·.2) = (es.take i).map tg ∧ (∀ p ∈ ps, H' p.1 = some (prO p)) ∧ Same H H') ⟨[], upd_same, rfl, (fun p hp => nomatch hp), same_new hN _⟩ (fun i H' _ ⟨_, _, _, _, s⟩ => SqL.of (s _ _ hL)) ?_ ?_⟩
    · rintro i x Hi H1 hi ⟨ps, h1, h2, h3, s1⟩ ⟨rfl, ex⟩
      have il : i < es.length := by omega
      have hte0 := hE.get' (i := i) (d := edD es[i]) (by rw [List.getElem?_map, List.getElem?_eq_getElem il]; rfl)
      obtain ⟨v, hv, hte⟩ := hte0
      rw [ex] at hv
      cases hv
      obtain ⟨oke, full, ekey⟩ := ok _ (List.getElem_mem il)
      have tk : es.take (i + 1) = es.take i ++ [es[i]] := by rw [List.take_succ, List.getElem?_eq_getElem il]; rfl
      generalize es[i] = e at hte oke full ekey tk
      obtain ⟨a, rest, rfl, ha⟩ := ed_two hte
      have ha1 := s1 _ _ ha
      refine ⟨rfl, _, rfl, a, _, _, .str (edT e), rfl, rfl, SqT.of ha1, at_ofN (j := 1) rfl rfl, _, rfl, .ref a, e, rfl, hte.mono (KeepT.of s1), full, fun H2 s2 => ⟨(by show 2 ≤ sizeLine; decide), fun p hp => ?_⟩⟩
      have s3 := same_new hp (.tup [.str (edT e), edK e])
      have lps : ps.length = i := by have := congrArg List.length h2; rw [List.length_map, List.length_map, List.length_take] at this; omega
      refine ⟨_, s3 _ _ (s2 _ _ h1), ?_, ps ++ [(p, tg e)], ?_, ?_, ?_, ?_⟩
      · rw [List.length_map]; exact small1000 (by omega)
      · rw [upd_same, List.map_append]; rfl
      · rw [tk, List.map_append, List.map_append, h2]; rfl
      · intro r hr'
        have ne : ∀ b o, (upd H2 p (.tup [.str (edT e), edK e])) b = some o → (∀ zs, o ≠ .lst zs) → b ≠ N := fun b o e1 e2 z => by
          rw [z, s3 _ _ (s2 _ _ h1)] at e1
          exact e2 _ (Option.some.inj e1).symm
        rcases List.mem_append.mp hr' with hm | hm
        · have := s3 _ _ (s2 _ _ (h3 r hm))
          rw [upd_ne (ne _ _ this fun zs z => nomatch z)]; exact this
        · rw [List.mem_singleton.mp hm]
          have e1 : (upd H2 p (.tup [.str (edT e), edK e])) p = some (prO (p, tg e)) := by
            rw [upd_same]
            show some (HO.tup [.str (edT e), edK e]) = some (HO.tup [.str (edT e), kV (keyOf (edK e))])
            rw [← ekey]
          rw [upd_ne (ne _ _ e1 fun zs z => nomatch z)]; exact e1
      · exact same_upd hN _ ((s1.trans s2).trans s3)
    rintro H1 ⟨ps, h1, h2, h3, s1⟩
    rw [lx, List.take_length] at h2
    have lps : ps.length = es.length := by have := congrArg List.length h2; rw [List.length_map, List.length_map] at this; exact this
    refine ⟨N, ps.map prT, rfl, SqL.of (by rw [List.map_map]; exact h1), (fun r hr' => ?_), by rw [List.length_map]; omega, fun Z L' hZ met nd => ?_⟩
    · obtain ⟨p, hp, rfl⟩ := List.mem_map.mp hr'
      exact h3 p hp
    obtain ⟨qs, rfl, sub⟩ := met_pr met
    have s2 := same_new hZ (TSetO P w Z (qs.map prT))
    have memq : ∀ x, x ∈ qs.map (·.2) ↔ x ∈ es.map tg := fun x => by
      rw [← h2, ← prT_mem, ← prT_mem]
      exact met_keys met _
    refine ⟨Z, qs, rfl, upd_same, (fun p hp => s2 _ _ (h3 p (sub p hp))), SrtP.agree ag fun x hx => (memq x).mp hx, fun rs b pm st hb => ?_⟩
    have s3 := same_new hb (.lst (rs.map fun q => V.ref q.1))
    refine q b _ (rs.map (·.2)) _ upd_same (prs_tp fun p hp => s3 _ _ (s2 _ _ (h3 p (sub p (pm.mem_iff.mp hp))))) ⟨(pm.map (·.2)).nodup_iff.mpr (prT_nd nd), fun x => (pm.map (·.2)).mem_iff.trans (memq x), List.pairwise_map.mpr st⟩ ((s1.trans s2).trans s3) ((s1.trans s2).free hb))
theorem ok_law {f : Addr} {fd : FuncData} (k : Kn K mg "law" s_law ["script"] f fd) (z : Z mg)
    {g_law_tape : Addr} {gd_law_tape : FuncData} (c_law_tape : Cal P w K mg base 1 "_law_tape" ["script"] (spTape K) g_law_tape gd_law_tape)
    {g_law_schema : Addr} {gd_law_schema : FuncData} (c_law_schema : Cal P w K mg base 8 "_law_schema" ["tape", "least", "most"] (spSchema) g_law_schema gd_law_schema)
    {g_law_state : Addr} {gd_law_state : FuncData} (c_law_state : Cal P w K mg base 7 "_law_state" ["tape", "schema", "most"] (spState) g_law_state gd_law_state)
    {g_law_write : Addr} {gd_law_write : FuncData} (c_law_write : Cal P w K mg base 10 "_law_write" ["tape", "schema", "state", "most"] (spLawWriteS) g_law_write gd_law_write)
    {g_law_take : Addr} {gd_law_take : FuncData} (c_law_take : Cal P w K mg base 1 "_law_take" ["tape", "many"] (spTake) g_law_take gd_law_take)
    {g_law_copy : Addr} {gd_law_copy : FuncData} (c_law_copy : Cal P w K mg base 9 "_law_copy" ["thing"] (spCopyG 9) g_law_copy gd_law_copy)
    {g_difference : Addr} {gd_difference : FuncData} (c_difference : Cal P w K mg base 2 "difference" ["schema", "before", "after"] (spDiffer) g_difference gd_difference)
    {g_law_same : Addr} {gd_law_same : FuncData} (c_law_same : Cal P w K mg base 18 "_law_same" ["actual", "expected"] (spSameE 9) g_law_same gd_law_same)
    {g_law_expected : Addr} {gd_law_expected : FuncData} (c_law_expected : Cal P w K mg base 1 "_law_expected" ["schema", "before", "after"] (spDiffer) g_law_expected gd_law_expected)
    {g_law_touched : Addr} {gd_law_touched : FuncData} (c_law_touched : Cal P w K mg base 2 "_law_touched" ["edits"] (spTouch) g_law_touched gd_law_touched)
    {g_touched : Addr} {gd_touched : FuncData} (c_touched : Cal P w K mg base 2 "touched" ["edits"] (spTouch) g_touched gd_touched)
    {g_law_do : Addr} {gd_law_do : FuncData} (c_law_do : Cal P w K mg base 2 "_law_do" ["schema", "state", "edit"] (spLawDo) g_law_do gd_law_do) :
    Cal P w K mg base 19 "law" ["script"] (spLaw K) f fd := k.cal (by
  refine k.F.ok sc_law (fun vs H Q E h => ?_) (fun cdv A outer s H vs Q E hr h => ?_)
  · obtain ⟨a, ns, rfl, _⟩ := h; rfl
  · obtain ⟨a, ns, rfl, hS, h63, q⟩ := h
    have hu := hu_of hr
    refine ⟨_, (pss_cons (ps_set (i := 1) sc_law.nd rfl (Or.inl rfl) (pe_call c_law_tape.G (hr.mono (by decide)) (by rfl) c_law_tape.m c_law_tape.kp c_law_tape.b .nil pass0 (pa_cons (pv 0) pa_nil)))
        (pss_cons (ps_set (i := 2) sc_law.nd rfl (Or.inl rfl) (pe_call c_law_schema.G (hr.mono (by decide)) (by rfl) c_law_schema.m c_law_schema.kp c_law_schema.b .nil pass0 (pa_cons (pv 1) (pa_cons pe_int (pa_cons pe_int pa_nil)))))
        (pss_cons (ps_set (i := 3) sc_law.nd rfl (Or.inl rfl) (pe_call c_law_state.G (hr.mono (by decide)) (by rfl) c_law_state.m c_law_state.kp c_law_state.b .nil pass0 (pa_cons (pv 1) (pa_cons (pv 2) (pa_cons pe_int pa_nil)))))
        (pss_cons (ps_asg (pe_call c_law_write.G (hr.mono (by decide)) (by rfl) c_law_write.m c_law_write.kp c_law_write.b .nil pass0 (pa_cons (pv 1) (pa_cons (pv 2) (pa_cons (pv 3) (pa_cons pe_int pa_nil))))) (pg_tup (by rfl) (pgs_cons (pg_name (i := 4) sc_law.nd rfl (Or.inl rfl)) (pgs_cons (pg_name (i := 5) sc_law.nd rfl (Or.inl rfl)) pgs_nil))))
        (pss_cut (ps_if (pt_cmpR op_eq (pe_call c_law_take.G (hr.mono (by decide)) (by rfl) c_law_take.m c_law_take.kp c_law_take.b .nil pass0 (pa_cons (pv 1) (pa_cons pe_int pa_nil))) pe_int (nomark _)) (pss_one (ps_set (i := 5) sc_law.nd rfl (Or.inl rfl) (pe_call c_law_state.G (hr.mono (by decide)) (by rfl) c_law_state.m c_law_state.kp c_law_state.b .nil pass0 (pa_cons (pv 1) (pa_cons (pv 2) (pa_cons pe_int pa_nil)))))) pss_nil)
        (pss_cons (ps_set (i := 6) sc_law.nd rfl (Or.inl rfl) (pe_call c_law_copy.G (hr.mono (by decide)) (by rfl) c_law_copy.m c_law_copy.kp c_law_copy.b .nil pass0 (pa_cons (pe_lst (pa_cons (pv 3) (pa_cons (pv 5) pa_nil))) pa_nil)))
        (pss_cons (ps_set (i := 7) sc_law.nd rfl (Or.inl rfl) (pe_call c_difference.G (hr.mono (by decide)) (by rfl) c_difference.m c_difference.kp c_difference.b .nil pass0 (pa_cons (pv 2) (pa_cons (pv 3) (pa_cons (pv 5) pa_nil)))))
        (pss_cons (ps_if (pt_not (pt_val (pe_call c_law_same.G (hr.mono (by decide)) (by rfl) c_law_same.m c_law_same.kp c_law_same.b .nil pass0 (pa_cons (pv 7) (pa_cons (pe_call c_law_expected.G (hr.mono (by decide)) (by rfl) c_law_expected.m c_law_expected.kp c_law_expected.b .nil pass0 (pa_cons (pv 2) (pa_cons (pv 3) (pa_cons (pv 5) pa_nil)))) pa_nil))))) (pss_one (ps_ret pe_bl)) pss_nil)
        (pss_cons (ps_if (pt_cmpR op_ne (pe_cmpR (op_eqD hr.units) (pv 7) (pe_lst pa_nil) (nomark _)) (pe_cmpR (op_eqDD (room66 hr)) (pv 3) (pv 5) (nomark _)) (nomark _)) (pss_one (ps_ret pe_bl)) pss_nil)
        (pss_cons (ps_if (PW.pt (pw_or (pt_not (pt_val (pe_call c_law_same.G (hr.mono (by decide)) (by rfl) c_law_same.m c_law_same.kp c_law_same.b .nil pass0 (pa_cons (pe_call c_touched.G (hr.mono (by decide)) (by rfl) c_touched.m c_touched.kp c_touched.b .nil pass0 (pa_cons (pv 7) pa_nil)) (pa_cons (pe_call c_law_touched.G (hr.mono (by decide)) (by rfl) c_law_touched.m c_law_touched.kp c_law_touched.b .nil pass0 (pa_cons (pv 7) pa_nil)) pa_nil))))) (pw_or1 (pt_not (pt_val (pe_call c_law_same.G (hr.mono (by decide)) (by rfl) c_law_same.m c_law_same.kp c_law_same.b .nil pass0 (pa_cons (pe_call c_touched.G (hr.mono (by decide)) (by rfl) c_touched.m c_touched.kp c_touched.b .nil pass0 (pa_cons (pv 4) pa_nil)) (pa_cons (pe_call c_law_touched.G (hr.mono (by decide)) (by rfl) c_law_touched.m c_law_touched.kp c_law_touched.b .nil pass0 (pa_cons (pv 4) pa_nil)) pa_nil)))))))) (pss_one (ps_ret pe_bl)) pss_nil)
        (pss_cons (ps_set (i := 8) sc_law.nd rfl (Or.inl rfl) (pe_call c_law_copy.G (hr.mono (by decide)) (by rfl) c_law_copy.m c_law_copy.kp c_law_copy.b .nil pass0 (pa_cons (pv 3) pa_nil)))
        (pss_cons (ps_for PassesOwn.never rfl (pi_list (pv 7)) (pg_name (i := 9) sc_law.nd rfl (Or.inl rfl))
        (pss_one (ps_expr (pe_call c_law_do.G (hr.mono (by decide)) (by rfl) c_law_do.m c_law_do.kp c_law_do.b .nil pass0 (pa_cons (pv 2) (pa_cons (pv 8) (pa_cons (pv 9) pa_nil)))))))
        (pss_one (ps_ret (pe_and (pe_call c_law_same.G (hr.mono (by decide)) (by rfl) c_law_same.m c_law_same.kp c_law_same.b .nil pass0 (pa_cons (pv 8) (pa_cons (pv 5) pa_nil))) (pe_one (pe_call c_law_same.G (hr.mono (by decide)) (by rfl) c_law_same.m c_law_same.kp c_law_same.b .nil pass0 (pa_cons (pe_lst (pa_cons (pv 3) (pa_cons (pv 5) pa_nil))) (pa_cons (pv 6) pa_nil))))))))))))))))))), ?_⟩
    refine ⟨_, rfl, a, ns, rfl, hS, h63, fun t c cs H1 T1 s1 ht0 => ?_⟩
    refine ⟨_, rfl, t, c, cs, 1, 3, rfl, T1, by decide, by decide, by decide, fun S s H2 A2 ok l1 l3 T2 x2 => ?_⟩
    refine ⟨_, rfl, _, rfl, t, c, S, cs, s, 6, rfl, T2, A2, ok, by omega, by decide, by decide, fun T st H3 B3 fit nd fr T3 x3 => ?_⟩
    have A3 := A2.monoX T2 x3
    have V3 := A3.v ok (by omega)
    have tv := V3.ok
    obtain ⟨W, MS, MK⟩ := fit.good B3.nm tv
    have M0 := MSt.drawn B3 fit tv
    have tH2 : ∃ o, H2 t = some o := by obtain ⟨_, _, _, _, e, _⟩ := T2.dk; exact ⟨_, e⟩
    have tH3 : ∃ o, H3 t = some o := by obtain ⟨_, _, _, _, e, _⟩ := T3.dk; exact ⟨_, e⟩
    have frt : ∀ b ∈ stD T st, b ≠ t := fun b hb z => by obtain ⟨o, e⟩ := tH2; rw [← z, fr b hb] at e; cases e
    have stl : st.length ≤ 3 := by have := fit.e; omega
    have W6 : MW (tbs s) (stM st) 6 := W
    have t0 : tot (stM st) ≤ 18 := by
      have := tot_drawn fit.l
      have h2 : st.length * (6 : Int).toNat ≤ 3 * 6 := Nat.mul_le_mul stl (Nat.le_refl _)
      omega
    have tnd : ((tbs s).map (·.n)).Nodup := by
      have := A3.nm
      unfold tbs
      rw [List.map_map]
      exact this
    have stay : ∀ {H' : Hp}, SameX t H3 H' → TapeAt H' t c cs → SchAt H' S s t c ∧ StAt H' T st := fun {H'} X T' => ⟨A3.monoX T3 X, B3.frame (KeepT.ofX T3 X) (fun b hb o e => X b o e (frt b hb))⟩
    refine ⟨_, rfl, _, rfl, _, rfl, t, c, S, T, cs, s, st, 6, 10, rfl, T3, A3, tv, by omega, by omega, B3, W6, MS, M0, by decide, by omega, MK, by decide, fun L T' st' r xs es H4 hr4 hL hE hok hl fL B4 M4 W4 tm4 nd4 fr4 ls4 T4 x4 => ?_⟩
    refine ⟨r, _, rfl, SqT.of hr4, rfl, .ref L, [.ref T'], rfl, .ref T', [], rfl, rfl, ?_⟩
    have nt : ∀ {l : Addr}, H3 l = none → l ≠ t := fun {l} h z => by obtain ⟨o, e⟩ := tH3; rw [← z, h] at e; cases e
    refine ⟨fun σ H' => ∃ (T' : Addr) (st' : List TS), σ = [some (.ref a), some (.ref t), some (.ref S), some (.ref T), some (.ref L), some (.ref T'), none, none, none, none] ∧ H' L = some (.lst xs) ∧ TpL H' xs (es.map edD) ∧ StAt H' T' st' ∧ MSt s (stM st') ∧ tot (stM st') ≤ 28 ∧ (∀ p ∈ stM st', p.2.length ≤ 16) ∧ (stD T' st').Nodup ∧ (∀ b ∈ stD T' st', H3 b = none) ∧ st'.length = st.length ∧ TapeAt H' t c cs ∧ SameX t H3 H', ?_, ?_⟩
    · refine ⟨_, rfl, t, c, cs, 3, rfl, T4, by decide, by decide +kernel, fun d H5 d0 d1 T5 x5 => ⟨rfl, _, rfl, ?_⟩⟩
      have hL5 := x5 _ _ hL (nt fL)
      have hE5 := hE.mono (KeepT.ofX T4 x5)
      have X5 := x4.trans x5
      refine ifD (fun _ => ?_) (fun _ => ⟨T', st', rfl, hL5, hE5, B4.frame (KeepT.ofX T4 x5) (fun b hb o e => x5 b o e (nt (fr4 b hb))), M4, by omega, W4.ln, nd4, fr4, ls4, T5, X5⟩)
      refine ⟨_, rfl, _, rfl, t, c, S, cs, s, 6, rfl, T5, A3.monoX T3 X5, ok, by omega, by decide, by decide, fun T6 st6 H6 B6 fit6 nd6 fr6 Tp6 x6 => ?_⟩
      have X6 := X5.trans x6
      have l6 : st6.length ≤ 3 := by have := fit6.e; omega
      refine ⟨T6, st6, rfl, x6 _ _ hL5 (nt fL), hE5.mono (KeepT.ofX T5 x6), B6, MSt.drawn B6 fit6 tv, ?_, fun p hp => ?_, nd6, fun b hb => ?_, by rw [fit6.e, fit.e], Tp6, X6⟩
      · have := tot_drawn fit6.l
        have h2 : st6.length * (6 : Int).toNat ≤ 3 * 6 := Nat.mul_le_mul l6 (Nat.le_refl _)
        omega
      · obtain ⟨q', hq', rfl⟩ := List.mem_map.mp hp
        have := fit6.l q' hq'
        show (rM q'.rs).length ≤ 16
        unfold rM
        rw [List.length_map]
        have e6 : (6 : Int).toNat = 6 := rfl
        omega
      · have h5 := fr6 b hb
        have bt : b ≠ t := fun z => by obtain ⟨_, _, _, _, e, _⟩ := T5.dk; rw [← z, h5] at e; cases e
        exact X5.free bt h5
    clear hE hL B4 M4 W4 tm4 nd4 fr4 ls4 T4 x4 hr4
    rintro σ H5 ⟨T', st', rfl, hL, hE, B5, M5, tm5, ln5, nd5, fr5, ls5, T5, x5⟩
    obtain ⟨A5, C5⟩ := stay x5 T5
    have V5 : ScV H5 S s := ⟨A5.sk, A5.ds, A5.nm, tv, by omega⟩
    have dj : ∀ b ∈ stD T st, b ∉ stD T' st' := fun b hb z => by
      obtain ⟨o, e⟩ := B3.there b hb
      rw [fr5 b z] at e
      cases e
    have W5 : MW (tbs s) (stM st') 16 := M5.mw ln5
    have MS5 := M5.sc tv
    have gT := C5.gM W6 MS (by decide) (by omega)
    have gT' := B5.gM W5 MS5 (by decide) (by omega)
    refine ⟨_, rfl, _, rfl, (by show 2 ≤ sizeLine; decide), fun P0 hP0 => ?_⟩
    have sP0 := same_new hP0 (.lst [.ref T, .ref T'])
    have g2 := two_g (P := P0) upd_same (gT.mono sP0) (gT'.mono sP0)
    have dp2 : (G.l [stG st, stG st']).dep < 9 := by
      have h1 := st_dep st
      have h2 := st_dep st'
      simp only [G.dep, depL]
      omega
    refine ⟨_, _, _, rfl, g2, dp2, fun KP DK H6 gK s6 fK ndK => ?_⟩
    have s56 := sP0.trans s6
    have lT : ∀ q ∈ st, q.rs.length ≤ 100 := fun q hq => by
      have := fit.l q hq
      have e6 : (6 : Int).toNat = 6 := rfl
      omega
    have lT' : ∀ q ∈ st', q.rs.length ≤ 100 := fun q hq => by
      have := ln5 _ (List.mem_map.mpr ⟨q, hq, rfl⟩)
      have : (rM q.rs).length ≤ 16 := this
      unfold rM at this
      rw [List.length_map] at this
      omega
    refine ⟨_, rfl, _, rfl, _, rfl, S, s, T, st, T', st', rfl, V5.mono s56, C5.mono s56, B5.mono s56, M0, M5, lT, lT', dj, fun P1 ys H7 hP1 hy s7 fP1 => ?_⟩
    have dl : (diffM (stM st) (stM st') (nsOf s)).length < 64 := by
      have := diff_len M0 M5 (nsOf_nd A3.nm) (fun n => nsOf_mem)
      omega
    have dfit : ∀ e ∈ diffM (stM st) (stM st') (nsOf s), EdFit s e ∧ edOk e := fun e he => diff_fit tv M0 M5 (fun n hn => nsOf_mem.mp hn) he
    have s57 := s56.trans s7
    refine ⟨_, rfl, _, rfl, _, rfl, _, rfl, S, s, T, st, T', st', rfl, V5.mono s57, C5.mono s57, B5.mono s57, M0, M5, lT, lT', dj, fun P2 zs H8 hP2 hz s8 fP2 => ?_⟩
    have ga := eds_g (s8 _ _ hP1) (hy.mono (KeepT.of s8)) (fun e he => (dfit e he).2) (by omega)
    have gb := eds_g hP2 hz (fun e he => (dfit e he).2) (by omega)
    refine .inl ⟨_, _, _, _, _, _, rfl, ga, gb, geq_lG _, fun b hb hb2 => ?_, Nat.lt_of_le_of_lt (eds_dep _) (by decide), _, rfl, iteF ?_⟩
    · rw [List.mem_singleton] at hb hb2
      rw [← hb2, hb, hP1] at fP2
      cases fP2
    have s58 := s57.trans s8
    have hP8 := s8 _ _ hP1
    have hy8 := hy.mono (KeepT.of s8)
    refine ⟨_, rfl, Nat.zero_le _, fun Z hZ => ?_⟩
    have sZ := same_new hZ (.lst [])
    refine ⟨_, _, .lst (SqL.of (sZ _ _ hP8)) ((hy8.mono (KeepT.of sZ)).py), .lst (SqL.of upd_same) .nil, eds_shaped (fun e he => (dfit e he).2), eds_shaped (es := []) (fun e he => by cases he), ?_⟩
    have s59 := s58.trans sZ
    refine ⟨_, rfl, _, rfl, T, T', stK st, stK st', eqK (stM st) (stM st'), rfl, rfl, (C5.mono s59).sk, (B5.mono s59).sk, st_inn (C5.mono s59) (B5.mono s59) M0 M5 tv dj, ?_⟩
    rw [eds_nil, st_same (C5.mono s59) (B5.mono s59) M0 M5 ls5.symm]
    refine ⟨rfl, _, rfl, iteNS rfl ?_⟩
    have hP9 := sZ _ _ hP8
    have hy9 := hy8.mono (KeepT.of sZ)
    have hE9 := hE.mono (KeepT.of s59)
    have hL9 := s59 _ _ hL
    generalize upd H8 Z (.lst []) = H9 at s59 hP9 hy9 hE9 hL9 sZ ⊢
    have dok : ∀ e ∈ diffM (stM st) (stM st') (nsOf s), edOk e ∧ edFull e ∧ edK e = kV (keyOf (edK e)) := fun e he => ⟨(dfit e he).2, (dfit e he).1.full, (diff_ed he).2.1⟩
    have eok : ∀ e ∈ es, edOk e ∧ edFull e ∧ edK e = kV (keyOf (edK e)) := fun e he => by
      have h1 := hok e he
      obtain ⟨p, hp, _, _, kb⟩ := h1.2
      exact ⟨h1.1, h1.2.full, keyB_key (tv p hp).co kb⟩
    have ag1 := agree_ed A3.nm tv fun e he => (dfit e he).1
    have ag2 := agree_ed A3.nm tv fun e he => (hok e he).2
    have pg : ∀ {Ha Hb : Hp} {P3 P4 : Addr} {us ws : List V} {ps3 : List (Str × Key)}, Ha P3 = some (.lst us) → TpL Ha us (ps3.map prD) → Same Ha Hb → Hb P4 = some (.lst ws) → TpL Hb ws (ps3.map prD) → Ha P4 = none → ps3.length ≤ 900 → Gp Hb (.ref P3) (lG (ps3.map prD)) [P3] ∧ Gp Hb (.ref P4) (lG (ps3.map prD)) [P4] ∧ ∀ b ∈ [P3], b ∉ [P4] := fun {Ha Hb P3 P4 us ws ps3} h3 hu3 sq h4 hw4 f4 l3 => by
      refine ⟨prs_g (sq _ _ h3) (hu3.mono (KeepT.of sq)) l3, prs_g h4 hw4 l3, fun b hb hb2 => ?_⟩
      rw [List.mem_singleton] at hb hb2
      rw [← hb2, hb, h3] at f4
      cases f4
    refine ⟨_, rfl, P1, ys, _, rfl, hP9, hy9, dl, dok, ag1, fun P3 us ps3 Ha h3 hu3 srt3 sa f3 => ?_⟩
    refine ⟨_, rfl, P1, ys, _, rfl, sa _ _ hP9, hy9.mono (KeepT.of sa), dl, dok, ag1, fun P4 ws ps4 Hb h4 hw4 srt4 sb f4 => ?_⟩
    obtain rfl := srt3.one srt4
    obtain ⟨g31, g32, g33⟩ := pg h3 hu3 sb h4 hw4 f4 (by have := srtP_len srt3; omega)
    refine .inl ⟨_, _, _, _, _, _, rfl, g31, g32, geq_prs _, g33, Nat.lt_of_le_of_lt (prs_dep _) (by decide), _, rfl, iteF ?_⟩
    have sb' := sa.trans sb
    have hPy := sb' _ _ hP9
    have hyy := hy9.mono (KeepT.of sb')
    have hLy := sb' _ _ hL9
    have hEy := hE9.mono (KeepT.of sb')
    clear g31 g32 g33 h3 hu3 srt3 f3 h4 hw4 srt4 f4
    refine ⟨_, rfl, L, xs, es, rfl, hLy, hEy, by omega, eok, ag2, fun P3 us ps3 Hc0 h3 hu3 srt3 sc0 f3 => ?_⟩
    refine ⟨_, rfl, L, xs, es, rfl, sc0 _ _ hLy, hEy.mono (KeepT.of sc0), by omega, eok, ag2, fun P4 ws ps4 Hb h4 hw4 srt4 sd f4 => ?_⟩
    obtain rfl := srt3.one srt4
    obtain ⟨g31, g32, g33⟩ := pg h3 hu3 sd h4 hw4 f4 (by have := srtP_len srt3; omega)
    refine .inl ⟨_, _, _, _, _, _, rfl, g31, g32, geq_prs _, g33, Nat.lt_of_le_of_lt (prs_dep _) (by decide), _, rfl, iteF ?_⟩
    have sab := sb'.trans (sc0.trans sd)
    have s5b := s59.trans sab
    have hPb := sab _ _ hP9
    have hyb := hy9.mono (KeepT.of sab)
    clear hP9 hy9 hE9 hL9 ga gb g31 g32 g33 h3 hu3 srt3 f3 h4 hw4 srt4 f4 hPy hyy hLy hEy
    refine ⟨_, rfl, .ref T, stG st, _, rfl, gT.mono s5b, Nat.lt_of_le_of_lt (st_dep st) (by decide), fun x' D' Hc g0 sc f0 nd0 => ?_⟩
    obtain ⟨T0, st0, rfl, A0, em0, rfl⟩ := gp_st g0 B3.nm
    have hPc := sc _ _ hPb
    have hyc := hyb.mono (KeepT.of sc)
    have s5c := s5b.trans sc
    have out : ∀ {b : Addr} {o : HO}, Hb b = some o → b ∉ stD T0 st0 := fun {b o} e hm => by rw [f0 b hm] at e; cases e
    have lyd : ys.length = (diffM (stM st) (stM st') (nsOf s)).length := by have := hy.length; rw [List.length_map] at this; exact this
    refine ⟨_, rfl, P1, rfl, ⟨_, SqL.of hPc⟩, for_it walk_list (fun i σ H' => ∃ (st9 : List TS) (v9 : Option V), σ = [some (.ref a), some (.ref t), some (.ref S), some (.ref T), some (.ref L), some (.ref T'), some KP, some (.ref P1), some (.ref T0), v9] ∧ StAt H' T0 st9 ∧ (st9.map fun q => q.d) = (st0.map fun q => q.d) ∧ MSt s (stM st9) ∧ Mid (stM st) (stM st') (((diffM (stM st) (stM st') (nsOf s)).take i).map tg) (stM st9) ∧ MW (tbs s) (stM st9) (6 + i) ∧ SameE (stD T0 st0) Hc H' ∧ KeepT Hc H') ⟨st0, none, rfl, A0, rfl, by rw [em0]; exact M0, ?_, by rw [em0]; exact W6, (fun b o e _ => e), (fun b xs e => e)⟩ (fun i σ H' _ ⟨_, _, _, _, _, _, _, _, SE, _⟩ => SqL.of (SE _ _ hPc (out hPb))) ?_ ?_⟩
    · rw [em0]
      intro n k
      exact ⟨(fun z => nomatch z), fun _ => rfl⟩
    · rintro i x σ Hx Hd hi ⟨st9, v9, rfl, A9, dm, M9, Md, W9, SE, KT⟩ ⟨rfl, ex⟩
      have il : i < (diffM (stM st) (stM st') (nsOf s)).length := by omega
      obtain ⟨v, hv, hte⟩ := hyc.get' (i := i) (d := edD (diffM (stM st) (stM st') (nsOf s))[i]) (by rw [List.getElem?_map, List.getElem?_eq_getElem il]; rfl)
      rw [ex] at hv
      cases hv
      have he := List.getElem_mem il
      have tk : (diffM (stM st) (stM st') (nsOf s)).take (i + 1) = (diffM (stM st) (stM st') (nsOf s)).take i ++ [(diffM (stM st) (stM st') (nsOf s))[i]] := by rw [List.take_succ, List.getElem?_eq_getElem il]; rfl
      have hd : tg (diffM (stM st) (stM st') (nsOf s))[i] ∉ ((diffM (stM st) (stM st') (nsOf s)).take i).map tg := by
        have := nd_takeN (dfP_nd (stM st) (stM st') (prU_nd M0 M5 (nsOf_nd A3.nm))) (i := i) (u := tg (diffM (stM st) (stM st') (nsOf s))[i]) (by rw [List.getElem?_map]; show Option.map tg (diffM (stM st) (stM st') (nsOf s))[i]? = _; rw [List.getElem?_eq_getElem il]; rfl)
        rw [← List.map_take] at this
        exact this
      generalize (diffM (stM st) (stM st') (nsOf s))[i] = e at hte he tk hd
      obtain ⟨ef, eo⟩ := dfit e he
      have sd : Same Hb Hd := fun b o e1 => SE _ _ (sc _ _ e1) (out e1)
      have right := mid_right he Md hd
      have ec := edC_ok A3.nm ef right
      have nd9 : (stD T0 st9).Nodup := by
        show (T0 :: st9.map fun q => q.d).Nodup
        rw [dm]; exact nd0
      refine ⟨_, rfl, _, rfl, _, rfl, S, s, T0, st9, x, e, 6 + i, rfl, V5.mono (s5b.trans sd), A9, nd9, hte.mono KT, eo, ec, W9, by omega, fun st2 H2 A2' em2 dm2 SE2 KT2 => ?_⟩
      refine ⟨st2, _, rfl, A2', dm2.trans dm, by rw [em2]; exact M9.step A3.nm tv ef right, ?_, by rw [em2, ← Nat.add_assoc]; exact W9.step tnd ec, fun b o e1 nb => SE2 _ _ (SE b o e1 nb) fun z => nb (List.mem_cons_of_mem _ (by rw [← dm]; exact z)), fun b us e1 => KT2 b us (KT b us e1)⟩
      rw [em2, tk, List.map_append]
      exact mid_step A3.nm M9 he ef Md
    rintro σ Hd ⟨st9, v9, rfl, A9, dm, M9, Md, W9, SE, KT⟩
    rw [lyd, List.take_length] at Md
    have sd : Same Hb Hd := fun b o e1 => SE _ _ (sc _ _ e1) (out e1)
    have s5d := s5b.trans sd
    have D9 : stD T0 st9 = stD T0 st0 := by
      show (T0 :: st9.map fun q => q.d) = _
      rw [dm]; rfl
    have l9 : st9.length = st0.length := by have := congrArg List.length dm; rwa [List.length_map, List.length_map] at this
    have l0 : st0.length = st.length := by have := congrArg List.length em0; rwa [stM_len, stM_len] at this
    have g9 := A9.gM W9 (M9.sc tv) (by omega) (by omega)
    have geq : GEq (stG st9) (stG st') := by
      rw [stG_M, stG_M]
      exact geq_states M9 M5 fun n k => mid_end M0 M5 M9 (fun n => nsOf_mem) Md n k
    refine ⟨_, rfl, _, rfl, .inl ⟨_, _, _, _, _, _, rfl, g9, gT'.mono s5d, geq, fun b hb hb2 => ?_, Nat.lt_of_le_of_lt (st_dep st') (by decide), true, rfl, iteT ?_⟩⟩
    · have hb : b ∈ stD T0 st0 := by rw [← D9]; exact hb
      obtain ⟨o, e⟩ := B5.there b hb2
      have := f0 b hb
      rw [s5b b o e] at this
      cases this
    refine ⟨_, rfl, _, rfl, (by show 2 ≤ sizeLine; decide), fun P9 hP9 => ⟨_, rfl, .inl ?_⟩⟩
    have sP9 := same_new hP9 (.lst [.ref T, .ref T'])
    have s6d : Same H6 Hd := (s7.trans s8).trans ((sZ.trans sab).trans sd)
    refine ⟨_, _, _, _, _, _, rfl, two_g upd_same (gT.mono (s5d.trans sP9)) (gT'.mono (s5d.trans sP9)), gK.mono (s6d.trans sP9), geq_pairL ?_ ?_, fun b hb hb2 => ?_, dp2, q _⟩
    · rw [stG_M]; exact geq_states M0 M0 fun _ _ => rfl
    · rw [stG_M]; exact geq_states M5 M5 fun _ _ => rfl
    · have hk := fK b hb2
      rcases List.mem_cons.mp hb with rfl | hb
      · exact (gK.mono s6d).there b hb2 hP9
      · have : ∃ o, H5 b = some o := by
          rcases List.mem_append.mp hb with h | h
          · exact C5.there b h
          · rw [List.append_nil] at h; exact B5.there b h
        obtain ⟨o, e⟩ := this
        rw [sP0 b o e] at hk
        cases hk)
end
end Lt
namespace Lt
open PySem L2 TL
open C8 (pss_cut)
theorem all_mkF {l : PySem.W.OpenLaw} {w : World} {K : PySem.W.Frag} {h : Heap} {mg : Str → Option Value} {fa : Addr} (X : K.In h) (G : h.Ns mainGlobals mg) (hfa : mg "law" = some (.ref fa)) (c : He.SaysE faL fnL K) (ex : exL K = true)
    : ∃ fd : FuncData, (∀ (s : Shared) (v : Value), BindsTo s fd ⟨[v], []⟩ [("script", v)]) ∧ ∀ base : Heap, K.In base → base.Ns mainGlobals mg → FnOk l.prog w K mg base CX0 19 fa fd ["script"] (spLaw K) := by
  have a_law_tape := He.glo_ok X G (c.fact 0 (f := .glo "_law_tape") (by rfl))
  have a_law_take := He.glo_ok X G (c.fact 1 (f := .glo "_law_take") (by rfl))
  have a_law_name := He.glo_ok X G (c.fact 2 (f := .glo "_law_name") (by rfl))
  have a_law_table := He.glo_ok X G (c.fact 3 (f := .glo "_law_table") (by rfl))
  have a_law_columns := He.glo_ok X G (c.fact 4 (f := .glo "_law_columns") (by rfl))
  have a_law_names := He.glo_ok X G (c.fact 5 (f := .glo "_law_names") (by rfl))
  have a_law_integer := He.glo_ok X G (c.fact 6 (f := .glo "_law_integer") (by rfl))
  have a_law_char := He.glo_ok X G (c.fact 7 (f := .glo "_law_char") (by rfl))
  have a_law_text := He.glo_ok X G (c.fact 8 (f := .glo "_law_text") (by rfl))
  have a_law_value := He.glo_ok X G (c.fact 9 (f := .glo "_law_value") (by rfl))
  have a_law_clause := He.glo_ok X G (c.fact 10 (f := .glo "_law_clause") (by rfl))
  have a_law_condition := He.glo_ok X G (c.fact 11 (f := .glo "_law_condition") (by rfl))
  have a_law_limits := He.glo_ok X G (c.fact 12 (f := .glo "_law_limits") (by rfl))
  have a_law_schema := He.glo_ok X G (c.fact 13 (f := .glo "_law_schema") (by rfl))
  have a_law_rest := He.glo_ok X G (c.fact 14 (f := .glo "_law_rest") (by rfl))
  have a_law_rows := He.glo_ok X G (c.fact 15 (f := .glo "_law_rows") (by rfl))
  have a_law_state := He.glo_ok X G (c.fact 16 (f := .glo "_law_state") (by rfl))
  have a_law_copy := He.glo_ok X G (c.fact 17 (f := .glo "_law_copy") (by rfl))
  have a_law_some_key := He.glo_ok X G (c.fact 18 (f := .glo "_law_some_key") (by rfl))
  have a_law_edit := He.glo_ok X G (c.fact 19 (f := .glo "_law_edit") (by rfl))
  have a_law_key_of := He.glo_ok X G (c.fact 20 (f := .glo "_law_key_of") (by rfl))
  have a_law_right := He.glo_ok X G (c.fact 21 (f := .glo "_law_right") (by rfl))
  have a_law_do := He.glo_ok X G (c.fact 22 (f := .glo "_law_do") (by rfl))
  have a_law_write := He.glo_ok X G (c.fact 23 (f := .glo "_law_write") (by rfl))
  have a_row_difference := He.glo_ok X G (c.fact 24 (f := .glo "row_difference") (by rfl))
  have a_difference := He.glo_ok X G (c.fact 25 (f := .glo "difference") (by rfl))
  have a_law_is_integer := He.glo_ok X G (c.fact 26 (f := .glo "_law_is_integer") (by rfl))
  have a_law_same_items := He.glo_ok X G (c.fact 27 (f := .glo "_law_same_items") (by rfl))
  have a_law_same := He.glo_ok X G (c.fact 28 (f := .glo "_law_same") (by rfl))
  have a_law_expected := He.glo_ok X G (c.fact 29 (f := .glo "_law_expected") (by rfl))
  have a_law_touched := He.glo_ok X G (c.fact 30 (f := .glo "_law_touched") (by rfl))
  have a_key_of := He.glo_ok X G (c.fact 31 (f := .glo "key_of") (by rfl))
  have a_touched := He.glo_ok X G (c.fact 32 (f := .glo "touched") (by rfl))
  have a_law := He.glo_ok X G (c.fact 33 (f := .glo "law") (by rfl))
  have e := hfa.symm.trans a_law
  cases e
  obtain ⟨oc_law_tape, od_law_tape, sl_law_tape, kV_law_tape, dc_law_tape, pm_law_tape, an_law_tape, cd_law_tape, ct_law_tape, l_law_tape, c_law_tape⟩ := c.def_ 0 (d := dF_law_tape) (by rfl)
  have F_law_tape := fun_mk (st := s_law_tape) (x := "_law_tape") (qual := "_law_tape") (f := He.ga K "_law_tape") l_law_tape c_law_tape (He.keep_ok (c.fact 34 (f := .keep "_law_tape") (by rfl)))
  have b_law_tape := F_law_tape.binds (ps := ["script"]) fun _ _ _ _ _ _ us hl => match us, hl with | [_], _ => rfl
  have n_law_tape : Kn K mg "_law_tape" s_law_tape ["script"] (He.ga K "_law_tape") _ := ⟨F_law_tape, b_law_tape, a_law_tape⟩
  obtain ⟨oc_law_take, od_law_take, sl_law_take, kV_law_take, dc_law_take, pm_law_take, an_law_take, cd_law_take, ct_law_take, l_law_take, c_law_take⟩ := c.def_ 1 (d := dF_law_take) (by rfl)
  have F_law_take := fun_mk (st := s_law_take) (x := "_law_take") (qual := "_law_take") (f := He.ga K "_law_take") l_law_take c_law_take (He.keep_ok (c.fact 35 (f := .keep "_law_take") (by rfl)))
  have b_law_take := F_law_take.binds (ps := ["tape", "many"]) fun _ _ _ _ _ _ us hl => match us, hl with | [_, _], _ => rfl
  have n_law_take : Kn K mg "_law_take" s_law_take ["tape", "many"] (He.ga K "_law_take") _ := ⟨F_law_take, b_law_take, a_law_take⟩
  obtain ⟨oc_law_name, od_law_name, sl_law_name, kV_law_name, dc_law_name, pm_law_name, an_law_name, cd_law_name, ct_law_name, l_law_name, c_law_name⟩ := c.def_ 2 (d := dF_law_name) (by rfl)
  have F_law_name := fun_mk (st := s_law_name) (x := "_law_name") (qual := "_law_name") (f := He.ga K "_law_name") l_law_name c_law_name (He.keep_ok (c.fact 36 (f := .keep "_law_name") (by rfl)))
  have b_law_name := F_law_name.binds (ps := ["tape", "used"]) fun _ _ _ _ _ _ us hl => match us, hl with | [_, _], _ => rfl
  have n_law_name : Kn K mg "_law_name" s_law_name ["tape", "used"] (He.ga K "_law_name") _ := ⟨F_law_name, b_law_name, a_law_name⟩
  obtain ⟨oc_law_table, od_law_table, sl_law_table, kV_law_table, dc_law_table, pm_law_table, an_law_table, cd_law_table, ct_law_table, l_law_table, c_law_table⟩ := c.def_ 3 (d := dF_law_table) (by rfl)
  have F_law_table := fun_mk (st := s_law_table) (x := "_law_table") (qual := "_law_table") (f := He.ga K "_law_table") l_law_table c_law_table (He.keep_ok (c.fact 37 (f := .keep "_law_table") (by rfl)))
  have b_law_table := F_law_table.binds (ps := ["columns"]) fun _ _ _ _ _ _ us hl => match us, hl with | [_], _ => rfl
  have n_law_table : Kn K mg "_law_table" s_law_table ["columns"] (He.ga K "_law_table") _ := ⟨F_law_table, b_law_table, a_law_table⟩
  obtain ⟨oc_law_columns, od_law_columns, sl_law_columns, kV_law_columns, dc_law_columns, pm_law_columns, an_law_columns, cd_law_columns, ct_law_columns, l_law_columns, c_law_columns⟩ := c.def_ 4 (d := dF_law_columns) (by rfl)
  have F_law_columns := fun_mk (st := s_law_columns) (x := "_law_columns") (qual := "_law_columns") (f := He.ga K "_law_columns") l_law_columns c_law_columns (He.keep_ok (c.fact 38 (f := .keep "_law_columns") (by rfl)))
  have b_law_columns := F_law_columns.binds (ps := ["tape", "used", "many"]) fun _ _ _ _ _ _ us hl => match us, hl with | [_, _, _], _ => rfl
  have n_law_columns : Kn K mg "_law_columns" s_law_columns ["tape", "used", "many"] (He.ga K "_law_columns") _ := ⟨F_law_columns, b_law_columns, a_law_columns⟩
  obtain ⟨oc_law_names, od_law_names, sl_law_names, kV_law_names, dc_law_names, pm_law_names, an_law_names, cd_law_names, ct_law_names, l_law_names, c_law_names⟩ := c.def_ 5 (d := dF_law_names) (by rfl)
  have F_law_names := fun_mk (st := s_law_names) (x := "_law_names") (qual := "_law_names") (f := He.ga K "_law_names") l_law_names c_law_names (He.keep_ok (c.fact 39 (f := .keep "_law_names") (by rfl)))
  have b_law_names := F_law_names.binds (ps := ["columns"]) fun _ _ _ _ _ _ us hl => match us, hl with | [_], _ => rfl
  have n_law_names : Kn K mg "_law_names" s_law_names ["columns"] (He.ga K "_law_names") _ := ⟨F_law_names, b_law_names, a_law_names⟩
  obtain ⟨oc_law_integer, od_law_integer, sl_law_integer, kV_law_integer, dc_law_integer, pm_law_integer, an_law_integer, cd_law_integer, ct_law_integer, l_law_integer, c_law_integer⟩ := c.def_ 6 (d := dF_law_integer) (by rfl)
  have F_law_integer := fun_mk (st := s_law_integer) (x := "_law_integer") (qual := "_law_integer") (f := He.ga K "_law_integer") l_law_integer c_law_integer (He.keep_ok (c.fact 40 (f := .keep "_law_integer") (by rfl)))
  have b_law_integer := F_law_integer.binds (ps := ["tape"]) fun _ _ _ _ _ _ us hl => match us, hl with | [_], _ => rfl
  have n_law_integer : Kn K mg "_law_integer" s_law_integer ["tape"] (He.ga K "_law_integer") _ := ⟨F_law_integer, b_law_integer, a_law_integer⟩
  obtain ⟨oc_law_char, od_law_char, sl_law_char, kV_law_char, dc_law_char, pm_law_char, an_law_char, cd_law_char, ct_law_char, l_law_char, c_law_char⟩ := c.def_ 7 (d := dF_law_char) (by rfl)
  have F_law_char := fun_mk (st := s_law_char) (x := "_law_char") (qual := "_law_char") (f := He.ga K "_law_char") l_law_char c_law_char (He.keep_ok (c.fact 41 (f := .keep "_law_char") (by rfl)))
  have b_law_char := F_law_char.binds (ps := ["tape"]) fun _ _ _ _ _ _ us hl => match us, hl with | [_], _ => rfl
  have n_law_char : Kn K mg "_law_char" s_law_char ["tape"] (He.ga K "_law_char") _ := ⟨F_law_char, b_law_char, a_law_char⟩
  obtain ⟨oc_law_text, od_law_text, sl_law_text, kV_law_text, dc_law_text, pm_law_text, an_law_text, cd_law_text, ct_law_text, l_law_text, c_law_text⟩ := c.def_ 8 (d := dF_law_text) (by rfl)
  have F_law_text := fun_mk (st := s_law_text) (x := "_law_text") (qual := "_law_text") (f := He.ga K "_law_text") l_law_text c_law_text (He.keep_ok (c.fact 42 (f := .keep "_law_text") (by rfl)))
  have b_law_text := F_law_text.binds (ps := ["tape"]) fun _ _ _ _ _ _ us hl => match us, hl with | [_], _ => rfl
  have n_law_text : Kn K mg "_law_text" s_law_text ["tape"] (He.ga K "_law_text") _ := ⟨F_law_text, b_law_text, a_law_text⟩
  obtain ⟨oc_law_value, od_law_value, sl_law_value, kV_law_value, dc_law_value, pm_law_value, an_law_value, cd_law_value, ct_law_value, l_law_value, c_law_value⟩ := c.def_ 9 (d := dF_law_value) (by rfl)
  have F_law_value := fun_mk (st := s_law_value) (x := "_law_value") (qual := "_law_value") (f := He.ga K "_law_value") l_law_value c_law_value (He.keep_ok (c.fact 43 (f := .keep "_law_value") (by rfl)))
  have b_law_value := F_law_value.binds (ps := ["tape", "kind", "nullable"]) fun _ _ _ _ _ _ us hl => match us, hl with | [_, _, _], _ => rfl
  have n_law_value : Kn K mg "_law_value" s_law_value ["tape", "kind", "nullable"] (He.ga K "_law_value") _ := ⟨F_law_value, b_law_value, a_law_value⟩
  obtain ⟨oc_law_clause, od_law_clause, sl_law_clause, kV_law_clause, dc_law_clause, pm_law_clause, an_law_clause, cd_law_clause, ct_law_clause, l_law_clause, c_law_clause⟩ := c.def_ 10 (d := dF_law_clause) (by rfl)
  have F_law_clause := fun_mk (st := s_law_clause) (x := "_law_clause") (qual := "_law_clause") (f := He.ga K "_law_clause") l_law_clause c_law_clause (He.keep_ok (c.fact 44 (f := .keep "_law_clause") (by rfl)))
  have b_law_clause := F_law_clause.binds (ps := ["tape", "columns"]) fun _ _ _ _ _ _ us hl => match us, hl with | [_, _], _ => rfl
  have n_law_clause : Kn K mg "_law_clause" s_law_clause ["tape", "columns"] (He.ga K "_law_clause") _ := ⟨F_law_clause, b_law_clause, a_law_clause⟩
  obtain ⟨oc_law_condition, od_law_condition, sl_law_condition, kV_law_condition, dc_law_condition, pm_law_condition, an_law_condition, cd_law_condition, ct_law_condition, l_law_condition, c_law_condition⟩ := c.def_ 11 (d := dF_law_condition) (by rfl)
  have F_law_condition := fun_mk (st := s_law_condition) (x := "_law_condition") (qual := "_law_condition") (f := He.ga K "_law_condition") l_law_condition c_law_condition (He.keep_ok (c.fact 45 (f := .keep "_law_condition") (by rfl)))
  have b_law_condition := F_law_condition.binds (ps := ["tape", "columns"]) fun _ _ _ _ _ _ us hl => match us, hl with | [_, _], _ => rfl
  have n_law_condition : Kn K mg "_law_condition" s_law_condition ["tape", "columns"] (He.ga K "_law_condition") _ := ⟨F_law_condition, b_law_condition, a_law_condition⟩
  obtain ⟨oc_law_limits, od_law_limits, sl_law_limits, kV_law_limits, dc_law_limits, pm_law_limits, an_law_limits, cd_law_limits, ct_law_limits, l_law_limits, c_law_limits⟩ := c.def_ 12 (d := dF_law_limits) (by rfl)
  have F_law_limits := fun_mk (st := s_law_limits) (x := "_law_limits") (qual := "_law_limits") (f := He.ga K "_law_limits") l_law_limits c_law_limits (He.keep_ok (c.fact 46 (f := .keep "_law_limits") (by rfl)))
  have b_law_limits := F_law_limits.binds (ps := ["tape", "schema", "table"]) fun _ _ _ _ _ _ us hl => match us, hl with | [_, _, _], _ => rfl
  have n_law_limits : Kn K mg "_law_limits" s_law_limits ["tape", "schema", "table"] (He.ga K "_law_limits") _ := ⟨F_law_limits, b_law_limits, a_law_limits⟩
  obtain ⟨oc_law_schema, od_law_schema, sl_law_schema, kV_law_schema, dc_law_schema, pm_law_schema, an_law_schema, cd_law_schema, ct_law_schema, l_law_schema, c_law_schema⟩ := c.def_ 13 (d := dF_law_schema) (by rfl)
  have F_law_schema := fun_mk (st := s_law_schema) (x := "_law_schema") (qual := "_law_schema") (f := He.ga K "_law_schema") l_law_schema c_law_schema (He.keep_ok (c.fact 47 (f := .keep "_law_schema") (by rfl)))
  have b_law_schema := F_law_schema.binds (ps := ["tape", "least", "most"]) fun _ _ _ _ _ _ us hl => match us, hl with | [_, _, _], _ => rfl
  have n_law_schema : Kn K mg "_law_schema" s_law_schema ["tape", "least", "most"] (He.ga K "_law_schema") _ := ⟨F_law_schema, b_law_schema, a_law_schema⟩
  obtain ⟨oc_law_rest, od_law_rest, sl_law_rest, kV_law_rest, dc_law_rest, pm_law_rest, an_law_rest, cd_law_rest, ct_law_rest, l_law_rest, c_law_rest⟩ := c.def_ 14 (d := dF_law_rest) (by rfl)
  have F_law_rest := fun_mk (st := s_law_rest) (x := "_law_rest") (qual := "_law_rest") (f := He.ga K "_law_rest") l_law_rest c_law_rest (He.keep_ok (c.fact 48 (f := .keep "_law_rest") (by rfl)))
  have b_law_rest := F_law_rest.binds (ps := ["tape", "columns"]) fun _ _ _ _ _ _ us hl => match us, hl with | [_, _], _ => rfl
  have n_law_rest : Kn K mg "_law_rest" s_law_rest ["tape", "columns"] (He.ga K "_law_rest") _ := ⟨F_law_rest, b_law_rest, a_law_rest⟩
  obtain ⟨oc_law_rows, od_law_rows, sl_law_rows, kV_law_rows, dc_law_rows, pm_law_rows, an_law_rows, cd_law_rows, ct_law_rows, l_law_rows, c_law_rows⟩ := c.def_ 15 (d := dF_law_rows) (by rfl)
  have F_law_rows := fun_mk (st := s_law_rows) (x := "_law_rows") (qual := "_law_rows") (f := He.ga K "_law_rows") l_law_rows c_law_rows (He.keep_ok (c.fact 49 (f := .keep "_law_rows") (by rfl)))
  have b_law_rows := F_law_rows.binds (ps := ["tape", "columns", "most"]) fun _ _ _ _ _ _ us hl => match us, hl with | [_, _, _], _ => rfl
  have n_law_rows : Kn K mg "_law_rows" s_law_rows ["tape", "columns", "most"] (He.ga K "_law_rows") _ := ⟨F_law_rows, b_law_rows, a_law_rows⟩
  obtain ⟨oc_law_state, od_law_state, sl_law_state, kV_law_state, dc_law_state, pm_law_state, an_law_state, cd_law_state, ct_law_state, l_law_state, c_law_state⟩ := c.def_ 16 (d := dF_law_state) (by rfl)
  have F_law_state := fun_mk (st := s_law_state) (x := "_law_state") (qual := "_law_state") (f := He.ga K "_law_state") l_law_state c_law_state (He.keep_ok (c.fact 50 (f := .keep "_law_state") (by rfl)))
  have b_law_state := F_law_state.binds (ps := ["tape", "schema", "most"]) fun _ _ _ _ _ _ us hl => match us, hl with | [_, _, _], _ => rfl
  have n_law_state : Kn K mg "_law_state" s_law_state ["tape", "schema", "most"] (He.ga K "_law_state") _ := ⟨F_law_state, b_law_state, a_law_state⟩
  obtain ⟨oc_law_copy, od_law_copy, sl_law_copy, kV_law_copy, dc_law_copy, pm_law_copy, an_law_copy, cd_law_copy, ct_law_copy, l_law_copy, c_law_copy⟩ := c.def_ 17 (d := dF_law_copy) (by rfl)
  have F_law_copy := fun_mk (st := s_law_copy) (x := "_law_copy") (qual := "_law_copy") (f := He.ga K "_law_copy") l_law_copy c_law_copy (He.keep_ok (c.fact 51 (f := .keep "_law_copy") (by rfl)))
  have b_law_copy := F_law_copy.binds (ps := ["thing"]) fun _ _ _ _ _ _ us hl => match us, hl with | [_], _ => rfl
  have n_law_copy : Kn K mg "_law_copy" s_law_copy ["thing"] (He.ga K "_law_copy") _ := ⟨F_law_copy, b_law_copy, a_law_copy⟩
  obtain ⟨oc_law_some_key, od_law_some_key, sl_law_some_key, kV_law_some_key, dc_law_some_key, pm_law_some_key, an_law_some_key, cd_law_some_key, ct_law_some_key, l_law_some_key, c_law_some_key⟩ := c.def_ 18 (d := dF_law_some_key) (by rfl)
  have F_law_some_key := fun_mk (st := s_law_some_key) (x := "_law_some_key") (qual := "_law_some_key") (f := He.ga K "_law_some_key") l_law_some_key c_law_some_key (He.keep_ok (c.fact 52 (f := .keep "_law_some_key") (by rfl)))
  have b_law_some_key := F_law_some_key.binds (ps := ["tape", "rows", "columns"]) fun _ _ _ _ _ _ us hl => match us, hl with | [_, _, _], _ => rfl
  have n_law_some_key : Kn K mg "_law_some_key" s_law_some_key ["tape", "rows", "columns"] (He.ga K "_law_some_key") _ := ⟨F_law_some_key, b_law_some_key, a_law_some_key⟩
  obtain ⟨oc_law_edit, od_law_edit, sl_law_edit, kV_law_edit, dc_law_edit, pm_law_edit, an_law_edit, cd_law_edit, ct_law_edit, l_law_edit, c_law_edit⟩ := c.def_ 19 (d := dF_law_edit) (by rfl)
  have F_law_edit := fun_mk (st := s_law_edit) (x := "_law_edit") (qual := "_law_edit") (f := He.ga K "_law_edit") l_law_edit c_law_edit (He.keep_ok (c.fact 53 (f := .keep "_law_edit") (by rfl)))
  have b_law_edit := F_law_edit.binds (ps := ["tape", "schema", "state"]) fun _ _ _ _ _ _ us hl => match us, hl with | [_, _, _], _ => rfl
  have n_law_edit : Kn K mg "_law_edit" s_law_edit ["tape", "schema", "state"] (He.ga K "_law_edit") _ := ⟨F_law_edit, b_law_edit, a_law_edit⟩
  obtain ⟨oc_law_key_of, od_law_key_of, sl_law_key_of, kV_law_key_of, dc_law_key_of, pm_law_key_of, an_law_key_of, cd_law_key_of, ct_law_key_of, l_law_key_of, c_law_key_of⟩ := c.def_ 20 (d := dF_law_key_of) (by rfl)
  have F_law_key_of := fun_mk (st := s_law_key_of) (x := "_law_key_of") (qual := "_law_key_of") (f := He.ga K "_law_key_of") l_law_key_of c_law_key_of (He.keep_ok (c.fact 54 (f := .keep "_law_key_of") (by rfl)))
  have b_law_key_of := F_law_key_of.binds (ps := ["edit"]) fun _ _ _ _ _ _ us hl => match us, hl with | [_], _ => rfl
  have n_law_key_of : Kn K mg "_law_key_of" s_law_key_of ["edit"] (He.ga K "_law_key_of") _ := ⟨F_law_key_of, b_law_key_of, a_law_key_of⟩
  obtain ⟨oc_law_right, od_law_right, sl_law_right, kV_law_right, dc_law_right, pm_law_right, an_law_right, cd_law_right, ct_law_right, l_law_right, c_law_right⟩ := c.def_ 21 (d := dF_law_right) (by rfl)
  have F_law_right := fun_mk (st := s_law_right) (x := "_law_right") (qual := "_law_right") (f := He.ga K "_law_right") l_law_right c_law_right (He.keep_ok (c.fact 55 (f := .keep "_law_right") (by rfl)))
  have b_law_right := F_law_right.binds (ps := ["state", "edit"]) fun _ _ _ _ _ _ us hl => match us, hl with | [_, _], _ => rfl
  have n_law_right : Kn K mg "_law_right" s_law_right ["state", "edit"] (He.ga K "_law_right") _ := ⟨F_law_right, b_law_right, a_law_right⟩
  obtain ⟨oc_law_do, od_law_do, sl_law_do, kV_law_do, dc_law_do, pm_law_do, an_law_do, cd_law_do, ct_law_do, l_law_do, c_law_do⟩ := c.def_ 22 (d := dF_law_do) (by rfl)
  have F_law_do := fun_mk (st := s_law_do) (x := "_law_do") (qual := "_law_do") (f := He.ga K "_law_do") l_law_do c_law_do (He.keep_ok (c.fact 56 (f := .keep "_law_do") (by rfl)))
  have b_law_do := F_law_do.binds (ps := ["schema", "state", "edit"]) fun _ _ _ _ _ _ us hl => match us, hl with | [_, _, _], _ => rfl
  have n_law_do : Kn K mg "_law_do" s_law_do ["schema", "state", "edit"] (He.ga K "_law_do") _ := ⟨F_law_do, b_law_do, a_law_do⟩
  obtain ⟨oc_law_write, od_law_write, sl_law_write, kV_law_write, dc_law_write, pm_law_write, an_law_write, cd_law_write, ct_law_write, l_law_write, c_law_write⟩ := c.def_ 23 (d := dF_law_write) (by rfl)
  have F_law_write := fun_mk (st := s_law_write) (x := "_law_write") (qual := "_law_write") (f := He.ga K "_law_write") l_law_write c_law_write (He.keep_ok (c.fact 57 (f := .keep "_law_write") (by rfl)))
  have b_law_write := F_law_write.binds (ps := ["tape", "schema", "state", "most"]) fun _ _ _ _ _ _ us hl => match us, hl with | [_, _, _, _], _ => rfl
  have n_law_write : Kn K mg "_law_write" s_law_write ["tape", "schema", "state", "most"] (He.ga K "_law_write") _ := ⟨F_law_write, b_law_write, a_law_write⟩
  obtain ⟨oc_row_difference, od_row_difference, sl_row_difference, kV_row_difference, dc_row_difference, pm_row_difference, an_row_difference, cd_row_difference, ct_row_difference, l_row_difference, c_row_difference⟩ := c.def_ 24 (d := dF_row_difference) (by rfl)
  have F_row_difference := fun_mk (st := s_row_difference) (x := "row_difference") (qual := "row_difference") (f := He.ga K "row_difference") l_row_difference c_row_difference (He.keep_ok (c.fact 58 (f := .keep "row_difference") (by rfl)))
  have b_row_difference := F_row_difference.binds (ps := ["table", "key", "old", "new"]) fun _ _ _ _ _ _ us hl => match us, hl with | [_, _, _, _], _ => rfl
  have n_row_difference : Kn K mg "row_difference" s_row_difference ["table", "key", "old", "new"] (He.ga K "row_difference") _ := ⟨F_row_difference, b_row_difference, a_row_difference⟩
  obtain ⟨oc_difference, od_difference, sl_difference, kV_difference, dc_difference, pm_difference, an_difference, cd_difference, ct_difference, l_difference, c_difference⟩ := c.def_ 25 (d := dF_difference) (by rfl)
  have F_difference := fun_mk (st := s_difference) (x := "difference") (qual := "difference") (f := He.ga K "difference") l_difference c_difference (He.keep_ok (c.fact 59 (f := .keep "difference") (by rfl)))
  have b_difference := F_difference.binds (ps := ["schema", "before", "after"]) fun _ _ _ _ _ _ us hl => match us, hl with | [_, _, _], _ => rfl
  have n_difference : Kn K mg "difference" s_difference ["schema", "before", "after"] (He.ga K "difference") _ := ⟨F_difference, b_difference, a_difference⟩
  obtain ⟨oc_law_is_integer, od_law_is_integer, sl_law_is_integer, kV_law_is_integer, dc_law_is_integer, pm_law_is_integer, an_law_is_integer, cd_law_is_integer, ct_law_is_integer, l_law_is_integer, c_law_is_integer⟩ := c.def_ 26 (d := dF_law_is_integer) (by rfl)
  have F_law_is_integer := fun_mk (st := s_law_is_integer) (x := "_law_is_integer") (qual := "_law_is_integer") (f := He.ga K "_law_is_integer") l_law_is_integer c_law_is_integer (He.keep_ok (c.fact 60 (f := .keep "_law_is_integer") (by rfl)))
  have b_law_is_integer := F_law_is_integer.binds (ps := ["actual"]) fun _ _ _ _ _ _ us hl => match us, hl with | [_], _ => rfl
  have n_law_is_integer : Kn K mg "_law_is_integer" s_law_is_integer ["actual"] (He.ga K "_law_is_integer") _ := ⟨F_law_is_integer, b_law_is_integer, a_law_is_integer⟩
  obtain ⟨oc_law_same_items, od_law_same_items, sl_law_same_items, kV_law_same_items, dc_law_same_items, pm_law_same_items, an_law_same_items, cd_law_same_items, ct_law_same_items, l_law_same_items, c_law_same_items⟩ := c.def_ 27 (d := dF_law_same_items) (by rfl)
  have F_law_same_items := fun_mk (st := s_law_same_items) (x := "_law_same_items") (qual := "_law_same_items") (f := He.ga K "_law_same_items") l_law_same_items c_law_same_items (He.keep_ok (c.fact 61 (f := .keep "_law_same_items") (by rfl)))
  have b_law_same_items := F_law_same_items.binds (ps := ["actual", "expected"]) fun _ _ _ _ _ _ us hl => match us, hl with | [_, _], _ => rfl
  have n_law_same_items : Kn K mg "_law_same_items" s_law_same_items ["actual", "expected"] (He.ga K "_law_same_items") _ := ⟨F_law_same_items, b_law_same_items, a_law_same_items⟩
  obtain ⟨oc_law_same, od_law_same, sl_law_same, kV_law_same, dc_law_same, pm_law_same, an_law_same, cd_law_same, ct_law_same, l_law_same, c_law_same⟩ := c.def_ 28 (d := dF_law_same) (by rfl)
  have F_law_same := fun_mk (st := s_law_same) (x := "_law_same") (qual := "_law_same") (f := He.ga K "_law_same") l_law_same c_law_same (He.keep_ok (c.fact 62 (f := .keep "_law_same") (by rfl)))
  have b_law_same := F_law_same.binds (ps := ["actual", "expected"]) fun _ _ _ _ _ _ us hl => match us, hl with | [_, _], _ => rfl
  have n_law_same : Kn K mg "_law_same" s_law_same ["actual", "expected"] (He.ga K "_law_same") _ := ⟨F_law_same, b_law_same, a_law_same⟩
  obtain ⟨oc_law_expected, od_law_expected, sl_law_expected, kV_law_expected, dc_law_expected, pm_law_expected, an_law_expected, cd_law_expected, ct_law_expected, l_law_expected, c_law_expected⟩ := c.def_ 29 (d := dF_law_expected) (by rfl)
  have F_law_expected := fun_mk (st := s_law_expected) (x := "_law_expected") (qual := "_law_expected") (f := He.ga K "_law_expected") l_law_expected c_law_expected (He.keep_ok (c.fact 63 (f := .keep "_law_expected") (by rfl)))
  have b_law_expected := F_law_expected.binds (ps := ["schema", "before", "after"]) fun _ _ _ _ _ _ us hl => match us, hl with | [_, _, _], _ => rfl
  have n_law_expected : Kn K mg "_law_expected" s_law_expected ["schema", "before", "after"] (He.ga K "_law_expected") _ := ⟨F_law_expected, b_law_expected, a_law_expected⟩
  obtain ⟨oc_law_touched, od_law_touched, sl_law_touched, kV_law_touched, dc_law_touched, pm_law_touched, an_law_touched, cd_law_touched, ct_law_touched, l_law_touched, c_law_touched⟩ := c.def_ 30 (d := dF_law_touched) (by rfl)
  have F_law_touched := fun_mk (st := s_law_touched) (x := "_law_touched") (qual := "_law_touched") (f := He.ga K "_law_touched") l_law_touched c_law_touched (He.keep_ok (c.fact 64 (f := .keep "_law_touched") (by rfl)))
  have b_law_touched := F_law_touched.binds (ps := ["edits"]) fun _ _ _ _ _ _ us hl => match us, hl with | [_], _ => rfl
  have n_law_touched : Kn K mg "_law_touched" s_law_touched ["edits"] (He.ga K "_law_touched") _ := ⟨F_law_touched, b_law_touched, a_law_touched⟩
  obtain ⟨oc_key_of, od_key_of, sl_key_of, kV_key_of, dc_key_of, pm_key_of, an_key_of, cd_key_of, ct_key_of, l_key_of, c_key_of⟩ := c.def_ 31 (d := dF_key_of) (by rfl)
  have F_key_of := fun_mk (st := s_key_of) (x := "key_of") (qual := "key_of") (f := He.ga K "key_of") l_key_of c_key_of (He.keep_ok (c.fact 65 (f := .keep "key_of") (by rfl)))
  have b_key_of := F_key_of.binds (ps := ["edit"]) fun _ _ _ _ _ _ us hl => match us, hl with | [_], _ => rfl
  have n_key_of : Kn K mg "key_of" s_key_of ["edit"] (He.ga K "key_of") _ := ⟨F_key_of, b_key_of, a_key_of⟩
  obtain ⟨oc_touched, od_touched, sl_touched, kV_touched, dc_touched, pm_touched, an_touched, cd_touched, ct_touched, l_touched, c_touched⟩ := c.def_ 32 (d := dF_touched) (by rfl)
  have F_touched := fun_mk (st := s_touched) (x := "touched") (qual := "touched") (f := He.ga K "touched") l_touched c_touched (He.keep_ok (c.fact 66 (f := .keep "touched") (by rfl)))
  have b_touched := F_touched.binds (ps := ["edits"]) fun _ _ _ _ _ _ us hl => match us, hl with | [_], _ => rfl
  have n_touched : Kn K mg "touched" s_touched ["edits"] (He.ga K "touched") _ := ⟨F_touched, b_touched, a_touched⟩
  obtain ⟨oc_law, od_law, sl_law, kV_law, dc_law, pm_law, an_law, cd_law, ct_law, l_law, c_law⟩ := c.def_ 33 (d := dF_law) (by rfl)
  have F_law := fun_mk (st := s_law) (x := "law") (qual := "law") (f := He.ga K "law") l_law c_law (He.keep_ok (c.fact 67 (f := .keep "law") (by rfl)))
  have b_law := F_law.binds (ps := ["script"]) fun _ _ _ _ _ _ us hl => match us, hl with | [_], _ => rfl
  have n_law : Kn K mg "law" s_law ["script"] (He.ga K "law") _ := ⟨F_law, b_law, a_law⟩
  unfold exL at ex
  have z : Z mg := ⟨He.free_ok X G (c.fact 68 (f := .free "abs") (by rfl)), He.free_ok X G (c.fact 69 (f := .free "int") (by rfl)), He.free_ok X G (c.fact 70 (f := .free "len") (by rfl)), He.free_ok X G (c.fact 71 (f := .free "range") (by rfl)), He.free_ok X G (c.fact 72 (f := .free "list") (by rfl)), He.free_ok X G (c.fact 73 (f := .free "str") (by rfl)), He.free_ok X G (c.fact 74 (f := .free "tuple") (by rfl)), He.free_ok X G (c.fact 75 (f := .free "sorted") (by rfl)), He.free_ok X G (c.fact 76 (f := .free "isinstance") (by rfl)), He.free_ok X G (c.fact 77 (f := .free "dict") (by rfl)), He.free_ok X G (c.fact 78 (f := .free "set") (by rfl)), He.free_ok X G (c.fact 79 (f := .free "bool") (by rfl))⟩
  refine ⟨PySem.W.fnOf "law" "law" (defArgs s_law) (defBody s_law) (defScope s_law) .none kV_law dc_law pm_law an_law cd_law ct_law, fun s v => .of_eq rfl, fun base _ _ => ?_⟩
  have o_law_tape := ok_law_tape (P := l.prog) (w := w) (base := base) n_law_tape z 
  have o_law_take := ok_law_take (P := l.prog) (w := w) (base := base) n_law_take z 
  have o_law_name := ok_law_name (P := l.prog) (w := w) (base := base) n_law_name z o_law_take
  have o_law_table := ok_law_table (P := l.prog) (w := w) (base := base) n_law_table z 
  have o_law_columns := ok_law_columns (P := l.prog) (w := w) (base := base) n_law_columns z o_law_take o_law_name
  have o_law_names := ok_law_names (P := l.prog) (w := w) (base := base) n_law_names z 
  have o_law_integer := ok_law_integer (P := l.prog) (w := w) (base := base) n_law_integer z o_law_take
  have o_law_char := ok_law_char (P := l.prog) (w := w) (base := base) n_law_char z o_law_take
  have o_law_text := ok_law_text (P := l.prog) (w := w) (base := base) n_law_text z o_law_take o_law_char
  have o_law_value := ok_law_value (P := l.prog) (w := w) (base := base) n_law_value z o_law_take o_law_integer o_law_text
  have o_law_clause := ok_law_clause (P := l.prog) (w := w) (base := base) n_law_clause z o_law_take o_law_value
  have o_law_condition := ok_law_condition (P := l.prog) (w := w) (base := base) n_law_condition z o_law_take o_law_clause
  have o_law_limits := ok_law_limits (P := l.prog) (w := w) (base := base) n_law_limits z o_law_names o_law_take o_law_condition
  have o_law_schema := ok_law_schema (P := l.prog) (w := w) (base := base) n_law_schema z o_law_take o_law_name o_law_table o_law_columns o_law_limits
  have o_law_rest := ok_law_rest (P := l.prog) (w := w) (base := base) n_law_rest z o_law_value
  have o_law_rows := ok_law_rows (P := l.prog) (w := w) (base := base) n_law_rows z o_law_take o_law_value o_law_rest
  have o_law_state := ok_law_state (P := l.prog) (w := w) (base := base) n_law_state z o_law_rows
  have o_law_copy := ok_law_copy (P := l.prog) (w := w) (base := base) n_law_copy z 9
  have o_law_some_key := ok_law_some_key (P := l.prog) (w := w) (base := base) n_law_some_key z o_law_take o_law_value
  have o_law_edit := ok_law_edit (P := l.prog) (w := w) (base := base) n_law_edit z o_law_take o_law_some_key o_law_value o_law_rest
  have o_law_key_of := ok_law_key_of (P := l.prog) (w := w) (base := base) n_law_key_of z 
  have o_law_right := ok_law_right (P := l.prog) (w := w) (base := base) n_law_right z o_law_key_of
  have o_law_do := ok_law_do (P := l.prog) (w := w) (base := base) n_law_do z o_law_key_of o_law_names
  have o_law_write := ok_law_write (P := l.prog) (w := w) (base := base) n_law_write z o_law_copy o_law_take o_law_edit o_law_right o_law_do
  have o_row_difference := ok_row_difference (P := l.prog) (w := w) (base := base) n_row_difference z 
  have o_difference := ok_difference (P := l.prog) (w := w) (base := base) n_difference z o_row_difference
  have o_law_is_integer := ok_law_is_integer (P := l.prog) (w := w) (base := base) n_law_is_integer z 
  have _ := True.intro
  have o_law_same := ok_law_same (P := l.prog) (w := w) (base := base) n_law_same n_law_same_items z o_law_is_integer 9
  have o_law_expected := ok_law_expected (P := l.prog) (w := w) (base := base) n_law_expected z 
  have o_law_touched := ok_law_touched (P := l.prog) (w := w) (base := base) n_law_touched z o_law_key_of
  have o_key_of := ok_key_of (P := l.prog) (w := w) (base := base) n_key_of z 
  have o_touched := ok_touched (P := l.prog) (w := w) (base := base) n_touched z o_key_of
  have o_law := ok_law (P := l.prog) (w := w) (base := base) n_law z o_law_tape o_law_schema o_law_state o_law_write o_law_take o_law_copy o_difference o_law_same o_law_expected o_law_touched o_touched o_law_do
  exact o_law.G
end Lt
open PySem PySem.W PySem.Calls PyProof.Rows
set_option maxRecDepth 100000 in
set_option maxHeartbeats 0 in
theorem PySem.Challenge.cw_lenstree_k11_difference_holds : PySem.Challenge.rw_lenstree_k11_difference.Holds := by
  w_on; o_law
  refine HandSHeadRun.head_any (r := OpenLaw.row PySem.Challenge.rw_lenstree_k11_difference) (q := view (OpenLaw.row PySem.Challenge.rw_lenstree_k11_difference).prog [35]) (H := Lt.hkL) (ob := Lt.obN) (M := 20000) (loose := Lt.looseL) (d := HandSHeadRun.topDef (OpenLaw.row PySem.Challenge.rw_lenstree_k11_difference).prog 35) (kwd := []) Lt.obN_eq (by kernel_rfl) (fun s => by kernel_rfl) Lt.runL (by kernel_rfl) (by kernel_rfl) (by kernel_rfl) (by rfl) (by first | assumption | decide +kernel) (by decide +kernel) ⟨rfl, rfl, rfl, rfl, rfl, by decide +kernel⟩ ?hw ?hc
  case hw => w_witness2
  case hc =>
    refine L2.walk_ofE (l := PySem.Challenge.rw_lenstree_k11_difference) (n := 63) (k := 19) (x := "script") (CX := L2.CX0) rfl (by decide) (by kernel_rfl) ⟨rfl, by decide, by decide⟩ ?F (fun _ _ _ _ z => z)
    intro w mg fa h Y G hmg0
    obtain ⟨K, KX, c, ex⟩ := Y
    have hmg : mg ("law" : PySem.Str) = some (.ref fa) := by
      have e : (HandSHeadRun.topDef (OpenLaw.row PySem.Challenge.rw_lenstree_k11_difference).prog 35).name = ("law" : PySem.Str) := by kernel_rfl
      rw [← e]
      exact hmg0
    obtain ⟨fd, hb, hF⟩ := Lt.all_mkF (l := PySem.Challenge.rw_lenstree_k11_difference) (w := w) KX G hmg c ex
    exact ⟨K, fd, Lt.spLaw K, KX, hb, fun H a ns hl _ hS => ⟨a, ns, rfl, hS, hl, fun _ => rfl⟩, hF⟩
#print axioms PySem.Challenge.cw_lenstree_k11_difference_holds
