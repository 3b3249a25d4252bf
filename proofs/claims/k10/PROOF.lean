import PyProof.Rows.All
import Wide.All
import OpenK.AllK
import Wide.FinOn
import HandS.ForMost
import HandS.Wide
import HandS.IsInst
import HandS.Flow
import HandS.Codes
import HandS.StrMore
import HandS.Walk
import HandS.Style
import HandS.Exc
import HandS.DictComp
import HandS.TupAny
import HandS.More
import HandS.SortInts
import HandS.ExcInit
import HandS.ExcField
import HandS.ExcCtx
import HandS.HotCalls
import HandS.ExcInitHot
import HandS.ExcIs
import HandS.Deep
import HandS.Remove
import KE.DataFind
import HandS.Zip
import HandS.Replace
import KE.BitLaws
import KE.KExcIs
import KE.KStateDown
import HandS.Head0
import HandS.Head1
import HandS.Head2
import HandS.HeadEnd
import HandS.HeadHook1
import HandS.HeadHook2
import HandS.Small
import PySem.Challenge.RW_lenstree_k10_apply_write
set_option Elab.async false
set_option linter.all false
set_option maxRecDepth 100000
set_option maxHeartbeats 4000000
set_option autoImplicit false
set_option autoImplicit false
namespace Lt
open PySem L2 TL
open C8 (pss_cut)
/-! ## what every law of Lenstree leans on -/
/-- a def that has been walked: how it is called -/
structure Cal (P : Program) (w : World) (K : PySem.W.Frag) (mg : Str → Option Value) (base : Heap) (n : Nat) (x : Str) (ps : List Str) (sp : Sp) (g : Addr) (gd : FuncData) : Prop where
  G : FnOk P w K mg base CX0 n g gd ps sp
  m : mg x = some (.ref g)
  kp : PySem.W.keepIn K (.ref g) = true
  b : Binds K gd ps []
/-- a def as the top has made it -/
structure Kn (K : PySem.W.Frag) (mg : Str → Option Value) (x : Str) (st : Stmt) (ps : List Str) (g : Addr) (gd : FuncData) : Prop where
  F : Fun K x x st g gd
  b : Binds K gd ps []
  m : mg x = some (.ref g)
theorem Kn.cal {P : Program} {w : World} {K : PySem.W.Frag} {mg : Str → Option Value} {base : Heap} {n : Nat} {x : Str} {st : Stmt} {ps : List Str} {sp : Sp} {g : Addr} {gd : FuncData}
    (k : Kn K mg x st ps g gd) (G : FnOk P w K mg base CX0 n g gd ps sp) : Cal P w K mg base n x ps sp g gd := ⟨G, k.m, k.F.kp, k.b⟩

/-! ### heaps that differ at one place -/
def SameX (t : Addr) (H H' : Hp) : Prop := ∀ b o, H b = some o → b ≠ t → H' b = some o
theorem SameX.refl (t : Addr) (H : Hp) : SameX t H H := fun _ _ h _ => h
theorem SameX.trans {t : Addr} {H H1 H2 : Hp} (a : SameX t H H1) (b : SameX t H1 H2) : SameX t H H2 := fun c o h n => b c o (a c o h n) n
theorem SameX.of {t : Addr} {H H1 : Hp} (a : Same H H1) : SameX t H H1 := fun c o h _ => a c o h
theorem SameX.upd {t : Addr} {H : Hp} (o : HO) : SameX t H (upd H t o) := fun b u h n => by rw [upd_ne n]; exact h
theorem same_new {H : Hp} {p : Addr} (h : H p = none) (o : HO) : Same H (upd H p o) := fun b u q => by rw [upd_ne (ne_of_none q h)]; exact q
theorem SameX.free {t : Addr} {H H' : Hp} (e : SameX t H H') {l : Addr} (hl : l ≠ t) (h : H' l = none) : H l = none := by
  cases q : H l with
  | none => rfl
  | some o => rw [e l o q hl] at h; cases h

theorem iteDT {c A B : Prop} [Decidable c] (hc : c) (h : A) : if decide c = true then A else B := by
  rw [decide_eq_true hc]; exact iteT h
theorem iteDF {c A B : Prop} [Decidable c] (hc : ¬ c) (h : B) : if decide c = true then A else B := by
  rw [decide_eq_false hc]; exact iteF h
theorem iteNF {c A B : Prop} [Decidable c] (hc : ¬ c) (h : A) : if (!decide c) = true then A else B := by
  rw [decide_eq_false hc]; exact iteT h
theorem ifD {c A B : Prop} [Decidable c] (h1 : c → A) (h2 : ¬ c → B) : if decide c = true then A else B := by
  by_cases h : c
  · exact iteDT h (h1 h)
  · exact iteDF h (h2 h)
theorem ifN {c A B : Prop} [Decidable c] (h1 : ¬ c → A) (h2 : c → B) : if (!decide c) = true then A else B := by
  by_cases h : c
  · exact iteNS h (h2 h)
  · exact iteNF h (h1 h)
theorem bl_T {c : Prop} [Decidable c] {Q : VK} {H : Hp} (hc : c) (h : Q (.bl true) H) : Q (.bl (decide c)) H := by rw [decide_eq_true hc]; exact h
theorem bl_F {c : Prop} [Decidable c] {Q : VK} {H : Hp} (hc : ¬ c) (h : Q (.bl false) H) : Q (.bl (decide c)) H := by rw [decide_eq_false hc]; exact h
theorem int_at {ns : List Int} {i : Nat} {x : V} (h : (ns.map V.int)[i]? = some x) : ∃ z, x = V.int z ∧ ns[i]? = some z := by
  rw [List.getElem?_map] at h
  cases e : ns[i]? with
  | none => rw [e] at h; cases h
  | some z => rw [e] at h; exact ⟨z, (Option.some.inj h).symm, rfl⟩
theorem same_upd {H H1 : Hp} {p : Addr} (h : H p = none) (o : HO) (e : Same H H1) : Same H (upd H1 p o) := fun b u q => by rw [upd_ne (ne_of_none q h)]; exact e _ _ q
theorem samex_upd {t : Addr} {H H1 : Hp} {p : Addr} (h : H p = none) (o : HO) (e : SameX t H H1) : SameX t H (upd H1 p o) := fun b u q n => by rw [upd_ne (ne_of_none q h)]; exact e _ _ q n
/-- isinstance(x, T) -/
theorem isi {K : PySem.W.Frag} {H : Hp} {Q : VK} {x : V} {a b : String} (r : Bool) (hT : TyX K H x (.type a)) (h : kitB a b = some r) (q : Q (.bl r) H) : rIsi K [x, .ty b] H Q :=
  ⟨_, _, _, _, r, rfl, .ty _, hT, kit_ty h, q⟩
/-- xs[i] of a list or a tuple -/
theorem ixq {K : PySem.W.Frag} {H : Hp} {Q : VK} {a : Addr} {xs : List V} {i : Int} {v : V} (h : SqL K H a xs ∨ SqT K H a xs) (e : atI xs i = some v) (q : Q v H) : rIx K (.ref a) (.int i) H Q := by
  rcases h with h | h
  · exact .inl ⟨a, xs, i, v, rfl, rfl, h, e, q⟩
  · exact .inr (.inl ⟨a, xs, i, v, rfl, rfl, h, e, q⟩)
theorem at_in {α : Type} {xs : List α} {i : Int} (h0 : 0 ≤ i) (h1 : i < xs.length) : ∃ v, atI xs i = some v ∧ v ∈ xs := by
  have hk : i.toNat < xs.length := by omega
  refine ⟨xs[i.toNat], ?_, List.getElem_mem hk⟩
  have e : i = ((i.toNat : Nat) : Int) := by omega
  have q : atI xs ((i.toNat : Nat) : Int) = some xs[i.toNat] := atI_nat (List.getElem?_eq_getElem hk)
  rw [← e] at q
  exact q
/-! ### texts -/
def one (c : Nat) : Str := ⟨#[c]⟩
def chOk (c : Nat) : Prop := 32 ≤ c ∧ c ≤ 126 ∧ c ≠ 37
instance (c : Nat) : Decidable (chOk c) := by unfold chOk; exact inferInstance
theorem tl_one (c : Nat) : tl (one c) = [c] := rfl
theorem join_ones : ∀ chs : List Nat, joinL [] ((chs.map one).map tl) = chs
  | [] => rfl
  | [c] => rfl
  | c :: d :: r => by
    have q := join_ones (d :: r)
    show [c] ++ ([] ++ joinL [] (((d :: r).map one).map tl)) = c :: d :: r
    rw [q]; rfl
theorem strOk_of {x : Str} (h : ∀ c ∈ tl x, chOk c) : PyData.strOk x = true := by
  unfold PyData.strOk
  rw [← Array.all_toList, List.all_eq_true]
  intro c hc
  have := h c hc
  unfold chOk at this
  exact decide_eq_true (by omega)
theorem tl_empty : tl ("" : Str) = [] := by decide +kernel
theorem tl_joined (chs : List Nat) : tl (Txt.join ("" : Str) (chs.map one)) = chs := by
  rw [join_eq, tl_join, tl_empty, join_ones]
theorem len_joined (chs : List Nat) : (Txt.join ("" : Str) (chs.map one)).length = chs.length := by rw [len_tl, tl_joined]
theorem sum_ones (chs : List Nat) : ((chs.map one).map (·.length)).sum = chs.length := by
  induction chs with
  | nil => rfl
  | cons c r ih => rw [List.map_cons, List.map_cons, List.sum_cons, ih, List.length_cons]; show 1 + r.length = r.length + 1; omega
/-! ### the tape that a law draws from -/
theorem s_cells_at : ¬ ("cells" : Str) = ("at" : Str) := by decide +kernel
theorem n_cells_at : ¬ (Sum.inr ("cells" : Str) : Key) = Sum.inr ("at" : Str) := fun e => s_cells_at (Sum.inr.inj e)
theorem s_cells_left : ¬ ("cells" : Str) = ("left" : Str) := by decide +kernel
theorem n_cells_left : ¬ (Sum.inr ("cells" : Str) : Key) = Sum.inr ("left" : Str) := fun e => s_cells_left (Sum.inr.inj e)
theorem s_cells_seed : ¬ ("cells" : Str) = ("seed" : Str) := by decide +kernel
theorem n_cells_seed : ¬ (Sum.inr ("cells" : Str) : Key) = Sum.inr ("seed" : Str) := fun e => s_cells_seed (Sum.inr.inj e)
theorem s_cells_salt : ¬ ("cells" : Str) = ("salt" : Str) := by decide +kernel
theorem n_cells_salt : ¬ (Sum.inr ("cells" : Str) : Key) = Sum.inr ("salt" : Str) := fun e => s_cells_salt (Sum.inr.inj e)
theorem s_at_cells : ¬ ("at" : Str) = ("cells" : Str) := by decide +kernel
theorem s_at_left : ¬ ("at" : Str) = ("left" : Str) := by decide +kernel
theorem n_at_left : ¬ (Sum.inr ("at" : Str) : Key) = Sum.inr ("left" : Str) := fun e => s_at_left (Sum.inr.inj e)
theorem s_at_seed : ¬ ("at" : Str) = ("seed" : Str) := by decide +kernel
theorem n_at_seed : ¬ (Sum.inr ("at" : Str) : Key) = Sum.inr ("seed" : Str) := fun e => s_at_seed (Sum.inr.inj e)
theorem s_at_salt : ¬ ("at" : Str) = ("salt" : Str) := by decide +kernel
theorem n_at_salt : ¬ (Sum.inr ("at" : Str) : Key) = Sum.inr ("salt" : Str) := fun e => s_at_salt (Sum.inr.inj e)
theorem s_left_cells : ¬ ("left" : Str) = ("cells" : Str) := by decide +kernel
theorem s_left_at : ¬ ("left" : Str) = ("at" : Str) := by decide +kernel
theorem s_left_seed : ¬ ("left" : Str) = ("seed" : Str) := by decide +kernel
theorem n_left_seed : ¬ (Sum.inr ("left" : Str) : Key) = Sum.inr ("seed" : Str) := fun e => s_left_seed (Sum.inr.inj e)
theorem s_left_salt : ¬ ("left" : Str) = ("salt" : Str) := by decide +kernel
theorem n_left_salt : ¬ (Sum.inr ("left" : Str) : Key) = Sum.inr ("salt" : Str) := fun e => s_left_salt (Sum.inr.inj e)
theorem s_seed_cells : ¬ ("seed" : Str) = ("cells" : Str) := by decide +kernel
theorem s_seed_at : ¬ ("seed" : Str) = ("at" : Str) := by decide +kernel
theorem s_seed_left : ¬ ("seed" : Str) = ("left" : Str) := by decide +kernel
theorem s_seed_salt : ¬ ("seed" : Str) = ("salt" : Str) := by decide +kernel
theorem n_seed_salt : ¬ (Sum.inr ("seed" : Str) : Key) = Sum.inr ("salt" : Str) := fun e => s_seed_salt (Sum.inr.inj e)
theorem s_salt_cells : ¬ ("salt" : Str) = ("cells" : Str) := by decide +kernel
theorem s_salt_at : ¬ ("salt" : Str) = ("at" : Str) := by decide +kernel
theorem s_salt_left : ¬ ("salt" : Str) = ("left" : Str) := by decide +kernel
theorem s_salt_seed : ¬ ("salt" : Str) = ("seed" : Str) := by decide +kernel
def tk (c : Addr) (a l s m : Int) : List (Key × V) := [(Sum.inr "cells", .ref c), (Sum.inr "at", .int a), (Sum.inr "left", .int l), (Sum.inr "seed", .int s), (Sum.inr "salt", .int m)]
section
variable (c : Addr) (a l s m x : Int)
theorem tk_cells : valV (tk c a l s m) (Sum.inr ("cells" : Str) : Key) = some (.ref c) := valV_pos rfl
theorem tk_at : valV (tk c a l s m) (Sum.inr ("at" : Str) : Key) = some (.int a) := by unfold tk; rw [valV_neg n_cells_at, valV_pos rfl]
theorem tk_left : valV (tk c a l s m) (Sum.inr ("left" : Str) : Key) = some (.int l) := by unfold tk; rw [valV_neg n_cells_left, valV_neg n_at_left, valV_pos rfl]
theorem tk_seed : valV (tk c a l s m) (Sum.inr ("seed" : Str) : Key) = some (.int s) := by unfold tk; rw [valV_neg n_cells_seed, valV_neg n_at_seed, valV_neg n_left_seed, valV_pos rfl]
theorem tk_salt : valV (tk c a l s m) (Sum.inr ("salt" : Str) : Key) = some (.int m) := by unfold tk; rw [valV_neg n_cells_salt, valV_neg n_at_salt, valV_neg n_left_salt, valV_neg n_seed_salt, valV_pos rfl]
theorem put_at : putK (tk c a l s m) (Sum.inr ("at" : Str) : Key) (.int x) = tk c x l s m := by
  simp [putK, tk, s_at_cells, s_cells_at, s_at_left, s_left_at, s_at_seed, s_seed_at, s_at_salt, s_salt_at]
theorem put_left : putK (tk c a l s m) (Sum.inr ("left" : Str) : Key) (.int x) = tk c a x s m := by
  simp [putK, tk, s_left_cells, s_cells_left, s_left_at, s_at_left, s_left_seed, s_seed_left, s_left_salt, s_salt_left]
theorem put_salt : putK (tk c a l s m) (Sum.inr ("salt" : Str) : Key) (.int x) = tk c a l s x := by
  simp [putK, tk, s_salt_cells, s_cells_salt, s_salt_at, s_at_salt, s_salt_left, s_left_salt, s_salt_seed, s_seed_salt]
end
theorem merge_tk (c : Addr) (a l s m : Int) : mergeK [] (tk c a l s m) = tk c a l s m := by
  simp [mergeK, putK, tk, s_cells_at, s_cells_left, s_cells_seed, s_cells_salt, s_at_left, s_at_seed, s_at_salt, s_left_seed, s_left_salt, s_seed_salt]
structure TapeAt (H : Hp) (t c : Addr) (cs : List Int) : Prop where
  dk : ∃ a l s m : Int, H t = some (.dK (tk c a l s m)) ∧ 0 ≤ a ∧ 0 ≤ l
  ls : H c = some (.lst (cs.map V.int))
  nn : ∀ x ∈ cs, (0 : Int) ≤ x
theorem TapeAt.ne {H : Hp} {t c : Addr} {cs : List Int} (T : TapeAt H t c cs) : c ≠ t := by
  obtain ⟨a, l, s, m, h, _⟩ := T.dk
  exact ne_of T.ls h (by intro z; cases z)
theorem TapeAt.mono {H H' : Hp} {t c : Addr} {cs : List Int} (T : TapeAt H t c cs) (e : Same H H') : TapeAt H' t c cs := by
  obtain ⟨a, l, s, m, h, h1, h2⟩ := T.dk
  exact ⟨⟨a, l, s, m, e _ _ h, h1, h2⟩, e _ _ T.ls, T.nn⟩
theorem TapeAt.upd {H : Hp} {t c D : Addr} {cs : List Int} {o : HO} (T : TapeAt H t c cs) (h1 : D ≠ t) (h2 : c ≠ D) : TapeAt (upd H D o) t c cs := by
  obtain ⟨a, l, s, m, h, k1, k2⟩ := T.dk
  exact ⟨⟨a, l, s, m, by rw [upd_ne h1.symm]; exact h, k1, k2⟩, by rw [upd_ne h2]; exact T.ls, T.nn⟩
theorem tk_len {c : Addr} {a l s m : Int} : (tk c a l s m).length < sizeLine := by show 5 < sizeLine; decide
section
variable {H : Hp} {t c : Addr} {a l s m : Int}
theorem d_cells (h : H t = some (.dK (tk c a l s m))) : DGet H t (.str "cells") (some (.ref c)) := by have g := DGet.k (k := (Sum.inr ("cells" : Str) : Key)) h; rw [tk_cells] at g; exact g
theorem d_at (h : H t = some (.dK (tk c a l s m))) : DGet H t (.str "at") (some (.int a)) := by have g := DGet.k (k := (Sum.inr ("at" : Str) : Key)) h; rw [tk_at] at g; exact g
theorem d_left (h : H t = some (.dK (tk c a l s m))) : DGet H t (.str "left") (some (.int l)) := by have g := DGet.k (k := (Sum.inr ("left" : Str) : Key)) h; rw [tk_left] at g; exact g
theorem d_seed (h : H t = some (.dK (tk c a l s m))) : DGet H t (.str "seed") (some (.int s)) := by have g := DGet.k (k := (Sum.inr ("seed" : Str) : Key)) h; rw [tk_seed] at g; exact g
theorem d_salt (h : H t = some (.dK (tk c a l s m))) : DGet H t (.str "salt") (some (.int m)) := by have g := DGet.k (k := (Sum.inr ("salt" : Str) : Key)) h; rw [tk_salt] at g; exact g
theorem p_at (h : H t = some (.dK (tk c a l s m))) (x : Int) : DPut H t (.str "at") (.int x) (upd H t (.dK (tk c x l s m))) := by have g := DPut.k (k := (Sum.inr ("at" : Str) : Key)) (v := .int x) h tk_len; rw [put_at] at g; exact g
theorem p_left (h : H t = some (.dK (tk c a l s m))) (x : Int) : DPut H t (.str "left") (.int x) (upd H t (.dK (tk c a x s m))) := by have g := DPut.k (k := (Sum.inr ("left" : Str) : Key)) (v := .int x) h tk_len; rw [put_left] at g; exact g
theorem p_salt (h : H t = some (.dK (tk c a l s m))) (x : Int) : DPut H t (.str "salt") (.int x) (upd H t (.dK (tk c a l s x))) := by have g := DPut.k (k := (Sum.inr ("salt" : Str) : Key)) (v := .int x) h tk_len; rw [put_salt] at g; exact g
end
/-- _law_tape -/
def spTape (K : PySem.W.Frag) : Sp := fun vs H Q _ => ∃ (a : Addr) (ns : List Int), vs = [.ref a] ∧ SqL K H a (ns.map V.int) ∧ ns.length ≤ 63 ∧
  ∀ t c cs H', TapeAt H' t c cs → Same H H' → H t = none → Q (.ref t) H'
/-- _law_take -/
def spTake : Sp := fun vs H Q _ => ∃ (t c : Addr) (cs : List Int) (many : Int), vs = [.ref t, .int many] ∧ TapeAt H t c cs ∧ 0 < many ∧ many.natAbs < 2 ^ 9000 ∧
  ∀ d H', 0 ≤ d → d < many → TapeAt H' t c cs → SameX t H H' → Q (.int d) H'

/-! ### two pieces of data that are the same -/
def isScal : V → Bool
  | .non => true
  | .bl _ => true
  | .int _ => true
  | .str _ => true
  | _ => false
/-- x and y are the same data, nested less than n deep -/
def SameV (K : PySem.W.Frag) (H : Hp) : Nat → V → V → Prop
  | 0, _, _ => False
  | n + 1, x, y => (x = y ∧ isScal x = true) ∨
      (∃ (a b : Addr) (xs ys : List V), x = .ref a ∧ y = .ref b ∧ H a = some (.lst xs) ∧ H b = some (.lst ys) ∧ xs.length = ys.length ∧ xs.length ≤ 1000 ∧ ∀ (i : Nat) (u v : V), xs[i]? = some u → ys[i]? = some v → SameV K H n u v) ∨
      (∃ (a b : Addr) (xs ys : List V), x = .ref a ∧ y = .ref b ∧ H a = some (.tup xs) ∧ H b = some (.tup ys) ∧ xs.length = ys.length ∧ xs.length ≤ 1000 ∧ ∀ (i : Nat) (u v : V), xs[i]? = some u → ys[i]? = some v → SameV K H n u v)
theorem SameV.sc {K : PySem.W.Frag} {H : Hp} {n : Nat} {x : V} (h : isScal x = true) : SameV K H (n + 1) x x := Or.inl ⟨rfl, h⟩
/-- _law_same, for data that are the same -/
def spSame (K : PySem.W.Frag) (n : Nat) : Sp := fun vs H Q _ => ∃ x y, vs = [x, y] ∧ SameV K H n x y ∧ Q (.bl true) H
def spItems (K : PySem.W.Frag) (n : Nat) : Sp := fun vs H Q _ => ∃ (a b : Addr) (xs ys : List V), vs = [.ref a, .ref b] ∧ ((H a = some (.lst xs) ∧ H b = some (.lst ys)) ∨ (H a = some (.tup xs) ∧ H b = some (.tup ys))) ∧ xs.length = ys.length ∧ xs.length ≤ 1000 ∧
  (∀ (i : Nat) (u v : V), xs[i]? = some u → ys[i]? = some v → SameV K H n u v) ∧ Q (.bl true) H
def spIsInt : Sp := fun vs H Q _ => ∃ x, vs = [x] ∧ isScal x = true ∧ Q (.bl (match x with | .int _ => true | _ => false)) H
theorem ty_scal {K : PySem.W.Frag} {H : Hp} {x : V} (h : isScal x = true) : ∃ t : String, TyX K H x (.type t) ∧ (x = .non ∧ t = "NoneType" ∨ (∃ b, x = .bl b) ∧ t = "bool" ∨ (∃ i, x = .int i) ∧ t = "int" ∨ (∃ z, x = .str z) ∧ t = "str") := by
  cases x with
  | non => exact ⟨_, .base .non, .inl ⟨rfl, rfl⟩⟩
  | bl b => exact ⟨_, .base (.bl b), .inr (.inl ⟨⟨b, rfl⟩, rfl⟩)⟩
  | int i => exact ⟨_, .base (.int i), .inr (.inr (.inl ⟨⟨i, rfl⟩, rfl⟩))⟩
  | str z => exact ⟨_, .base (.str z), .inr (.inr (.inr ⟨⟨z, rfl⟩, rfl⟩))⟩
  | byt _ => cases h
  | flt _ => cases h
  | ref _ => cases h
  | ty _ => cases h
/-- a def that draws: from the tape at t, what it hands back in R -/
def spDraw (R : V → Hp → Addr → Prop) : Sp := fun vs H Q _ => ∃ (t c : Addr) (cs : List Int), vs = [.ref t] ∧ TapeAt H t c cs ∧ ∀ v H', R v H' t → TapeAt H' t c cs → SameX t H H' → Q v H'
def isChar : V → Hp → Addr → Prop := fun v _ _ => ∃ c, chOk c ∧ v = .str (one c)
def isText (n : Nat) : V → Hp → Addr → Prop := fun v _ _ => ∃ z : Str, z.length ≤ n ∧ (∀ c ∈ tl z, chOk c) ∧ v = .str z
def isInt (lo hi : Int) : V → Hp → Addr → Prop := fun v _ _ => ∃ i : Int, lo ≤ i ∧ i ≤ hi ∧ v = .int i
theorem cutS_sub {z : Str} {lo hi : Option Int} : ∀ c ∈ tl (cutS z lo hi), c ∈ tl z := by
  intro c hc
  have e : tl (cutS z lo hi) = (z.cps.toList.drop (HT.sIx z.length 0 lo)).take (HT.sIx z.length z.length hi - HT.sIx z.length 0 lo) := by simp [tl, cutS]
  rw [e] at hc
  exact List.mem_of_mem_drop (List.mem_of_mem_take hc)
theorem len_app (u v : Str) : (u ++ v).length = u.length + v.length := by rw [len_tl, tl_append, List.length_append, ← len_tl, ← len_tl]
/-- anything that is handed to is_value -/
inductive Thing (H : Hp) : V → Prop where
  | non : Thing H .non
  | bl (b : Bool) : Thing H (.bl b)
  | int (i : Int) : Thing H (.int i)
  | str (z : Str) (h : z.length ≤ 1000) : Thing H (.str z)
  | lst {a : Addr} {xs : List V} (h : H a = some (.lst xs)) : Thing H (.ref a)
  | tup {a : Addr} {xs : List V} (h : H a = some (.tup xs)) : Thing H (.ref a)
theorem Thing.mono {H H' : Hp} {v : V} (t : Thing H v) (e : Same H H') : Thing H' v := by
  cases t with
  | non => exact .non
  | bl b => exact .bl b
  | int i => exact .int i
  | str z h => exact .str z h
  | lst h => exact .lst (e _ _ h)
  | tup h => exact .tup (e _ _ h)
/-- is it a value (point 3) -/
def goodV : V → Bool
  | .non => true
  | .int i => decide (-1000000000 < i ∧ i < 1000000000)
  | .str z => decide (z.length ≤ 30 ∧ ∀ c ∈ tl z, chOk c)
  | _ => false
def kindOf : V → Str
  | .non => ""
  | .int _ => "int"
  | .bl _ => "int"
  | _ => "text"
def plainOf (k : Str) (b : Bool) : V := if b = true then .non else if k = ("int" : Str) then .int 0 else .str ""
def spIsValue : Sp := fun vs H Q _ => ∃ v, vs = [v] ∧ Thing H v ∧ ∀ H', Same H H' → Q (.bl (goodV v)) H'
def spIsText : Sp := fun vs H Q _ => ∃ z : Str, vs = [.str z] ∧ z.length ≤ 1000 ∧ ∀ H', Same H H' → Q (.bl (goodV (.str z))) H'
def spIsChar : Sp := fun vs H Q _ => ∃ c : Nat, vs = [.str (one c)] ∧ Q (.bl (decide (chOk c))) H
def spKindOf : Sp := fun vs H Q _ => ∃ v, vs = [v] ∧ isScal v = true ∧ Q (.str (kindOf v)) H
def spPlain : Sp := fun vs H Q _ => ∃ (k : Str) (b : Bool), vs = [.str k, .bl b] ∧ Q (plainOf k b) H
/-- what law(script) promises -/
def spLaw (K : PySem.W.Frag) : Sp := fun vs H Q _ => ∃ (a : Addr) (ns : List Int), vs = [.ref a] ∧ SqL K H a (ns.map V.int) ∧ ns.length ≤ 63 ∧ ∀ H', Q (.bl true) H'
def codeOk (c : Int) : Prop := 32 ≤ c ∧ c ≤ 126 ∧ c ≠ 37
instance (c : Int) : Decidable (codeOk c) := by unfold codeOk; exact inferInstance
/-- is_text_code -/
def spIsCode : Sp := fun vs H Q _ => ∃ c : Int, vs = [.int c] ∧ Q (.bl (decide (codeOk c))) H
end Lt

set_option autoImplicit false
namespace Lt
open PySem L2 TL
open C8 (pss_cut)
/-! ## data that stand still: tuples of tuples of plain values -/
inductive D where
  | s (v : V)
  | t (ds : List D)
mutual
inductive Tp (H : Hp) : V → D → Prop
  | s {v : V} (h : isScal v = true) : Tp H v (.s v)
  | t {a : Addr} {xs : List V} {ds : List D} (h : H a = some (.tup xs)) (r : TpL H xs ds) : Tp H (.ref a) (.t ds)
inductive TpL (H : Hp) : List V → List D → Prop
  | nil : TpL H [] []
  | cons {v : V} {d : D} {vs : List V} {ds : List D} (h : Tp H v d) (r : TpL H vs ds) : TpL H (v :: vs) (d :: ds)
end
/-- every tuple stands as it stood -/
def KeepT (H H' : Hp) : Prop := ∀ b xs, H b = some (.tup xs) → H' b = some (.tup xs)
theorem KeepT.refl (H : Hp) : KeepT H H := fun _ _ h => h
theorem KeepT.trans {H H1 H2 : Hp} (a : KeepT H H1) (b : KeepT H1 H2) : KeepT H H2 := fun c o h => b c o (a c o h)
theorem KeepT.of {H H1 : Hp} (a : Same H H1) : KeepT H H1 := fun c o h => a c _ h
theorem KeepT.ofX {t c : Addr} {cs : List Int} {H H1 : Hp} (T : TapeAt H t c cs) (a : SameX t H H1) : KeepT H H1 := fun b o h => a b _ h (by
  obtain ⟨_, _, _, _, e, _⟩ := T.dk
  exact ne_of h e (by intro z; cases z))
theorem KeepT.upd {H : Hp} {p : Addr} {o : HO} (h : ∀ xs, H p ≠ some (.tup xs)) : KeepT H (L2.upd H p o) := fun b xs e => by
  have ne : b ≠ p := by
    intro z
    subst z
    exact h xs e
  rw [upd_ne ne]; exact e
theorem KeepT.new {H : Hp} {p : Addr} (h : H p = none) (o : HO) : KeepT H (L2.upd H p o) := KeepT.of (same_new h o)
mutual
theorem Tp.mono {H H' : Hp} (k : KeepT H H') : ∀ {d : D} {v : V}, Tp H v d → Tp H' v d
  | .s _, _, h => by cases h with | s h => exact .s h
  | .t ds, _, h => by cases h with | t h r => exact .t (k _ _ h) (TpL.mono k r)
theorem TpL.mono {H H' : Hp} (k : KeepT H H') : ∀ {ds : List D} {vs : List V}, TpL H vs ds → TpL H' vs ds
  | [], _, h => by cases h; exact .nil
  | d :: ds, _, h => by cases h with | cons h r => exact .cons (Tp.mono k h) (TpL.mono k r)
end
theorem TpL.length {H : Hp} : ∀ {ds : List D} {vs : List V}, TpL H vs ds → vs.length = ds.length
  | [], _, h => by cases h; rfl
  | d :: ds, _, h => by cases h with | cons h r => rw [List.length_cons, List.length_cons, TpL.length r]
theorem TpL.get {H : Hp} : ∀ {ds : List D} {vs : List V} {i : Nat} {v : V}, TpL H vs ds → vs[i]? = some v → ∃ d, ds[i]? = some d ∧ Tp H v d
  | [], _, i, v, h, e => by cases h; simp at e
  | d :: ds, _, 0, v, h, e => by cases h with | cons h r => simp at e; subst e; exact ⟨d, rfl, h⟩
  | d :: ds, _, i + 1, v, h, e => by cases h with | cons h r => exact TpL.get (i := i) r (by simpa using e)
theorem TpL.get' {H : Hp} {ds : List D} {vs : List V} {i : Nat} {d : D} (h : TpL H vs ds) (e : ds[i]? = some d) : ∃ v, vs[i]? = some v ∧ Tp H v d := by
  have hl := h.length
  have hi : i < ds.length := (List.getElem?_eq_some_iff.mp e).1
  have ev : vs[i]? = some vs[i] := List.getElem?_eq_getElem (by omega)
  obtain ⟨d', e1, e2⟩ := h.get ev
  rw [e] at e1
  cases e1
  exact ⟨_, ev, e2⟩
theorem TpL.snoc {H : Hp} : ∀ {ds : List D} {vs : List V} {v : V} {d : D}, TpL H vs ds → Tp H v d → TpL H (vs ++ [v]) (ds ++ [d])
  | [], _, v, d, h, q => by cases h; exact .cons q .nil
  | d0 :: ds, _, v, d, h, q => by cases h with | cons h r => exact .cons h (TpL.snoc r q)
theorem TpL.scal {H : Hp} : ∀ {vs : List V}, (∀ v ∈ vs, isScal v = true) → TpL H vs (vs.map D.s)
  | [], _ => .nil
  | v :: vs, h => .cons (.s (h v List.mem_cons_self)) (TpL.scal fun x hx => h x (List.mem_cons_of_mem _ hx))

/-! ### columns, clauses, conditions -/
structure Col where
  n : Str
  k : Str
  b : Bool
def colD (c : Col) : D := .t [.s (.str c.n), .s (.str c.k), .s (.bl c.b)]
structure Cl where
  n : Str
  op : Str
  v : V
def clD (c : Cl) : D := .t [.s (.str c.n), .s (.str c.op), .s c.v]
abbrev Cond := List (List Cl)
def altD (a : List Cl) : D := .t (a.map clD)
def condD (c : Cond) : D := .t (c.map altD)
theorem col_at {H : Hp} {v : V} {c : Col} (h : Tp H v (colD c)) : ∃ a, v = .ref a ∧ H a = some (.tup [.str c.n, .str c.k, .bl c.b]) := by
  cases h with
  | t h r =>
    cases r with
    | cons h1 r => cases h1; cases r with
      | cons h2 r => cases h2; cases r with
        | cons h3 r => cases h3; cases r; exact ⟨_, rfl, h⟩
theorem col_mk {H : Hp} {a : Addr} {c : Col} (h : H a = some (.tup [.str c.n, .str c.k, .bl c.b])) : Tp H (.ref a) (colD c) :=
  .t h (.cons (.s rfl) (.cons (.s rfl) (.cons (.s rfl) .nil)))
theorem cl_at {H : Hp} {v : V} {c : Cl} (h : Tp H v (clD c)) : ∃ a, v = .ref a ∧ H a = some (.tup [.str c.n, .str c.op, c.v]) ∧ isScal c.v = true := by
  cases h with
  | t h r =>
    cases r with
    | cons h1 r => cases h1; cases r with
      | cons h2 r => cases h2; cases r with
        | cons h3 r => cases h3 with | s hs => cases r; exact ⟨_, rfl, h, hs⟩
theorem cl_mk {H : Hp} {a : Addr} {c : Cl} (h : H a = some (.tup [.str c.n, .str c.op, c.v])) (hs : isScal c.v = true) : Tp H (.ref a) (clD c) :=
  .t h (.cons (.s rfl) (.cons (.s rfl) (.cons (.s hs) .nil)))
theorem t_at {H : Hp} {v : V} {ds : List D} (h : Tp H v (.t ds)) : ∃ a xs, v = .ref a ∧ H a = some (.tup xs) ∧ TpL H xs ds := by
  cases h with
  | t h r => exact ⟨_, _, rfl, h, r⟩
/-! ### what a condition says of a row -/
def ltV : V → V → Bool
  | .int a, .int b => decide (a < b)
  | .str a, .str b => decide (tl a < tl b)
  | _, _ => false
def cmpM (v : V) (op : Str) (w : V) : Bool :=
  if op = ("=" : Str) then decide (v = w) else if op = ("!=" : Str) then !decide (v = w) else if op = ("<" : Str) then ltV v w
  else if op = ("<=" : Str) then !ltV w v else if op = (">" : Str) then ltV w v else !ltV v w
/-- two values that may be compared -/
def Alike (v w : V) : Prop := (∃ a b, v = .int a ∧ w = .int b) ∨ ∃ a b, v = .str a ∧ w = .str b
def at_ (names : List Str) (row : List V) (n : Str) : V := row.getD (names.idxOf n) .non
def clauseM (names : List Str) (row : List V) (c : Cl) : Bool :=
  if c.op = ("null" : Str) then decide (at_ names row c.n = .non) else if c.op = ("given" : Str) then !decide (at_ names row c.n = .non)
  else if at_ names row c.n = .non then false else cmpM (at_ names row c.n) c.op c.v
def altM (names : List Str) (row : List V) (a : List Cl) : Bool := a.all (clauseM names row)
def holdsM (names : List Str) (row : List V) (c : Cond) : Bool := c.any (altM names row)
/-- the clause can be asked of the row -/
def ClFit (names : List Str) (row : List V) (c : Cl) : Prop := c.n ∈ names ∧ (c.op = ("null" : Str) ∨ c.op = ("given" : Str) ∨ at_ names row c.n = .non ∨ Alike (at_ names row c.n) c.v)
theorem idx_str : ∀ {names : List Str} {n : Str}, n ∈ names → ∃ j, j = names.idxOf n ∧ j < names.length ∧ names[j]? = some n ∧ ∀ m x, m < j → names[m]? = some x → x ≠ n
  | [], n, h => by cases h
  | x :: r, n, h => by
    by_cases e : x = n
    · subst e
      exact ⟨0, by simp, by simp, rfl, fun m x hm => absurd hm (Nat.not_lt_zero _)⟩
    · have h' : n ∈ r := by
        rcases List.mem_cons.mp h with h | h
        · exact absurd h.symm e
        · exact h
      obtain ⟨j, e1, e2, e3, e4⟩ := idx_str h'
      refine ⟨j + 1, by rw [List.idxOf_cons, beq_false_of_ne e, ← e1]; rfl, by rw [List.length_cons]; omega, by simpa using e3, fun m y hm hy => ?_⟩
      match m, hm, hy with
      | 0, _, hy => simp at hy; subst hy; exact e
      | m + 1, hm, hy => exact e4 m y (by omega) (by simpa using hy)
theorem at_some {names : List Str} {row : List V} {n : Str} (h : n ∈ names) (hl : row.length = names.length) : row[names.idxOf n]? = some (at_ names row n) := by
  obtain ⟨j, e1, e2, _, _⟩ := idx_str h
  rw [← e1]
  unfold at_
  rw [← e1, List.getD_eq_getElem?_getD, List.getElem?_eq_getElem (by omega)]
  rfl
theorem list_lt (a b : List Nat) : (!decide (b < a)) = (decide (a < b) || decide (a = b)) := by
  have h : ¬ b < a ↔ (a < b ∨ a = b) := by rw [List.not_lt]; exact List.le_iff_lt_or_eq
  by_cases h1 : b < a
  · have h2 : ¬ (a < b ∨ a = b) := fun z => h.mpr z h1
    have h3 : ¬ a < b := fun z => h2 (.inl z)
    have h4 : ¬ a = b := fun z => h2 (.inr z)
    simp [h1, h3, h4]
  · rcases h.mp h1 with h2 | h2
    · simp [h1, h2]
    · simp [h1, h2]
theorem le_V {v w : V} (h : Alike v w) : (!ltV w v) = (ltV v w || decide (v = w)) := by
  rcases h with ⟨a, b, rfl, rfl⟩ | ⟨a, b, rfl, rfl⟩
  · unfold ltV
    by_cases h1 : b < a
    · have h2 : ¬ a < b := by omega
      have h3 : ¬ V.int a = V.int b := fun z => by cases z; omega
      simp [h1, h2]
      intro z; omega
    · by_cases h2 : a < b
      · simp [h1, h2]
      · have e : a = b := by omega
        simp [e]
  · unfold ltV
    rw [list_lt]
    have e : decide (tl a = tl b) = decide (V.str a = V.str b) := by
      by_cases h : a = b
      · subst h; simp
      · have h1 : ¬ tl a = tl b := fun z => h (ext_tl z)
        have h2 : ¬ V.str a = V.str b := fun z => h (V.str.inj z)
        rw [decide_eq_false h1, decide_eq_false h2]
    rw [e]
/-- one of two rules -/
theorem op_either {X : Cx} {f : Value → Value → Sem Value} {r1 r2 : R2} (h1 : OpR X f r1) (h2 : OpR X f r2) : OpR X f (fun x y H Q => r1 x y H Q ∨ r2 x y H Q) := by
  intro pins s σ H x y v u Q I rx ry h
  rcases h with h | h
  · exact h1 pins s σ H x y v u Q I rx ry h
  · exact h2 pins s σ H x y v u Q I rx ry h
/-- names.index(n) -/
theorem ix_names {names : List Str} {n : Str} (hn : n ∈ names) : ∃ z, (names.map V.str).all flatV = true ∧ (names.map V.str)[names.idxOf n]? = some z ∧ eqV z (.str n) = true ∧ ∀ (m : Nat) (z' : V), m < names.idxOf n → (names.map V.str)[m]? = some z' → eqV z' (.str n) = false := by
  obtain ⟨j, e1, e2, e3, e4⟩ := idx_str hn
  rw [← e1]
  refine ⟨.str n, ?_, ?_, ?_, ?_⟩
  · rw [List.all_eq_true]
    intro v hv
    obtain ⟨z, _, rfl⟩ := List.mem_map.mp hv
    rfl
  · rw [List.getElem?_map, e3]; rfl
  · show (n == n) = true; simp
  · intro m z hm hz
    rw [List.getElem?_map] at hz
    cases e : names[m]? with
    | none => rw [e] at hz; cases hz
    | some y =>
      rw [e] at hz
      cases hz
      have := e4 m y hm e
      show (y == n) = false
      simpa using this
/-- what a drawn value of a column is -/
def ValOf (k : Str) (b : Bool) (v : V) : Prop := (b = true ∧ v = .non) ∨ (k = ("int" : Str) ∧ ∃ i : Int, v = .int i ∧ -999999999 ≤ i ∧ i ≤ 999999999) ∨ (k ≠ ("int" : Str) ∧ ∃ z : Str, v = .str z ∧ z.length ≤ 30 ∧ ∀ c ∈ tl z, chOk c)
theorem ValOf.scal {k : Str} {b : Bool} {v : V} (h : ValOf k b v) : isScal v = true := by
  rcases h with ⟨_, rfl⟩ | ⟨_, i, rfl, _⟩ | ⟨_, z, rfl, _⟩ <;> rfl
theorem ValOf.alike {k : Str} {b : Bool} {v w : V} (h : ValOf k b v) (g : ValOf k false w) : v = .non ∨ Alike v w := by
  rcases h with ⟨_, rfl⟩ | ⟨k1, i, rfl, _⟩ | ⟨k1, z, rfl, _⟩
  · exact .inl rfl
  · rcases g with ⟨e, _⟩ | ⟨_, j, rfl, _⟩ | ⟨k2, _⟩
    · cases e
    · exact .inr (.inl ⟨_, _, rfl, rfl⟩)
    · exact absurd k1 k2
  · rcases g with ⟨e, _⟩ | ⟨k2, _⟩ | ⟨_, y, rfl, _⟩
    · cases e
    · exact absurd k2 k1
    · exact .inr (.inr ⟨_, _, rfl, rfl⟩)
end Lt

set_option autoImplicit false
namespace Lt
open PySem L2 TL
open C8 (pss_cut)
/-! ## what the laws draw -/
def SameXY (t u : Addr) (H H' : Hp) : Prop := ∀ b o, H b = some o → b ≠ t → b ≠ u → H' b = some o
theorem SameXY.refl (t u : Addr) (H : Hp) : SameXY t u H H := fun _ _ h _ _ => h
theorem SameXY.trans {t u : Addr} {H H1 H2 : Hp} (a : SameXY t u H H1) (b : SameXY t u H1 H2) : SameXY t u H H2 := fun c o h n m => b c o (a c o h n m) n m
theorem SameXY.ofX {t u : Addr} {H H1 : Hp} (a : SameX t H H1) : SameXY t u H H1 := fun c o h n _ => a c o h n
theorem SameXY.of {t u : Addr} {H H1 : Hp} (a : Same H H1) : SameXY t u H H1 := fun c o h _ _ => a c o h
theorem samexy_upd {t u : Addr} {H H1 : Hp} {p : Addr} (h : H p = none) (o : HO) (e : SameXY t u H H1) : SameXY t u H (upd H1 p o) := fun b v q n m => by rw [upd_ne (ne_of_none q h)]; exact e _ _ q n m
theorem SameXY.updY {t u : Addr} {H H1 : Hp} (o : HO) (e : SameXY t u H H1) : SameXY t u H (upd H1 u o) := fun b v q n m => by rw [upd_ne m]; exact e _ _ q n m
theorem TapeAt.fresh {H : Hp} {t c D : Addr} {cs : List Int} (T : TapeAt H t c cs) (h : H D = none) : D ≠ t ∧ c ≠ D := by
  obtain ⟨_, _, _, _, e, _⟩ := T.dk
  exact ⟨(ne_of_none e h).symm, ne_of_none T.ls h⟩
theorem TapeAt.notL {H : Hp} {t c D : Addr} {cs : List Int} {xs : List V} (T : TapeAt H t c cs) (h : H D = some (.lst xs)) : D ≠ t := by
  obtain ⟨_, _, _, _, e, _⟩ := T.dk
  exact ne_of h e (by intro z; cases z)
theorem KeepT.ofXY {t u c : Addr} {cs : List Int} {H H1 : Hp} {us : List V} (T : TapeAt H t c cs) (hu : H u = some (.lst us)) (a : SameXY t u H H1) : KeepT H H1 := fun b o h => by
  obtain ⟨_, _, _, _, e, _⟩ := T.dk
  exact a b _ h (ne_of h e (by intro z; cases z)) (ne_of h hu (by intro z; cases z))
theorem tl_int (i : Int) : tl (Str.ofString (toString i)) = if i < 0 then 45 :: numL i.natAbs else numL i.natAbs := by
  cases i with
  | ofNat n =>
    rw [if_neg (by show ¬ ((n : Int) < 0); omega)]
    exact tl_num n
  | negSucc n =>
    rw [if_pos (Int.negSucc_lt_zero n)]
    have e : toString (Int.negSucc n) = "-" ++ toString (((n + 1 : Nat) : Int)) := rfl
    rw [e, tl_ofString, String.toList_append, List.map_append, ← tl_ofString, ← tl_ofString, tl_num]
    rfl
theorem num_chars (n : Nat) : ∀ c ∈ numL n, 48 ≤ c ∧ c ≤ 57 := fun c h => numL_digits n c h
theorem int_text {i : Int} (h1 : -999999999 ≤ i) (h2 : i ≤ 999999999) : (Str.ofString (toString i)).length ≤ 10 ∧ ∀ c ∈ tl (Str.ofString (toString i)), c = 45 ∨ (48 ≤ c ∧ c ≤ 57) := by
  have hl : (numL i.natAbs).length ≤ 9 := numL_len (by decide) (by omega)
  constructor
  · rw [len_tl, tl_int]
    split
    · rw [List.length_cons]; omega
    · omega
  · intro c hc
    rw [tl_int] at hc
    split at hc
    · rcases List.mem_cons.mp hc with h | h
      · exact .inl h
      · exact .inr (num_chars _ _ h)
    · exact .inr (num_chars _ _ hc)
theorem log_small {i : Int} (h1 : -999999999 ≤ i) (h2 : i ≤ 999999999) : i.natAbs.log2 < 1920 := by
  have : i.natAbs < 2 ^ 30 := by omega
  exact Nat.lt_of_lt_of_le (PySem.Flt.log2_lt_of (by decide) this) (by decide)
theorem digit_ok {c : Nat} (h : c = 45 ∨ (48 ≤ c ∧ c ≤ 57)) : chOk c := by unfold chOk; omega
/-- _law_value -/
def spVal : Sp := fun vs H Q _ => ∃ (t c : Addr) (cs : List Int) (k : Str) (b : Bool), vs = [.ref t, .str k, .bl b] ∧ TapeAt H t c cs ∧ ∀ v H', ValOf k b v → TapeAt H' t c cs → SameX t H H' → Q v H'
/-! ### names -/
def nmCh (c : Nat) : Prop := (97 ≤ c ∧ c ≤ 122) ∨ (48 ≤ c ∧ c ≤ 57) ∨ c = 95
instance (c : Nat) : Decidable (nmCh c) := by unfold nmCh; exact inferInstance
def nameOk (z : Str) : Prop := z.length ≤ 20 ∧ (∃ c r, tl z = c :: r ∧ 97 ≤ c ∧ c ≤ 122) ∧ ∀ c ∈ tl z, nmCh c
theorem nmCh.ok {c : Nat} (h : nmCh c) : chOk c := by unfold nmCh at h; unfold chOk; omega
/-- each of i names of the list us begins with one of the first i letters, no two alike -/
def Hit (us : List Str) (i : Nat) : Prop := ∃ ws : List Str, ws.length = i ∧ ws.Nodup ∧ ∀ v ∈ ws, v ∈ us ∧ ∃ j r, j < i ∧ tl v = (97 + j) :: r
theorem Hit.step {us : List Str} {i : Nat} (h : Hit us i) {z : Str} {r : List Nat} (e : tl z = (97 + i) :: r) : z ∉ us ∨ Hit us (i + 1) := by
  obtain ⟨ws, h1, h2, h3⟩ := h
  by_cases hz : z ∈ us
  · refine .inr ⟨z :: ws, by rw [List.length_cons, h1], List.nodup_cons.mpr ⟨fun hw => ?_, h2⟩, fun v hv => ?_⟩
    · obtain ⟨_, j, r', hj, e'⟩ := h3 z hw
      rw [e] at e'
      have := (List.cons.inj e').1
      omega
    · rcases List.mem_cons.mp hv with rfl | hv
      · exact ⟨hz, i, r, by omega, e⟩
      · obtain ⟨a, j, r', hj, e'⟩ := h3 v hv
        exact ⟨a, j, r', by omega, e'⟩
  · exact .inl hz
theorem Hit.no {us : List Str} {i : Nat} (h : Hit us i) (hl : us.length < i) : False := by
  obtain ⟨ws, h1, h2, h3⟩ := h
  have := List.Nodup.length_le_of_subset h2 (fun v hv => (h3 v hv).1)
  omega
theorem inV_str (z : Str) (us : List Str) : inV (.str z) (us.map V.str) = decide (z ∈ us) := by
  unfold inV
  rw [Bool.eq_iff_iff, List.any_eq_true, decide_eq_true_iff]
  constructor
  · rintro ⟨v, hv, e⟩
    obtain ⟨y, hy, rfl⟩ := List.mem_map.mp hv
    have : y = z := by simpa [eqV] using e
    rw [← this]; exact hy
  · intro h
    exact ⟨.str z, List.mem_map.mpr ⟨z, h, rfl⟩, by simp [eqV]⟩
theorem flat_strs (us : List Str) : (us.map V.str).all flatV = true := by
  rw [List.all_eq_true]
  intro v hv
  obtain ⟨y, _, rfl⟩ := List.mem_map.mp hv
  rfl
def spName : Sp := fun vs H Q _ => ∃ (t c u : Addr) (cs : List Int) (us : List Str), vs = [.ref t, .ref u] ∧ TapeAt H t c cs ∧ H u = some (.lst (us.map V.str)) ∧ u ≠ c ∧ us.length ≤ 25 ∧
  ∀ z H', nameOk z → z ∉ us → TapeAt H' t c cs → H' u = some (.lst ((us ++ [z]).map V.str)) → SameXY t u H H' → Q (.str z) H'
/-! ### columns -/
def colNs (cols : List Col) : List Str := cols.map (·.n)
structure ColsOk (us : List Str) (cols : List Col) : Prop where
  nd : (colNs cols).Nodup
  fr : ∀ n ∈ colNs cols, n ∉ us ∧ nameOk n
  kd : ∀ c ∈ cols, c.k = ("int" : Str) ∨ c.k = ("text" : Str)
  hd : ∀ c, cols[0]? = some c → c.b = false
def spColumns : Sp := fun vs H Q _ => ∃ (t c u : Addr) (cs : List Int) (us : List Str) (many : Int), vs = [.ref t, .ref u, .int many] ∧ TapeAt H t c cs ∧ H u = some (.lst (us.map V.str)) ∧ u ≠ c ∧ 0 ≤ many ∧ many ≤ 8 ∧ (us.length : Int) + many ≤ 25 ∧
  ∀ L cols xs H', H L = none → H' L = some (.lst xs) → TpL H' xs (cols.map colD) → (cols.length : Int) = many + 1 → ColsOk us cols → TapeAt H' t c cs → H' u = some (.lst ((us ++ colNs cols).map V.str)) → SameXY t u H H' → Q (.ref L) H'
/-- a list of columns stands at L -/
def ColsAt (H : Hp) (L : Addr) (cols : List Col) : Prop := ∃ xs, H L = some (.lst xs) ∧ TpL H xs (cols.map colD)
theorem ColsAt.mono {H H' : Hp} {L : Addr} {cols : List Col} (h : ColsAt H L cols) (k : KeepT H H') (e : ∀ o, H L = some o → H' L = some o) : ColsAt H' L cols := by
  obtain ⟨xs, h1, h2⟩ := h
  exact ⟨xs, e _ h1, h2.mono k⟩
theorem ColsAt.get {H : Hp} {L : Addr} {cols : List Col} (h : ColsAt H L cols) {i : Nat} {col : Col} (e : cols[i]? = some col) : ∃ xs a, H L = some (.lst xs) ∧ xs[i]? = some (.ref a) ∧ H a = some (.tup [.str col.n, .str col.k, .bl col.b]) := by
  obtain ⟨xs, h1, h2⟩ := h
  obtain ⟨v, e1, e2⟩ := h2.get' (i := i) (d := colD col) (by rw [List.getElem?_map, e]; rfl)
  obtain ⟨a, rfl, e3⟩ := col_at e2
  exact ⟨xs, a, h1, e1, e3⟩
def spNames : Sp := fun vs H Q _ => ∃ (L : Addr) (cols : List Col), vs = [.ref L] ∧ ColsAt H L cols ∧ cols.length ≤ 100 ∧ ∀ N H', H N = none → Same H H' → H' N = some (.lst ((colNs cols).map V.str)) → Q (.ref N) H'
/-- the values of a row behind the key -/
def RestOf (cols : List Col) (vs : List V) : Prop := vs.length + 1 = cols.length ∧ ∀ (i : Nat) (col : Col) (v : V), cols[i + 1]? = some col → vs[i]? = some v → ValOf col.k col.b v
def spRest : Sp := fun vs H Q _ => ∃ (t c L : Addr) (cs : List Int) (cols : List Col), vs = [.ref t, .ref L] ∧ TapeAt H t c cs ∧ ColsAt H L cols ∧ 0 < cols.length ∧ cols.length ≤ 100 ∧
  ∀ p ws H', H p = none → H' p = some (.tup ws) → RestOf cols ws → TapeAt H' t c cs → SameX t H H' → Q (.ref p) H'
/-! ### clauses and conditions -/
def ClOk (cols : List Col) (cl : Cl) : Prop := PyData.strOk cl.op = true ∧ ∃ col ∈ cols, cl.n = col.n ∧ (((cl.op = ("null" : Str) ∨ cl.op = ("given" : Str)) ∧ cl.v = .non) ∨
  ((cl.op ≠ ("null" : Str) ∧ cl.op ≠ ("given" : Str)) ∧ ValOf col.k false cl.v))
theorem ClOk.scal {cols : List Col} {cl : Cl} (h : ClOk cols cl) : isScal cl.v = true := by
  obtain ⟨_, col, _, _, ⟨_, e⟩ | ⟨_, e⟩⟩ := h
  · rw [e]; rfl
  · exact e.scal
def spClause : Sp := fun vs H Q _ => ∃ (t c L : Addr) (cs : List Int) (cols : List Col), vs = [.ref t, .ref L] ∧ TapeAt H t c cs ∧ ColsAt H L cols ∧ 0 < cols.length ∧ cols.length ≤ 100 ∧
  ∀ v cl H', Tp H' v (clD cl) → ClOk cols cl → TapeAt H' t c cs → SameX t H H' → Q v H'
def spCond : Sp := fun vs H Q _ => ∃ (t c L : Addr) (cs : List Int) (cols : List Col), vs = [.ref t, .ref L] ∧ TapeAt H t c cs ∧ ColsAt H L cols ∧ 0 < cols.length ∧ cols.length ≤ 100 ∧
  ∀ v cond H', Tp H' v (condD cond) → (∀ a ∈ cond, ∀ cl ∈ a, ClOk cols cl) → cond.length ≤ 4 → (∀ a ∈ cond, a.length ≤ 4) → TapeAt H' t c cs → SameX t H H' → Q v H'
theorem at_ofN {α : Type} {xs : List α} {z : Int} {j : Nat} {v : α} (e : z = (j : Int)) (h : xs[j]? = some v) : atI xs z = some v := by rw [e]; exact atI_nat h
theorem getD_some {vs : List V} {i : Nat} {v : V} (h : vs[i]? = some v) : vs.getD i .non = v := by rw [List.getD_eq_getElem?_getD, h]; rfl
theorem fit_of {cols : List Col} {row : List V} (nd : (colNs cols).Nodup) (hl : row.length = cols.length) (hv : ∀ (i : Nat) (col : Col) (v : V), cols[i]? = some col → row[i]? = some v → ValOf col.k col.b v) {cl : Cl} (h : ClOk cols cl) : ClFit (colNs cols) row cl := by
  obtain ⟨_, col, hc, e, h⟩ := h
  have hn : cl.n ∈ colNs cols := by rw [e]; exact List.mem_map.mpr ⟨col, hc, rfl⟩
  refine ⟨hn, ?_⟩
  rcases h with ⟨h, _⟩ | ⟨_, hw⟩
  · rcases h with h | h
    · exact .inl h
    · exact .inr (.inl h)
  · obtain ⟨j, e1, e2, e3, _⟩ := idx_str hn
    have hj : j < cols.length := by unfold colNs at e2; rwa [List.length_map] at e2
    have ec : cols[j]? = some cols[j] := List.getElem?_eq_getElem hj
    have en : cols[j].n = col.n := by
      unfold colNs at e3
      rw [List.getElem?_map, ec] at e3
      exact (Option.some.inj e3).trans e
    have eq : cols[j] = col := by
      obtain ⟨i, hi, ei⟩ := List.getElem_of_mem hc
      have a1 : (colNs cols)[i]? = some col.n := by unfold colNs; rw [List.getElem?_map, List.getElem?_eq_getElem hi, ei]; rfl
      have a2 : (colNs cols)[j]? = some col.n := by unfold colNs; rw [List.getElem?_map, ec]; exact congrArg some en
      have := nd_ix nd a1 a2
      subst this
      exact ei
    have er : row[j]? = some row[j] := List.getElem?_eq_getElem (by omega)
    have ea : at_ (colNs cols) row cl.n = row[j] := by unfold at_; rw [← e1]; exact getD_some er
    rw [ea]
    have := (hv j col row[j] (by rw [ec, eq]) er).alike hw
    exact .inr (.inr this)
theorem alike_self {v w : V} (h : Alike v w) : Alike v v := by
  rcases h with ⟨a, b, rfl, rfl⟩ | ⟨a, b, rfl, rfl⟩
  · exact .inl ⟨a, a, rfl, rfl⟩
  · exact .inr ⟨a, a, rfl, rfl⟩
theorem cut_tail (xs : List V) : cutV xs (some 1) none = xs.drop 1 := by
  unfold cutV
  have e1 : HT.sIx xs.length 0 (some 1) = min 1 xs.length := HT.sIx_nat _ _ 1
  have e2 : HT.sIx xs.length xs.length none = xs.length := rfl
  rw [e1, e2]
  cases xs with
  | nil => rfl
  | cons x r =>
    have e3 : min 1 (x :: r).length = 1 := by rw [List.length_cons]; omega
    rw [e3, List.take_of_length_le (by rw [List.length_drop]; omega)]
end Lt

set_option autoImplicit false
namespace Lt
open PySem L2 TL
open C8 (pss_cut)
/-! ## numbers as texts -/
theorem takes_no {X : Cx} : Takes X (fun _ _ _ _ => False) := fun u s' h => by
  obtain ⟨_, _, _, _, _, _, _, _, _, _, _, _, _, _, _, _, bad⟩ := h
  exact bad.elim
def dgL (L : List Nat) : List Nat := if L.head? = some 45 then L.tail else L
def numI (L : List Nat) : Int := if L.head? = some 45 then -((NumText.digitsVal (dgL L) : Nat) : Int) else ((NumText.digitsVal (dgL L) : Nat) : Int)
def shape (L : List Nat) : Prop := dgL L ≠ [] ∧ (dgL L).length ≤ 9 ∧ NumText.AllDigits (dgL L)
def canon (L : List Nat) : Prop := shape L ∧ ((dgL L).head? = some 48 → L = [48])
instance (l : List Nat) : Decidable (NumText.AllDigits l) := by unfold NumText.AllDigits; exact inferInstance
instance (L : List Nat) : Decidable (shape L) := by unfold shape; exact inferInstance
instance (L : List Nat) : Decidable (canon L) := by unfold canon; exact inferInstance
theorem val_snoc (l : List Nat) (d : Nat) : NumText.digitsVal (l ++ [d]) = NumText.digitsVal l * 10 + (d - 48) := by
  unfold NumText.digitsVal
  rw [List.foldl_append]
  rfl
theorem fold_pos : ∀ (l : List Nat) (a : Nat), 1 ≤ a → 1 ≤ l.foldl (fun acc c => acc * 10 + (c - 48)) a
  | [], a, h => h
  | c :: r, a, h => fold_pos r (a * 10 + (c - 48)) (by omega)
theorem val_pos {l : List Nat} (h : NumText.AllDigits l) (hn : l ≠ []) (h0 : l.head? ≠ some 48) : 1 ≤ NumText.digitsVal l := by
  cases l with
  | nil => exact absurd rfl hn
  | cons c r =>
    have hc := h.head
    have : c ≠ 48 := fun e => h0 (by rw [e]; rfl)
    unfold NumText.digitsVal
    rw [List.foldl_cons]
    exact fold_pos r (0 * 10 + (c - 48)) (by omega)
theorem num_of : ∀ (n : Nat) (l : List Nat), l.length = n → NumText.AllDigits l → l ≠ [] → l.head? ≠ some 48 → numL (NumText.digitsVal l) = l := by
  intro n
  induction n with
  | zero => intro l hl _ hn; exact absurd (List.eq_nil_of_length_eq_zero hl) hn
  | succ n ih =>
    intro l hl h hn h0
    have e := List.dropLast_concat_getLast hn
    generalize l.getLast hn = d at e
    generalize l.dropLast = l' at e
    subst e
    have hd : 48 ≤ d ∧ d ≤ 57 := h d (by simp)
    rw [val_snoc]
    by_cases e0 : l' = []
    · subst e0
      have hd0 : d ≠ 48 := fun z => h0 (by rw [z]; rfl)
      have ev : NumText.digitsVal [] * 10 + (d - 48) = d - 48 := by show 0 * 10 + (d - 48) = d - 48; omega
      rw [ev, numL_lt (by omega)]
      show [48 + (d - 48)] = [d]
      rw [show 48 + (d - 48) = d by omega]
    · have h' : NumText.AllDigits l' := fun c hc => h c (List.mem_append.mpr (.inl hc))
      have h0' : l'.head? ≠ some 48 := by
        cases l' with
        | nil => exact absurd rfl e0
        | cons a r => exact h0
      have pos := val_pos h' e0 h0'
      have hl' : l'.length = n := by rw [List.length_append] at hl; simpa using hl
      rw [numL_step (by omega)]
      have e1 : (NumText.digitsVal l' * 10 + (d - 48)) / 10 = NumText.digitsVal l' := by omega
      have e2 : 48 + (NumText.digitsVal l' * 10 + (d - 48)) % 10 = d := by omega
      rw [e1, e2, ih l' hl' h' e0 h0']
theorem num_head (n : Nat) (h : 1 ≤ n) : (numL n).head? ≠ some 48 := by
  induction n using Nat.strongRecOn with
  | _ n ih =>
    by_cases h1 : n < 10
    · rw [numL_lt h1]
      intro e
      have := Option.some.inj e
      omega
    · rw [numL_step (by omega)]
      have := ih (n / 10) (by omega) (by omega)
      cases e : numL (n / 10) with
      | nil => exact absurd e (numL_ne _)
      | cons a r => rw [e] at this; exact this
theorem num_zero : numL 0 = [48] := numL_lt (by decide)
/-- the number written down again is the text exactly if the text is canonical -/
theorem canon_iff {L : List Nat} (h : shape L) : tl (Str.ofString (toString (numI L))) = L ↔ canon L := by
  obtain ⟨h1, h2, h3⟩ := id h
  rw [tl_int]
  by_cases hs : L.head? = some 45
  · have eL : L = 45 :: dgL L := by
      unfold dgL
      rw [if_pos hs]
      cases L with
      | nil => cases hs
      | cons a r => cases hs; rfl
    have en : numI L = -((NumText.digitsVal (dgL L) : Nat) : Int) := by unfold numI; rw [if_pos hs]
    rw [en]
    generalize hD : dgL L = D at *
    by_cases h0 : D.head? = some 48
    · have nc : ¬ canon L := fun c => by
        have := c.2 (by rw [hD]; exact h0)
        rw [this] at hs
        cases hs
      refine iff_of_false ?_ nc
      intro e
      by_cases hv : NumText.digitsVal D = 0
      · rw [hv] at e
        rw [if_neg (by decide)] at e
        have e' : numL 0 = L := e
        rw [num_zero] at e'
        rw [← e'] at hs
        cases hs
      · rw [if_pos (by omega), Int.natAbs_neg, Int.natAbs_natCast, eL] at e
        have e1 := (List.cons.inj e).2
        exact num_head _ (by omega) (e1 ▸ h0)
    · refine iff_of_true ?_ ⟨h, fun z => absurd (by rw [hD] at z; exact z) h0⟩
      have := val_pos h3 h1 h0
      rw [if_pos (by omega), Int.natAbs_neg, Int.natAbs_natCast, num_of _ D rfl h3 h1 h0]
      exact eL.symm
  · have eL : dgL L = L := by unfold dgL; rw [if_neg hs]
    have en : numI L = ((NumText.digitsVal L : Nat) : Int) := by unfold numI; rw [if_neg hs, eL]
    rw [en, if_neg (by omega), Int.natAbs_natCast]
    unfold canon
    rw [eL] at h1 h2 h3 ⊢
    by_cases h0 : L.head? = some 48
    · constructor
      · intro e
        refine ⟨h, fun _ => ?_⟩
        by_cases hv : NumText.digitsVal L = 0
        · rw [hv, num_zero] at e; exact e.symm
        · exact absurd (e ▸ h0) (num_head _ (by omega))
      · rintro ⟨_, c⟩
        rw [c h0]
        decide +kernel
    · exact iff_of_true (num_of _ L rfl h3 h1 h0) ⟨h, fun z => absurd z h0⟩
theorem int_of {z : Str} (h : shape (tl z)) : intText? z = some (numI (tl z)) := by
  obtain ⟨h1, h2, h3⟩ := id h
  by_cases hs : (tl z).head? = some 45
  · have eL : tl z = 45 :: dgL (tl z) := by
      unfold dgL
      rw [if_pos hs]
      cases e : tl z with
      | nil => rw [e] at hs; cases hs
      | cons a r => rw [e] at hs; cases hs; rfl
    have l : z.length ≤ 4300 := by rw [len_tl, eL, List.length_cons]; omega
    have e := intText_neg (x := z) eL h3 h1 l
    rw [e]
    unfold numI
    rw [if_pos hs]
  · have eL : dgL (tl z) = tl z := by unfold dgL; rw [if_neg hs]
    rw [eL] at h1 h2 h3
    have e := intText_digits (x := z) h3 h1 (by rw [len_tl]; omega)
    rw [e]
    unfold numI
    rw [if_neg hs, eL]
theorem len_shape {z : Str} (h : shape (tl z)) : z.length ≤ 10 := by
  obtain ⟨_, h2, _⟩ := h
  rw [len_tl]
  unfold dgL at h2
  split at h2
  · rw [List.length_tail] at h2; omega
  · omega
theorem small_num {L : List Nat} (h : shape L) : -999999999 ≤ numI L ∧ numI L ≤ 999999999 := by
  obtain ⟨_, h2, h3⟩ := h
  have b : ∀ (l : List Nat), NumText.AllDigits l → NumText.digitsVal l < 10 ^ l.length := by
    intro l
    have g : ∀ (n : Nat) (l : List Nat), l.length = n → NumText.AllDigits l → NumText.digitsVal l < 10 ^ n := by
      intro n
      induction n with
      | zero => intro l hl _; rw [List.eq_nil_of_length_eq_zero hl]; decide
      | succ n ih =>
        intro l hl h
        have hn : l ≠ [] := by intro z; rw [z] at hl; cases hl
        have e := List.dropLast_concat_getLast hn
        generalize l.getLast hn = d at e
        generalize l.dropLast = l' at e
        subst e
        have hd : 48 ≤ d ∧ d ≤ 57 := h d (by simp)
        have hl' : l'.length = n := by rw [List.length_append] at hl; simpa using hl
        have := ih l' hl' (fun c hc => h c (List.mem_append.mpr (.inl hc)))
        rw [val_snoc, Nat.pow_succ]
        omega
    exact g l.length l rfl
  have h4 := b _ h3
  have h5 : (10 : Nat) ^ (dgL L).length ≤ 10 ^ 9 := Nat.pow_le_pow_right (by decide) h2
  have h6 : NumText.digitsVal (dgL L) ≤ 999999999 := by
    have : (10 : Nat) ^ 9 = 1000000000 := by decide
    omega
  unfold numI
  split <;> omega
theorem dec_ascii : ∀ c : Nat, c < 127 → Unicode.isDecimal c = decide (48 ≤ c ∧ c ≤ 57) := by decide +kernel
theorem isdec {z : Str} (h : ∀ c ∈ tl z, chOk c) : Txt.isdecimal z = decide (tl z ≠ [] ∧ NumText.AllDigits (tl z)) := by
  unfold PySem.Txt.isdecimal
  rw [← Array.all_toList, Bool.eq_iff_iff, Bool.and_eq_true, decide_eq_true_iff, List.all_eq_true, decide_eq_true_iff]
  have e : z.length = (tl z).length := len_tl z
  constructor
  · rintro ⟨a, b⟩
    refine ⟨fun z0 => by rw [z0] at e; simp at e; omega, fun c hc => ?_⟩
    have := b c hc
    rw [dec_ascii c (by have := (h c hc).2.1; omega)] at this
    exact of_decide_eq_true this
  · rintro ⟨a, b⟩
    refine ⟨by have := List.length_pos_iff.mpr a; omega, fun c hc => ?_⟩
    rw [dec_ascii c (by have := (h c hc).2.1; omega)]
    exact decide_eq_true (b c hc)
theorem tl_dash : tl ("-" : Str) = [45] := by decide +kernel
theorem tl_remove (z : Str) : tl (Txt.removeprefix z ("-" : Str)) = dgL (tl z) := by
  have l1 : ("-" : Str).length = 1 := by decide +kernel
  have hsub : Builtin.Str.subAt z ("-" : Str) 0 = decide ((tl z).head? = some 45) := by
    rw [PySem.StrLaws.subAt_eq, l1, List.drop_zero]
    show ((tl z).take 1 == tl ("-" : Str)) = _
    rw [tl_dash]
    cases e : tl z with
    | nil => simp
    | cons a r =>
      by_cases h : a = 45
      · subst h; rfl
      · simp [h]
  unfold PySem.Txt.removeprefix PySem.Txt.affix dgL
  rw [hsub, l1]
  by_cases h : (tl z).head? = some 45
  · rw [if_pos (decide_eq_true h), if_pos h]
    have hp : 0 < z.length := by
      rw [len_tl]
      cases e : tl z with
      | nil => rw [e] at h; cases h
      | cons a r => simp
    have ne : (z.length - 1 == z.length) = false := by simp; omega
    show tl (if (z.length - 1 == z.length) = true then z else Builtin.Str.strSub z 1 z.length) = _
    rw [ne, if_neg Bool.false_ne_true, tl_strSub, List.take_of_length_le (by rw [List.length_drop, len_tl]; omega)]
    exact List.drop_one
  · rw [if_neg (by simpa using h), if_neg h]
theorem tl_cut1 (z : Str) : tl (cutS z none (some 1)) = (tl z).take 1 := by
  have e : tl (cutS z none (some 1)) = ((tl z).drop (HT.sIx z.length 0 none)).take (HT.sIx z.length z.length (some 1) - HT.sIx z.length 0 none) := by simp [tl, cutS]
  have e1 : HT.sIx z.length z.length (some 1) = min 1 z.length := HT.sIx_nat _ _ 1
  rw [e, e1]
  show ((tl z).drop 0).take (min 1 z.length - 0) = _
  rw [List.drop_zero, Nat.sub_zero, len_tl]
  cases tl z with
  | nil => rfl
  | cons a r => rw [show min 1 (a :: r).length = 1 by rw [List.length_cons]; omega]
theorem tl_cut2 (z : Str) : tl (cutS z (some 1) none) = (tl z).drop 1 := by
  have e : tl (cutS z (some 1) none) = ((tl z).drop (HT.sIx z.length 0 (some 1))).take (HT.sIx z.length z.length none - HT.sIx z.length 0 (some 1)) := by simp [tl, cutS]
  have e1 : HT.sIx z.length 0 (some 1) = min 1 z.length := HT.sIx_nat _ _ 1
  rw [e, e1]
  show ((tl z).drop (min 1 z.length)).take (z.length - min 1 z.length) = _
  rw [len_tl]
  cases tl z with
  | nil => rfl
  | cons a r =>
    rw [show min 1 (a :: r).length = 1 by rw [List.length_cons]; omega, List.take_of_length_le (by rw [List.length_drop]; omega)]
theorem first_dash (z : Str) : (cutS z none (some 1) = ("-" : Str)) ↔ (tl z).head? = some 45 := by
  constructor
  · intro e
    have e1 := congrArg tl e
    rw [tl_cut1, tl_dash] at e1
    cases h : tl z with
    | nil => rw [h] at e1; cases e1
    | cons a r => rw [h] at e1; simp at e1; rw [e1]; rfl
  · intro e
    refine ext_tl ?_
    rw [tl_cut1, tl_dash]
    cases h : tl z with
    | nil => rw [h] at e; cases e
    | cons a r => rw [h] at e; cases e; rfl
theorem digit_in : ∀ k : Nat, k < 10 → Txt.index0 ("0123456789" : Str) (one (48 + k)) = some k := by decide +kernel
theorem digits_tl : ∀ c : Nat, c < 127 → (c ∈ ("0123456789" : Str).cps.toList ↔ (48 ≤ c ∧ c ≤ 57)) := by decide +kernel
end Lt

set_option autoImplicit false
namespace Lt
open PySem L2 TL
open C8 (pss_cut)
/-! ## walks within comprehensions; tuples cut and joined; data that are the same -/
theorem inner {J : It} {n : Nat} {G : Hp → Prop} {Y : Nat → Hp → V → Hp → Prop} (wk : Walk J n G Y) {B : V → Hp → (Hp → Prop) → Prop} {Ha : Hp} {Nx : Hp → Prop} (Pv : Nat → Hp → Prop)
    (h0 : Pv 0 Ha) (hG : ∀ i Hb, i ≤ n → Pv i Hb → G Hb) (hs : ∀ i x Hb Hc, i < n → Pv i Hb → Y i Hb x Hc → B x Hc (Pv (i + 1))) (hd : ∀ Hb, Pv n Hb → Nx Hb) :
    ∃ W : Nat → Nat → Hp → Prop, (∃ m, W 0 m Ha) ∧ ∀ j k Hb, W j k Hb → (J.stop j Hb ∧ Nx Hb) ∨ (J.go j Hb ∧ ∃ N : Hp → Prop, (∀ Hc, N Hc → ∃ k', k' < k ∧ W (j + 1) k' Hc) ∧ ∀ x Hc, J.yld j Hb x Hc → B x Hc N) := by
  refine ⟨fun j left Hb => left + j = n ∧ Pv j Hb, ⟨n, Nat.add_zero n, h0⟩, fun j left Hb hw => ?_⟩
  obtain ⟨e, p⟩ := hw
  have g := hG j Hb (by omega) p
  rcases Nat.eq_zero_or_pos left with z | z
  · have ej : j = n := by omega
    subst ej
    exact .inl ⟨wk.stops Hb g, hd Hb p⟩
  · have lt : j < n := by omega
    exact .inr ⟨wk.goes j Hb lt g, Pv (j + 1), fun Hc pc => ⟨left - 1, by omega, by omega, pc⟩, fun x Hc y => hs j x Hb Hc lt p (wk.yields j Hb x Hc lt g y)⟩
def rTup (K : PySem.W.Frag) : List V → Hp → VK → Prop := fun xs H Q => ∃ p ys, xs = [.ref p] ∧ ((SqL K H p ys ∧ ∀ l, H l = none → Q (.ref l) (upd H l (.tup ys))) ∨ (SqT K H p ys ∧ Q (.ref p) H))
theorem ct {X : Cx} : CallR X (.type "tuple") (rTup X.K) := call_tuple_of
theorem cat_any {K : PySem.W.Frag} {H : Hp} {Q : VK} {a b : Addr} {xs ys : List V} (ha : H a = some (.tup xs)) (hb : H b = some (.tup ys)) (hl : xs.length + ys.length ≤ 1000)
    (q : ∀ p H', H' p = some (.tup (xs ++ ys)) → Same H H' → Q (.ref p) H') : rCatA K (.ref a) (.ref b) H Q := by
  refine ⟨a, b, xs, ys, rfl, rfl, SqT.of ha, SqT.of hb, Nat.le_of_lt (small1000 hl), fun e => ?_, fun _ e => ?_, fun _ _ p hp => q p _ upd_same (same_new hp _)⟩
  · subst e; exact q b H hb (Same.refl _)
  · subst e; exact q a H (by rw [List.append_nil]; exact ha) (Same.refl _)
theorem cut_any {K : PySem.W.Frag} {H : Hp} {Q : VK} {a : Addr} {xs : List V} {lo hi : Option Int} (ha : H a = some (.tup xs))
    (q : ∀ p H', H' p = some (.tup (cutV xs lo hi)) → Same H H' → Q (.ref p) H') : rSlA K (.ref a) lo hi H Q := by
  refine ⟨a, xs, rfl, SqT.of ha, fun e => ?_, fun _ p hp => q p _ upd_same (same_new hp _)⟩
  refine q a H ?_ (Same.refl _)
  rw [ha]
  unfold cutV
  rw [e.1, e.2, List.drop_zero, Nat.sub_zero, List.take_length]
theorem cut_front (xs : List V) (j : Nat) (h : j ≤ xs.length) : cutV xs none (some (j : Int)) = xs.take j := by
  unfold cutV
  rw [HT.sIx_nat, HT.sIx_none, List.drop_zero, Nat.sub_zero, Nat.min_eq_left h]
theorem cut_back (xs : List V) (j : Nat) (h : j ≤ xs.length) : cutV xs (some (j : Int)) none = xs.drop j := by
  unfold cutV
  rw [HT.sIx_nat, HT.sIx_none, Nat.min_eq_left h, List.take_of_length_le (by rw [List.length_drop]; omega)]
theorem TpL.take {H : Hp} : ∀ {ds : List D} {vs : List V} (n : Nat), TpL H vs ds → TpL H (vs.take n) (ds.take n)
  | _, _, 0, _ => .nil
  | [], _, n + 1, h => by cases h; exact .nil
  | d :: ds, _, n + 1, h => by cases h with | cons h r => exact .cons h (TpL.take n r)
theorem TpL.drop {H : Hp} : ∀ {ds : List D} {vs : List V} (n : Nat), TpL H vs ds → TpL H (vs.drop n) (ds.drop n)
  | _, _, 0, h => h
  | [], _, n + 1, h => by cases h; exact .nil
  | d :: ds, _, n + 1, h => by cases h with | cons h r => exact TpL.drop n r
theorem TpL.app {H : Hp} : ∀ {ds es : List D} {vs ws : List V}, TpL H vs ds → TpL H ws es → TpL H (vs ++ ws) (ds ++ es)
  | [], _, _, _, h, g => by cases h; exact g
  | d :: ds, _, _, _, h, g => by cases h with | cons h r => exact .cons h (TpL.app r g)
/-- two that bear the same data -/
theorem same_t {K : PySem.W.Frag} {H : Hp} {n : Nat} {v w : V} {ds : List D} (h : Tp H v (.t ds)) (g : Tp H w (.t ds)) (hl : ds.length ≤ 1000) (e : ∀ d ∈ ds, ∀ x y, Tp H x d → Tp H y d → SameV K H n x y) : SameV K H (n + 1) v w := by
  obtain ⟨a, xs, rfl, ha, ra⟩ := t_at h
  obtain ⟨b, ys, rfl, hb, rb⟩ := t_at g
  refine Or.inr (Or.inr ⟨a, b, xs, ys, rfl, rfl, ha, hb, by rw [ra.length, rb.length], by rw [ra.length]; exact hl, fun i u v hu hv => ?_⟩)
  obtain ⟨d, e1, e2⟩ := ra.get hu
  obtain ⟨d', e3, e4⟩ := rb.get hv
  rw [e1] at e3
  cases e3
  exact e d (List.mem_of_getElem? e1) u v e2 e4
theorem same_s {K : PySem.W.Frag} {H : Hp} {n : Nat} {v w x : V} (h : Tp H v (.s x)) (g : Tp H w (.s x)) : SameV K H (n + 1) v w := by
  cases h with
  | s h => cases g with | s g => exact SameV.sc h
theorem same_cl {K : PySem.W.Frag} {H : Hp} {n : Nat} {v w : V} {c : Cl} (h : Tp H v (clD c)) (g : Tp H w (clD c)) : SameV K H (n + 2) v w := by
  refine same_t h g (by show 3 ≤ 1000; decide) fun d hd x y hx hy => ?_
  simp only [List.mem_cons, List.not_mem_nil, or_false] at hd
  rcases hd with rfl | rfl | rfl <;> exact same_s hx hy
theorem same_cond {K : PySem.W.Frag} {H : Hp} {n : Nat} {v w : V} {c : Cond} (h : Tp H v (condD c)) (g : Tp H w (condD c)) (h1 : c.length ≤ 1000) (h2 : ∀ a ∈ c, a.length ≤ 1000) : SameV K H (n + 4) v w := by
  refine same_t h g (by rw [List.length_map]; exact h1) fun d hd x y hx hy => ?_
  obtain ⟨a, ha, rfl⟩ := List.mem_map.mp hd
  refine same_t hx hy (by rw [List.length_map]; exact h2 a ha) fun d hd x y hx hy => ?_
  obtain ⟨cl, _, rfl⟩ := List.mem_map.mp hd
  exact same_cl hx hy
/-! ### what conditions mention; renaming -/
def mentM (n : Str) (c : Cond) : Bool := c.any fun a => a.any fun cl => decide (cl.n = n)
def renCl (o n : Str) (cl : Cl) : Cl := if cl.n = o then ⟨n, cl.op, cl.v⟩ else cl
def renM (o n : Str) (c : Cond) : Cond := c.map fun a => a.map (renCl o n)
/-- any, all of one list after another -/
def flat (c : Cond) : List Cl := c.flatten
theorem any_flat (c : Cond) (f : Cl → Bool) : (c.flatten).any f = c.any fun a => a.any f := by
  induction c with
  | nil => rfl
  | cons a r ih => rw [List.flatten_cons, List.any_append, List.any_cons, ih]
theorem all_flat (c : Cond) (f : Cl → Bool) : (c.flatten).all f = c.all fun a => a.all f := by
  induction c with
  | nil => rfl
  | cons a r ih => rw [List.flatten_cons, List.all_append, List.all_cons, ih]
theorem flat_step {c : Cond} {i j : Nat} {a : List Cl} {x : Cl} (h : c[i]? = some a) (g : a[j]? = some x) : (c.take i).flatten ++ a.take (j + 1) = ((c.take i).flatten ++ a.take j) ++ [x] := by
  rw [List.take_add_one, g, List.append_assoc]; rfl
theorem flat_next {c : Cond} {i : Nat} {a : List Cl} (h : c[i]? = some a) : (c.take (i + 1)).flatten = (c.take i).flatten ++ a := by
  rw [List.take_add_one, h, List.flatten_append]
  simp
theorem map2_snoc {α β γ : Type} (f : α → β) (g : β → γ) (l : List α) (x : α) : ((l ++ [x]).map f).map g = (l.map f).map g ++ [g (f x)] := by simp
/-- a value that a clause may bear -/
def ClG (cl : Cl) : Prop := cl.v = .non ∨ (∃ i : Int, cl.v = .int i ∧ -999999999 ≤ i ∧ i ≤ 999999999) ∨ ∃ z : Str, cl.v = .str z ∧ z.length ≤ 30 ∧ ∀ c ∈ tl z, chOk c
theorem ClG.scal {cl : Cl} (h : ClG cl) : isScal cl.v = true := by
  rcases h with e | ⟨i, e, _⟩ | ⟨z, e, _⟩ <;> rw [e] <;> rfl
theorem ClOk.g {cols : List Col} {cl : Cl} (h : ClOk cols cl) : ClG cl := by
  obtain ⟨_, col, _, _, ⟨_, e⟩ | ⟨_, e⟩⟩ := h
  · exact .inl e
  · rcases e with ⟨e, _⟩ | ⟨_, i, e, h1, h2⟩ | ⟨_, z, e, h1, h2⟩
    · cases e
    · exact .inr (.inl ⟨i, e, h1, h2⟩)
    · exact .inr (.inr ⟨z, e, h1, h2⟩)
theorem ClG.thing {cl : Cl} {H : Hp} (h : ClG cl) : Thing H cl.v := by
  rcases h with e | ⟨i, e, _⟩ | ⟨z, e, h1, _⟩ <;> rw [e]
  · exact .non
  · exact .int i
  · exact .str z (by omega)
/-- fits_kind -/
def fitsK (v : V) (k : Str) (b : Bool) : Bool := if v = .non then b else goodV v && decide (kindOf v = k)
def spFitsKind : Sp := fun vs H Q _ => ∃ (v : V) (k : Str) (b : Bool), vs = [v, .str k, .bl b] ∧ Thing H v ∧ ∀ H', Same H H' → Q (.bl (fitsK v k b)) H'
/-- the kind of the column called n -/
def kindAt (cols : List Col) (n : Str) : Str := (cols.map (·.k)).getD ((colNs cols).idxOf n) ""
def clFits (cols : List Col) (cl : Cl) : Bool := decide (cl.n ∈ colNs cols) && fitsK cl.v (kindAt cols cl.n) true
def fitsM (cols : List Col) (c : Cond) : Bool := c.all fun a => a.all (clFits cols)
def kindsD (cols : List Col) : List (Key × V) := cols.map fun c => ((Sum.inr c.n : Key), V.str c.k)
theorem kinds_get : ∀ (cols : List Col) (n : Str), valV (kindsD cols) (Sum.inr n : Key) = if n ∈ colNs cols then some (.str (kindAt cols n)) else none
  | [], n => by simp [kindsD, colNs, valV]
  | c :: r, n => by
    have ih := kinds_get r n
    by_cases h : c.n = n
    · have e1 : valV (kindsD (c :: r)) (Sum.inr n : Key) = some (.str c.k) := by
        show valV ((((Sum.inr c.n : Key), V.str c.k)) :: kindsD r) _ = _
        rw [valV_pos (by rw [h])]
      have e2 : n ∈ colNs (c :: r) := by rw [← h]; exact List.mem_cons_self
      have e3 : kindAt (c :: r) n = c.k := by
        unfold kindAt colNs
        rw [List.map_cons, List.map_cons, List.idxOf_cons, h, beq_self_eq_true]
        rfl
      rw [e1, if_pos e2, e3]
    · have e1 : valV (kindsD (c :: r)) (Sum.inr n : Key) = valV (kindsD r) (Sum.inr n) := by
        show valV ((((Sum.inr c.n : Key), V.str c.k)) :: kindsD r) _ = _
        rw [valV_neg (fun z => h (Sum.inr.inj z))]
      have e2 : (n ∈ colNs (c :: r)) ↔ n ∈ colNs r := by
        unfold colNs
        rw [List.map_cons, List.mem_cons]
        exact ⟨fun z => z.resolve_left (fun w => h w.symm), .inr⟩
      have e3 : kindAt (c :: r) n = kindAt r n := by
        unfold kindAt colNs
        rw [List.map_cons, List.map_cons, List.idxOf_cons, beq_false_of_ne h]
        rfl
      rw [e1, ih, e3]
      by_cases g : n ∈ colNs r
      · rw [if_pos g, if_pos (e2.mpr g)]
      · rw [if_neg g, if_neg (fun z => g (e2.mp z))]
theorem kinds_put {cols : List Col} (nd : (colNs cols).Nodup) {i : Nat} {c : Col} (h : cols[i]? = some c) : putK (kindsD (cols.take i)) (Sum.inr c.n : Key) (.str c.k) = kindsD (cols.take (i + 1)) := by
  have hno : valV (kindsD (cols.take i)) (Sum.inr c.n : Key) = none := by
    rw [kinds_get, if_neg]
    intro hm
    unfold colNs at hm
    obtain ⟨d, hd, e⟩ := List.mem_map.mp hm
    obtain ⟨j, hj, ej⟩ := List.getElem_of_mem hd
    rw [List.length_take] at hj
    rw [List.getElem_take] at ej
    have a1 : (colNs cols)[j]? = some c.n := by unfold colNs; rw [List.getElem?_map, List.getElem?_eq_getElem (by omega), ej]; exact congrArg some e
    have a2 : (colNs cols)[i]? = some c.n := by unfold colNs; rw [List.getElem?_map, h]; rfl
    have := nd_ix nd a1 a2
    omega
  rw [putK_new _ hno, List.take_add_one, h]
  unfold kindsD
  rw [List.map_append]
  rfl
end Lt

set_option autoImplicit false
namespace Lt
open PySem L2 TL
open C8 (pss_cut)
/-! ## data of any form: tuples, lists, dicts, nested -/
inductive G where
  | s (v : V)
  | t (gs : List G)
  | l (gs : List G)
  | d (ks : List (Key × G))
mutual
/-- v bears the data g; the lists and dicts of it stand at the addresses D -/
inductive Gp (H : Hp) : V → G → List Addr → Prop
  | s {v : V} (h : isScal v = true) : Gp H v (.s v) []
  | t {a : Addr} {xs : List V} {gs : List G} {D : List Addr} (h : H a = some (.tup xs)) (n : xs.length ≤ 1000) (r : GpL H xs gs D) : Gp H (.ref a) (.t gs) D
  | l {a : Addr} {xs : List V} {gs : List G} {D : List Addr} (h : H a = some (.lst xs)) (n : xs.length ≤ 1000) (r : GpL H xs gs D) : Gp H (.ref a) (.l gs) (a :: D)
  | d {a : Addr} {kvs : List (Key × V)} {kgs : List (Key × G)} {D : List Addr} (h : H a = some (.dK kvs)) (n : kvs.length ≤ 1000) (nd : (kvs.map (·.1)).Nodup) (r : GpK H kvs kgs D) (f : a ∉ D) : Gp H (.ref a) (.d kgs) (a :: D)
inductive GpL (H : Hp) : List V → List G → List Addr → Prop
  | nil : GpL H [] [] []
  | cons {v : V} {g : G} {vs : List V} {gs : List G} {D E : List Addr} (h : Gp H v g D) (r : GpL H vs gs E) : GpL H (v :: vs) (g :: gs) (D ++ E)
inductive GpK (H : Hp) : List (Key × V) → List (Key × G) → List Addr → Prop
  | nil : GpK H [] [] []
  | cons {k : Key} {v : V} {g : G} {vs : List (Key × V)} {gs : List (Key × G)} {D E : List Addr} (h : Gp H v g D) (r : GpK H vs gs E) : GpK H ((k, v) :: vs) ((k, g) :: gs) (D ++ E)
end
mutual
def G.dep : G → Nat
  | .s _ => 0
  | .t gs => depL gs + 1
  | .l gs => depL gs + 1
  | .d ks => depK ks + 1
def depL : List G → Nat
  | [] => 0
  | g :: gs => max g.dep (depL gs)
def depK : List (Key × G) → Nat
  | [] => 0
  | (_, g) :: gs => max g.dep (depK gs)
end
theorem depL_mem : ∀ {gs : List G} {g : G}, g ∈ gs → g.dep ≤ depL gs
  | x :: r, g, h => by
    simp only [depL]
    rcases List.mem_cons.mp h with rfl | h
    · omega
    · have := depL_mem h; omega
theorem depK_mem : ∀ {ks : List (Key × G)} {k : Key} {g : G}, (k, g) ∈ ks → g.dep ≤ depK ks
  | (k', x) :: r, k, g, h => by
    simp only [depK]
    rcases List.mem_cons.mp h with e | h
    · cases e; omega
    · have := depK_mem h; omega
mutual
theorem Gp.frame {H H' : Hp} (kt : KeepT H H') : ∀ {g : G} {v : V} {D : List Addr}, Gp H v g D → (∀ b ∈ D, ∀ o, H b = some o → H' b = some o) → Gp H' v g D
  | .s _, _, _, h, _ => by cases h with | s h => exact .s h
  | .t gs, _, _, h, hd => by cases h with | t h n r => exact .t (kt _ _ h) n (GpL.frame kt r hd)
  | .l gs, _, _, h, hd => by cases h with | l h n r => exact .l (hd _ List.mem_cons_self _ h) n (GpL.frame kt r fun b hb => hd b (List.mem_cons_of_mem _ hb))
  | .d ks, _, _, h, hd => by cases h with | d h n nd r f => exact .d (hd _ List.mem_cons_self _ h) n nd (GpK.frame kt r fun b hb => hd b (List.mem_cons_of_mem _ hb)) f
theorem GpL.frame {H H' : Hp} (kt : KeepT H H') : ∀ {gs : List G} {vs : List V} {D : List Addr}, GpL H vs gs D → (∀ b ∈ D, ∀ o, H b = some o → H' b = some o) → GpL H' vs gs D
  | [], _, _, h, _ => by cases h; exact .nil
  | g :: gs, _, _, h, hd => by cases h with | cons h r => exact .cons (Gp.frame kt h fun b hb => hd b (List.mem_append.mpr (.inl hb))) (GpL.frame kt r fun b hb => hd b (List.mem_append.mpr (.inr hb)))
theorem GpK.frame {H H' : Hp} (kt : KeepT H H') : ∀ {gs : List (Key × G)} {vs : List (Key × V)} {D : List Addr}, GpK H vs gs D → (∀ b ∈ D, ∀ o, H b = some o → H' b = some o) → GpK H' vs gs D
  | [], _, _, h, _ => by cases h; exact .nil
  | (k, g) :: gs, _, _, h, hd => by cases h with | cons h r => exact .cons (Gp.frame kt h fun b hb => hd b (List.mem_append.mpr (.inl hb))) (GpK.frame kt r fun b hb => hd b (List.mem_append.mpr (.inr hb)))
end
theorem Gp.mono {H H' : Hp} {g : G} {v : V} {D : List Addr} (h : Gp H v g D) (e : Same H H') : Gp H' v g D := h.frame (KeepT.of e) fun b _ o z => e b o z
theorem GpL.mono {H H' : Hp} {g : List G} {v : List V} {D : List Addr} (h : GpL H v g D) (e : Same H H') : GpL H' v g D := h.frame (KeepT.of e) fun b _ o z => e b o z
theorem GpK.mono {H H' : Hp} {g : List (Key × G)} {v : List (Key × V)} {D : List Addr} (h : GpK H v g D) (e : Same H H') : GpK H' v g D := h.frame (KeepT.of e) fun b _ o z => e b o z
theorem GpL.length {H : Hp} : ∀ {gs : List G} {vs : List V} {D : List Addr}, GpL H vs gs D → vs.length = gs.length
  | [], _, _, h => by cases h; rfl
  | g :: gs, _, _, h => by cases h with | cons h r => rw [List.length_cons, List.length_cons, GpL.length r]
theorem GpL.get {H : Hp} : ∀ {gs : List G} {vs : List V} {D : List Addr} {i : Nat} {v : V}, GpL H vs gs D → vs[i]? = some v → ∃ g E, gs[i]? = some g ∧ Gp H v g E ∧ ∀ a ∈ E, a ∈ D
  | [], _, _, i, v, h, e => by cases h; simp at e
  | g :: gs, _, _, 0, v, h, e => by cases h with | cons h r => simp at e; subst e; exact ⟨g, _, rfl, h, fun a ha => List.mem_append.mpr (.inl ha)⟩
  | g :: gs, _, _, i + 1, v, h, e => by
    cases h with
    | cons h r =>
      obtain ⟨g', E, e1, e2, e3⟩ := GpL.get (i := i) r (by simpa using e)
      exact ⟨g', E, e1, e2, fun a ha => List.mem_append.mpr (.inr (e3 a ha))⟩
theorem GpK.get {H : Hp} : ∀ {gs : List (Key × G)} {vs : List (Key × V)} {D : List Addr} {i : Nat} {k : Key} {v : V}, GpK H vs gs D → vs[i]? = some (k, v) → ∃ g E, gs[i]? = some (k, g) ∧ Gp H v g E ∧ ∀ a ∈ E, a ∈ D
  | [], _, _, i, k, v, h, e => by cases h; simp at e
  | (k', g) :: gs, _, _, 0, k, v, h, e => by cases h with | cons h r => simp at e; obtain ⟨rfl, rfl⟩ := e; exact ⟨g, _, rfl, h, fun a ha => List.mem_append.mpr (.inl ha)⟩
  | (k', g) :: gs, _, _, i + 1, k, v, h, e => by
    cases h with
    | cons h r =>
      obtain ⟨g', E, e1, e2, e3⟩ := GpK.get (i := i) r (by simpa using e)
      exact ⟨g', E, e1, e2, fun a ha => List.mem_append.mpr (.inr (e3 a ha))⟩
theorem GpK.keys {H : Hp} : ∀ {gs : List (Key × G)} {vs : List (Key × V)} {D : List Addr}, GpK H vs gs D → vs.map (·.1) = gs.map (·.1)
  | [], _, _, h => by cases h; rfl
  | g :: gs, _, _, h => by cases h with | cons h r => rw [List.map_cons, List.map_cons, GpK.keys r]
theorem GpL.snoc {H : Hp} : ∀ {gs : List G} {vs : List V} {D E : List Addr} {v : V} {g : G}, GpL H vs gs D → Gp H v g E → GpL H (vs ++ [v]) (gs ++ [g]) (D ++ E)
  | [], _, _, E, v, g, h, q => by
    cases h
    have := GpL.cons q GpL.nil
    rw [List.append_nil] at this
    exact this
  | g0 :: gs, _, _, E, v, g, h, q => by
    cases h with
    | cons h r =>
      rw [List.append_assoc]
      exact .cons h (GpL.snoc r q)
theorem GpK.snoc {H : Hp} : ∀ {gs : List (Key × G)} {vs : List (Key × V)} {D E : List Addr} {k : Key} {v : V} {g : G}, GpK H vs gs D → Gp H v g E → GpK H (vs ++ [(k, v)]) (gs ++ [(k, g)]) (D ++ E)
  | [], _, _, E, k, v, g, h, q => by
    cases h
    have := GpK.cons (k := k) q GpK.nil
    rw [List.append_nil] at this
    exact this
  | g0 :: gs, _, _, E, k, v, g, h, q => by
    cases h with
    | cons h r =>
      rw [List.append_assoc]
      exact .cons h (GpK.snoc r q)
theorem valV_at : ∀ {kvs : List (Key × V)} {i : Nat} {k : Key} {v : V}, (kvs.map (·.1)).Nodup → kvs[i]? = some (k, v) → valV kvs k = some v
  | [], i, k, v, _, h => by simp at h
  | (k0, v0) :: r, 0, k, v, _, h => by simp at h; obtain ⟨rfl, rfl⟩ := h; exact valV_pos rfl
  | (k0, v0) :: r, i + 1, k, v, nd, h => by
    have h' : r[i]? = some (k, v) := by simpa using h
    rw [List.map_cons, List.nodup_cons] at nd
    have ne : ¬ k0 = k := fun e => nd.1 (by rw [e]; exact List.mem_map.mpr ⟨(k, v), List.mem_of_getElem? h', rfl⟩)
    rw [valV_neg ne]
    exact valV_at nd.2 h'
theorem upd_self {H : Hp} {a : Addr} {o : HO} (h : H a = some o) : upd H a o = H := by
  funext b
  by_cases e : b = a
  · subst e; rw [upd_same, h]
  · rw [upd_ne e]
theorem KeepT.lock {H : Hp} {a : Addr} {kvs : List (Key × V)} {o : HO} (h : H a = some (.dK kvs)) : KeepT H (L2.upd H a o) := KeepT.upd fun xs z => by rw [h] at z; cases z
/-- behind a lock -/
theorem Gp.locked {H : Hp} {g : G} {v : V} {D : List Addr} {b : Addr} {kvs : List (Key × V)} {o : HO} (h : Gp H v g D) (hb : H b = some (.dK kvs)) (n : b ∉ D) : Gp (upd H b o) v g D :=
  h.frame (KeepT.lock hb) fun c hc u z => by
    have ne : c ≠ b := fun e => by subst e; exact n hc
    rw [upd_ne ne]; exact z
theorem ty_ref {K : PySem.W.Frag} {H : Hp} {a : Addr} {o : HO} (h : H a = some o) : (∀ xs, o = .lst xs → TyX K H (.ref a) (.type "list")) ∧ (∀ xs, o = .tup xs → TyX K H (.ref a) (.type "tuple")) ∧ (∀ xs, o = .dK xs → TyX K H (.ref a) (.type "dict")) :=
  ⟨fun xs e => .base (.lst (by rw [h, e])), fun xs e => .base (.tup (by rw [h, e])), fun xs e => .base (.dK (by rw [h, e]))⟩
def spSameG (n : Nat) : Sp := fun vs H Q _ => ∃ x y g D E, vs = [x, y] ∧ Gp H x g D ∧ Gp H y g E ∧ (∀ a ∈ D, a ∉ E) ∧ g.dep < n ∧ Q (.bl true) H
def spItemsG (n : Nat) : Sp := fun vs H Q _ => ∃ (a b : Addr) (xs ys : List V) (gs : List G) (D E : List Addr), vs = [.ref a, .ref b] ∧ ((H a = some (.lst xs) ∧ H b = some (.lst ys)) ∨ (H a = some (.tup xs) ∧ H b = some (.tup ys))) ∧ xs.length ≤ 1000 ∧
  GpL H xs gs D ∧ GpL H ys gs E ∧ (∀ a ∈ D, a ∉ E) ∧ (∀ g ∈ gs, g.dep < n) ∧ Q (.bl true) H
def spCopyG (n : Nat) : Sp := fun vs H Q _ => ∃ x g D, vs = [x] ∧ Gp H x g D ∧ g.dep < n ∧ ∀ x' D' H', Gp H' x' g D' → Same H H' → (∀ a ∈ D', H a = none) → D'.Nodup → Q x' H'
mutual
theorem Gp.there {H : Hp} : ∀ {g : G} {v : V} {D : List Addr}, Gp H v g D → ∀ a ∈ D, H a ≠ none
  | .s _, _, _, h, a, ha => by cases h; cases ha
  | .t gs, _, _, h, a, ha => by cases h with | t h n r => exact GpL.there r a ha
  | .l gs, _, _, h, a, ha => by
    cases h with
    | l h n r =>
      rcases List.mem_cons.mp ha with rfl | ha
      · rw [h]; intro z; cases z
      · exact GpL.there r a ha
  | .d ks, _, _, h, a, ha => by
    cases h with
    | d h n nd r f =>
      rcases List.mem_cons.mp ha with rfl | ha
      · rw [h]; intro z; cases z
      · exact GpK.there r a ha
theorem GpL.there {H : Hp} : ∀ {g : List G} {v : List V} {D : List Addr}, GpL H v g D → ∀ a ∈ D, H a ≠ none
  | [], _, _, h, a, ha => by cases h; cases ha
  | g :: gs, _, _, h, a, ha => by
    cases h with
    | cons h r =>
      rcases List.mem_append.mp ha with ha | ha
      · exact Gp.there h a ha
      · exact GpL.there r a ha
theorem GpK.there {H : Hp} : ∀ {g : List (Key × G)} {v : List (Key × V)} {D : List Addr}, GpK H v g D → ∀ a ∈ D, H a ≠ none
  | [], _, _, h, a, ha => by cases h; cases ha
  | (k, g) :: gs, _, _, h, a, ha => by
    cases h with
    | cons h r =>
      rcases List.mem_append.mp ha with ha | ha
      · exact Gp.there h a ha
      · exact GpK.there r a ha
end
end Lt

set_option autoImplicit false
namespace Lt
open PySem L2 TL
open C8 (pss_cut)
/-! ## schemas as they stand in the heap -/
structure Tab where
  n : Str
  cols : List Col
  ch : List Cond
  un : List Str
  rf : List (Str × Str)
structure Ads where
  d : Addr
  c : Addr
  k : Addr
  u : Addr
  r : Addr
def rfD (p : Str × Str) : D := .t [.s (.str p.1), .s (.str p.2)]
theorem rf_at {H : Hp} {v : V} {p : Str × Str} (h : Tp H v (rfD p)) : ∃ a, v = .ref a ∧ H a = some (.tup [.str p.1, .str p.2]) := by
  obtain ⟨a, xs, rfl, h1, h2⟩ := t_at h
  cases h2 with
  | cons g r => cases g; cases r with
    | cons g r => cases g; cases r; exact ⟨a, rfl, h1⟩
theorem rf_mk {H : Hp} {a : Addr} {p : Str × Str} (h : H a = some (.tup [.str p.1, .str p.2])) : Tp H (.ref a) (rfD p) := .t h (.cons (.s rfl) (.cons (.s rfl) .nil))
theorem e_co_ch : ¬ ("columns" : Str) = ("checks" : Str) := by decide +kernel
theorem e_co_un : ¬ ("columns" : Str) = ("uniques" : Str) := by decide +kernel
theorem e_co_rf : ¬ ("columns" : Str) = ("references" : Str) := by decide +kernel
theorem e_ch_un : ¬ ("checks" : Str) = ("uniques" : Str) := by decide +kernel
theorem e_ch_rf : ¬ ("checks" : Str) = ("references" : Str) := by decide +kernel
theorem e_un_rf : ¬ ("uniques" : Str) = ("references" : Str) := by decide +kernel
def descD (a : Ads) : List (Key × V) := [(Sum.inr ("columns" : Str), .ref a.c), (Sum.inr ("checks" : Str), .ref a.k), (Sum.inr ("uniques" : Str), .ref a.u), (Sum.inr ("references" : Str), .ref a.r)]
theorem dd_c (a : Ads) : valV (descD a) (Sum.inr ("columns" : Str) : Key) = some (.ref a.c) := valV_pos rfl
theorem dd_k (a : Ads) : valV (descD a) (Sum.inr ("checks" : Str) : Key) = some (.ref a.k) := by unfold descD; rw [valV_neg (fun z => e_co_ch (Sum.inr.inj z)), valV_pos rfl]
theorem dd_u (a : Ads) : valV (descD a) (Sum.inr ("uniques" : Str) : Key) = some (.ref a.u) := by unfold descD; rw [valV_neg (fun z => e_co_un (Sum.inr.inj z)), valV_neg (fun z => e_ch_un (Sum.inr.inj z)), valV_pos rfl]
theorem dd_r (a : Ads) : valV (descD a) (Sum.inr ("references" : Str) : Key) = some (.ref a.r) := by unfold descD; rw [valV_neg (fun z => e_co_rf (Sum.inr.inj z)), valV_neg (fun z => e_ch_rf (Sum.inr.inj z)), valV_neg (fun z => e_un_rf (Sum.inr.inj z)), valV_pos rfl]
theorem merge_desc (a : Ads) : mergeK [] (descD a) = descD a := by
  simp [mergeK, putK, descD, e_co_ch, e_co_un, e_co_rf, e_ch_un, e_ch_rf, e_un_rf]
structure DescAt (H : Hp) (a : Ads) (t : Tab) : Prop where
  dk : H a.d = some (.dK (descD a))
  co : ColsAt H a.c t.cols
  ch : ∃ xs, H a.k = some (.lst xs) ∧ TpL H xs (t.ch.map condD)
  un : H a.u = some (.lst (t.un.map V.str))
  rf : ∃ xs, H a.r = some (.lst xs) ∧ TpL H xs (t.rf.map rfD)
def adL (a : Ads) : List Addr := [a.c, a.k, a.u, a.r]
theorem DescAt.frame {H H' : Hp} {a : Ads} {t : Tab} (h : DescAt H a t) (kt : KeepT H H') (kd : ∀ o, H a.d = some o → H' a.d = some o) (kl : ∀ b ∈ adL a, ∀ o, H b = some o → H' b = some o) : DescAt H' a t := by
  obtain ⟨h1, h2, ⟨xs, h3, h3'⟩, h4, ⟨ys, h5, h5'⟩⟩ := h
  refine ⟨kd _ h1, h2.mono kt (kl a.c (by simp [adL])), ⟨xs, kl a.k (by simp [adL]) _ h3, h3'.mono kt⟩, kl a.u (by simp [adL]) _ h4, ⟨ys, kl a.r (by simp [adL]) _ h5, h5'.mono kt⟩⟩
theorem DescAt.isL {H : Hp} {a : Ads} {t : Tab} (h : DescAt H a t) : ∀ b ∈ adL a, ∃ xs, H b = some (.lst xs) := by
  obtain ⟨h1, ⟨xs, h2, _⟩, ⟨ys, h3, _⟩, h4, ⟨zs, h5, _⟩⟩ := h
  intro b hb
  simp only [adL, List.mem_cons, List.not_mem_nil, or_false] at hb
  rcases hb with rfl | rfl | rfl | rfl
  · exact ⟨_, h2⟩
  · exact ⟨_, h3⟩
  · exact ⟨_, h4⟩
  · exact ⟨_, h5⟩
abbrev Sch := List (Ads × Tab)
def schK (s : Sch) : List (Key × V) := s.map fun p => ((Sum.inr p.2.n : Key), V.ref p.1.d)
def schN (s : Sch) : List Str := s.map fun p => p.2.n
def schL (s : Sch) : List Addr := s.flatMap fun p => adL p.1
structure SchAt (H : Hp) (S : Addr) (s : Sch) (t c : Addr) : Prop where
  sk : H S = some (.dK (schK s))
  ds : ∀ p ∈ s, DescAt H p.1 p.2
  nm : (schN s).Nodup
  dn : (t :: S :: s.map fun p => p.1.d).Nodup
  ln : (c :: schL s).Nodup
theorem sch_keys (s : Sch) : (schK s).map (·.1) = (schN s).map Sum.inr := by unfold schK schN; rw [List.map_map, List.map_map]; rfl
theorem sch_nd {s : Sch} (h : (schN s).Nodup) : ((schK s).map (·.1)).Nodup := by
  rw [sch_keys]
  exact List.Pairwise.map _ (fun a b e z => e (Sum.inr.inj z)) h
theorem sch_get {s : Sch} (h : (schN s).Nodup) {p : Ads × Tab} (hp : p ∈ s) : valV (schK s) (Sum.inr p.2.n : Key) = some (.ref p.1.d) := by
  obtain ⟨i, hi, e⟩ := List.getElem_of_mem hp
  refine valV_at (i := i) (sch_nd h) ?_
  unfold schK
  rw [List.getElem?_map, List.getElem?_eq_getElem hi, e]
  rfl
theorem sch_in {s : Sch} {n : Str} (h : n ∈ schN s) : ∃ p ∈ s, p.2.n = n := by
  obtain ⟨p, h1, h2⟩ := List.mem_map.mp h
  exact ⟨p, h1, h2⟩
theorem sch_one {s : Sch} (h : (schN s).Nodup) {p q : Ads × Tab} (hp : p ∈ s) (hq : q ∈ s) (e : p.2.n = q.2.n) : p = q := by
  obtain ⟨i, hi, ei⟩ := List.getElem_of_mem hp
  obtain ⟨j, hj, ej⟩ := List.getElem_of_mem hq
  have a1 : (schN s)[i]? = some p.2.n := by unfold schN; rw [List.getElem?_map, List.getElem?_eq_getElem hi, ei]; rfl
  have a2 : (schN s)[j]? = some p.2.n := by unfold schN; rw [List.getElem?_map, List.getElem?_eq_getElem hj, ej]; exact congrArg some e.symm
  have := nd_ix h a1 a2
  subst this
  rw [← ei, ← ej]
theorem SchAt.desc {H : Hp} {S : Addr} {s : Sch} {t c : Addr} (h : SchAt H S s t c) {p : Ads × Tab} (hp : p ∈ s) : DGet H S (.str p.2.n) (some (.ref p.1.d)) := by
  have g := DGet.k (k := (Sum.inr p.2.n : Key)) h.sk
  rw [sch_get h.nm hp] at g
  exact g
theorem DescAt.gc {H : Hp} {a : Ads} {t : Tab} (h : DescAt H a t) : DGet H a.d (.str "columns") (some (.ref a.c)) := by have g := DGet.k (k := (Sum.inr ("columns" : Str) : Key)) h.dk; rw [dd_c] at g; exact g
theorem DescAt.gk {H : Hp} {a : Ads} {t : Tab} (h : DescAt H a t) : DGet H a.d (.str "checks") (some (.ref a.k)) := by have g := DGet.k (k := (Sum.inr ("checks" : Str) : Key)) h.dk; rw [dd_k] at g; exact g
theorem DescAt.gu {H : Hp} {a : Ads} {t : Tab} (h : DescAt H a t) : DGet H a.d (.str "uniques") (some (.ref a.u)) := by have g := DGet.k (k := (Sum.inr ("uniques" : Str) : Key)) h.dk; rw [dd_u] at g; exact g
theorem DescAt.gr {H : Hp} {a : Ads} {t : Tab} (h : DescAt H a t) : DGet H a.d (.str "references") (some (.ref a.r)) := by have g := DGet.k (k := (Sum.inr ("references" : Str) : Key)) h.dk; rw [dd_r] at g; exact g
/-- the same but for the things at ex -/
def SameE (ex : List Addr) (H H' : Hp) : Prop := ∀ b o, H b = some o → b ∉ ex → H' b = some o
theorem SameE.refl (ex : List Addr) (H : Hp) : SameE ex H H := fun _ _ h _ => h
theorem SameE.trans {ex : List Addr} {H H1 H2 : Hp} (a : SameE ex H H1) (b : SameE ex H1 H2) : SameE ex H H2 := fun c o h n => b c o (a c o h n) n
theorem SameE.ofX {ex : List Addr} {t : Addr} {H H1 : Hp} (a : SameX t H H1) (h : t ∈ ex) : SameE ex H H1 := fun c o e n => a c o e (fun z => n (z ▸ h))
theorem SameE.of {ex : List Addr} {H H1 : Hp} (a : Same H H1) : SameE ex H H1 := fun c o e _ => a c o e
theorem SameE.upd {ex : List Addr} {H H1 : Hp} {p : Addr} (h : p ∈ ex) (o : HO) (a : SameE ex H H1) : SameE ex H (L2.upd H1 p o) := fun b u q n => by
  have ne : b ≠ p := fun z => n (z ▸ h)
  rw [upd_ne ne]; exact a b u q n
/-- what a schema's table may hold -/
structure TabOk (fr : List (Str × List Col)) (t : Tab) : Prop where
  nm : nameOk t.n
  co : ColsOk [] t.cols
  l0 : 1 ≤ t.cols.length
  l5 : t.cols.length ≤ 5
  c4 : t.ch.length ≤ 2
  cc : ∀ c ∈ t.ch, c.length ≤ 4 ∧ ∀ a ∈ c, a.length ≤ 4 ∧ ∀ cl ∈ a, ClOk t.cols cl
  u4 : t.un.length ≤ 4
  un : t.un.Nodup
  uc : ∀ n ∈ t.un, n ∈ colNs (t.cols.drop 1)
  r4 : t.rf.length ≤ 4
  rn : (t.rf.map (·.1)).Nodup
  rc : ∀ p ∈ t.rf, ∃ col ∈ t.cols.drop 1, col.n = p.1 ∧ p.2 ≠ t.n ∧ ∃ f ∈ fr, f.1 = p.2 ∧ ∃ kc, f.2[0]? = some kc ∧ kc.k = col.k
/-- a table that has no constraints yet -/
structure TabBare (t : Tab) : Prop where
  nm : nameOk t.n
  co : ColsOk [] t.cols
  l0 : 1 ≤ t.cols.length
  l5 : t.cols.length ≤ 5
  c0 : t.ch = []
  u0 : t.un = []
  r0 : t.rf = []
def frOf (s : Sch) : List (Str × List Col) := s.map fun p => (p.2.n, p.2.cols)
def spTable : Sp := fun vs H Q _ => ∃ (L : Addr) (cols : List Col), vs = [.ref L] ∧ ColsAt H L cols ∧ ∀ (a : Ads) (H' : Hp), (∀ n, DescAt H' a ⟨n, cols, [], [], []⟩) → Same H H' → H a.d = none → (∀ b ∈ adL a, H b = none) → (adL a).Nodup → Q (.ref a.d) H'
def spLimits : Sp := fun vs H Q _ => ∃ (t c S : Addr) (cs : List Int) (s : Sch) (a : Ads) (tab : Tab), vs = [.ref t, .ref S, .str tab.n] ∧ TapeAt H t c cs ∧ SchAt H S s t c ∧ s.length ≤ 6 ∧ (∀ p ∈ s, nameOk p.2.n ∧ 1 ≤ p.2.cols.length) ∧ (a, tab) ∈ s ∧ TabBare tab ∧
  ∀ (tab' : Tab) (H' : Hp), tab'.n = tab.n → tab'.cols = tab.cols → TabOk (frOf s) tab' → DescAt H' a tab' → TapeAt H' t c cs → KeepT H H' → SameE [t, a.k, a.u, a.r] H H' → Q .non H'
def spSchema : Sp := fun vs H Q _ => ∃ (t c : Addr) (cs : List Int) (least most : Int), vs = [.ref t, .int least, .int most] ∧ TapeAt H t c cs ∧ 0 ≤ least ∧ least ≤ most ∧ most ≤ 6 ∧
  ∀ (S : Addr) (s : Sch) (H' : Hp), SchAt H' S s t c → (∀ p ∈ s, TabOk (frOf s) p.2) → least ≤ s.length → (s.length : Int) ≤ most → TapeAt H' t c cs → SameX t H H' → Q (.ref S) H'
theorem mem_flat {s : Sch} {p : Ads × Tab} (h : p ∈ s) {b : Addr} (hb : b ∈ adL p.1) : b ∈ schL s := List.mem_flatMap.mpr ⟨p, h, hb⟩
theorem flat_one {s : Sch} (nd : (schL s).Nodup) {p q : Ads × Tab} (hp : p ∈ s) (hq : q ∈ s) {b : Addr} (h1 : b ∈ adL p.1) (h2 : b ∈ adL q.1) : p = q := by
  have nd := List.pairwise_flatMap.mp nd
  obtain ⟨i, hi, ei⟩ := List.getElem_of_mem hp
  obtain ⟨j, hj, ej⟩ := List.getElem_of_mem hq
  rcases Nat.lt_trichotomy i j with h | h | h
  · have := List.pairwise_iff_getElem.mp nd.2 i j hi hj h
    rw [ei, ej] at this
    exact absurd rfl (this b h1 b h2)
  · subst h; rw [← ei, ← ej]
  · have := List.pairwise_iff_getElem.mp nd.2 j i hj hi h
    rw [ei, ej] at this
    exact absurd rfl (this b h2 b h1)
theorem SchAt.tS {H : Hp} {S : Addr} {s : Sch} {t c : Addr} (h : SchAt H S s t c) : t ≠ S ∧ (∀ p ∈ s, p.1.d ≠ t) ∧ (∀ p ∈ s, p.1.d ≠ S) ∧ (∀ p ∈ s, ∀ b ∈ adL p.1, b ≠ c) := by
  have h1 := List.nodup_cons.mp h.dn
  have h2 := List.nodup_cons.mp h1.2
  have h3 := List.nodup_cons.mp h.ln
  refine ⟨fun e => h1.1 (by rw [e]; exact List.mem_cons_self), fun p hp e => h1.1 (List.mem_cons_of_mem _ (List.mem_map.mpr ⟨p, hp, e⟩)), fun p hp e => h2.1 (List.mem_map.mpr ⟨p, hp, e⟩), fun p hp b hb e => h3.1 (e ▸ mem_flat hp hb)⟩
theorem SchAt.monoX {H H' : Hp} {S : Addr} {s : Sch} {t c : Addr} {cs : List Int} (h : SchAt H S s t c) (T : TapeAt H t c cs) (e : SameX t H H') : SchAt H' S s t c := by
  obtain ⟨h1, h2, h3, _⟩ := h.tS
  refine ⟨e _ _ h.sk h1.symm, fun p hp => (h.ds p hp).frame (KeepT.ofX T e) (fun o z => e _ _ z (h2 p hp)) (fun b hb o z => e _ _ z ?_), h.nm, h.dn, h.ln⟩
  obtain ⟨xs, g⟩ := (h.ds p hp).isL b hb
  exact T.notL g
structure Lim (H H' : Hp) (t c : Addr) (cs : List Int) (a : Ads) (OL : Addr) (os : List Str) (conds : List Cond) (un : List Str) (rf : List (Str × Str)) : Prop where
  T : TapeAt H' t c cs
  kt : KeepT H H'
  se : SameE [t, a.k, a.u, a.r] H H'
  ol : H' OL = some (.lst (os.map V.str))
  ch : ∃ xs, H' a.k = some (.lst xs) ∧ TpL H' xs (conds.map condD)
  un : H' a.u = some (.lst (un.map V.str))
  rf : ∃ ys, H' a.r = some (.lst ys) ∧ TpL H' ys (rf.map rfD)
section
variable {H H' H2 : Hp} {t c : Addr} {cs : List Int} {a : Ads} {OL : Addr} {os : List Str} {conds : List Cond} {un : List Str} {rf : List (Str × Str)}
theorem Lim.stepX (L : Lim H H' t c cs a OL os conds un rf) (T2 : TapeAt H2 t c cs) (e : SameX t H' H2) : Lim H H2 t c cs a OL os conds un rf := by
  obtain ⟨T, kt, se, ol, ⟨xs, c1, c2⟩, un, ⟨ys, r1, r2⟩⟩ := L
  have k2 := KeepT.ofX T e
  exact ⟨T2, kt.trans k2, se.trans (SameE.ofX e (by simp)), e _ _ ol (T.notL ol), ⟨xs, e _ _ c1 (T.notL c1), c2.mono k2⟩, e _ _ un (T.notL un), ⟨ys, e _ _ r1 (T.notL r1), r2.mono k2⟩⟩
theorem Lim.step (L : Lim H H' t c cs a OL os conds un rf) (e : Same H' H2) : Lim H H2 t c cs a OL os conds un rf := by
  obtain ⟨T, kt, se, ol, ⟨xs, c1, c2⟩, un, ⟨ys, r1, r2⟩⟩ := L
  exact ⟨T.mono e, kt.trans (KeepT.of e), se.trans (SameE.of e), e _ _ ol, ⟨xs, e _ _ c1, c2.mono (KeepT.of e)⟩, e _ _ un, ⟨ys, e _ _ r1, r2.mono (KeepT.of e)⟩⟩
/-- what the schema shows while one table of it gets its constraints -/
theorem Lim.see {S : Addr} {s : Sch} {tab : Tab} (L : Lim H H' t c cs a OL os conds un rf) (A : SchAt H S s t c) (hm : (a, tab) ∈ s) (htk : ∃ kvs, H t = some (.dK kvs)) : DGet H' S (.str tab.n) (some (.ref a.d)) ∧ DGet H' a.d (.str "columns") (some (.ref a.c)) ∧ DGet H' a.d (.str "checks") (some (.ref a.k)) ∧ DGet H' a.d (.str "uniques") (some (.ref a.u)) ∧ DGet H' a.d (.str "references") (some (.ref a.r)) ∧ ColsAt H' a.c tab.cols ∧
    ∀ q ∈ s, DGet H' S (.str q.2.n) (some (.ref q.1.d)) ∧ DGet H' q.1.d (.str "columns") (some (.ref q.1.c)) ∧ ColsAt H' q.1.c q.2.cols := by
  obtain ⟨h1, h2, h3, h4⟩ := A.tS
  have D := A.ds _ hm
  have dl : ∀ {x : Addr} {kvs : List (Key × V)}, H x = some (.dK kvs) → x ≠ t → x ∉ [t, a.k, a.u, a.r] := by
    intro x kvs hx hxt hc
    have gl := D.isL
    simp only [List.mem_cons, List.not_mem_nil, or_false] at hc
    rcases hc with z | z | z | z
    · exact hxt z
    · obtain ⟨xs, g⟩ := gl a.k (by simp [adL]); rw [z, g] at hx; cases hx
    · obtain ⟨xs, g⟩ := gl a.u (by simp [adL]); rw [z, g] at hx; cases hx
    · obtain ⟨xs, g⟩ := gl a.r (by simp [adL]); rw [z, g] at hx; cases hx
  have hS : H' S = some (.dK (schK s)) := L.se _ _ A.sk (dl A.sk h1.symm)
  have all : ∀ q ∈ s, DGet H' S (.str q.2.n) (some (.ref q.1.d)) ∧ H' q.1.d = some (.dK (descD q.1)) ∧ ColsAt H' q.1.c q.2.cols := by
    intro q hq
    have g := DGet.k (k := (Sum.inr q.2.n : Key)) hS
    rw [sch_get A.nm hq] at g
    have Dq := A.ds q hq
    refine ⟨g, L.se _ _ Dq.dk (dl Dq.dk (h2 q hq)), Dq.co.mono L.kt fun o ho => L.se _ _ ho fun hc => ?_⟩
    have hb : q.1.c ∈ adL q.1 := by simp [adL]
    have nd := (List.nodup_cons.mp A.ln).2
    have one : ∀ b, b ∈ adL a → q.1.c = b → b = a.c := by
      intro b hba e
      have := flat_one nd hq hm hb (by rw [e]; exact hba)
      rw [← e, this]
    have ndA : (adL a).Nodup := (List.pairwise_flatMap.mp nd).1 _ hm
    simp only [adL, List.nodup_cons, List.mem_cons, List.not_mem_nil, or_false, not_or] at ndA
    simp only [List.mem_cons, List.not_mem_nil, or_false] at hc
    rcases hc with z | z | z | z
    · obtain ⟨kvs, e⟩ := htk
      obtain ⟨xs, g⟩ := Dq.isL q.1.c hb
      rw [z, e] at g; cases g
    · exact ndA.1.1 (one a.k (by simp [adL]) z).symm
    · exact ndA.1.2.1 (one a.u (by simp [adL]) z).symm
    · exact ndA.1.2.2 (one a.r (by simp [adL]) z).symm
  obtain ⟨g1, g2, g3⟩ := all _ hm
  have gg : ∀ {q : Ads}, H' q.d = some (.dK (descD q)) → DGet H' q.d (.str "columns") (some (.ref q.c)) := fun {q} e => by
    have g := DGet.k (k := (Sum.inr ("columns" : Str) : Key)) e; rw [dd_c] at g; exact g
  refine ⟨g1, gg g2, ?_, ?_, ?_, g3, fun q hq => ?_⟩
  · have g := DGet.k (k := (Sum.inr ("checks" : Str) : Key)) g2; rw [dd_k] at g; exact g
  · have g := DGet.k (k := (Sum.inr ("uniques" : Str) : Key)) g2; rw [dd_u] at g; exact g
  · have g := DGet.k (k := (Sum.inr ("references" : Str) : Key)) g2; rw [dd_r] at g; exact g
  · obtain ⟨q1, q2, q3⟩ := all q hq
    exact ⟨q1, gg q2, q3⟩
end
/-- a list of texts, compared with the empty one -/
theorem strs_dp {K : PySem.W.Frag} {H : Hp} : ∀ xs : List Str, DpAll K H (xs.map V.str) (xs.map PyData.str)
  | [] => .nil
  | x :: r => .cons (.str x) (strs_dp r)
theorem strs_lay : ∀ xs : List Str, (∀ x ∈ xs, PyData.strOk x = true) → PyData.canLayAll0 (xs.map PyData.str) = true ∧ PyData.depthAll (xs.map PyData.str) ≤ 1
  | [], _ => by simp [PyData.canLayAll0, PyData.depthAll]
  | x :: r, h => by
    obtain ⟨a, b⟩ := strs_lay r fun y hy => h y (List.mem_cons_of_mem _ hy)
    have hx := h x List.mem_cons_self
    constructor
    · simp [PyData.canLayAll0, PyData.canLay0, a, hx]
    · simp only [List.map_cons, PyData.depthAll, PyData.depth]
      omega
theorem strs_shaped {xs : List Str} (h : ∀ x ∈ xs, PyData.strOk x = true) : SeqAt.shaped (.list (xs.map PyData.str)) = true := by
  obtain ⟨a, b⟩ := strs_lay xs h
  simp only [SeqAt.shaped, PyData.canLay0, a, Bool.true_and, PyData.depth]
  exact decide_eq_true (by omega)
theorem strs_eqv (xs : List Str) : PyData.eqv (.list (xs.map PyData.str)) (.list []) = xs.isEmpty := by cases xs <;> rfl
theorem nameOk.str {z : Str} (h : nameOk z) : PyData.strOk z = true := strOk_of fun c hc => (h.2.2 c hc).ok
/-- one table's description has changed, all else stands -/
theorem SchAt.set {H H' : Hp} {S : Addr} {s : Sch} {t c : Addr} {i : Nat} {a : Ads} {tab tab' : Tab} (h : SchAt H S s t c) (ht : ∃ kvs, H t = some (.dK kvs)) (hi : s[i]? = some (a, tab)) (hn : tab'.n = tab.n) (hd : DescAt H' a tab') (kt : KeepT H H') (e : SameE [t, a.k, a.u, a.r] H H') : SchAt H' S (s.set i (a, tab')) t c := by
  obtain ⟨h1, h2, h3, h4⟩ := h.tS
  have hm : (a, tab) ∈ s := List.mem_of_getElem? hi
  have hil : i < s.length := (List.getElem?_eq_some_iff.mp hi).1
  have dl : ∀ {x : Addr} {kvs : List (Key × V)}, H x = some (.dK kvs) → x ≠ t → x ∉ [t, a.k, a.u, a.r] := by
    intro x kvs hx hxt hc
    have gl := (h.ds _ hm).isL
    simp only [List.mem_cons, List.not_mem_nil, or_false] at hc
    rcases hc with z | z | z | z
    · exact hxt z
    · obtain ⟨xs, g⟩ := gl a.k (by simp [adL]); rw [z, g] at hx; cases hx
    · obtain ⟨xs, g⟩ := gl a.u (by simp [adL]); rw [z, g] at hx; cases hx
    · obtain ⟨xs, g⟩ := gl a.r (by simp [adL]); rw [z, g] at hx; cases hx
  have ek : schK (s.set i (a, tab')) = schK s := by
    unfold schK
    rw [List.map_set]
    refine List.ext_getElem? fun j => ?_
    rw [List.getElem?_set]
    split
    · rename_i hj; subst hj
      rw [List.getElem?_map, hi, if_pos (by rw [List.length_map]; exact hil)]
      show some ((Sum.inr tab'.n : Key), V.ref a.d) = _
      rw [hn]; rfl
    · rfl
  have en : schN (s.set i (a, tab')) = schN s := by
    unfold schN
    rw [List.map_set]
    refine List.ext_getElem? fun j => ?_
    rw [List.getElem?_set]
    split
    · rename_i hj; subst hj
      rw [List.getElem?_map, hi, if_pos (by rw [List.length_map]; exact hil)]
      exact congrArg some hn
    · rfl
  have ea : (s.set i (a, tab')).map (fun p => p.1) = s.map (fun p => p.1) := by
    rw [List.map_set]
    refine List.ext_getElem? fun j => ?_
    rw [List.getElem?_set]
    split
    · rename_i hj; subst hj
      rw [List.getElem?_map, hi, if_pos (by rw [List.length_map]; exact hil)]
      rfl
    · rfl
  have ed : (s.set i (a, tab')).map (fun p => p.1.d) = s.map (fun p => p.1.d) := by
    have := congrArg (List.map fun x : Ads => x.d) ea
    rw [List.map_map, List.map_map] at this
    exact this
  have el : schL (s.set i (a, tab')) = schL s := by
    have := congrArg (List.flatMap fun x : Ads => adL x) ea
    rw [List.flatMap_map, List.flatMap_map] at this
    exact this
  refine ⟨?_, fun p hp => ?_, by rw [en]; exact h.nm, by rw [ed]; exact h.dn, by rw [el]; exact h.ln⟩
  · rw [ek]; exact e _ _ h.sk (dl h.sk h1.symm)
  · obtain ⟨j, hj, ej⟩ := List.getElem_of_mem hp
    rw [List.getElem_set] at ej
    split at ej
    · rw [← ej]; exact hd
    · rename_i hne
      rw [List.length_set] at hj
      have hps : p ∈ s := by rw [← ej]; exact List.getElem_mem hj
      have D := h.ds p hps
      refine D.frame kt (fun o z => e _ _ z (by rw [D.dk] at z; cases z; exact dl D.dk (h2 p hps))) (fun b hb o z => e _ _ z fun hc => ?_)
      have hb2 : b ∈ adL a ∨ b = t := by
        simp only [List.mem_cons, List.not_mem_nil, or_false] at hc
        rcases hc with z | z | z | z
        · exact .inr z
        · exact .inl (by rw [z]; simp [adL])
        · exact .inl (by rw [z]; simp [adL])
        · exact .inl (by rw [z]; simp [adL])
      rcases hb2 with hb2 | hb2
      · have eq := flat_one (List.nodup_cons.mp h.ln).2 hps hm hb hb2
        have hi' : s[i] = (a, tab) := by rw [List.getElem?_eq_getElem hil] at hi; exact Option.some.inj hi
        have b1 : (schN s)[j]? = some tab.n := by unfold schN; rw [List.getElem?_map, List.getElem?_eq_getElem hj, ej, eq]; rfl
        have b2 : (schN s)[i]? = some tab.n := by unfold schN; rw [List.getElem?_map, hi]; rfl
        exact hne (nd_ix h.nm b2 b1)
      · obtain ⟨xs, g⟩ := D.isL b hb
        obtain ⟨kvs, h5⟩ := ht
        rw [hb2, h5] at g
        cases g
end Lt

set_option autoImplicit false
namespace Lt
open PySem L2 TL
open C8 (pss_cut)
/-! ## a schema in the making -/
theorem putK_fresh {kvs : List (Key × V)} {k : Key} {v : V} (h : k ∉ kvs.map (·.1)) : putK kvs k v = kvs ++ [(k, v)] := by
  unfold putK
  rw [if_neg]
  intro z
  obtain ⟨x, h1, h2⟩ := List.any_eq_true.mp z
  exact h (List.mem_map.mpr ⟨x, h1, of_decide_eq_true h2⟩)
theorem schK_new {s : Sch} {a : Ads} {tab : Tab} (h : tab.n ∉ schN s) : putK (schK s) (Sum.inr tab.n : Key) (.ref a.d) = schK (s ++ [(a, tab)]) := by
  rw [putK_fresh]
  · unfold schK; rw [List.map_append]; rfl
  · rw [sch_keys]
    intro z
    obtain ⟨x, h1, h2⟩ := List.mem_map.mp z
    cases h2
    exact h h1
theorem SchAt.notS {H : Hp} {S : Addr} {s : Sch} {t c : Addr} (A : SchAt H S s t c) : ∀ p ∈ s, ∀ b ∈ adL p.1, b ≠ S := fun p hp b hb e => by
  obtain ⟨xs, g⟩ := (A.ds p hp).isL b hb
  rw [e, A.sk] at g
  cases g
theorem SchAt.add {H : Hp} {S t c : Addr} {s : Sch} {a : Ads} {tab : Tab} (A : SchAt H S s t c) (D : DescAt H a tab) (hz : tab.n ∉ schN s) (hd : a.d ≠ t ∧ a.d ≠ S ∧ ∀ p ∈ s, a.d ≠ p.1.d)
    (hl : ∀ b ∈ adL a, b ≠ c ∧ b ∉ schL s) (nd : (adL a).Nodup) : SchAt (upd H S (.dK (schK (s ++ [(a, tab)])))) S (s ++ [(a, tab)]) t c := by
  obtain ⟨h1, h2, h3, h4⟩ := A.tS
  have kt : KeepT H (upd H S (.dK (schK (s ++ [(a, tab)])))) := KeepT.lock A.sk
  have fr : ∀ {a' : Ads} {tab' : Tab}, DescAt H a' tab' → a'.d ≠ S → DescAt (upd H S (.dK (schK (s ++ [(a, tab)])))) a' tab' := fun {a' tab'} D' ne =>
    D'.frame kt (fun o z => by rw [upd_ne ne]; exact z) (fun b hb o z => by
      have : b ≠ S := fun e => by
        obtain ⟨xs, g⟩ := D'.isL b hb
        rw [e, A.sk] at g; cases g
      rw [upd_ne this]; exact z)
  refine ⟨upd_same, fun p hp => ?_, ?_, ?_, ?_⟩
  · rcases List.mem_append.mp hp with hp | hp
    · exact fr (A.ds p hp) (h3 p hp)
    · rw [List.mem_singleton.mp hp]; exact fr D hd.2.1
  · unfold schN
    rw [List.map_append]
    refine List.nodup_append.mpr ⟨A.nm, by simp, fun x hx y hy => ?_⟩
    have : y = tab.n := by simpa using hy
    subst this
    rintro rfl
    exact hz hx
  · rw [List.map_append]
    show ((t :: S :: s.map fun p => p.1.d) ++ [a.d]).Nodup
    refine List.nodup_append.mpr ⟨A.dn, by simp, fun x hx y hy => ?_⟩
    have : y = a.d := by simpa using hy
    subst this
    rcases List.mem_cons.mp hx with rfl | hx
    · exact hd.1.symm
    · rcases List.mem_cons.mp hx with rfl | hx
      · exact hd.2.1.symm
      · obtain ⟨p, hp, e⟩ := List.mem_map.mp hx
        rw [← e]; exact (hd.2.2 p hp).symm
  · have e : schL (s ++ [(a, tab)]) = schL s ++ adL a := by unfold schL; rw [List.flatMap_append]; simp
    rw [e]
    show ((c :: schL s) ++ adL a).Nodup
    refine List.nodup_append.mpr ⟨A.ln, nd, fun x hx y hy => ?_⟩
    rintro rfl
    rcases List.mem_cons.mp hx with e | hx
    · exact (hl x hy).1 e
    · exact (hl x hy).2 hx
/-- all stands but the tape and a list that is no part of it -/
theorem SchAt.monoXY {H H' : Hp} {S U : Addr} {s : Sch} {t c : Addr} {cs : List Int} {us : List V} (h : SchAt H S s t c) (T : TapeAt H t c cs) (hU : H U = some (.lst us)) (nU : U ∉ schL s) (e : SameXY t U H H') : SchAt H' S s t c := by
  obtain ⟨h1, h2, h3, _⟩ := h.tS
  have nl : ∀ {b : Addr} {kvs : List (Key × V)}, H b = some (.dK kvs) → b ≠ U := fun hb z => by rw [z, hU] at hb; cases hb
  refine ⟨e _ _ h.sk h1.symm (nl h.sk), fun p hp => (h.ds p hp).frame (KeepT.ofXY T hU e) (fun o z => e _ _ z (h2 p hp) (nl (h.ds p hp).dk)) (fun b hb o z => e _ _ z ?_ ?_), h.nm, h.dn, h.ln⟩
  · obtain ⟨xs, g⟩ := (h.ds p hp).isL b hb
    exact T.notL g
  · rintro rfl; exact nU (mem_flat hp hb)
theorem SameXY.free {t u : Addr} {H H' : Hp} (e : SameXY t u H H') {b : Addr} (h1 : b ≠ t) (h2 : b ≠ u) (h : H' b = none) : H b = none := by
  cases z : H b with
  | none => rfl
  | some o => have := e _ _ z h1 h2; rw [h] at this; cases this
theorem set_map {α β : Type} {s : List α} {i : Nat} {x y : α} (f : α → β) (h : s[i]? = some x) (e : f y = f x) : (s.set i y).map f = s.map f := by
  have hil : i < s.length := (List.getElem?_eq_some_iff.mp h).1
  rw [List.map_set]
  refine List.ext_getElem? fun j => ?_
  rw [List.getElem?_set]
  split
  · rename_i hj; subst hj
    rw [List.getElem?_map, h, if_pos (by rw [List.length_map]; exact hil), e]
    rfl
  · rfl
/-- a schema whose tables get their constraints one after another: those in done have them -/
structure Half (H0 H' : Hp) (t c : Addr) (cs : List Int) (S : Addr) (s s' : Sch) (done : List Str) : Prop where
  A : SchAt H' S s' t c
  T : TapeAt H' t c cs
  ads : s'.map (·.1) = s.map (·.1)
  fr : frOf s' = frOf s
  ok : ∀ p ∈ s', p.2.n ∈ done → TabOk (frOf s) p.2
  ba : ∀ p ∈ s', p.2.n ∉ done → TabBare p.2
  se : SameX t H0 H'
  new : ∀ b ∈ schL s', H0 b = none
theorem schN_of {s s' : Sch} (h : frOf s' = frOf s) : schN s' = schN s := by
  have := congrArg (List.map (·.1)) h
  unfold frOf at this
  rw [List.map_map, List.map_map] at this
  exact this
theorem schL_of {s s' : Sch} (h : s'.map (·.1) = s.map (·.1)) : schL s' = schL s := by
  have := congrArg (List.flatMap fun x : Ads => adL x) h
  rw [List.flatMap_map, List.flatMap_map] at this
  exact this
theorem Half.put {H0 H1 H2 : Hp} {t c : Addr} {cs : List Int} {S : Addr} {s s' : Sch} {done : List Str} {a : Ads} {tab tab' : Tab} (L : Half H0 H1 t c cs S s s' done) (hm : (a, tab) ∈ s')
    (hn : tab'.n = tab.n) (hc : tab'.cols = tab.cols) (ok : TabOk (frOf s') tab') (D : DescAt H2 a tab') (T : TapeAt H2 t c cs) (kt : KeepT H1 H2) (e : SameE [t, a.k, a.u, a.r] H1 H2) :
    ∃ s2, Half H0 H2 t c cs S s s2 (done ++ [tab.n]) := by
  obtain ⟨i, hi, ei⟩ := List.getElem_of_mem hm
  have hi' : s'[i]? = some (a, tab) := by rw [List.getElem?_eq_getElem hi, ei]
  have ht : ∃ kvs, H1 t = some (.dK kvs) := by obtain ⟨_, _, _, _, e, _⟩ := L.T.dk; exact ⟨_, e⟩
  have f1 : frOf (s'.set i (a, tab')) = frOf s := by
    rw [← L.fr]
    exact set_map (fun p : Ads × Tab => (p.2.n, p.2.cols)) hi' (by show (tab'.n, tab'.cols) = (tab.n, tab.cols); rw [hn, hc])
  have f2 : (s'.set i (a, tab')).map (·.1) = s.map (·.1) := by rw [← L.ads]; exact set_map (fun p : Ads × Tab => p.1) hi' rfl
  have back : ∀ p ∈ s'.set i (a, tab'), p = (a, tab') ∨ (p ∈ s' ∧ p.2.n ≠ tab.n) := by
    intro p hp
    obtain ⟨j, hj, ej⟩ := List.getElem_of_mem hp
    rw [List.getElem_set] at ej
    split at ej
    · exact .inl ej.symm
    · rename_i hne
      rw [List.length_set] at hj
      have hps : p ∈ s' := by rw [← ej]; exact List.getElem_mem hj
      refine .inr ⟨hps, fun z => ?_⟩
      have b1 : (schN s')[j]? = some tab.n := by unfold schN; rw [List.getElem?_map, List.getElem?_eq_getElem hj, ej, ← z]; rfl
      have b2 : (schN s')[i]? = some tab.n := by unfold schN; rw [List.getElem?_map, hi']; rfl
      exact hne (nd_ix L.A.nm b2 b1)
  refine ⟨s'.set i (a, tab'), L.A.set ht hi' hn D kt e, T, f2, f1, ?_, ?_, ?_, ?_⟩
  · intro p hp hd
    rcases back p hp with rfl | ⟨h1, h2⟩
    · rw [← L.fr]; exact ok
    · rcases List.mem_append.mp hd with hd | hd
      · exact L.ok p h1 hd
      · exact absurd (List.mem_singleton.mp hd) h2
  · intro p hp hd
    rcases back p hp with rfl | ⟨h1, h2⟩
    · exact absurd (List.mem_append.mpr (.inr (by rw [List.mem_singleton]; exact hn))) hd
    · exact L.ba p h1 fun z => hd (List.mem_append.mpr (.inl z))
  · intro b o hb hbt
    have g := L.se b o hb hbt
    refine e b o g fun hc => ?_
    simp only [List.mem_cons, List.not_mem_nil, or_false] at hc
    have nw : ∀ x ∈ adL a, b ≠ x := fun x hx z => by
      have := L.new x (mem_flat hm hx)
      rw [← z, hb] at this; cases this
    rcases hc with z | z | z | z
    · exact hbt z
    · exact nw a.k (by simp [adL]) z
    · exact nw a.u (by simp [adL]) z
    · exact nw a.r (by simp [adL]) z
  · rw [schL_of (f2.trans L.ads.symm)]; exact L.new
end Lt

set_option autoImplicit false
namespace Lt
open PySem L2 TL
open C8 (pss_cut)
/-! ## schemas as data; what they say of columns and tables -/
mutual
def gOf : D → G
  | .s v => .s v
  | .t ds => .t (gOfL ds)
def gOfL : List D → List G
  | [] => []
  | d :: ds => gOf d :: gOfL ds
end
mutual
def D.sm : D → Bool
  | .s _ => true
  | .t ds => decide (ds.length ≤ 1000) && smL ds
def smL : List D → Bool
  | [] => true
  | d :: ds => d.sm && smL ds
end
theorem gOfL_map : ∀ ds : List D, gOfL ds = ds.map gOf
  | [] => rfl
  | d :: ds => by simp only [gOfL, List.map_cons]; rw [gOfL_map ds]
theorem smL_all : ∀ {ds : List D}, smL ds = true ↔ ∀ d ∈ ds, d.sm = true
  | [] => by simp [smL]
  | d :: ds => by simp only [smL, Bool.and_eq_true, List.forall_mem_cons]; rw [smL_all]
theorem sm_t {ds : List D} (h : ds.length ≤ 1000) (k : ∀ d ∈ ds, d.sm = true) : (D.t ds).sm = true := by
  simp only [D.sm, Bool.and_eq_true, decide_eq_true_eq]
  exact ⟨h, smL_all.mpr k⟩
mutual
theorem Tp.g {H : Hp} : ∀ {d : D} {v : V}, Tp H v d → d.sm = true → Gp H v (gOf d) []
  | .s _, _, h, _ => by cases h with | s h => exact .s h
  | .t ds, _, h, k => by
    cases h with
    | t h r =>
      simp only [D.sm, Bool.and_eq_true, decide_eq_true_eq] at k
      exact .t h (by rw [r.length]; exact k.1) (TpL.g r k.2)
theorem TpL.g {H : Hp} : ∀ {ds : List D} {vs : List V}, TpL H vs ds → smL ds = true → GpL H vs (gOfL ds) []
  | [], _, h, _ => by cases h; exact .nil
  | d :: ds, _, h, k => by
    cases h with
    | cons h r =>
      simp only [smL, Bool.and_eq_true] at k
      exact GpL.cons (D := []) (E := []) (Tp.g h k.1) (TpL.g r k.2)
end
mutual
def D.dp : D → Nat
  | .s _ => 0
  | .t ds => dpL ds + 1
def dpL : List D → Nat
  | [] => 0
  | d :: ds => max d.dp (dpL ds)
end
mutual
theorem dep_gOf : ∀ d : D, (gOf d).dep = d.dp
  | .s _ => rfl
  | .t ds => by simp only [gOf, G.dep, D.dp]; rw [dep_gOfL ds]
theorem dep_gOfL : ∀ ds : List D, depL (gOfL ds) = dpL ds
  | [] => rfl
  | d :: ds => by simp only [gOfL, depL, dpL]; rw [dep_gOf d, dep_gOfL ds]
end
theorem depL_le {n : Nat} : ∀ {gs : List G}, (∀ g ∈ gs, g.dep ≤ n) → depL gs ≤ n
  | [], _ => Nat.zero_le _
  | g :: gs, h => by
    simp only [depL]
    have a := h g List.mem_cons_self
    have b := depL_le fun x hx => h x (List.mem_cons_of_mem _ hx)
    omega
theorem depK_le {n : Nat} : ∀ {gs : List (Key × G)}, (∀ p ∈ gs, p.2.dep ≤ n) → depK gs ≤ n
  | [], _ => Nat.zero_le _
  | (k, g) :: gs, h => by
    simp only [depK]
    have a := h _ List.mem_cons_self
    have b := depK_le fun x hx => h x (List.mem_cons_of_mem _ hx)
    simp only at a
    omega
theorem dpL_le {n : Nat} : ∀ {gs : List D}, (∀ g ∈ gs, g.dp ≤ n) → dpL gs ≤ n
  | [], _ => Nat.zero_le _
  | g :: gs, h => by
    simp only [dpL]
    have a := h g List.mem_cons_self
    have b := dpL_le fun x hx => h x (List.mem_cons_of_mem _ hx)
    omega
theorem col_sm (c : Col) : (colD c).sm = true := rfl
theorem col_dp (c : Col) : (colD c).dp = 1 := rfl
theorem rf_sm (c : Str × Str) : (rfD c).sm = true := rfl
theorem rf_dp (c : Str × Str) : (rfD c).dp = 1 := rfl
theorem cl_sm (c : Cl) : (clD c).sm = true := rfl
theorem cl_dp (c : Cl) : (clD c).dp = 1 := rfl
theorem cond_sm {c : Cond} (h : c.length ≤ 1000) (k : ∀ a ∈ c, a.length ≤ 1000) : (condD c).sm = true := by
  refine sm_t (by rw [List.length_map]; exact h) fun d hd => ?_
  obtain ⟨a, ha, rfl⟩ := List.mem_map.mp hd
  refine sm_t (by rw [List.length_map]; exact k a ha) fun d hd => ?_
  obtain ⟨cl, _, rfl⟩ := List.mem_map.mp hd
  exact cl_sm cl
theorem cond_dp (c : Cond) : (condD c).dp ≤ 3 := by
  have : dpL (c.map altD) ≤ 2 := by
    refine dpL_le fun d hd => ?_
    obtain ⟨a, _, rfl⟩ := List.mem_map.mp hd
    have : dpL (a.map clD) ≤ 1 := dpL_le fun d hd => by
      obtain ⟨cl, _, rfl⟩ := List.mem_map.mp hd
      exact Nat.le_of_eq (cl_dp cl)
    simp only [altD, D.dp]; omega
  simp only [condD, D.dp]; omega
/-- a list of tuples as data -/
def lG (ds : List D) : G := .l (gOfL ds)
def strsG (xs : List Str) : G := .l (xs.map fun x => .s (.str x))
theorem strsG_L {H : Hp} : ∀ xs : List Str, GpL H (xs.map V.str) (xs.map fun x => G.s (.str x)) []
  | [] => .nil
  | x :: r => GpL.cons (D := []) (E := []) (.s rfl) (strsG_L r)
theorem strsG_at {H : Hp} {N : Addr} {xs : List Str} (h : H N = some (.lst (xs.map V.str))) (hl : xs.length ≤ 1000) : Gp H (.ref N) (strsG xs) [N] := .l h (by rw [List.length_map]; exact hl) (strsG_L xs)
theorem strsG_dep (xs : List Str) : (strsG xs).dep ≤ 1 := by
  have : depL (xs.map fun x => G.s (.str x)) ≤ 0 := depL_le fun g hg => by
    obtain ⟨x, _, rfl⟩ := List.mem_map.mp hg
    exact Nat.le_refl 0
  simp only [strsG, G.dep]; omega
def descG (t : Tab) : G := .d [(Sum.inr ("columns" : Str), lG (t.cols.map colD)), (Sum.inr ("checks" : Str), lG (t.ch.map condD)), (Sum.inr ("uniques" : Str), strsG t.un), (Sum.inr ("references" : Str), lG (t.rf.map rfD))]
def tabsG (ts : List Tab) : List (Key × G) := ts.map fun t => ((Sum.inr t.n : Key), descG t)
def schG (s : Sch) : G := .d (tabsG (s.map (·.2)))
/-- sizes that any schema here keeps to -/
structure TabSm (t : Tab) : Prop where
  co : t.cols.length ≤ 40
  ch : t.ch.length ≤ 40
  cc : ∀ c ∈ t.ch, c.length ≤ 20 ∧ ∀ a ∈ c, a.length ≤ 20
  un : t.un.length ≤ 40
  rf : t.rf.length ≤ 40
theorem TabOk.sm {fr : List (Str × List Col)} {t : Tab} (h : TabOk fr t) : TabSm t := by
  have h1 := h.l5
  have h2 := h.c4
  have h3 := h.u4
  have h4 := h.r4
  exact ⟨by omega, by omega, fun c hc => by
    obtain ⟨a, b⟩ := h.cc c hc
    exact ⟨by omega, fun x hx => by have := (b x hx).1; omega⟩, by omega, by omega⟩
theorem lG_dep {ds : List D} {n : Nat} (h : ∀ d ∈ ds, d.dp ≤ n) : (lG ds).dep ≤ n + 1 := by
  simp only [lG, G.dep]
  rw [dep_gOfL]
  have := dpL_le h
  omega
theorem desc_dep (t : Tab) : (descG t).dep ≤ 5 := by
  have : depK [((Sum.inr ("columns" : Str) : Key), lG (t.cols.map colD)), (Sum.inr ("checks" : Str), lG (t.ch.map condD)), (Sum.inr ("uniques" : Str), strsG t.un), (Sum.inr ("references" : Str), lG (t.rf.map rfD))] ≤ 4 := by
    refine depK_le fun p hp => ?_
    simp only [List.mem_cons, List.not_mem_nil, or_false] at hp
    rcases hp with rfl | rfl | rfl | rfl
    · exact Nat.le_trans (lG_dep (n := 1) fun d hd => by obtain ⟨x, _, rfl⟩ := List.mem_map.mp hd; exact Nat.le_of_eq (col_dp x)) (by decide)
    · exact lG_dep (n := 3) fun d hd => by obtain ⟨x, _, rfl⟩ := List.mem_map.mp hd; exact cond_dp x
    · exact Nat.le_trans (strsG_dep _) (by decide)
    · exact Nat.le_trans (lG_dep (n := 1) fun d hd => by obtain ⟨x, _, rfl⟩ := List.mem_map.mp hd; exact Nat.le_of_eq (rf_dp x)) (by decide)
  simp only [descG, G.dep]; omega
theorem sch_dep (s : Sch) : (schG s).dep ≤ 6 := by
  have : depK (tabsG (s.map (·.2))) ≤ 5 := depK_le fun p hp => by
    obtain ⟨t, _, rfl⟩ := List.mem_map.mp hp
    exact desc_dep t
  simp only [schG, G.dep]; omega
theorem desc_nd (a : Ads) : ((descD a).map (·.1)).Nodup := by
  simp only [descD, List.map_cons, List.map_nil, List.nodup_cons, List.mem_cons, List.not_mem_nil, or_false, not_or, not_false_eq_true, List.nodup_nil, and_true]
  refine ⟨⟨fun z => e_co_ch (Sum.inr.inj z), fun z => e_co_un (Sum.inr.inj z), fun z => e_co_rf (Sum.inr.inj z)⟩, ⟨fun z => e_ch_un (Sum.inr.inj z), fun z => e_ch_rf (Sum.inr.inj z)⟩, fun z => e_un_rf (Sum.inr.inj z)⟩
theorem DescAt.g {H : Hp} {a : Ads} {t : Tab} (h : DescAt H a t) (k : TabSm t) : Gp H (.ref a.d) (descG t) (a.d :: adL a) := by
  obtain ⟨xs, h2, r2⟩ := h.co
  obtain ⟨ys, h3, r3⟩ := h.ch
  obtain ⟨zs, h5, r5⟩ := h.rf
  have g2 : Gp H (.ref a.c) (lG (t.cols.map colD)) [a.c] := .l h2 (by have := k.co; rw [r2.length, List.length_map]; omega) (r2.g (smL_all.mpr fun d hd => by obtain ⟨x, _, rfl⟩ := List.mem_map.mp hd; rfl))
  have g3 : Gp H (.ref a.k) (lG (t.ch.map condD)) [a.k] := .l h3 (by have := k.ch; rw [r3.length, List.length_map]; omega) (r3.g (smL_all.mpr fun d hd => by
    obtain ⟨x, hx, rfl⟩ := List.mem_map.mp hd
    have := k.cc x hx
    exact cond_sm (by omega) fun a ha => by have := this.2 a ha; omega))
  have g4 : Gp H (.ref a.u) (strsG t.un) [a.u] := strsG_at h.un (by have := k.un; omega)
  have g5 : Gp H (.ref a.r) (lG (t.rf.map rfD)) [a.r] := .l h5 (by have := k.rf; rw [r5.length, List.length_map]; omega) (r5.g (smL_all.mpr fun d hd => by obtain ⟨x, _, rfl⟩ := List.mem_map.mp hd; rfl))
  refine .d h.dk (by show 4 ≤ 1000; decide) (desc_nd a) (D := adL a) (GpK.cons (D := [a.c]) (E := [a.k, a.u, a.r]) g2 (GpK.cons (D := [a.k]) (E := [a.u, a.r]) g3 (GpK.cons (D := [a.u]) (E := [a.r]) g4 (GpK.cons (D := [a.r]) (E := []) g5 .nil)))) fun hm => ?_
  obtain ⟨ys, e⟩ := h.isL _ hm
  rw [h.dk] at e
  cases e
def schD (s : Sch) : List Addr := s.flatMap fun p => p.1.d :: adL p.1
theorem tabs_gp {H : Hp} : ∀ {s : Sch}, (∀ p ∈ s, DescAt H p.1 p.2) → (∀ p ∈ s, TabSm p.2) → GpK H (schK s) (tabsG (s.map (·.2))) (schD s)
  | [], _, _ => .nil
  | p :: r, h, k => by
    have := tabs_gp (fun q hq => h q (List.mem_cons_of_mem _ hq)) (fun q hq => k q (List.mem_cons_of_mem _ hq))
    exact GpK.cons ((h p List.mem_cons_self).g (k p List.mem_cons_self)) this
theorem sch_gp {H : Hp} {S : Addr} {s : Sch} (hs : H S = some (.dK (schK s))) (hd : ∀ p ∈ s, DescAt H p.1 p.2) (nm : (schN s).Nodup) (k : ∀ p ∈ s, TabSm p.2) (l : s.length ≤ 100) (ne : ∀ p ∈ s, p.1.d ≠ S) : Gp H (.ref S) (schG s) (S :: schD s) := by
  refine .d hs (by unfold schK; rw [List.length_map]; omega) (sch_nd nm) (tabs_gp hd k) fun hm => ?_
  obtain ⟨p, hp, hb⟩ := List.mem_flatMap.mp hm
  rcases List.mem_cons.mp hb with e | hb
  · exact ne p hp e.symm
  · obtain ⟨xs, e⟩ := (hd p hp).isL _ hb
    rw [hs] at e
    cases e
theorem SchAt.g {H : Hp} {S t c : Addr} {s : Sch} (A : SchAt H S s t c) (k : ∀ p ∈ s, TabSm p.2) (l : s.length ≤ 100) : Gp H (.ref S) (schG s) (S :: schD s) := sch_gp A.sk A.ds A.nm k l A.tS.2.2.1
/-! ### is a column used, is a table referenced -/
def usedM (t : Tab) (n : Str) : Bool := t.ch.any (mentM n) || (decide (n ∈ t.un) || decide (n ∈ t.rf.map (·.1)))
def refdM (ts : List Tab) (n : Str) : Bool := ts.any fun t => t.rf.any fun r => decide (r.2 = n)
def spColumnNames : Sp := fun vs H Q _ => ∃ (d L : Addr) (cols : List Col), vs = [.ref d] ∧ DGet H d (.str "columns") (some (.ref L)) ∧ ColsAt H L cols ∧ cols.length ≤ 100 ∧ ∀ N H', H N = none → Same H H' → H' N = some (.lst ((colNs cols).map V.str)) → Q (.ref N) H'
def spCopyDesc : Sp := fun vs H Q _ => ∃ (a : Ads) (tab : Tab), vs = [.ref a.d] ∧ DescAt H a tab ∧ ∀ a' H', DescAt H' a' tab → Same H H' → H a'.d = none → (∀ b ∈ adL a', H b = none) → (adL a').Nodup → Q (.ref a'.d) H'
/-- a schema, made anew -/
structure NewSch (H H' : Hp) (S : Addr) (s : Sch) (ts : List Tab) : Prop where
  sk : H' S = some (.dK (schK s))
  ds : ∀ p ∈ s, DescAt H' p.1 p.2
  ts : s.map (·.2) = ts
  fS : H S = none
  fd : ∀ p ∈ s, H p.1.d = none ∧ p.1.d ≠ S ∧ ∀ b ∈ adL p.1, H b = none
  dn : (s.map fun p => p.1.d).Nodup
  ln : (schL s).Nodup
  se : Same H H'
def spCopySchema : Sp := fun vs H Q _ => ∃ (S : Addr) (s : Sch), vs = [.ref S] ∧ H S = some (.dK (schK s)) ∧ (∀ p ∈ s, DescAt H p.1 p.2) ∧ (schN s).Nodup ∧ s.length ≤ 100 ∧ ∀ S' s' H', NewSch H H' S' s' (s.map (·.2)) → Q (.ref S') H'
def spIsUsed : Sp := fun vs H Q _ => ∃ (a : Ads) (tab : Tab) (n : Str), vs = [.ref a.d, .str n] ∧ DescAt H a tab ∧ TabSm tab ∧ ∀ H', Same H H' → Q (.bl (usedM tab n)) H'
def spIsReferenced : Sp := fun vs H Q _ => ∃ (S : Addr) (s : Sch) (n : Str), vs = [.ref S, .str n] ∧ H S = some (.dK (schK s)) ∧ (∀ p ∈ s, DescAt H p.1 p.2) ∧ (schN s).Nodup ∧ (∀ p ∈ s, TabSm p.2) ∧ s.length ≤ 20 ∧ ∀ H', Same H H' → Q (.bl (refdM (s.map (·.2)) n)) H'
theorem sch_at {s : Sch} {i : Nat} {k : Key} {v : V} (h : (schK s)[i]? = some (k, v)) : ∃ p, s[i]? = some p ∧ k = Sum.inr p.2.n ∧ v = .ref p.1.d := by
  unfold schK at h
  rw [List.getElem?_map] at h
  cases e : s[i]? with
  | none => rw [e] at h; cases h
  | some p => rw [e] at h; cases h; exact ⟨p, rfl, rfl, rfl⟩
theorem sch_getF {H : Hp} {S : Addr} {s : Sch} {od : Obj} (h : H S = some (.frz od (.dK (schK s)))) (nm : (schN s).Nodup) {p : Ads × Tab} (hp : p ∈ s) : DGet H S (.str p.2.n) (some (.ref p.1.d)) :=
  .inl ⟨schK s, Sum.inr p.2.n, .inr ⟨od, h⟩, rfl, (sch_get nm hp).symm⟩
theorem DescAt.lock {H : Hp} {S : Addr} {a : Ads} {t : Tab} {kvs : List (Key × V)} {o : HO} (h : DescAt H a t) (hS : H S = some (.dK kvs)) (ne : a.d ≠ S) : DescAt (upd H S o) a t :=
  h.frame (KeepT.lock hS) (fun o z => by rw [upd_ne ne]; exact z) fun b hb o z => by
    have : b ≠ S := fun e => by
      obtain ⟨xs, g⟩ := h.isL _ hb
      rw [e, hS] at g; cases g
    rw [upd_ne this]; exact z
/-- a description does not stand where the schema stands -/
theorem desc_ne {H : Hp} {S : Addr} {s : Sch} (hs : H S = some (.dK (schK s))) (hd : ∀ p ∈ s, DescAt H p.1 p.2) : ∀ p ∈ s, p.1.d ≠ S := fun p hp e => by
  have D := hd p hp
  have h1 := D.dk
  rw [e, hs] at h1
  have h2 : schK s = descD p.1 := HO.dK.inj (Option.some.inj h1)
  have h3 : ((Sum.inr ("columns" : Str) : Key), V.ref p.1.c) ∈ schK s := by rw [h2]; simp [descD]
  obtain ⟨q, hq, eq⟩ := List.mem_map.mp h3
  have h4 : q.1.d = p.1.c := V.ref.inj (Prod.mk.inj eq).2
  obtain ⟨xs, g⟩ := D.isL p.1.c (by simp [adL])
  rw [← h4, (hd q hq).dk] at g
  cases g
theorem cond_flat {c : Cond} (h1 : c.length ≤ 20) (h2 : ∀ a ∈ c, a.length ≤ 20) : c.flatten.length ≤ 1000 := by
  have : ∀ (c : Cond), (∀ a ∈ c, a.length ≤ 20) → c.flatten.length ≤ 20 * c.length := by
    intro c
    induction c with
    | nil => intro _; simp
    | cons a r ih =>
      intro h
      have a1 := h a List.mem_cons_self
      have a2 := ih fun x hx => h x (List.mem_cons_of_mem _ hx)
      rw [List.flatten_cons, List.length_append, List.length_cons]
      omega
  have := this c h2
  omega
theorem take_map {α β : Type} (f : α → β) {l : List α} {i : Nat} {x : α} (h : l[i]? = some x) : (l.take (i + 1)).map f = (l.take i).map f ++ [f x] := by
  rw [List.take_add_one, h, List.map_append]; rfl
theorem take_map2 {α β γ : Type} (f : α → β) (g : β → γ) {l : List α} {i : Nat} {x : α} (h : l[i]? = some x) : ((l.take (i + 1)).map f).map g = ((l.take i).map f).map g ++ [g (f x)] := by
  rw [take_map f h, List.map_append]; rfl
theorem D_str_eq (a b : Str) : decide (V.str a = V.str b) = decide (a = b) := by
  by_cases h : a = b
  · rw [decide_eq_true h, decide_eq_true (congrArg V.str h)]
  · rw [decide_eq_false h, decide_eq_false (fun z => h (V.str.inj z))]
theorem DescAt.mono {H H' : Hp} {a : Ads} {t : Tab} (h : DescAt H a t) (e : Same H H') : DescAt H' a t := h.frame (KeepT.of e) (fun o => e _ _) (fun b _ o => e _ _)
theorem NewSch.newD {H H' : Hp} {S : Addr} {s : Sch} {ts : List Tab} (N : NewSch H H' S s ts) : ∀ a ∈ S :: schD s, H a = none := by
  intro a ha
  rcases List.mem_cons.mp ha with rfl | ha
  · exact N.fS
  · obtain ⟨p, hp, hb⟩ := List.mem_flatMap.mp ha
    obtain ⟨h1, _, h2⟩ := N.fd p hp
    rcases List.mem_cons.mp hb with rfl | hb
    · exact h1
    · exact h2 a hb
theorem NewSch.nm {H H' : Hp} {S : Addr} {s s0 : Sch} (N : NewSch H H' S s (s0.map (·.2))) (h : (schN s0).Nodup) : (schN s).Nodup := by
  have : schN s = schN s0 := by
    have e := congrArg (List.map fun t : Tab => t.n) N.ts
    rw [List.map_map, List.map_map] at e
    exact e
  rw [this]; exact h
theorem NewSch.mem {H H' : Hp} {S : Addr} {s s0 : Sch} (N : NewSch H H' S s (s0.map (·.2))) {p : Ads × Tab} (hp : p ∈ s) : ∃ q ∈ s0, q.2 = p.2 := by
  have : p.2 ∈ s0.map (·.2) := by rw [← N.ts]; exact List.mem_map.mpr ⟨p, hp, rfl⟩
  obtain ⟨q, h1, h2⟩ := List.mem_map.mp this
  exact ⟨q, h1, h2⟩
theorem NewSch.g {H H' : Hp} {S : Addr} {s s0 : Sch} (N : NewSch H H' S s (s0.map (·.2))) (nm : (schN s0).Nodup) (k : ∀ p ∈ s0, TabSm p.2) (l : s0.length ≤ 100) : Gp H' (.ref S) (schG s0) (S :: schD s) := by
  have e : schG s = schG s0 := by unfold schG; rw [N.ts]
  rw [← e]
  refine sch_gp N.sk N.ds (N.nm nm) (fun p hp => ?_) ?_ (fun p hp => (N.fd p hp).2.1)
  · obtain ⟨q, h1, h2⟩ := N.mem hp
    rw [← h2]; exact k q h1
  · have := congrArg List.length N.ts
    simp only [List.length_map] at this
    omega
theorem DescAt.isLn {H : Hp} {a : Ads} {t : Tab} (h : DescAt H a t) (k : TabSm t) : ∀ b ∈ adL a, ∃ xs, H b = some (.lst xs) ∧ xs.length ≤ 40 := by
  obtain ⟨h1, ⟨xs, h2, r2⟩, ⟨ys, h3, r3⟩, h4, ⟨zs, h5, r5⟩⟩ := h
  intro b hb
  simp only [adL, List.mem_cons, List.not_mem_nil, or_false] at hb
  rcases hb with rfl | rfl | rfl | rfl
  · exact ⟨_, h2, by rw [r2.length, List.length_map]; exact k.co⟩
  · exact ⟨_, h3, by rw [r3.length, List.length_map]; exact k.ch⟩
  · exact ⟨_, h4, by rw [List.length_map]; exact k.un⟩
  · exact ⟨_, h5, by rw [r5.length, List.length_map]; exact k.rf⟩
theorem desc_part {H : Hp} {a : Ads} (h : H a.d = some (.dK (descD a))) {i : Nat} {x : V} (e : [V.str "columns", V.str "checks", V.str "uniques", V.str "references"][i]? = some x) : ∃ b ∈ adL a, DGet H a.d x (some (.ref b)) := by
  match i, e with
  | 0, e => cases e; exact ⟨a.c, by simp [adL], by have g := DGet.k (k := (Sum.inr ("columns" : Str) : Key)) h; rw [dd_c] at g; exact g⟩
  | 1, e => cases e; exact ⟨a.k, by simp [adL], by have g := DGet.k (k := (Sum.inr ("checks" : Str) : Key)) h; rw [dd_k] at g; exact g⟩
  | 2, e => cases e; exact ⟨a.u, by simp [adL], by have g := DGet.k (k := (Sum.inr ("uniques" : Str) : Key)) h; rw [dd_u] at g; exact g⟩
  | 3, e => cases e; exact ⟨a.r, by simp [adL], by have g := DGet.k (k := (Sum.inr ("references" : Str) : Key)) h; rw [dd_r] at g; exact g⟩
  | n + 4, e => simp at e
theorem sch_getK {H : Hp} {S : Addr} {s : Sch} (h : H S = some (.dK (schK s))) (nm : (schN s).Nodup) {p : Ads × Tab} (hp : p ∈ s) : DGet H S (.str p.2.n) (some (.ref p.1.d)) := by
  have g := DGet.k (k := (Sum.inr p.2.n : Key)) h
  rw [sch_get nm hp] at g
  exact g
end Lt

set_option autoImplicit false
namespace Lt
open PySem PySem.Spec PyProof.Rows L2 TL
/-! ## sorted(d) of a dict of any length, its keys all ints or all texts -/
def txV : Value → Str
  | .str x _ => x
  | _ => ⟨#[]⟩
def ltTx (v u : Value) : Bool := decide (tl (txV v) < tl (txV u))
theorem swo_tx : SrtO.Swo ltTx where
  asym := fun x y h => decide_eq_false (List.lt_asymm (of_decide_eq_true h))
  tr := fun x y z h1 h2 => by
    have a := List.not_lt.mp (of_decide_eq_false h1)
    have b := List.not_lt.mp (of_decide_eq_false h2)
    exact decide_eq_false (List.not_lt.mpr (List.le_trans a b))
theorem tx_mem : ∀ {vs : List Value} {xs : List Str}, StrsAre vs xs → ∀ v ∈ vs, ∃ x t, v = Value.str x t
  | _, _, .nil, v, h => by cases h
  | _, _, .cons x t r, v, h => by
    rcases List.mem_cons.mp h with rfl | h
    · exact ⟨x, t, rfl⟩
    · exact tx_mem r v h
theorem tx_of : ∀ {vs : List Value}, (∀ v ∈ vs, ∃ x t, v = Value.str x t) → StrsAre vs (vs.map txV)
  | [], _ => .nil
  | v :: vs, h => by
    obtain ⟨x, t, rfl⟩ := h v List.mem_cons_self
    exact .cons x t (tx_of fun u hu => h u (List.mem_cons_of_mem _ hu))
theorem tx_back : ∀ {vs : List Value} {xs : List Str}, StrsAre vs xs → vs.map txV = xs
  | _, _, .nil => rfl
  | _, _, .cons x t r => congrArg (x :: ·) (tx_back r)
section
variable {prog : Program} {w : World} {A : Around} {s : Shared}
theorem tx_sortable {a : Addr} {vs : List Value} {xs : List Str} (hT : StrsAre vs xs) (h2 : 2 ≤ vs.length) : SrtO.SortableO prog w A s a vs ltTx := fun hq _ => by
  refine ⟨oneType', fun Q E hq => ?_, fun p q hp hq => ?_⟩
  · cases hT with
    | nil => exact absurd h2 (by decide)
    | cons x t r =>
      cases r with
      | nil => exact absurd h2 (by simp)
      | cons y u r => rw [keyKind_strs (.cons x t (.cons y u r))]; exact wpAny_pure hq
  · obtain ⟨x, t, ex⟩ := tx_mem hT _ hp
    obtain ⟨y, u, ey⟩ := tx_mem hT _ hq
    show wpAny _ _ (keyLt' oneType' p.1 q.1) (fun r s' => s' = _ ∧ r = ltTx p.1 q.1) _ _
    rw [ex, ey, keyLt'_oneType]
    exact oneLt_str ⟨rfl, rfl⟩
end
/-- the order of keys of one kind -/
def kLt : Key → Key → Bool
  | .inl a, .inl b => decide (a < b)
  | .inr a, .inr b => decide (tl a < tl b)
  | .inl _, .inr _ => true
  | .inr _, .inl _ => false
def SortedK (ks : List Key) : Prop := ks.Pairwise fun a b => kLt b a = false
/-- keys all ints or all texts -/
def OneKind (ks : List Key) : Prop := (∃ is : List Int, ks = is.map Sum.inl) ∨ ∃ xs : List Str, ks = xs.map Sum.inr
def rSortK : List V → Hp → VK → Prop := fun xs H Q => ∃ (a : Addr) (kvs : List (Key × V)), xs = [.ref a] ∧ Rd H a (.dK kvs) ∧ OneKind (kvs.map (·.1)) ∧
  ∀ (ys : List Key) (p : Addr), ys.Perm (kvs.map (·.1)) → SortedK ys → H p = none → Q (.ref p) (upd H p (.lst (ys.map kV)))
/-- what the sort's machine hands back of items that all are of one kind -/
theorem one_out {vs out : List Value} {ks : List Key} (hk : (∃ is : List Int, IntsAre vs is ∧ ks = is.map Sum.inl ∧ SrtO.Srtd SrtO.ltIv out ∧ SrtO.Stb SrtO.ltIv out vs) ∨ ∃ xs : List Str, StrsAre vs xs ∧ ks = xs.map Sum.inr ∧ SrtO.Srtd ltTx out ∧ SrtO.Stb ltTx out vs) :
    ∃ ys : List Key, Vals (ys.map kV) out ∧ ys.Perm ks ∧ SortedK ys := by
  rcases hk with ⟨is, hI, rfl, hs, hb⟩ | ⟨xs, hT, rfl, hs, hb⟩
  · obtain ⟨k1, k2, k3⟩ := SrtO.ints_out hI hs hb
    refine ⟨(out.map SrtO.iv).map Sum.inl, ?_, k2.map _, ?_⟩
    · have e : ((out.map SrtO.iv).map Sum.inl).map kV = (out.map SrtO.iv).map V.int := by rw [List.map_map]; rfl
      rw [e]; exact vals_of_ints k1
    · refine List.pairwise_map.mpr (k3.imp fun {x y} h => ?_)
      exact decide_eq_false (by omega)
  · have m : ∀ v ∈ out, ∃ x t, v = Value.str x t := fun v hv => tx_mem hT v (hb.perm.mem_iff.mp hv)
    have k1 := tx_of m
    refine ⟨(out.map txV).map Sum.inr, ?_, ?_, ?_⟩
    · have e : ((out.map txV).map Sum.inr).map kV = (out.map txV).map V.str := by rw [List.map_map]; rfl
      rw [e]; exact vals_of_strs k1
    · have q := hb.perm.map txV
      rw [tx_back hT] at q
      exact q.map _
    · refine List.pairwise_map.mpr (List.pairwise_map.mpr (hs.imp fun {x y} h => ?_))
      exact h
section
variable {X : Cx}
theorem call_sortedK (calm : X.calm = true) : CallR X (.builtin "sorted") rSortK := by
  rintro pins s σ H xs us Q I r ⟨a, kvs, rfl, hd, hone, q⟩
  obtain ⟨u, rfl, rx⟩ := vals1 r
  cases rx
  obtain ⟨z, lo, vs, rel, dd⟩ := dk_rd I.hok hd
  obtain ⟨age, stands⟩ := dd.dictAt
  have hlv : vs.length = kvs.length := rel.length.symm
  have h16 : vs.length ≤ sizeLine := by rw [hlv]; exact z
  refine Calls.call_function_entry kind_sorted plain_sorted entry_sorted (args_sorted1 _) ?_; unfold Builtin.«sorted»
  refine wpAny_bind (m := checkCount "sorted" 1 1 _) (wpAny_pure (wpAny_bind (PySem.W.kdu_collect (A := X.A.in1) (PySem.W.kdl_dict (knd := mixKind X.prog X.w) (kvs := vs) (ep := age) lo) (I.ok.hd calm) stands h16 fun hq tok got hk hgot => ?_)))
  have hal : got.toList.length = vs.length := by rw [Array.length_toList, hgot.1]
  have item : ∀ (j : Nat) (v : Value), got.toList[j]? = some v → ∃ k, (kvs.map (·.1))[j]? = some k ∧ keyIs k v = true := fun j v e => by
    obtain ⟨k, x, e1, e2⟩ := hgot.2 j v (by rw [← Array.getElem?_toList]; exact e)
    refine ⟨k, ?_, e2⟩
    rw [rel.keys, List.getElem?_map, e1]; rfl
  have J : Inv X pins σ H { s with heap := hq, toks := tok } := I.kept hk
  have atNew : (hq.push (seqObj "list" got.toList.toArray 0)).get? hq.objs.size = some (seqObj "list" got.toList.toArray 0) := Heap.get?_push_size _ rfl
  have done : ∀ (out : List Value) (ys : List Key), Vals (ys.map kV) out → ys.Perm (kvs.map (·.1)) → SortedK ys →
      EP X pins σ Q (.ref hq.objs.size) { s with heap := sortedHeap (hq.push (seqObj "list" got.toList.toArray 0)) hq.objs.size got.toList out.toArray, toks := tok } := fun out ys g1 g2 g3 => by
    have hlen : (ys.map kV).length ≤ sizeLine := by
      rw [List.length_map, g2.length_eq, List.length_map, ← hlv]; exact h16
    obtain ⟨e', he'⟩ := PyProof.Rows.sortedHeap_at (vs := got.toList) (out := out.toArray) atNew
    have old : ∀ b u, hq.get? b = some u → (sortedHeap (hq.push (seqObj "list" got.toList.toArray 0)) hq.objs.size got.toList out.toArray).get? b = some u := fun b u e => by
      have hb := Heap.lt_size e
      rw [PyProof.Rows.sortedHeap_old (Nat.ne_of_lt hb) (by rw [size_push']; exact Nat.lt_succ_of_lt hb), Heap.get?_push_of_some _ e]
    exact ⟨.ref hq.objs.size, upd H hq.objs.size (.lst (ys.map kV)), J.laid (t' := tok) old (Nat.le_refl _) ⟨hlen, out, e', g1, he'⟩, rfl, q ys _ g2 g3 (J.hok.fresh (Nat.le_refl _))⟩
  have hz : got.toList.length ≤ sizeLine := by rw [hal]; exact h16
  refine wpAny_bind (wpAny_newList ?_ hz)
  rcases hone with ⟨is, hks⟩ | ⟨ts, hks⟩
  · have hI : IntsAre got.toList is := ints_each (by rw [hal, hlv]; have := congrArg List.length hks; simpa using this) fun j v e => by
      obtain ⟨k, e3, e2⟩ := item j v e
      rw [hks, List.getElem?_map] at e3
      cases e4 : is[j]? with
      | none => rw [e4] at e3; cases e3
      | some y =>
        rw [e4] at e3
        cases e3
        rcases keyIs_shape e2 with ⟨i, t, ek, ev⟩ | ⟨x, t, ek, ev⟩ <;> cases ek
        exact ⟨y, t, rfl, ev⟩
    refine wpAny_bind (wpAny_holding (wpAny_call_entry slot_list_sort ⟨_, atNew, rfl⟩ entry_list_sort
      (SrtO.list_sort_ord (s := { s with heap := hq.push (seqObj "list" got.toList.toArray 0), toks := tok }) SrtO.swo_int atNew hz (fun h2 => SrtO.ints_sortable hI h2) fun out h1 h2 => ⟨_, rfl, ?_⟩) (PyProof.Rows.args_list_sort _)))
    obtain ⟨ys, g1, g2, g3⟩ := one_out (.inl ⟨is, hI, hks, h1, h2⟩)
    exact wpAny_pure ⟨_, rfl, done out ys g1 g2 g3⟩
  · have hT : StrsAre got.toList ts := strs_at (by rw [hal, hlv]; have := congrArg List.length hks; simpa using this) fun j v e => by
      obtain ⟨k, e3, e2⟩ := item j v e
      rw [hks, List.getElem?_map] at e3
      cases e4 : ts[j]? with
      | none => rw [e4] at e3; cases e3
      | some y =>
        rw [e4] at e3
        cases e3
        obtain ⟨t, ev⟩ := Value.isStrOf_shape (x := y) (v := v) e2
        exact ⟨y, t, rfl, ev⟩
    refine wpAny_bind (wpAny_holding (wpAny_call_entry slot_list_sort ⟨_, atNew, rfl⟩ entry_list_sort
      (SrtO.list_sort_ord (s := { s with heap := hq.push (seqObj "list" got.toList.toArray 0), toks := tok }) swo_tx atNew hz (fun h2 => tx_sortable hT h2) fun out h1 h2 => ⟨_, rfl, ?_⟩) (PyProof.Rows.args_list_sort _)))
    obtain ⟨ys, g1, g2, g3⟩ := one_out (.inr ⟨ts, hT, hks, h1, h2⟩)
    exact wpAny_pure ⟨_, rfl, done out ys g1 g2 g3⟩
end
end Lt

set_option autoImplicit false
namespace Lt
open PySem L2 TL
open C8 (pss_cut)
/-! ## the one order of keys -/
def kLe (a b : Key) : Bool := !kLt b a
theorem kLe_total (a b : Key) : (kLe a b || kLe b a) = true := by
  unfold kLe kLt
  rcases a with a | a <;> rcases b with b | b
  · by_cases h : b < a
    · simp [show ¬ a < b by omega]
    · simp [h]
  · rfl
  · rfl
  · by_cases h : tl b < tl a
    · simp [List.lt_asymm h]
    · simp [h]
theorem kLe_trans (a b c : Key) : kLe a b = true → kLe b c = true → kLe a c = true := by
  unfold kLe kLt
  rcases a with a | a <;> rcases b with b | b <;> rcases c with c | c <;> simp
  · omega
  · intro h1 h2
    exact List.le_trans h1 h2
theorem kLe_anti (a b : Key) : kLe a b = true → kLe b a = true → a = b := by
  unfold kLe kLt
  rcases a with a | a <;> rcases b with b | b <;> simp
  · omega
  · intro h1 h2
    exact ext_tl (List.le_antisymm h1 h2)
def sortK (ks : List Key) : List Key := ks.mergeSort kLe
theorem sortK_perm (ks : List Key) : (sortK ks).Perm ks := List.mergeSort_perm ks kLe
theorem sortK_srt (ks : List Key) : SortedK (sortK ks) := (List.pairwise_mergeSort kLe_trans kLe_total ks).imp fun {a b} h => by
  unfold kLe at h
  simpa using h
theorem sortK_eq {ys ks : List Key} (p : ys.Perm ks) (s : SortedK ys) : ys = sortK ks := by
  refine List.Perm.eq_of_pairwise (le := fun a b => kLt b a = false) (fun a b _ _ h1 h2 => kLe_anti a b ?_ ?_) s (sortK_srt ks) (p.trans (sortK_perm ks).symm)
  · unfold kLe; rw [h1]; rfl
  · unfold kLe; rw [h2]; rfl
theorem sortK_len (ks : List Key) : (sortK ks).length = ks.length := (sortK_perm ks).length_eq
theorem sortK_mem {ks : List Key} {k : Key} : k ∈ sortK ks ↔ k ∈ ks := (sortK_perm ks).mem_iff
theorem sortK_nd {ks : List Key} (h : ks.Nodup) : (sortK ks).Nodup := (sortK_perm ks).nodup_iff.mpr h
/-! ## states -/
structure Ro where
  k : Key
  a : Addr
  vs : List V
def roK (rs : List Ro) : List (Key × V) := rs.map fun r => (r.k, V.ref r.a)
def roN (rs : List Ro) : List Key := rs.map fun r => r.k
theorem roK_keys (rs : List Ro) : (roK rs).map (·.1) = roN rs := by unfold roK roN; rw [List.map_map]; rfl
/-- the rows rs stand in the dict at d -/
structure TAt (H : Hp) (d : Addr) (rs : List Ro) : Prop where
  dk : H d = some (.dK (roK rs))
  rt : ∀ r ∈ rs, H r.a = some (.tup r.vs)
  nd : (roN rs).Nodup
theorem TAt.mono {H H' : Hp} {d : Addr} {rs : List Ro} (h : TAt H d rs) (kt : KeepT H H') (e : ∀ o, H d = some o → H' d = some o) : TAt H' d rs := ⟨e _ h.dk, fun r hr => kt _ _ (h.rt r hr), h.nd⟩
theorem ro_one {rs : List Ro} (nd : (roN rs).Nodup) {r q : Ro} (hr : r ∈ rs) (hq : q ∈ rs) (e : r.k = q.k) : r = q := by
  obtain ⟨i, hi, ei⟩ := List.getElem_of_mem hr
  obtain ⟨j, hj, ej⟩ := List.getElem_of_mem hq
  have a1 : (roN rs)[i]? = some r.k := by unfold roN; rw [List.getElem?_map, List.getElem?_eq_getElem hi, ei]; rfl
  have a2 : (roN rs)[j]? = some r.k := by unfold roN; rw [List.getElem?_map, List.getElem?_eq_getElem hj, ej]; exact congrArg some e.symm
  have := nd_ix nd a1 a2
  subst this
  rw [← ei, ← ej]
theorem ro_get {rs : List Ro} (nd : (roN rs).Nodup) {r : Ro} (hr : r ∈ rs) : valV (roK rs) r.k = some (.ref r.a) := by
  obtain ⟨i, hi, e⟩ := List.getElem_of_mem hr
  refine valV_at (i := i) (by rw [roK_keys]; exact nd) ?_
  unfold roK
  rw [List.getElem?_map, List.getElem?_eq_getElem hi, e]
  rfl
theorem ro_none {rs : List Ro} {k : Key} (h : k ∉ roN rs) : valV (roK rs) k = none := by
  cases e : valV (roK rs) k with
  | none => rfl
  | some v =>
    have := valV_in e
    rw [roK_keys] at this
    exact absurd this h
theorem ro_mem {rs : List Ro} {k : Key} (h : k ∈ roN rs) : ∃ r ∈ rs, r.k = k := by
  obtain ⟨r, h1, h2⟩ := List.mem_map.mp h
  exact ⟨r, h1, h2⟩
theorem TAt.get {H : Hp} {d : Addr} {rs : List Ro} (h : TAt H d rs) {r : Ro} (hr : r ∈ rs) : DGet H d (kV r.k) (some (.ref r.a)) := by
  have g := DGet.k (k := r.k) h.dk
  rw [ro_get h.nd hr] at g
  exact g
/-- rs with the row r put in -/
def putRo (rs : List Ro) (r : Ro) : List Ro := if (rs.any fun q => decide (q.k = r.k)) = true then rs.map (fun q => if q.k = r.k then ⟨q.k, r.a, r.vs⟩ else q) else rs ++ [r]
theorem putRo_K (rs : List Ro) (r : Ro) : putK (roK rs) r.k (.ref r.a) = roK (putRo rs r) := by
  unfold putK putRo roK
  rw [List.any_map]
  have e : ((fun kv : Key × V => decide (kv.1 = r.k)) ∘ fun r => (r.k, V.ref r.a)) = fun q : Ro => decide (q.k = r.k) := rfl
  rw [e]
  split
  · rw [List.map_map, List.map_map]
    refine List.map_congr_left fun q _ => ?_
    show (if q.k = r.k then (q.k, V.ref r.a) else (q.k, V.ref q.a)) = _
    show _ = ((if q.k = r.k then (⟨q.k, r.a, r.vs⟩ : Ro) else q).k, V.ref (if q.k = r.k then (⟨q.k, r.a, r.vs⟩ : Ro) else q).a)
    split <;> rfl
  · rw [List.map_append]; rfl
theorem putRo_N (rs : List Ro) (r : Ro) : (roN (putRo rs r) = roN rs ∧ r.k ∈ roN rs) ∨ (roN (putRo rs r) = roN rs ++ [r.k] ∧ r.k ∉ roN rs) := by
  unfold putRo roN
  by_cases h : (rs.any fun q => decide (q.k = r.k)) = true
  · have h2 : r.k ∈ rs.map fun r => r.k := by
      obtain ⟨q, h1, h2⟩ := List.any_eq_true.mp h
      exact List.mem_map.mpr ⟨q, h1, of_decide_eq_true h2⟩
    rw [if_pos h]
    refine .inl ⟨?_, h2⟩
    rw [List.map_map]
    refine List.map_congr_left fun q _ => ?_
    show (if q.k = r.k then (⟨q.k, r.a, r.vs⟩ : Ro) else q).k = q.k
    split <;> rfl
  · have h2 : ¬ r.k ∈ rs.map fun r => r.k := fun z => by
      obtain ⟨q, h1, h2⟩ := List.mem_map.mp z
      exact h (List.any_eq_true.mpr ⟨q, h1, decide_eq_true h2⟩)
    rw [if_neg h]
    exact .inr ⟨by rw [List.map_append]; rfl, h2⟩
theorem putRo_nd {rs : List Ro} (nd : (roN rs).Nodup) (r : Ro) : (roN (putRo rs r)).Nodup := by
  rcases putRo_N rs r with ⟨e, _⟩ | ⟨e, h⟩ <;> rw [e]
  · exact nd
  · refine List.nodup_append.mpr ⟨nd, by simp, fun x hx y hy => ?_⟩
    have : y = r.k := by simpa using hy
    subst this
    rintro rfl
    exact h hx
theorem putRo_len (rs : List Ro) (r : Ro) : (putRo rs r).length ≤ rs.length + 1 := by
  unfold putRo
  split
  · rw [List.length_map]; omega
  · rw [List.length_append]; simp
/-- a row put in is the one, or one of before -/
theorem putRo_mem {rs : List Ro} {r q : Ro} (h : q ∈ putRo rs r) : (q.k = r.k ∧ q.a = r.a ∧ q.vs = r.vs) ∨ q ∈ rs := by
  unfold putRo at h
  split at h
  · obtain ⟨x, h1, h2⟩ := List.mem_map.mp h
    split at h2
    · rename_i e
      rw [← h2]
      exact .inl ⟨e, rfl, rfl⟩
    · rw [← h2]; exact .inr h1
  · rcases List.mem_append.mp h with h | h
    · exact .inr h
    · rw [List.mem_singleton.mp h]; exact .inl ⟨rfl, rfl, rfl⟩
/-- the rows of a table fit its columns -/
structure RowFit (cols : List Col) (r : Ro) : Prop where
  k : ∀ c, cols[0]? = some c → ValOf c.k false (kV r.k)
  r : RestOf cols r.vs
theorem one_kind {cols : List Col} {rs : List Ro} {c : Col} (hc : cols[0]? = some c) (h : ∀ r ∈ rs, RowFit cols r) : OneKind (roN rs) := by
  by_cases e : c.k = ("int" : Str)
  · refine .inl ⟨(roN rs).map (fun k => match k with | .inl i => i | .inr _ => 0), ?_⟩
    rw [List.map_map]
    refine (List.map_congr_left (g := id) fun k hk => ?_).trans (List.map_id _) |>.symm
    obtain ⟨r, hr, rfl⟩ := ro_mem hk
    have v := (h r hr).k c hc
    cases hk2 : r.k with
    | inl i => rfl
    | inr x =>
      rw [hk2] at v
      rcases v with ⟨z, _⟩ | ⟨_, i, z, _⟩ | ⟨z, _⟩
      · cases z
      · cases z
      · exact absurd e z
  · refine .inr ⟨(roN rs).map (fun k => match k with | .inl i => "" | .inr x => x), ?_⟩
    rw [List.map_map]
    refine (List.map_congr_left (g := id) fun k hk => ?_).trans (List.map_id _) |>.symm
    obtain ⟨r, hr, rfl⟩ := ro_mem hk
    have v := (h r hr).k c hc
    cases hk2 : r.k with
    | inr x => rfl
    | inl i =>
      rw [hk2] at v
      rcases v with ⟨z, _⟩ | ⟨z, _⟩ | ⟨_, y, z, _⟩
      · cases z
      · exact absurd z e
      · cases z
/-! ### rows as tuples -/
def restAt (rs : List Ro) (k : Key) : List V := match rs.find? (fun r => decide (r.k = k)) with | some r => r.vs | none => []
def rowsM (rs : List Ro) : List (List V) := (sortK (roN rs)).map fun k => kV k :: restAt rs k
theorem restAt_eq {rs : List Ro} (nd : (roN rs).Nodup) {r : Ro} (hr : r ∈ rs) : restAt rs r.k = r.vs := by
  unfold restAt
  cases e : rs.find? (fun q => decide (q.k = r.k)) with
  | none =>
    have := List.find?_eq_none.mp e r hr
    simp at this
  | some q =>
    have h1 := List.mem_of_find?_eq_some e
    have h2 : q.k = r.k := by simpa using List.find?_some e
    rw [ro_one nd h1 hr h2]
theorem rowsM_len (rs : List Ro) : (rowsM rs).length = rs.length := by unfold rowsM; rw [List.length_map, sortK_len]; unfold roN; rw [List.length_map]
theorem rowsM_mem {rs : List Ro} (nd : (roN rs).Nodup) {x : List V} (h : x ∈ rowsM rs) : ∃ r ∈ rs, x = kV r.k :: r.vs := by
  obtain ⟨k, hk, rfl⟩ := List.mem_map.mp h
  obtain ⟨r, hr, rfl⟩ := ro_mem (sortK_mem.mp hk)
  exact ⟨r, hr, by rw [restAt_eq nd hr]⟩
/-- a list of tuples stands at L -/
def RowsAt (H : Hp) (L : Addr) (rws : List (List V)) : Prop := ∃ as : List Addr, H L = some (.lst (as.map V.ref)) ∧ as.length = rws.length ∧ ∀ (i : Nat) (a : Addr) (r : List V), as[i]? = some a → rws[i]? = some r → H a = some (.tup r)
theorem RowsAt.mono {H H' : Hp} {L : Addr} {rws : List (List V)} (h : RowsAt H L rws) (kt : KeepT H H') (e : ∀ o, H L = some o → H' L = some o) : RowsAt H' L rws := by
  obtain ⟨as, h1, h2, h3⟩ := h
  exact ⟨as, e _ h1, h2, fun i a r ha hr => kt _ _ (h3 i a r ha hr)⟩
theorem RowsAt.same {H H' : Hp} {L : Addr} {rws : List (List V)} (h : RowsAt H L rws) (e : Same H H') : RowsAt H' L rws := h.mono (KeepT.of e) fun o => e _ _
theorem RowsAt.get {H : Hp} {L : Addr} {rws : List (List V)} (h : RowsAt H L rws) : ∃ xs, H L = some (.lst xs) ∧ xs.length = rws.length ∧ ∀ (i : Nat) (x : V), xs[i]? = some x → ∃ (a : Addr) (r : List V), x = .ref a ∧ rws[i]? = some r ∧ H a = some (.tup r) := by
  obtain ⟨as, h1, h2, h3⟩ := h
  refine ⟨_, h1, by rw [List.length_map]; exact h2, fun i x hx => ?_⟩
  rw [List.getElem?_map] at hx
  cases e : as[i]? with
  | none => rw [e] at hx; cases hx
  | some a =>
    rw [e] at hx
    cases hx
    have hi := (List.getElem?_eq_some_iff.mp e).1
    have er : rws[i]? = some rws[i] := List.getElem?_eq_getElem (by omega)
    exact ⟨a, rws[i], rfl, er, h3 i a _ e er⟩
/-- the state of a table, by its name -/
structure TS where
  n : Str
  d : Addr
  rs : List Ro
def stK (st : List TS) : List (Key × V) := st.map fun p => ((Sum.inr p.n : Key), V.ref p.d)
def stN (st : List TS) : List Str := st.map fun p => p.n
theorem st_keys (st : List TS) : (stK st).map (·.1) = (stN st).map Sum.inr := by unfold stK stN; rw [List.map_map, List.map_map]; rfl
structure StAt (H : Hp) (T : Addr) (st : List TS) : Prop where
  sk : H T = some (.dK (stK st))
  ds : ∀ p ∈ st, TAt H p.d p.rs
  nm : (stN st).Nodup
theorem StAt.mono {H H' : Hp} {T : Addr} {st : List TS} (h : StAt H T st) (e : Same H H') : StAt H' T st := ⟨e _ _ h.sk, fun p hp => (h.ds p hp).mono (KeepT.of e) fun o => e _ _, h.nm⟩
theorem st_nd {st : List TS} (h : (stN st).Nodup) : ((stK st).map (·.1)).Nodup := by
  rw [st_keys]
  exact List.Pairwise.map _ (fun a b e z => e (Sum.inr.inj z)) h
theorem st_get {st : List TS} (h : (stN st).Nodup) {p : TS} (hp : p ∈ st) : valV (stK st) (Sum.inr p.n : Key) = some (.ref p.d) := by
  obtain ⟨i, hi, e⟩ := List.getElem_of_mem hp
  refine valV_at (i := i) (st_nd h) ?_
  unfold stK
  rw [List.getElem?_map, List.getElem?_eq_getElem hi, e]
  rfl
theorem StAt.get {H : Hp} {T : Addr} {st : List TS} (h : StAt H T st) {p : TS} (hp : p ∈ st) : DGet H T (.str p.n) (some (.ref p.d)) := by
  have g := DGet.k (k := (Sum.inr p.n : Key)) h.sk
  rw [st_get h.nm hp] at g
  exact g
theorem st_in {st : List TS} {n : Str} (h : n ∈ stN st) : ∃ p ∈ st, p.n = n := by
  obtain ⟨p, h1, h2⟩ := List.mem_map.mp h
  exact ⟨p, h1, h2⟩
theorem st_one {st : List TS} (h : (stN st).Nodup) {p q : TS} (hp : p ∈ st) (hq : q ∈ st) (e : p.n = q.n) : p = q := by
  obtain ⟨i, hi, ei⟩ := List.getElem_of_mem hp
  obtain ⟨j, hj, ej⟩ := List.getElem_of_mem hq
  have a1 : (stN st)[i]? = some p.n := by unfold stN; rw [List.getElem?_map, List.getElem?_eq_getElem hi, ei]; rfl
  have a2 : (stN st)[j]? = some p.n := by unfold stN; rw [List.getElem?_map, List.getElem?_eq_getElem hj, ej]; exact congrArg some e.symm
  have := nd_ix h a1 a2
  subst this
  rw [← ei, ← ej]
/-! ### a state as data -/
def rowG (vs : List V) : G := .t (vs.map G.s)
def tabStG (rs : List Ro) : G := .d (rs.map fun r => (r.k, rowG r.vs))
def stG (st : List TS) : G := .d (st.map fun p => ((Sum.inr p.n : Key), tabStG p.rs))
theorem scals_L {H : Hp} : ∀ {xs : List V}, (∀ v ∈ xs, isScal v = true) → GpL H xs (xs.map G.s) []
  | [], _ => .nil
  | x :: r, h => GpL.cons (D := []) (E := []) (.s (h x List.mem_cons_self)) (scals_L fun v hv => h v (List.mem_cons_of_mem _ hv))
theorem rows_gp {H : Hp} : ∀ {rs : List Ro}, (∀ r ∈ rs, H r.a = some (.tup r.vs)) → (∀ r ∈ rs, r.vs.length ≤ 100 ∧ ∀ v ∈ r.vs, isScal v = true) → GpK H (roK rs) (rs.map fun r => (r.k, rowG r.vs)) []
  | [], _, _ => .nil
  | r :: rs, h, k => by
    have := rows_gp (fun q hq => h q (List.mem_cons_of_mem _ hq)) (fun q hq => k q (List.mem_cons_of_mem _ hq))
    have k1 := k r List.mem_cons_self
    exact GpK.cons (D := []) (E := []) (.t (h r List.mem_cons_self) (by omega) (scals_L k1.2)) this
theorem RestOf.scal {cols : List Col} {vs : List V} (h : RestOf cols vs) : ∀ v ∈ vs, isScal v = true := fun v hv => by
  obtain ⟨i, hi, e⟩ := List.getElem_of_mem hv
  have := h.1
  exact (h.2 i cols[i + 1] v (List.getElem?_eq_getElem (by omega)) (by rw [List.getElem?_eq_getElem hi, e])).scal
/-- the rows of a table: few, and each fits -/
structure TabFit (cols : List Col) (rs : List Ro) : Prop where
  l : rs.length ≤ 200
  f : ∀ r ∈ rs, RowFit cols r
theorem tabst_gp {H : Hp} {d : Addr} {rs : List Ro} {cols : List Col} (h : TAt H d rs) (f : TabFit cols rs) (hc : cols.length ≤ 50) : Gp H (.ref d) (tabStG rs) [d] := by
  have := f.l
  refine .d h.dk (by unfold roK; rw [List.length_map]; omega) (by rw [roK_keys]; exact h.nd) (rows_gp h.rt fun r hr => ?_) (by intro z; cases z)
  have k := (f.f r hr).r
  have := k.1
  exact ⟨by omega, k.scal⟩
theorem tabst_dep (rs : List Ro) : (tabStG rs).dep ≤ 2 := by
  have : depK (rs.map fun r => (r.k, rowG r.vs)) ≤ 1 := depK_le fun p hp => by
    obtain ⟨r, _, rfl⟩ := List.mem_map.mp hp
    have : depL (r.vs.map G.s) ≤ 0 := depL_le fun g hg => by
      obtain ⟨v, _, rfl⟩ := List.mem_map.mp hg
      exact Nat.le_refl 0
    simp only [rowG, G.dep]; omega
  simp only [tabStG, G.dep]; omega
theorem st_dep (st : List TS) : (stG st).dep ≤ 3 := by
  have : depK (st.map fun p => ((Sum.inr p.n : Key), tabStG p.rs)) ≤ 2 := depK_le fun p hp => by
    obtain ⟨t, _, rfl⟩ := List.mem_map.mp hp
    exact tabst_dep _
  simp only [stG, G.dep]; omega
theorem sts_gp {H : Hp} : ∀ {st : List TS}, (∀ p ∈ st, TAt H p.d p.rs) → (∀ p ∈ st, ∃ cols : List Col, cols.length ≤ 50 ∧ TabFit cols p.rs) → GpK H (stK st) (st.map fun p => ((Sum.inr p.n : Key), tabStG p.rs)) (st.map fun p => p.d)
  | [], _, _ => .nil
  | p :: r, h, k => by
    have q := sts_gp (fun q hq => h q (List.mem_cons_of_mem _ hq)) (fun q hq => k q (List.mem_cons_of_mem _ hq))
    obtain ⟨cols, h1, h2⟩ := k p List.mem_cons_self
    exact GpK.cons (D := [p.d]) (tabst_gp (h p List.mem_cons_self) h2 h1) q
theorem StAt.g {H : Hp} {T : Addr} {st : List TS} (A : StAt H T st) (k : ∀ p ∈ st, ∃ cols : List Col, cols.length ≤ 50 ∧ TabFit cols p.rs) (l : st.length ≤ 100) (ne : ∀ p ∈ st, p.d ≠ T) : Gp H (.ref T) (stG st) (T :: st.map fun p => p.d) := by
  refine .d A.sk (by unfold stK; rw [List.length_map]; omega) (st_nd A.nm) (sts_gp A.ds k) fun hm => ?_
  obtain ⟨p, hp, e⟩ := List.mem_map.mp hm
  exact ne p hp e
end Lt

set_option autoImplicit false
namespace Lt
open PySem L2 TL
open C8 (pss_cut)
theorem alike_scal {v w : V} (h : Alike v w) : scal v w = true := by rcases h with ⟨a, b, rfl, rfl⟩ | ⟨a, b, rfl, rfl⟩ <;> rfl
def spCompares : Sp := fun vs H Q _ => ∃ v op w, vs = [v, .str op, w] ∧ Alike v w ∧ Q (.bl (cmpM v op w)) H
def spClauseH (K : PySem.W.Frag) : Sp := fun vs H Q _ => ∃ (a n r : Addr) (cl : Cl) (names : List Str) (row : List V), vs = [.ref a, .ref n, .ref r] ∧ SqT K H a [.str cl.n, .str cl.op, cl.v] ∧ SqL K H n (names.map V.str) ∧ SqT K H r row ∧ row.length = names.length ∧
  isScal (at_ names row cl.n) = true ∧ ClFit names row cl ∧ Q (.bl (clauseM names row cl)) H
structure Ask (H : Hp) (c n r : Addr) (cond : Cond) (names : List Str) (row : List V) : Prop where
  cn : Tp H (.ref c) (condD cond)
  nm : H n = some (.lst (names.map V.str))
  rw : H r = some (.tup row)
  ln : row.length = names.length
  sc : ∀ v ∈ row, isScal v = true
  ft : ∀ a ∈ cond, ∀ cl ∈ a, ClFit names row cl
  sm : ∀ a ∈ cond, a.length ≤ 100
def spHolds : Sp := fun vs H Q _ => ∃ (c n r : Addr) (cond : Cond) (names : List Str) (row : List V), vs = [.ref c, .ref n, .ref r] ∧ Ask H c n r cond names row ∧ ∀ H', Same H H' → Q (.bl (holdsM names row cond)) H'
theorem Ask.mono {H H' : Hp} {c n r : Addr} {cond : Cond} {names : List Str} {row : List V} (A : Ask H c n r cond names row) (s : Same H H') : Ask H' c n r cond names row :=
  ⟨A.cn.mono (KeepT.of s), s _ _ A.nm, s _ _ A.rw, A.ln, A.sc, A.ft, A.sm⟩
theorem at_scal {names : List Str} {row : List V} {n : Str} (h : ∀ v ∈ row, isScal v = true) : isScal (at_ names row n) = true := by
  unfold at_
  rw [List.getD_eq_getElem?_getD]
  cases e : row[names.idxOf n]? with
  | none => rfl
  | some v => exact h v (List.mem_of_getElem? e)
theorem all_take {α : Type} {f : α → Bool} {xs : List α} {i : Nat} {x : α} (e : xs[i]? = some x) : (xs.take (i + 1)).all f = ((xs.take i).all f && f x) := by
  rw [List.take_add_one, e, List.all_append]; simp
theorem any_take {α : Type} {f : α → Bool} {xs : List α} {i : Nat} {x : α} (e : xs[i]? = some x) : (xs.take (i + 1)).any f = ((xs.take i).any f || f x) := by
  rw [List.take_add_one, e, List.any_append]; simp
def spNear : Sp := fun vs H Q _ => ∃ (t tc : Addr) (cs : List Int) (c n r : Addr) (cond : Cond) (names : List Str) (row : List V), vs = [.ref t, .ref c, .ref n, .ref r] ∧ TapeAt H t tc cs ∧ Ask H c n r cond names row ∧ cond.length ≤ 100 ∧
  ∀ p cond' H', Tp H' (.ref p) (condD cond') → (∀ a ∈ cond', ∀ cl ∈ a, ClFit names row cl) → (∀ a ∈ cond', a.length ≤ 100) → TapeAt H' t tc cs → SameX t H H' → Q (.ref p) H'

/-! ## faults -/
def headV (r : List V) : V := r.headD .non
def badC (tab : Tab) (r : List V) : Bool := !(tab.ch.all (holdsM (colNs tab.cols) r))
def clash (ns : List Str) (x y : List V) (n : Str) : Bool := !decide (at_ ns y n = .non) && decide (at_ ns x n = at_ ns y n)
def badU (tab : Tab) (earlier : List (List V)) (r : List V) : Bool := tab.un.any fun n => earlier.any fun x => clash (colNs tab.cols) x r n
def badR (ks : Str → List Key) (tab : Tab) (r : List V) : Bool := tab.rf.any fun p => !decide (at_ (colNs tab.cols) r p.1 = .non) && !((ks p.2).any fun k => decide (kV k = at_ (colNs tab.cols) r p.1))
def keysF (rws : List (List V)) : List V := (rws.drop 60).map headV
def keysC (tab : Tab) (rws : List (List V)) : List V := (rws.filter (badC tab)).map headV
def keysU (tab : Tab) (rws : List (List V)) : List V := ((List.range rws.length).filter fun k => badU tab (rws.take k) (rws.getD k [])).map fun k => headV (rws.getD k [])
def keysR (ks : Str → List Key) (tab : Tab) (rws : List (List V)) : List V := (rws.filter (badR ks tab)).map headV
def faultT (ks : Str → List Key) (tab : Tab) (rws : List (List V)) : Option (Str × V) :=
  match keysF rws with
  | k :: _ => some ("full", k)
  | [] => match keysC tab rws with
    | k :: _ => some ("check", k)
    | [] => match keysU tab rws with
      | k :: _ => some ("unique", k)
      | [] => match keysR ks tab rws with
        | k :: _ => some ("reference", k)
        | [] => none
/-- rows that fit the columns -/
structure RowsFit (cols : List Col) (rws : List (List V)) : Prop where
  l : rws.length ≤ 200
  n : ∀ r ∈ rws, r.length = cols.length
  v : ∀ r ∈ rws, ∀ (i : Nat) (col : Col) (v : V), cols[i]? = some col → r[i]? = some v → ValOf col.k col.b v
theorem RowsFit.scal {cols : List Col} {rws : List (List V)} (h : RowsFit cols rws) {r : List V} (hr : r ∈ rws) : ∀ v ∈ r, isScal v = true := fun v hv => by
  obtain ⟨i, hi, e⟩ := List.getElem_of_mem hv
  have := h.n r hr
  exact (h.v r hr i cols[i] v (List.getElem?_eq_getElem (by omega)) (by rw [List.getElem?_eq_getElem hi, e])).scal
theorem rowsM_fit {cols : List Col} {rs : List Ro} (nd : (roN rs).Nodup) (f : TabFit cols rs) (hd : ∀ c, cols[0]? = some c → c.b = false) : RowsFit cols (rowsM rs) := by
  refine ⟨by rw [rowsM_len]; exact f.l, fun x hx => ?_, fun x hx i col v hc hv => ?_⟩
  · obtain ⟨r, hr, rfl⟩ := rowsM_mem nd hx
    have := (f.f r hr).r.1
    rw [List.length_cons]; omega
  · obtain ⟨r, hr, rfl⟩ := rowsM_mem nd hx
    match i, hc, hv with
    | 0, hc, hv =>
      have hv' : kV r.k = v := by simpa using hv
      rw [← hv', hd col hc]
      exact (f.f r hr).k col hc
    | i + 1, hc, hv => exact (f.f r hr).r.2 i col v hc (by simpa using hv)
theorem RowsFit.ne {cols : List Col} {rws : List (List V)} (h : RowsFit cols rws) (l0 : 1 ≤ cols.length) {r : List V} (hr : r ∈ rws) : ∃ v vs, r = v :: vs := by
  cases r with
  | nil => have := h.n _ hr; simp at this; omega
  | cons v vs => exact ⟨v, vs, rfl⟩
def spRows : Sp := fun vs H Q _ => ∃ (T : Addr) (n : Str) (d : Addr) (rs : List Ro), vs = [.ref T, .str n] ∧ DGet H T (.str n) (some (.ref d)) ∧ TAt H d rs ∧ OneKind (roN rs) ∧ (∀ r ∈ rs, r.vs.length ≤ 50) ∧ rs.length ≤ 200 ∧ ∀ L H', RowsAt H' L (rowsM rs) → Same H H' → H L = none → Q (.ref L) H'
def spSortedRows : Sp := fun vs H Q _ => ∃ (d : Addr) (rs : List Ro), vs = [.ref d] ∧ TAt H d rs ∧ OneKind (roN rs) ∧ (∀ r ∈ rs, r.vs.length ≤ 50) ∧ rs.length ≤ 200 ∧ ∀ L H', RowsAt H' L (rowsM rs) → Same H H' → H L = none → Q (.ref L) H'
end Lt

set_option autoImplicit false
namespace Lt
open PySem L2 TL
open C8 (pss_cut)
section
variable {α : Type} [DecidableEq α]
theorem valV_isSome : ∀ {kvs : List (α × V)} {k : α}, (valV kvs k).isSome = true ↔ k ∈ kvs.map (·.1)
  | [], k => by simp [valV]
  | (k0, v0) :: r, k => by
    rw [List.map_cons, List.mem_cons]
    by_cases h : k0 = k
    · rw [valV_pos h]; simp [h]
    · rw [valV_neg h, valV_isSome]
      exact ⟨.inr, fun z => z.resolve_left fun e => h e.symm⟩
theorem putK_mem {kvs : List (α × V)} {k k' : α} {v : V} : k' ∈ (putK kvs k v).map (·.1) ↔ k' = k ∨ k' ∈ kvs.map (·.1) := by
  unfold putK
  split
  · rename_i h
    obtain ⟨p, h1, h2⟩ := List.any_eq_true.mp h
    have hk : k ∈ kvs.map (·.1) := List.mem_map.mpr ⟨p, h1, of_decide_eq_true h2⟩
    have e : (kvs.map fun kv => if kv.1 = k then (kv.1, v) else kv).map (·.1) = kvs.map (·.1) := by
      rw [List.map_map]
      refine List.map_congr_left fun q _ => ?_
      show (if q.1 = k then (q.1, v) else q).1 = q.1
      split <;> rfl
    rw [e]
    exact ⟨.inr, fun z => z.elim (fun e => e ▸ hk) id⟩
  · rw [List.map_append, List.mem_append]
    simp only [List.map_cons, List.map_nil, List.mem_singleton]
    exact ⟨fun z => z.elim .inr .inl, fun z => z.elim .inr .inl⟩
end
def vKey : V → Key
  | .int i => .inl i
  | .str x => .inr x
  | _ => .inl 0
theorem kV_vKey {k : Str} {b : Bool} {v : V} (h : ValOf k b v) (n : v ≠ .non) : kV (vKey v) = v := by
  rcases h with ⟨_, rfl⟩ | ⟨_, i, rfl, _⟩ | ⟨_, z, rfl, _⟩
  · exact absurd rfl n
  · rfl
  · rfl
/-- what the uniques say of a row: its pairs of place and value -/
def givenM (tab : Tab) (r : List V) : List (List Key) := (tab.un.filter fun n => !decide (at_ (colNs tab.cols) r n = .non)).map fun n => [Sum.inl (((colNs tab.cols).idxOf n : Nat) : Int), vKey (at_ (colNs tab.cols) r n)]
theorem given_mem {tab : Tab} {r : List V} {M : List Key} : M ∈ givenM tab r ↔ ∃ n ∈ tab.un, at_ (colNs tab.cols) r n ≠ .non ∧ M = [Sum.inl (((colNs tab.cols).idxOf n : Nat) : Int), vKey (at_ (colNs tab.cols) r n)] := by
  unfold givenM
  rw [List.mem_map]
  constructor
  · rintro ⟨n, h1, rfl⟩
    obtain ⟨h2, h3⟩ := List.mem_filter.mp h1
    exact ⟨n, h2, by simpa using h3, rfl⟩
  · rintro ⟨n, h1, h2, rfl⟩
    exact ⟨n, List.mem_filter.mpr ⟨h1, by simpa using h2⟩, rfl⟩
theorem at_val {cols : List Col} {rws : List (List V)} (F : RowsFit cols rws) {r : List V} (hr : r ∈ rws) {n : Str} (hn : n ∈ colNs cols) : ∃ k b, ValOf k b (at_ (colNs cols) r n) := by
  obtain ⟨j, e1, e2, _, _⟩ := idx_str hn
  have hj : j < cols.length := by unfold colNs at e2; rwa [List.length_map] at e2
  have hl := F.n r hr
  have er : r[j]? = some r[j] := List.getElem?_eq_getElem (by omega)
  have ea : at_ (colNs cols) r n = r[j] := by unfold at_; rw [← e1]; exact getD_some er
  rw [ea]
  exact ⟨_, _, F.v r hr j cols[j] _ (List.getElem?_eq_getElem hj) er⟩
theorem idx_inj {ns : List Str} {n m : Str} (hn : n ∈ ns) (hm : m ∈ ns) (e : ns.idxOf n = ns.idxOf m) : n = m := by
  obtain ⟨j, e1, e2, e3, _⟩ := idx_str hn
  obtain ⟨k, f1, f2, f3, _⟩ := idx_str hm
  have : j = k := by omega
  subst this
  rw [e3] at f3
  exact Option.some.inj f3
/-- a pair that an earlier row has -/
theorem badU_iff {fr : List (Str × List Col)} {tab : Tab} (ok : TabOk fr tab) {rws : List (List V)} (F : RowsFit tab.cols rws) {i : Nat} {r : List V} (hr : rws[i]? = some r) :
    ((∃ M ∈ givenM tab r, ∃ x ∈ rws.take i, M ∈ givenM tab x) ↔ badU tab (rws.take i) r = true) := by
  have hm := List.mem_of_getElem? hr
  have un : ∀ n ∈ tab.un, n ∈ colNs tab.cols := fun n hn => by
    have := ok.uc n hn
    unfold colNs at this ⊢
    rw [List.map_drop] at this
    exact List.mem_of_mem_drop this
  constructor
  · rintro ⟨M, h1, x, hx, h2⟩
    obtain ⟨n, n1, n2, rfl⟩ := given_mem.mp h1
    obtain ⟨m, m1, m2, e⟩ := given_mem.mp h2
    have hxm := List.mem_of_mem_take hx
    have e1 : (((colNs tab.cols).idxOf n : Nat) : Int) = (((colNs tab.cols).idxOf m : Nat) : Int) := Sum.inl.inj (List.cons.inj e).1
    have e2 : vKey (at_ (colNs tab.cols) r n) = vKey (at_ (colNs tab.cols) x m) := (List.cons.inj (List.cons.inj e).2).1
    have enm : n = m := idx_inj (un n n1) (un m m1) (by omega)
    subst enm
    obtain ⟨_, _, v1⟩ := at_val F hm (un n n1)
    obtain ⟨_, _, v2⟩ := at_val F hxm (un n n1)
    unfold badU
    refine List.any_eq_true.mpr ⟨n, n1, List.any_eq_true.mpr ⟨x, hx, ?_⟩⟩
    unfold clash
    rw [decide_eq_false n2, decide_eq_true (show at_ (colNs tab.cols) x n = at_ (colNs tab.cols) r n by rw [← kV_vKey v2 m2, ← e2, kV_vKey v1 n2])]
    rfl
  · intro h
    unfold badU at h
    obtain ⟨n, n1, h⟩ := List.any_eq_true.mp h
    obtain ⟨x, hx, h⟩ := List.any_eq_true.mp h
    unfold clash at h
    simp only [Bool.and_eq_true, Bool.not_eq_true', decide_eq_false_iff_not, decide_eq_true_eq] at h
    refine ⟨_, given_mem.mpr ⟨n, n1, h.1, rfl⟩, x, hx, given_mem.mpr ⟨n, n1, by rw [h.2]; exact h.1, by rw [h.2]⟩⟩
theorem given_len (tab : Tab) (r : List V) : (givenM tab r).length ≤ tab.un.length := by unfold givenM; rw [List.length_map]; exact List.length_filter_le _ _
/-- data of scalars for a comparison of lists -/
theorem vals_dp {K : PySem.W.Frag} {H : Hp} {vs : List V} : (∀ v ∈ vs, ∃ k b, ValOf k b v) → ∃ ds : List PyData, DpAll K H vs ds ∧ ds.length = vs.length ∧ PyData.canLayAll0 ds = true ∧ PyData.depthAll ds ≤ 1 := by
  induction vs with
  | nil => intro _; exact ⟨[], .nil, rfl, by simp [PyData.canLayAll0], by simp [PyData.depthAll]⟩
  | cons v r ih =>
    intro h
    obtain ⟨ds, h1, h2, h3, h4⟩ := ih fun x hx => h x (List.mem_cons_of_mem _ hx)
    obtain ⟨k, b, hv⟩ := h v List.mem_cons_self
    rcases hv with ⟨_, rfl⟩ | ⟨_, i, rfl, _⟩ | ⟨_, z, rfl, _, hz⟩
    · exact ⟨.none :: ds, .cons .non h1, by simp [h2], by simp [PyData.canLayAll0, PyData.canLay0, h3], by simp only [PyData.depthAll, PyData.depth]; omega⟩
    · exact ⟨.int i :: ds, .cons (.int i) h1, by simp [h2], by simp [PyData.canLayAll0, PyData.canLay0, h3], by simp only [PyData.depthAll, PyData.depth]; omega⟩
    · exact ⟨.str z :: ds, .cons (.str z) h1, by simp [h2], by simp [PyData.canLayAll0, PyData.canLay0, h3, strOk_of hz], by simp only [PyData.depthAll, PyData.depth]; omega⟩
/-- keys != [] -/
theorem ne_empty {K : PySem.W.Frag} {H : Hp} {Q : VK} {a e : Addr} {vs : List V} (ha : H a = some (.lst vs)) (he : H e = some (.lst [])) (h : ∀ v ∈ vs, ∃ k b, ValOf k b v) (q : Q (.bl (!vs.isEmpty)) H) : rNeD K (.ref a) (.ref e) H Q := by
  obtain ⟨ds, h1, h2, h3, h4⟩ := vals_dp (K := K) (H := H) h
  refine ⟨.list ds, .list [], .lst (SqL.of ha) h1, .lst (SqL.of he) .nil, ?_, rfl, ?_⟩
  · simp only [SeqAt.shaped, PyData.canLay0, h3, Bool.true_and, PyData.depth]
    exact decide_eq_true (by omega)
  · have e1 : PyData.eqv (.list ds) (.list []) = vs.isEmpty := by
      cases ds with
      | nil => cases vs with
        | nil => rfl
        | cons v r => cases h2
      | cons d r => cases vs with
        | nil => cases h2
        | cons v s => rfl
    rw [e1]; exact q
/-- pairs made of a row, one by one -/
def GivenAt (H : Hp) (gs : List V) (Ms : List (List Key)) : Prop := gs.length = Ms.length ∧ ∀ (j : Nat) (v : V) (M : List Key), gs[j]? = some v → Ms[j]? = some M → ∃ p, v = .ref p ∧ H p = some (.tup (M.map kV))
theorem GivenAt.mono {H H' : Hp} {gs : List V} {Ms : List (List Key)} (h : GivenAt H gs Ms) (k : KeepT H H') : GivenAt H' gs Ms := ⟨h.1, fun j v M h1 h2 => by
  obtain ⟨p, e, g⟩ := h.2 j v M h1 h2
  exact ⟨p, e, k _ _ g⟩⟩
theorem GivenAt.snoc {H : Hp} {gs : List V} {Ms : List (List Key)} {p : Addr} {M : List Key} (h : GivenAt H gs Ms) (g : H p = some (.tup (M.map kV))) : GivenAt H (gs ++ [.ref p]) (Ms ++ [M]) := by
  refine ⟨by rw [List.length_append, List.length_append, h.1]; rfl, fun j v M' h1 h2 => ?_⟩
  by_cases hj : j < gs.length
  · rw [List.getElem?_append_left hj] at h1
    rw [List.getElem?_append_left (by rw [← h.1]; exact hj)] at h2
    exact h.2 j v M' h1 h2
  · have e : j = gs.length := by
      have := (List.getElem?_eq_some_iff.mp h1).1
      rw [List.length_append, List.length_singleton] at this
      omega
    subst e
    rw [List.getElem?_append_right (Nat.le_refl _), Nat.sub_self] at h1
    rw [List.getElem?_append_right (by rw [h.1]; exact Nat.le_refl _), h.1, Nat.sub_self] at h2
    cases h1
    cases h2
    exact ⟨p, rfl, g⟩
theorem GivenAt.get {H : Hp} {gs : List V} {Ms : List (List Key)} (h : GivenAt H gs Ms) {j : Nat} {v : V} (e : gs[j]? = some v) : ∃ M p, Ms[j]? = some M ∧ v = .ref p ∧ H p = some (.tup (M.map kV)) := by
  have hj := (List.getElem?_eq_some_iff.mp e).1
  have hjm : j < Ms.length := by rw [← h.1]; exact hj
  have em : Ms[j]? = some Ms[j] := List.getElem?_eq_getElem hjm
  obtain ⟨p, e1, e2⟩ := h.2 j v _ e em
  exact ⟨_, p, em, e1, e2⟩
/-- the pairs of the first n uniques -/
def givenT (tab : Tab) (r : List V) (n : Nat) : List (List Key) := ((tab.un.take n).filter fun n => !decide (at_ (colNs tab.cols) r n = .non)).map fun n => [Sum.inl (((colNs tab.cols).idxOf n : Nat) : Int), vKey (at_ (colNs tab.cols) r n)]
theorem givenT_all (tab : Tab) (r : List V) {n : Nat} (h : tab.un.length ≤ n) : givenT tab r n = givenM tab r := by unfold givenT givenM; rw [List.take_of_length_le h]
theorem givenT_len (tab : Tab) (r : List V) (n : Nat) : (givenT tab r n).length ≤ tab.un.length := by
  unfold givenT; rw [List.length_map]
  have a := List.length_filter_le (fun n => !decide (at_ (colNs tab.cols) r n = .non)) (tab.un.take n)
  rw [List.length_take] at a
  omega
theorem givenT_step {tab : Tab} {r : List V} {i : Nat} {n : Str} (h : tab.un[i]? = some n) : givenT tab r (i + 1) = if at_ (colNs tab.cols) r n = .non then givenT tab r i else givenT tab r i ++ [[Sum.inl (((colNs tab.cols).idxOf n : Nat) : Int), vKey (at_ (colNs tab.cols) r n)]] := by
  unfold givenT
  rw [List.take_add_one, h, List.filter_append, List.map_append]
  by_cases e : at_ (colNs tab.cols) r n = .non
  · rw [if_pos e]; simp [e]
  · rw [if_neg e]; simp [e]
theorem range_step {n i : Nat} (P : Nat → Bool) (f : Nat → V) : ((List.range (i + 1)).filter P).map f = if P i = true then ((List.range i).filter P).map f ++ [f i] else ((List.range i).filter P).map f := by
  rw [List.range_succ, List.filter_append, List.map_append]
  cases h : P i <;> simp [h]
def stKs (st : List TS) (n : Str) : List Key := match st.find? (fun p => decide (p.n = n)) with | some p => roN p.rs | none => []
theorem st_find {st : List TS} (nm : (stN st).Nodup) {p : TS} (hp : p ∈ st) : st.find? (fun q => decide (q.n = p.n)) = some p := by
  cases e : st.find? (fun q => decide (q.n = p.n)) with
  | none => have := List.find?_eq_none.mp e p hp; simp at this
  | some q =>
    have h1 := List.mem_of_find?_eq_some e
    have h2 : q.n = p.n := by simpa using List.find?_some e
    rw [st_one nm h1 hp h2]
theorem sch_find {s : Sch} (nm : (schN s).Nodup) {p : Ads × Tab} (hp : p ∈ s) : s.find? (fun q => decide (q.2.n = p.2.n)) = some p := by
  cases e : s.find? (fun q => decide (q.2.n = p.2.n)) with
  | none => have := List.find?_eq_none.mp e p hp; simp at this
  | some q =>
    have h1 := List.mem_of_find?_eq_some e
    have h2 : q.2.n = p.2.n := by simpa using List.find?_some e
    rw [sch_one nm h1 hp h2]
theorem stKs_eq {st : List TS} (nm : (stN st).Nodup) {p : TS} (hp : p ∈ st) : stKs st p.n = roN p.rs := by unfold stKs; rw [st_find nm hp]
/-- is a value a key of the table -/
theorem key_in {rs : List Ro} {k : Str} {b : Bool} {v : V} (h : ValOf k b v) (n : v ≠ .non) : (valV (roK rs) (vKey v)).isSome = ((roN rs).any fun q => decide (kV q = v)) := by
  rw [Bool.eq_iff_iff, valV_isSome, roK_keys, List.any_eq_true]
  constructor
  · intro hm
    exact ⟨_, hm, decide_eq_true (kV_vKey h n)⟩
  · rintro ⟨q, hq, e⟩
    have e := of_decide_eq_true e
    have : vKey v = q := by rw [← e]; cases q <;> rfl
    rw [this]; exact hq
/-- a schema and a state of it -/
structure DB (H : Hp) (S : Addr) (s : Sch) (T : Addr) (st : List TS) : Prop where
  sk : H S = some (.dK (schK s))
  ds : ∀ p ∈ s, DescAt H p.1 p.2
  nm : (schN s).Nodup
  ok : ∀ p ∈ s, TabOk (frOf s) p.2
  l6 : s.length ≤ 6
  sa : StAt H T st
  fit : ∀ p ∈ s, ∃ q ∈ st, q.n = p.2.n ∧ TabFit p.2.cols q.rs
theorem DB.mono {H H' : Hp} {S : Addr} {s : Sch} {T : Addr} {st : List TS} (h : DB H S s T st) (e : Same H H') : DB H' S s T st := ⟨e _ _ h.sk, fun p hp => (h.ds p hp).mono e, h.nm, h.ok, h.l6, h.sa.mono e, h.fit⟩
theorem DB.ref {H : Hp} {S : Addr} {s : Sch} {T : Addr} {st : List TS} (h : DB H S s T st) {p : Ads × Tab} (hp : p ∈ s) : ∀ r ∈ p.2.rf, ∃ q ∈ st, q.n = r.2 := fun r hr => by
  obtain ⟨col, _, _, _, f, hf, ef, _⟩ := (h.ok p hp).rc r hr
  obtain ⟨p', hp', rfl⟩ := List.mem_map.mp hf
  obtain ⟨q, hq, e, _⟩ := h.fit p' hp'
  exact ⟨q, hq, e.trans ef⟩
theorem DB.key {H : Hp} {S : Addr} {s : Sch} {T : Addr} {st : List TS} (h : DB H S s T st) {p : Ads × Tab} (hp : p ∈ s) {rs : List Ro} (f : TabFit p.2.cols rs) : OneKind (roN rs) :=
  one_kind (List.getElem?_eq_getElem (h.ok p hp).l0) f.f
theorem DB.rest {cols : List Col} {rs : List Ro} (l5 : cols.length ≤ 5) (f : TabFit cols rs) : ∀ r ∈ rs, r.vs.length ≤ 50 := fun r hr => by
  have := (f.f r hr).r.1
  omega
def faultN (s : Sch) (st : List TS) (n : Str) : Option (Str × Str × V) :=
  match s.find? (fun p => decide (p.2.n = n)), st.find? (fun q => decide (q.n = n)) with
  | some p, some q => (faultT (stKs st) p.2 (rowsM q.rs)).map fun x => (x.1, n, x.2)
  | _, _ => none
def faultK (s : Sch) (st : List TS) : Key → Option (Str × Str × V)
  | .inr n => faultN s st n
  | .inl _ => none
def faultM (s : Sch) (st : List TS) : Option (Str × Str × V) := (sortK ((schN s).map Sum.inr)).findSome? (faultK s st)
def FaultAt (H : Hp) (v : V) : Option (Str × Str × V) → Prop
  | none => v = .non
  | some (c, n, k) => ∃ p, v = .ref p ∧ H p = some (.tup [.str c, .str n, k]) ∧ isScal k = true
theorem faultN_eq {s : Sch} {st : List TS} (nm : (schN s).Nodup) (nt : (stN st).Nodup) {p : Ads × Tab} {q : TS} (hp : p ∈ s) (hq : q ∈ st) (e : q.n = p.2.n) : faultN s st p.2.n = (faultT (stKs st) p.2 (rowsM q.rs)).map fun x => (x.1, p.2.n, x.2) := by
  unfold faultN
  rw [sch_find nm hp, ← e, st_find nt hq]
/-- leads_nowhere -/
def spLeadsNo : Sp := fun vs H Q _ => ∃ (S : Addr) (s : Sch) (T : Addr) (st : List TS) (p : Ads × Tab) (ra N RF : Addr) (r : List V) (rws : List (List V)), vs = [.ref ra, .ref N, .ref RF, .ref T] ∧ DB H S s T st ∧ p ∈ s ∧ H ra = some (.tup r) ∧ r ∈ rws ∧ RowsFit p.2.cols rws ∧
  H N = some (.lst ((colNs p.2.cols).map V.str)) ∧ RF = p.1.r ∧ Q (.bl (badR (stKs st) p.2 r)) H
def spLost : Sp := fun vs H Q _ => ∃ (S : Addr) (s : Sch) (T : Addr) (st : List TS) (p : Ads × Tab) (L : Addr) (rws : List (List V)), vs = [.ref p.1.d, .ref L, .ref T] ∧ DB H S s T st ∧ p ∈ s ∧ RowsAt H L rws ∧ RowsFit p.2.cols rws ∧ ∀ N H', H' N = some (.lst (keysR (stKs st) p.2 rws)) → Same H H' → Q (.ref N) H'
def spTableFault : Sp := fun vs H Q _ => ∃ (S : Addr) (s : Sch) (T : Addr) (st : List TS) (p : Ads × Tab), vs = [.ref S, .ref T, .str p.2.n] ∧ DB H S s T st ∧ p ∈ s ∧ ∀ v H', FaultAt H' v (faultN s st p.2.n) → Same H H' → Q v H'
def spFault : Sp := fun vs H Q _ => ∃ (S : Addr) (s : Sch) (T : Addr) (st : List TS), vs = [.ref S, .ref T] ∧ DB H S s T st ∧ ∀ v H', FaultAt H' v (faultM s st) → Same H H' → Q v H'
theorem keys_scal {cols : List Col} {rws : List (List V)} (F : RowsFit cols rws) (l0 : 1 ≤ cols.length) {r : List V} (hr : r ∈ rws) : ∃ k b, ValOf k b (headV r) := by
  obtain ⟨v, vs, rfl⟩ := F.ne l0 hr
  exact ⟨_, _, F.v _ hr 0 cols[0] v (List.getElem?_eq_getElem l0) rfl⟩
theorem first_filter {α : Type} {P : α → Bool} : ∀ {xs : List α} {i : Nat} {x : α}, xs[i]? = some x → P x = true → (∀ y ∈ xs.take i, P y = false) → ∃ rest, xs.filter P = x :: rest
  | [], i, x, h, _, _ => by simp at h
  | y :: r, 0, x, h, hp, _ => by
    simp at h
    subst h
    exact ⟨r.filter P, by rw [List.filter_cons, if_pos hp]⟩
  | y :: r, i + 1, x, h, hp, hn => by
    have hy : P y = false := hn y (by rw [List.take_succ_cons]; exact List.mem_cons_self)
    obtain ⟨rest, e⟩ := first_filter (xs := r) (i := i) (by simpa using h) hp fun z hz => hn z (by rw [List.take_succ_cons]; exact List.mem_cons_of_mem _ hz)
    exact ⟨rest, by rw [List.filter_cons, if_neg (by rw [hy]; decide), e]⟩
theorem none_filter {α : Type} {P : α → Bool} {xs : List α} (h : ∀ y ∈ xs, P y = false) : xs.filter P = [] := List.filter_eq_nil_iff.mpr fun y hy => by rw [h y hy]; decide
theorem take_step {α : Type} {P : α → Bool} {xs : List α} {i : Nat} {x : α} (h : xs[i]? = some x) (a : ∀ y ∈ xs.take i, P y = false) (b : P x = false) : ∀ y ∈ xs.take (i + 1), P y = false := fun y hy => by
  rw [List.take_add_one, h] at hy
  rcases List.mem_append.mp hy with hy | hy
  · exact a y hy
  · have : y = x := by simpa using hy
    rw [this]; exact b
theorem findSome_step {α β : Type} {f : α → Option β} {xs : List α} {i : Nat} {x : α} (h : xs[i]? = some x) (a : (xs.take i).findSome? f = none) (b : f x = none) : (xs.take (i + 1)).findSome? f = none := by
  rw [List.take_add_one, h, List.findSome?_append, a]
  simp [b]
theorem findSome_hit {α β : Type} {f : α → Option β} {xs : List α} {i : Nat} {x : α} {y : β} (h : xs[i]? = some x) (a : (xs.take i).findSome? f = none) (b : f x = some y) : xs.findSome? f = some y := by
  have e : xs = xs.take (i + 1) ++ xs.drop (i + 1) := (List.take_append_drop (i + 1) xs).symm
  rw [e, List.findSome?_append, List.take_add_one, h, List.findSome?_append, a]
  simp [b]
def spLawFault : Sp := spFault
def spBreaksC : Sp := fun vs H Q _ => ∃ (a : Ads) (tab : Tab) (ra : Addr) (r : List V) (rws : List (List V)) (fr : List (Str × List Col)), vs = [.ref a.d, .ref ra] ∧ DescAt H a tab ∧ TabOk fr tab ∧ H ra = some (.tup r) ∧ r ∈ rws ∧ RowsFit tab.cols rws ∧ ∀ H', Same H H' → Q (.bl (badC tab r)) H'
def spBreaksU : Sp := fun vs H Q _ => ∃ (a : Ads) (tab : Tab) (ra E : Addr) (r : List V) (ews rws : List (List V)) (fr : List (Str × List Col)), vs = [.ref a.d, .ref E, .ref ra] ∧ DescAt H a tab ∧ TabOk fr tab ∧ H ra = some (.tup r) ∧ r ∈ rws ∧ (∀ x ∈ ews, x ∈ rws) ∧ RowsFit tab.cols rws ∧ RowsAt H E ews ∧ ∀ H', Same H H' → Q (.bl (badU tab ews r)) H'
def spBreaksR : Sp := fun vs H Q _ => ∃ (S : Addr) (s : Sch) (T : Addr) (st : List TS) (p : Ads × Tab) (ra : Addr) (r : List V) (rws : List (List V)), vs = [.ref p.1.d, .ref T, .ref ra] ∧ DB H S s T st ∧ p ∈ s ∧ H ra = some (.tup r) ∧ r ∈ rws ∧ RowsFit p.2.cols rws ∧ ∀ H', Same H H' → Q (.bl (badR (stKs st) p.2 r)) H'
/-- the four codes, each with the keys of the rows that it is true for -/
def codesM (ks : Str → List Key) (tab : Tab) (rws : List (List V)) : List (Str × List V) := [("full", keysF rws), ("check", keysC tab rws), ("unique", keysU tab rws), ("reference", keysR ks tab rws)]
def hitM (c : Str × List V) : Option (Str × V) := match c.2 with | k :: _ => some (c.1, k) | [] => none
theorem faultT_codes (ks : Str → List Key) (tab : Tab) (rws : List (List V)) : faultT ks tab rws = (codesM ks tab rws).findSome? hitM := by
  unfold faultT codesM hitM
  simp only [List.findSome?_cons, List.findSome?_nil]
  cases keysF rws with
  | cons k r => rfl
  | nil =>
    cases keysC tab rws with
    | cons k r => rfl
    | nil =>
      cases keysU tab rws with
      | cons k r => rfl
      | nil => cases keysR ks tab rws <;> rfl
theorem codes_val {ks : Str → List Key} {cols : List Col} {tab : Tab} {rws : List (List V)} (F : RowsFit cols rws) (l0 : 1 ≤ cols.length) : ∀ c ∈ codesM ks tab rws, ∀ v ∈ c.2, ∃ k b, ValOf k b v := by
  intro c hc v hv
  unfold codesM at hc
  simp only [List.mem_cons, List.not_mem_nil, or_false] at hc
  rcases hc with rfl | rfl | rfl | rfl
  · obtain ⟨r, h1, rfl⟩ := List.mem_map.mp hv
    exact keys_scal F l0 (List.mem_of_mem_drop h1)
  · obtain ⟨r, h1, rfl⟩ := List.mem_map.mp hv
    exact keys_scal F l0 (List.mem_filter.mp h1).1
  · obtain ⟨r, h1, rfl⟩ := List.mem_map.mp hv
    have := List.mem_range.mp (List.mem_filter.mp h1).1
    have e : rws.getD r [] = rws[r] := by rw [List.getD_eq_getElem?_getD, List.getElem?_eq_getElem this]; rfl
    show ∃ k b, ValOf k b (headV (rws.getD r []))
    rw [e]
    exact keys_scal F l0 (List.getElem_mem this)
  · obtain ⟨r, h1, rfl⟩ := List.mem_map.mp hv
    exact keys_scal F l0 (List.mem_filter.mp h1).1
theorem at_vals {cols : List Col} {rws : List (List V)} (F : RowsFit cols rws) {n : Str} (hn : n ∈ colNs cols) : ∃ k b, ∀ r ∈ rws, ValOf k b (at_ (colNs cols) r n) := by
  obtain ⟨j, e1, e2, _, _⟩ := idx_str hn
  have hj : j < cols.length := by unfold colNs at e2; rwa [List.length_map] at e2
  refine ⟨cols[j].k, cols[j].b, fun r hr => ?_⟩
  have hl := F.n r hr
  have er : r[j]? = some r[j] := List.getElem?_eq_getElem (by omega)
  have ea : at_ (colNs cols) r n = r[j] := by unfold at_; rw [← e1]; exact getD_some er
  rw [ea]
  exact F.v r hr j cols[j] _ (List.getElem?_eq_getElem hj) er
theorem val_scal {k : Str} {b : Bool} {v w : V} (h : ValOf k b v) (g : ValOf k b w) : scal v w = true := by
  rcases h with ⟨_, rfl⟩ | ⟨k1, i, rfl, _⟩ | ⟨k1, z, rfl, _⟩ <;> rcases g with ⟨_, rfl⟩ | ⟨k2, j, rfl, _⟩ | ⟨k2, y, rfl, _⟩ <;> first | rfl | exact absurd k1 k2 | exact absurd k2 k1
/-! ## states drawn -/
def spRowsDraw : Sp := fun vs H Q _ => ∃ (t c L : Addr) (cs : List Int) (cols : List Col) (most : Int), vs = [.ref t, .ref L, .int most] ∧ TapeAt H t c cs ∧ ColsAt H L cols ∧ 0 < cols.length ∧ cols.length ≤ 100 ∧ 0 ≤ most ∧ most ≤ 20 ∧
  ∀ d rs H', TAt H' d rs → (∀ r ∈ rs, RowFit cols r) → (rs.length : Int) ≤ most → H d = none → TapeAt H' t c cs → SameX t H H' → Q (.ref d) H'
/-- tables with rows, for each table of the schema one -/
structure StFit (s : Sch) (st : List TS) (most : Nat) : Prop where
  f : ∀ p ∈ s, ∃ q ∈ st, q.n = p.2.n ∧ (∀ r ∈ q.rs, RowFit p.2.cols r)
  l : ∀ q ∈ st, q.rs.length ≤ most
  n : ∀ q ∈ st, q.n ∈ schN s
  e : st.length = s.length
def stD (T : Addr) (st : List TS) : List Addr := T :: st.map fun q => q.d
def spState : Sp := fun vs H Q _ => ∃ (t c S : Addr) (cs : List Int) (s : Sch) (most : Int), vs = [.ref t, .ref S, .int most] ∧ TapeAt H t c cs ∧ SchAt H S s t c ∧ (∀ p ∈ s, TabOk (frOf s) p.2) ∧ s.length ≤ 6 ∧ 0 ≤ most ∧ most ≤ 20 ∧
  ∀ T st H', StAt H' T st → StFit s st most.toNat → (stD T st).Nodup → (∀ a ∈ stD T st, H a = none) → TapeAt H' t c cs → SameX t H H' → Q (.ref T) H'
theorem ValOf.key {k : Str} {v : V} (h : ValOf k false v) : kV (vKey v) = v := kV_vKey h (by
  rcases h with ⟨e, _⟩ | ⟨_, i, rfl, _⟩ | ⟨_, z, rfl, _⟩
  · cases e
  · intro z; cases z
  · intro z; cases z)
theorem RowFit.mk' {cols : List Col} {c : Col} {v : V} {vs : List V} {a : Addr} (hc : cols[0]? = some c) (h : ValOf c.k false v) (r : RestOf cols vs) : RowFit cols ⟨vKey v, a, vs⟩ := ⟨fun c' hc' => by
  rw [hc] at hc'
  cases hc'
  show ValOf c.k false (kV (vKey v))
  rw [h.key]
  exact h, r⟩
theorem st_new {st : List TS} {x : TS} (h : x.n ∉ stN st) : putK (stK st) (Sum.inr x.n : Key) (.ref x.d) = stK (st ++ [x]) := by
  rw [putK_fresh]
  · unfold stK; rw [List.map_append]; rfl
  · rw [st_keys]
    intro z
    obtain ⟨y, h1, h2⟩ := List.mem_map.mp z
    cases h2
    exact h h1
/-- _law_fill -/
def spFill : Sp := fun vs H Q _ => ∃ (t c S T : Addr) (cs : List Int) (s : Sch) (st : List TS), vs = [.ref t, .ref S, .ref T] ∧ TapeAt H t c cs ∧ SchAt H S s t c ∧ (∀ p ∈ s, TabOk (frOf s) p.2) ∧ 1 ≤ s.length ∧ s.length ≤ 6 ∧ StAt H T st ∧ StFit s st 6 ∧ (t :: stD T st).Nodup ∧
  ∀ st' H', StAt H' T st' → StFit s st' 80 → stD T st' = stD T st → TapeAt H' t c cs → SameE (t :: stD T st) H H' → Q .non H'
theorem ks_len {x : Str} (h : x.length ≤ 10) (h2 : ∀ c ∈ tl x, c = 45 ∨ (48 ≤ c ∧ c ≤ 57)) : ((("k" : Str) ++ x)).length ≤ 30 ∧ ∀ c ∈ tl (("k" : Str) ++ x), chOk c := by
  have e : tl ("k" : Str) = [107] := by decide +kernel
  refine ⟨?_, fun c hc => ?_⟩
  · rw [len_app, len_tl, e]; show 1 + _ ≤ 30; omega
  · rw [tl_append, e] at hc
    rcases List.mem_cons.mp hc with rfl | hc
    · decide
    · exact digit_ok (h2 c hc)
theorem natSm {x : Int} (h : 0 ≤ x) (h2 : x ≤ 1000) : x.natAbs < 2 ^ 9000 := by
  have h1 : x.natAbs ≤ 1000 := by omega
  exact Nat.lt_of_le_of_lt h1 (by decide +kernel)
theorem SchAt.other {H : Hp} {S M t c : Addr} {s : Sch} {kvs : List (Key × V)} {o : HO} (A : SchAt H S s t c) (hM : H M = some (.dK kvs)) (n1 : S ≠ M) (n2 : ∀ p ∈ s, p.1.d ≠ M) : SchAt (upd H M o) S s t c :=
  ⟨by rw [upd_ne n1]; exact A.sk, fun p hp => (A.ds p hp).lock hM (n2 p hp), A.nm, A.dn, A.ln⟩
/-- a row put into the table n -/
def putSt (st : List TS) (n : Str) (r : Ro) : List TS := st.map fun q => if q.n = n then ⟨q.n, q.d, putRo q.rs r⟩ else q
theorem putSt_map {α : Type} (f : TS → α) (st : List TS) (n : Str) (r : Ro) (h : ∀ q : TS, f ⟨q.n, q.d, putRo q.rs r⟩ = f q) : (putSt st n r).map f = st.map f := by
  unfold putSt
  rw [List.map_map]
  refine List.map_congr_left fun q _ => ?_
  show f (if q.n = n then ⟨q.n, q.d, putRo q.rs r⟩ else q) = f q
  split
  · exact h q
  · rfl
theorem putSt_K (st : List TS) (n : Str) (r : Ro) : stK (putSt st n r) = stK st := putSt_map (fun p => ((Sum.inr p.n : Key), V.ref p.d)) st n r fun _ => rfl
theorem putSt_N (st : List TS) (n : Str) (r : Ro) : stN (putSt st n r) = stN st := putSt_map (fun p => p.n) st n r fun _ => rfl
theorem putSt_D (T : Addr) (st : List TS) (n : Str) (r : Ro) : stD T (putSt st n r) = stD T st := by unfold stD; rw [putSt_map (fun p => p.d) st n r fun _ => rfl]
theorem putSt_mem {st : List TS} {n : Str} {r : Ro} {x : TS} (h : x ∈ putSt st n r) : ∃ q ∈ st, x.n = q.n ∧ x.d = q.d ∧ ((q.n = n ∧ x.rs = putRo q.rs r) ∨ (q.n ≠ n ∧ x = q)) := by
  obtain ⟨q, h1, rfl⟩ := List.mem_map.mp h
  refine ⟨q, h1, ?_⟩
  by_cases e : q.n = n
  · rw [if_pos e]; exact ⟨rfl, rfl, .inl ⟨e, rfl⟩⟩
  · rw [if_neg e]; exact ⟨rfl, rfl, .inr ⟨e, rfl⟩⟩
theorem putSt_at {st : List TS} {n : Str} {r : Ro} {q : TS} (h : q ∈ st) : (if q.n = n then (⟨q.n, q.d, putRo q.rs r⟩ : TS) else q) ∈ putSt st n r := List.mem_map.mpr ⟨q, h, rfl⟩
theorem st_d_one {T : Addr} {st : List TS} (nd : (stD T st).Nodup) {p q : TS} (hp : p ∈ st) (hq : q ∈ st) (e : p.d = q.d) : p = q := by
  have nd := (List.nodup_cons.mp nd).2
  obtain ⟨i, hi, ei⟩ := List.getElem_of_mem hp
  obtain ⟨j, hj, ej⟩ := List.getElem_of_mem hq
  have a1 : (st.map fun q => q.d)[i]? = some p.d := by rw [List.getElem?_map, List.getElem?_eq_getElem hi, ei]; rfl
  have a2 : (st.map fun q => q.d)[j]? = some p.d := by rw [List.getElem?_map, List.getElem?_eq_getElem hj, ej]; exact congrArg some e.symm
  have := nd_ix nd a1 a2
  subst this
  rw [← ei, ← ej]
theorem StAt.put {H : Hp} {T : Addr} {st : List TS} {q : TS} {r : Ro} (B : StAt H T st) (nd : (stD T st).Nodup) (hq : q ∈ st) (hr : H r.a = some (.tup r.vs)) : StAt (upd H q.d (.dK (roK (putRo q.rs r)))) T (putSt st q.n r) := by
  have dk := (B.ds q hq).dk
  have ku : KeepT H (upd H q.d (.dK (roK (putRo q.rs r)))) := KeepT.lock dk
  have nT : T ≠ q.d := fun e => (List.nodup_cons.mp nd).1 (List.mem_map.mpr ⟨q, hq, e.symm⟩)
  refine ⟨by rw [upd_ne nT, putSt_K]; exact B.sk, fun x hx => ?_, by rw [putSt_N]; exact B.nm⟩
  obtain ⟨z, hz, en, ed, h⟩ := putSt_mem hx
  have A := B.ds z hz
  rcases h with ⟨e, ers⟩ | ⟨e, rfl⟩
  · have : z = q := st_one B.nm hz hq e
    subst this
    rw [ed, ers]
    refine ⟨upd_same, fun y hy => ?_, putRo_nd A.nd r⟩
    rcases putRo_mem hy with ⟨_, ea, ev⟩ | hy
    · rw [ea, ev]; exact ku _ _ hr
    · exact ku _ _ (A.rt y hy)
  · have nd' : x.d ≠ q.d := fun e' => e (by rw [st_d_one nd hz hq e'])
    exact A.mono ku fun o h => by rw [upd_ne nd']; exact h
end Lt

set_option autoImplicit false
namespace Lt
open PySem PySem.Spec PyProof.Rows L2 TL
open C8 (pss_cut)
/-! ## errors of the program -/
/-- C(e, ..), C an own exception class with an own __init__: its context is None -/
theorem pmk_ownN {X : Cx} {CX : CXT} {x : Str} {e : Expr} {es : List Expr} {ta : TA} {p pos : Pos} {C fI : Addr} {k : Nat} {fd : FuncData} {ps : List Str} {sp : Sp} (T : OexC X.K C)
    (iC : PySem.W.findIn X.K (.ref C) "__init__" = some (some (.ref fI))) (tI : PySem.W.typeIn X.K (.ref fI) = some (.type "function"))
    (G : FnOk X.prog X.w X.K X.mg X.base CX k fI fd ps sp) (hr : Room (k + 1) X.A) (hb : Binds X.K fd ps []) (hx : Passes CX X (fun _ _ _ => False)) (hg : Gl X x) (hm : X.mg x = some (.ref C)) (ha : PA X (e :: es) ta)
    (hdb : (x == ("__debug__" : Str)) = false := by decide) (he : starEach (e :: es) X.env = (false, eval e X.env) :: starEach es X.env := by rfl) (hpl : (backTo pos (starEach es X.env)).any (·.1) = false := by rfl) :
    L2N.PMk X (.Call (.Name x p) (e :: es) [] pos) (tMkO C sp [] ta) := fun pins s σ H Q I h => by
  obtain ⟨_, _, _, _, bm, _, _, _, _, _, _, _, _, _, _, hcl, hbm⟩ := T.cls
  refine wpAny_Call_Name_kw (ld_glob I hg hm (PySem.W.callWith_K (h₀ := X.base) I.ok.mod.kin T.kC (thn (ha.run pos pins s σ H _ I h) fun us s1 w => ?_) he hpl) hdb)
  obtain ⟨vs, H1, J, rv, lv, q⟩ := w
  refine ⟨J.kIn, ?_⟩
  show wpAny _ _ (call (.ref C) us) _ _ _
  obtain ⟨hp, gs, dr, tok, os⟩ := s1
  generalize hA : hp.objs.size + 1 = A
  have le : hp.objs.size ≤ A := by omega
  have q := q A (J.hok.fresh le)
  rw [List.append_nil] at q
  have keep : ∀ b o, hp.get? b = some o → ((hp.push (PySem.W.kdv_tup us)).push (PySem.HandSPX.excO C hp.objs.size)).get? b = some o := fun _ _ g => Heap.get?_push_of_some _ (Heap.get?_push_of_some _ g)
  have there : ((hp.push (PySem.W.kdv_tup us)).push (PySem.HandSPX.excO C hp.objs.size)).get? A = some (PySem.HandSPX.excO C hp.objs.size) := by rw [← hA]; heap_get
  have J2 : Inv X pins σ (upd H1 A (exo A C none)) ⟨(hp.push (PySem.W.kdv_tup us)).push (PySem.HandSPX.excO C hp.objs.size), gs, dr, tok, os⟩ := J.laid (t' := tok) keep le (exo_ok there)
  have rv2 : Vals (V.ref A :: vs) (Value.ref A :: us) := .cons rfl rv
  have len : (Value.ref A :: us ++ []).length = ps.length := by rw [List.append_nil, ← rv2.length, G.len _ _ _ _ q]
  have bi := hb _ (Value.ref A :: us) J2.kIn len
  rw [List.append_nil] at bi
  have lus : us.length ≤ sizeLine := by rw [← Paired.length rv, sizeLine_eq]; omega
  subst hA
  refine wpAny_call (PySem.HandSPX.call_own F.excBase_ValueError (fun Y => PySem.HandSPX.refsVE_contains Y bm hbm) (J.kIn _ _ hcl) (PySem.W.looks_findIn J.kIn iC) (fun self => PySem.W.bind_fn J.kIn self tI) lus
    (codeAny_mono (G.run _ X.stack _ _ ⟨Value.ref (hp.objs.size + 1) :: us, []⟩ (Value.ref (hp.objs.size + 1) :: us) _ _ (fun _ _ _ => False) (hr.make C us []) (J2.env0.make C us []) bi rv2 q) fun r s' w => ?_))
  cases r with
  | error er => exact hx pins σ _ _ er s' J2 w
  | ok fl =>
    cases fl with
    | ret u =>
      obtain ⟨v, H2, eo, bare, un, hok, ru, rfl, d, fs, ea, ed, hd, q2⟩ := w
      obtain ⟨h2, g2, d2, t2, os'⟩ := s'
      obtain ⟨t0, G0, K0, kG, ge, hoe, na⟩ := mk_end0 (d2 := d2) (t2 := t2) J le keep un hok eo bare ea ed hd
      exact ⟨ru, _, _, _, ⟨G0, g2, d2, t2, os'⟩, _, .ref C, some d, rfl, K0, kG, ge, hoe, ⟨rfl, rfl, fun vs e => by cases e; rfl⟩, rfl, rfl, na, rfl, bare, raises_own T.exC T.tyC, q2⟩
    | next => exact w.elim
    | brk => exact w.elim
    | cont => exact w.elim
/-- what can't be reached -/
theorem ps_no {X : Cx} {st : Stmt} : PS X st (fun _ _ _ => False) := ⟨fun _ _ _ _ _ _ h => h.elim⟩
theorem pss_no {X : Cx} {sts : List Stmt} : PSs X sts (fun _ _ _ => False) := ⟨fun _ _ _ _ _ _ h => h.elim⟩
theorem pe_no {X : Cx} {e : Expr} : PE X e (fun _ _ _ => False) := ⟨fun _ _ _ _ _ _ h => h.elim⟩
/-- what the text says of an error class of two fields -/
structure ErrC (K : PySem.W.Frag) (mg : Str → Option Value) (x f1 f2 : Str) (C fI : Addr) : Prop where
  gC : mg x = some (.ref C)
  T : OexC K C
  iC : PySem.W.findIn K (.ref C) "__init__" = some (some (.ref fI))
  tI : PySem.W.typeIn K (.ref fI) = some (.type "function")
  n1 : PySem.W.findIn K (.ref C) f1 = some none
  n2 : PySem.W.findIn K (.ref C) f2 = some none
  xf : XfC K C
  te : PySem.W.exmOne K (.ref C) (.ref C) = some true
/-- __init__(self, a, b): self.f1 = a; self.f2 = b -/
def spInit2 (K : PySem.W.Frag) (C : Addr) (f1 f2 : Str) : Sp := fun vs H Q _ => ∃ (a : Addr) (u v : V), vs = [.ref a, u, v] ∧ OexC K C ∧ PySem.W.findIn K (.ref C) f1 = some none ∧ PySem.W.findIn K (.ref C) f2 = some none ∧ H a = some (exo a C none) ∧
  ∀ d, H d = none → d ≠ a → Q .non (upd (upd (upd H d (exd d [(f1, u)])) a (exo a C (some d))) d (exd d [(f2, v), (f1, u)]))
/-- C(u, v) raised: its fields stand in a dict of its own -/
theorem raise2 {K : PySem.W.Frag} {mg : Str → Option Value} {x f1 f2 : Str} {C fI : Addr} (c : ErrC K mg x f1 f2 C fI) {H : Hp} {Q : XK} {u v : V} (q : ∀ d, H d = none → Q (.ref C) (some d) (upd H d (.xd [(f2, v), (f1, u)]))) :
    ∀ a, H a = none → spInit2 K C f1 f2 (.ref a :: ([u, v] ++ [])) (upd H a (exo a C none)) (fun w H2 => w = .non ∧ ∃ (d : Addr) (fs : List (Str × V)), H2 a = some (exo a C (some d)) ∧ H2 d = some (exd d fs) ∧ H d = none ∧ Q (.ref C) (some d) (upd (del H2 a) d (.xd fs))) (fun _ _ _ => False) := fun a ha => by
  refine ⟨a, u, v, rfl, c.T, c.n1, c.n2, upd_same, fun d hd hda => ⟨rfl, d, _, ?_, upd_same, ?_, ?_⟩⟩
  · rw [upd_ne hda.symm]; exact upd_same
  · rw [upd_ne hda] at hd; exact hd
  · have hd' : H d = none := by rw [upd_ne hda] at hd; exact hd
    have e : upd (del (upd (upd (upd (upd H a (exo a C none)) d (exd d [(f1, u)])) a (exo a C (some d))) d (exd d [(f2, v), (f1, u)])) a) d (.xd [(f2, v), (f1, u)]) = upd H d (.xd [(f2, v), (f1, u)]) := by
      funext b
      by_cases h1 : b = d
      · subst h1; rw [upd_same, upd_same]
      · rw [upd_ne h1, upd_ne h1]
        by_cases h2 : b = a
        · subst h2; rw [del_same, ha]
        · rw [del_ne h2, upd_ne h1, upd_ne h2, upd_ne h1, upd_ne h2]
    rw [e]
    exact q d hd'
def clsSt : Stmt → Nat → Stmt
  | .ClassDef (body := b) .., j => b.getD j (.Pass ⟨0, 0, 0, 0⟩)
  | _, _ => .Pass ⟨0, 0, 0, 0⟩
structure ErrK (P : Program) (w : World) (K : PySem.W.Frag) (mg : Str → Option Value) (base : Heap) (x f1 f2 : Str) (C fI : Addr) (fdI : FuncData) : Prop where
  c : ErrC K mg x f1 f2 C fI
  G : FnOk P w K mg base CX0 1 fI fdI ["self", f1, f2] (spInit2 K C f1 f2)
  b : Binds K fdI ["self", f1, f2] []
section
variable {P : Program} {w : World} {K : PySem.W.Frag} {mg : Str → Option Value} {base : Heap}
/-- a def that may raise -/
theorem okN {x qual : Str} {st : Stmt} {f : Addr} {fd : FuncData} {N ps : List Str} {k : Nat} {sp : Sp} (F : Fun K x qual st f fd) (S : FnScope N ps (defScope st)) (len : ∀ vs H Q E, sp vs H Q E → vs.length = ps.length)
    (hbody : ∀ (cdv : Value) (A : Around) (outer : List Env) (s : Shared) (H : Hp) (vs : List V) (Q : VK) (E : XK), Room k (A.deeper (envOfC qual (defScope st) s.heap.objs.size f cdv)) → sp vs H Q E →
      ∃ t, PSs (cxOf (L2N.CX P w) P w K mg base N qual (defScope st) f cdv A outer s H E) (defBody st) t ∧ t { nx := fun _ H' => Q .non H', rt := Q } (start N vs) H) : FnOk P w K mg base (L2N.CX P w) (k + 1) f fd ps sp := by
  obtain ⟨oc, od, kV, doc, pm, an, cdv, ct, osl, rfl, lk, hcd⟩ := F.ex
  exact fn_of lk hcd S len fun A outer s H vs Q E hr h => hbody cdv A outer s H vs Q E hr h
/-- a def called where an exception is handled -/
theorem okH {x qual : Str} {st : Stmt} {f : Addr} {fd : FuncData} {N ps : List Str} {k : Nat} {sp : Sp} (F : Fun K x qual st f fd) (S : FnScope N ps (defScope st)) (len : ∀ vs H Q E, sp vs H Q E → vs.length = ps.length)
    (hbody : ∀ (cdv : Value) (A : Around) (outer : List Env) (s : Shared) (H : Hp) (vs : List V) (Q : VK) (E : XK) (p : Addr × Obj), L2H.Hot1 A p → L2H.RoomH k (A.deeper (envOfC qual (defScope st) s.heap.objs.size f cdv)) → sp vs H Q E →
      ∃ t, PSs (L2H.cxH CX0 P w K mg base N qual (defScope st) f cdv A outer s H E p) (defBody st) t ∧ t { nx := fun _ H' => Q .non H', rt := Q } (start N vs) H) : L2H.FnH P w K mg base CX0 (k + 1) f fd ps sp := by
  obtain ⟨oc, od, kV, doc, pm, an, cdv, ct, osl, rfl, lk, hcd⟩ := F.ex
  exact L2H.fn_ofH lk hcd S len fun A outer s H vs Q E p hot hr h => hbody cdv A outer s H vs Q E p hot hr h
/-- a walked def that may raise -/
structure CalX (P : Program) (w : World) (K : PySem.W.Frag) (mg : Str → Option Value) (base : Heap) (n : Nat) (x : Str) (ps : List Str) (sp : Sp) (g : Addr) (gd : FuncData) : Prop where
  G : FnOk P w K mg base (L2N.CX P w) n g gd ps sp
  m : mg x = some (.ref g)
  kp : PySem.W.keepIn K (.ref g) = true
  b : Binds K gd ps []
theorem Kn.calX {n : Nat} {x : Str} {st : Stmt} {ps : List Str} {sp : Sp} {g : Addr} {gd : FuncData} (k : Kn K mg x st ps g gd) (G : FnOk P w K mg base (L2N.CX P w) n g gd ps sp) : CalX P w K mg base n x ps sp g gd := ⟨G, k.m, k.F.kp, k.b⟩
structure CalH (P : Program) (w : World) (K : PySem.W.Frag) (mg : Str → Option Value) (base : Heap) (n : Nat) (x : Str) (ps : List Str) (sp : Sp) (g : Addr) (gd : FuncData) : Prop where
  G : L2H.FnH P w K mg base CX0 n g gd ps sp
  m : mg x = some (.ref g)
  kp : PySem.W.keepIn K (.ref g) = true
  b : Binds K gd ps []
theorem Kn.calH {n : Nat} {x : Str} {st : Stmt} {ps : List Str} {sp : Sp} {g : Addr} {gd : FuncData} (k : Kn K mg x st ps g gd) (G : L2H.FnH P w K mg base CX0 n g gd ps sp) : CalH P w K mg base n x ps sp g gd := ⟨G, k.m, k.F.kp, k.b⟩
end
theorem takes0N {X : Cx} : L2N.Takes X (fun _ _ _ _ => False) := fun _ _ ⟨_, _, _, _, _, _, _, _, _, _, _, _, _, _, _, _, w⟩ => w.elim
theorem hotc {X : Cx} {a : Addr} {oe : Obj} {cls : Value} {d : Option Addr} {pn : List (Addr × Obj)} (hz : L2N.Zn cls d oe) (hf : ∃ vs, oe.data = .fields vs) : L2H.HotC (X.suite a ((a, oe) :: pn)) := by
  obtain ⟨vs, e⟩ := hf
  exact ⟨(a, oe), ⟨rfl, vs, e, hz.2.2 vs e⟩, List.mem_cons_self⟩
theorem hotp {CX : CXT} {P : Program} {w : World} {K : PySem.W.Frag} {mg : Str → Option Value} {base : Heap} {N : List Str} {qual : Str} {scope : Scope} {f : Addr} {cd : Value} {A : Around} {outer : List Env} {s : Shared} {H : Hp} {E : XK} {p : Addr × Obj} (h : L2H.Hot1 A p) :
    L2H.HotC (L2H.cxH CX P w K mg base N qual scope f cd A outer s H E p) := ⟨p, h, List.mem_cons_self⟩
theorem passN {X : Cx} {E : XK} : ∀ σ : L2.St, PassesAt CX0 X σ E := fun _ _ _ _ _ _ _ h => h.elim
theorem err_mk {K : PySem.W.Frag} {mg : Str → Option Value} {x f1 f2 : Str} {C fI N : Addr} {nm q : Str} {bs sub bm : List Value} {sn : List Str} {ab : Bool} {col : Option Bool} {dd : Option Addr} {m0 m1 m2 m3 m5 : Option Value}
    (gC : mg x = some (.ref C)) (xL : K.lookup C = some (excClassObj nm q C N bs bm true sn sub ab col dd m0 m1 m2 m3 m5 "ValueError.__new__")) (hb : PySem.HandSPX.refsVE bm = true)
    (sa : PySem.W.findIn K (.ref C) "__setattr__" = some (some (.builtin "object.__setattr__"))) (ga : PySem.W.findIn K (.ref C) "__getattribute__" = some (some (.builtin "BaseException.__getattribute__"))) (gg : PySem.W.findIn K (.ref C) "__getattr__" = some none)
    (n1 : PySem.W.findIn K (.ref C) f1 = some none) (n2 : PySem.W.findIn K (.ref C) f2 = some none) (iC : PySem.W.findIn K (.ref C) "__init__" = some (some (.ref fI))) (tI : PySem.W.typeIn K (.ref fI) = some (.type "function"))
    (kC : PySem.W.keepIn K (.ref C) = true) (eC : PySem.W.subIn K (.ref C) (.type "BaseException") = some true) (tC : PySem.W.typeIn K (.ref C) = some (.type "type")) (hC : PySem.W.hasDictIn K C = true) (sC : PySem.W.subIn K (.ref C) (.ref C) = some true) : ErrC K mg x f1 f2 C fI :=
  ⟨gC, ⟨⟨nm, q, N, bs, bm, sn, sub, ab, col, dd, m0, m1, m2, m3, m5, xL, hb⟩, sa, eC, tC, kC⟩, iC, tI, n1, n2, ⟨ga, gg, eC, hC⟩, PySem.W.exm_ref eC hC tC sC⟩
end Lt

set_option autoImplicit false
namespace Lt
open PySem L2 TL
open C8 (pss_cut)
/-! ## data compared: tuples of tuples -/
mutual
def pyOf : D → PyData
  | .s .non => .none
  | .s (.bl b) => .bool b
  | .s (.int i) => .int i
  | .s (.str x) => .str x
  | .s _ => .none
  | .t ds => .tuple (pyOfL ds)
def pyOfL : List D → List PyData
  | [] => []
  | d :: ds => pyOf d :: pyOfL ds
end
def sCl : V → Bool
  | .str x => PyData.strOk x
  | _ => true
def sNb : V → Bool
  | .non => true
  | .int _ => true
  | .str _ => true
  | _ => false
mutual
def D.cl : D → Bool
  | .s v => sCl v
  | .t ds => clL ds
def clL : List D → Bool
  | [] => true
  | d :: ds => d.cl && clL ds
end
mutual
theorem Tp.py {K : PySem.W.Frag} {H : Hp} : ∀ {d : D} {v : V}, Tp H v d → Dp K H v (pyOf d)
  | .s v, _, h => by
    cases h with
    | s hs =>
      cases v with
      | non => exact .non
      | bl b => exact .bl b
      | int i => exact .int i
      | str x => exact .str x
      | byt _ => cases hs
      | flt _ => cases hs
      | ref _ => cases hs
      | ty _ => cases hs
  | .t ds, _, h => by cases h with | t h r => exact .tup (SqT.of h) (TpL.py r)
theorem TpL.py {K : PySem.W.Frag} {H : Hp} : ∀ {ds : List D} {vs : List V}, TpL H vs ds → DpAll K H vs (pyOfL ds)
  | [], _, h => by cases h; exact .nil
  | d :: ds, _, h => by cases h with | cons h r => exact .cons (Tp.py h) (TpL.py r)
end
mutual
theorem lay_of : ∀ (d : D), d.cl = true → PyData.canLay0 (pyOf d) = true
  | .s v, h => by
    simp only [D.cl] at h
    cases v <;> first | rfl | exact h
  | .t ds, h => by simp only [pyOf, PyData.canLay0]; exact layL_of ds h
theorem layL_of : ∀ (ds : List D), clL ds = true → PyData.canLayAll0 (pyOfL ds) = true
  | [], _ => rfl
  | d :: ds, h => by
    simp only [clL, Bool.and_eq_true] at h
    simp only [pyOfL, PyData.canLayAll0, Bool.and_eq_true]
    exact ⟨lay_of d h.1, layL_of ds h.2⟩
end
mutual
theorem depth_of : ∀ (d : D), PyData.depth (pyOf d) ≤ d.dp + 1
  | .s v => by cases v <;> simp [pyOf, PyData.depth, D.dp]
  | .t ds => by
    have := depthL_of ds
    simp only [pyOf, PyData.depth, D.dp]; omega
theorem depthL_of : ∀ (ds : List D), PyData.depthAll (pyOfL ds) ≤ dpL ds + 1
  | [] => by simp [pyOfL, PyData.depthAll]
  | d :: ds => by
    have a := depth_of d
    have b := depthL_of ds
    simp only [pyOfL, PyData.depthAll, dpL]; omega
end
theorem shaped_of {d : D} (h : d.cl = true) (k : d.dp ≤ 20) : SeqAt.shaped (pyOf d) = true := by
  have := depth_of d
  unfold SeqAt.shaped
  rw [lay_of d h, Bool.true_and]
  exact decide_eq_true (by omega)
theorem shapedL_of {ds : List D} (h : clL ds = true) (k : dpL ds ≤ 20) : SeqAt.shaped (.list (pyOfL ds)) = true := by
  have := depthL_of ds
  unfold SeqAt.shaped
  simp only [PyData.canLay0, PyData.depth]
  rw [layL_of ds h, Bool.true_and]
  exact decide_eq_true (by omega)
theorem pyOfL_map : ∀ ds : List D, pyOfL ds = ds.map pyOf
  | [] => rfl
  | d :: ds => by simp only [pyOfL, List.map_cons]; rw [pyOfL_map ds]
/-! ### a condition told by its text -/
def CondOk (c : Cond) : Prop := ∀ a ∈ c, ∀ cl ∈ a, PyData.strOk cl.n = true ∧ PyData.strOk cl.op = true ∧ ClG cl
theorem clL_all {ds : List D} : clL ds = true ↔ ∀ d ∈ ds, d.cl = true := by
  induction ds with
  | nil => exact ⟨fun _ d hd => (by cases hd), fun _ => rfl⟩
  | cons d ds ih =>
    have e : clL (d :: ds) = (d.cl && clL ds) := by simp only [clL]
    rw [e, Bool.and_eq_true, List.forall_mem_cons, ih]
theorem cl_val {v : V} (h : v = .non ∨ (∃ i : Int, v = .int i) ∨ ∃ z : Str, v = .str z ∧ PyData.strOk z = true) : sCl v = true := by
  rcases h with e | ⟨i, e⟩ | ⟨z, e, hz⟩ <;> subst e <;> first | rfl | exact hz
theorem ClG.three {cl : Cl} (h : ClG cl) : cl.v = .non ∨ (∃ i : Int, cl.v = .int i) ∨ ∃ z : Str, cl.v = .str z ∧ PyData.strOk z = true := by
  rcases h with e | ⟨i, e, _⟩ | ⟨z, e, _, hz⟩
  · exact .inl e
  · exact .inr (.inl ⟨i, e⟩)
  · exact .inr (.inr ⟨z, e, strOk_of hz⟩)
theorem cond_cl {c : Cond} (h : CondOk c) : (condD c).cl = true := by
  simp only [condD, D.cl]
  refine clL_all.mpr fun d hd => ?_
  obtain ⟨a, ha, rfl⟩ := List.mem_map.mp hd
  simp only [altD, D.cl]
  refine clL_all.mpr fun d hd => ?_
  obtain ⟨cl, hcl, rfl⟩ := List.mem_map.mp hd
  obtain ⟨h1, h2, h3⟩ := h a ha cl hcl
  simp only [clD, D.cl]
  simp only [clL, D.cl, sCl, h1, h2, Bool.true_and, Bool.and_true]
  exact cl_val h3.three
/-! ### equal data -/
mutual
/-- no truth values, no things that have no data -/
def D.nb : D → Bool
  | .s v => sNb v
  | .t ds => nbL ds
def nbL : List D → Bool
  | [] => true
  | d :: ds => d.nb && nbL ds
end
theorem nb_val {v : V} (h : v = .non ∨ (∃ i : Int, v = .int i) ∨ ∃ z : Str, v = .str z ∧ PyData.strOk z = true) : sNb v = true := by
  rcases h with e | ⟨i, e⟩ | ⟨z, e, hz⟩ <;> subst e <;> rfl
theorem nbL_all {ds : List D} : nbL ds = true ↔ ∀ d ∈ ds, d.nb = true := by
  induction ds with
  | nil => exact ⟨fun _ d hd => (by cases hd), fun _ => rfl⟩
  | cons d ds ih =>
    have e : nbL (d :: ds) = (d.nb && nbL ds) := by simp only [nbL]
    rw [e, Bool.and_eq_true, List.forall_mem_cons, ih]
mutual
theorem eqv_inj : ∀ (d e : D), d.nb = true → e.nb = true → PyData.eqv (pyOf d) (pyOf e) = true → d = e
  | .s .non, .s .non, _, _, _ => rfl
  | .s .non, .s (.int _), _, _, h => by simp [pyOf, PyData.eqv] at h
  | .s .non, .s (.str _), _, _, h => by simp [pyOf, PyData.eqv] at h
  | .s (.int _), .s .non, _, _, h => by simp [pyOf, PyData.eqv] at h
  | .s (.int i), .s (.int j), _, _, h => by simp [pyOf, PyData.eqv] at h; rw [h]
  | .s (.int _), .s (.str _), _, _, h => by simp [pyOf, PyData.eqv] at h
  | .s (.str _), .s .non, _, _, h => by simp [pyOf, PyData.eqv] at h
  | .s (.str _), .s (.int _), _, _, h => by simp [pyOf, PyData.eqv] at h
  | .s (.str i), .s (.str j), _, _, h => by simp [pyOf, PyData.eqv] at h; rw [h]
  | .s .non, .t _, _, _, h => by simp [pyOf, PyData.eqv] at h
  | .s (.int _), .t _, _, _, h => by simp [pyOf, PyData.eqv] at h
  | .s (.str _), .t _, _, _, h => by simp [pyOf, PyData.eqv] at h
  | .t _, .s .non, _, _, h => by simp [pyOf, PyData.eqv] at h
  | .t _, .s (.int _), _, _, h => by simp [pyOf, PyData.eqv] at h
  | .t _, .s (.str _), _, _, h => by simp [pyOf, PyData.eqv] at h
  | .t ds, .t es, h1, h2, h => by
    simp only [pyOf, PyData.eqv] at h
    rw [eqvL_inj ds es h1 h2 h]
  | .s (.bl _), _, h, _, _ => by simp [D.nb, sNb] at h
  | .s (.byt _), _, h, _, _ => by simp [D.nb, sNb] at h
  | .s (.flt _), _, h, _, _ => by simp [D.nb, sNb] at h
  | .s (.ref _), _, h, _, _ => by simp [D.nb, sNb] at h
  | .s (.ty _), _, h, _, _ => by simp [D.nb, sNb] at h
  | _, .s (.bl _), _, h, _ => by simp [D.nb, sNb] at h
  | _, .s (.byt _), _, h, _ => by simp [D.nb, sNb] at h
  | _, .s (.flt _), _, h, _ => by simp [D.nb, sNb] at h
  | _, .s (.ref _), _, h, _ => by simp [D.nb, sNb] at h
  | _, .s (.ty _), _, h, _ => by simp [D.nb, sNb] at h
theorem eqvL_inj : ∀ (ds es : List D), nbL ds = true → nbL es = true → PyData.eqvAll (pyOfL ds) (pyOfL es) = true → ds = es
  | [], [], _, _, _ => rfl
  | [], _ :: _, _, _, h => by simp [pyOfL, PyData.eqvAll] at h
  | _ :: _, [], _, _, h => by simp [pyOfL, PyData.eqvAll] at h
  | d :: ds, e :: es, h1, h2, h => by
    simp only [nbL, Bool.and_eq_true] at h1 h2
    simp only [pyOfL, PyData.eqvAll, Bool.and_eq_true] at h
    rw [eqv_inj d e h1.1 h2.1 h.1, eqvL_inj ds es h1.2 h2.2 h.2]
end
mutual
theorem eqv_refl : ∀ (d : D), d.nb = true → PyData.eqv (pyOf d) (pyOf d) = true
  | .s .non, _ => rfl
  | .s (.int i), _ => by simp [pyOf, PyData.eqv]
  | .s (.str x), _ => by simp [pyOf, PyData.eqv]
  | .s (.bl _), h => by simp [D.nb, sNb] at h
  | .s (.byt _), h => by simp [D.nb, sNb] at h
  | .s (.flt _), h => by simp [D.nb, sNb] at h
  | .s (.ref _), h => by simp [D.nb, sNb] at h
  | .s (.ty _), h => by simp [D.nb, sNb] at h
  | .t ds, h => by simp only [pyOf, PyData.eqv]; exact eqvL_refl ds h
theorem eqvL_refl : ∀ (ds : List D), nbL ds = true → PyData.eqvAll (pyOfL ds) (pyOfL ds) = true
  | [], _ => rfl
  | d :: ds, h => by
    simp only [nbL, Bool.and_eq_true] at h
    simp only [pyOfL, PyData.eqvAll, Bool.and_eq_true]
    exact ⟨eqv_refl d h.1, eqvL_refl ds h.2⟩
end
theorem cond_nb {c : Cond} (h : CondOk c) : (condD c).nb = true := by
  simp only [condD, D.nb]
  refine nbL_all.mpr fun d hd => ?_
  obtain ⟨a, ha, rfl⟩ := List.mem_map.mp hd
  simp only [altD, D.nb]
  refine nbL_all.mpr fun d hd => ?_
  obtain ⟨cl, hcl, rfl⟩ := List.mem_map.mp hd
  simp only [clD, D.nb]
  simp only [nbL, D.nb, sNb, Bool.true_and, Bool.and_true]
  exact nb_val (h a ha cl hcl).2.2.three
theorem clD_inj {a b : Cl} (h : clD a = clD b) : a = b := by
  cases a; cases b
  simp only [clD, D.t.injEq, List.cons.injEq, D.s.injEq, V.str.injEq, and_true] at h
  obtain ⟨h1, h2, h3⟩ := h
  subst h1 h2 h3
  rfl
theorem mapD_inj {α : Type} {f : α → D} (hf : ∀ a b, f a = f b → a = b) : ∀ {xs ys : List α}, xs.map f = ys.map f → xs = ys
  | [], [], _ => rfl
  | [], _ :: _, h => by simp at h
  | _ :: _, [], h => by simp at h
  | x :: xs, y :: ys, h => by
    simp only [List.map_cons, List.cons.injEq] at h
    rw [hf x y h.1, mapD_inj hf h.2]
theorem condD_inj {a b : Cond} (h : condD a = condD b) : a = b := mapD_inj (fun x y e => mapD_inj (fun _ _ => clD_inj) (D.t.inj e)) (D.t.inj h)
theorem rfD_inj {a b : Str × Str} (h : rfD a = rfD b) : a = b := by
  cases a; cases b
  simp only [rfD, D.t.injEq, List.cons.injEq, D.s.injEq, V.str.injEq, and_true] at h
  obtain ⟨h1, h2⟩ := h
  subst h1 h2
  rfl
def memB {α : Type} [DecidableEq α] (xs : List α) (x : α) : Bool := xs.any fun y => decide (y = x)
theorem memB_iff {α : Type} [DecidableEq α] {xs : List α} {x : α} : memB xs x = true ↔ x ∈ xs := by
  unfold memB
  rw [List.any_eq_true]
  exact ⟨fun ⟨y, h1, h2⟩ => (of_decide_eq_true h2) ▸ h1, fun h => ⟨x, h, decide_eq_true rfl⟩⟩
def delFirst {α : Type} [DecidableEq α] (xs : List α) (x : α) : List α := match xs.findIdx? (fun y => decide (y = x)) with | some j => xs.eraseIdx j | none => xs
/-- is d among them -/
theorem any_eqv {α : Type} [DecidableEq α] {f : α → D} (hf : ∀ a b, f a = f b → a = b) {xs : List α} {x : α} (h : ∀ y ∈ xs, (f y).nb = true) (hx : (f x).nb = true) : ((pyOfL (xs.map f)).any fun z => PyData.eqv z (pyOf (f x))) = memB xs x := by
  rw [Bool.eq_iff_iff, List.any_eq_true, memB_iff, pyOfL_map, List.map_map]
  constructor
  · rintro ⟨z, hz, e⟩
    obtain ⟨y, hy, rfl⟩ := List.mem_map.mp hz
    rw [← hf y x (eqv_inj _ _ (h y hy) hx e)]
    exact hy
  · intro hm
    exact ⟨_, List.mem_map.mpr ⟨x, hm, rfl⟩, eqv_refl _ hx⟩
/-- the place of the first one that is the same -/
theorem place_eqv {α : Type} [DecidableEq α] {f : α → D} (hf : ∀ a b, f a = f b → a = b) {xs : List α} {x : α} (h : ∀ y ∈ xs, (f y).nb = true) (hx : memB xs x = true) : ∃ j, (pyOfL (xs.map f)).findIdx? (fun z => PyData.eqv z (pyOf (f x))) = some j ∧ xs.eraseIdx j = delFirst xs x := by
  have hm := memB_iff.mp hx
  have e : (pyOfL (xs.map f)).findIdx? (fun z => PyData.eqv z (pyOf (f x))) = xs.findIdx? (fun y => decide (y = x)) := by
    rw [pyOfL_map, List.map_map, List.findIdx?_map]
    have g : ∀ {ys : List α}, (∀ y ∈ ys, (f y).nb = true) → ys.findIdx? ((fun z => PyData.eqv z (pyOf (f x))) ∘ (pyOf ∘ f)) = ys.findIdx? (fun y => decide (y = x)) := by
      intro ys
      induction ys with
      | nil => intro _; rfl
      | cons y r ih =>
        intro he
        have ey : ((fun z => PyData.eqv z (pyOf (f x))) ∘ (pyOf ∘ f)) y = decide (y = x) := by
          show PyData.eqv (pyOf (f y)) (pyOf (f x)) = _
          rw [Bool.eq_iff_iff, decide_eq_true_iff]
          exact ⟨fun z => hf _ _ (eqv_inj _ _ (he y List.mem_cons_self) (h x hm) z), fun z => by rw [z]; exact eqv_refl _ (h x hm)⟩
        rw [List.findIdx?_cons, List.findIdx?_cons, ey, ih (fun z hz => he z (List.mem_cons_of_mem _ hz))]
    exact g h
  cases ej : xs.findIdx? (fun y => decide (y = x)) with
  | none =>
    have := List.findIdx?_eq_none_iff.mp ej x hm
    simp at this
  | some j => exact ⟨j, by rw [e, ej], by unfold delFirst; rw [ej]⟩
/-- l.remove(x), data that are not of dicts, x in l -/
def rRemD (K : PySem.W.Frag) : V → List V → Hp → VK → Prop := fun x xs H Q => ∃ (l : Addr) (y : V) (d : PyData) (ds : List PyData) (zs : List V) (j : Nat), x = .ref l ∧ xs = [y] ∧ H l = some (.lst zs) ∧ DpAll K H zs ds ∧ Dp K H y d ∧
  PyData.plainAll ds = true ∧ d.plain = true ∧ d.depth ≤ 60 ∧ ds.findIdx? (fun z => PyData.eqv z d) = some j ∧ Q .non (upd H l (.lst (zs.eraseIdx j)))
section
variable {X : Cx}
open PySem.Spec PyProof.Rows in
theorem mt_removeD (hu : X.A.units + 65 < cLine) : MtM X "list.remove" (rRemD X.K) := by
  rintro pins s σ H x xs v us Q I rx rxs ⟨l, y, d, ds, zs, j, rfl, rfl, hH, ha, hy, pl, pd, dd, hj, q⟩
  cases rx
  obtain ⟨uy, rfl, ry⟩ := rxs.one
  obtain ⟨z, its, n, rv, hl, e⟩ := I.lstM hH
  obtain ⟨bs, r1⟩ := Dp.reads I d y uy hy ry
  obtain ⟨as, r2⟩ := Dp.readsAll I ds _ its ha rv
  have il : s.heap.IsList l its.toArray := ⟨_, e, rfl, n, rfl⟩
  have room : X.A.units + 1 + min (PyData.depthAll ds) d.depth < cLine := by
    have := Nat.min_le_right (PyData.depthAll ds) d.depth
    omega
  refine PySem.SeqAt.remove_list_data il (as := as) (bs := bs) r2 r1 pl pd room hj (by rw [List.size_toArray, ← hl]; exact z) ?_
  refine ⟨.non, _, I.lset (its' := its.eraseIdx j) (t' := s.toks) hH e ?_ (rv.eraseIdx j) ?_, rfl, q⟩
  · rw [List.eraseIdxIfInBounds_toArray]
  · have := List.length_eraseIdx_le zs j
    omega
end
end Lt

set_option autoImplicit false
namespace Lt
open PySem L2 TL
open C8 (pss_cut)
instance decCl : DecidableEq Cl := fun a b => decidable_of_iff (a.n = b.n ∧ a.op = b.op ∧ a.v = b.v) ⟨fun ⟨h1, h2, h3⟩ => by
  cases a; cases b
  simp only at h1 h2 h3
  rw [h1, h2, h3], fun h => by rw [h]; exact ⟨rfl, rfl, rfl⟩⟩
/-! ## tables that are well formed -/
structure TabV (t : Tab) : Prop where
  nm : nameOk t.n
  co : ColsOk [] t.cols
  l0 : 1 ≤ t.cols.length
  l8 : t.cols.length ≤ 8
  c4 : t.ch.length ≤ 4
  cc : ∀ c ∈ t.ch, c.length ≤ 4 ∧ (∀ a ∈ c, a.length ≤ 4) ∧ CondOk c
  u4 : t.un.length ≤ 4
  un : ∀ x ∈ t.un, PyData.strOk x = true
  r4 : t.rf.length ≤ 4
  rf : ∀ p ∈ t.rf, PyData.strOk p.1 = true ∧ PyData.strOk p.2 = true
theorem TabV.sm {t : Tab} (h : TabV t) : TabSm t := by
  have h1 := h.l8
  have h2 := h.c4
  have h3 := h.u4
  have h4 := h.r4
  exact ⟨by omega, by omega, fun c hc => by
    obtain ⟨a, b, _⟩ := h.cc c hc
    exact ⟨by omega, fun x hx => by have := b x hx; omega⟩, by omega, by omega⟩
theorem colN_ok {cols : List Col} (h : ColsOk [] cols) {n : Str} (hn : n ∈ colNs cols) : PyData.strOk n = true := (h.fr n hn).2.str
theorem ClOk.text {cols : List Col} (co : ColsOk [] cols) {cl : Cl} (h : ClOk cols cl) : PyData.strOk cl.n = true ∧ PyData.strOk cl.op = true ∧ ClG cl := by
  obtain ⟨h1, col, h2, h3, h4⟩ := h
  refine ⟨?_, h1, ClOk.g ⟨h1, col, h2, h3, h4⟩⟩
  rw [h3]
  exact colN_ok co (List.mem_map.mpr ⟨col, h2, rfl⟩)
theorem TabOk.v {fr : List (Str × List Col)} {t : Tab} (h : TabOk fr t) (hf : ∀ f ∈ fr, PyData.strOk f.1 = true) : TabV t := by
  have h1 := h.l5
  have h2 := h.c4
  refine ⟨h.nm, h.co, h.l0, by omega, by omega, fun c hc => ?_, h.u4, fun x hx => ?_, h.r4, fun p hp => ?_⟩
  · obtain ⟨a, b⟩ := h.cc c hc
    exact ⟨a, fun x hx => (b x hx).1, fun x hx cl hcl => ((b x hx).2 cl hcl).text h.co⟩
  · have := h.uc x hx
    unfold colNs at this
    rw [List.map_drop] at this
    exact colN_ok h.co (List.mem_of_mem_drop this)
  · obtain ⟨col, h1, h2, _, f, h3, h4, _⟩ := h.rc p hp
    refine ⟨?_, by rw [← h4]; exact hf f h3⟩
    rw [← h2]
    exact colN_ok h.co (List.mem_map.mpr ⟨col, List.mem_of_mem_drop h1, rfl⟩)
/-- a schema stands at S -/
structure ScV (H : Hp) (S : Addr) (s : Sch) : Prop where
  sk : H S = some (.dK (schK s))
  ds : ∀ p ∈ s, DescAt H p.1 p.2
  nm : (schN s).Nodup
  ok : ∀ p ∈ s, TabV p.2
  l6 : s.length ≤ 6
theorem ScV.mono {H H' : Hp} {S : Addr} {s : Sch} (h : ScV H S s) (e : Same H H') : ScV H' S s := ⟨e _ _ h.sk, fun p hp => (h.ds p hp).mono e, h.nm, h.ok, h.l6⟩
theorem SchAt.v {H : Hp} {S t c : Addr} {s : Sch} (A : SchAt H S s t c) (ok : ∀ p ∈ s, TabOk (frOf s) p.2) (l6 : s.length ≤ 6) : ScV H S s := ⟨A.sk, A.ds, A.nm, fun p hp => (ok p hp).v fun f hf => by
  obtain ⟨q, hq, rfl⟩ := List.mem_map.mp hf
  exact (ok q hq).nm.str, l6⟩
theorem ScV.in' {H : Hp} {S : Addr} {s : Sch} (h : ScV H S s) {n : Str} : DGet H S (.str n) (valV (schK s) (Sum.inr n : Key)) := DGet.k (k := (Sum.inr n : Key)) h.sk
theorem sch_some {s : Sch} {n : Str} : (valV (schK s) (Sum.inr n : Key)).isSome = decide (n ∈ schN s) := by
  rw [Bool.eq_iff_iff, valV_isSome, sch_keys, decide_eq_true_iff]
  constructor
  · intro h
    obtain ⟨x, h1, h2⟩ := List.mem_map.mp h
    cases h2
    exact h1
  · intro h
    exact List.mem_map.mpr ⟨n, h, rfl⟩
/-! ## the parts of a table that bear constraints -/
inductive Pt | c | u | r
def ptN : Pt → Str
  | .c => "checks"
  | .u => "uniques"
  | .r => "references"
def ptA (a : Ads) : Pt → Addr
  | .c => a.k
  | .u => a.u
  | .r => a.r
def ptD (t : Tab) : Pt → List D
  | .c => t.ch.map condD
  | .u => t.un.map fun x => .s (.str x)
  | .r => t.rf.map rfD
def ptL (t : Tab) : Pt → Nat
  | .c => t.ch.length
  | .u => t.un.length
  | .r => t.rf.length
theorem ptD_len (t : Tab) (p : Pt) : (ptD t p).length = ptL t p := by cases p <;> exact List.length_map _
theorem strs_tp {H : Hp} : ∀ xs : List Str, TpL H (xs.map V.str) (xs.map fun x => D.s (.str x))
  | [] => .nil
  | x :: r => .cons (.s rfl) (strs_tp r)
theorem DescAt.part {H : Hp} {a : Ads} {t : Tab} (h : DescAt H a t) (p : Pt) : DGet H a.d (.str (ptN p)) (some (.ref (ptA a p))) ∧ ∃ xs, H (ptA a p) = some (.lst xs) ∧ TpL H xs (ptD t p) := by
  cases p
  · exact ⟨h.gk, h.ch⟩
  · exact ⟨h.gu, _, h.un, strs_tp _⟩
  · exact ⟨h.gr, h.rf⟩
inductive It
  | c (x : Cond)
  | u (x : Str)
  | r (x : Str × Str)
def itP : It → Pt
  | .c _ => .c
  | .u _ => .u
  | .r _ => .r
def itD : It → D
  | .c x => condD x
  | .u x => .s (.str x)
  | .r x => rfD x
def itOk : It → Prop
  | .c x => x.length ≤ 4 ∧ (∀ a ∈ x, a.length ≤ 4) ∧ CondOk x
  | .u x => PyData.strOk x = true
  | .r x => PyData.strOk x.1 = true ∧ PyData.strOk x.2 = true
def hasIt (t : Tab) : It → Bool
  | .c x => memB t.ch x
  | .u x => memB t.un x
  | .r x => memB t.rf x
def addIt (t : Tab) : It → Tab
  | .c x => { t with ch := t.ch ++ [x] }
  | .u x => { t with un := t.un ++ [x] }
  | .r x => { t with rf := t.rf ++ [x] }
def delIt (t : Tab) : It → Tab
  | .c x => { t with ch := delFirst t.ch x }
  | .u x => { t with un := delFirst t.un x }
  | .r x => { t with rf := delFirst t.rf x }
theorem itD_nb {i : It} (h : itOk i) : (itD i).nb = true ∧ (itD i).cl = true ∧ (itD i).dp ≤ 3 := by
  cases i with
  | c x => exact ⟨cond_nb h.2.2, cond_cl h.2.2, cond_dp x⟩
  | u x => exact ⟨rfl, h, Nat.zero_le _⟩
  | r x =>
    obtain ⟨h1, h2⟩ := h
    refine ⟨rfl, ?_, (by show (rfD x).dp ≤ 3; rw [rf_dp]; decide)⟩
    show clL [.s (.str x.1), .s (.str x.2)] = true
    simp only [clL, D.cl, sCl]
    rw [h1, h2]; rfl
theorem ptD_ok {t : Tab} (v : TabV t) (p : Pt) : clL (ptD t p) = true ∧ dpL (ptD t p) ≤ 3 := by
  cases p
  · exact ⟨clL_all.mpr fun d hd => by obtain ⟨x, hx, rfl⟩ := List.mem_map.mp hd; exact (itD_nb (i := .c x) (v.cc x hx)).2.1, dpL_le fun d hd => by obtain ⟨x, hx, rfl⟩ := List.mem_map.mp hd; exact cond_dp x⟩
  · exact ⟨clL_all.mpr fun d hd => by obtain ⟨x, hx, rfl⟩ := List.mem_map.mp hd; exact v.un x hx, dpL_le fun d hd => by obtain ⟨x, hx, rfl⟩ := List.mem_map.mp hd; exact Nat.zero_le _⟩
  · exact ⟨clL_all.mpr fun d hd => by obtain ⟨x, hx, rfl⟩ := List.mem_map.mp hd; exact (itD_nb (i := .r x) (v.rf x hx)).2.1, dpL_le fun d hd => by obtain ⟨x, hx, rfl⟩ := List.mem_map.mp hd; exact (by rw [rf_dp]; decide)⟩
theorem str_injD {a b : Str} (h : D.s (.str a) = D.s (.str b)) : a = b := V.str.inj (D.s.inj h)
theorem has_any {t : Tab} (v : TabV t) {i : It} (h : itOk i) : ((pyOfL (ptD t (itP i))).any fun z => PyData.eqv z (pyOf (itD i))) = hasIt t i := by
  cases i with
  | c x => exact any_eqv (fun _ _ => condD_inj) (fun y hy => cond_nb (v.cc y hy).2.2) (cond_nb h.2.2)
  | u x => exact any_eqv (f := fun x => D.s (.str x)) (fun _ _ => str_injD) (fun y hy => rfl) rfl
  | r x => exact any_eqv (fun _ _ => rfD_inj) (fun y hy => rfl) rfl
theorem eraseIdx_map' {α β : Type} (f : α → β) : ∀ (xs : List α) (j : Nat), (xs.map f).eraseIdx j = (xs.eraseIdx j).map f
  | [], _ => rfl
  | x :: xs, 0 => rfl
  | x :: xs, j + 1 => by simp only [List.map_cons, List.eraseIdx_cons_succ, eraseIdx_map' f xs j]
theorem del_place {t : Tab} (v : TabV t) {i : It} (h : itOk i) (hi : hasIt t i = true) : ∃ j, (pyOfL (ptD t (itP i))).findIdx? (fun z => PyData.eqv z (pyOf (itD i))) = some j ∧ (ptD t (itP i)).eraseIdx j = ptD (delIt t i) (itP i) := by
  cases i with
  | c x =>
    obtain ⟨j, h1, h2⟩ := place_eqv (f := condD) (fun _ _ => condD_inj) (fun y hy => cond_nb (v.cc y hy).2.2) hi
    exact ⟨j, h1, by show (t.ch.map condD).eraseIdx _ = (delFirst t.ch x).map condD; rw [eraseIdx_map', h2]⟩
  | u x =>
    obtain ⟨j, h1, h2⟩ := place_eqv (f := fun x => D.s (.str x)) (fun _ _ => str_injD) (fun y hy => rfl) hi
    exact ⟨j, h1, by show (t.un.map fun x => D.s (.str x)).eraseIdx _ = (delFirst t.un x).map _; rw [eraseIdx_map', h2]⟩
  | r x =>
    obtain ⟨j, h1, h2⟩ := place_eqv (f := rfD) (fun _ _ => rfD_inj) (fun y hy => rfl) hi
    exact ⟨j, h1, by show (t.rf.map rfD).eraseIdx _ = (delFirst t.rf x).map rfD; rw [eraseIdx_map', h2]⟩
theorem TpL.eraseIdx {H : Hp} : ∀ {ds : List D} {vs : List V} (j : Nat), TpL H vs ds → TpL H (vs.eraseIdx j) (ds.eraseIdx j)
  | [], _, j, h => by cases h; exact .nil
  | d :: ds, _, 0, h => by cases h with | cons h r => exact r
  | d :: ds, _, j + 1, h => by cases h with | cons h r => exact .cons h (TpL.eraseIdx j r)
theorem tp_strs {H : Hp} : ∀ {xs : List Str} {vs : List V}, TpL H vs (xs.map fun x => D.s (.str x)) → vs = xs.map V.str
  | [], _, h => by cases h; rfl
  | x :: r, _, h => by
    cases h with
    | cons h q => cases h; rw [tp_strs q]; rfl
/-- a list of constraints has changed -/
theorem DescAt.setPart {H : Hp} {a : Ads} {t t' : Tab} {p : Pt} {xs : List V} (h : DescAt H a t) (nd : (adL a).Nodup) (hc : t'.cols = t.cols) (ho : ∀ q, q ≠ p → ptD t' q = ptD t q) (r : TpL H xs (ptD t' p)) : DescAt (upd H (ptA a p) (.lst xs)) a t' := by
  simp only [adL, List.nodup_cons, List.mem_cons, List.not_mem_nil, or_false, not_or] at nd
  obtain ⟨⟨n1, n2, n3⟩, ⟨n4, n5⟩, n6, _⟩ := nd
  obtain ⟨_, ys, hy, _⟩ := h.part p
  have kt : KeepT H (upd H (ptA a p) (.lst xs)) := KeepT.upd fun zs z => by rw [hy] at z; cases z
  have hd : a.d ≠ ptA a p := fun e => by have := h.dk; rw [e, hy] at this; cases this
  obtain ⟨xc, c1, c2⟩ := h.co
  have old : ∀ q, q ≠ p → ptA a q ≠ ptA a p := fun q hq => by
    cases p <;> cases q <;> first | exact absurd rfl hq | (show _ ≠ _; simp only [ptA]; first | exact n4 | exact n5 | exact n6 | exact Ne.symm n4 | exact Ne.symm n5 | exact Ne.symm n6)
  have one : ∀ q, ∃ zs, (upd H (ptA a p) (.lst xs)) (ptA a q) = some (.lst zs) ∧ TpL (upd H (ptA a p) (.lst xs)) zs (ptD t' q) := fun q => by
    by_cases e : q = p
    · subst e; exact ⟨xs, upd_same, r.mono kt⟩
    · obtain ⟨_, zs, h1, h2⟩ := h.part q
      exact ⟨zs, by rw [upd_ne (old q e)]; exact h1, by rw [ho q e]; exact h2.mono kt⟩
  have hcp : a.c ≠ ptA a p := by cases p <;> simp only [ptA] <;> assumption
  refine ⟨by rw [upd_ne hd]; exact h.dk, ⟨xc, by rw [upd_ne hcp]; exact c1, by rw [hc]; exact c2.mono kt⟩, one .c, ?_, one .r⟩
  obtain ⟨zs, h1, h2⟩ := one .u
  rw [tp_strs h2] at h1
  exact h1
theorem add_other (t : Tab) (i : It) : ∀ q, q ≠ itP i → ptD (addIt t i) q = ptD t q := fun q hq => by cases i <;> cases q <;> first | exact absurd rfl hq | rfl
theorem del_other (t : Tab) (i : It) : ∀ q, q ≠ itP i → ptD (delIt t i) q = ptD t q := fun q hq => by cases i <;> cases q <;> first | exact absurd rfl hq | rfl
theorem add_part (t : Tab) (i : It) : ptD (addIt t i) (itP i) = ptD t (itP i) ++ [itD i] := by cases i <;> simp [ptD, addIt, itP, itD]
theorem add_cols (t : Tab) (i : It) : (addIt t i).cols = t.cols ∧ (addIt t i).n = t.n := by cases i <;> exact ⟨rfl, rfl⟩
theorem del_cols (t : Tab) (i : It) : (delIt t i).cols = t.cols ∧ (delIt t i).n = t.n := by cases i <;> exact ⟨rfl, rfl⟩
theorem delFirst_sub {α : Type} [DecidableEq α] {xs : List α} {x : α} : (∀ y ∈ delFirst xs x, y ∈ xs) ∧ (delFirst xs x).length ≤ xs.length := by
  unfold delFirst
  split
  · exact ⟨fun y hy => List.mem_of_mem_eraseIdx hy, List.length_eraseIdx_le _ _⟩
  · exact ⟨fun y hy => hy, Nat.le_refl _⟩
theorem TabV.add {t : Tab} (v : TabV t) {i : It} (h : itOk i) (l : ptL t (itP i) < 4) : TabV (addIt t i) := by
  obtain ⟨h1, h2, h3, h4, h5, h6, h7, h8, h9, h10⟩ := v
  cases i with
  | c x => exact ⟨h1, h2, h3, h4, by show (t.ch ++ [x]).length ≤ 4; rw [List.length_append]; exact l, fun c hc => by
      rcases List.mem_append.mp hc with hc | hc
      · exact h6 c hc
      · rw [List.mem_singleton.mp hc]; exact h, h7, h8, h9, h10⟩
  | u x => exact ⟨h1, h2, h3, h4, h5, h6, by show (t.un ++ [x]).length ≤ 4; rw [List.length_append]; exact l, fun c hc => by
      rcases List.mem_append.mp hc with hc | hc
      · exact h8 c hc
      · rw [List.mem_singleton.mp hc]; exact h, h9, h10⟩
  | r x => exact ⟨h1, h2, h3, h4, h5, h6, h7, h8, by show (t.rf ++ [x]).length ≤ 4; rw [List.length_append]; exact l, fun c hc => by
      rcases List.mem_append.mp hc with hc | hc
      · exact h10 c hc
      · rw [List.mem_singleton.mp hc]; exact h⟩
theorem TabV.del {t : Tab} (v : TabV t) (i : It) : TabV (delIt t i) := by
  obtain ⟨h1, h2, h3, h4, h5, h6, h7, h8, h9, h10⟩ := v
  cases i with
  | c x => exact ⟨h1, h2, h3, h4, Nat.le_trans delFirst_sub.2 h5, fun c hc => h6 c (delFirst_sub.1 c hc), h7, h8, h9, h10⟩
  | u x => exact ⟨h1, h2, h3, h4, h5, h6, Nat.le_trans delFirst_sub.2 h7, fun c hc => h8 c (delFirst_sub.1 c hc), h9, h10⟩
  | r x => exact ⟨h1, h2, h3, h4, h5, h6, h7, h8, Nat.le_trans delFirst_sub.2 h9, fun c hc => h10 c (delFirst_sub.1 c hc)⟩
/-! ## steps on constraints -/
inductive LS
  | addC (t : Str) (c : Cond) | dropC (t : Str) (c : Cond)
  | addU (t n : Str) | dropU (t n : Str)
  | addR (t n o : Str) | dropR (t n o : Str)
def lsK : LS → Str
  | .addC .. => "add_check"
  | .dropC .. => "drop_check"
  | .addU .. => "add_unique"
  | .dropU .. => "drop_unique"
  | .addR .. => "add_reference"
  | .dropR .. => "drop_reference"
def lsT : LS → Str
  | .addC t _ => t
  | .dropC t _ => t
  | .addU t _ => t
  | .dropU t _ => t
  | .addR t _ _ => t
  | .dropR t _ _ => t
def lsI : LS → It
  | .addC _ c => .c c
  | .dropC _ c => .c c
  | .addU _ n => .u n
  | .dropU _ n => .u n
  | .addR _ n o => .r (n, o)
  | .dropR _ n o => .r (n, o)
def lsA : LS → Bool
  | .addC .. => true
  | .addU .. => true
  | .addR .. => true
  | _ => false
/-- what follows the kind and the table -/
def lsR : LS → List D
  | .addC _ c => [condD c]
  | .dropC _ c => [condD c]
  | .addU _ n => [.s (.str n)]
  | .dropU _ n => [.s (.str n)]
  | .addR _ n o => [.s (.str n), .s (.str o)]
  | .dropR _ n o => [.s (.str n), .s (.str o)]
def lsD (x : LS) : D := .t (.s (.str (lsK x)) :: .s (.str (lsT x)) :: lsR x)
def lsOk (x : LS) : Prop := itOk (lsI x) ∧ PyData.strOk (lsT x) = true
def tabOf (ts : List Tab) (n : Str) : Option Tab := ts.find? fun t => decide (t.n = n)
def keyN (t : Tab) : Str := (colNs t.cols).headD ""
def keyK (t : Tab) : Str := (t.cols.map (·.k)).headD ""
def fullM (ts : List Tab) (t : Tab) (p : Pt) : Str := if refdM ts t.n = true then "referenced" else if 4 ≤ ptL t p then "limit" else ""
def dropM (ts : List Tab) (t : Tab) (i : It) : Str := if hasIt t i = true then (if refdM ts t.n = true then "referenced" else "") else "missing"
def codeT (ts : List Tab) (x : Tab) : LS → Str
  | .addC _ c => if fitsM x.cols c = true then fullM ts x .c else "condition"
  | .addU _ n => if n ∈ colNs x.cols then (if n = keyN x then "key" else if memB x.un n = true then "taken" else fullM ts x .u) else "missing"
  | .addR t n o => if n ∈ colNs x.cols then (match tabOf ts o with
      | none => "missing"
      | some y => if n = keyN x then "key" else if t = o then "columns" else if kindAt x.cols n ≠ keyK y then "kind" else if memB x.rf (n, o) = true then "taken" else fullM ts x .r) else "missing"
  | .dropC _ c => dropM ts x (.c c)
  | .dropU _ n => dropM ts x (.u n)
  | .dropR _ n o => dropM ts x (.r (n, o))
def codeL (ts : List Tab) (l : LS) : Str := match tabOf ts (lsT l) with
  | none => "missing"
  | some x => codeT ts x l
def newT (x : Tab) (l : LS) : Tab := if lsA l = true then addIt x (lsI l) else delIt x (lsI l)
def targL (ts : List Tab) (l : LS) : List Tab := ts.map fun x => if x.n = lsT l then newT x l else x
theorem tabOf_in {s : Sch} (nm : (schN s).Nodup) {p : Ads × Tab} (hp : p ∈ s) : tabOf (s.map (·.2)) p.2.n = some p.2 := by
  unfold tabOf
  rw [List.find?_map]
  have e : ((fun t : Tab => decide (t.n = p.2.n)) ∘ fun x : Ads × Tab => x.2) = fun q : Ads × Tab => decide (q.2.n = p.2.n) := rfl
  rw [e, sch_find nm hp]
  rfl
theorem tabOf_out {s : Sch} {n : Str} (h : n ∉ schN s) : tabOf (s.map (·.2)) n = none := by
  unfold tabOf
  rw [List.find?_eq_none]
  intro t ht
  obtain ⟨p, hp, rfl⟩ := List.mem_map.mp ht
  simp only [decide_eq_true_eq]
  exact fun e => h (List.mem_map.mpr ⟨p, hp, e⟩)
def tbs (s : Sch) : List Tab := s.map (·.2)
def spLacks : Sp := fun vs H Q _ => ∃ (S : Addr) (s : Sch) (t n : Str) (L : Addr), vs = [.ref S, .str t, .ref L] ∧ ScV H S s ∧ H L = some (.lst [.str n]) ∧ ∀ H', Same H H' → Q (.bl (match tabOf (tbs s) t with | none => true | some x => !decide (n ∈ colNs x.cols))) H'
def spKeyName : Sp := fun vs H Q _ => ∃ (a : Ads) (t : Tab), vs = [.ref a.d] ∧ DescAt H a t ∧ 1 ≤ t.cols.length ∧ Q (.str (keyN t)) H
def spKeyKind : Sp := fun vs H Q _ => ∃ (a : Ads) (t : Tab), vs = [.ref a.d] ∧ DescAt H a t ∧ 1 ≤ t.cols.length ∧ Q (.str (keyK t)) H
def spColCalled : Sp := fun vs H Q _ => ∃ (a : Ads) (t : Tab) (n : Str), vs = [.ref a.d, .str n] ∧ DescAt H a t ∧ t.cols.length ≤ 40 ∧ n ∈ colNs t.cols ∧ ∀ ca c H', t.cols[(colNs t.cols).idxOf n]? = some c → H' ca = some (.tup [.str c.n, .str c.k, .bl c.b]) → Same H H' → Q (.ref ca) H'
def spFull : Sp := fun vs H Q _ => ∃ (S : Addr) (s : Sch) (q : Ads × Tab) (p : Pt), vs = [.ref S, .str q.2.n, .str (ptN p)] ∧ ScV H S s ∧ q ∈ s ∧ ∀ H', Same H H' → Q (.str (fullM (tbs s) q.2 p)) H'
def spDropCode : Sp := fun vs H Q _ => ∃ (S : Addr) (s : Sch) (t : Str) (i : It) (v : V), vs = [.ref S, .str t, .str (ptN (itP i)), v] ∧ ScV H S s ∧ Tp H v (itD i) ∧ itOk i ∧ ∀ H', Same H H' → Q (.str (match tabOf (tbs s) t with | none => "missing" | some x => dropM (tbs s) x i)) H'
def spCode (P : LS → Prop) : Sp := fun vs H Q _ => ∃ (S : Addr) (s : Sch) (st : Addr) (l : LS), vs = [.ref S, .ref st] ∧ ScV H S s ∧ Tp H (.ref st) (lsD l) ∧ lsOk l ∧ P l ∧ ∀ H', Same H H' → Q (.str (codeL (tbs s) l)) H'
def spConstraint : Sp := fun vs H Q _ => ∃ (st : Addr) (l : LS), vs = [.ref st] ∧ Tp H (.ref st) (lsD l) ∧ ∀ p v H', H' p = some (.tup [.str (ptN (itP (lsI l))), v]) → Tp H' v (itD (lsI l)) → Same H H' → Q (.ref p) H'
def spTargL : Sp := fun vs H Q _ => ∃ (S : Addr) (s : Sch) (st : Addr) (l : LS), vs = [.ref S, .ref st] ∧ ScV H S s ∧ Tp H (.ref st) (lsD l) ∧ lsOk l ∧ codeL (tbs s) l = "" ∧ ∀ S' s' H', NewSch H H' S' s' (targL (tbs s) l) → Q (.ref S') H'
def spTarget (C : Addr) : Sp := fun vs H Q E => ∃ (S : Addr) (s : Sch) (st : Addr) (l : LS), vs = [.ref S, .ref st] ∧ ScV H S s ∧ Tp H (.ref st) (lsD l) ∧ lsOk l ∧
  (codeL (tbs s) l = "" → ∀ S' s' H', NewSch H H' S' s' (targL (tbs s) l) → Q (.ref S') H') ∧
  (codeL (tbs s) l ≠ "" → ∀ H1 d, Same H H1 → H1 d = none → E (.ref C) (some d) (upd H1 d (.xd [("index", .int 0), ("code", .str (codeL (tbs s) l))])))
theorem tab_cases {s : Sch} (nm : (schN s).Nodup) (n : Str) : (n ∉ schN s ∧ tabOf (tbs s) n = none) ∨ ∃ p ∈ s, p.2.n = n ∧ tabOf (tbs s) n = some p.2 := by
  by_cases h : n ∈ schN s
  · obtain ⟨p, hp, rfl⟩ := sch_in h
    exact .inr ⟨p, hp, rfl, tabOf_in nm hp⟩
  · exact .inl ⟨h, tabOf_out h⟩
theorem idx_get {cols : List Col} {n : Str} (h : n ∈ colNs cols) : ∃ c, cols[(colNs cols).idxOf n]? = some c ∧ c.n = n ∧ c.k = kindAt cols n ∧ c ∈ cols := by
  obtain ⟨j, e1, e2, e3, _⟩ := idx_str h
  have hj : j < cols.length := by unfold colNs at e2; rwa [List.length_map] at e2
  have ec : cols[j]? = some cols[j] := List.getElem?_eq_getElem hj
  refine ⟨cols[j], by rw [← e1]; exact ec, ?_, ?_, List.getElem_mem hj⟩
  · unfold colNs at e3
    rw [List.getElem?_map, ec] at e3
    exact Option.some.inj e3
  · unfold kindAt
    rw [← e1, List.getD_eq_getElem?_getD, List.getElem?_map, ec]
    rfl
theorem key_at {t : Tab} (h : 1 ≤ t.cols.length) : ∃ c, t.cols[0]? = some c ∧ c.n = keyN t ∧ c.k = keyK t ∧ keyN t ∈ colNs t.cols := by
  cases e : t.cols with
  | nil => rw [e] at h; exact absurd h (by decide)
  | cons c r => exact ⟨c, rfl, by unfold keyN colNs; rw [e]; rfl, by unfold keyK; rw [e]; rfl, by unfold keyN colNs; rw [e]; simp⟩
end Lt
namespace Lt
open PySem L2 TL
theorem units_of {A : Around} {k : Nat} (hr : Room k A) : A.units + 65 < cLine := by
  have := hr.un
  omega
end Lt
namespace Lt
open PySem L2 TL
theorem TpL.c1 {H : Hp} {d : D} {ds : List D} {xs : List V} (h : TpL H xs (d :: ds)) : ∃ v vs, xs = v :: vs ∧ Tp H v d ∧ TpL H vs ds := by
  cases h with | cons a b => exact ⟨_, _, rfl, a, b⟩
theorem TpL.c0 {H : Hp} {xs : List V} (h : TpL H xs []) : xs = [] := by cases h; rfl
theorem Tp.s1 {H : Hp} {v w : V} (h : Tp H v (.s w)) : v = w := by cases h; rfl
theorem ls_at {H : Hp} {st : Addr} {l : LS} (h : Tp H (.ref st) (lsD l)) : ∃ ys, H st = some (.tup (.str (lsK l) :: .str (lsT l) :: ys)) ∧ TpL H ys (lsR l) := by
  obtain ⟨st', xs, e, hst, r⟩ := t_at h
  cases e
  obtain ⟨v, vs, rfl, a, r⟩ := r.c1
  obtain ⟨w, ws, rfl, b, r⟩ := r.c1
  rw [a.s1, b.s1] at hst
  exact ⟨ws, hst, r⟩
theorem tp_one {H : Hp} {xs : List V} {d : D} (h : TpL H xs [d]) : ∃ v, xs = [v] ∧ Tp H v d := by
  obtain ⟨v, vs, rfl, a, r⟩ := h.c1
  rw [r.c0]
  exact ⟨v, rfl, a⟩
theorem tp_two {H : Hp} {xs : List V} {u v : V} (h : TpL H xs [.s u, .s v]) : xs = [u, v] := by
  obtain ⟨x, vs, rfl, a, r⟩ := h.c1
  obtain ⟨y, rfl, b⟩ := tp_one r
  rw [a.s1, b.s1]
end Lt
namespace Lt
open PySem L2 TL
theorem kindA (l : LS) : inV (.str (lsK l)) [.str "add_check", .str "add_unique", .str "add_reference"] = lsA l := by
  cases l <;> (simp only [lsK, lsA]; decide +kernel)
/-- one table of a new schema has got another list of constraints -/
theorem NewSch.set {H H1 H2 : Hp} {S : Addr} {s : Sch} {ts : List Tab} (N : NewSch H H1 S s ts) (nm : (schN s).Nodup) {p : Ads × Tab} (hp : p ∈ s) (e : Same H1 H2) {pt : Pt} {ys : List V} {t' : Tab} (hn : t'.n = p.2.n) (D : DescAt (upd H2 (ptA p.1 pt) (.lst ys)) p.1 t') :
    NewSch H (upd H2 (ptA p.1 pt) (.lst ys)) S (s.map fun x => if x.2.n = p.2.n then (x.1, t') else x) (ts.map fun x => if x.n = p.2.n then t' else x) := by
  have hb : ptA p.1 pt ∈ adL p.1 := by cases pt <;> simp [ptA, adL]
  obtain ⟨zs, hz⟩ := (N.ds p hp).isL _ hb
  have hz2 := e _ _ hz
  have kt : KeepT H2 (upd H2 (ptA p.1 pt) (.lst ys)) := KeepT.upd fun xs z => by rw [hz2] at z; cases z
  have ad : (s.map fun x => if x.2.n = p.2.n then (x.1, t') else x).map (·.1) = s.map (·.1) := by
    rw [List.map_map]
    refine List.map_congr_left fun x _ => ?_
    show (if x.2.n = p.2.n then (x.1, t') else x).1 = x.1
    split <;> rfl
  have nk : schK (s.map fun x => if x.2.n = p.2.n then (x.1, t') else x) = schK s := by
    unfold schK
    rw [List.map_map]
    refine List.map_congr_left fun x _ => ?_
    show ((Sum.inr (if x.2.n = p.2.n then (x.1, t') else x).2.n : Key), V.ref (if x.2.n = p.2.n then (x.1, t') else x).1.d) = _
    split
    · rename_i h; rw [h, ← hn]
    · rfl
  have back : ∀ x ∈ (s.map fun x => if x.2.n = p.2.n then (x.1, t') else x), x = (p.1, t') ∨ (x ∈ s ∧ x.1 ≠ p.1 ∧ x.2.n ≠ p.2.n) := fun x hx => by
    obtain ⟨y, hy, rfl⟩ := List.mem_map.mp hx
    by_cases h : y.2.n = p.2.n
    · rw [if_pos h]
      have := sch_one nm hy hp h
      subst this
      exact .inl rfl
    · rw [if_neg h]
      refine .inr ⟨hy, fun z => h ?_, h⟩
      have hd : y.1.d = p.1.d := by rw [z]
      obtain ⟨i1, h1, e1⟩ := List.getElem_of_mem hy
      obtain ⟨i2, h2, e2⟩ := List.getElem_of_mem hp
      have b1 : (s.map fun p => p.1.d)[i1]? = some p.1.d := by rw [List.getElem?_map, List.getElem?_eq_getElem h1, e1]; exact congrArg some hd
      have b2 : (s.map fun p => p.1.d)[i2]? = some p.1.d := by rw [List.getElem?_map, List.getElem?_eq_getElem h2, e2]; rfl
      have := nd_ix N.dn b1 b2
      subst this
      rw [e1] at e2
      rw [e2]
  refine ⟨?_, fun x hx => ?_, ?_, N.fS, fun x hx => ?_, ?_, ?_, ?_⟩
  · rw [nk, upd_ne (fun z => by have := e _ _ N.sk; rw [z, hz2] at this; cases this)]
    exact e _ _ N.sk
  · rcases back x hx with rfl | ⟨h1, h2, h3⟩
    · exact D
    · have D1 := (N.ds x h1).mono e
      refine D1.frame kt (fun o z => by rw [upd_ne (fun w => by have := D1.dk; rw [w, hz2] at this; cases this)]; exact z) (fun b hb' o z => ?_)
      rw [upd_ne (fun w => ?_)]
      · exact z
      · have := flat_one N.ln h1 hp hb' (by rw [w]; exact hb)
        exact h2 (by rw [this])
  · rw [← N.ts, List.map_map, List.map_map]
    refine List.map_congr_left fun x _ => ?_
    show (if x.2.n = p.2.n then (x.1, t') else x).2 = if x.2.n = p.2.n then t' else x.2
    split <;> rfl
  · rcases back x hx with rfl | ⟨h1, _⟩
    · exact N.fd p hp
    · exact N.fd x h1
  · have e2 : (s.map fun x => if x.2.n = p.2.n then (x.1, t') else x).map (fun p => p.1.d) = s.map fun p => p.1.d := by
      rw [List.map_map]
      refine List.map_congr_left fun x _ => ?_
      show (if x.2.n = p.2.n then (x.1, t') else x).1.d = x.1.d
      split <;> rfl
    rw [e2]; exact N.dn
  · rw [schL_of ad]; exact N.ln
  · intro b o hb'
    rw [upd_ne (fun z => by have := (N.fd p hp).2.2 _ hb; rw [← z, hb'] at this; cases this)]
    exact e _ _ (N.se _ _ hb')
theorem codeL_some {ts : List Tab} {l : LS} (h : codeL ts l = "") : ∃ x, tabOf ts (lsT l) = some x ∧ codeT ts x l = "" := by
  unfold codeL at h
  cases e : tabOf ts (lsT l) with
  | none =>
    rw [e] at h
    have h : ("missing" : Str) = "" := h
    exact absurd h (by decide +kernel)
  | some x => rw [e] at h; exact ⟨x, rfl, h⟩
theorem full_len {ts : List Tab} {x : Tab} {p : Pt} (h : fullM ts x p = "") : ptL x p < 4 := by
  unfold fullM at h
  split at h
  · exact absurd h (by decide +kernel)
  · split at h
    · exact absurd h (by decide +kernel)
    · omega
theorem code_add {ts : List Tab} {x : Tab} {l : LS} (h : codeT ts x l = "") (a : lsA l = true) : ptL x (itP (lsI l)) < 4 := by
  cases l with
  | addC t c =>
    simp only [codeT] at h
    split at h
    · exact full_len h
    · exact absurd h (by decide +kernel)
  | addU t n =>
    simp only [codeT] at h
    split at h
    · split at h
      · exact absurd h (by decide +kernel)
      · split at h
        · exact absurd h (by decide +kernel)
        · exact full_len h
    · exact absurd h (by decide +kernel)
  | addR t n o =>
    simp only [codeT] at h
    split at h
    · split at h
      · exact absurd h (by decide +kernel)
      · split at h
        · exact absurd h (by decide +kernel)
        · split at h
          · exact absurd h (by decide +kernel)
          · split at h
            · exact absurd h (by decide +kernel)
            · split at h
              · exact absurd h (by decide +kernel)
              · exact full_len h
    · exact absurd h (by decide +kernel)
  | dropC t c => cases a
  | dropU t n => cases a
  | dropR t n o => cases a
theorem drop_has {ts : List Tab} {x : Tab} {i : It} (h : dropM ts x i = "") : hasIt x i = true := by
  unfold dropM at h
  cases e : hasIt x i with
  | true => rfl
  | false =>
    rw [e] at h
    have h : ("missing" : Str) = "" := h
    exact absurd h (by decide +kernel)
theorem code_drop {ts : List Tab} {x : Tab} {l : LS} (h : codeT ts x l = "") (a : lsA l = false) : hasIt x (lsI l) = true := by
  cases l with
  | addC t c => cases a
  | addU t n => cases a
  | addR t n o => cases a
  | dropC t c => exact drop_has h
  | dropU t n => exact drop_has h
  | dropR t n o => exact drop_has h
end Lt

set_option autoImplicit false
/-! ## zip of lists and tuples, mixed -/
namespace LtZ
open PySem PySem.Spec PyProof.Rows L2
/-- what is drawn from: a list, or a tuple -/
inductive Src where
  | l
  | t
def Src.it (k : Src) (h : Heap) (it a : Addr) (i : Nat) : Prop := match k with | .l => h.IsListIter it a i | .t => h.IsTupleIter it a i
def Src.is (k : Src) (h : Heap) (a : Addr) (xs : Array Value) : Prop := match k with | .l => h.IsList a xs | .t => h.IsTuple a xs
def Src.nm (k : Src) : String := match k with | .l => "list_iterator" | .t => "tuple_iterator"
theorem Src.it_but {k : Src} {h h' : Heap} {a b l : Addr} {i : Nat} (x : k.it h a l i) (e : Heap.ExtBut b h h') (n : a ≠ b) : k.it h' a l i := by
  cases k
  · exact Heap.IsListIter.extBut x e n
  · exact Heap.IsTupleIter.extBut x e n
theorem Src.is_but {k : Src} {h h' : Heap} {a b : Addr} {xs : Array Value} (x : k.is h a xs) (e : Heap.ExtBut b h h') (n : a ≠ b) : k.is h' a xs := by
  cases k
  · exact Heap.IsList.extBut x e n
  · exact Heap.IsTuple.extBut x e n
theorem Src.it_at {k : Src} {h h' : Heap} {a l : Addr} {i : Nat} (x : k.it h a l i) (e : ∀ o, h.get? a = some o → h'.get? a = some o) : k.it h' a l i := by
  cases k
  · exact Heap.IsListIter.at x e
  · exact Heap.IsTupleIter.at x e
theorem Src.it_obj {k : Src} {h : Heap} {a l : Addr} {i : Nat} (x : k.it h a l i) : ∃ o, h.get? a = some o ∧ o.data = .fields #[.ref l, .int i 0] := by
  cases k
  · obtain ⟨o, h1, _, h2⟩ := x; exact ⟨o, h1, h2⟩
  · obtain ⟨o, h1, _, h2⟩ := x; exact ⟨o, h1, h2⟩
theorem Src.it_new {k : Src} {h : Heap} {a l : Addr} (x : h.get? a = some { cls := .type k.nm, data := .fields #[.ref l, .int 0 0] }) : k.it h a l 0 := by
  cases k
  · exact ⟨_, x, rfl, rfl⟩
  · exact ⟨_, x, rfl, rfl⟩
section
variable {P : Program} {w : World} {A : Around} {E : Value → Shared → Prop} {s : Shared}
theorem draw {k : Src} {it l : Addr} {i : Nat} {xs : Array Value} {x : Value} {Q : Value → Shared → Prop} (hi : k.it s.heap it l i) (hl : k.is s.heap l xs) (hx : xs[i]? = some x)
    (q : ∀ h2, k.it h2 it l (i + 1) → Heap.SameBut it s.heap h2 → Q x { s with heap := h2 }) : wpAny (model P w) A (Builtin.SmallTypes.nextOf (.ref it)) Q E s := by
  cases k
  · exact wpAny_nextOf_list_item hi hl hx fun h2 b c => q h2 b c
  · exact RZ.nextOf_tuple_item hi hl hx q
theorem drawn {k : Src} {it l : Addr} {i : Nat} {xs : Array Value} {Q : Value → Shared → Prop} (hh : A.handled = none) (hi : k.it s.heap it l i) (hl : k.is s.heap l xs) (hx : xs[i]? = none)
    (q : ∀ h2 e, Heap.ExtBut it s.heap h2 → (∃ o, h2.get? e = some o ∧ o.cls = .type "StopIteration") → E (.ref e) { s with heap := h2 }) : wpAny (model P w) A (Builtin.SmallTypes.nextOf (.ref it)) Q E s := by
  cases k
  · exact wpAny_nextOf_list_end hh hi hl hx q
  · exact RZ.nextOf_tuple_end hh hi hl hx q
/-- all but four places stands -/
def But4 (z TO i1 i2 : Addr) (h h2 : Heap) : Prop := ∀ c o, c ≠ z → c ≠ TO → c ≠ i1 → c ≠ i2 → h.get? c = some o → h2.get? c = some o
variable {k1 k2 : Src} {z TI TO i1 i2 l1 l2 : Addr} {n1 n2 : Nat} {xs ys : Array Value} {x y a b : Value}
theorem step_item {Q : Value → Shared → Prop} (D : ZipApart z TI TO i1 i2 l1 l2) (hz : IsZip s.heap z TI TO .none) (tI : IsPair s.heap TI (.ref i1) (.ref i2)) (tO : IsPair s.heap TO a b)
    (h1 : k1.it s.heap i1 l1 n1) (h2 : k2.it s.heap i2 l2 n2) (L1 : k1.is s.heap l1 xs) (L2 : k2.is s.heap l2 ys) (hx : xs[n1]? = some x) (hy : ys[n2]? = some y)
    (q : ∀ g, IsZip g z TI TO (rawInt s.heap.objs.size) → IsPair g TO x y → k1.it g i1 l1 (n1 + 1) → k2.it g i2 l2 (n2 + 1) → IsPair g s.heap.objs.size x y → g.objs.size = s.heap.objs.size + 1 → But4 z TO i1 i2 s.heap g → Q (.ref s.heap.objs.size) { s with heap := g }) :
    wpAny (model P w) A (Builtin.«zip.__next__» ⟨[.ref z], []⟩) (fun f s2 => ∃ v, f = .done (.ret v) ∧ Q v s2) E s := by
  show wpAny _ _ (field (.ref z) 2 >>= _) _ _ _
  refine wpAny_bind (wpAny_field hz rfl (x := .bool false) rfl ?_)
  show wpAny _ _ (field (.ref z) 3 >>= _) _ _ _
  refine wpAny_bind (wpAny_field hz rfl (x := .ref TI) rfl (wpAny_bind (wpAny_seqItems tI rfl ?_)))
  show wpAny _ _ (Builtin.SmallTypes.ownedTupleIsFree (.ref z) >>= _) _ _ _
  refine wpAny_bind ?_
  unfold Builtin.SmallTypes.ownedTupleIsFree
  refine wpAny_bind (wpAny_field hz rfl (x := .none) rfl (wpAny_pure ?_))
  simp only [if_true]
  refine wpAny_bind (wpAny_rule (wpAny_bind (wpAny_field hz rfl (x := .ref TO) rfl (wpAny_bind (wpAny_setField_rec hz (by simp) fun g1 z1 b1 => ?_)))))
  replace z1 : IsZip g1 z TI TO .ellipsis := z1
  refine wpAny_bind ?_
  simp only [List.zipIdx_cons, List.zipIdx_nil, List.forIn_cons, List.forIn_nil]
  refine wpAny_bind (wpAny_bind (wpAny_onRaise ?_))
  show wpAny _ _ (Builtin.SmallTypes.nextOf (.ref i1) >>= _) _ _ _
  refine wpAny_bind (draw (Src.it_but h1 b1.extBut D.i1z) (Src.is_but L1 b1.extBut D.l1z) hx fun g2 j1 b2 => wpAny_pure ?_)
  have o2 : IsPair g2 TO a b := b2.extBut _ _ D.TOi1 (b1.extBut _ _ D.TOz tO)
  refine wpAny_bind (wpAny_seqItems o2 rfl (wpAny_bind (wpAny_updateSeq_pair o2 fun g3 o3 b3 => ?_)))
  replace o3 : IsPair g3 TO x b := o3
  refine wpAny_bind (wpAny_letGo (wpAny_pure (wpAny_bind (wpAny_bind (wpAny_onRaise ?_)))))
  show wpAny _ _ (Builtin.SmallTypes.nextOf (.ref i2) >>= _) _ _ _
  have h2' := Src.it_but (Src.it_but (Src.it_but h2 b1.extBut D.i2z) b2.extBut D.i12.symm) b3.extBut D.TOi2.symm
  have L2' := Src.is_but (Src.is_but (Src.is_but L2 b1.extBut D.l2z) b2.extBut D.l2i1) b3.extBut D.l2TO
  refine wpAny_bind (draw h2' L2' hy fun g4 j2 b4 => wpAny_pure ?_)
  have o4 : IsPair g4 TO x b := b4.extBut _ _ D.TOi2 o3
  refine wpAny_bind (wpAny_seqItems o4 rfl (wpAny_bind (wpAny_updateSeq_pair o4 fun g5 o5 b5 => ?_)))
  replace o5 : IsPair g5 TO x y := o5
  refine wpAny_bind (wpAny_letGo (wpAny_pure (wpAny_pure (wpAny_bind (wpAny_seqItems o5 rfl (wpAny_bind (wpAny_newTuple ?_)))))))
  have sz : g5.objs.size = s.heap.objs.size := by rw [b5.1, b4.1, b3.1, b2.1, b1.1]
  have z5 : IsZip g5 z TI TO .ellipsis := b5.extBut _ _ D.TOz.symm (b4.extBut _ _ D.i2z.symm (b3.extBut _ _ D.TOz.symm (b2.extBut _ _ D.i1z.symm z1)))
  have up5 : But4 z TO i1 i2 s.heap g5 := fun c o c1 c2 c3 c4 e => b5.extBut _ _ c2 (b4.extBut _ _ c4 (b3.extBut _ _ c2 (b2.extBut _ _ c3 (b1.extBut _ _ c1 e))))
  have j1' := Src.it_but (Src.it_but (Src.it_but j1 b3.extBut D.TOi1.symm) b4.extBut D.i12) b5.extBut D.TOi1.symm
  have j2' := Src.it_but j2 b5.extBut D.TOi2.symm
  have zl : z < g5.objs.size := Heap.lt_size z5
  show wpAny _ _ (Builtin.SmallTypes.ownedTupleHandOut (.ref z) (.ref g5.objs.size) >>= _) _ _ _
  refine wpAny_bind ?_
  unfold Builtin.SmallTypes.ownedTupleHandOut
  have z6 : IsZip (g5.push { cls := .type "tuple", data := .seq #[x, y] }) z TI TO .ellipsis := Heap.get?_push_of_some _ z5
  refine wpAny_bind (wpAny_setField_rec z6 (by simp) fun g7 z7 b7 => ?_)
  replace z7 : IsZip g7 z TI TO (rawInt g5.objs.size) := z7
  refine wpAny_setField_rec z7 (by simp) fun g8 z8 b8 => ?_
  replace z8 : IsZip g8 z TI TO (rawInt g5.objs.size) := z8
  have up : ∀ c o, c ≠ z → g5.get? c = some o → g8.get? c = some o := fun c o c1 e => b8.extBut _ _ c1 (b7.extBut _ _ c1 (Heap.get?_push_of_some _ e))
  have t8 : IsPair g8 g5.objs.size x y := b8.extBut _ _ (Nat.ne_of_gt zl) (b7.extBut _ _ (Nat.ne_of_gt zl) (Heap.get?_push_size _ rfl))
  have s8 : g8.objs.size = g5.objs.size + 1 := by rw [b8.1, b7.1, Heap.size_push]
  rw [sz] at z8 t8 s8
  refine wpAny_pure ⟨_, rfl, ?_⟩
  show Q (.ref g5.objs.size) _
  rw [sz]
  exact q g8 z8 (up _ _ D.TOz o5) (Src.it_at j1' fun o e => up _ o D.i1z e) (Src.it_at j2' fun o e => up _ o D.i2z e) t8 s8 fun c o c1 c2 c3 c4 e => up c o c1 (up5 c o c1 c2 c3 c4 e)
theorem step_end {Q : Fin → Shared → Prop} (hh : A.handled = none) (D : ZipApart z TI TO i1 i2 l1 l2) (hz : IsZip s.heap z TI TO .none) (tI : IsPair s.heap TI (.ref i1) (.ref i2)) (tO : IsPair s.heap TO a b)
    (h1 : k1.it s.heap i1 l1 n1) (h2 : k2.it s.heap i2 l2 n2) (L1 : k1.is s.heap l1 xs) (L2 : k2.is s.heap l2 ys) (he : xs[n1]? = none ∨ ys[n2]? = none)
    (q : ∀ g e, But4 z TO i1 i2 s.heap g → (∃ o, g.get? e = some o ∧ o.cls = .type "StopIteration") → E (.ref e) { s with heap := g }) : wpAny (model P w) A (Builtin.«zip.__next__» ⟨[.ref z], []⟩) Q E s := by
  show wpAny _ _ (field (.ref z) 2 >>= _) _ _ _
  refine wpAny_bind (wpAny_field hz rfl (x := .bool false) rfl ?_)
  show wpAny _ _ (field (.ref z) 3 >>= _) _ _ _
  refine wpAny_bind (wpAny_field hz rfl (x := .ref TI) rfl (wpAny_bind (wpAny_seqItems tI rfl ?_)))
  show wpAny _ _ (Builtin.SmallTypes.ownedTupleIsFree (.ref z) >>= _) _ _ _
  refine wpAny_bind ?_
  unfold Builtin.SmallTypes.ownedTupleIsFree
  refine wpAny_bind (wpAny_field hz rfl (x := .none) rfl (wpAny_pure ?_))
  simp only [if_true]
  refine wpAny_bind (wpAny_rule (wpAny_bind (wpAny_field hz rfl (x := .ref TO) rfl (wpAny_bind (wpAny_setField_rec hz (by simp) fun g1 z1 b1 => ?_)))))
  replace z1 : IsZip g1 z TI TO .ellipsis := z1
  refine wpAny_bind ?_
  simp only [List.zipIdx_cons, List.zipIdx_nil, List.forIn_cons, List.forIn_nil]
  refine wpAny_bind (wpAny_bind (wpAny_onRaise ?_))
  show wpAny _ _ (Builtin.SmallTypes.nextOf (.ref i1) >>= _) _ _ _
  cases hx : xs[n1]? with
  | none =>
    refine wpAny_bind (drawn hh (Src.it_but h1 b1.extBut D.i1z) (Src.is_but L1 b1.extBut D.l1z) hx fun g2 e b2 he => ?_)
    obtain ⟨oe, hoe, hce⟩ := he
    have z2 : IsZip g2 z TI TO .ellipsis := b2 _ _ D.i1z.symm z1
    have ez : e ≠ z := fun x => by subst x; rw [z2] at hoe; cases hoe; simp at hce
    exact wpAny_setField_rec z2 (by simp) fun g3 _ b3 => q g3 e (fun c o c1 _ c3 _ x => b3.extBut _ _ c1 (b2 _ _ c3 (b1.extBut _ _ c1 x))) ⟨oe, b3.extBut _ _ ez hoe, hce⟩
  | some x =>
    have hy : ys[n2]? = none := by
      rcases he with h | h
      · rw [hx] at h; cases h
      · exact h
    refine wpAny_bind (draw (Src.it_but h1 b1.extBut D.i1z) (Src.is_but L1 b1.extBut D.l1z) hx fun g2 j1 b2 => wpAny_pure ?_)
    have o2 : IsPair g2 TO a b := b2.extBut _ _ D.TOi1 (b1.extBut _ _ D.TOz tO)
    refine wpAny_bind (wpAny_seqItems o2 rfl (wpAny_bind (wpAny_updateSeq_pair o2 fun g3 o3 b3 => ?_)))
    refine wpAny_bind (wpAny_letGo (wpAny_pure (wpAny_bind (wpAny_bind (wpAny_onRaise ?_)))))
    show wpAny _ _ (Builtin.SmallTypes.nextOf (.ref i2) >>= _) _ _ _
    have h2' := Src.it_but (Src.it_but (Src.it_but h2 b1.extBut D.i2z) b2.extBut D.i12.symm) b3.extBut D.TOi2.symm
    have L2' := Src.is_but (Src.is_but (Src.is_but L2 b1.extBut D.l2z) b2.extBut D.l2i1) b3.extBut D.l2TO
    refine wpAny_bind (drawn hh h2' L2' hy fun g4 e b4 he => ?_)
    obtain ⟨oe, hoe, hce⟩ := he
    have z4 : IsZip g4 z TI TO .ellipsis := b4 _ _ D.i2z.symm (b3.extBut _ _ D.TOz.symm (b2.extBut _ _ D.i1z.symm z1))
    have ez : e ≠ z := fun x => by subst x; rw [z4] at hoe; cases hoe; simp at hce
    exact wpAny_setField_rec z4 (by simp) fun g5 _ b5 => q g5 e (fun c o c1 c2 c3 c4 x => b5.extBut _ _ c1 (b4 _ _ c4 (b3.extBut _ _ c2 (b2.extBut _ _ c3 (b1.extBut _ _ c1 x))))) ⟨oe, b5.extBut _ _ ez hoe, hce⟩
theorem next_item {Q : Option Value → Shared → Prop} (D : ZipApart z TI TO i1 i2 l1 l2) (hz : IsZip s.heap z TI TO .none) (tI : IsPair s.heap TI (.ref i1) (.ref i2)) (tO : IsPair s.heap TO a b)
    (h1 : k1.it s.heap i1 l1 n1) (h2 : k2.it s.heap i2 l2 n2) (L1 : k1.is s.heap l1 xs) (L2 : k2.is s.heap l2 ys) (hx : xs[n1]? = some x) (hy : ys[n2]? = some y)
    (q : ∀ g, IsZip g z TI TO (rawInt s.heap.objs.size) → IsPair g TO x y → k1.it g i1 l1 (n1 + 1) → k2.it g i2 l2 (n2 + 1) → IsPair g s.heap.objs.size x y → g.objs.size = s.heap.objs.size + 1 → But4 z TO i1 i2 s.heap g → Q (some (.ref s.heap.objs.size)) { s with heap := g }) :
    wpAny (model P w) A (pyNext (.ref z)) Q E s := by
  have hT : s.TypeIs (.ref z) "zip" := ⟨_, hz, rfl⟩
  unfold pyNext
  exact wpAny_bind (wpAny_attempt (wpAny_callSpecial?_slot (name := Str.ofString "__next__") hT F.slot_zip_next (wpAny_call_entry F.slot_zip_next hT F.entry_zip_next
    (step_item D hz tI tO h1 h2 L1 L2 hx hy fun g a1 a2 a3 a4 a5 a6 a7 => wpAny_pure (q g a1 a2 a3 a4 a5 a6 a7)) (F.args_zip_next_1 _))))
theorem next_end {Q : Option Value → Shared → Prop} (hh : A.handled = none) (D : ZipApart z TI TO i1 i2 l1 l2) (hz : IsZip s.heap z TI TO .none) (tI : IsPair s.heap TI (.ref i1) (.ref i2)) (tO : IsPair s.heap TO a b)
    (h1 : k1.it s.heap i1 l1 n1) (h2 : k2.it s.heap i2 l2 n2) (L1 : k1.is s.heap l1 xs) (L2 : k2.is s.heap l2 ys) (he : xs[n1]? = none ∨ ys[n2]? = none)
    (q : ∀ g, But4 z TO i1 i2 s.heap g → Q none { s with heap := g }) : wpAny (model P w) A (pyNext (.ref z)) Q E s := by
  have hT : s.TypeIs (.ref z) "zip" := ⟨_, hz, rfl⟩
  unfold pyNext
  refine wpAny_bind (wpAny_attempt (wpAny_callSpecial?_slot (name := Str.ofString "__next__") hT F.slot_zip_next (wpAny_call_entry F.slot_zip_next hT F.entry_zip_next
    (step_end hh D hz tI tO h1 h2 L1 L2 he fun g e hk he => ?_) (F.args_zip_next_1 _))))
  obtain ⟨o, ho, hc⟩ := he
  exact wpAny_bind (wpAny_isInstance (T := "StopIteration") (b := true) ⟨o, ho, hc⟩ isSubtype_stop (wpAny_pure (q _ hk)))
end
abbrev ZH1 (k1 : Src) (h : Heap) (l1 : Addr) : Heap := h.push { cls := .type k1.nm, data := .fields #[.ref l1, .int 0 0] }
abbrev ZH2 (k1 k2 : Src) (h : Heap) (l1 l2 : Addr) : Heap := (ZH1 k1 h l1).push { cls := .type k2.nm, data := .fields #[.ref l2, .int 0 0] }
abbrev ZH3 (k1 k2 : Src) (h : Heap) (l1 l2 : Addr) : Heap := (ZH2 k1 k2 h l1 l2).push { cls := .type "tuple", data := .seq #[.ref h.objs.size, .ref (ZH1 k1 h l1).objs.size] }
abbrev ZH4 (k1 k2 : Src) (h : Heap) (l1 l2 : Addr) : Heap := (ZH3 k1 k2 h l1 l2).push { cls := .type "tuple", data := .seq #[.none, .none] }
abbrev ZH5 (k1 k2 : Src) (h : Heap) (l1 l2 : Addr) : Heap := (ZH4 k1 k2 h l1 l2).push { cls := .type "zip", data := .fields #[.none, .bool false, .bool false, .ref (ZH2 k1 k2 h l1 l2).objs.size, .ref (ZH3 k1 k2 h l1 l2).objs.size] }
theorem meets_new (k1 k2 : Src) (l1 l2 : Addr) (xs ys : Array Value) : Meets (Builtin.«zip.__new__» ⟨[.type "zip", .ref l1, .ref l2], []⟩)
    (fun _ R s => k1.is s.heap l1 xs ∧ k2.is s.heap l2 ys ∧ R (.ok (.ret (.ref (ZH4 k1 k2 s.heap l1 l2).objs.size))) { s with heap := ZH5 k1 k2 s.heap l1 l2 }) :=
  .of_wp fun prog w A R s h => by
    obtain ⟨hp, g, d, tk, os⟩ := s
    obtain ⟨a1, a2, h⟩ := h
    have hsub := sub_zip
    cases k1 <;> cases k2
    · have e1 : Heap.IsList (Shared.heap ⟨hp, g, d, tk, os⟩) l1 xs := a1
      have e2 : Heap.IsList (Shared.heap ⟨hp.push { cls := .type "list_iterator", data := .fields #[.ref l1, .int 0 0] }, g, d, tk, os⟩) l2 ys := Heap.IsList.push a2 _
      wp_walk using wpAny_pyIter_list e1, wpAny_pyIter_list e2
      exact ⟨_, rfl, h⟩
    · have e1 : Heap.IsList (Shared.heap ⟨hp, g, d, tk, os⟩) l1 xs := a1
      have e2 : Heap.IsTuple (Shared.heap ⟨hp.push { cls := .type "list_iterator", data := .fields #[.ref l1, .int 0 0] }, g, d, tk, os⟩) l2 ys := Heap.IsTuple.push a2 _
      wp_walk using wpAny_pyIter_list e1, wpAny_pyIter_tuple e2
      exact ⟨_, rfl, h⟩
    · have e1 : Heap.IsTuple (Shared.heap ⟨hp, g, d, tk, os⟩) l1 xs := a1
      have e2 : Heap.IsList (Shared.heap ⟨hp.push { cls := .type "tuple_iterator", data := .fields #[.ref l1, .int 0 0] }, g, d, tk, os⟩) l2 ys := Heap.IsList.push a2 _
      wp_walk using wpAny_pyIter_tuple e1, wpAny_pyIter_list e2
      exact ⟨_, rfl, h⟩
    · have e1 : Heap.IsTuple (Shared.heap ⟨hp, g, d, tk, os⟩) l1 xs := a1
      have e2 : Heap.IsTuple (Shared.heap ⟨hp.push { cls := .type "tuple_iterator", data := .fields #[.ref l1, .int 0 0] }, g, d, tk, os⟩) l2 ys := Heap.IsTuple.push a2 _
      wp_walk using wpAny_pyIter_tuple e1, wpAny_pyIter_tuple e2
      exact ⟨_, rfl, h⟩
section
variable {P : Program} {w : World} {A : Around} {E : Value → Shared → Prop} {s : Shared}
theorem call_new {k1 k2 : Src} {l1 l2 : Addr} {xs ys : Array Value} {Q : Value → Shared → Prop} (a1 : k1.is s.heap l1 xs) (a2 : k2.is s.heap l2 ys)
    (q : ∀ g, IsZip g (s.heap.objs.size + 4) (s.heap.objs.size + 2) (s.heap.objs.size + 3) .none → IsPair g (s.heap.objs.size + 2) (.ref s.heap.objs.size) (.ref (s.heap.objs.size + 1)) → IsPair g (s.heap.objs.size + 3) .none .none →
      k1.it g s.heap.objs.size l1 0 → k2.it g (s.heap.objs.size + 1) l2 0 → (∀ c o, s.heap.get? c = some o → g.get? c = some o) → Q (.ref (s.heap.objs.size + 4)) { s with heap := g }) :
    wpAny (model P w) A (call (.type "zip") [.ref l1, .ref l2]) Q E s := by
  refine callType_new F.called_zip (by decide) (F.typeCall_zip_2 _ _) (F.newCall_zip_2 _ _) (fun obj => F.args_object_init_3 obj _ _) F.entry_zip_new (meets_new k1 k2 l1 l2 xs ys) ⟨a1, a2, ?_⟩
  have z1 : (ZH1 k1 s.heap l1).objs.size = s.heap.objs.size + 1 := Heap.size_push ..
  have z2 : (ZH2 k1 k2 s.heap l1 l2).objs.size = s.heap.objs.size + 2 := by rw [Heap.size_push, z1]
  have z3 : (ZH3 k1 k2 s.heap l1 l2).objs.size = s.heap.objs.size + 3 := by rw [Heap.size_push, z2]
  have z4 : (ZH4 k1 k2 s.heap l1 l2).objs.size = s.heap.objs.size + 4 := by rw [Heap.size_push, z3]
  have up1 : ∀ {c : Addr} {o : Obj}, (ZH4 k1 k2 s.heap l1 l2).get? c = some o → (ZH5 k1 k2 s.heap l1 l2).get? c = some o := fun e => Heap.get?_push_of_some _ e
  have up2 : ∀ {c : Addr} {o : Obj}, (ZH3 k1 k2 s.heap l1 l2).get? c = some o → (ZH5 k1 k2 s.heap l1 l2).get? c = some o := fun e => up1 (Heap.get?_push_of_some _ e)
  have up3 : ∀ {c : Addr} {o : Obj}, (ZH2 k1 k2 s.heap l1 l2).get? c = some o → (ZH5 k1 k2 s.heap l1 l2).get? c = some o := fun e => up2 (Heap.get?_push_of_some _ e)
  have up4 : ∀ {c : Addr} {o : Obj}, (ZH1 k1 s.heap l1).get? c = some o → (ZH5 k1 k2 s.heap l1 l2).get? c = some o := fun e => up3 (Heap.get?_push_of_some _ e)
  have g5 : (ZH5 k1 k2 s.heap l1 l2).get? (ZH4 k1 k2 s.heap l1 l2).objs.size = some _ := Heap.get?_push_size _ rfl
  have g4 : (ZH5 k1 k2 s.heap l1 l2).get? (ZH3 k1 k2 s.heap l1 l2).objs.size = some _ := up1 (Heap.get?_push_size _ rfl)
  have g3 : (ZH5 k1 k2 s.heap l1 l2).get? (ZH2 k1 k2 s.heap l1 l2).objs.size = some _ := up2 (Heap.get?_push_size _ rfl)
  have g2 : (ZH5 k1 k2 s.heap l1 l2).get? (ZH1 k1 s.heap l1).objs.size = some _ := up3 (Heap.get?_push_size _ rfl)
  have g1 : (ZH5 k1 k2 s.heap l1 l2).get? s.heap.objs.size = some _ := up4 (Heap.get?_push_size _ rfl)
  show _ ∧ _
  rw [z2, z3, z4] at g5
  rw [z1, z2] at g3
  rw [z3] at g4
  rw [z1] at g2
  rw [z4]
  exact ⟨⟨_, g5, rfl⟩, q _ g5 g3 g4 (Src.it_new g1) (Src.it_new g2) fun c o x => up4 (Heap.get?_push_of_some _ x)⟩
end
/-! ### over the layer -/
def Src.sq (k : Src) (K : PySem.W.Frag) (H : Hp) (a : Addr) (xs : List V) : Prop := match k with | .l => SqL K H a xs | .t => SqT K H a xs
theorem Src.raw {k : Src} {X : Cx} {pins : List (Addr × Obj)} {σ : L2.St} {H : Hp} {s : Shared} {a : Addr} {xs : List V} (I : Inv X pins σ H s) (h : k.sq X.K H a xs) : ∃ its : List Value, Vals xs its ∧ k.is s.heap a its.toArray ∧ a < s.heap.objs.size := by
  cases k
  · obtain ⟨its, rv, p, _⟩ := I.list h
    exact ⟨its, rv, p.isList, p.lt⟩
  · obtain ⟨its, rv, p, _⟩ := I.tuple h
    obtain ⟨o, ho, _⟩ := id p
    exact ⟨its, rv, p, Heap.lt_size ho⟩
theorem Src.inj {k : Src} {X : Cx} {pins : List (Addr × Obj)} {σ : L2.St} {H : Hp} {s : Shared} {a : Addr} {xs ys : List V} (I : Inv X pins σ H s) (h : k.sq X.K H a xs) (g : k.sq X.K H a ys) : xs = ys := by
  cases k
  · exact I.list_inj h g
  · exact I.tuple_inj h g
/-- the walk of zip(a, b) -/
def Izz (k1 k2 : Src) (K : PySem.W.Frag) (a b : Addr) : It :=
  ⟨fun i H => ∃ (xs ys : List V) (x y : V), k1.sq K H a xs ∧ k2.sq K H b ys ∧ xs[i]? = some x ∧ ys[i]? = some y,
    fun i H v H' => ∃ T x y, v = .ref T ∧ H T = none ∧ H' = upd H T (.tup [x, y]) ∧ (∀ xs, k1.sq K H a xs → xs[i]? = some x) ∧ ∀ ys, k2.sq K H b ys → ys[i]? = some y,
    fun i H => ∃ xs ys : List V, k1.sq K H a xs ∧ k2.sq K H b ys ∧ (xs.length ≤ i ∨ ys.length ≤ i)⟩
theorem turn {k1 k2 : Src} {P : Program} {w : World} {K : PySem.W.Frag} {elts : List Expr} {kk : Nat} {tpos : Pos} {a b z TI TO i1 i2 : Addr} (D : ZipApart z TI TO i1 i2 a b) :
    Turn P w K (.Tuple elts kk tpos) (Izz k1 k2 K a b) [z, TI, TO, i1, i2] z (fun i h => IsZip h z TI TO .none ∧ IsPair h TI (.ref i1) (.ref i2) ∧ (∃ x y, IsPair h TO x y) ∧ k1.it h i1 a i ∧ k2.it h i2 b i) where
  mem := by simp
  obj := fun i h st c hc => by
    obtain ⟨hz, hI, ⟨x, y, hO⟩, j1, j2⟩ := st
    obtain ⟨o1, e1, d1⟩ := Src.it_obj (k := k1) j1
    obtain ⟨o2, e2, d2⟩ := Src.it_obj (k := k2) j2
    have five : c = z ∨ c = TI ∨ c = TO ∨ c = i1 ∨ c = i2 := by simpa using hc
    rcases five with q | q | q | q | q <;> subst q
    · exact ⟨_, hz, fun v q => nomatch q⟩
    · exact ⟨_, hI, fun v q => nomatch q⟩
    · exact ⟨_, hO, fun v q => nomatch q⟩
    · exact ⟨o1, e1, fun v q => by rw [d1] at q; cases q⟩
    · exact ⟨o2, e2, fun v q => by rw [d2] at q; cases q⟩
  keep := fun i h h' st kp => by
    obtain ⟨hz, hI, ⟨x, y, hO⟩, j1, j2⟩ := st
    exact ⟨kp z (by simp) _ hz, kp TI (by simp) _ hI, ⟨x, y, kp TO (by simp) _ hO⟩, Src.it_at (k := k1) j1 fun o q => kp i1 (by simp) o q, Src.it_at (k := k2) j2 fun o q => kp i2 (by simp) o q⟩
  item := by
    intro X hP hw hK hc i pins s σ H E I hf st hg
    subst hP hw hK
    obtain ⟨hz, hI, ⟨x0, y0, hO⟩, j1, j2⟩ := st
    obtain ⟨xs, ys, x, y, qx, qy, hx, hy⟩ := hg
    obtain ⟨its, rv, p, _⟩ := Src.raw I qx
    obtain ⟨its2, rv2, p2, _⟩ := Src.raw I qy
    obtain ⟨u, hu, ru⟩ := rv.get hx
    obtain ⟨u2, hu2, ru2⟩ := rv2.get hy
    have zl : z < s.heap.objs.size := Heap.lt_size hz
    refine next_item D hz hI hO j1 j2 p p2 (x := u) (y := u2) (by simpa using hu) (by simpa using hu2) fun g z' o' j1' j2' hT hsz hk => ?_
    refine ⟨_, rfl, wpAny_letOwnedTupleGo_zip (s := { s with heap := g }) z' fun g2 z2 sb => ?_⟩
    have hT2 : g2.get? s.heap.objs.size = some { cls := .type "tuple", data := .seq #[u, u2] } := (sb.2 _ (Nat.ne_of_gt zl)).trans hT
    have new : ObjOk X.prog X.w (upd H s.heap.objs.size (.tup [x, y])) g2 s.heap.objs.size (.tup [x, y]) := ⟨by show 2 ≤ sizeLine; decide, [u, u2], .cons ru (.cons ru2 .nil), ⟨_, hT2, rfl, _, rfl⟩⟩
    have I1 : Inv X pins σ (upd H s.heap.objs.size (.tup [x, y])) { s with heap := g2 } := I.turnedNew (t' := s.toks) (ch := [z, TI, TO, i1, i2])
      (fun c o hb q => (sb.2 c (fun r => hb (by simp [r]))).trans (hk c o (fun r => hb (by simp [r])) (fun r => hb (by simp [r])) (fun r => hb (by simp [r])) (fun r => hb (by simp [r])) q)) hf (Nat.le_refl _) new
    refine ⟨.ref s.heap.objs.size, _, I1, rfl, ⟨_, x, y, rfl, I.hok.fresh (Nat.le_refl _), rfl, fun l hl => by rw [Src.inj I hl qx]; exact hx, fun l hl => by rw [Src.inj I hl qy]; exact hy⟩, ⟨z2, ?_, ⟨u, u2, ?_⟩, ?_, ?_⟩, fun c hcm => ?_⟩
    · exact (sb.2 _ D.TIz).trans (hk _ _ D.TIz D.TITO D.TIi1 D.TIi2 hI)
    · exact (sb.2 _ D.TOz).trans o'
    · exact Src.it_at (k := k1) j1' fun o q => (sb.2 _ D.i1z).trans q
    · exact Src.it_at (k := k2) j2' fun o q => (sb.2 _ D.i2z).trans q
    · have lt : c < s.heap.objs.size := by
        have five : c = z ∨ c = TI ∨ c = TO ∨ c = i1 ∨ c = i2 := by simpa using hcm
        rcases five with q | q | q | q | q <;> subst q
        · exact zl
        · exact Heap.lt_size hI
        · exact Heap.lt_size hO
        · obtain ⟨_, e1, _⟩ := Src.it_obj (k := k1) j1; exact Heap.lt_size e1
        · obtain ⟨_, e2, _⟩ := Src.it_obj (k := k2) j2; exact Heap.lt_size e2
      rw [upd_ne (Nat.ne_of_lt lt)]
      exact (hf c hcm).1
  done := by
    intro X hP hw hK hc i pins s σ H E I hf st hg
    subst hP hw hK
    obtain ⟨hz, hI, ⟨x0, y0, hO⟩, j1, j2⟩ := st
    obtain ⟨xs, ys, qx, qy, hend⟩ := hg
    obtain ⟨its, rv, p, _⟩ := Src.raw I qx
    obtain ⟨its2, rv2, p2, _⟩ := Src.raw I qy
    have n1 := rv.length
    have n2 := rv2.length
    have he : its.toArray[i]? = none ∨ its2.toArray[i]? = none := by
      rcases hend with q | q
      · exact .inl (by simp; omega)
      · exact .inr (by simp; omega)
    exact next_end (I.ok.hd hc) D hz hI hO j1 j2 p p2 he fun g hk => ⟨rfl, I.turnedL (t' := s.toks) (ch := [z, TI, TO, i1, i2]) (fun c o hb q =>
      hk c o (fun r => hb (by simp [r])) (fun r => hb (by simp [r])) (fun r => hb (by simp [r])) (fun r => hb (by simp [r])) q) hf⟩
  self := fun A i s Q E st h => wpAny_pyIter_zip st.1 h
def iZz (k1 k2 : Src) (K : PySem.W.Frag) (ta : TA) : TI := fun σ H R => ta σ H fun vs H1 => ∃ a b xs ys, vs = [.ref a, .ref b] ∧ k1.sq K H1 a xs ∧ k2.sq K H1 b ys ∧ R (Izz k1 k2 K a b) H1
theorem pi_zz (k1 k2 : Src) {X : Cx} {e e2 : Expr} {ta : TA} {p pos tpos : Pos} {elts : List Expr} {kk : Nat} (hg : Gl X "zip") (hm : X.mg "zip" = none) (ha : PA X [e, e2] ta)
    (hs : starEach [e, e2] X.env = (false, eval e X.env) :: starEach [e2] X.env := by rfl) (hpl : (backTo pos (starEach [e2] X.env)).any (·.1) = false := by rfl) :
    PI X (.Tuple elts kk tpos) (.Call (.Name "zip" p) [e, e2] [] pos) (iZz k1 k2 X.K ta) := by
  refine ⟨fun pins s σ H R I h => ?_⟩
  refine Call_ (ld_blt I hg hm PyProof.Rows.boot_zip (PyProof.Rows.callWith_type1 (thn (ha.run pos pins s σ H _ I h) fun us s1 ⟨vs, H1, I1, r1, q1⟩ => ?_) hs hpl))
  obtain ⟨a, b, xs, ys, ex, qx, qy, q⟩ := q1
  subst ex
  cases r1 with
  | cons r rr => cases rr with
    | cons r' rr =>
      cases rr; cases r; cases r'
      obtain ⟨its, rv, p1, la⟩ := Src.raw I1 qx
      obtain ⟨its2, rv2, p2, lb⟩ := Src.raw I1 qy
      refine call_new p1 p2 fun g hz hI hO j1 j2 hk => wpAny_pyIter_zip hz ?_
      have I2 : Inv X pins σ H1 { s1 with heap := g } := I1.kept (t' := s1.toks) hk
      refine ⟨s1.heap.objs.size + 4, [s1.heap.objs.size + 4, s1.heap.objs.size + 2, s1.heap.objs.size + 3, s1.heap.objs.size, s1.heap.objs.size + 1], _, _, H1, rfl, I2, turn (PySem.W.ktu_apart s1.heap.objs.size a b la lb), ⟨hz, hI, ⟨_, _, hO⟩, j1, j2⟩, fun c hcm => ?_, q⟩
      have five : c = s1.heap.objs.size + 4 ∨ c = s1.heap.objs.size + 2 ∨ c = s1.heap.objs.size + 3 ∨ c = s1.heap.objs.size ∨ c = s1.heap.objs.size + 1 := by simpa using hcm
      have le : s1.heap.objs.size ≤ c := by rcases five with z | z | z | z | z <;> rw [z] <;> omega
      exact I1.fpOk le (I1.hok.fresh le)
theorem walk_zz {k1 k2 : Src} {K : PySem.W.Frag} {a b : Addr} {xs ys : List V} {n : Nat} (hn : n = min xs.length ys.length) : Walk (Izz k1 k2 K a b) n (fun H => k1.sq K H a xs ∧ k2.sq K H b ys) (YPair (fun i => xs[i]?) (fun i => ys[i]?)) := by
  subst hn
  refine ⟨fun i _ hi q => ?_, fun _ q => ⟨xs, ys, q.1, q.2, by omega⟩, fun i H v H' _ q y => ?_⟩
  · exact ⟨xs, ys, _, _, q.1, q.2, List.getElem?_eq_getElem (show i < xs.length by omega), List.getElem?_eq_getElem (show i < ys.length by omega)⟩
  · obtain ⟨T, x, z, rfl, h2, rfl, h4, h5⟩ := y
    exact ⟨T, x, z, rfl, h2, rfl, h4 xs q.1, h5 ys q.2⟩
end LtZ

set_option autoImplicit false
/-! ## edits -/
namespace Lt
open PySem PySem.Spec PyProof.Rows L2 TL
/-- values that may stand in an edit -/
def valE : V → Prop
  | .non => True
  | .bl _ => True
  | .int i => -100000000000 ≤ i ∧ i ≤ 100000000000
  | .str z => z.length ≤ 40 ∧ ∀ c ∈ tl z, chOk c
  | _ => False
theorem valE.scal {v : V} (h : valE v) : isScal v = true := by
  cases v <;> first | rfl | exact h.elim
theorem valE.thing {v : V} {H : Hp} (h : valE v) : Thing H v := by
  cases v with
  | non => exact .non
  | bl b => exact .bl b
  | int i => exact .int i
  | str z => exact .str z (by have := h.1; omega)
  | _ => exact h.elim
/-- a row fits the columns -/
def rowB (cols : List Col) (vs : List V) : Bool := decide (vs.length = cols.length) && (vs.zip cols).all fun p => fitsK p.1 p.2.k p.2.b
def spFitsCols : Sp := fun vs H Q _ => ∃ (r L : Addr) (xs : List V) (cols : List Col), vs = [.ref r, .ref L] ∧ H r = some (.tup xs) ∧ ColsAt H L cols ∧ (∀ v ∈ xs, valE v) ∧ xs.length ≤ 100 ∧ cols.length ≤ 100 ∧ ∀ H', Same H H' → Q (.bl (rowB cols xs)) H'
/-- an edit -/
inductive Ed where
  | row (ins : Bool) (t : Str) (r : List V)
  | set (t : Str) (k c v : V)
  | del (t : Str) (k : V)
def edT : Ed → Str
  | .row _ t _ => t
  | .set t _ _ _ => t
  | .del t _ => t
def edA : Ed → Str
  | .row true _ _ => "insert"
  | .row false _ _ => "replace"
  | .set _ _ _ _ => "set"
  | .del _ _ => "delete"
def edR : Ed → List D
  | .row _ _ r => [.t (r.map D.s)]
  | .set _ k c v => [.s k, .s c, .s v]
  | .del _ k => [.s k]
def edD (e : Ed) : D := .t (.s (.str (edA e)) :: .s (.str (edT e)) :: edR e)
def edK : Ed → V
  | .row _ _ r => r.headD .non
  | .set _ k _ _ => k
  | .del _ k => k
def edOk : Ed → Prop
  | .row _ t r => PyData.strOk t = true ∧ r.length ≤ 50 ∧ ∀ v ∈ r, valE v
  | .set t k c v => PyData.strOk t = true ∧ valE k ∧ valE c ∧ valE v
  | .del t k => PyData.strOk t = true ∧ valE k
def edFull : Ed → Prop
  | .row _ _ r => r ≠ []
  | _ => True
theorem scal_L {H : Hp} : ∀ {r xs : List V}, TpL H xs (r.map D.s) → xs = r
  | [], _, h => by cases h; rfl
  | v :: r, _, h => by
    cases h with
    | cons h1 h2 => rw [h1.s1, scal_L h2]
theorem row_at {H : Hp} {v : V} {b : Bool} {t : Str} {r : List V} (h : Tp H v (edD (.row b t r))) : ∃ a q, v = .ref a ∧ H a = some (.tup [.str (edA (.row b t r)), .str t, .ref q]) ∧ H q = some (.tup r) := by
  obtain ⟨a, xs, rfl, h1, h2⟩ := t_at h
  obtain ⟨u, us, rfl, k1, h2⟩ := h2.c1
  obtain ⟨u2, us2, rfl, k2, h2⟩ := h2.c1
  obtain ⟨u3, us3, rfl, k3, h2⟩ := h2.c1
  cases h2
  obtain ⟨q, ys, rfl, h3, h4⟩ := t_at k3
  have := scal_L h4
  subst this
  rw [k1.s1, k2.s1] at h1
  exact ⟨a, q, rfl, h1, h3⟩
theorem set_at {H : Hp} {v : V} {t : Str} {k c w : V} (h : Tp H v (edD (.set t k c w))) : ∃ a, v = .ref a ∧ H a = some (.tup [.str "set", .str t, k, c, w]) := by
  obtain ⟨a, xs, rfl, h1, h2⟩ := t_at h
  obtain ⟨u, us, rfl, k1, h2⟩ := h2.c1
  obtain ⟨u2, us2, rfl, k2, h2⟩ := h2.c1
  obtain ⟨u3, us3, rfl, k3, h2⟩ := h2.c1
  obtain ⟨u4, us4, rfl, k4, h2⟩ := h2.c1
  obtain ⟨u5, us5, rfl, k5, h2⟩ := h2.c1
  cases h2
  rw [k1.s1, k2.s1, k3.s1, k4.s1, k5.s1] at h1
  exact ⟨a, rfl, h1⟩
theorem del_at {H : Hp} {v : V} {t : Str} {k : V} (h : Tp H v (edD (.del t k))) : ∃ a, v = .ref a ∧ H a = some (.tup [.str "delete", .str t, k]) := by
  obtain ⟨a, xs, rfl, h1, h2⟩ := t_at h
  obtain ⟨u, us, rfl, k1, h2⟩ := h2.c1
  obtain ⟨u2, us2, rfl, k2, h2⟩ := h2.c1
  obtain ⟨u3, us3, rfl, k3, h2⟩ := h2.c1
  cases h2
  rw [k1.s1, k2.s1, k3.s1] at h1
  exact ⟨a, rfl, h1⟩
theorem ed_sm {e : Ed} (h : edOk e) : True := True.intro
/-! what an edit is worth -/
def keyB (cols : List Col) (v : V) : Bool := rowB (cols.take 1) [v]
def setC (cols : List Col) (c : V) : Option Col := (cols.drop 1).find? fun col => decide (V.str col.n = c)
def setB (cols : List Col) (c v : V) : Bool := match setC cols c with | none => false | some col => fitsK v col.k col.b
abbrev Rws := List (Key × List V)
abbrev StM := List (Str × Rws)
def keyOf : V → Key
  | .int i => .inl i
  | .str z => .inr z
  | _ => .inl 0
def rwsOf (m : StM) (t : Str) : Rws := match m.find? (fun p => decide (p.1 = t)) with | some p => p.2 | none => []
def hasK (rs : Rws) (k : Key) : Bool := rs.any fun p => decide (p.1 = k)
def rowBad (cols : List Col) : Ed → Bool
  | .row _ _ r => !rowB cols r
  | .set _ _ c v => !setB cols c v
  | .del _ _ => false
def isIns : Ed → Bool
  | .row b _ _ => b
  | _ => false
def edC (ts : List Tab) (m : StM) (e : Ed) : Str :=
  match tabOf ts (edT e) with
  | none => "table"
  | some t => if rowBad t.cols e = true then "row" else if keyB t.cols (edK e) = false then "key" else if hasK (rwsOf m (edT e)) (keyOf (edK e)) = isIns e then "key" else ""
def rM (rs : List Ro) : Rws := rs.map fun r => (r.k, r.vs)
def stM (st : List TS) : StM := st.map fun p => (p.n, rM p.rs)
def spFitsKey : Sp := fun vs H Q _ => ∃ (a : Ads) (t : Tab) (v : V), vs = [.ref a.d, v] ∧ DescAt H a t ∧ t.cols.length ≤ 40 ∧ valE v ∧ ∀ H', Same H H' → Q (.bl (keyB t.cols v)) H'
def spKeyOfE : Sp := fun vs H Q _ => ∃ (v : V) (e : Ed), vs = [v] ∧ Tp H v (edD e) ∧ edFull e ∧ ∀ H', Same H H' → Q (edK e) H'
def spIsOther : Sp := fun vs H Q _ => ∃ (a : Ads) (t : Tab) (c : V), vs = [.ref a.d, c] ∧ DescAt H a t ∧ t.cols.length ≤ 40 ∧ valE c ∧ ∀ H', Same H H' → Q (.bl (setC t.cols c).isSome) H'
def spFitsSet : Sp := fun vs H Q _ => ∃ (a : Ads) (t : Tab) (c v : V), vs = [.ref a.d, c, v] ∧ DescAt H a t ∧ ColsOk [] t.cols ∧ t.cols.length ≤ 40 ∧ valE c ∧ valE v ∧ ∀ H', Same H H' → Q (.bl (setB t.cols c v)) H'
def spEdCode : Sp := fun vs H Q _ => ∃ (S : Addr) (s : Sch) (T : Addr) (st : List TS) (v : V) (e : Ed), vs = [.ref S, .ref T, v] ∧ ScV H S s ∧ StAt H T st ∧ (∀ n ∈ schN s, n ∈ stN st) ∧ Tp H v (edD e) ∧ edOk e ∧ ∀ H', Same H H' → Q (.str (edC (tbs s) (stM st) e)) H'
theorem cut_takeE (xs : List V) (k : Nat) : cutV xs none (some (k : Int)) = xs.take k := by
  unfold cutV
  rw [HT.sIx_none, HT.sIx_nat, List.drop_zero, Nat.sub_zero]
  by_cases h : k ≤ xs.length
  · rw [Nat.min_eq_left h]
  · rw [Nat.min_eq_right (by omega), List.take_of_length_le (by omega), List.take_of_length_le (by omega)]
theorem valE.flat {v : V} (h : valE v) : flatV v = true := by
  cases v <;> first | rfl | exact h.elim
theorem eqV_str (n : Str) {c : V} (h : valE c) : eqV (.str n) c = decide (V.str n = c) := by
  cases c with
  | str z =>
    show (n == z) = _
    rw [Bool.eq_iff_iff, beq_iff_eq, decide_eq_true_iff]
    exact ⟨fun e => by rw [e], fun e => V.str.inj e⟩
  | non => rfl
  | bl b => rfl
  | int i => rfl
  | _ => exact h.elim
theorem setC_in (cols : List Col) {c : V} (h : valE c) : inV c (((colNs cols).map V.str).drop 1) = (setC cols c).isSome := by
  unfold setC inV colNs
  rw [List.isSome_find?, List.map_map, ← List.map_drop, List.any_map]
  congr 1
  funext col
  exact eqV_str col.n h
theorem setC_some {cols : List Col} {c : V} {col : Col} (h : setC cols c = some col) : c = .str col.n ∧ col ∈ cols.drop 1 := by
  have h1 := List.find?_some h
  exact ⟨(of_decide_eq_true h1).symm, List.mem_of_find?_eq_some h⟩
theorem col_one {cols : List Col} (nd : (colNs cols).Nodup) {c d : Col} (hc : c ∈ cols) (hd : d ∈ cols) (e : c.n = d.n) : c = d := by
  obtain ⟨i, hi, ei⟩ := List.getElem_of_mem hc
  obtain ⟨j, hj, ej⟩ := List.getElem_of_mem hd
  have a1 : (colNs cols)[i]? = some c.n := by unfold colNs; rw [List.getElem?_map, List.getElem?_eq_getElem hi, ei]; rfl
  have a2 : (colNs cols)[j]? = some c.n := by unfold colNs; rw [List.getElem?_map, List.getElem?_eq_getElem hj, ej, e]; rfl
  have := nd_ix nd a1 a2
  subst this
  rw [← ei, ← ej]
theorem ed_head {H : Hp} {v : V} {e : Ed} (h : Tp H v (edD e)) : ∃ a xs, v = .ref a ∧ H a = some (.tup (.str (edA e) :: .str (edT e) :: xs)) ∧ TpL H xs (edR e) := by
  obtain ⟨a, xs, rfl, h1, h2⟩ := t_at h
  obtain ⟨u, us, rfl, k1, h2⟩ := h2.c1
  obtain ⟨u2, us2, rfl, k2, h2⟩ := h2.c1
  rw [k1.s1, k2.s1] at h1
  exact ⟨a, us2, rfl, h1, h2⟩
theorem keyB_fit {cols : List Col} {v : V} (h : keyB cols v = true) : ∃ c, cols[0]? = some c ∧ fitsK v c.k c.b = true := by
  cases cols with
  | nil =>
    unfold keyB rowB at h
    have h1 := (Bool.and_eq_true_iff.mp h).1
    exact absurd (of_decide_eq_true h1) (by show ¬ (1 : Nat) = 0; decide)
  | cons c r =>
    unfold keyB rowB at h
    rw [List.take_succ_cons, List.take_zero] at h
    have h2 := (Bool.and_eq_true_iff.mp h).2
    have h3 : (fitsK v c.k c.b && true) = true := h2
    exact ⟨c, rfl, by rw [Bool.and_true] at h3; exact h3⟩
theorem keyB_key {cols : List Col} (hc : ColsOk [] cols) {v : V} (h : keyB cols v = true) : v = kV (keyOf v) := by
  obtain ⟨c, h1, h2⟩ := keyB_fit h
  have hb := hc.hd c h1
  cases v with
  | int i => rfl
  | str z => rfl
  | non => rw [hb] at h2; exact absurd h2 (by unfold fitsK; rw [if_pos rfl]; decide)
  | _ =>
    unfold fitsK at h2
    rw [if_neg (fun z => nomatch z)] at h2
    exact absurd (Bool.and_eq_true_iff.mp h2).1 (by show ¬ false = true; decide)
theorem hasK_ro (rs : List Ro) (k : Key) : (valV (roK rs) k).isSome = hasK (rM rs) k := by
  rw [Bool.eq_iff_iff, valV_isSome, roK_keys]
  unfold hasK rM roN
  rw [List.any_map, List.any_eq_true]
  constructor
  · intro h
    obtain ⟨r, h1, h2⟩ := List.mem_map.mp h
    exact ⟨r, h1, decide_eq_true h2⟩
  · rintro ⟨r, h1, h2⟩
    exact List.mem_map.mpr ⟨r, h1, of_decide_eq_true h2⟩
theorem rwsOf_in {st : List TS} (nd : (stN st).Nodup) {p : TS} (hp : p ∈ st) : rwsOf (stM st) p.n = rM p.rs := by
  unfold rwsOf stM
  rw [List.find?_map]
  have e : ((fun q : Str × Rws => decide (q.1 = p.n)) ∘ fun q : TS => (q.n, rM q.rs)) = fun q : TS => decide (q.n = p.n) := rfl
  rw [e]
  cases h : st.find? (fun q => decide (q.n = p.n)) with
  | none =>
    have := List.find?_eq_none.mp h p hp
    simp at this
  | some q =>
    have h1 := List.find?_some h
    have := st_one nd (List.mem_of_find?_eq_some h) hp (of_decide_eq_true h1)
    subst this
    rfl
theorem isIns_eq (e : Ed) : decide (V.str (edA e) = V.str "insert") = isIns e := by
  cases e with
  | row b t r =>
    cases b with
    | true => show decide (V.str "insert" = V.str "insert") = true; decide +kernel
    | false => show decide (V.str "replace" = V.str "insert") = false; decide +kernel
  | set t k c w => show decide (V.str "set" = V.str "insert") = false; decide +kernel
  | del t k => show decide (V.str "delete" = V.str "insert") = false; decide +kernel
/-! what an edit makes of the rows -/
def putRw (rs : Rws) (k : Key) (vs : List V) : Rws := if hasK rs k = true then rs.map (fun p => if p.1 = k then (p.1, vs) else p) else rs ++ [(k, vs)]
def delRw (rs : Rws) (k : Key) : Rws := rs.filter fun p => !decide (p.1 = k)
def restOf (rs : Rws) (k : Key) : List V := match rs.find? (fun p => decide (p.1 = k)) with | some p => p.2 | none => []
def setAt (cols : List Col) (vs : List V) (c v : V) : List V := match c with | .str n => vs.set ((colNs cols).idxOf n - 1) v | _ => vs
def rowsAfter (cols : List Col) (rs : Rws) : Ed → Rws
  | .row _ _ r => putRw rs (keyOf (r.headD .non)) (r.drop 1)
  | .set _ k c v => putRw rs (keyOf k) (setAt cols (restOf rs (keyOf k)) c v)
  | .del _ k => delRw rs (keyOf k)
theorem rM_put (rs : List Ro) (k : Key) (a : Addr) (vs : List V) : rM (putRo rs ⟨k, a, vs⟩) = putRw (rM rs) k vs := by
  unfold putRo putRw
  have e : hasK (rM rs) k = rs.any fun q => decide (q.k = k) := by unfold hasK rM; rw [List.any_map]; rfl
  rw [e]
  split
  · unfold rM
    rw [List.map_map, List.map_map]
    refine List.map_congr_left fun r _ => ?_
    show (Ro.k (if r.k = k then _ else _), Ro.vs (if r.k = k then _ else _)) = if r.k = k then (r.k, vs) else (r.k, r.vs)
    split <;> rfl
  · unfold rM; rw [List.map_append]; rfl
def dropRo (rs : List Ro) (k : Key) : List Ro := rs.filter fun r => !decide (r.k = k)
theorem rM_drop (rs : List Ro) (k : Key) : rM (dropRo rs k) = delRw (rM rs) k := by
  unfold dropRo delRw rM
  rw [List.filter_map]
  rfl
theorem roK_drop (rs : List Ro) (k : Key) : dropK (roK rs) k = roK (dropRo rs k) := by
  unfold dropK dropRo roK
  rw [List.filter_map]
  congr 2
  funext r
  by_cases h : r.k = k <;> simp [h]
theorem restOf_rM {rs : List Ro} (nd : (roN rs).Nodup) {r : Ro} (hr : r ∈ rs) : restOf (rM rs) r.k = r.vs := by
  rw [← restAt_eq nd hr]
  unfold restOf restAt rM
  rw [List.find?_map]
  have e : ((fun p : Key × List V => decide (p.1 = r.k)) ∘ fun q : Ro => (q.k, q.vs)) = fun q : Ro => decide (q.k = r.k) := rfl
  rw [e]
  cases rs.find? (fun q => decide (q.k = r.k)) <;> rfl
/-- the edit can be applied -/
structure EdGood (cols : List Col) (rs : List Ro) (e : Ed) : Prop where
  rb : rowBad cols e = false
  kb : keyB cols (edK e) = true
  kk : hasK (rM rs) (keyOf (edK e)) ≠ isIns e
theorem EdGood.full {cols : List Col} {rs : List Ro} {e : Ed} (g : EdGood cols rs e) : edFull e := by
  cases e with
  | row b t r =>
    intro z
    subst z
    have h4 : (!rowB cols []) = false := g.rb
    have h4' : rowB cols [] = true := by
      cases h : rowB cols [] with
      | true => rfl
      | false => rw [h] at h4; cases h4
    unfold rowB at h4'
    have h5 : decide ((0 : Nat) = cols.length) = true := (Bool.and_eq_true_iff.mp h4').1
    have h6 := of_decide_eq_true h5
    obtain ⟨c, h7, _⟩ := keyB_fit g.kb
    have := (List.getElem?_eq_some_iff.mp h7).1
    omega
  | set t k c w => exact True.intro
  | del t k => exact True.intro
def spWithValue : Sp := fun vs H Q _ => ∃ (a : Ads) (t : Tab) (r : Addr) (xs : List V) (c v : V), vs = [.ref a.d, .ref r, c, v] ∧ DescAt H a t ∧ ColsOk [] t.cols ∧ t.cols.length ≤ 40 ∧ (setC t.cols c).isSome = true ∧ H r = some (.tup xs) ∧ xs.length + 1 = t.cols.length ∧
  ∀ r' H', H' r' = some (.tup (setAt t.cols xs c v)) → Same H H' → Q (.ref r') H'
def spTableAfter : Sp := fun vs H Q _ => ∃ (a : Ads) (t : Tab) (d : Addr) (rs : List Ro) (v : V) (e : Ed), vs = [.ref a.d, .ref d, v] ∧ DescAt H a t ∧ ColsOk [] t.cols ∧ t.cols.length ≤ 40 ∧ TAt H d rs ∧ rs.length ≤ 200 ∧ (∀ r ∈ rs, r.vs.length + 1 = t.cols.length) ∧ Tp H v (edD e) ∧ edOk e ∧ EdGood t.cols rs e ∧
  ∀ d' rs' H', TAt H' d' rs' → rM rs' = rowsAfter t.cols (rM rs) e → Same H H' → H d' = none → Q (.ref d') H'
theorem idx_pos {cols : List Col} (nd : (colNs cols).Nodup) {n : Str} (h : n ∈ colNs (cols.drop 1)) : 1 ≤ (colNs cols).idxOf n ∧ (colNs cols).idxOf n < cols.length := by
  cases cols with
  | nil => cases h
  | cons c r =>
    have h' : n ∈ colNs r := h
    have nd' : (c.n :: colNs r).Nodup := nd
    have hne : c.n ≠ n := fun e => by
      rw [← e] at h'
      exact (List.nodup_cons.mp nd').1 h'
    have e : (colNs (c :: r)).idxOf n = (colNs r).idxOf n + 1 := by
      show (c.n :: colNs r).idxOf n = _
      rw [List.idxOf_cons, beq_false_of_ne hne]; rfl
    have l : (colNs r).idxOf n < (colNs r).length := List.idxOf_lt_length_of_mem h'
    have l2 : (colNs r).length = r.length := by unfold colNs; rw [List.length_map]
    rw [e, List.length_cons]
    omega
theorem set_cut (xs : List V) (k : Nat) (v : V) (h : k < xs.length) : xs.take k ++ [v] ++ xs.drop (k + 1) = xs.set k v := by
  rw [List.set_eq_take_append_cons_drop, if_pos h, List.append_assoc]; rfl
theorem dropRo_nd {rs : List Ro} (nd : (roN rs).Nodup) (k : Key) : (roN (dropRo rs k)).Nodup := by
  unfold roN dropRo
  exact List.Nodup.sublist (List.Sublist.map _ (List.filter_sublist)) nd
/-! a state copied -/
/-- a new state: the same rows in new dicts -/
structure NewSt (H H' : Hp) (T : Addr) (st : List TS) (m : StM) : Prop where
  at' : StAt H' T st
  md : stM st = m
  fT : H T = none
  fd : ∀ q ∈ st, H q.d = none ∧ q.d ≠ T
  dn : (st.map fun q => q.d).Nodup
  se : Same H H'
def spCopyState : Sp := fun vs H Q _ => ∃ (T : Addr) (st : List TS), vs = [.ref T] ∧ StAt H T st ∧ st.length ≤ 100 ∧ ∀ T' st' H', NewSt H H' T' st' (stM st) → Q (.ref T') H'
theorem st_neT {H : Hp} {T : Addr} {st : List TS} (A : StAt H T st) : ∀ p ∈ st, p.d ≠ T := fun p hp e => by
  have h1 := (A.ds p hp).dk
  rw [e, A.sk] at h1
  have h2 : stK st = roK p.rs := HO.dK.inj (Option.some.inj h1)
  have h3 : ((Sum.inr p.n : Key), V.ref p.d) ∈ roK p.rs := by rw [← h2]; exact List.mem_map.mpr ⟨p, hp, rfl⟩
  obtain ⟨r, hr, er⟩ := List.mem_map.mp h3
  have h4 := (A.ds p hp).rt r hr
  have h5 : r.a = p.d := V.ref.inj (congrArg Prod.snd er)
  rw [h5, (A.ds p hp).dk] at h4
  cases h4
theorem stM_at {st : List TS} {i : Nat} {p : TS} (h : st[i]? = some p) : stM (st.take (i + 1)) = stM (st.take i) ++ [(p.n, rM p.rs)] := by
  unfold stM
  rw [List.take_add_one, h, List.map_append]; rfl
theorem stM_names (st : List TS) : (stM st).map (·.1) = stN st := by unfold stM stN; rw [List.map_map]; rfl
theorem unlockE {H H1 : Hp} {a : Addr} {od : Obj} {u : HO} (ha : H a = some u) (s : Same (upd H a (.frz od u)) H1) : Same H (upd H1 a u) := fun b o e => by
  by_cases eb : b = a
  · subst eb; rw [ha] at e; cases e; exact upd_same
  · rw [upd_ne eb]; exact s b o (by rw [upd_ne eb]; exact e)
theorem lockE_free {H H1 : Hp} {a b : Addr} {od : Obj} {u : HO} (s : Same (upd H a (.frz od u)) H1) (h : H1 b = none) : H b = none := by
  have := s.free h
  by_cases eb : b = a
  · subst eb; rw [upd_same] at this; cases this
  · rw [upd_ne eb] at this; exact this
/-! a write -/
def edM (ts : List Tab) (m : StM) (e : Ed) : StM := match tabOf ts (edT e) with
  | none => m
  | some t => m.map fun p => if p.1 = edT e then (p.1, rowsAfter t.cols p.2 e) else p
def runE (ts : List Tab) : StM → List Ed → Nat → (Str × Nat) ⊕ StM
  | m, [], _ => .inr m
  | m, e :: es, i => if edC ts m e = "" then runE ts (edM ts m e) es (i + 1) else .inl (edC ts m e, i)
def applyM (ts : List Tab) (m : StM) (es : List Ed) : (Str × Nat) ⊕ StM := if 24 < es.length then .inl ("long", 24) else runE ts m es 0
structure MW (ts : List Tab) (m : StM) (b : Nat) : Prop where
  nm : (m.map (·.1)).Nodup
  ln : ∀ p ∈ m, p.2.length ≤ b
  tn : ∀ t ∈ ts, t.n ∈ m.map (·.1)
  wd : ∀ p ∈ m, ∀ t ∈ ts, t.n = p.1 → ∀ r ∈ p.2, r.2.length + 1 = t.cols.length
def spApply (C : Addr) : Sp := fun vs H Q E => ∃ (S : Addr) (s : Sch) (T : Addr) (st : List TS) (L : Addr) (es : List Ed) (xs : List V) (b : Nat), vs = [.ref S, .ref T, .ref L] ∧ ScV H S s ∧ StAt H T st ∧ MW (tbs s) (stM st) b ∧ b + es.length ≤ 180 ∧ st.length ≤ 100 ∧
  H L = some (.lst xs) ∧ TpL H xs (es.map edD) ∧ (∀ e ∈ es, edOk e) ∧
  (∀ m, applyM (tbs s) (stM st) es = .inr m → ∀ T' st' H', NewSt H H' T' st' m → Q (.ref T') H') ∧
  (∀ c i, applyM (tbs s) (stM st) es = .inl (c, i) → ∀ H1 d, Same H H1 → H1 d = none → E (.ref C) (some d) (upd H1 d (.xd [("index", .int (i : Nat)), ("code", .str c)])))
theorem edC_good {ts : List Tab} {m : StM} {e : Ed} (h : edC ts m e = "") : ∃ t, tabOf ts (edT e) = some t ∧ rowBad t.cols e = false ∧ keyB t.cols (edK e) = true ∧ hasK (rwsOf m (edT e)) (keyOf (edK e)) ≠ isIns e := by
  unfold edC at h
  cases h3 : tabOf ts (edT e) with
  | none => rw [h3] at h; exact absurd h (by show ¬ ("table" : Str) = ""; decide +kernel)
  | some t =>
    rw [h3] at h
    have h : (if rowBad t.cols e = true then ("row" : Str) else if keyB t.cols (edK e) = false then ("key" : Str) else if hasK (rwsOf m (edT e)) (keyOf (edK e)) = isIns e then ("key" : Str) else ("" : Str)) = "" := h
    refine ⟨t, rfl, ?_⟩
    cases h4 : rowBad t.cols e with
    | true => rw [h4, if_pos rfl] at h; exact absurd h (by decide +kernel)
    | false =>
      rw [h4, if_neg (by decide)] at h
      cases h5 : keyB t.cols (edK e) with
      | false => rw [h5, if_pos rfl] at h; exact absurd h (by decide +kernel)
      | true =>
        rw [h5, if_neg (by decide)] at h
        refine ⟨rfl, rfl, fun h6 => ?_⟩
        rw [if_pos h6] at h
        exact absurd h (by decide +kernel)
theorem put_same {kvs : List (Key × V)} {k : Key} (h : k ∈ kvs.map (·.1)) (v : V) : putK kvs k v = kvs.map fun kv => if kv.1 = k then (kv.1, v) else kv := by
  unfold putK
  rw [if_pos]
  obtain ⟨p, h1, h2⟩ := List.mem_map.mp h
  exact List.any_eq_true.mpr ⟨p, h1, decide_eq_true h2⟩
def replT (st : List TS) (n : Str) (d : Addr) (rs : List Ro) : List TS := st.map fun q => if q.n = n then ⟨q.n, d, rs⟩ else q
theorem replT_K {st : List TS} {n : Str} (h : n ∈ stN st) (d : Addr) (rs : List Ro) : putK (stK st) (Sum.inr n : Key) (.ref d) = stK (replT st n d rs) := by
  rw [put_same (by rw [st_keys]; exact List.mem_map.mpr ⟨n, h, rfl⟩)]
  unfold stK replT
  rw [List.map_map, List.map_map]
  refine List.map_congr_left fun q _ => ?_
  show (if (Sum.inr q.n : Key) = Sum.inr n then _ else _) = _
  by_cases e : q.n = n
  · rw [if_pos (by rw [e])]; show _ = ((Sum.inr (TS.n (if q.n = n then _ else q)) : Key), V.ref (TS.d (if q.n = n then _ else q))); rw [if_pos e]
  · rw [if_neg (fun z => e (Sum.inr.inj z))]; show _ = ((Sum.inr (TS.n (if q.n = n then _ else q)) : Key), V.ref (TS.d (if q.n = n then _ else q))); rw [if_neg e]
theorem replT_N (st : List TS) (n : Str) (d : Addr) (rs : List Ro) : stN (replT st n d rs) = stN st := by
  unfold stN replT
  rw [List.map_map]
  refine List.map_congr_left fun q _ => ?_
  show TS.n (if q.n = n then _ else q) = q.n
  split <;> rfl
theorem replT_M (st : List TS) (n : Str) (d : Addr) (rs : List Ro) : stM (replT st n d rs) = (stM st).map fun p => if p.1 = n then (p.1, rM rs) else p := by
  unfold stM replT
  rw [List.map_map, List.map_map]
  refine List.map_congr_left fun q _ => ?_
  show (TS.n (if q.n = n then _ else q), rM (TS.rs (if q.n = n then _ else q))) = if q.n = n then (q.n, rM rs) else (q.n, rM q.rs)
  split <;> rfl
theorem replT_mem {st : List TS} {n : Str} {d : Addr} {rs : List Ro} {q : TS} (h : q ∈ replT st n d rs) : (q.d = d ∧ q.rs = rs ∧ q.n = n) ∨ (q ∈ st ∧ q.n ≠ n) := by
  obtain ⟨x, h1, h2⟩ := List.mem_map.mp h
  by_cases e : x.n = n
  · rw [if_pos e] at h2; rw [← h2]; exact .inl ⟨rfl, rfl, e⟩
  · rw [if_neg e] at h2; rw [← h2]; exact .inr ⟨h1, e⟩
theorem replT_dn {st : List TS} {n : Str} {d : Addr} {rs : List Ro} (nm : (stN st).Nodup) (nd : (st.map fun q => q.d).Nodup) (h : ∀ q ∈ st, q.d ≠ d) : ((replT st n d rs).map fun q => q.d).Nodup := by
  induction st with
  | nil => exact List.nodup_nil
  | cons x r ih =>
    have nm1 := List.nodup_cons.mp (show (x.n :: stN r).Nodup from nm)
    have nd1 := List.nodup_cons.mp (show (x.d :: r.map fun q => q.d).Nodup from nd)
    have ih' := ih nm1.2 nd1.2 fun q hq => h q (List.mem_cons_of_mem _ hq)
    show ((if x.n = n then (⟨x.n, d, rs⟩ : TS) else x).d :: (replT r n d rs).map fun q => q.d).Nodup
    refine List.nodup_cons.mpr ⟨fun hm => ?_, ih'⟩
    obtain ⟨q, h1, h2⟩ := List.mem_map.mp hm
    by_cases e : x.n = n
    · rw [if_pos e] at h2
      rcases replT_mem h1 with ⟨_, _, h3⟩ | ⟨h3, _⟩
      · have h5 : q.n ∈ stN (replT r n d rs) := List.mem_map.mpr ⟨q, h1, rfl⟩
        rw [replT_N, h3, ← e] at h5
        exact nm1.1 h5
      · exact h q (List.mem_cons_of_mem _ h3) h2
    · rw [if_neg e] at h2
      rcases replT_mem h1 with ⟨h3, _, _⟩ | ⟨h3, _⟩
      · exact h x (List.mem_cons_self ..) (by rw [← h2, h3])
      · exact nd1.1 (List.mem_map.mpr ⟨q, h3, h2⟩)
theorem NewSt.repl {H H1 H2 : Hp} {T : Addr} {st : List TS} {m : StM} {n : Str} {d : Addr} {rs : List Ro} (N : NewSt H H1 T st m) (hn : n ∈ stN st) (s : Same H1 H2) (hd : TAt H2 d rs) (f : H1 d = none) :
    NewSt H (upd H2 T (.dK (putK (stK st) (Sum.inr n : Key) (.ref d)))) T (replT st n d rs) (m.map fun p => if p.1 = n then (p.1, rM rs) else p) := by
  have hT : H2 T = some (.dK (stK st)) := s _ _ N.at'.sk
  have dT : d ≠ T := fun z => by rw [z, N.at'.sk] at f; cases f
  have keep : ∀ y ys, H2 y = some (.tup ys) → (upd H2 T (.dK (putK (stK st) (Sum.inr n : Key) (.ref d)))) y = some (.tup ys) := fun y ys hy => by
    rw [upd_ne (fun z => by rw [z, hT] at hy; cases hy)]; exact hy
  refine ⟨⟨by rw [upd_same, replT_K hn], fun q hq => ?_, by rw [replT_N]; exact N.at'.nm⟩, by rw [replT_M, N.md], N.fT, fun q hq => ?_, replT_dn N.at'.nm N.dn fun q hq z => ?_, same_upd N.fT _ (N.se.trans s)⟩
  · rcases replT_mem hq with ⟨h1, h2, _⟩ | ⟨h1, _⟩
    · rw [h1, h2]
      exact ⟨by rw [upd_ne dT]; exact hd.dk, fun r hr => keep _ _ (hd.rt r hr), hd.nd⟩
    · have t := N.at'.ds q h1
      exact ⟨by rw [upd_ne (N.fd q h1).2]; exact s _ _ t.dk, fun r hr => keep _ _ (s _ _ (t.rt r hr)), t.nd⟩
  · rcases replT_mem hq with ⟨h1, h2, _⟩ | ⟨h1, _⟩
    · rw [h1]; exact ⟨N.se.free f, dT⟩
    · exact N.fd q h1
  · have := (N.at'.ds q hq).dk
    rw [z, f] at this; cases this
theorem putRw_len (rs : Rws) (k : Key) (vs : List V) : (putRw rs k vs).length ≤ rs.length + 1 := by
  unfold putRw
  split
  · rw [List.length_map]; omega
  · rw [List.length_append]; simp
theorem putRw_mem {rs : Rws} {k : Key} {vs : List V} {r : Key × List V} (h : r ∈ putRw rs k vs) : r.2 = vs ∨ r ∈ rs := by
  unfold putRw at h
  split at h
  · obtain ⟨p, h1, h2⟩ := List.mem_map.mp h
    by_cases e : p.1 = k
    · rw [if_pos e] at h2; rw [← h2]; exact .inl rfl
    · rw [if_neg e] at h2; rw [← h2]; exact .inr h1
  · rcases List.mem_append.mp h with h | h
    · exact .inr h
    · rw [List.mem_singleton.mp h]; exact .inl rfl
theorem after_len (cols : List Col) (rs : Rws) (e : Ed) : (rowsAfter cols rs e).length ≤ rs.length + 1 := by
  cases e with
  | row b t r => exact putRw_len _ _ _
  | set t k c v => exact putRw_len _ _ _
  | del t k => exact Nat.le_succ_of_le (List.length_filter_le _ _)
theorem rowB_len {cols : List Col} {vs : List V} (h : rowB cols vs = true) : vs.length = cols.length := by
  unfold rowB at h
  exact of_decide_eq_true (Bool.and_eq_true_iff.mp h).1
theorem restOf_mem {rs : Rws} {k : Key} (h : hasK rs k = true) : ∃ r ∈ rs, r.1 = k ∧ r.2 = restOf rs k := by
  obtain ⟨p, h1, h2⟩ := List.any_eq_true.mp h
  unfold restOf
  cases e : rs.find? (fun p => decide (p.1 = k)) with
  | none => exact absurd h2 (by rw [List.find?_eq_none] at e; exact e p h1)
  | some q =>
    have h3 := List.find?_some e
    exact ⟨q, List.mem_of_find?_eq_some e, of_decide_eq_true h3, rfl⟩
theorem after_wide {cols : List Col} {rs : Rws} {e : Ed} (hw : ∀ r ∈ rs, r.2.length + 1 = cols.length) (rb : rowBad cols e = false) (kb : keyB cols (edK e) = true) (kk : hasK rs (keyOf (edK e)) ≠ isIns e) : ∀ r ∈ rowsAfter cols rs e, r.2.length + 1 = cols.length := by
  cases e with
  | row b t r =>
    intro x hx
    rcases putRw_mem hx with h | h
    · have h1 : rowB cols r = true := by
        have h2 : (!rowB cols r) = false := rb
        cases h3 : rowB cols r with
        | true => rfl
        | false => rw [h3] at h2; cases h2
      obtain ⟨c, h4, _⟩ := keyB_fit kb
      have := (List.getElem?_eq_some_iff.mp h4).1
      rw [h, List.length_drop, rowB_len h1]
      omega
    · exact hw x h
  | set t k c v =>
    intro x hx
    have hk : hasK rs (keyOf k) = true := by
      have h1 : hasK rs (keyOf k) ≠ false := kk
      cases h : hasK rs (keyOf k) with
      | true => rfl
      | false => exact absurd h h1
    rcases putRw_mem hx with h | h
    · obtain ⟨r, h2, _, h3⟩ := restOf_mem hk
      rw [h]
      have h4 : (setAt cols (restOf rs (keyOf k)) c v).length = (restOf rs (keyOf k)).length := by
        unfold setAt
        split
        · rw [List.length_set]
        · rfl
      rw [h4, ← h3]
      exact hw r h2
    · exact hw x h
  | del t k =>
    intro x hx
    exact hw x (List.mem_filter.mp hx).1
theorem tabOf_mem {ts : List Tab} {n : Str} {t : Tab} (h : tabOf ts n = some t) : t ∈ ts ∧ t.n = n := by
  unfold tabOf at h
  have h3 := List.find?_some h
  exact ⟨List.mem_of_find?_eq_some h, of_decide_eq_true h3⟩
theorem rwsOf_mem {m : StM} {n : Str} {p : Str × Rws} (nm : (m.map (·.1)).Nodup) (hp : p ∈ m) (e : p.1 = n) : rwsOf m n = p.2 := by
  unfold rwsOf
  cases h : m.find? (fun p => decide (p.1 = n)) with
  | none =>
    have := List.find?_eq_none.mp h p hp
    rw [decide_eq_true e] at this
    exact absurd rfl this
  | some q =>
    have h1 := List.mem_of_find?_eq_some h
    have h3 := List.find?_some h
    have h2 : q.1 = n := of_decide_eq_true h3
    obtain ⟨i, hi, ei⟩ := List.getElem_of_mem hp
    obtain ⟨j, hj, ej⟩ := List.getElem_of_mem h1
    have a1 : (m.map (·.1))[i]? = some n := by rw [List.getElem?_map, List.getElem?_eq_getElem hi, ei, ← e]; rfl
    have a2 : (m.map (·.1))[j]? = some n := by rw [List.getElem?_map, List.getElem?_eq_getElem hj, ej, ← h2]; rfl
    have := nd_ix nm a1 a2
    subst this
    rw [ei] at ej
    rw [ej]
theorem MW.step {ts : List Tab} {m : StM} {b : Nat} {e : Ed} (W : MW ts m b) (tn : (ts.map (·.n)).Nodup) (h : edC ts m e = "") : MW ts (edM ts m e) (b + 1) := by
  obtain ⟨t, h1, h2, h3, h4⟩ := edC_good h
  obtain ⟨ht, htn⟩ := tabOf_mem h1
  have em : edM ts m e = m.map fun p => if p.1 = edT e then (p.1, rowsAfter t.cols p.2 e) else p := by unfold edM; rw [h1]
  have en : (edM ts m e).map (·.1) = m.map (·.1) := by
    rw [em, List.map_map]
    refine List.map_congr_left fun p _ => ?_
    show Prod.fst (if p.1 = edT e then _ else p) = p.1
    split <;> rfl
  have each : ∀ p ∈ edM ts m e, ∃ q ∈ m, q.1 = p.1 ∧ (p.2 = q.2 ∨ (q.1 = edT e ∧ p.2 = rowsAfter t.cols q.2 e)) := fun p hp => by
    rw [em] at hp
    obtain ⟨q, h5, h6⟩ := List.mem_map.mp hp
    by_cases e' : q.1 = edT e
    · rw [if_pos e'] at h6; rw [← h6]; exact ⟨q, h5, rfl, .inr ⟨e', rfl⟩⟩
    · rw [if_neg e'] at h6; rw [← h6]; exact ⟨q, h5, rfl, .inl rfl⟩
  refine ⟨by rw [en]; exact W.nm, fun p hp => ?_, fun x hx => by rw [en]; exact W.tn x hx, fun p hp x hx ex r hr => ?_⟩
  · obtain ⟨q, h5, _, h7 | ⟨_, h7⟩⟩ := each p hp
    · rw [h7]; have := W.ln q h5; omega
    · rw [h7]; have := W.ln q h5; have := after_len t.cols q.2 e; omega
  · obtain ⟨q, h5, h6, h7 | ⟨h8, h7⟩⟩ := each p hp
    · rw [h7] at hr
      exact W.wd q h5 x hx (by rw [ex, h6]) r hr
    · rw [h7] at hr
      have hxt : x = t := by
        obtain ⟨i, hi, ei⟩ := List.getElem_of_mem hx
        obtain ⟨j, hj, ej⟩ := List.getElem_of_mem ht
        have a1 : (ts.map (·.n))[i]? = some t.n := by rw [List.getElem?_map, List.getElem?_eq_getElem hi, ei]; show some x.n = _; rw [ex, ← h6, h8, htn]
        have a2 : (ts.map (·.n))[j]? = some t.n := by rw [List.getElem?_map, List.getElem?_eq_getElem hj, ej]; rfl
        have := nd_ix tn a1 a2
        subst this
        rw [← ei, ← ej]
      subst hxt
      refine after_wide (fun y hy => W.wd q h5 x hx (by rw [htn, h8]) y hy) h2 h3 ?_ r hr
      rw [← rwsOf_mem W.nm h5 h8]
      exact h4
theorem NewSt.mono {H H1 H2 : Hp} {T : Addr} {st : List TS} {m : StM} (N : NewSt H H1 T st m) (s : Same H1 H2) : NewSt H H2 T st m := ⟨N.at'.mono s, N.md, N.fT, N.fd, N.dn, N.se.trans s⟩
theorem MW.names {ts : List Tab} {m : StM} {b : Nat} {st : List TS} (W : MW ts m b) (e : stM st = m) {t : Tab} (h : t ∈ ts) : t.n ∈ stN st := by
  rw [← stM_names, e]; exact W.tn t h
theorem edM_eq {ts : List Tab} {m : StM} {st : List TS} {pt : TS} {e : Ed} {t : Tab} {rs : List Ro} (nm : (stN st).Nodup) (em : stM st = m) (hp : pt ∈ st) (hn : pt.n = edT e) (ht : tabOf ts (edT e) = some t) (hr : rM rs = rowsAfter t.cols (rM pt.rs) e) :
    (m.map fun p => if p.1 = edT e then (p.1, rM rs) else p) = edM ts m e := by
  unfold edM
  rw [ht]
  show _ = m.map fun p => if p.1 = edT e then (p.1, rowsAfter t.cols p.2 e) else p
  refine List.map_congr_left fun p h1 => ?_
  by_cases e1 : p.1 = edT e
  · rw [if_pos e1, if_pos e1, hr]
    have h2 : rwsOf m (edT e) = p.2 := rwsOf_mem (by rw [← em, stM_names]; exact nm) h1 e1
    have h3 : rwsOf m (edT e) = rM pt.rs := by rw [← em, ← hn]; exact rwsOf_in nm hp
    rw [← h3, h2]
  · rw [if_neg e1, if_neg e1]
theorem edM_len (ts : List Tab) (m : StM) (e : Ed) : (edM ts m e).length = m.length := by
  unfold edM
  split
  · rfl
  · rw [List.length_map]
theorem stM_len (st : List TS) : (stM st).length = st.length := by unfold stM; rw [List.length_map]
/-! the law's side -/
def spValFits : Sp := fun vs H Q _ => ∃ (v : V) (ca : Addr) (c : Col), vs = [v, .ref ca] ∧ H ca = some (.tup [.str c.n, .str c.k, .bl c.b]) ∧ (c.k = ("int" : Str) ∨ c.k = ("text" : Str)) ∧ valE v ∧ Q (.bl (fitsK v c.k c.b)) H
def spRowFits : Sp := fun vs H Q _ => ∃ (L r : Addr) (cols : List Col) (xs : List V), vs = [.ref L, .ref r] ∧ ColsAt H L cols ∧ (∀ c ∈ cols, c.k = ("int" : Str) ∨ c.k = ("text" : Str)) ∧ H r = some (.tup xs) ∧ (∀ v ∈ xs, valE v) ∧ xs.length ≤ 100 ∧ cols.length ≤ 100 ∧ ∀ H', Same H H' → Q (.bl (rowB cols xs)) H'
def spRightE : Sp := fun vs H Q _ => ∃ (T : Addr) (st : List TS) (v : V) (e : Ed), vs = [.ref T, v] ∧ StAt H T st ∧ edT e ∈ stN st ∧ Tp H v (edD e) ∧ edFull e ∧ edK e = kV (keyOf (edK e)) ∧ ∀ H', Same H H' → Q (.bl (decide (hasK (rwsOf (stM st) (edT e)) (keyOf (edK e)) ≠ isIns e))) H'
def badAt (cols : List Col) (xs : List V) (j : Nat) : Bool := !fitsK (xs.getD j .non) ((cols.map (·.k)).getD j "") ((cols.map (·.b)).getD j false)
theorem badAt_eq {cols : List Col} {xs : List V} {i : Nat} (h1 : i < xs.length) (h2 : i < cols.length) : badAt cols xs i = !fitsK xs[i] cols[i].k cols[i].b := by
  unfold badAt
  rw [List.getD_eq_getElem?_getD, List.getElem?_eq_getElem h1, List.getD_eq_getElem?_getD, List.getElem?_map, List.getElem?_eq_getElem h2, List.getD_eq_getElem?_getD, List.getElem?_map, List.getElem?_eq_getElem h2]
  rfl
theorem row_bad {cols : List Col} {xs : List V} (e : xs.length = cols.length) : rowB cols xs = decide ((List.range xs.length).filter (badAt cols xs) = []) := by
  unfold rowB
  rw [decide_eq_true e, Bool.true_and, Bool.eq_iff_iff, List.all_eq_true, decide_eq_true_iff, List.filter_eq_nil_iff]
  constructor
  · intro h j hj
    have hj' := List.mem_range.mp hj
    have hm : (xs[j], cols[j]'(by omega)) ∈ xs.zip cols := by
      refine List.mem_of_getElem? (i := j) ?_
      rw [List.getElem?_zip_eq_some]
      exact ⟨List.getElem?_eq_getElem hj', List.getElem?_eq_getElem (by omega)⟩
    have := h _ hm
    rw [badAt_eq hj' (by omega), this]
    decide
  · intro h p hp
    obtain ⟨j, hj, ej⟩ := List.getElem_of_mem hp
    have hj' : j < xs.length := by rw [List.length_zip] at hj; omega
    have h1 := h j (List.mem_range.mpr hj')
    rw [badAt_eq hj' (by omega)] at h1
    have e2 : p = (xs[j], cols[j]'(by omega)) := by rw [← ej, List.getElem_zip]
    rw [e2]
    cases h3 : fitsK xs[j] (cols[j]'(by omega)).k (cols[j]'(by omega)).b with
    | true => rfl
    | false => rw [h3] at h1; exact absurd rfl h1
theorem intD_dp {K : PySem.W.Frag} {H : Hp} : ∀ ns : List Int, DpAll K H (ns.map V.int) (ns.map PyData.int)
  | [] => .nil
  | n :: ns => .cons (.int n) (intD_dp ns)
theorem intD_lay : ∀ ns : List Int, PyData.canLayAll0 (ns.map PyData.int) = true
  | [] => by simp [PyData.canLayAll0]
  | n :: ns => by rw [List.map_cons, PyData.canLayAll0, intD_lay ns]; rfl
theorem intD_depth : ∀ ns : List Int, PyData.depthAll (ns.map PyData.int) = 0
  | [] => rfl
  | n :: ns => by rw [List.map_cons, PyData.depthAll, intD_depth ns]; rfl
theorem intD_shaped (ns : List Int) : SeqAt.shaped (.list (ns.map PyData.int)) = true := by
  unfold SeqAt.shaped
  rw [PyData.canLay0, intD_lay, PyData.depth, intD_depth]
  rfl
theorem intD_nil (ns : List Int) : PyData.eqv (.list (ns.map PyData.int)) (.list []) = decide (ns = []) := by
  rw [PyData.eqv]
  cases ns with
  | nil => simp [PyData.eqvAll]
  | cons n r => simp [PyData.eqvAll]
theorem scal_str (n : Str) {c : V} (h : valE c) : scal (.str n) c = true := by
  cases c <;> first | rfl | exact h.elim
theorem setC_head (cols : List Col) (c : V) : setC cols c = ((cols.drop 1).filter fun col => decide (V.str col.n = c)).head? := by
  unfold setC
  rw [List.head?_filter]
theorem keyB_at {cols : List Col} {c : Col} (h : cols[0]? = some c) (v : V) : keyB cols v = fitsK v c.k c.b := by
  cases cols with
  | nil => cases h
  | cons d r =>
    cases h
    unfold keyB rowB
    rw [List.take_succ_cons, List.take_zero]
    show (decide (1 = 1) && (fitsK v c.k c.b && true)) = _
    rw [decide_eq_true rfl, Bool.true_and, Bool.and_true]
theorem cols_shaped {cs : List Col} (h : ∀ c ∈ cs, nameOk c.n ∧ (c.k = ("int" : Str) ∨ c.k = ("text" : Str))) : SeqAt.shaped (.list (pyOfL (cs.map colD))) = true := by
  refine shapedL_of (clL_all.mpr fun d hd => ?_) (dpL_le (n := 20) fun d hd => ?_)
  · obtain ⟨c, hc, rfl⟩ := List.mem_map.mp hd
    obtain ⟨h1, h2⟩ := h c hc
    have h3 := h1.str
    have h4 : PyData.strOk c.k = true := by rcases h2 with e | e <;> rw [e] <;> decide +kernel
    show clL [.s (.str c.n), .s (.str c.k), .s (.bl c.b)] = true
    simp only [clL, D.cl, sCl]
    rw [h3, h4]; rfl
  · obtain ⟨c, hc, rfl⟩ := List.mem_map.mp hd
    simp [colD, D.dp, dpL]
theorem cols_nil (cs : List Col) : PyData.eqv (.list (pyOfL (cs.map colD))) (.list []) = decide (cs = []) := by
  rw [PyData.eqv]
  cases cs with
  | nil => simp [pyOfL, PyData.eqvAll]
  | cons n r => simp [pyOfL, PyData.eqvAll]
def spLawDo : Sp := fun vs H Q _ => ∃ (S : Addr) (s : Sch) (T : Addr) (st : List TS) (v : V) (e : Ed) (b : Nat), vs = [.ref S, .ref T, v] ∧ ScV H S s ∧ StAt H T st ∧ (stD T st).Nodup ∧ Tp H v (edD e) ∧ edOk e ∧ edC (tbs s) (stM st) e = "" ∧ MW (tbs s) (stM st) b ∧ b ≤ 180 ∧
  ∀ st' H', StAt H' T st' → stM st' = edM (tbs s) (stM st) e → (st'.map fun q => q.d) = (st.map fun q => q.d) → SameE (st.map fun q => q.d) H H' → KeepT H H' → Q .non H'
theorem StAt.own {H : Hp} {T : Addr} {st : List TS} {pt : TS} {rs : List Ro} (A : StAt H T st) (nd : (stD T st).Nodup) (hp : pt ∈ st) (rt : ∀ r ∈ rs, H r.a = some (.tup r.vs)) (kn : (roN rs).Nodup) :
    StAt (upd H pt.d (.dK (roK rs))) T (replT st pt.n pt.d rs) ∧ ((replT st pt.n pt.d rs).map fun q => q.d) = st.map fun q => q.d := by
  have nd' : (T :: st.map fun q => q.d).Nodup := nd
  have hT : T ≠ pt.d := fun z => (List.nodup_cons.mp nd').1 (by rw [z]; exact List.mem_map.mpr ⟨pt, hp, rfl⟩)
  have ndd := (List.nodup_cons.mp nd').2
  have one : ∀ q ∈ st, q.d = pt.d → q = pt := fun q hq e => by
    obtain ⟨i, hi, ei⟩ := List.getElem_of_mem hq
    obtain ⟨j, hj, ej⟩ := List.getElem_of_mem hp
    have a1 : (st.map fun q => q.d)[i]? = some pt.d := by rw [List.getElem?_map, List.getElem?_eq_getElem hi, ei, ← e]; rfl
    have a2 : (st.map fun q => q.d)[j]? = some pt.d := by rw [List.getElem?_map, List.getElem?_eq_getElem hj, ej]; rfl
    have := nd_ix ndd a1 a2
    subst this
    rw [← ei, ← ej]
  have keep : ∀ y ys, H y = some (.tup ys) → (upd H pt.d (.dK (roK rs))) y = some (.tup ys) := fun y ys hy => by
    rw [upd_ne (fun z => by rw [z, (A.ds pt hp).dk] at hy; cases hy)]; exact hy
  have em : ((replT st pt.n pt.d rs).map fun q => q.d) = st.map fun q => q.d := by
    unfold replT
    rw [List.map_map]
    refine List.map_congr_left fun q hq => ?_
    show TS.d (if q.n = pt.n then _ else q) = q.d
    split
    · rename_i e
      rw [st_one A.nm hq hp e]
    · rfl
  refine ⟨⟨?_, fun q hq => ?_, by rw [replT_N]; exact A.nm⟩, em⟩
  · rw [upd_ne hT, A.sk]
    congr 2
    unfold stK replT
    rw [List.map_map]
    refine List.map_congr_left fun q hq => ?_
    show _ = ((Sum.inr (TS.n (if q.n = pt.n then _ else q)) : Key), V.ref (TS.d (if q.n = pt.n then _ else q)))
    split
    · rename_i e
      rw [st_one A.nm hq hp e]
    · rfl
  · rcases replT_mem hq with ⟨h1, h2, _⟩ | ⟨h1, h2⟩
    · rw [h1, h2]
      exact ⟨upd_same, fun r hr => keep _ _ (rt r hr), kn⟩
    · have t := A.ds q h1
      exact ⟨by rw [upd_ne (fun z => h2 (by rw [one q h1 z]))]; exact t.dk, fun r hr => keep _ _ (t.rt r hr), t.nd⟩
theorem own_same {H H1 : Hp} {st : List TS} {pt : TS} {o : HO} (hp : pt ∈ st) (s : Same H H1) : SameE (st.map fun q => q.d) H (upd H1 pt.d o) := fun b x e n => by
  rw [upd_ne (fun z => n (by rw [z]; exact List.mem_map.mpr ⟨pt, hp, rfl⟩))]
  exact s b x e
theorem own_keep {H H1 : Hp} {d : Addr} {kvs : List (Key × V)} {o : HO} (h : H1 d = some (.dK kvs)) (s : Same H H1) : KeepT H (upd H1 d o) := fun b xs e => by
  have := s b _ e
  rw [upd_ne (fun z => by rw [z, h] at this; cases this)]; exact this
/-! states as data -/
theorem gp_row {H : Hp} {v : V} {vs : List V} {D : List Addr} (h : Gp H v (rowG vs) D) : ∃ a, v = .ref a ∧ H a = some (.tup vs) ∧ D = [] := by
  unfold rowG at h
  cases h with
  | t ha hn r =>
    have : ∀ {xs vs : List V} {D : List Addr}, GpL H xs (vs.map G.s) D → xs = vs ∧ D = [] := by
      intro xs vs
      induction vs generalizing xs with
      | nil => intro D h; cases h; exact ⟨rfl, rfl⟩
      | cons v vs ih =>
        intro D h
        cases h with
        | cons h1 h2 =>
          cases h1 with
          | s _ =>
            obtain ⟨e1, e2⟩ := ih h2
            exact ⟨by rw [e1], by rw [e2]; rfl⟩
    obtain ⟨e1, e2⟩ := this r
    rw [e1] at ha
    exact ⟨_, rfl, ha, e2⟩
theorem gp_rows {H : Hp} : ∀ {rs : List Ro} {kvs : List (Key × V)} {D : List Addr}, GpK H kvs (rs.map fun r => (r.k, rowG r.vs)) D → ∃ rs', roK rs' = kvs ∧ rM rs' = rM rs ∧ (∀ r ∈ rs', H r.a = some (.tup r.vs)) ∧ D = []
  | [], _, _, h => by cases h; exact ⟨[], rfl, rfl, (fun r hr => by cases hr), rfl⟩
  | r :: rs, _, _, h => by
    cases h with
    | cons h1 h2 =>
      obtain ⟨a, rfl, ha, rfl⟩ := gp_row h1
      obtain ⟨rs', e1, e2, h3, rfl⟩ := gp_rows h2
      refine ⟨⟨r.k, a, r.vs⟩ :: rs', ?_, ?_, fun x hx => ?_, rfl⟩
      · show (_, _) :: roK rs' = _
        rw [e1]
      · show (_, _) :: rM rs' = (_, _) :: rM rs
        rw [e2]
      · rcases List.mem_cons.mp hx with rfl | hx
        · exact ha
        · exact h3 x hx
theorem gp_tabs {H : Hp} : ∀ {st : List TS} {kvs : List (Key × V)} {D : List Addr}, GpK H kvs (st.map fun p => ((Sum.inr p.n : Key), tabStG p.rs)) D → ∃ st', stK st' = kvs ∧ stM st' = stM st ∧ (∀ q ∈ st', TAt H q.d q.rs) ∧ D = st'.map fun q => q.d
  | [], _, _, h => by cases h; exact ⟨[], rfl, rfl, (fun r hr => by cases hr), rfl⟩
  | p :: st, _, _, h => by
    cases h with
    | cons h1 h2 =>
      unfold tabStG at h1
      cases h1 with
      | @d a kvs _ D1 ha hn nd r hf =>
        obtain ⟨rs', e1, e2, h3, rfl⟩ := gp_rows r
        obtain ⟨st', e3, e4, h4, rfl⟩ := gp_tabs h2
        refine ⟨⟨p.n, a, rs'⟩ :: st', ?_, ?_, fun x hx => ?_, rfl⟩
        · show (_, _) :: stK st' = _
          rw [e3]
        · show (_, rM rs') :: stM st' = (_, rM p.rs) :: stM st
          rw [e2, e4]
        · rcases List.mem_cons.mp hx with rfl | hx
          · exact ⟨by rw [ha, ← e1], h3, by rw [← roK_keys, e1]; exact nd⟩
          · exact h4 x hx
theorem gp_st {H : Hp} {v : V} {st : List TS} {D : List Addr} (h : Gp H v (stG st) D) (nm : (stN st).Nodup) : ∃ T' st', v = .ref T' ∧ StAt H T' st' ∧ stM st' = stM st ∧ D = stD T' st' := by
  unfold stG at h
  cases h with
  | @d a kvs _ D1 ha hn nd r hf =>
    obtain ⟨st', e1, e2, h3, rfl⟩ := gp_tabs r
    exact ⟨a, st', rfl, ⟨by rw [ha, ← e1], h3, by rw [← stM_names, e2, stM_names]; exact nm⟩, e2, rfl⟩
def MSc (m : StM) : Prop := ∀ p ∈ m, ∀ r ∈ p.2, r.2.length ≤ 100 ∧ ∀ v ∈ r.2, isScal v = true
def mG (m : StM) : G := .d (m.map fun p => ((Sum.inr p.1 : Key), G.d (p.2.map fun r => (r.1, rowG r.2))))
theorem stG_M (st : List TS) : stG st = mG (stM st) := by
  unfold stG mG stM
  rw [List.map_map]
  congr 1
  refine List.map_congr_left fun p _ => ?_
  show (_, tabStG p.rs) = (_, G.d ((rM p.rs).map _))
  unfold tabStG rM
  rw [List.map_map]
  rfl
theorem StAt.gM {H : Hp} {T : Addr} {st : List TS} {ts : List Tab} {b : Nat} (A : StAt H T st) (W : MW ts (stM st) b) (ms : MSc (stM st)) (hb : b ≤ 900) (l : st.length ≤ 900) : Gp H (.ref T) (stG st) (T :: st.map fun q => q.d) := by
  have each : ∀ q ∈ st, Gp H (.ref q.d) (tabStG q.rs) [q.d] := fun q hq => by
    have t := A.ds q hq
    have pm : (q.n, rM q.rs) ∈ stM st := List.mem_map.mpr ⟨q, hq, rfl⟩
    have l1 := W.ln _ pm
    unfold rM at l1
    rw [List.length_map] at l1
    refine .d t.dk (by unfold roK; rw [List.length_map]; omega) (by rw [roK_keys]; exact t.nd) (rows_gp t.rt fun r hr => ?_) (by intro z; cases z)
    exact ms _ pm (r.k, r.vs) (List.mem_map.mpr ⟨r, hr, rfl⟩)
  have all : ∀ {st : List TS}, (∀ q ∈ st, Gp H (.ref q.d) (tabStG q.rs) [q.d]) → GpK H (stK st) (st.map fun p => ((Sum.inr p.n : Key), tabStG p.rs)) (st.map fun q => q.d) := by
    intro st
    induction st with
    | nil => intro _; exact .nil
    | cons q r ih => intro h; exact GpK.cons (D := [q.d]) (h q (List.mem_cons_self ..)) (ih fun x hx => h x (List.mem_cons_of_mem _ hx))
  refine .d A.sk (by unfold stK; rw [List.length_map]; omega) (st_nd A.nm) (all each) fun hm => ?_
  obtain ⟨p, hp, e⟩ := List.mem_map.mp hm
  exact st_neT A p hp e
theorem after_sc {cols : List Col} {rs : Rws} {e : Ed} (h : ∀ r ∈ rs, r.2.length ≤ 100 ∧ ∀ v ∈ r.2, isScal v = true) (ok : edOk e) : ∀ r ∈ rowsAfter cols rs e, r.2.length ≤ 100 ∧ ∀ v ∈ r.2, isScal v = true := by
  cases e with
  | row b t r =>
    intro x hx
    rcases putRw_mem hx with h1 | h1
    · rw [h1]
      refine ⟨by rw [List.length_drop]; have := ok.2.1; omega, fun v hv => (ok.2.2 v (List.mem_of_mem_drop hv)).scal⟩
    · exact h x h1
  | set t k c w =>
    intro x hx
    rcases putRw_mem hx with h1 | h1
    · rw [h1]
      have h2 : (restOf rs (keyOf k)).length ≤ 100 ∧ ∀ v ∈ restOf rs (keyOf k), isScal v = true := by
        unfold restOf
        split
        · rename_i p e
          exact h p (List.mem_of_find?_eq_some e)
        · exact ⟨Nat.zero_le _, fun v hv => by cases hv⟩
      unfold setAt
      split
      · refine ⟨by rw [List.length_set]; exact h2.1, fun v hv => ?_⟩
        rcases List.mem_or_eq_of_mem_set hv with h3 | h3
        · exact h2.2 v h3
        · rw [h3]; exact ok.2.2.2.scal
      · exact h2
    · exact h x h1
  | del t k =>
    intro x hx
    exact h x (List.mem_filter.mp hx).1
theorem MSc.step {ts : List Tab} {m : StM} {e : Ed} (h : MSc m) (ok : edOk e) : MSc (edM ts m e) := by
  unfold edM
  split
  · exact h
  · intro p hp
    obtain ⟨q, h1, h2⟩ := List.mem_map.mp hp
    by_cases e' : q.1 = edT e
    · rw [if_pos e'] at h2; rw [← h2]; exact after_sc (h q h1) ok
    · rw [if_neg e'] at h2; rw [← h2]; exact h q h1
/-- what a write comes to, as the law tells it -/
def spExpE : Sp := fun vs H Q _ => ∃ (S : Addr) (s : Sch) (T : Addr) (st : List TS) (L : Addr) (es : List Ed) (xs : List V) (b : Nat), vs = [.ref S, .ref T, .ref L] ∧ ScV H S s ∧ StAt H T st ∧ MW (tbs s) (stM st) b ∧ MSc (stM st) ∧ b + es.length ≤ 150 ∧ st.length ≤ 100 ∧
  H L = some (.lst xs) ∧ TpL H xs (es.map edD) ∧ (∀ e ∈ es, edOk e) ∧
  (∀ m, applyM (tbs s) (stM st) es = .inr m → ∀ T' st' r H', StAt H' T' st' → stM st' = m → (∀ a ∈ stD T' st', H a = none) → H' r = some (.tup [.ref T', .str "", .int (-1)]) → Same H H' → Q (.ref r) H') ∧
  (∀ c i, applyM (tbs s) (stM st) es = .inl (c, i) → ∀ r H', H' r = some (.tup [.non, .str c, .int (i : Nat)]) → Same H H' → Q (.ref r) H')
theorem run_sc {ts : List Tab} : ∀ {es : List Ed} {m m' : StM} {i b : Nat}, (ts.map (·.n)).Nodup → runE ts m es i = .inr m' → MSc m → MW ts m b → (∀ e ∈ es, edOk e) → MSc m' ∧ MW ts m' (b + es.length) ∧ m'.length = m.length
  | [], m, m', i, b, _, h, hm, W, _ => by
    unfold runE at h
    cases h
    exact ⟨hm, W, rfl⟩
  | e :: es, m, m', i, b, tn, h, hm, W, ok => by
    unfold runE at h
    by_cases hc : edC ts m e = ""
    · rw [if_pos hc] at h
      obtain ⟨h1, h2, h3⟩ := run_sc (b := b + 1) tn h (hm.step (ok e (List.mem_cons_self ..))) (W.step tn hc) (fun x hx => ok x (List.mem_cons_of_mem _ hx))
      refine ⟨h1, ?_, by rw [h3, edM_len]⟩
      rw [List.length_cons, show b + (es.length + 1) = b + 1 + es.length by omega]
      exact h2
    · rw [if_neg hc] at h
      cases h
def spSomeKey : Sp := fun vs H Q _ => ∃ (t c d L : Addr) (cs : List Int) (rs : List Ro) (cols : List Col), vs = [.ref t, .ref d, .ref L] ∧ TapeAt H t c cs ∧ TAt H d rs ∧ rs.length ≤ 200 ∧ ColsAt H L cols ∧ ColsOk [] cols ∧ 1 ≤ cols.length ∧ d ≠ t ∧ (∀ r ∈ rs, keyB cols (kV r.k) = true) ∧
  ∀ v H', keyB cols v = true → valE v → TapeAt H' t c cs → SameX t H H' → Q v H'
theorem ValOf.e {k : Str} {b : Bool} {v : V} (h : ValOf k b v) : valE v := by
  rcases h with ⟨_, rfl⟩ | ⟨_, i, rfl, h1, h2⟩ | ⟨_, z, rfl, h1, h2⟩
  · exact True.intro
  · exact ⟨by omega, by omega⟩
  · exact ⟨by omega, h2⟩
theorem ValOf.fitB {c : Col} {v : V} {b : Bool} (hk : c.k = ("int" : Str) ∨ c.k = ("text" : Str)) (h : ValOf c.k b v) (hb : b = true → c.b = true) : fitsK v c.k c.b = true := by
  rcases h with ⟨h0, rfl⟩ | ⟨e, i, rfl, h1, h2⟩ | ⟨e, z, rfl, h1, h2⟩
  · unfold fitsK; rw [if_pos rfl]; exact hb h0
  · unfold fitsK
    rw [if_neg (fun z => nomatch z)]
    show (decide (-1000000000 < i ∧ i < 1000000000) && decide (("int" : Str) = c.k)) = true
    rw [decide_eq_true e.symm, Bool.and_true]
    exact decide_eq_true (by omega)
  · unfold fitsK
    rw [if_neg (fun z => nomatch z)]
    have e2 : c.k = ("text" : Str) := by rcases hk with h3 | h3; exact absurd h3 e; exact h3
    show (decide (z.length ≤ 30 ∧ ∀ c ∈ tl z, chOk c) && decide (("text" : Str) = c.k)) = true
    rw [decide_eq_true e2.symm, Bool.and_true]
    exact decide_eq_true ⟨h1, h2⟩
theorem keyB_val {cols : List Col} {v : V} (h : keyB cols v = true) (hv : isScal v = true) (hc : ColsOk [] cols) : (∃ i : Int, v = .int i) ∨ ∃ z : Str, v = .str z := by
  have := keyB_key hc h
  cases e : keyOf v with
  | inl i => rw [e] at this; exact .inl ⟨i, this⟩
  | inr z => rw [e] at this; exact .inr ⟨z, this⟩
theorem keyB_good {cols : List Col} {c : Col} {k : Key} (hc : cols[0]? = some c) (h : keyB cols (kV k) = true) : goodV (kV k) = true ∧ kindOf (kV k) = c.k := by
  rw [keyB_at hc] at h
  unfold fitsK at h
  rw [if_neg (by cases k <;> exact fun z => nomatch z)] at h
  exact ⟨(Bool.and_eq_true_iff.mp h).1, of_decide_eq_true (Bool.and_eq_true_iff.mp h).2⟩
theorem one_keys {cols : List Col} {ks : List Key} (l1 : 1 ≤ cols.length) (h : ∀ k ∈ ks, keyB cols (kV k) = true) : OneKind ks := by
  obtain ⟨c, hc⟩ : ∃ c, cols[0]? = some c := ⟨cols[0]'(by omega), List.getElem?_eq_getElem _⟩
  by_cases e : c.k = ("int" : Str)
  · refine .inl ⟨ks.map (fun k => match k with | .inl i => i | .inr _ => 0), ?_⟩
    rw [List.map_map]
    refine (List.map_congr_left (g := id) fun k hk => ?_).trans (List.map_id _) |>.symm
    cases k with
    | inl i => rfl
    | inr x =>
      have := (keyB_good hc (h _ hk)).2
      rw [e] at this
      exact absurd this (by show ¬ ("text" : Str) = "int"; decide +kernel)
  · refine .inr ⟨ks.map (fun k => match k with | .inl i => "" | .inr x => x), ?_⟩
    rw [List.map_map]
    refine (List.map_congr_left (g := id) fun k hk => ?_).trans (List.map_id _) |>.symm
    cases k with
    | inr x => rfl
    | inl i => exact absurd (keyB_good hc (h _ hk)).2.symm e
theorem keyB_e {cols : List Col} {c : Col} {k : Key} (hc : cols[0]? = some c) (h : keyB cols (kV k) = true) : valE (kV k) := by
  have h1 := (keyB_good hc h).1
  cases k with
  | inl i =>
    have : -1000000000 < i ∧ i < 1000000000 := of_decide_eq_true h1
    exact ⟨by omega, by omega⟩
  | inr z =>
    have : z.length ≤ 30 ∧ ∀ c ∈ tl z, chOk c := of_decide_eq_true h1
    exact ⟨by omega, this.2⟩
def pyK : Key → PyData
  | .inl i => .int i
  | .inr z => .str z
theorem keys_dp {K : PySem.W.Frag} {H : Hp} : ∀ ks : List Key, DpAll K H (ks.map kV) (ks.map pyK)
  | [] => .nil
  | .inl i :: ks => .cons (.int i) (keys_dp ks)
  | .inr z :: ks => .cons (.str z) (keys_dp ks)
theorem keys_lay : ∀ {ks : List Key}, (∀ k ∈ ks, valE (kV k)) → PyData.canLayAll0 (ks.map pyK) = true
  | [], _ => by simp [PyData.canLayAll0]
  | .inl i :: ks, h => by rw [List.map_cons, PyData.canLayAll0, keys_lay fun k hk => h k (List.mem_cons_of_mem _ hk)]; rfl
  | .inr z :: ks, h => by
    have h1 : valE (.str z) := h (.inr z) (List.mem_cons_self ..)
    have h2 : PyData.strOk z = true := strOk_of h1.2
    rw [List.map_cons, PyData.canLayAll0, keys_lay fun k hk => h k (List.mem_cons_of_mem _ hk)]
    show (PyData.canLay0 (.str z) && true) = true
    rw [PyData.canLay0, h2]; rfl
theorem keys_depth : ∀ ks : List Key, PyData.depthAll (ks.map pyK) = 0
  | [] => rfl
  | .inl i :: ks => by rw [List.map_cons, PyData.depthAll, keys_depth ks]; rfl
  | .inr z :: ks => by rw [List.map_cons, PyData.depthAll, keys_depth ks]; rfl
theorem keys_shaped {ks : List Key} (h : ∀ k ∈ ks, valE (kV k)) : SeqAt.shaped (.list (ks.map pyK)) = true := by
  unfold SeqAt.shaped
  rw [PyData.canLay0, keys_lay h, PyData.depth, keys_depth]
  rfl
theorem keys_nil (ks : List Key) : PyData.eqv (.list (ks.map pyK)) (.list []) = decide (ks = []) := by
  rw [PyData.eqv]
  cases ks with
  | nil => simp [PyData.eqvAll]
  | cons n r => simp [PyData.eqvAll]
/-- the keys of each table fit its key column -/
def MKy (ts : List Tab) (m : StM) : Prop := ∀ p ∈ m, ∀ t ∈ ts, t.n = p.1 → ∀ r ∈ p.2, keyB t.cols (kV r.1) = true
def EdFit (s : Sch) (e : Ed) : Prop := ∃ p ∈ s, p.2.n = edT e ∧ rowBad p.2.cols e = false ∧ keyB p.2.cols (edK e) = true
def spLawEdit : Sp := fun vs H Q _ => ∃ (t c S T : Addr) (cs : List Int) (s : Sch) (st : List TS) (b : Nat), vs = [.ref t, .ref S, .ref T] ∧ TapeAt H t c cs ∧ SchAt H S s t c ∧ (∀ p ∈ s, TabV p.2) ∧ 1 ≤ s.length ∧ s.length ≤ 6 ∧ StAt H T st ∧ MW (tbs s) (stM st) b ∧ b ≤ 180 ∧ MKy (tbs s) (stM st) ∧ T ≠ t ∧ (∀ q ∈ st, q.d ≠ t) ∧
  ∀ v e H', Tp H' v (edD e) → edOk e → EdFit s e → TapeAt H' t c cs → SameX t H H' → Q v H'
theorem rowB_mk {cols : List Col} {c0 : Col} {key : V} {ws : List V} (hk : ∀ c ∈ cols, c.k = ("int" : Str) ∨ c.k = ("text" : Str)) (hc : cols[0]? = some c0) (h1 : keyB cols key = true) (h2 : RestOf cols ws) : rowB cols (key :: ws) = true := by
  have l := h2.1
  have e : (key :: ws).length = cols.length := by rw [List.length_cons]; exact l
  rw [row_bad e]
  refine decide_eq_true ?_
  rw [List.filter_eq_nil_iff]
  intro j hj
  have hj' := List.mem_range.mp hj
  rw [badAt_eq hj' (by omega)]
  cases j with
  | zero =>
    rw [keyB_at hc] at h1
    have e0 : cols[0]'(by omega) = c0 := (List.getElem?_eq_some_iff.mp hc).2
    show ¬ (!fitsK key (cols[0]'(by omega)).k (cols[0]'(by omega)).b) = true
    rw [e0, h1]; decide
  | succ j =>
    rw [List.length_cons] at hj'
    have h3 := h2.2 j (cols[j + 1]'(by omega)) (ws[j]'(by omega)) (List.getElem?_eq_getElem _) (List.getElem?_eq_getElem _)
    show ¬ (!fitsK (ws[j]'(by omega)) (cols[j + 1]'(by omega)).k (cols[j + 1]'(by omega)).b) = true
    rw [h3.fitB (hk _ (List.getElem_mem _)) (fun z => z)]; decide
theorem rest_e {cols : List Col} {ws : List V} (h : RestOf cols ws) : ∀ v ∈ ws, valE v := fun v hv => by
  obtain ⟨i, hi, e⟩ := List.getElem_of_mem hv
  have l := h.1
  have := h.2 i (cols[i + 1]'(by omega)) ws[i] (List.getElem?_eq_getElem _) (List.getElem?_eq_getElem hi)
  rw [e] at this
  exact this.e
theorem setB_col {cols : List Col} {col : Col} {v : V} (nd : (colNs cols).Nodup) (hm : col ∈ cols.drop 1) (h : fitsK v col.k col.b = true) : setB cols (.str col.n) v = true := by
  unfold setB
  have : setC cols (.str col.n) = some col := by
    cases e : setC cols (.str col.n) with
    | none =>
      have h1 := setC_in cols (c := .str col.n)
      unfold setC at e
      have := List.find?_eq_none.mp e col hm
      simp at this
    | some d =>
      obtain ⟨h1, h2⟩ := setC_some e
      have := col_one nd (List.mem_of_mem_drop h2) (List.mem_of_mem_drop hm) (V.str.inj h1).symm
      rw [this]
  rw [this]
  exact h
theorem edC_ok {s : Sch} {m : StM} {e : Ed} (nm : (schN s).Nodup) (f : EdFit s e) (h : hasK (rwsOf m (edT e)) (keyOf (edK e)) ≠ isIns e) : edC (tbs s) m e = "" := by
  obtain ⟨p, hp, h1, h2, h3⟩ := f
  have h4 : tabOf (tbs s) (edT e) = some p.2 := by rw [← h1]; exact tabOf_in nm hp
  unfold edC
  rw [h4]
  show (if rowBad p.2.cols e = true then ("row" : Str) else if keyB p.2.cols (edK e) = false then ("key" : Str) else if hasK (rwsOf m (edT e)) (keyOf (edK e)) = isIns e then ("key" : Str) else ("" : Str)) = ""
  rw [if_neg (by rw [h2]; decide), if_neg (by rw [h3]; decide), if_neg h]
theorem EdFit.full {s : Sch} {e : Ed} (f : EdFit s e) : edFull e := by
  obtain ⟨p, hp, h1, h2, h3⟩ := f
  cases e with
  | row b t r =>
    intro z
    subst z
    have h4 : (!rowB p.2.cols []) = false := h2
    have h4' : rowB p.2.cols [] = true := by
      cases h : rowB p.2.cols [] with
      | true => rfl
      | false => rw [h] at h4; cases h4
    have h5 : ([] : List V).length = p.2.cols.length := rowB_len h4'
    obtain ⟨c, h7, _⟩ := keyB_fit h3
    have := (List.getElem?_eq_some_iff.mp h7).1
    simp only [List.length_nil] at h5
    omega
  | set t k c w => exact True.intro
  | del t k => exact True.intro
theorem putRw_key {rs : Rws} {k : Key} {vs : List V} {r : Key × List V} (h : r ∈ putRw rs k vs) : r.1 = k ∨ ∃ r' ∈ rs, r'.1 = r.1 := by
  unfold putRw at h
  split at h
  · obtain ⟨p, h1, h2⟩ := List.mem_map.mp h
    by_cases e : p.1 = k
    · rw [if_pos e] at h2; rw [← h2]; exact .inl e
    · rw [if_neg e] at h2; rw [← h2]; exact .inr ⟨p, h1, rfl⟩
  · rcases List.mem_append.mp h with h | h
    · exact .inr ⟨r, h, rfl⟩
    · rw [List.mem_singleton.mp h]; exact .inl rfl
theorem after_key {cols : List Col} {rs : Rws} {e : Ed} {r : Key × List V} (h : r ∈ rowsAfter cols rs e) : r.1 = keyOf (edK e) ∨ ∃ r' ∈ rs, r'.1 = r.1 := by
  cases e with
  | row b t w => exact putRw_key h
  | set t k c w => exact putRw_key h
  | del t k => exact .inr ⟨r, (List.mem_filter.mp h).1, rfl⟩
theorem MKy.step {s : Sch} {m : StM} {e : Ed} (nm : (schN s).Nodup) (tc : ∀ p ∈ s, ColsOk [] p.2.cols) (h : MKy (tbs s) m) (f : EdFit s e) : MKy (tbs s) (edM (tbs s) m e) := by
  obtain ⟨p, hp, h1, h2, h3⟩ := f
  have h4 : tabOf (tbs s) (edT e) = some p.2 := by rw [← h1]; exact tabOf_in nm hp
  unfold edM
  rw [h4]
  intro x hx t ht etx r hr
  obtain ⟨y, hy, ey⟩ := List.mem_map.mp hx
  by_cases e' : y.1 = edT e
  · rw [if_pos e'] at ey
    rw [← ey] at etx hr
    rcases after_key hr with h5 | ⟨r', h5, h6⟩
    · obtain ⟨q, hq, eq⟩ := List.mem_map.mp ht
      have : q = p := by
        obtain ⟨i, hi, ei⟩ := List.getElem_of_mem hq
        obtain ⟨j, hj, ej⟩ := List.getElem_of_mem hp
        have a1 : (schN s)[i]? = some p.2.n := by unfold schN; rw [List.getElem?_map, List.getElem?_eq_getElem hi, ei]; show some q.2.n = _; rw [eq, etx, e', h1]
        have a2 : (schN s)[j]? = some p.2.n := by unfold schN; rw [List.getElem?_map, List.getElem?_eq_getElem hj, ej]; rfl
        have := nd_ix nm a1 a2
        subst this
        rw [← ei, ← ej]
      rw [h5, ← eq, this, ← keyB_key (tc p hp) h3]
      exact h3
    · rw [← h6]
      exact h y hy t ht etx r' h5
  · rw [if_neg e'] at ey
    rw [← ey] at etx hr
    exact h y hy t ht etx r hr
def spLawWrite : Sp := fun vs H Q _ => ∃ (t c S T : Addr) (cs : List Int) (s : Sch) (st : List TS) (b : Nat) (most : Nat), vs = [.ref t, .ref S, .ref T, .int (most : Nat)] ∧ TapeAt H t c cs ∧ SchAt H S s t c ∧ (∀ p ∈ s, TabV p.2) ∧ 1 ≤ s.length ∧ s.length ≤ 6 ∧ StAt H T st ∧ MW (tbs s) (stM st) b ∧ MSc (stM st) ∧ b + most ≤ 150 ∧ st.length ≤ 100 ∧ MKy (tbs s) (stM st) ∧ most ≤ 30 ∧
  ∀ L x r xs (es : List Ed) H', H' r = some (.tup [.ref L, x]) → H' L = some (.lst xs) → TpL H' xs (es.map edD) → (∀ e ∈ es, edOk e ∧ EdFit s e) → es.length ≤ most → H L = none → TapeAt H' t c cs → SameX t H H' → Q (.ref r) H'
theorem MW.up {ts : List Tab} {m : StM} {b d : Nat} (W : MW ts m b) (h : b ≤ d) : MW ts m d := ⟨W.nm, fun p hp => Nat.le_trans (W.ln p hp) h, W.tn, W.wd⟩
theorem StAt.frame {H H' : Hp} {T : Addr} {st : List TS} (A : StAt H T st) (kt : KeepT H H') (h : ∀ a ∈ stD T st, ∀ o, H a = some o → H' a = some o) : StAt H' T st :=
  ⟨h T (List.mem_cons_self ..) _ A.sk, fun q hq => (A.ds q hq).mono kt (fun o => h q.d (List.mem_cons_of_mem _ (List.mem_map.mpr ⟨q, hq, rfl⟩)) o), A.nm⟩
theorem TapeAt.frame {H H' : Hp} {t c : Addr} {cs : List Int} (T : TapeAt H t c cs) (ht : ∀ o, H t = some o → H' t = some o) (hc : ∀ o, H c = some o → H' c = some o) : TapeAt H' t c cs := by
  obtain ⟨a, l, s, m, e1, e2, e3⟩ := T.dk
  exact ⟨⟨a, l, s, m, ht _ e1, e2, e3⟩, hc _ T.ls, T.nn⟩
def spSpoilE : Sp := fun vs H Q _ => ∃ (t c : Addr) (cs : List Int) (v : V) (e : Ed), vs = [.ref t, v] ∧ TapeAt H t c cs ∧ Tp H v (edD e) ∧ edOk e ∧ edFull e ∧ (∀ b tn r, e = .row b tn r → r.length ≤ 45) ∧
  ∀ v' e' H', Tp H' v' (edD e') → edOk e' → TapeAt H' t c cs → SameX t H H' → Q v' H'
theorem op_mul_strE {X : Cx} : OpR X (binaryOp .Mult) (fun x y H Q => ∃ (z : Str) (n : Int), x = .str z ∧ y = .int n ∧ MulOk z n ∧ Q (.str (Txt.mul z n)) H) := by
  intro pins s σ H x y v u Q I rx ry h
  obtain ⟨z, n, rfl, rfl, hk, q⟩ := h
  obtain ⟨t, rfl⟩ := rx
  obtain ⟨t', rfl⟩ := ry
  exact SB.mul hk (fun t' k => ⟨.str (Txt.mul z n), H, I.tok _, ⟨_, rfl⟩, q⟩)
theorem a31_ok : MulOk ("a" : Str) 31 := by
  refine ⟨by decide, fun h2 _ h3 => absurd h3 (by decide +kernel), fun h2 _ => by decide +kernel⟩
theorem a31_e : valE (.str (Txt.mul ("a" : Str) 31)) := by
  show (Txt.mul ("a" : Str) 31).length ≤ 40 ∧ ∀ c ∈ tl (Txt.mul ("a" : Str) 31), chOk c
  exact ⟨by decide +kernel, by decide +kernel⟩
def reT (tn : Str) : Ed → Ed
  | .row b _ r => .row b tn r
  | .set _ k c v => .set tn k c v
  | .del _ k => .del tn k
theorem reT_D (tn : Str) (e : Ed) : edD (reT tn e) = .t (.s (.str (edA e)) :: .s (.str tn) :: edR e) := by
  cases e with
  | row b t r => cases b <;> rfl
  | set t k c v => rfl
  | del t k => rfl
theorem reT_ok {tn : Str} {e : Ed} (h : edOk e) (ht : PyData.strOk tn = true) : edOk (reT tn e) := by
  cases e with
  | row b t r => exact ⟨ht, h.2⟩
  | set t k c v => exact ⟨ht, h.2⟩
  | del t k => exact ⟨ht, h.2⟩
theorem cut_last (xs : List V) : cutV xs none (some (-1)) = xs.take (xs.length - 1) := by
  unfold cutV
  rw [HT.sIx_none, List.drop_zero, Nat.sub_zero]
  congr 1
  show (if (-1 : Int) < 0 then ((-1 : Int) + (xs.length : Int)).toNat else min (-1 : Int).toNat xs.length) = _
  rw [if_pos (by decide)]
  omega
end Lt

set_option autoImplicit false
/-! ## what the law of writes asks besides: drawn states, edits as data -/
namespace Lt
open PySem L2 TL
theorem rw_same {st : List TS} (nd : (stN st).Nodup) {p q : TS} (hp : p ∈ st) (hq : q ∈ st) (e : p.n = q.n) : rM p.rs = rM q.rs := by
  rw [← rwsOf_in nd hp, ← rwsOf_in nd hq, e]
theorem StFit.good {s : Sch} {st : List TS} {most : Nat} (nd : (stN st).Nodup) (fit : StFit s st most) (tv : ∀ p ∈ s, TabV p.2) : MW (tbs s) (stM st) most ∧ MSc (stM st) ∧ MKy (tbs s) (stM st) := by
  have key : ∀ p ∈ s, ∀ q ∈ st, q.n = p.2.n → ∀ r ∈ rM q.rs, ∃ r' : Ro, (r'.k, r'.vs) = r ∧ RowFit p.2.cols r' := fun p hp q hq e r hr => by
    obtain ⟨q', hq', e', hf⟩ := fit.f p hp
    rw [rw_same nd hq hq' (e.trans e'.symm)] at hr
    obtain ⟨r', h1, h2⟩ := List.mem_map.mp hr
    exact ⟨r', h2, hf r' h1⟩
  refine ⟨⟨by rw [stM_names]; exact nd, fun p hp => ?_, fun t ht => ?_, fun p hp t ht e r hr => ?_⟩, fun p hp r hr => ?_, fun p hp t ht e r hr => ?_⟩
  · obtain ⟨q, hq, rfl⟩ := List.mem_map.mp hp
    have := fit.l q hq
    show (rM q.rs).length ≤ most
    unfold rM
    rw [List.length_map]; exact this
  · obtain ⟨p, hp, rfl⟩ := List.mem_map.mp ht
    obtain ⟨q, hq, e, _⟩ := fit.f p hp
    rw [stM_names, ← e]
    exact List.mem_map.mpr ⟨q, hq, rfl⟩
  · obtain ⟨q, hq, rfl⟩ := List.mem_map.mp hp
    obtain ⟨p, hp', rfl⟩ := List.mem_map.mp ht
    obtain ⟨r', rfl, f⟩ := key p hp' q hq e.symm r hr
    exact f.r.1
  · obtain ⟨q, hq, rfl⟩ := List.mem_map.mp hp
    obtain ⟨p, hp', e⟩ := List.mem_map.mp (fit.n q hq)
    obtain ⟨r', rfl, f⟩ := key p hp' q hq e.symm r hr
    have l8 := (tv p hp').l8
    have l1 := f.r.1
    refine ⟨by show r'.vs.length ≤ 100; omega, fun v hv => (rest_e f.r v hv).scal⟩
  · obtain ⟨q, hq, rfl⟩ := List.mem_map.mp hp
    obtain ⟨p, hp', rfl⟩ := List.mem_map.mp ht
    obtain ⟨r', rfl, f⟩ := key p hp' q hq e.symm r hr
    have l0 := (tv p hp').l0
    have co := (tv p hp').co
    have hc : p.2.cols[0]? = some (p.2.cols[0]'(by omega)) := List.getElem?_eq_getElem (by omega)
    rw [keyB_at hc]
    exact (f.k _ hc).fitB (co.kd _ (List.getElem_mem _)) (fun z => by cases z)
theorem ed_dsm {e : Ed} (h : edOk e) : (edD e).sm = true := by
  cases e with
  | row b t r =>
    refine sm_t (by show 3 ≤ 1000; decide) fun d hd => ?_
    simp only [edR, List.mem_cons, List.not_mem_nil, or_false] at hd
    rcases hd with rfl | rfl | rfl
    · rfl
    · rfl
    · refine sm_t (by rw [List.length_map]; have := h.2.1; omega) fun d hd => ?_
      obtain ⟨v, _, rfl⟩ := List.mem_map.mp hd
      rfl
  | set t k c v => rfl
  | del t k => rfl
theorem ed_dp (e : Ed) : (edD e).dp ≤ 2 := by
  cases e with
  | row b t r =>
    have : dpL (r.map D.s) ≤ 0 := dpL_le fun d hd => by
      obtain ⟨v, _, rfl⟩ := List.mem_map.mp hd
      exact Nat.le_refl 0
    simp only [edD, edR, D.dp, dpL]; omega
  | set t k c v => simp [edD, edR, D.dp, dpL]
  | del t k => simp [edD, edR, D.dp, dpL]
theorem valE.cl {v : V} (h : valE v) : sCl v = true := by
  cases v <;> first | rfl | exact h.1 | exact strOk_of h.2
theorem ed_cl {e : Ed} (h : edOk e) : (edD e).cl = true := by
  cases e with
  | row b t r =>
    have h1 : clL (r.map D.s) = true := clL_all.mpr fun d hd => by
      obtain ⟨v, hv, rfl⟩ := List.mem_map.mp hd
      exact (h.2.2 v hv).cl
    have h2 := h.1
    have h4 : PyData.strOk ("replace" : Str) = true := by decide +kernel
    have h5 : PyData.strOk ("insert" : Str) = true := by decide +kernel
    have h3 : PyData.strOk (edA (.row b t r)) = true := by cases b; exact h4; exact h5
    show clL [.s (.str _), .s (.str t), .t (r.map D.s)] = true
    simp only [clL, D.cl, sCl]
    rw [h1, h2, h3]; rfl
  | set t k c v =>
    obtain ⟨h1, h2, h3, h4⟩ := h
    have h5 : PyData.strOk ("set" : Str) = true := by decide +kernel
    show clL [.s (.str "set"), .s (.str t), .s k, .s c, .s v] = true
    simp only [clL, D.cl]
    rw [h2.cl, h3.cl, h4.cl]
    simp only [sCl]
    rw [h1, h5]; rfl
  | del t k =>
    obtain ⟨h1, h2⟩ := h
    have h5 : PyData.strOk ("delete" : Str) = true := by decide +kernel
    show clL [.s (.str "delete"), .s (.str t), .s k] = true
    simp only [clL, D.cl]
    rw [h2.cl]
    simp only [sCl]
    rw [h1, h5]; rfl
theorem eds_shaped {es : List Ed} (h : ∀ e ∈ es, edOk e) : SeqAt.shaped (.list (pyOfL (es.map edD))) = true :=
  shapedL_of (clL_all.mpr fun d hd => by obtain ⟨e, he, rfl⟩ := List.mem_map.mp hd; exact ed_cl (h e he)) (dpL_le (n := 20) fun d hd => by obtain ⟨e, _, rfl⟩ := List.mem_map.mp hd; have := ed_dp e; omega)
theorem eds_nil (es : List Ed) : PyData.eqv (.list (pyOfL (es.map edD))) (.list []) = decide (es = []) := by
  rw [PyData.eqv]
  cases es with
  | nil => simp [pyOfL, PyData.eqvAll]
  | cons n r => simp [pyOfL, PyData.eqvAll]
def edsG (es : List Ed) : G := lG (es.map edD)
theorem eds_dep (es : List Ed) : (edsG es).dep ≤ 3 := lG_dep (n := 2) fun d hd => by obtain ⟨e, _, rfl⟩ := List.mem_map.mp hd; exact ed_dp e
theorem eds_g {H : Hp} {L : Addr} {xs : List V} {es : List Ed} (h : H L = some (.lst xs)) (r : TpL H xs (es.map edD)) (ok : ∀ e ∈ es, edOk e) (l : es.length ≤ 900) : Gp H (.ref L) (edsG es) [L] :=
  .l h (by have := r.length; rw [List.length_map] at this; omega) (r.g (smL_all.mpr fun d hd => by obtain ⟨e, he, rfl⟩ := List.mem_map.mp hd; exact ed_dsm (ok e he)))
/-- schema, state and edits in one list -/
theorem three_g {H : Hp} {P S T L : Addr} {a b c : G} {A B C : List Addr} (hP : H P = some (.lst [.ref S, .ref T, .ref L])) (hS : Gp H (.ref S) a A) (hT : Gp H (.ref T) b B) (hL : Gp H (.ref L) c C) : Gp H (.ref P) (.l [a, b, c]) (P :: (A ++ (B ++ (C ++ [])))) :=
  .l hP (by show 3 ≤ 1000; decide) (GpL.cons hS (GpL.cons hT (GpL.cons hL GpL.nil)))
theorem trip_g {H : Hp} {P : Addr} {x y z : V} {a : G} {A : List Addr} (hP : H P = some (.tup [x, y, z])) (h1 : Gp H x a A) (h2 : isScal y = true) (h3 : isScal z = true) : Gp H (.ref P) (.t [a, .s y, .s z]) (A ++ ([] ++ ([] ++ []))) :=
  .t hP (by show 3 ≤ 1000; decide) (GpL.cons h1 (GpL.cons (.s h2) (GpL.cons (.s h3) GpL.nil)))
theorem st_gm {H : Hp} {T : Addr} {st : List TS} {m : StM} {ts : List Tab} {b : Nat} (B : StAt H T st) (e : stM st = m) (W : MW ts m b) (ms : MSc m) (hb : b ≤ 900) (l : m.length ≤ 900) : Gp H (.ref T) (mG m) (stD T st) := by
  subst e
  rw [← stG_M]
  exact B.gM W ms hb (by rw [← stM_len]; exact l)
theorem trip_dep {m : StM} {st : List TS} {y z : V} (e : stM st = m) : (G.t [mG m, .s y, .s z]).dep < 9 := by
  have := st_dep st
  rw [stG_M, e] at this
  simp only [G.dep, depL]
  omega
theorem ixN_at {n j : Nat} (hj : j < n) : ixN n (j : Int) = some j := by
  unfold ixN
  rw [if_pos (by omega), if_pos (by omega)]
  rfl
theorem apply_run {ts : List Tab} {m m' : StM} {es : List Ed} (h : applyM ts m es = .inr m') : runE ts m es 0 = .inr m' := by
  unfold applyM at h
  split at h
  · cases h
  · exact h
theorem fit_len {s : Sch} {e : Ed} (tv : ∀ p ∈ s, TabV p.2) (f : EdFit s e) : ∀ b tn r, e = .row b tn r → r.length ≤ 45 := fun b tn r ee => by
  subst ee
  obtain ⟨p, hp, _, h2, _⟩ := f
  have l8 := (tv p hp).l8
  have : rowB p.2.cols r = true := by
    have : (!rowB p.2.cols r) = false := h2
    simpa using this
  have := rowB_len this
  omega
theorem TpL.set {H : Hp} : ∀ {xs : List V} {ds : List D} {j : Nat} {v : V} {d : D}, TpL H xs ds → Tp H v d → TpL H (xs.set j v) (ds.set j d)
  | [], _, _, _, _, h, _ => by cases h; exact .nil
  | x :: xs, _, 0, v, d, h, hv => by cases h with | cons h r => exact .cons hv r
  | x :: xs, _, j + 1, v, d, h, hv => by cases h with | cons h r => exact .cons h (TpL.set r hv)
theorem TpL.rep {H : Hp} {xs : List V} {ds : List D} (h : TpL H xs ds) : ∀ n : Nat, TpL H (List.replicate n xs).flatten (List.replicate n ds).flatten
  | 0 => .nil
  | n + 1 => by rw [List.replicate_succ, List.replicate_succ, List.flatten_cons, List.flatten_cons]; exact h.app (TpL.rep h n)
theorem map_flat {α β : Type} (f : α → β) (xs : List α) : ∀ n : Nat, (List.replicate n (xs.map f)).flatten = ((List.replicate n xs).flatten).map f
  | 0 => rfl
  | n + 1 => by rw [List.replicate_succ, List.replicate_succ, List.flatten_cons, List.flatten_cons, List.map_append, map_flat f xs n]
theorem mem_flat_rep {α : Type} {xs : List α} {a : α} {n : Nat} (h : a ∈ (List.replicate n xs).flatten) : a ∈ xs := by
  obtain ⟨l, h1, h2⟩ := List.mem_flatten.mp h
  rw [List.mem_replicate] at h1
  rw [← h1.2]; exact h2
theorem flat_len {α : Type} (xs : List α) : ∀ n : Nat, (List.replicate n xs).flatten.length = n * xs.length
  | 0 => by simp
  | n + 1 => by rw [List.replicate_succ, List.flatten_cons, List.length_append, flat_len xs n]; rw [Nat.succ_mul]; omega
end Lt

set_option autoImplicit false
/-! ## isinstance of a caught error that has fields -/
namespace Lt
open PySem PySem.Spec PyProof.Rows L2
/-- isinstance(e, c): e stands at a, its class is D, its fields stand at dd -/
def rIsF (K : PySem.W.Frag) (D a dd : Addr) : List V → Hp → VK → Prop := fun xs H Q => ∃ (c : V) (cv : Value) (b : Bool) (fs : List (Str × V)), xs = [.ref a, c] ∧ (∀ u, RelV c u → u = cv) ∧ PySem.W.kitOne K (.ref D) cv = some b ∧ H dd = some (.xd fs) ∧ Q (.bl b) H
theorem call_isF {X : Cx} {a D dd : Addr} {oe : Obj} {pn : List (Addr × Obj)} (C : ExcC X.K D) (hz : Zc (.ref D) (some dd) oe) (hf : ∃ vs, oe.data = .fields vs) : CallR (X.suite a ((a, oe) :: pn)) (.builtin "isinstance") (rIsF X.K D a dd) := fun pins s σ H xs us Q I r h => by
  obtain ⟨c, cv, b, fs, e1, hc, ek, hd, q⟩ := h
  subst e1
  match us, r with
  | _, .cons r1 (.cons r2 .nil) =>
    cases r1
    have e2 := hc _ r2
    subst e2
    have pa := (I.pin (a, oe) (List.mem_append_left _ List.mem_cons_self)).1
    have ox : ObjOk X.prog X.w H s.heap dd (.xd fs) := I.hok dd _ hd
    obtain ⟨mA, hns, _⟩ := ox
    obtain ⟨od, ho, _⟩ := lookIn_ns hns
    have nc : PySem.W.notCls oe = true := by
      obtain ⟨vs, ev⟩ := hf
      unfold PySem.W.notCls
      rw [ev] <;> rfl
    have J : PySem.W.InstAt s.heap a oe D (some od) := ⟨pa, hz.1, nc, by rw [hz.2]; exact ho⟩
    have hcl : (PySem.W.clsIn X.K D).isSome = true := by
      have := C.hd
      unfold PySem.W.hasDictIn at this
      cases z : PySem.W.clsIn X.K D with
      | none => rw [z] at this; cases this
      | some _ => rfl
    exact PySem.W.kia_one (PySem.W.kitx_exc hcl C.hg C.hk C.hs C.ha C.hn C.ht C.hm) I.kIn J ek (fun z => nomatch z) fun tk => ⟨.bl b, H, I.kept (t' := tk) fun _ _ z => z, rfl, q⟩
end Lt

set_option autoImplicit false
/-! ## the end over a head by facts -/
namespace Lt
open PySem PySem.Spec PyProof.Rows L2
/-- where the names of the top, their code, the classes' parts stand -/
def refS (o : Obj) : List Addr := match o.data with
  | .func fd => He.refV fd.code
  | .cls cd => cd.ns :: cd.mro.flatMap He.refV
  | .dict es _ => es.toList.flatMap fun e => He.refV e.val
  | _ => []
def stepA (g : Addr → Option Obj) (as : List Addr) : List Addr := as.flatMap fun a => match g a with
  | some o => refS o
  | none => []
def asL (xs cs : List Str) (g : Addr → Option Obj) : List Addr :=
  mainGlobals :: (xs.map (He.ga (He.frG g [mainGlobals])) ++ (stepA g (xs.map (He.ga (He.frG g [mainGlobals]))) ++ (cs.map (He.ga (He.frG g [mainGlobals])) ++ (stepA g (cs.map (He.ga (He.frG g [mainGlobals]))) ++ (stepA g (stepA g (cs.map (He.ga (He.frG g [mainGlobals])))) ++ stepA g (stepA g (stepA g (cs.map (He.ga (He.frG g [mainGlobals]))))))))))
def hookL (as : (Addr → Option Obj) → List Addr) (fa : List He.Fa) (fn : List He.FnD) (ex : PySem.W.Frag → Bool) : PySem.W.Hook where
  α := He.Al × Bool
  obs := fun s => (He.obsE fa fn (He.frG s.heap.get? (as s.heap.get?)), ex (He.frG s.heap.get? (as s.heap.get?)))
  val := fun _ => (He.valE fn, true)
  says := fun _ h => ∃ K : PySem.W.Frag, K.In h ∧ (He.SaysE fa fn K ∧ ex K = true)
  of := fun _ _ e => ⟨_, He.frG_in, congrArg (fun z : He.Al × Bool => z.1) e, congrArg (fun z : He.Al × Bool => z.2) e⟩
  keeps := fun _ _ _ ⟨K, hK, c⟩ k => ⟨K, PySem.W.Frag.In.keeps hK k, c⟩
def obL (as : (Addr → Option Obj) → List Addr) (fa : List He.Fa) (fn : List He.FnD) (ex : PySem.W.Frag → Bool) (g : Addr → Option Obj) : He.Al × Bool := (He.obsE fa fn (He.frG g (as g)), ex (He.frG g (as g)))
theorem obL_eq {as : (Addr → Option Obj) → List Addr} {fa : List He.Fa} {fn : List He.FnD} {ex : PySem.W.Frag → Bool} {g : Addr → Option Obj} {s : Shared} (h : ∀ a, g a = s.heap.get? a) : obL as fa fn ex g = (hookL as fa fn ex).obs s := by
  have e : g = s.heap.get? := funext h
  rw [e] <;> rfl
/-- an error class -/
def clsB (K : PySem.W.Frag) (C : Addr) : Bool := match K.lookup C with
  | some ⟨.type t, _, .cls cd, sl⟩ => (match cd.mro, sl.toList with
    | .ref C' :: bm, [_, _, _, _, some (.builtin n), _] => decide (t = "type") && (decide (C' = C) && (decide (n = "ValueError.__new__") && (cd.hasDict && (!cd.hasDel && HandSPX.refsVE bm))))
    | _, _ => false)
  | _ => false
theorem clsB_ok {K : PySem.W.Frag} {C : Addr} (h : clsB K C = true) : ∃ nm q N bs bm sn sub ab col dd k0 k1 k2 k3 k5, K.lookup C = some (excClassObj nm q C N bs bm true sn sub ab col dd k0 k1 k2 k3 k5 "ValueError.__new__") ∧ HandSPX.refsVE bm = true := by
  unfold clsB at h
  split at h
  · rename_i t dd cd sl hl
    split at h
    · rename_i C' bm k0 k1 k2 k3 n k5 hm hs
      obtain ⟨h1, h⟩ := He.ba h
      obtain ⟨h2, h⟩ := He.ba h
      obtain ⟨h3, h⟩ := He.ba h
      obtain ⟨h4, h⟩ := He.ba h
      obtain ⟨h5, h6⟩ := He.ba h
      have e1 := of_decide_eq_true h1
      have e2 := of_decide_eq_true h2
      have e3 := of_decide_eq_true h3
      obtain ⟨nm, bs, mro, ns, qn, hd, sn, sub, ab, col, del⟩ := cd
      obtain ⟨sl⟩ := sl
      simp only at hm hs h4 h5
      subst hm hs e1 e2 e3
      subst h4
      cases del with
      | true => cases h5
      | false => exact ⟨_, _, _, _, _, _, _, _, _, _, _, _, _, _, _, hl, h6⟩
    · cases h
  · cases h
def errB (K : PySem.W.Frag) (x f1 f2 : Str) : Bool :=
  let C := He.ga K x
  clsB K C && (He.eqO (PySem.W.findIn K (.ref C) "__setattr__") (some (some (.builtin "object.__setattr__"))) && (He.eqO (PySem.W.findIn K (.ref C) "__getattribute__") (some (some (.builtin "BaseException.__getattribute__"))) && (He.eqO (PySem.W.findIn K (.ref C) "__getattr__") (some none) &&
  (He.eqO (PySem.W.findIn K (.ref C) f1) (some none) && (He.eqO (PySem.W.findIn K (.ref C) f2) (some none) && (He.eqO (PySem.W.findIn K (.ref C) "__init__") (some (some (.ref (He.ma K C "__init__")))) && (decide (PySem.W.typeIn K (.ref (He.ma K C "__init__")) = some (.type "function")) &&
  (PySem.W.keepIn K (.ref C) && (decide (PySem.W.subIn K (.ref C) (.type "BaseException") = some true) && (decide (PySem.W.typeIn K (.ref C) = some (.type "type")) && (PySem.W.hasDictIn K C && (decide (PySem.W.subIn K (.ref C) (.ref C) = some true) && PySem.W.keepIn K (.ref (He.ma K C "__init__"))))))))))))))
theorem errB_ok {K : PySem.W.Frag} {mg : Str → Option Value} {x f1 f2 : Str} (h : errB K x f1 f2 = true) (gC : mg x = some (.ref (He.ga K x))) : ErrC K mg x f1 f2 (He.ga K x) (He.ma K (He.ga K x) "__init__") ∧ PySem.W.keepIn K (.ref (He.ma K (He.ga K x) "__init__")) = true := by
  unfold errB at h
  obtain ⟨h1, h⟩ := He.ba h
  obtain ⟨h2, h⟩ := He.ba h
  obtain ⟨h3, h⟩ := He.ba h
  obtain ⟨h4, h⟩ := He.ba h
  obtain ⟨h5, h⟩ := He.ba h
  obtain ⟨h6, h⟩ := He.ba h
  obtain ⟨h7, h⟩ := He.ba h
  obtain ⟨h8, h⟩ := He.ba h
  obtain ⟨h9, h⟩ := He.ba h
  obtain ⟨h10, h⟩ := He.ba h
  obtain ⟨h11, h⟩ := He.ba h
  obtain ⟨h12, h⟩ := He.ba h
  obtain ⟨h13, h14⟩ := He.ba h
  obtain ⟨nm, q, N, bs, bm, sn, sub, ab, col, dd, k0, k1, k2, k3, k5, xL, hb⟩ := clsB_ok h1
  exact ⟨err_mk gC xL hb (He.eqO_ok h2) (He.eqO_ok h3) (He.eqO_ok h4) (He.eqO_ok h5) (He.eqO_ok h6) (He.eqO_ok h7) (of_decide_eq_true h8) h9 (of_decide_eq_true h10) (of_decide_eq_true h11) h12 (of_decide_eq_true h13), h14⟩
end Lt

set_option autoImplicit false
/-! ## isinstance of a caught error with fields: of the program's base class and of ValueError -/
namespace Lt
open PySem PySem.Spec PyProof.Rows L2 TL
structure IsK (K : PySem.W.Frag) (mg : Str → Option Value) (C S : Addr) : Prop where
  exc : ExcC K C
  s : PySem.W.kitOne K (.ref C) (.ref S) = some true
  v : PySem.W.kitOne K (.ref C) (.type "ValueError") = some true
  gS : mg "StoreError" = some (.ref S)
def isB (K : PySem.W.Frag) (x s : Str) : Bool :=
  let C := He.ga K x
  decide (PySem.W.subIn K (.ref C) (.type "BaseException") = some true) &&
  (He.eqO (PySem.W.findIn K (.ref C) "__getattribute__") (some (some (.builtin "BaseException.__getattribute__"))) && (He.eqO (PySem.W.findIn K (.ref C) "__getattr__") (some none) && (PySem.W.hasDictIn K C && (He.eqO (PySem.W.findIn K (.ref C) "__class__") (some (some (.builtin "object.__class__"))) &&
  (He.eqO (PySem.W.specialIn K (.builtin "object.__class__") "__get__") (some (some (.builtin "getset_descriptor.__get__"))) && (decide (PySem.W.takesIn K (.builtin "object.__class__") = some true) && (decide (PySem.W.mroIn K C (.type "object") = some true) && (decide (PySem.W.kitOne K (.ref C) (.ref (He.ga K s)) = some true) && decide (PySem.W.kitOne K (.ref C) (.type "ValueError") = some true)))))))))
theorem isB_ok {K : PySem.W.Frag} {mg : Str → Option Value} {x s : Str} (h : isB K x s = true) (gS : mg "StoreError" = some (.ref (He.ga K s))) : IsK K mg (He.ga K x) (He.ga K s) := by
  unfold isB at h
  obtain ⟨h3, h⟩ := He.ba h
  obtain ⟨h6, h⟩ := He.ba h
  obtain ⟨h7, h⟩ := He.ba h
  obtain ⟨h8, h⟩ := He.ba h
  obtain ⟨h9, h⟩ := He.ba h
  obtain ⟨h10, h⟩ := He.ba h
  obtain ⟨h11, h⟩ := He.ba h
  obtain ⟨h12, h⟩ := He.ba h
  obtain ⟨h13, h14⟩ := He.ba h
  exact ⟨⟨He.eqO_ok h6, He.eqO_ok h7, of_decide_eq_true h3, h8, He.eqO_ok h9, He.eqO_ok h10, of_decide_eq_true h11, of_decide_eq_true h12⟩, of_decide_eq_true h13, of_decide_eq_true h14, gS⟩
theorem call_isG {X : Cx} {a C : Addr} {c : V} {cv : Value} {oe : Obj} {pn : List (Addr × Obj)} {cls : Value} {d : Option Addr} (ex : ExcC X.K C) (ek : PySem.W.kitOne X.K (.ref C) cv = some true) (hc : ∀ u, RelV c u → u = cv) (hz : Zc cls d oe) (hf : ∃ vs, oe.data = .fields vs) :
    CallR (X.suite a ((a, oe) :: pn)) (.builtin "isinstance") (fun xs H Q => ∃ dd fs, cls = .ref C ∧ d = some dd ∧ xs = [.ref a, c] ∧ H dd = some (.xd fs) ∧ Q (.bl true) H) := fun pins s σ H xs us Q I r h => by
  obtain ⟨dd, fs, rfl, rfl, e, hd, q⟩ := h
  exact call_isF ex hz hf pins s σ H xs us Q I r ⟨c, cv, true, fs, e, hc, ek, hd, q⟩
end Lt

set_option autoImplicit false
/-! ## objects of the program's own classes; errors without fields -/
namespace Lt
open PySem PySem.Spec PyProof.Rows L2 TL
/-- what the text says of an error class without fields, whose base is S -/
structure Err0 (K : PySem.W.Frag) (mg : Str → Option Value) (x : Str) (C S : Addr) : Prop where
  gC : mg x = some (.ref C)
  xP : PySem.W.excIn K C He.veBase "ValueError.__new__" = true
  kP : PySem.W.keepIn K (.ref C) = true
  bP : PySem.W.subIn K (.ref C) (.type "BaseException") = some true
  tP : PySem.W.typeIn K (.ref C) = some (.type "type")
  te : PySem.W.exmOne K (.ref C) (.ref C) = some true
  is : ExcC K C ∧ PySem.W.kitOne K (.ref C) (.ref S) = some true
  g_StoreError : mg "StoreError" = some (.ref S)
def err0B (K : PySem.W.Frag) (x s : Str) : Bool :=
  let C := He.ga K x
  PySem.W.excIn K C He.veBase "ValueError.__new__" && (PySem.W.keepIn K (.ref C) && (decide (PySem.W.subIn K (.ref C) (.type "BaseException") = some true) && (decide (PySem.W.typeIn K (.ref C) = some (.type "type")) && (decide (PySem.W.exmOne K (.ref C) (.ref C) = some true) &&
  (He.eqO (PySem.W.findIn K (.ref C) "__getattribute__") (some (some (.builtin "BaseException.__getattribute__"))) && (He.eqO (PySem.W.findIn K (.ref C) "__getattr__") (some none) && (PySem.W.hasDictIn K C && (He.eqO (PySem.W.findIn K (.ref C) "__class__") (some (some (.builtin "object.__class__"))) &&
  (He.eqO (PySem.W.specialIn K (.builtin "object.__class__") "__get__") (some (some (.builtin "getset_descriptor.__get__"))) && (decide (PySem.W.takesIn K (.builtin "object.__class__") = some true) && (decide (PySem.W.mroIn K C (.type "object") = some true) && decide (PySem.W.kitOne K (.ref C) (.ref (He.ga K s)) = some true))))))))))))
theorem err0B_ok {K : PySem.W.Frag} {mg : Str → Option Value} {x s : Str} (h : err0B K x s = true) (gC : mg x = some (.ref (He.ga K x))) (gS : mg "StoreError" = some (.ref (He.ga K s))) : Err0 K mg x (He.ga K x) (He.ga K s) := by
  unfold err0B at h
  obtain ⟨h1, h⟩ := He.ba h
  obtain ⟨h2, h⟩ := He.ba h
  obtain ⟨h3, h⟩ := He.ba h
  obtain ⟨h4, h⟩ := He.ba h
  obtain ⟨h5, h⟩ := He.ba h
  obtain ⟨h6, h⟩ := He.ba h
  obtain ⟨h7, h⟩ := He.ba h
  obtain ⟨h8, h⟩ := He.ba h
  obtain ⟨h9, h⟩ := He.ba h
  obtain ⟨h10, h⟩ := He.ba h
  obtain ⟨h11, h⟩ := He.ba h
  obtain ⟨h12, h13⟩ := He.ba h
  exact ⟨gC, h1, h2, of_decide_eq_true h3, of_decide_eq_true h4, of_decide_eq_true h5, ⟨⟨He.eqO_ok h6, He.eqO_ok h7, of_decide_eq_true h3, h8, He.eqO_ok h9, He.eqO_ok h10, of_decide_eq_true h11, of_decide_eq_true h12⟩, of_decide_eq_true h13⟩, gS⟩
/-- C(), C an own exception class without own __init__ -/
theorem pmk_own0 {X : Cx} {C : Addr} {bmB : List Value} {B newId initId : String} {x : Str} {p pos : Pos} (F : ExcBaseFacts B newId initId bmB) (q : PySem.W.excIn X.K C bmB newId = true) (gC : X.mg x = some (.ref C)) (kC : PySem.W.keepIn X.K (.ref C) = true) (r : Raises X (.ref C)) (hg : Gl X x)
    (hdb : (x == ("__debug__" : Str)) = false := by decide) : L2N.PMk X (.Call (.Name x p) [] [] pos) (fun _ H Q => Q (.ref C) none H) := by
  intro pins s σ H Q I h
  refine wpAny_Call_Name_kw (ld_glob I hg gC ?_ hdb)
  refine PySem.W.callWith_K0 I.kIn kC ?_
  show wpAny _ _ (call (.ref C) []) _ _ _
  obtain ⟨bm, N, nm, qn, bs, hdct, sn, sub, ab, col, dd, k0, k1, k2, k3, k5, mN, hC, hN, hni, T⟩ := exc_obj I.kIn q
  refine wpAny_call_exc_subT F T hC hN hni (fun h' e hm => ?_) (by show 0 ≤ sizeLine; rw [sizeLine_eq]; omega)
  exact L2N.mk_of I hm r h (I.hok.gone hm.new)
/-- isinstance(e, S) of a caught error without fields -/
theorem call_isS {X : Cx} {a C S : Addr} {oe : Obj} {pn : List (Addr × Obj)} {cls : Value} {d : Option Addr} (c : ExcC X.K C ∧ PySem.W.kitOne X.K (.ref C) (.ref S) = some true) (hz : Zc cls d oe) (hf : ∃ vs, oe.data = .fields vs) :
    CallR (X.suite a ((a, oe) :: pn)) (.builtin "isinstance") (fun xs H Q => cls = .ref C ∧ d = none ∧ xs = [.ref a, .ref S] ∧ Q (.bl true) H) := fun pins s σ H xs us Q I r h => by
  obtain ⟨rfl, rfl, e, q⟩ := h
  exact call_isE c.1 hz hf pins s σ H xs us Q I r ⟨.ref S, .ref S, true, e, fun u h => h, c.2, q⟩
/-! ### methods -/
section
variable {P : Program} {w : World} {K : PySem.W.Frag} {mg : Str → Option Value} {base : Heap}
structure KnM (K : PySem.W.Frag) (m qual : Str) (st : Stmt) (ps : List Str) (C g : Addr) (gd : FuncData) : Prop where
  F : Fun K m qual st g gd
  b : Binds K gd ps []
  mt : Meth K C m g
structure KnI (K : PySem.W.Frag) (qual : Str) (st : Stmt) (ps : List Str) (C g : Addr) (gd : FuncData) : Prop where
  F : Fun K "__init__" qual st g gd
  b : Binds K gd ps []
  mkr : Mk K C g
structure CalM (CX : CXT) (P : Program) (w : World) (K : PySem.W.Frag) (mg : Str → Option Value) (base : Heap) (n : Nat) (m : Str) (ps : List Str) (sp : Sp) (C g : Addr) (gd : FuncData) : Prop where
  G : FnOk P w K mg base CX n g gd ps sp
  mt : Meth K C m g
  b : Binds K gd ps []
structure CalI (CX : CXT) (P : Program) (w : World) (K : PySem.W.Frag) (mg : Str → Option Value) (base : Heap) (n : Nat) (ps : List Str) (sp : Sp) (C g : Addr) (gd : FuncData) : Prop where
  G : FnOk P w K mg base CX n g gd ps sp
  mkr : Mk K C g
  b : Binds K gd ps []
theorem KnM.cal {CX : CXT} {n : Nat} {m qual : Str} {st : Stmt} {ps : List Str} {sp : Sp} {C g : Addr} {gd : FuncData} (k : KnM K m qual st ps C g gd) (G : FnOk P w K mg base CX n g gd ps sp) : CalM CX P w K mg base n m ps sp C g gd := ⟨G, k.mt, k.b⟩
theorem KnI.cal {CX : CXT} {n : Nat} {qual : Str} {st : Stmt} {ps : List Str} {sp : Sp} {C g : Addr} {gd : FuncData} (k : KnI K qual st ps C g gd) (G : FnOk P w K mg base CX n g gd ps sp) : CalI CX P w K mg base n ps sp C g gd := ⟨G, k.mkr, k.b⟩
end
section
variable {X : Cx} {CX : CXT} {k : Nat} {f C : Addr} {fd : FuncData} {ps : List Str} {sp : Sp} {E : L2.St → XK} {m : Str} {pos apos : Pos} {e o : Expr} {es : List Expr} {ta : TE} {t : TA}
def tMethE (C : Addr) (m : Str) (sp : Sp) (E : L2.St → XK) (ta : TE) (t : TA) : TE := fun σ H Q => ta σ H fun x H1 => ∃ a dx fs, x = .ref a ∧ H1 a = some (.ins C dx fs) ∧ fs.lookup m = none ∧ t σ H1 fun vs H2 => sp (x :: vs) H2 Q (E σ)
/-- o.m(e, ..), where what is raised is wished for at the caller's slots -/
theorem pe_methE {pl : Sem Bool} (he : PE X o ta) (c : Cls X.K C) (hm : Meth X.K C m f) (F : FnOk X.prog X.w X.K X.mg X.base CX k f fd ps sp) (hr : Room k X.A) (hb : Binds X.K fd ps []) (hx : ∀ σ, PassesAt CX X σ (E σ)) (ha : PA X (e :: es) t)
    (hst : starEach (e :: es) X.env = (false, eval e X.env) :: starEach es X.env := by rfl) (hpl : (backTo pos (starEach es X.env)).any (·.1) = false := by rfl)
    (ht : eval (.Call (.Attribute o m apos) (e :: es) [] pos) X.env = (do
      let ov ← eval o X.env
      standAt apos.atName
      let (f, first) ← holding [ov] (getMethod ov m pl)
      callWith pos f first (backTo pos (starEach (e :: es) X.env)) (backToKw pos (keywordEach [] X.env))) := by rfl) :
    PE X (.Call (.Attribute o m apos) (e :: es) [] pos) (tMethE C m sp E ta t) := by
  refine ⟨fun pins s σ H Q I h => ?_⟩
  refine PySem.W.methodCall_KW (pl := pl) (thn (he.run pins s σ H _ I h) fun u s1 ⟨x, H1, I1, rx, a, dx, fs, ex, ea, l, q⟩ => ?_) ht
  subst ex
  obtain rfl : u = Value.ref a := rx
  refine getmeth_ok I1 ea c hm l ?_
  refine PySem.W.callWith_K (first := [.ref a]) (h₀ := X.base) I.ok.mod.kin hm.kp (thn (ha.run pos pins s1 σ H1 _ I1 q) fun us s2 ⟨vs, H2, I2, r, q2⟩ => ⟨I2.kIn, ?_⟩) hst hpl
  exact run_fnS (us := .ref a :: us) (vs := .ref a :: vs) F hr hb (hx σ) I2 (.cons rfl r) q2
end
theorem passN0 {X : Cx} (σ : L2.St) : PassesAt (L2N.CX X.prog X.w) X σ (fun _ _ _ => False) := L2N.passAt (W := fun _ _ _ _ => False) takes0N σ
end Lt
namespace Lt
open PySem L2 TL
open C8 (pss_cut)
def topS (i : Nat) : Stmt := PySem.Challenge.pw_lenstree_k10_apply_write.main.body.getD i (.Pass ⟨0, 0, 0, 0⟩)
structure Z (mg : Str → Option Value) : Prop where
  abs : mg "abs" = none
  int : mg "int" = none
  len : mg "len" = none
  range : mg "range" = none
  list : mg "list" = none
  str : mg "str" = none
  tuple : mg "tuple" = none
  sorted : mg "sorted" = none
  isinstance : mg "isinstance" = none
  dict : mg "dict" = none
  bool : mg "bool" = none
  ord : mg "ord" = none
  all : mg "all" = none
  zip : mg "zip" = none
  enumerate : mg "enumerate" = none
  ValueError : mg "ValueError" = none
  c_PERCENT_CODE : ∃ t, mg "PERCENT_CODE" = some (Value.int 37 t)
  c_LAST_CODE : ∃ t, mg "LAST_CODE" = some (Value.int 126 t)
  c_FIRST_CODE : ∃ t, mg "FIRST_CODE" = some (Value.int 32 t)
  c_MOST_CHARACTERS : ∃ t, mg "MOST_CHARACTERS" = some (Value.int 30 t)
  c_GREATEST : ∃ t, mg "GREATEST" = some (Value.int 999999999 t)
  c_LEAST : ∃ t, mg "LEAST" = some (Value.int (-999999999) t)
  c_MOST_EDITS : ∃ t, mg "MOST_EDITS" = some (Value.int 24 t)
abbrev s_law_tape : Stmt := topS 33
theorem sc_law_tape : FnScope ["script", "cell", "cells", "seed"] ["script"] (defScope s_law_tape) := ⟨rfl, rfl, rfl, by decide +kernel, rfl, by decide +kernel, by decide +kernel⟩
abbrev s_law_take : Stmt := topS 34
theorem sc_law_take : FnScope ["tape", "many", "drawn", "mixed"] ["tape", "many"] (defScope s_law_take) := ⟨rfl, rfl, rfl, by decide +kernel, rfl, by decide +kernel, by decide +kernel⟩
abbrev s_law_name : Stmt := topS 43
theorem sc_law_name : FnScope ["tape", "used", "letters", "signs", "size", "k", "name"] ["tape", "used"] (defScope s_law_name) := ⟨rfl, rfl, rfl, by decide +kernel, rfl, by decide +kernel, by decide +kernel⟩
abbrev s_law_table : Stmt := topS 45
theorem sc_law_table : FnScope ["columns"] ["columns"] (defScope s_law_table) := ⟨rfl, rfl, rfl, by decide +kernel, rfl, by decide +kernel, by decide +kernel⟩
abbrev s_law_columns : Stmt := topS 44
theorem sc_law_columns : FnScope ["tape", "used", "many", "kinds", "columns", "k"] ["tape", "used", "many"] (defScope s_law_columns) := ⟨rfl, rfl, rfl, by decide +kernel, rfl, by decide +kernel, by decide +kernel⟩
abbrev s_law_names : Stmt := topS 46
theorem sc_law_names : FnScope ["columns", "column"] ["columns"] (defScope s_law_names) := ⟨rfl, rfl, rfl, by decide +kernel, rfl, by decide +kernel, by decide +kernel⟩
abbrev s_law_integer : Stmt := topS 41
theorem sc_law_integer : FnScope ["tape", "choice"] ["tape"] (defScope s_law_integer) := ⟨rfl, rfl, rfl, by decide +kernel, rfl, by decide +kernel, by decide +kernel⟩
abbrev s_law_char : Stmt := topS 39
theorem sc_law_char : FnScope ["tape", "chars"] ["tape"] (defScope s_law_char) := ⟨rfl, rfl, rfl, by decide +kernel, rfl, by decide +kernel, by decide +kernel⟩
abbrev s_law_text : Stmt := topS 40
theorem sc_law_text : FnScope ["tape", "size", "k"] ["tape"] (defScope s_law_text) := ⟨rfl, rfl, rfl, by decide +kernel, rfl, by decide +kernel, by decide +kernel⟩
abbrev s_law_value : Stmt := topS 42
theorem sc_law_value : FnScope ["tape", "kind", "nullable"] ["tape", "kind", "nullable"] (defScope s_law_value) := ⟨rfl, rfl, rfl, by decide +kernel, rfl, by decide +kernel, by decide +kernel⟩
abbrev s_law_clause : Stmt := topS 47
theorem sc_law_clause : FnScope ["tape", "columns", "column", "operator"] ["tape", "columns"] (defScope s_law_clause) := ⟨rfl, rfl, rfl, by decide +kernel, rfl, by decide +kernel, by decide +kernel⟩
abbrev s_law_condition : Stmt := topS 48
theorem sc_law_condition : FnScope ["tape", "columns", "condition", "k", "many", "j"] ["tape", "columns"] (defScope s_law_condition) := ⟨rfl, rfl, rfl, by decide +kernel, rfl, by decide +kernel, by decide +kernel⟩
abbrev s_law_limits : Stmt := topS 49
theorem sc_law_limits : FnScope ["tape", "schema", "table", "columns", "names", "name", "others", "k", "column", "other"] ["tape", "schema", "table"] (defScope s_law_limits) := ⟨rfl, rfl, rfl, by decide +kernel, rfl, by decide +kernel, by decide +kernel⟩
abbrev s_law_schema : Stmt := topS 50
theorem sc_law_schema : FnScope ["tape", "least", "most", "used", "schema", "k", "table"] ["tape", "least", "most"] (defScope s_law_schema) := ⟨rfl, rfl, rfl, by decide +kernel, rfl, by decide +kernel, by decide +kernel⟩
abbrev s_law_rest : Stmt := topS 51
theorem sc_law_rest : FnScope ["tape", "columns", "column"] ["tape", "columns"] (defScope s_law_rest) := ⟨rfl, rfl, rfl, by decide +kernel, rfl, by decide +kernel, by decide +kernel⟩
abbrev s_law_rows : Stmt := topS 52
theorem sc_law_rows : FnScope ["tape", "columns", "most", "lines", "k"] ["tape", "columns", "most"] (defScope s_law_rows) := ⟨rfl, rfl, rfl, by decide +kernel, rfl, by decide +kernel, by decide +kernel⟩
abbrev s_law_state : Stmt := topS 53
theorem sc_law_state : FnScope ["tape", "schema", "most", "state", "table"] ["tape", "schema", "most"] (defScope s_law_state) := ⟨rfl, rfl, rfl, by decide +kernel, rfl, by decide +kernel, by decide +kernel⟩
abbrev s_law_copy : Stmt := topS 38
theorem sc_law_copy : FnScope ["thing", "result", "key", "item"] ["thing"] (defScope s_law_copy) := ⟨rfl, rfl, rfl, by decide +kernel, rfl, by decide +kernel, by decide +kernel⟩
abbrev s_law_some_key : Stmt := topS 55
theorem sc_law_some_key : FnScope ["tape", "rows", "columns", "keys"] ["tape", "rows", "columns"] (defScope s_law_some_key) := ⟨rfl, rfl, rfl, by decide +kernel, rfl, by decide +kernel, by decide +kernel⟩
abbrev s_law_edit : Stmt := topS 56
theorem sc_law_edit : FnScope ["tape", "schema", "state", "table", "columns", "kind", "key", "column"] ["tape", "schema", "state"] (defScope s_law_edit) := ⟨rfl, rfl, rfl, by decide +kernel, rfl, by decide +kernel, by decide +kernel⟩
abbrev s_law_key_of : Stmt := topS 54
theorem sc_law_key_of : FnScope ["edit"] ["edit"] (defScope s_law_key_of) := ⟨rfl, rfl, rfl, by decide +kernel, rfl, by decide +kernel, by decide +kernel⟩
abbrev s_law_right : Stmt := topS 58
theorem sc_law_right : FnScope ["state", "edit"] ["state", "edit"] (defScope s_law_right) := ⟨rfl, rfl, rfl, by decide +kernel, rfl, by decide +kernel, by decide +kernel⟩
abbrev s_law_do : Stmt := topS 57
theorem sc_law_do : FnScope ["schema", "state", "edit", "rows", "key", "at", "row"] ["schema", "state", "edit"] (defScope s_law_do) := ⟨rfl, rfl, rfl, by decide +kernel, rfl, by decide +kernel, by decide +kernel⟩
abbrev s_law_write : Stmt := topS 59
theorem sc_law_write : FnScope ["tape", "schema", "state", "most", "edits", "k", "edit"] ["tape", "schema", "state", "most"] (defScope s_law_write) := ⟨rfl, rfl, rfl, by decide +kernel, rfl, by decide +kernel, by decide +kernel⟩
abbrev s_law_spoil : Stmt := topS 60
theorem sc_law_spoil : FnScope ["tape", "edit", "choice", "odd", "value", "at", "row"] ["tape", "edit"] (defScope s_law_spoil) := ⟨rfl, rfl, rfl, by decide +kernel, rfl, by decide +kernel, by decide +kernel⟩
abbrev s_law_value_fits : Stmt := topS 61
theorem sc_law_value_fits : FnScope ["value", "column"] ["value", "column"] (defScope s_law_value_fits) := ⟨rfl, rfl, rfl, by decide +kernel, rfl, by decide +kernel, by decide +kernel⟩
abbrev s_law_row_fits : Stmt := topS 62
theorem sc_law_row_fits : FnScope ["columns", "row", "k"] ["columns", "row"] (defScope s_law_row_fits) := ⟨rfl, rfl, rfl, by decide +kernel, rfl, by decide +kernel, by decide +kernel⟩
abbrev s_law_code : Stmt := topS 63
theorem sc_law_code : FnScope ["schema", "state", "edit", "columns", "found", "column"] ["schema", "state", "edit"] (defScope s_law_code) := ⟨rfl, rfl, rfl, by decide +kernel, rfl, by decide +kernel, by decide +kernel⟩
abbrev s_law_expected : Stmt := topS 64
theorem sc_law_expected : FnScope ["schema", "state", "edits", "k", "code"] ["schema", "state", "edits"] (defScope s_law_expected) := ⟨rfl, rfl, rfl, by decide +kernel, rfl, by decide +kernel, by decide +kernel⟩
abbrev s_copy_state : Stmt := topS 21
theorem sc_copy_state : FnScope ["state", "table"] ["state"] (defScope s_copy_state) := ⟨rfl, rfl, rfl, by decide +kernel, rfl, by decide +kernel, by decide +kernel⟩
abbrev s_kind_of : Stmt := topS 14
theorem sc_kind_of : FnScope ["value"] ["value"] (defScope s_kind_of) := ⟨rfl, rfl, rfl, by decide +kernel, rfl, by decide +kernel, by decide +kernel⟩
abbrev s_is_text_code : Stmt := topS 10
theorem sc_is_text_code : FnScope ["code"] ["code"] (defScope s_is_text_code) := ⟨rfl, rfl, rfl, by decide +kernel, rfl, by decide +kernel, by decide +kernel⟩
abbrev s_is_text_character : Stmt := topS 11
theorem sc_is_text_character : FnScope ["character"] ["character"] (defScope s_is_text_character) := ⟨rfl, rfl, rfl, by decide +kernel, rfl, by decide +kernel, by decide +kernel⟩
abbrev s_is_text : Stmt := topS 12
theorem sc_is_text : FnScope ["thing", "character"] ["thing"] (defScope s_is_text) := ⟨rfl, rfl, rfl, by decide +kernel, rfl, by decide +kernel, by decide +kernel⟩
abbrev s_is_value : Stmt := topS 13
theorem sc_is_value : FnScope ["thing"] ["thing"] (defScope s_is_value) := ⟨rfl, rfl, rfl, by decide +kernel, rfl, by decide +kernel, by decide +kernel⟩
abbrev s_fits_kind : Stmt := topS 15
theorem sc_fits_kind : FnScope ["thing", "kind", "nullable"] ["thing", "kind", "nullable"] (defScope s_fits_kind) := ⟨rfl, rfl, rfl, by decide +kernel, rfl, by decide +kernel, by decide +kernel⟩
abbrev s_fits_columns : Stmt := topS 22
theorem sc_fits_columns : FnScope ["row", "columns", "value", "_", "kind", "nullable"] ["row", "columns"] (defScope s_fits_columns) := ⟨rfl, rfl, rfl, by decide +kernel, rfl, by decide +kernel, by decide +kernel⟩
abbrev s_column_names : Stmt := topS 17
theorem sc_column_names : FnScope ["description", "column"] ["description"] (defScope s_column_names) := ⟨rfl, rfl, rfl, by decide +kernel, rfl, by decide +kernel, by decide +kernel⟩
abbrev s_is_other_column : Stmt := topS 19
theorem sc_is_other_column : FnScope ["description", "name"] ["description", "name"] (defScope s_is_other_column) := ⟨rfl, rfl, rfl, by decide +kernel, rfl, by decide +kernel, by decide +kernel⟩
abbrev s_column_called : Stmt := topS 18
theorem sc_column_called : FnScope ["description", "name"] ["description", "name"] (defScope s_column_called) := ⟨rfl, rfl, rfl, by decide +kernel, rfl, by decide +kernel, by decide +kernel⟩
abbrev s_fits_set : Stmt := topS 27
theorem sc_fits_set : FnScope ["description", "column", "value", "_", "kind", "nullable"] ["description", "column", "value"] (defScope s_fits_set) := ⟨rfl, rfl, rfl, by decide +kernel, rfl, by decide +kernel, by decide +kernel⟩
abbrev s_key_of : Stmt := topS 26
theorem sc_key_of : FnScope ["edit"] ["edit"] (defScope s_key_of) := ⟨rfl, rfl, rfl, by decide +kernel, rfl, by decide +kernel, by decide +kernel⟩
abbrev s_fits_key : Stmt := topS 25
theorem sc_fits_key : FnScope ["description", "key"] ["description", "key"] (defScope s_fits_key) := ⟨rfl, rfl, rfl, by decide +kernel, rfl, by decide +kernel, by decide +kernel⟩
abbrev s_edit_code : Stmt := topS 28
theorem sc_edit_code : FnScope ["schema", "state", "edit", "act", "table", "description", "key"] ["schema", "state", "edit"] (defScope s_edit_code) := ⟨rfl, rfl, rfl, by decide +kernel, rfl, by decide +kernel, by decide +kernel⟩
abbrev s_with_value : Stmt := topS 29
theorem sc_with_value : FnScope ["description", "rest", "column", "value", "place"] ["description", "rest", "column", "value"] (defScope s_with_value) := ⟨rfl, rfl, rfl, by decide +kernel, rfl, by decide +kernel, by decide +kernel⟩
abbrev s_table_after : Stmt := topS 30
theorem sc_table_after : FnScope ["description", "table_rows", "edit", "act", "key", "result"] ["description", "table_rows", "edit"] (defScope s_table_after) := ⟨rfl, rfl, rfl, by decide +kernel, rfl, by decide +kernel, by decide +kernel⟩
abbrev s_apply_write : Stmt := topS 31
theorem sc_apply_write : FnScope ["schema", "state", "edits", "result", "index", "edit", "code", "table"] ["schema", "state", "edits"] (defScope s_apply_write) := ⟨rfl, rfl, rfl, by decide +kernel, rfl, by decide +kernel, by decide +kernel⟩
abbrev s_law_is_integer : Stmt := topS 35
theorem sc_law_is_integer : FnScope ["actual"] ["actual"] (defScope s_law_is_integer) := ⟨rfl, rfl, rfl, by decide +kernel, rfl, by decide +kernel, by decide +kernel⟩
abbrev s_law_same_items : Stmt := topS 36
theorem sc_law_same_items : FnScope ["actual", "expected", "k"] ["actual", "expected"] (defScope s_law_same_items) := ⟨rfl, rfl, rfl, by decide +kernel, rfl, by decide +kernel, by decide +kernel⟩
abbrev s_law_same : Stmt := topS 37
theorem sc_law_same : FnScope ["actual", "expected", "key"] ["actual", "expected"] (defScope s_law_same) := ⟨rfl, rfl, rfl, by decide +kernel, rfl, by decide +kernel, by decide +kernel⟩
abbrev s_law : Stmt := topS 65
theorem sc_law : FnScope ["script", "tape", "schema", "state", "edits", "after", "at", "before", "expected", "actual", "e"] ["script"] (defScope s_law) := ⟨rfl, rfl, rfl, by decide +kernel, rfl, by decide +kernel, by decide +kernel⟩
abbrev s_EditError : Stmt := clsSt (topS 2) 0
theorem sc_EditError : FnScope ["self", "code", "index"] ["self", "code", "index"] (defScope s_EditError) := ⟨rfl, rfl, rfl, by decide +kernel, rfl, by decide +kernel, by decide +kernel⟩
end Lt
namespace Lt
open PySem L2 TL
open C8 (pss_cut)
def dF_law_tape : He.FnD := ⟨("_law_tape", none), "_law_tape", "_law_tape", defArgs s_law_tape, defBody s_law_tape, defScope s_law_tape⟩
def dF_law_take : He.FnD := ⟨("_law_take", none), "_law_take", "_law_take", defArgs s_law_take, defBody s_law_take, defScope s_law_take⟩
def dF_law_name : He.FnD := ⟨("_law_name", none), "_law_name", "_law_name", defArgs s_law_name, defBody s_law_name, defScope s_law_name⟩
def dF_law_table : He.FnD := ⟨("_law_table", none), "_law_table", "_law_table", defArgs s_law_table, defBody s_law_table, defScope s_law_table⟩
def dF_law_columns : He.FnD := ⟨("_law_columns", none), "_law_columns", "_law_columns", defArgs s_law_columns, defBody s_law_columns, defScope s_law_columns⟩
def dF_law_names : He.FnD := ⟨("_law_names", none), "_law_names", "_law_names", defArgs s_law_names, defBody s_law_names, defScope s_law_names⟩
def dF_law_integer : He.FnD := ⟨("_law_integer", none), "_law_integer", "_law_integer", defArgs s_law_integer, defBody s_law_integer, defScope s_law_integer⟩
def dF_law_char : He.FnD := ⟨("_law_char", none), "_law_char", "_law_char", defArgs s_law_char, defBody s_law_char, defScope s_law_char⟩
def dF_law_text : He.FnD := ⟨("_law_text", none), "_law_text", "_law_text", defArgs s_law_text, defBody s_law_text, defScope s_law_text⟩
def dF_law_value : He.FnD := ⟨("_law_value", none), "_law_value", "_law_value", defArgs s_law_value, defBody s_law_value, defScope s_law_value⟩
def dF_law_clause : He.FnD := ⟨("_law_clause", none), "_law_clause", "_law_clause", defArgs s_law_clause, defBody s_law_clause, defScope s_law_clause⟩
def dF_law_condition : He.FnD := ⟨("_law_condition", none), "_law_condition", "_law_condition", defArgs s_law_condition, defBody s_law_condition, defScope s_law_condition⟩
def dF_law_limits : He.FnD := ⟨("_law_limits", none), "_law_limits", "_law_limits", defArgs s_law_limits, defBody s_law_limits, defScope s_law_limits⟩
def dF_law_schema : He.FnD := ⟨("_law_schema", none), "_law_schema", "_law_schema", defArgs s_law_schema, defBody s_law_schema, defScope s_law_schema⟩
def dF_law_rest : He.FnD := ⟨("_law_rest", none), "_law_rest", "_law_rest", defArgs s_law_rest, defBody s_law_rest, defScope s_law_rest⟩
def dF_law_rows : He.FnD := ⟨("_law_rows", none), "_law_rows", "_law_rows", defArgs s_law_rows, defBody s_law_rows, defScope s_law_rows⟩
def dF_law_state : He.FnD := ⟨("_law_state", none), "_law_state", "_law_state", defArgs s_law_state, defBody s_law_state, defScope s_law_state⟩
def dF_law_copy : He.FnD := ⟨("_law_copy", none), "_law_copy", "_law_copy", defArgs s_law_copy, defBody s_law_copy, defScope s_law_copy⟩
def dF_law_some_key : He.FnD := ⟨("_law_some_key", none), "_law_some_key", "_law_some_key", defArgs s_law_some_key, defBody s_law_some_key, defScope s_law_some_key⟩
def dF_law_edit : He.FnD := ⟨("_law_edit", none), "_law_edit", "_law_edit", defArgs s_law_edit, defBody s_law_edit, defScope s_law_edit⟩
def dF_law_key_of : He.FnD := ⟨("_law_key_of", none), "_law_key_of", "_law_key_of", defArgs s_law_key_of, defBody s_law_key_of, defScope s_law_key_of⟩
def dF_law_right : He.FnD := ⟨("_law_right", none), "_law_right", "_law_right", defArgs s_law_right, defBody s_law_right, defScope s_law_right⟩
def dF_law_do : He.FnD := ⟨("_law_do", none), "_law_do", "_law_do", defArgs s_law_do, defBody s_law_do, defScope s_law_do⟩
def dF_law_write : He.FnD := ⟨("_law_write", none), "_law_write", "_law_write", defArgs s_law_write, defBody s_law_write, defScope s_law_write⟩
def dF_law_spoil : He.FnD := ⟨("_law_spoil", none), "_law_spoil", "_law_spoil", defArgs s_law_spoil, defBody s_law_spoil, defScope s_law_spoil⟩
def dF_law_value_fits : He.FnD := ⟨("_law_value_fits", none), "_law_value_fits", "_law_value_fits", defArgs s_law_value_fits, defBody s_law_value_fits, defScope s_law_value_fits⟩
def dF_law_row_fits : He.FnD := ⟨("_law_row_fits", none), "_law_row_fits", "_law_row_fits", defArgs s_law_row_fits, defBody s_law_row_fits, defScope s_law_row_fits⟩
def dF_law_code : He.FnD := ⟨("_law_code", none), "_law_code", "_law_code", defArgs s_law_code, defBody s_law_code, defScope s_law_code⟩
def dF_law_expected : He.FnD := ⟨("_law_expected", none), "_law_expected", "_law_expected", defArgs s_law_expected, defBody s_law_expected, defScope s_law_expected⟩
def dF_copy_state : He.FnD := ⟨("copy_state", none), "copy_state", "copy_state", defArgs s_copy_state, defBody s_copy_state, defScope s_copy_state⟩
def dF_kind_of : He.FnD := ⟨("kind_of", none), "kind_of", "kind_of", defArgs s_kind_of, defBody s_kind_of, defScope s_kind_of⟩
def dF_is_text_code : He.FnD := ⟨("is_text_code", none), "is_text_code", "is_text_code", defArgs s_is_text_code, defBody s_is_text_code, defScope s_is_text_code⟩
def dF_is_text_character : He.FnD := ⟨("is_text_character", none), "is_text_character", "is_text_character", defArgs s_is_text_character, defBody s_is_text_character, defScope s_is_text_character⟩
def dF_is_text : He.FnD := ⟨("is_text", none), "is_text", "is_text", defArgs s_is_text, defBody s_is_text, defScope s_is_text⟩
def dF_is_value : He.FnD := ⟨("is_value", none), "is_value", "is_value", defArgs s_is_value, defBody s_is_value, defScope s_is_value⟩
def dF_fits_kind : He.FnD := ⟨("fits_kind", none), "fits_kind", "fits_kind", defArgs s_fits_kind, defBody s_fits_kind, defScope s_fits_kind⟩
def dF_fits_columns : He.FnD := ⟨("fits_columns", none), "fits_columns", "fits_columns", defArgs s_fits_columns, defBody s_fits_columns, defScope s_fits_columns⟩
def dF_column_names : He.FnD := ⟨("column_names", none), "column_names", "column_names", defArgs s_column_names, defBody s_column_names, defScope s_column_names⟩
def dF_is_other_column : He.FnD := ⟨("is_other_column", none), "is_other_column", "is_other_column", defArgs s_is_other_column, defBody s_is_other_column, defScope s_is_other_column⟩
def dF_column_called : He.FnD := ⟨("column_called", none), "column_called", "column_called", defArgs s_column_called, defBody s_column_called, defScope s_column_called⟩
def dF_fits_set : He.FnD := ⟨("fits_set", none), "fits_set", "fits_set", defArgs s_fits_set, defBody s_fits_set, defScope s_fits_set⟩
def dF_key_of : He.FnD := ⟨("key_of", none), "key_of", "key_of", defArgs s_key_of, defBody s_key_of, defScope s_key_of⟩
def dF_fits_key : He.FnD := ⟨("fits_key", none), "fits_key", "fits_key", defArgs s_fits_key, defBody s_fits_key, defScope s_fits_key⟩
def dF_edit_code : He.FnD := ⟨("edit_code", none), "edit_code", "edit_code", defArgs s_edit_code, defBody s_edit_code, defScope s_edit_code⟩
def dF_with_value : He.FnD := ⟨("with_value", none), "with_value", "with_value", defArgs s_with_value, defBody s_with_value, defScope s_with_value⟩
def dF_table_after : He.FnD := ⟨("table_after", none), "table_after", "table_after", defArgs s_table_after, defBody s_table_after, defScope s_table_after⟩
def dF_apply_write : He.FnD := ⟨("apply_write", none), "apply_write", "apply_write", defArgs s_apply_write, defBody s_apply_write, defScope s_apply_write⟩
def dF_law_is_integer : He.FnD := ⟨("_law_is_integer", none), "_law_is_integer", "_law_is_integer", defArgs s_law_is_integer, defBody s_law_is_integer, defScope s_law_is_integer⟩
def dF_law_same_items : He.FnD := ⟨("_law_same_items", none), "_law_same_items", "_law_same_items", defArgs s_law_same_items, defBody s_law_same_items, defScope s_law_same_items⟩
def dF_law_same : He.FnD := ⟨("_law_same", none), "_law_same", "_law_same", defArgs s_law_same, defBody s_law_same, defScope s_law_same⟩
def dF_law : He.FnD := ⟨("law", none), "law", "law", defArgs s_law, defBody s_law, defScope s_law⟩
def dF_EditError : He.FnD := ⟨("EditError", some "__init__"), "__init__", "EditError.__init__", defArgs s_EditError, defBody s_EditError, defScope s_EditError⟩
def fnL : List He.FnD := [dF_law_tape, dF_law_take, dF_law_name, dF_law_table, dF_law_columns, dF_law_names, dF_law_integer, dF_law_char, dF_law_text, dF_law_value, dF_law_clause, dF_law_condition, dF_law_limits, dF_law_schema, dF_law_rest, dF_law_rows, dF_law_state, dF_law_copy, dF_law_some_key, dF_law_edit, dF_law_key_of, dF_law_right, dF_law_do, dF_law_write, dF_law_spoil, dF_law_value_fits, dF_law_row_fits, dF_law_code, dF_law_expected, dF_copy_state, dF_kind_of, dF_is_text_code, dF_is_text_character, dF_is_text, dF_is_value, dF_fits_kind, dF_fits_columns, dF_column_names, dF_is_other_column, dF_column_called, dF_fits_set, dF_key_of, dF_fits_key, dF_edit_code, dF_with_value, dF_table_after, dF_apply_write, dF_law_is_integer, dF_law_same_items, dF_law_same, dF_law, dF_EditError]
def faL0 : List He.Fa := [.glo "_law_tape", .glo "_law_take", .glo "_law_name", .glo "_law_table", .glo "_law_columns", .glo "_law_names", .glo "_law_integer", .glo "_law_char", .glo "_law_text", .glo "_law_value", .glo "_law_clause", .glo "_law_condition", .glo "_law_limits", .glo "_law_schema", .glo "_law_rest", .glo "_law_rows", .glo "_law_state", .glo "_law_copy", .glo "_law_some_key", .glo "_law_edit", .glo "_law_key_of", .glo "_law_right", .glo "_law_do", .glo "_law_write", .glo "_law_spoil", .glo "_law_value_fits", .glo "_law_row_fits", .glo "_law_code", .glo "_law_expected", .glo "copy_state", .glo "kind_of", .glo "is_text_code", .glo "is_text_character", .glo "is_text", .glo "is_value", .glo "fits_kind", .glo "fits_columns", .glo "column_names", .glo "is_other_column", .glo "column_called"]
def faL1 : List He.Fa := [.glo "fits_set", .glo "key_of", .glo "fits_key", .glo "edit_code", .glo "with_value", .glo "table_after", .glo "apply_write", .glo "_law_is_integer", .glo "_law_same_items", .glo "_law_same", .glo "law", .glo "EditError", .glo "StoreError", .keep "_law_tape", .keep "_law_take", .keep "_law_name", .keep "_law_table", .keep "_law_columns", .keep "_law_names", .keep "_law_integer", .keep "_law_char", .keep "_law_text", .keep "_law_value", .keep "_law_clause", .keep "_law_condition", .keep "_law_limits", .keep "_law_schema", .keep "_law_rest", .keep "_law_rows", .keep "_law_state", .keep "_law_copy", .keep "_law_some_key", .keep "_law_edit", .keep "_law_key_of", .keep "_law_right", .keep "_law_do", .keep "_law_write", .keep "_law_spoil", .keep "_law_value_fits", .keep "_law_row_fits"]
def faL2 : List He.Fa := [.keep "_law_code", .keep "_law_expected", .keep "copy_state", .keep "kind_of", .keep "is_text_code", .keep "is_text_character", .keep "is_text", .keep "is_value", .keep "fits_kind", .keep "fits_columns", .keep "column_names", .keep "is_other_column", .keep "column_called", .keep "fits_set", .keep "key_of", .keep "fits_key", .keep "edit_code", .keep "with_value", .keep "table_after", .keep "apply_write", .keep "_law_is_integer", .keep "_law_same_items", .keep "_law_same", .keep "law", .free "abs", .free "int", .free "len", .free "range", .free "list", .free "str", .free "tuple", .free "sorted", .free "isinstance", .free "dict", .free "bool", .free "ord", .free "all", .free "zip", .free "enumerate", .free "ValueError"]
def faL3 : List He.Fa := [.int "PERCENT_CODE" 37, .int "LAST_CODE" 126, .int "FIRST_CODE" 32, .int "MOST_CHARACTERS" 30, .int "GREATEST" 999999999, .int "LEAST" (-999999999), .int "MOST_EDITS" 24]
def faL : List He.Fa := faL0 ++ (faL1 ++ (faL2 ++ (faL3
)))
def exL (K : PySem.W.Frag) : Bool := errB K "EditError" "code" "index" && (isB K "EditError" "StoreError" && (true))
abbrev RR : PySem.W.OpenRow := PySem.W.OpenLaw.row PySem.Challenge.rw_lenstree_k10_apply_write
def namesL0 : List PySem.Str := [PySem.Str.ofString "_law_tape", PySem.Str.ofString "_law_take", PySem.Str.ofString "_law_name", PySem.Str.ofString "_law_table", PySem.Str.ofString "_law_columns", PySem.Str.ofString "_law_names", PySem.Str.ofString "_law_integer", PySem.Str.ofString "_law_char", PySem.Str.ofString "_law_text", PySem.Str.ofString "_law_value", PySem.Str.ofString "_law_clause", PySem.Str.ofString "_law_condition", PySem.Str.ofString "_law_limits", PySem.Str.ofString "_law_schema", PySem.Str.ofString "_law_rest", PySem.Str.ofString "_law_rows", PySem.Str.ofString "_law_state", PySem.Str.ofString "_law_copy", PySem.Str.ofString "_law_some_key", PySem.Str.ofString "_law_edit", PySem.Str.ofString "_law_key_of", PySem.Str.ofString "_law_right", PySem.Str.ofString "_law_do", PySem.Str.ofString "_law_write", PySem.Str.ofString "_law_spoil", PySem.Str.ofString "_law_value_fits", PySem.Str.ofString "_law_row_fits", PySem.Str.ofString "_law_code", PySem.Str.ofString "_law_expected", PySem.Str.ofString "copy_state", PySem.Str.ofString "kind_of", PySem.Str.ofString "is_text_code", PySem.Str.ofString "is_text_character", PySem.Str.ofString "is_text", PySem.Str.ofString "is_value", PySem.Str.ofString "fits_kind", PySem.Str.ofString "fits_columns", PySem.Str.ofString "column_names", PySem.Str.ofString "is_other_column", PySem.Str.ofString "column_called"]
def namesL1 : List PySem.Str := [PySem.Str.ofString "fits_set", PySem.Str.ofString "key_of", PySem.Str.ofString "fits_key", PySem.Str.ofString "edit_code", PySem.Str.ofString "with_value", PySem.Str.ofString "table_after", PySem.Str.ofString "apply_write", PySem.Str.ofString "_law_is_integer", PySem.Str.ofString "_law_same_items", PySem.Str.ofString "_law_same", PySem.Str.ofString "law"]
def adsL : (Addr → Option Obj) → List Addr := asL (namesL0 ++ (namesL1)) [PySem.Str.ofString "EditError", PySem.Str.ofString "StoreError"]
abbrev hkL : PySem.W.Hook := hookL adsL faL fnL exL
def obN (s : PySem.W.SharedT) : He.Al × Bool := obL adsL faL fnL exL (HandSHeadRun.getT s)
theorem obN_eq (s : PySem.W.SharedT) : obN s = hkL.obs s.abs := obL_eq (HandSHeadRun.getT_eq s)
def looseL0 : List PySem.Str := [PySem.Str.ofString "StoreError", PySem.Str.ofString "EditError", PySem.Str.ofString "LEAST", PySem.Str.ofString "GREATEST", PySem.Str.ofString "MOST_CHARACTERS", PySem.Str.ofString "FIRST_CODE", PySem.Str.ofString "LAST_CODE", PySem.Str.ofString "PERCENT_CODE", PySem.Str.ofString "is_text_code", PySem.Str.ofString "is_text_character", PySem.Str.ofString "is_text", PySem.Str.ofString "is_value", PySem.Str.ofString "kind_of", PySem.Str.ofString "fits_kind", PySem.Str.ofString "column_names", PySem.Str.ofString "column_called", PySem.Str.ofString "is_other_column", PySem.Str.ofString "copy_state", PySem.Str.ofString "fits_columns", PySem.Str.ofString "MOST_EDITS", PySem.Str.ofString "fits_key", PySem.Str.ofString "key_of", PySem.Str.ofString "fits_set", PySem.Str.ofString "edit_code", PySem.Str.ofString "with_value", PySem.Str.ofString "table_after", PySem.Str.ofString "apply_write", PySem.Str.ofString "_law_tape", PySem.Str.ofString "_law_take", PySem.Str.ofString "_law_is_integer", PySem.Str.ofString "_law_same_items", PySem.Str.ofString "_law_same", PySem.Str.ofString "_law_copy", PySem.Str.ofString "_law_char", PySem.Str.ofString "_law_text", PySem.Str.ofString "_law_integer", PySem.Str.ofString "_law_value", PySem.Str.ofString "_law_name", PySem.Str.ofString "_law_columns", PySem.Str.ofString "_law_table"]
def looseL1 : List PySem.Str := [PySem.Str.ofString "_law_names", PySem.Str.ofString "_law_clause", PySem.Str.ofString "_law_condition", PySem.Str.ofString "_law_limits", PySem.Str.ofString "_law_schema", PySem.Str.ofString "_law_rest", PySem.Str.ofString "_law_rows", PySem.Str.ofString "_law_state", PySem.Str.ofString "_law_key_of", PySem.Str.ofString "_law_some_key", PySem.Str.ofString "_law_edit", PySem.Str.ofString "_law_do", PySem.Str.ofString "_law_right", PySem.Str.ofString "_law_write", PySem.Str.ofString "_law_spoil", PySem.Str.ofString "_law_value_fits", PySem.Str.ofString "_law_row_fits", PySem.Str.ofString "_law_code", PySem.Str.ofString "_law_expected"]
def looseL : List PySem.Str := looseL0 ++ (looseL1)
theorem run_false (w : World) : HandSHeadRun.RunEq RR (PySem.W.view RR.prog [65]) hkL obN 20000 looseL (w.withFollow "special-get-raises" false) := by
  intro os
  kernel_rfl
theorem run_true (w : World) : HandSHeadRun.RunEq RR (PySem.W.view RR.prog [65]) hkL obN 20000 looseL (w.withFollow "special-get-raises" true) := by
  intro os
  kernel_rfl
theorem runL (w : World) : HandSHeadRun.RunEq RR (PySem.W.view RR.prog [65]) hkL obN 20000 looseL w := PySem.W.byRow2 "special-get-raises" (P := fun w => HandSHeadRun.RunEq RR (PySem.W.view RR.prog [65]) hkL obN 20000 looseL w) run_false run_true w
end Lt
namespace Lt
open PySem L2 TL
open C8 (pss_cut)
section
variable {P : Program} {w : World} {K : PySem.W.Frag} {mg : Str → Option Value} {base : Heap}
theorem init_EditError {C f : Addr} {fd : FuncData} (F : Fun K "__init__" "EditError.__init__" s_EditError f fd) : FnOk P w K mg base CX0 1 f fd ["self", "code", "index"] (spInit2 K C "code" "index") := by
  refine F.ok sc_EditError (fun vs H Q E h => ?_) (fun cdv A outer s H vs Q E hr h => ?_)
  · obtain ⟨a, u, v, rfl, _⟩ := h; rfl
  · obtain ⟨a, u, v, rfl, T, n1, n2, ea, q⟩ := h
    refine ⟨_, (pss_cons (ps_ost (pv 0) (pv 1)) (pss_one (ps_ost (pv 0) (pv 2)))), ?_⟩
    refine ⟨_, rfl, _, rfl, a, C, rfl, T, n1, .inl ⟨ea, fun dx hdx ne => ?_⟩⟩
    refine ⟨_, rfl, _, rfl, a, C, rfl, T, n2, .inr ⟨dx, _, upd_same, ?_, (by show 1 ≤ 900; decide), q dx hdx ne⟩⟩
    rw [upd_ne ne]; exact upd_same
theorem ok_law_tape {f : Addr} {fd : FuncData} (k : Kn K mg "_law_tape" s_law_tape ["script"] f fd) (z : Z mg) :
    Cal P w K mg base 1 "_law_tape" ["script"] (spTape K) f fd := k.cal (by
  refine k.F.ok sc_law_tape (fun vs H Q E h => ?_) (fun cdv A outer s H vs Q E hr h => ?_)
  · obtain ⟨a, ns, rfl, _⟩ := h; rfl
  · obtain ⟨a, ns, rfl, hS, h63, q⟩ := h
    have hu := hu_of hr
    refine ⟨_, (pss_cons (ps_setLc (i := 2) (own := [("cell", 1)]) (g := gName 1) (tt := tYes) (by rfl) sc_law_tape.nd rfl rfl (sw_true rfl rfl rfl (by decide +kernel)) (pi_list (pv 0)) (blkOk_by (own := [("cell", 1)]) (N := ["script", "cell", "cells", "seed"]) (sc := defScope s_law_tape) (by decide +kernel)) (fun _ _ _ _ _ => pg_name (i := 1) sc_law_tape.nd rfl (Or.inl rfl)) (fun _ _ _ _ _ => pts_nil) (fun _ _ _ _ _ => (pe_callB call_abs (by rfl) z.abs (by decide +kernel) (pa_cons (pe_callTy call_int1 (by rfl) z.int (by decide +kernel) (pa_cons (pv 1) pa_nil)) pa_nil))))
        (pss_cons (ps_set (i := 3) sc_law_tape.nd rfl (Or.inl rfl) pe_int)
        (pss_cons (ps_for PassesOwn.never rfl (pi_list (pv 2)) (pg_name (i := 1) sc_law_tape.nd rfl (Or.inl rfl))
        (pss_one (ps_set (i := 3) sc_law_tape.nd rfl (Or.inl rfl) (pe_op op_mod (pe_callTy call_int1 (by rfl) z.int (by decide +kernel) (pa_cons (pe_op op_add (pe_op op_mul (pv 3) pe_int) (pv 1)) pa_nil)) pe_int))))
        (pss_one (ps_ret (pe_disp (pps_cons pe_str (pv 2) (pps_cons pe_str pe_int (pps_cons pe_str pe_int (pps_cons pe_str (pv 3) (pps_cons pe_str pe_int pps_nil))))) (by rfl) (by rfl) (fun z => by cases z) (by decide))))))), ?_⟩
    refine ⟨_, rfl, a, rfl, ⟨_, hS⟩, fun D hD => lc_list (K := K) (a := a) (xs := ns.map V.int) (fun i H' => ∃ cs : List Int, H' D = some (.lst (cs.map V.int)) ∧ cs.length = i ∧ (∀ x ∈ cs, (0 : Int) ≤ x) ∧ Same H H') ⟨[], upd_same, rfl, (by intro x hx; cases hx), same_new hD _⟩ (fun i H' _ ⟨_, _, _, _, s1⟩ => s1.seq hS) ?_ ?_⟩
    · rintro i x H1 hi ⟨cs, hc, hl, hn, s1⟩
      obtain ⟨z, rfl, hz⟩ := int_at hi
      have hi63 : i < ns.length := (List.getElem?_eq_some_iff.mp hz).1
      refine ⟨rfl, _, rfl, .inl ⟨z, rfl, z, rfl, _, hc, (by rw [List.length_map]; exact small1000 (by omega)), cs ++ [if z < 0 then -z else z], ?_, by simp [hl], ?_, same_upd hD _ s1⟩⟩
      · rw [upd_same, List.map_append]; rfl
      · intro y hy
        rcases List.mem_append.mp hy with hy | hy
        · exact hn y hy
        · rw [List.mem_singleton.mp hy]
          by_cases h0 : z < 0
          · rw [if_pos h0]; omega
          · rw [if_neg h0]; omega
    · rintro H1 ⟨cs, hc, hl, hn, s1⟩
      refine ⟨_, rfl, D, rfl, ⟨_, SqL.of hc⟩, for_list (K := K) (a := D) (xs := cs.map V.int) (fun i σ H2 => ∃ v s, σ = [some (.ref a), v, some (.ref D), some (.int s)] ∧ H2 = H1) ⟨none, 7, rfl, rfl⟩ (fun i σ H2 _ ⟨_, _, _, e⟩ => by rw [e]; exact SqL.of hc) ?_ ?_⟩
      · rintro i x σ H2 hi ⟨v, s, rfl, rfl⟩
        obtain ⟨z, rfl, hz⟩ := int_at hi
        refine ⟨_, rfl, _, _, rfl, rfl, .inr ⟨by decide, by decide⟩, _, rfl, _, _, rfl, rfl, .inl ⟨_, rfl, _, _, rfl, rfl, (by show (0 : Int) < 2147483647; decide), ?_⟩⟩
        exact ⟨_, _, rfl, rfl⟩
      · rintro σ H2 ⟨v, s, rfl, rfl⟩
        refine fun p hp => ⟨_, rfl, _, rfl, upd_same, tk D 0 0 s 0, rfl, (by show 5 ≤ 15; decide), ?_⟩
        have hp0 : H p = none := s1.free hp
        refine q p D cs _ ⟨⟨0, 0, s, 0, by rw [upd_same, merge_tk], Int.le_refl _, Int.le_refl _⟩, ?_, hn⟩ (same_upd hp0 _ (same_upd hp0 _ s1)) hp0
        rw [upd_ne (ne_of_none hc hp), upd_ne (ne_of_none hc hp)]
        exact hc)
theorem ok_law_take {f : Addr} {fd : FuncData} (k : Kn K mg "_law_take" s_law_take ["tape", "many"] f fd) (z : Z mg) :
    Cal P w K mg base 1 "_law_take" ["tape", "many"] (spTake) f fd := k.cal (by
  refine k.F.ok sc_law_take (fun vs H Q E h => ?_) (fun cdv A outer s H vs Q E hr h => ?_)
  · obtain ⟨t, c, cs, many, rfl, _⟩ := h; rfl
  · obtain ⟨t, c, cs, many, rfl, T, h0, h9, q⟩ := h
    have hu := hu_of hr
    have cne : c ≠ t := T.ne
    obtain ⟨⟨a, l, s0, m, hd, ha, hl⟩, hc, hn⟩ := id T
    refine ⟨_, (pss_cut (ps_if (PW.pt (pw_and (pt_cmpR op_eq (pe_dget hu (pv 0) pe_str (fun _ _ => rfl)) pe_int (nomark _)) (pw_and1 (pt_cmpR op_lt (pe_dget hu (pv 0) pe_str (fun _ _ => rfl)) (pe_callB call_len_seq (by rfl) z.len (by decide +kernel) (pa_cons (pe_dget hu (pv 0) pe_str (fun _ _ => rfl)) pa_nil)) (nomark _))))) (pss_cons (ps_dput hu (pv 0) pe_str (pe_ix ix_list (pe_dget hu (pv 0) pe_str (fun _ _ => rfl)) (pe_dget hu (pv 0) pe_str (fun _ _ => rfl)) (fun _ _ => rfl)) rfl)
        (pss_one (ps_dput hu (pv 0) pe_str (pe_op op_add (pe_dget hu (pv 0) pe_str (fun _ _ => rfl)) pe_int) rfl))) pss_nil)
        (pss_cons (ps_if (pt_cmpR op_gt (pe_dget hu (pv 0) pe_str (fun _ _ => rfl)) pe_int (nomark _)) (pss_cons (ps_set (i := 2) sc_law_take.nd rfl (Or.inl rfl) (pe_op op_mod (pe_callTy call_int1 (by rfl) z.int (by decide +kernel) (pa_cons (pe_dget hu (pv 0) pe_str (fun _ _ => rfl)) pa_nil)) (pv 1)))
        (pss_cons (ps_dput hu (pv 0) pe_str (pe_op op_fdivW (pe_dget hu (pv 0) pe_str (fun _ _ => rfl)) (pv 1)) rfl)
        (pss_one (ps_ret (pv 2))))) pss_nil)
        (pss_cons (ps_dput hu (pv 0) pe_str (pe_op op_add (pe_dget hu (pv 0) pe_str (fun _ _ => rfl)) pe_int) rfl)
        (pss_cons (ps_set (i := 3) sc_law_take.nd rfl (Or.inl rfl) (pe_op op_mod (pe_callTy call_int1 (by rfl) z.int (by decide +kernel) (pa_cons (pe_op op_add (pe_op op_mul (pe_dget hu (pv 0) pe_str (fun _ _ => rfl)) pe_int) (pe_op op_mul (pe_dget hu (pv 0) pe_str (fun _ _ => rfl)) pe_int)) pa_nil)) pe_int))
        (pss_cons (ps_set (i := 3) sc_law_take.nd rfl (Or.inl rfl) (pe_op op_mod (pe_callTy call_int1 (by rfl) z.int (by decide +kernel) (pa_cons (pe_op op_add (pe_op op_add (pe_op op_mul (pv 3) (pv 3)) (pe_op op_mul (pe_dget hu (pv 0) pe_str (fun _ _ => rfl)) pe_int)) pe_int) pa_nil)) pe_int))
        (pss_one (ps_ret (pe_op op_mod (pe_callTy call_int1 (by rfl) z.int (by decide +kernel) (pa_cons (pv 3) pa_nil)) (pv 1))))))))), ?_⟩
    refine ⟨fun σ' H' => ∃ a l m : Int, σ' = [some (.ref t), some (.int many), none, none] ∧ H' t = some (.dK (tk c a l s0 m)) ∧ 0 ≤ a ∧ 0 ≤ l ∧ SameX t H H', ?_, ?_⟩
    · refine ⟨_, rfl, t, .int l, rfl, d_left hd, rfl, _, rfl, ?_⟩
      refine ite2 (fun e0 => ?_) (fun e0 => ?_)
      · refine ⟨_, rfl, t, .int a, rfl, d_at hd, _, rfl, t, .ref c, rfl, d_cells hd, c, _, rfl, .inl (SqL.of hc), _, _, rfl, rfl, _, rfl, ?_⟩
        refine ite2 (fun e1 => ?_) (fun e1 => ?_)
        · have e2 : a < (((cs.map V.int).length : Nat) : Int) := of_decide_eq_true e1
          rw [List.length_map] at e2
          have hk : a.toNat < cs.length := by omega
          have hat : atI (cs.map V.int) a = some (.int cs[a.toNat]) := at_of (j := a.toNat) (by omega) (by rw [List.getElem?_map, List.getElem?_eq_getElem hk]; rfl)
          have hx : 0 ≤ cs[a.toNat] := hn _ (List.getElem_mem hk)
          refine ⟨_, rfl, t, .ref c, rfl, d_cells hd, _, rfl, t, .int a, rfl, d_at hd, c, _, a, _, rfl, rfl, SqL.of hc, hat, _, rfl, t, _, rfl, p_left hd _, ?_⟩
          refine ⟨_, rfl, t, .int a, rfl, d_at upd_same, _, _, rfl, rfl, _, rfl, t, _, rfl, p_at upd_same _, ?_⟩
          exact ⟨a + 1, _, m, rfl, upd_same, by omega, hx, (SameX.upd _).trans (SameX.upd _)⟩
        · exact ⟨a, l, m, rfl, hd, ha, hl, SameX.refl _ _⟩
      · exact ⟨a, l, m, rfl, hd, ha, hl, SameX.refl _ _⟩
    · rintro σ1 H1 ⟨a, l, m, rfl, hd, ha, hl, S1⟩
      have hc1 : H1 c = some (.lst (cs.map V.int)) := S1 _ _ hc cne
      refine ⟨_, rfl, t, .int l, rfl, d_left hd, _, _, rfl, rfl, _, rfl, ?_⟩
      refine ite2 (fun e0 => ?_) (fun e0 => ?_)
      · refine ⟨_, rfl, t, .int l, rfl, d_left hd, .inl ⟨_, rfl, _, rfl, _, _, rfl, rfl, h0, ?_⟩⟩
        refine ⟨_, rfl, t, .int l, rfl, d_left hd, _, rfl, _, _, rfl, rfl, wide_div h0 h9 (by decide) (by decide), _, rfl, t, _, rfl, p_left hd _, ?_⟩
        refine ⟨_, rfl, ?_⟩
        refine q _ _ (Int.emod_nonneg _ (by omega)) (Int.emod_lt_of_pos _ h0) ⟨⟨a, _, s0, m, upd_same, ha, Int.ediv_nonneg hl (by omega)⟩, by rw [upd_ne cne]; exact hc1, hn⟩ (S1.trans (SameX.upd _))
      · refine ⟨_, rfl, t, .int m, rfl, d_salt hd, _, _, rfl, rfl, _, rfl, t, _, rfl, p_salt hd _, ?_⟩
        have hd2 : upd H1 t (.dK (tk c a l s0 (m + 1))) t = some (.dK (tk c a l s0 (m + 1))) := upd_same
        refine ⟨_, rfl, t, .int s0, rfl, d_seed hd2, _, _, rfl, rfl, .inr ⟨by decide, by decide⟩, _, rfl, t, .int _, rfl, d_salt hd2, _, _, rfl, rfl, .inr ⟨by decide, by decide⟩, _, _, rfl, rfl, .inl ⟨_, rfl, _, _, rfl, rfl, (by show (0 : Int) < 2147483647; decide), ?_⟩⟩
        generalize hmx : (s0 * 48271 + (m + 1) * 69621) % 2147483647 = mx
        have b1 : 0 ≤ mx := by rw [← hmx]; exact Int.emod_nonneg _ (by decide)
        have b2 : mx < 2147483647 := by rw [← hmx]; exact Int.emod_lt_of_pos _ (by decide)
        refine ⟨_, rfl, _, rfl, _, _, rfl, rfl, .inl ⟨by omega, by omega⟩, _, rfl, t, .int _, rfl, d_salt hd2, _, _, rfl, rfl, .inr ⟨by decide, by decide⟩, _, _, rfl, rfl, _, _, rfl, rfl, .inl ⟨_, rfl, _, _, rfl, rfl, (by show (0 : Int) < 2147483399; decide), ?_⟩⟩
        refine ⟨_, rfl, .inl ⟨_, rfl, _, rfl, _, _, rfl, rfl, h0, ?_⟩⟩
        exact q _ _ (Int.emod_nonneg _ (by omega)) (Int.emod_lt_of_pos _ h0) ⟨⟨a, l, s0, m + 1, hd2, ha, hl⟩, by rw [upd_ne cne]; exact hc1, hn⟩ (S1.trans (SameX.upd _)))

theorem lt_len : ("abcdefghijklmnopqrstuvwxyz" : Str).cps.toList.length = 26 := by decide +kernel
theorem lt_at : ∀ j : Nat, j < 26 → ("abcdefghijklmnopqrstuvwxyz" : Str).cps.toList[j]? = some (97 + j) := by decide +kernel
theorem lt_ok : ∀ ch ∈ ("abcdefghijklmnopqrstuvwxyz" : Str).cps.toList, 97 ≤ ch ∧ ch ≤ 122 := by decide +kernel
theorem sg_len : (("abcdefghijklmnopqrstuvwxyz" : Str) ++ ("0123456789_" : Str)).cps.toList.length = 37 := by decide +kernel
theorem sg_ok : ∀ ch ∈ (("abcdefghijklmnopqrstuvwxyz" : Str) ++ ("0123456789_" : Str)).cps.toList, nmCh ch := by decide +kernel
theorem ok_law_name {f : Addr} {fd : FuncData} (k : Kn K mg "_law_name" s_law_name ["tape", "used"] f fd) (z : Z mg)
    {g_law_take : Addr} {gd_law_take : FuncData} (c_law_take : Cal P w K mg base 1 "_law_take" ["tape", "many"] (spTake) g_law_take gd_law_take) :
    Cal P w K mg base 2 "_law_name" ["tape", "used"] (spName) f fd := k.cal (by
  refine k.F.ok sc_law_name (fun vs H Q E h => ?_) (fun cdv A outer s H vs Q E hr h => ?_)
  · obtain ⟨t, c, u, cs, us, rfl, _⟩ := h; rfl
  · obtain ⟨t, c, u, cs, us, rfl, T, hu0, huc, hl, q⟩ := h
    have hut : u ≠ t := T.notL hu0
    refine ⟨_, (pss_cons (ps_set (i := 2) sc_law_name.nd rfl (Or.inl rfl) pe_str)
        (pss_cons (ps_set (i := 3) sc_law_name.nd rfl (Or.inr rfl) (pe_op op_add_str (pv 2) pe_str))
        (pss_cons (ps_set (i := 4) sc_law_name.nd rfl (Or.inl rfl) (pe_call c_law_take.G (hr.mono (by decide)) (by rfl) c_law_take.m c_law_take.kp c_law_take.b .nil pass0 (pa_cons (pv 0) (pa_cons pe_int pa_nil))))
        (pss_cut (ps_if (pt_cmpR op_eq (pe_call c_law_take.G (hr.mono (by decide)) (by rfl) c_law_take.m c_law_take.kp c_law_take.b .nil pass0 (pa_cons (pv 0) (pa_cons pe_int pa_nil))) pe_int (nomark _)) (pss_one (ps_set (i := 4) sc_law_name.nd rfl (Or.inl rfl) pe_int)) pss_nil)
        (pss_cons (ps_set (i := 6) sc_law_name.nd rfl (Or.inl rfl) (pe_op op_add_str (pe_ix ix_str (pv 2) (pe_call c_law_take.G (hr.mono (by decide)) (by rfl) c_law_take.m c_law_take.kp c_law_take.b .nil pass0 (pa_cons (pv 0) (pa_cons pe_int pa_nil))) (fun _ _ => rfl)) (pe_join pe_str (pe_lc (own := [("k", 5)]) (g := gName 5) (tt := tYes) (by rfl) sc_law_name.nd (pi_range1 (by rfl) z.range (pa_cons (pv 4) pa_nil)) (blkOk_by (own := [("k", 5)]) (N := ["tape", "used", "letters", "signs", "size", "k", "name"]) (sc := defScope s_law_name) (by decide +kernel)) (fun _ _ _ _ _ => pg_name (i := 5) sc_law_name.nd rfl (Or.inl rfl)) (fun _ _ _ _ _ => pts_nil) (fun _ _ _ _ _ => (pe_ix ix_str (pv 3) (pe_call c_law_take.G (hr.mono (by decide)) (by rfl) c_law_take.m c_law_take.kp c_law_take.b .nil pass0 (pa_cons (pv 0) (pa_cons pe_int pa_nil))) (fun _ _ => rfl)))))))
        (pss_cons (ps_for PassesOwn.never rfl (pi_range1 (by rfl) z.range (pa_cons pe_int pa_nil)) (pg_name (i := 5) sc_law_name.nd rfl (Or.inl rfl))
        (pss_one (ps_if (pt_cmpR op_in_seq (pv 6) (pv 1) (by rfl)) (pss_one (ps_set (i := 6) sc_law_name.nd rfl (Or.inl rfl) (pe_op op_add_str (pe_ix ix_str (pv 2) (pv 5) (fun _ _ => rfl)) (pe_slice sl_str (pv 6) po_none (po_some pe_int))))) pss_nil)))
        (pss_cons (ps_expr (pe_bm PySem.F.plainAttrs_list PySem.F.slot_list_append PySem.F.type_list_append mt_append (pv 1) (pa_cons (pv 6) pa_nil)))
        (pss_one (ps_ret (pv 6)))))))))), ?_⟩
    refine ⟨_, rfl, _, _, rfl, rfl, (by decide +kernel), ?_⟩
    refine ⟨_, rfl, t, c, cs, 4, rfl, T, by decide, by decide +kernel, fun d H1 d0 d1 T1 s1 => ?_⟩
    refine ⟨fun σ' H' => ∃ n : Int, σ' = [some (.ref t), some (.ref u), some (.str "abcdefghijklmnopqrstuvwxyz"), some (.str (("abcdefghijklmnopqrstuvwxyz" : Str) ++ ("0123456789_" : Str))), some (.int n), none, none] ∧ 0 ≤ n ∧ n ≤ 19 ∧ TapeAt H' t c cs ∧ SameX t H H', ?_, ?_⟩
    · refine ⟨_, rfl, t, c, cs, 9, rfl, T1, by decide, by decide +kernel, fun e H2 e0 e1 T2 s2 => ⟨rfl, _, rfl, ?_⟩⟩
      refine ifD (fun _ => ?_) (fun _ => ?_)
      · exact ⟨19, rfl, by decide, by decide, T2, s1.trans s2⟩
      · exact ⟨d, rfl, d0, by omega, T2, s1.trans s2⟩
    rintro σ2 H2 ⟨n, rfl, n0, n1, T2, s2⟩
    refine ⟨_, rfl, _, rfl, t, c, cs, 26, rfl, T2, by decide, by decide +kernel, fun e H3 e0 e1 T3 s3 => ?_⟩
    obtain ⟨ch0, h1, h2⟩ := at_in (xs := ("abcdefghijklmnopqrstuvwxyz" : Str).cps.toList) e0 (by rw [lt_len]; exact e1)
    refine ⟨_, _, ch0, rfl, rfl, (by decide +kernel), h1, ?_⟩
    refine ⟨⟨_, rfl⟩, _, rfl, n, rfl, by omega, by omega, fun D hD => lc_range (lo := 0) (n := n.toNat) (fun i H' => ∃ chs : List Nat, H' D = some (.lst ((chs.map one).map V.str)) ∧ chs.length = i ∧ (∀ x ∈ chs, nmCh x) ∧ TapeAt H' t c cs ∧ SameX t H3 H') ?_ ?_ ?_⟩
    · exact ⟨[], upd_same, rfl, (by intro x hx; cases hx), T3.mono (same_new hD _), SameX.of (same_new hD _)⟩
    · rintro i H4 hi ⟨chs, hc, hl', hn', T4, s4⟩
      have hDt := T3.fresh hD
      refine ⟨rfl, _, rfl, _, rfl, t, c, cs, 37, rfl, T4, by decide, by decide +kernel, fun g H5 g0 g1 T5 s5 => ?_⟩
      obtain ⟨ch, k1, k2⟩ := at_in (xs := (("abcdefghijklmnopqrstuvwxyz" : Str) ++ ("0123456789_" : Str)).cps.toList) g0 (by rw [sg_len]; exact g1)
      refine ⟨_, _, _, rfl, rfl, (by decide +kernel), k1, _, s5 _ _ hc hDt.1, (by rw [List.length_map, List.length_map]; exact small1000 (by omega)), chs ++ [ch], ?_, by simp [hl'], ?_, T5.upd hDt.1 hDt.2, samex_upd hD _ (s4.trans s5)⟩
      · rw [upd_same, List.map_append, List.map_append]; rfl
      · intro y hy
        rcases List.mem_append.mp hy with hy | hy
        · exact hn' y hy
        · rw [List.mem_singleton.mp hy]; exact sg_ok _ k2
    rintro H4 ⟨chs, hc, hl', hn', T4, s4⟩
    have hsum : ((chs.map one).map (·.length)).sum + (chs.map one).length * ("" : Str).length ≤ 16777216 := by
      have e0 : ("" : Str).length = 0 := by decide +kernel
      rw [sum_ones, e0, Nat.mul_zero]; omega
    have S4 : SameX t H H4 := s2.trans (s3.trans s4)
    have hu4 : H4 u = some (.lst (us.map V.str)) := S4 _ _ hu0 hut
    refine ⟨_, D, _, rfl, rfl, .inl (SqL.of hc), hsum, _, _, rfl, rfl, (by rw [len_joined]; exact Nat.le_of_lt (small1000 (by show 1 + _ ≤ _; omega))), ?_⟩
    have nz : nameOk (one ch0 ++ Txt.join ("" : Str) (chs.map one)) := by
      have et : tl (one ch0 ++ Txt.join ("" : Str) (chs.map one)) = ch0 :: chs := by rw [tl_append, tl_joined]; rfl
      refine ⟨?_, ⟨ch0, chs, et, lt_ok _ h2⟩, ?_⟩
      · rw [len_tl, et, List.length_cons]; omega
      · rw [et]
        intro x hx
        rcases List.mem_cons.mp hx with rfl | hx
        · have := lt_ok _ h2; unfold nmCh; omega
        · exact hn' x hx
    refine ⟨26, rfl, by decide, by decide, for_range (lo := 0) (n := 26) (fun i σ H' => ∃ v z, σ = [some (.ref t), some (.ref u), some (.str "abcdefghijklmnopqrstuvwxyz"), some (.str (("abcdefghijklmnopqrstuvwxyz" : Str) ++ ("0123456789_" : Str))), some (.int n), v, some (.str z)] ∧ H' = H4 ∧ nameOk z ∧ (z ∉ us ∨ Hit us i)) ⟨none, _, rfl, rfl, nz, .inr ⟨[], rfl, List.nodup_nil, fun v hv => by cases hv⟩⟩ ?_ ?_⟩
    · rintro i σ H' hi ⟨v, z0, rfl, rfl, nk, hit⟩
      refine ⟨_, rfl, _, rfl, u, _, rfl, .inl (SqL.of hu4), rfl, flat_strs us, _, rfl, ?_⟩
      show if inV (.str z0) (us.map V.str) = true then _ else _
      rw [inV_str]
      refine ifD (fun hin => ?_) (fun hout => ⟨_, z0, rfl, rfl, nk, .inl hout⟩)
      have hk : atI ("abcdefghijklmnopqrstuvwxyz" : Str).cps.toList (0 + (i : Int)) = some (97 + i) := at_ofN (z := 0 + (i : Int)) (j := i) (by omega) (lt_at i hi)
      have l1 := cutS_length z0 none (some 19)
      refine ⟨_, rfl, _, rfl, _, _, _, rfl, rfl, (by decide +kernel), hk, _, rfl, _, rfl, _, rfl, Nat.le_of_lt (small1000 (by have := nk.1; omega)), _, _, rfl, rfl, Nat.le_of_lt (small1000 (by show 1 + _ ≤ _; have := nk.1; omega)), ?_⟩
      have et : tl (one (97 + i) ++ cutS z0 none (some 19)) = (97 + i) :: tl (cutS z0 none (some 19)) := by rw [tl_append]; rfl
      have l2 : (cutS z0 none (some 19)).length ≤ 19 := by
        show (((z0.cps.toList.drop (HT.sIx z0.length 0 none)).take (HT.sIx z0.length z0.length (some 19) - HT.sIx z0.length 0 none)).toArray).size ≤ 19
        rw [List.size_toArray, List.length_take]
        have : HT.sIx z0.length z0.length (some 19) = min 19 z0.length := HT.sIx_nat _ _ 19
        rw [this]
        omega
      refine ⟨_, _, rfl, rfl, ⟨?_, ⟨97 + i, _, et, by omega, by omega⟩, ?_⟩, ?_⟩
      · rw [len_app]; show 1 + _ ≤ _; omega
      · show ∀ ch ∈ tl (one (97 + i) ++ cutS z0 none (some 19)), nmCh ch
        rw [et]
        intro x hx
        rcases List.mem_cons.mp hx with rfl | hx
        · unfold nmCh; omega
        · exact nk.2.2 x (cutS_sub _ hx)
      · rcases hit with hit | hit
        · exact absurd hin hit
        · exact hit.step et
    rintro σ H' ⟨v, z0, rfl, rfl, nk, hit⟩
    have hz0 : z0 ∉ us := by
      rcases hit with hit | hit
      · exact hit
      · exact absurd (hit.no (by omega)) (fun z => z)
    refine ⟨_, rfl, .inl ⟨rfl, _, SqL.of hu4⟩, _, rfl, u, _, _, rfl, rfl, hu4, (by rw [List.length_map]; exact small1000 (by omega)), ?_⟩
    refine ⟨_, rfl, ?_⟩
    refine q z0 _ nk hz0 (T4.upd hut huc.symm) ?_ (SameXY.updY _ (SameXY.ofX S4))
    rw [upd_same, List.map_append]
    rfl)
theorem ok_law_table {f : Addr} {fd : FuncData} (k : Kn K mg "_law_table" s_law_table ["columns"] f fd) (z : Z mg) :
    Cal P w K mg base 1 "_law_table" ["columns"] (spTable) f fd := k.cal (by
  refine k.F.ok sc_law_table (fun vs H Q E h => ?_) (fun cdv A outer s H vs Q E hr h => ?_)
  · obtain ⟨L, cols, rfl, _⟩ := h; rfl
  · obtain ⟨L, cols, rfl, ⟨xs, hL, rL⟩, q⟩ := h
    refine ⟨_, (pss_one (ps_ret (pe_disp (pps_cons pe_str (pe_callTy call_list_of (by rfl) z.list (by decide +kernel) (pa_cons (pv 0) pa_nil)) (pps_cons pe_str (pe_lst pa_nil) (pps_cons pe_str (pe_lst pa_nil) (pps_cons pe_str (pe_lst pa_nil) pps_nil)))) (by rfl) (by rfl) (fun z => by cases z) (by decide)))), ?_⟩
    refine fun p hp => ?_
    have Lp : L ≠ p := ne_of_none hL hp
    refine ⟨_, rfl, L, xs, rfl, .inl (SqL.of (by rw [upd_ne Lp]; exact hL)), fun c hc => ⟨(by show 0 ≤ sizeLine; decide), fun k hk => ⟨(by show 0 ≤ sizeLine; decide), fun u hu => ⟨(by show 0 ≤ sizeLine; decide), fun r hr' => ?_⟩⟩⟩⟩
    have m1 := same_new hc (.lst xs)
    have m2 := same_new hk (.lst [])
    have m3 := same_new hu (.lst [])
    have m4 := same_new hr' (.lst [])
    have kp : (upd (upd (upd (upd (upd H p (.dK [])) c (.lst xs)) k (.lst [])) u (.lst [])) r (.lst [])) p = some (.dK []) := m4 _ _ (m3 _ _ (m2 _ _ (m1 _ _ upd_same)))
    have kc : (upd (upd (upd (upd (upd H p (.dK [])) c (.lst xs)) k (.lst [])) u (.lst [])) r (.lst [])) c = some (.lst xs) := m4 _ _ (m3 _ _ (m2 _ _ upd_same))
    have kk : (upd (upd (upd (upd (upd H p (.dK [])) c (.lst xs)) k (.lst [])) u (.lst [])) r (.lst [])) k = some (.lst []) := m4 _ _ (m3 _ _ upd_same)
    have ku : (upd (upd (upd (upd (upd H p (.dK [])) c (.lst xs)) k (.lst [])) u (.lst [])) r (.lst [])) u = some (.lst []) := m4 _ _ upd_same
    have kr : (upd (upd (upd (upd (upd H p (.dK [])) c (.lst xs)) k (.lst [])) u (.lst [])) r (.lst [])) r = some (.lst []) := upd_same
    have S5 : Same H (upd (upd (upd (upd (upd H p (.dK [])) c (.lst xs)) k (.lst [])) u (.lst [])) r (.lst [])) := (same_new hp _).trans (m1.trans (m2.trans (m3.trans m4)))
    have ckn : c ≠ k := ne_of_none upd_same hk
    have cun : c ≠ u := ne_of_none (m2 _ _ upd_same) hu
    have crn : c ≠ r := ne_of_none (m3 _ _ (m2 _ _ upd_same)) hr'
    have kun : k ≠ u := ne_of_none upd_same hu
    have krn : k ≠ r := ne_of_none (m3 _ _ upd_same) hr'
    have urn : u ≠ r := ne_of_none upd_same hr'
    have fr1 : H c = none := (same_new hp _).free hc
    have fr2 : H k = none := (same_new hp _).free (m1.free hk)
    have fr3 : H u = none := (same_new hp _).free (m1.free (m2.free hu))
    have fr4 : H r = none := (same_new hp _).free (m1.free (m2.free (m3.free hr')))
    generalize hH : (upd (upd (upd (upd (upd H p (.dK [])) c (.lst xs)) k (.lst [])) u (.lst [])) r (.lst [])) = H5 at *
    refine ⟨kp, descD ⟨p, c, k, u, r⟩, rfl, (by show 4 ≤ 15; decide), ?_⟩
    rw [merge_desc]
    have np : ∀ b, (∃ ys, H5 b = some (.lst ys)) → b ≠ p := fun b ⟨ys, e⟩ => ne_of e kp (by intro z; cases z)
    have kt : KeepT H (upd H5 p (.dK (descD ⟨p, c, k, u, r⟩))) := (KeepT.of S5).trans (KeepT.upd fun ys z => by rw [kp] at z; cases z)
    refine q ⟨p, c, k, u, r⟩ _ (fun n => ⟨upd_same, ⟨xs, by rw [upd_ne (np _ ⟨_, kc⟩)]; exact kc, rL.mono kt⟩, ⟨[], by rw [upd_ne (np _ ⟨_, kk⟩)]; exact kk, .nil⟩, by rw [upd_ne (np _ ⟨_, ku⟩)]; exact ku, ⟨[], by rw [upd_ne (np _ ⟨_, kr⟩)]; exact kr, .nil⟩⟩) (same_upd hp _ S5) hp ?_ ?_
    · intro b hb
      simp only [adL, List.mem_cons, List.not_mem_nil, or_false] at hb
      rcases hb with rfl | rfl | rfl | rfl
      · exact fr1
      · exact fr2
      · exact fr3
      · exact fr4
    · simp only [adL, List.nodup_cons, List.mem_cons, List.not_mem_nil, or_false, not_or, not_false_eq_true, List.nodup_nil, and_true]
      exact ⟨⟨ckn, cun, crn⟩, ⟨kun, krn⟩, urn⟩)
theorem ok_law_columns {f : Addr} {fd : FuncData} (k : Kn K mg "_law_columns" s_law_columns ["tape", "used", "many"] f fd) (z : Z mg)
    {g_law_take : Addr} {gd_law_take : FuncData} (c_law_take : Cal P w K mg base 1 "_law_take" ["tape", "many"] (spTake) g_law_take gd_law_take)
    {g_law_name : Addr} {gd_law_name : FuncData} (c_law_name : Cal P w K mg base 2 "_law_name" ["tape", "used"] (spName) g_law_name gd_law_name) :
    Cal P w K mg base 3 "_law_columns" ["tape", "used", "many"] (spColumns) f fd := k.cal (by
  refine k.F.ok sc_law_columns (fun vs H Q E h => ?_) (fun cdv A outer s H vs Q E hr h => ?_)
  · obtain ⟨t, c, u, cs, us, m, rfl, _⟩ := h; rfl
  · obtain ⟨t, c, u, cs, us, m, rfl, T, hu0, huc, m0, m8, hl, q⟩ := h
    have hut : u ≠ t := T.notL hu0
    refine ⟨_, (pss_cons (ps_set (i := 3) sc_law_columns.nd rfl (Or.inl rfl) (pe_lst (pa_cons pe_str (pa_cons pe_str pa_nil))))
        (pss_cons (ps_set (i := 4) sc_law_columns.nd rfl (Or.inl rfl) (pe_lst (pa_cons (pe_tup (pa_cons (pe_call c_law_name.G (hr.mono (by decide)) (by rfl) c_law_name.m c_law_name.kp c_law_name.b .nil pass0 (pa_cons (pv 0) (pa_cons (pv 1) pa_nil))) (pa_cons (pe_ix ix_list (pv 3) (pe_call c_law_take.G (hr.mono (by decide)) (by rfl) c_law_take.m c_law_take.kp c_law_take.b .nil pass0 (pa_cons (pv 0) (pa_cons pe_int pa_nil))) (fun _ _ => rfl)) (pa_cons pe_bl pa_nil)))) pa_nil)))
        (pss_cons (ps_for PassesOwn.never rfl (pi_range1 (by rfl) z.range (pa_cons (pv 2) pa_nil)) (pg_name (i := 5) sc_law_columns.nd rfl (Or.inl rfl))
        (pss_one (ps_expr (pe_bm PySem.F.plainAttrs_list PySem.F.slot_list_append PySem.F.type_list_append mt_append (pv 4) (pa_cons (pe_tup (pa_cons (pe_call c_law_name.G (hr.mono (by decide)) (by rfl) c_law_name.m c_law_name.kp c_law_name.b .nil pass0 (pa_cons (pv 0) (pa_cons (pv 1) pa_nil))) (pa_cons (pe_ix ix_list (pv 3) (pe_call c_law_take.G (hr.mono (by decide)) (by rfl) c_law_take.m c_law_take.kp c_law_take.b .nil pass0 (pa_cons (pv 0) (pa_cons pe_int pa_nil))) (fun _ _ => rfl)) (pa_cons (pe_cmpR op_eq (pe_call c_law_take.G (hr.mono (by decide)) (by rfl) c_law_take.m c_law_take.kp c_law_take.b .nil pass0 (pa_cons (pv 0) (pa_cons pe_int pa_nil))) pe_int (nomark _)) pa_nil)))) pa_nil)))))
        (pss_one (ps_ret (pv 4)))))), ?_⟩
    refine ⟨(by show 2 ≤ sizeLine; decide), fun KL hKL => ?_⟩
    have TK := T.mono (same_new hKL (.lst [.str "int", .str "text"]))
    have fK := T.fresh hKL
    have uK : u ≠ KL := ne_of_none hu0 hKL
    have kinds : ∀ {d : Int}, 0 ≤ d → d < 2 → ∃ k : Str, atI [V.str ("int" : Str), V.str ("text" : Str)] d = some (.str k) ∧ (k = ("int" : Str) ∨ k = ("text" : Str)) := fun d0 d1 => by
      obtain ⟨v, h1, h2⟩ := at_in (xs := [V.str ("int" : Str), V.str ("text" : Str)]) d0 (by simpa using d1)
      simp only [List.mem_cons, List.not_mem_nil, or_false] at h2
      rcases h2 with rfl | rfl
      · exact ⟨_, h1, .inl rfl⟩
      · exact ⟨_, h1, .inr rfl⟩
    refine ⟨_, rfl, _, rfl, t, c, u, cs, us, rfl, TK, (by rw [upd_ne uK]; exact hu0), huc, by omega, fun n1 H1 nk1 nf1 T1 hu1 s1 => ?_⟩
    have hK1 := s1 _ _ upd_same fK.1 uK.symm
    refine ⟨_, rfl, _, rfl, t, c, cs, 2, rfl, T1, by decide, by decide +kernel, fun d H2 d0 d1 T2 s2 => ?_⟩
    obtain ⟨k1, a1, b1⟩ := kinds d0 d1
    refine ⟨KL, _, d, _, rfl, rfl, SqL.of (s2 _ _ hK1 fK.1), a1, (by show 3 ≤ sizeLine; decide), fun p hp => ⟨(by show 1 ≤ sizeLine; decide), fun L hL => ?_⟩⟩
    have S2 : SameXY t u H H2 := (SameXY.of (same_new hKL _)).trans (s1.trans (SameXY.ofX s2))
    have hu2 : H2 u = some (.lst ((us ++ [n1]).map V.str)) := s2 _ _ hu1 hut
    have hK2 := s2 _ _ hK1 fK.1
    have e2 : Same H2 (upd (upd H2 p (.tup [.str n1, .str k1, .bl false])) L (.lst [.ref p])) := (same_new hp _).trans (same_new hL _)
    have hLt := (T2.mono (same_new hp (.tup [.str n1, .str k1, .bl false]))).fresh hL
    have uL : u ≠ L := ne_of_none (same_new hp _ _ _ hu2) hL
    have KLL : KL ≠ L := ne_of_none (same_new hp _ _ _ hK2) hL
    have hL2 : H2 L = none := by
      cases e : H2 L with
      | none => rfl
      | some o => have := same_new hp (.tup [.str n1, .str k1, .bl false]) _ _ e; rw [hL] at this; cases this
    have hL0 : H L = none := by
      cases e : H L with
      | none => rfl
      | some o => have := S2 _ _ e hLt.1 uL.symm; rw [hL2] at this; cases this
    refine ⟨_, rfl, m, rfl, by omega, by omega, for_range (lo := 0) (n := m.toNat) (fun i σ H' => ∃ v cols xs, σ = [some (.ref t), some (.ref u), some (.int m), some (.ref KL), some (.ref L), v] ∧ H' L = some (.lst xs) ∧ TpL H' xs (cols.map colD) ∧ cols.length = i + 1 ∧ ColsOk us cols ∧ TapeAt H' t c cs ∧ H' u = some (.lst ((us ++ colNs cols).map V.str)) ∧ H' KL = some (.lst [.str "int", .str "text"]) ∧ SameXY t u H H') ?_ ?_ ?_⟩
    · refine ⟨none, [⟨n1, k1, false⟩], [.ref p], rfl, upd_same, .cons (col_mk (by rw [upd_ne (ne_of_none upd_same hL)]; exact upd_same)) .nil, rfl, ⟨?_, ?_, ?_, ?_⟩, T2.mono e2, e2 _ _ hu2, e2 _ _ hK2, S2.trans (SameXY.of e2)⟩
      · show ([n1] : List Str).Nodup; simp
      · intro n hn
        have : n = n1 := by simpa [colNs] using hn
        subst this
        exact ⟨nf1, nk1⟩
      · intro cc hc
        have : cc = ⟨n1, k1, false⟩ := by simpa using hc
        subst this
        exact b1
      · intro cc hc
        have : cc = ⟨n1, k1, false⟩ := by simpa using hc.symm
        subst this
        rfl
    · rintro i σ H3 hi ⟨v, cols, xs, rfl, h3, r3, l3, C3, T3, u3, K3, s3⟩
      have hlen : (us ++ colNs cols).length ≤ 25 := by rw [List.length_append]; unfold colNs; rw [List.length_map]; omega
      refine ⟨_, rfl, .inl ⟨rfl, _, SqL.of h3⟩, ?_⟩
      refine ⟨_, rfl, _, rfl, t, c, u, cs, us ++ colNs cols, rfl, T3, u3, huc, hlen, fun n4 H4 nk4 nf4 T4 hu4 s4 => ?_⟩
      have h4 := s4 _ _ h3 (T3.notL h3) uL.symm
      have K4 := s4 _ _ K3 fK.1 uK.symm
      have r4 := r3.mono (KeepT.ofXY T3 u3 s4)
      refine ⟨_, rfl, _, rfl, t, c, cs, 2, rfl, T4, by decide, by decide +kernel, fun d H5 d0 d1 T5 s5 => ?_⟩
      obtain ⟨k5, a5, b5⟩ := kinds d0 d1
      have K5 := s5 _ _ K4 fK.1
      refine ⟨KL, _, d, _, rfl, rfl, SqL.of K5, a5, ?_⟩
      refine ⟨_, rfl, t, c, cs, 2, rfl, T5, by decide, by decide +kernel, fun e H6 e0 e1 T6 s6 => ?_⟩
      have s46 : SameXY t u H3 H6 := s4.trans ((SameXY.ofX s5).trans (SameXY.ofX s6))
      have h6 := s6 _ _ (s5 _ _ h4 (T3.notL h3)) (T3.notL h3)
      have u6 := s6 _ _ (s5 _ _ hu4 hut) hut
      have K6 := s6 _ _ K5 fK.1
      have r6 := (r4.mono (KeepT.ofX T4 s5)).mono (KeepT.ofX T5 s6)
      refine ⟨rfl, (by show 3 ≤ sizeLine; decide), fun p6 hp6 => ?_⟩
      have m7 := same_new hp6 (.tup [.str n4, .str k5, .bl (decide (V.int e = V.int 1))])
      have nL : L ≠ p6 := ne_of_none h6 hp6
      refine ⟨L, xs, _, rfl, rfl, m7 _ _ h6, (by rw [r3.length, List.length_map]; exact small1000 (by omega)), ?_⟩
      have ku : KeepT (upd H6 p6 (.tup [.str n4, .str k5, .bl (decide (V.int e = V.int 1))])) (upd (upd H6 p6 (.tup [.str n4, .str k5, .bl (decide (V.int e = V.int 1))])) L (.lst (xs ++ [.ref p6]))) := KeepT.upd (fun ys z => by rw [m7 _ _ h6] at z; cases z)
      refine ⟨_, cols ++ [⟨n4, k5, decide (V.int e = V.int 1)⟩], xs ++ [.ref p6], rfl, upd_same, ?_, by simp [l3], ⟨?_, ?_, ?_, ?_⟩, (T6.mono m7).upd (T3.notL h3) (fun z => by subst z; exact hLt.2 rfl), ?_, ?_, ?_⟩
      · rw [List.map_append]
        exact TpL.snoc ((r6.mono (KeepT.of m7)).mono ku) (col_mk (ku _ _ upd_same))
      · unfold colNs
        rw [List.map_append]
        refine List.nodup_append.mpr ⟨C3.nd, by simp, ?_⟩
        intro a ha b hb
        have : b = n4 := by simpa using hb
        subst this
        rintro rfl
        exact nf4 (List.mem_append.mpr (.inr ha))
      · intro n hn
        unfold colNs at hn
        rw [List.map_append] at hn
        rcases List.mem_append.mp hn with hn | hn
        · exact C3.fr n hn
        · have : n = n4 := by simpa using hn
          subst this
          exact ⟨fun z => nf4 (List.mem_append.mpr (.inl z)), nk4⟩
      · intro cc hc
        rcases List.mem_append.mp hc with hc | hc
        · exact C3.kd cc hc
        · have : cc = ⟨n4, k5, decide (V.int e = V.int 1)⟩ := by simpa using hc
          subst this
          exact b5
      · intro cc hc
        rw [List.getElem?_append_left (by omega)] at hc
        exact C3.hd cc hc
      · have ec : colNs (cols ++ [⟨n4, k5, decide (V.int e = V.int 1)⟩]) = colNs cols ++ [n4] := by unfold colNs; rw [List.map_append]; rfl
        rw [upd_ne uL, m7 _ _ u6, ec, List.append_assoc]
      · rw [upd_ne KLL]; exact m7 _ _ K6
      · exact samexy_upd hL0 _ (s3.trans (s46.trans (SameXY.of m7)))
    · rintro σ H3 ⟨v, cols, xs, rfl, h3, r3, l3, C3, T3, u3, K3, s3⟩
      exact ⟨_, rfl, q L cols xs H3 hL0 h3 r3 (by omega) C3 T3 u3 s3⟩)
theorem ok_law_names {f : Addr} {fd : FuncData} (k : Kn K mg "_law_names" s_law_names ["columns"] f fd) (z : Z mg) :
    Cal P w K mg base 1 "_law_names" ["columns"] (spNames) f fd := k.cal (by
  refine k.F.ok sc_law_names (fun vs H Q E h => ?_) (fun cdv A outer s H vs Q E hr h => ?_)
  · obtain ⟨L, cols, rfl, _⟩ := h; rfl
  · obtain ⟨L, cols, rfl, C, hl, q⟩ := h
    refine ⟨_, (pss_one (ps_ret (pe_lc (own := [("column", 1)]) (g := gName 1) (tt := tYes) (by rfl) sc_law_names.nd (pi_list (pv 0)) (blkOk_by (own := [("column", 1)]) (N := ["columns", "column"]) (sc := defScope s_law_names) (by decide +kernel)) (fun _ _ _ _ _ => pg_name (i := 1) sc_law_names.nd rfl (Or.inl rfl)) (fun _ _ _ _ _ => pts_nil) (fun _ _ _ _ _ => (pe_ix (r := rIxT K) ix_tup (pv 1) pe_int (fun _ _ => rfl)))))), ?_⟩
    obtain ⟨xs, h1, h2⟩ := id C
    have hx : xs.length = cols.length := by rw [h2.length, List.length_map]
    refine ⟨_, rfl, L, rfl, ⟨_, SqL.of h1⟩, fun D hD => lc_list (K := K) (a := L) (xs := xs) (fun i H' => H' D = some (.lst (((colNs cols).take i).map V.str)) ∧ Same H H') ⟨upd_same, same_new hD _⟩ (fun i H' _ hh => SqL.of (hh.2 _ _ h1)) ?_ ?_⟩
    · rintro i x H1 hi ⟨hD1, s1⟩
      have hil : i < cols.length := by rw [← hx]; exact (List.getElem?_eq_some_iff.mp hi).1
      obtain ⟨xs', a, k1, k2, k3⟩ := C.get (List.getElem?_eq_getElem hil)
      rw [h1] at k1
      cases k1
      rw [hi] at k2
      cases k2
      refine ⟨rfl, _, rfl, a, _, 0, _, rfl, rfl, SqT.of (s1 _ _ k3), atI_nat (j := 0) rfl, _, hD1, (by rw [List.length_map, List.length_take]; exact small1000 (by omega)), ?_, same_upd hD _ s1⟩
      rw [upd_same, List.take_add_one]
      have : (colNs cols)[i]? = some cols[i].n := by unfold colNs; rw [List.getElem?_map, List.getElem?_eq_getElem hil]; rfl
      rw [this]
      simp
    · rintro H1 ⟨hD1, s1⟩
      have : (colNs cols).take xs.length = colNs cols := List.take_of_length_le (by unfold colNs; rw [List.length_map]; omega)
      rw [this] at hD1
      exact q D H1 hD s1 hD1)
theorem ok_law_integer {f : Addr} {fd : FuncData} (k : Kn K mg "_law_integer" s_law_integer ["tape"] f fd) (z : Z mg)
    {g_law_take : Addr} {gd_law_take : FuncData} (c_law_take : Cal P w K mg base 1 "_law_take" ["tape", "many"] (spTake) g_law_take gd_law_take) :
    Cal P w K mg base 2 "_law_integer" ["tape"] (spDraw (isInt (-999999999) 999999999)) f fd := k.cal (by
  refine k.F.ok sc_law_integer (fun vs H Q E h => ?_) (fun cdv A outer s H vs Q E hr h => ?_)
  · obtain ⟨t, c, cs, rfl, _⟩ := h; rfl
  · obtain ⟨t, c, cs, rfl, T, q⟩ := h
    refine ⟨_, (pss_cons (ps_set (i := 1) sc_law_integer.nd rfl (Or.inl rfl) (pe_call c_law_take.G (hr.mono (by decide)) (by rfl) c_law_take.m c_law_take.kp c_law_take.b .nil pass0 (pa_cons (pv 0) (pa_cons pe_int pa_nil))))
        (pss_cons (ps_if (pt_cmpR op_eq (pv 1) pe_int (nomark _)) (pss_one (ps_ret (pe_op op_sub (pe_call c_law_take.G (hr.mono (by decide)) (by rfl) c_law_take.m c_law_take.kp c_law_take.b .nil pass0 (pa_cons (pv 0) (pa_cons pe_int pa_nil))) pe_int))) pss_nil)
        (pss_cons (ps_if (pt_cmpR op_eq (pv 1) pe_int (nomark _)) (pss_one (ps_ret (pe_ix ix_list (pe_lst (pa_cons pe_int (pa_cons (pe_un un_neg pe_int) (pa_cons pe_int (pa_cons pe_int pa_nil))))) (pe_call c_law_take.G (hr.mono (by decide)) (by rfl) c_law_take.m c_law_take.kp c_law_take.b .nil pass0 (pa_cons (pv 0) (pa_cons pe_int pa_nil))) (fun _ _ => rfl)))) pss_nil)
        (pss_cons (ps_if (pt_cmpR op_eq (pv 1) pe_int (nomark _)) (pss_one (ps_ret (pe_un un_neg (pe_call c_law_take.G (hr.mono (by decide)) (by rfl) c_law_take.m c_law_take.kp c_law_take.b .nil pass0 (pa_cons (pv 0) (pa_cons pe_int pa_nil)))))) pss_nil)
        (pss_one (ps_ret (pe_call c_law_take.G (hr.mono (by decide)) (by rfl) c_law_take.m c_law_take.kp c_law_take.b .nil pass0 (pa_cons (pv 0) (pa_cons pe_int pa_nil))))))))), ?_⟩
    refine ⟨_, rfl, t, c, cs, 8, rfl, T, by decide, by decide +kernel, fun d H1 d0 d1 T1 s1 => ?_⟩
    refine ⟨_, rfl, rfl, _, rfl, ?_⟩
    refine ifD (fun _ => ?_) (fun _ => ?_)
    · refine ⟨_, rfl, t, c, cs, 1999999999, rfl, T1, by decide, by decide +kernel, fun e H2 e0 e1 T2 s2 => ⟨_, _, rfl, rfl, ?_⟩⟩
      exact q _ H2 ⟨_, by omega, by omega, rfl⟩ T2 (s1.trans s2)
    refine ⟨_, rfl, rfl, _, rfl, ?_⟩
    refine ifD (fun _ => ?_) (fun _ => ?_)
    · refine ⟨_, rfl, (by show 4 ≤ sizeLine; decide), fun L hL => ?_⟩
      refine ⟨_, rfl, t, c, cs, 4, rfl, T1.mono (same_new hL _), by decide, by decide +kernel, fun e H2 e0 e1 T2 s2 => ?_⟩
      obtain ⟨v, h1, h2⟩ := at_in (xs := [V.int 999999999, V.int (-999999999), V.int 999999998, V.int 0]) e0 (by simpa using e1)
      obtain ⟨n, rfl, n0, n1⟩ : ∃ n : Int, v = V.int n ∧ -999999999 ≤ n ∧ n ≤ 999999999 := by
        simp only [List.mem_cons, List.not_mem_nil, or_false] at h2
        rcases h2 with rfl | rfl | rfl | rfl <;> exact ⟨_, rfl, by decide, by decide⟩
      refine ⟨L, _, e, _, rfl, rfl, SqL.of (s2 _ _ upd_same (T1.fresh hL).1), h1, ?_⟩
      exact q _ H2 ⟨n, n0, n1, rfl⟩ T2 (s1.trans ((SameX.of (same_new hL _)).trans s2))
    refine ⟨_, rfl, rfl, _, rfl, ?_⟩
    refine ifD (fun _ => ?_) (fun _ => ?_)
    · refine ⟨_, rfl, t, c, cs, 12, rfl, T1, by decide, by decide +kernel, fun e H2 e0 e1 T2 s2 => ⟨_, rfl, ?_⟩⟩
      exact q _ H2 ⟨_, by omega, by omega, rfl⟩ T2 (s1.trans s2)
    · refine ⟨_, rfl, t, c, cs, 6, rfl, T1, by decide, by decide +kernel, fun e H2 e0 e1 T2 s2 => ?_⟩
      exact q _ H2 ⟨_, by omega, by omega, rfl⟩ T2 (s1.trans s2))

theorem chars_len : (((" !\"#$&'()*+,-./0123456789:;<=>?@ABCDEFGHIJKLMNOPQRSTUVWXYZ[\\]^" : Str) ++ ("_`abcdefghijklmnopqrstuvwxyz{|}~" : Str)).cps.toList).length = 94 := by decide +kernel
theorem chars_ok : ∀ c ∈ ((" !\"#$&'()*+,-./0123456789:;<=>?@ABCDEFGHIJKLMNOPQRSTUVWXYZ[\\]^" : Str) ++ ("_`abcdefghijklmnopqrstuvwxyz{|}~" : Str)).cps.toList, chOk c := by decide +kernel
theorem few_len : ("ab -07" : Str).cps.toList.length = 6 := by decide +kernel
theorem few_ok : ∀ c ∈ ("ab -07" : Str).cps.toList, chOk c := by decide +kernel
theorem ok_law_char {f : Addr} {fd : FuncData} (k : Kn K mg "_law_char" s_law_char ["tape"] f fd) (z : Z mg)
    {g_law_take : Addr} {gd_law_take : FuncData} (c_law_take : Cal P w K mg base 1 "_law_take" ["tape", "many"] (spTake) g_law_take gd_law_take) :
    Cal P w K mg base 2 "_law_char" ["tape"] (spDraw isChar) f fd := k.cal (by
  refine k.F.ok sc_law_char (fun vs H Q E h => ?_) (fun cdv A outer s H vs Q E hr h => ?_)
  · obtain ⟨t, c, cs, rfl, _⟩ := h; rfl
  · obtain ⟨t, c, cs, rfl, T, q⟩ := h
    refine ⟨_, (pss_cons (ps_set (i := 1) sc_law_char.nd rfl (Or.inl rfl) pe_str)
        (pss_cons (ps_set (i := 1) sc_law_char.nd rfl (Or.inl rfl) (pe_op op_add_str (pv 1) pe_str))
        (pss_cons (ps_if (pt_cmpR op_eq (pe_call c_law_take.G (hr.mono (by decide)) (by rfl) c_law_take.m c_law_take.kp c_law_take.b .nil pass0 (pa_cons (pv 0) (pa_cons pe_int pa_nil))) pe_int (nomark _)) (pss_one (ps_ret (pe_ix ix_str (pv 1) (pe_call c_law_take.G (hr.mono (by decide)) (by rfl) c_law_take.m c_law_take.kp c_law_take.b .nil pass0 (pa_cons (pv 0) (pa_cons pe_int pa_nil))) (fun _ _ => rfl)))) pss_nil)
        (pss_one (ps_ret (pe_ix ix_str pe_str (pe_call c_law_take.G (hr.mono (by decide)) (by rfl) c_law_take.m c_law_take.kp c_law_take.b .nil pass0 (pa_cons (pv 0) (pa_cons pe_int pa_nil))) (fun _ _ => rfl))))))), ?_⟩
    refine ⟨_, rfl, _, _, rfl, rfl, (by decide +kernel), ?_⟩
    refine ⟨_, rfl, t, c, cs, 3, rfl, T, by decide, by decide +kernel, fun d H1 d0 d1 T1 s1 => ⟨rfl, _, rfl, ?_⟩⟩
    refine ite2 (fun _ => ?_) (fun _ => ?_)
    · refine ⟨_, rfl, _, rfl, t, c, cs, 94, rfl, T1, by decide, by decide +kernel, fun e H2 e0 e1 T2 s2 => ?_⟩
      obtain ⟨ch, h1, h2⟩ := at_in (xs := ((" !\"#$&'()*+,-./0123456789:;<=>?@ABCDEFGHIJKLMNOPQRSTUVWXYZ[\\]^" : Str) ++ ("_`abcdefghijklmnopqrstuvwxyz{|}~" : Str)).cps.toList) e0 (by rw [chars_len]; exact e1)
      exact ⟨_, _, _, rfl, rfl, (by decide +kernel), h1, q _ H2 ⟨ch, chars_ok _ h2, rfl⟩ T2 (s1.trans s2)⟩
    · refine ⟨_, rfl, t, c, cs, 6, rfl, T1, by decide, by decide +kernel, fun e H2 e0 e1 T2 s2 => ?_⟩
      obtain ⟨ch, h1, h2⟩ := at_in (xs := ("ab -07" : Str).cps.toList) e0 (by rw [few_len]; exact e1)
      exact ⟨_, _, _, rfl, rfl, (by decide +kernel), h1, q _ H2 ⟨ch, few_ok _ h2, rfl⟩ T2 (s1.trans s2)⟩)
theorem ok_law_text {f : Addr} {fd : FuncData} (k : Kn K mg "_law_text" s_law_text ["tape"] f fd) (z : Z mg)
    {g_law_take : Addr} {gd_law_take : FuncData} (c_law_take : Cal P w K mg base 1 "_law_take" ["tape", "many"] (spTake) g_law_take gd_law_take)
    {g_law_char : Addr} {gd_law_char : FuncData} (c_law_char : Cal P w K mg base 2 "_law_char" ["tape"] (spDraw isChar) g_law_char gd_law_char) :
    Cal P w K mg base 3 "_law_text" ["tape"] (spDraw (isText 30)) f fd := k.cal (by
  refine k.F.ok sc_law_text (fun vs H Q E h => ?_) (fun cdv A outer s H vs Q E hr h => ?_)
  · obtain ⟨t, c, cs, rfl, _⟩ := h; rfl
  · obtain ⟨t, c, cs, rfl, T, q⟩ := h
    have ht : ∃ o, H t = some o := by obtain ⟨_, _, _, _, e, _⟩ := T.dk; exact ⟨_, e⟩
    refine ⟨_, (pss_cons (ps_set (i := 1) sc_law_text.nd rfl (Or.inl rfl) (pe_call c_law_take.G (hr.mono (by decide)) (by rfl) c_law_take.m c_law_take.kp c_law_take.b .nil pass0 (pa_cons (pv 0) (pa_cons pe_int pa_nil))))
        (pss_cut (ps_if (pt_cmpR op_eq (pe_call c_law_take.G (hr.mono (by decide)) (by rfl) c_law_take.m c_law_take.kp c_law_take.b .nil pass0 (pa_cons (pv 0) (pa_cons pe_int pa_nil))) pe_int (nomark _)) (pss_one (ps_set (i := 1) sc_law_text.nd rfl (Or.inl rfl) (pe_op op_add pe_int (pe_call c_law_take.G (hr.mono (by decide)) (by rfl) c_law_take.m c_law_take.kp c_law_take.b .nil pass0 (pa_cons (pv 0) (pa_cons pe_int pa_nil)))))) pss_nil)
        (pss_one (ps_ret (pe_join pe_str (pe_lc (own := [("k", 2)]) (g := gName 2) (tt := tYes) (by rfl) sc_law_text.nd (pi_range1 (by rfl) z.range (pa_cons (pv 1) pa_nil)) (blkOk_by (own := [("k", 2)]) (N := ["tape", "size", "k"]) (sc := defScope s_law_text) (by decide +kernel)) (fun _ _ _ _ _ => pg_name (i := 2) sc_law_text.nd rfl (Or.inl rfl)) (fun _ _ _ _ _ => pts_nil) (fun _ _ _ _ _ => (pe_call c_law_char.G (hr.mono (by decide)) (by rfl) c_law_char.m c_law_char.kp c_law_char.b .nil pass0 (pa_cons (pv 0) pa_nil))))))))), ?_⟩
    refine ⟨_, rfl, t, c, cs, 6, rfl, T, by decide, by decide +kernel, fun d H1 d0 d1 T1 s1 => ?_⟩
    refine ⟨fun σ H' => ∃ n : Int, σ = [some (.ref t), some (.int n), none] ∧ 0 ≤ n ∧ n ≤ 30 ∧ TapeAt H' t c cs ∧ SameX t H H', ?_, ?_⟩
    · refine ⟨_, rfl, t, c, cs, 12, rfl, T1, by decide, by decide +kernel, fun e H2 e0 e1 T2 s2 => ⟨rfl, _, rfl, ?_⟩⟩
      refine ite2 (fun _ => ?_) (fun _ => ?_)
      · refine ⟨_, rfl, t, c, cs, 6, rfl, T2, by decide, by decide +kernel, fun g H3 g0 g1 T3 s3 => ⟨_, _, rfl, rfl, _, rfl, by omega, by omega, T3, s1.trans (s2.trans s3)⟩⟩
      · exact ⟨d, rfl, d0, by omega, T2, s1.trans s2⟩
    · rintro σ H2 ⟨n, rfl, n0, n1, T2, s2⟩
      refine ⟨⟨_, rfl⟩, _, rfl, n, rfl, by omega, by omega, fun D hD => lc_range (lo := 0) (n := n.toNat) (fun i H' => ∃ chs : List Nat, H' D = some (.lst ((chs.map one).map V.str)) ∧ chs.length = i ∧ (∀ x ∈ chs, chOk x) ∧ TapeAt H' t c cs ∧ SameX t H H' ∧ (∀ b o, H2 b = some o → b ≠ t → H' b = some o)) ?_ ?_ ?_⟩
      · exact ⟨[], upd_same, rfl, (by intro x hx; cases hx), T2.mono (same_new hD _), s2.trans (SameX.of (same_new hD _)), fun b o e _ => same_new hD _ b o e⟩
      · rintro i H3 hi ⟨chs, hc, hl, hn, T3, s3, s3'⟩
        have hDt : D ≠ t := by
          obtain ⟨_, _, _, _, e, _⟩ := T2.dk
          intro z; subst z; rw [hD] at e; cases e
        refine ⟨rfl, _, rfl, t, c, cs, rfl, T3, fun v H4 ⟨ch, hch, e⟩ T4 s4 => ?_⟩
        subst e
        refine ⟨_, s4 _ _ hc hDt, (by rw [List.length_map, List.length_map]; exact small1000 (by omega)), chs ++ [ch], ?_, by simp [hl], ?_, ?_, ?_, ?_⟩
        · rw [upd_same, List.map_append, List.map_append]; rfl
        · intro y hy
          rcases List.mem_append.mp hy with hy | hy
          · exact hn y hy
          · rw [List.mem_singleton.mp hy]; exact hch
        · obtain ⟨a, l, s, m, h1, h2, h3⟩ := T4.dk
          have hDc : c ≠ D := by
            intro z; subst z
            have h5 := T2.ls
            rw [hD] at h5; cases h5
          exact ⟨⟨a, l, s, m, by rw [upd_ne hDt.symm]; exact h1, h2, h3⟩, by rw [upd_ne hDc]; exact T4.ls, T4.nn⟩
        · intro b o e ne
          have hb : b ≠ D := by
            intro z; subst z
            have := s2 _ _ e ne
            rw [hD] at this; cases this
          rw [upd_ne hb]; exact s4 _ _ (s3 _ _ e ne) ne
        · intro b o e ne
          rw [upd_ne (ne_of_none e hD)]; exact s4 _ _ (s3' _ _ e ne) ne
      · rintro H3 ⟨chs, hc, hl, hn, T3, s3, _⟩
        have hsum : ((chs.map one).map (·.length)).sum + (chs.map one).length * ("" : Str).length ≤ 16777216 := by
          have e0 : ("" : Str).length = 0 := by decide +kernel
          rw [sum_ones, e0, Nat.mul_zero]; omega
        refine ⟨_, D, _, rfl, rfl, .inl (SqL.of hc), hsum, ?_⟩
        exact q _ H3 ⟨_, by rw [len_joined]; omega, by rw [tl_joined]; exact hn, rfl⟩ T3 s3)
theorem ok_law_value {f : Addr} {fd : FuncData} (k : Kn K mg "_law_value" s_law_value ["tape", "kind", "nullable"] f fd) (z : Z mg)
    {g_law_take : Addr} {gd_law_take : FuncData} (c_law_take : Cal P w K mg base 1 "_law_take" ["tape", "many"] (spTake) g_law_take gd_law_take)
    {g_law_integer : Addr} {gd_law_integer : FuncData} (c_law_integer : Cal P w K mg base 2 "_law_integer" ["tape"] (spDraw (isInt (-999999999) 999999999)) g_law_integer gd_law_integer)
    {g_law_text : Addr} {gd_law_text : FuncData} (c_law_text : Cal P w K mg base 3 "_law_text" ["tape"] (spDraw (isText 30)) g_law_text gd_law_text) :
    Cal P w K mg base 4 "_law_value" ["tape", "kind", "nullable"] (spVal) f fd := k.cal (by
  refine k.F.ok sc_law_value (fun vs H Q E h => ?_) (fun cdv A outer s H vs Q E hr h => ?_)
  · obtain ⟨t, c, cs, kk, b, rfl, _⟩ := h; rfl
  · obtain ⟨t, c, cs, kk, b, rfl, T, q⟩ := h
    refine ⟨_, (pss_cut (ps_if (PW.pt (pw_and (pt_val (pv 2)) (pw_and1 (pt_cmpR op_eq (pe_call c_law_take.G (hr.mono (by decide)) (by rfl) c_law_take.m c_law_take.kp c_law_take.b .nil pass0 (pa_cons (pv 0) (pa_cons pe_int pa_nil))) pe_int (nomark _))))) (pss_one (ps_ret pe_non)) pss_nil)
        (pss_cons (ps_if (pt_cmpR op_eq (pv 1) pe_str (nomark _)) (pss_one (ps_ret (pe_call c_law_integer.G (hr.mono (by decide)) (by rfl) c_law_integer.m c_law_integer.kp c_law_integer.b .nil pass0 (pa_cons (pv 0) pa_nil)))) pss_nil)
        (pss_cons (ps_if (pt_cmpR op_eq (pe_call c_law_take.G (hr.mono (by decide)) (by rfl) c_law_take.m c_law_take.kp c_law_take.b .nil pass0 (pa_cons (pv 0) (pa_cons pe_int pa_nil))) pe_int (nomark _)) (pss_one (ps_ret (pe_op op_add_str (pe_ix ix_list (pe_lst (pa_cons pe_str (pa_cons pe_str (pa_cons pe_str (pa_cons pe_str pa_nil))))) (pe_call c_law_take.G (hr.mono (by decide)) (by rfl) c_law_take.m c_law_take.kp c_law_take.b .nil pass0 (pa_cons (pv 0) (pa_cons pe_int pa_nil))) (fun _ _ => rfl)) (pe_callTy call_str_int (by rfl) z.str (by decide +kernel) (pa_cons (pe_call c_law_integer.G (hr.mono (by decide)) (by rfl) c_law_integer.m c_law_integer.kp c_law_integer.b .nil pass0 (pa_cons (pv 0) pa_nil)) pa_nil))))) pss_nil)
        (pss_one (ps_ret (pe_call c_law_text.G (hr.mono (by decide)) (by rfl) c_law_text.m c_law_text.kp c_law_text.b .nil pass0 (pa_cons (pv 0) pa_nil))))))), ?_⟩
    refine ⟨fun σ' H' => σ' = [some (.ref t), some (.str kk), some (.bl b)] ∧ TapeAt H' t c cs ∧ SameX t H H', ?_, ?_⟩
    · refine ⟨_, rfl, b, rfl, ?_⟩
      cases b with
      | false => exact iteF ⟨rfl, T, SameX.refl _ _⟩
      | true =>
        refine iteT ⟨_, rfl, t, c, cs, 4, rfl, T, by decide, by decide +kernel, fun d H1 d0 d1 T1 s1 => ⟨rfl, _, rfl, ?_⟩⟩
        exact ifD (fun _ => q _ H1 (.inl ⟨rfl, rfl⟩) T1 s1) (fun _ => ⟨rfl, T1, s1⟩)
    rintro σ1 H1 ⟨rfl, T1, s1⟩
    refine ⟨_, rfl, rfl, _, rfl, ?_⟩
    refine ifD (fun hk => ?_) (fun hk => ?_)
    · refine ⟨_, rfl, t, c, cs, rfl, T1, fun v H2 hv T2 s2 => ?_⟩
      obtain ⟨i, i0, i1, rfl⟩ := hv
      exact q _ H2 (.inr (.inl ⟨V.str.inj hk, i, rfl, i0, i1⟩)) T2 (s1.trans s2)
    have hk' : kk ≠ ("int" : Str) := fun z => hk (congrArg V.str z)
    refine ⟨_, rfl, t, c, cs, 3, rfl, T1, by decide, by decide +kernel, fun d H2 d0 d1 T2 s2 => ⟨rfl, _, rfl, ?_⟩⟩
    refine ifD (fun _ => ?_) (fun _ => ?_)
    · refine ⟨(by show 4 ≤ sizeLine; decide), fun L hL => ?_⟩
      refine ⟨_, rfl, t, c, cs, 4, rfl, T2.mono (same_new hL _), by decide, by decide +kernel, fun e H3 e0 e1 T3 s3 => ?_⟩
      obtain ⟨v, h1, h2⟩ := at_in (xs := [V.str ("" : Str), V.str ("0" : Str), V.str ("-" : Str), V.str ("+" : Str)]) e0 (by simpa using e1)
      obtain ⟨y, rfl, hy, hyo⟩ : ∃ y : Str, v = V.str y ∧ y.length ≤ 1 ∧ ∀ c ∈ tl y, chOk c := by
        simp only [List.mem_cons, List.not_mem_nil, or_false] at h2
        rcases h2 with rfl | rfl | rfl | rfl
        · exact ⟨_, rfl, by decide +kernel, by decide +kernel⟩
        · exact ⟨_, rfl, by decide +kernel, by decide +kernel⟩
        · exact ⟨_, rfl, by decide +kernel, by decide +kernel⟩
        · exact ⟨_, rfl, by decide +kernel, by decide +kernel⟩
      refine ⟨L, _, e, _, rfl, rfl, SqL.of (s3 _ _ upd_same (T2.fresh hL).1), h1, ?_⟩
      refine ⟨_, rfl, t, c, cs, rfl, T3, fun v H4 hv T4 s4 => ?_⟩
      obtain ⟨i, i0, i1, rfl⟩ := hv
      obtain ⟨l1, l2⟩ := int_text i0 i1
      refine ⟨i, rfl, log_small i0 i1, _, _, rfl, rfl, Nat.le_of_lt (small1000 (by omega)), ?_⟩
      refine q _ H4 (.inr (.inr ⟨hk', _, rfl, by rw [len_app]; omega, fun ch hch => ?_⟩)) T4 (s1.trans (s2.trans ((SameX.of (same_new hL _)).trans (s3.trans s4))))
      rw [tl_append] at hch
      rcases List.mem_append.mp hch with hch | hch
      · exact hyo _ hch
      · exact digit_ok (l2 _ hch)
    · refine ⟨_, rfl, t, c, cs, rfl, T2, fun v H3 hv T3 s3 => ?_⟩
      obtain ⟨y, y0, y1, rfl⟩ := hv
      exact q _ H3 (.inr (.inr ⟨hk', y, rfl, y0, y1⟩)) T3 (s1.trans (s2.trans s3)))

theorem ops_cases {v : V} (h : v ∈ [V.str ("=" : Str), V.str ("!=" : Str), V.str ("<" : Str), V.str ("<=" : Str), V.str (">" : Str), V.str (">=" : Str), V.str ("null" : Str), V.str ("given" : Str)]) : ∃ o : Str, v = V.str o ∧ PyData.strOk o = true := by
  simp only [List.mem_cons, List.not_mem_nil, or_false] at h
  rcases h with rfl | rfl | rfl | rfl | rfl | rfl | rfl | rfl <;> exact ⟨_, rfl, by decide +kernel⟩
theorem ok_law_clause {f : Addr} {fd : FuncData} (k : Kn K mg "_law_clause" s_law_clause ["tape", "columns"] f fd) (z : Z mg)
    {g_law_take : Addr} {gd_law_take : FuncData} (c_law_take : Cal P w K mg base 1 "_law_take" ["tape", "many"] (spTake) g_law_take gd_law_take)
    {g_law_value : Addr} {gd_law_value : FuncData} (c_law_value : Cal P w K mg base 4 "_law_value" ["tape", "kind", "nullable"] (spVal) g_law_value gd_law_value) :
    Cal P w K mg base 5 "_law_clause" ["tape", "columns"] (spClause) f fd := k.cal (by
  refine k.F.ok sc_law_clause (fun vs H Q E h => ?_) (fun cdv A outer s H vs Q E hr h => ?_)
  · obtain ⟨t, c, L, cs, cols, rfl, _⟩ := h; rfl
  · obtain ⟨t, c, L, cs, cols, rfl, T, C, hp0, hl, q⟩ := h
    refine ⟨_, (pss_cons (ps_set (i := 2) sc_law_clause.nd rfl (Or.inl rfl) (pe_ix ix_list (pv 1) (pe_call c_law_take.G (hr.mono (by decide)) (by rfl) c_law_take.m c_law_take.kp c_law_take.b .nil pass0 (pa_cons (pv 0) (pa_cons (pe_callB call_len_seq (by rfl) z.len (by decide +kernel) (pa_cons (pv 1) pa_nil)) pa_nil))) (fun _ _ => rfl)))
        (pss_cons (ps_set (i := 3) sc_law_clause.nd rfl (Or.inl rfl) (pe_ix ix_list (pe_lst (pa_cons pe_str (pa_cons pe_str (pa_cons pe_str (pa_cons pe_str (pa_cons pe_str (pa_cons pe_str (pa_cons pe_str (pa_cons pe_str pa_nil))))))))) (pe_call c_law_take.G (hr.mono (by decide)) (by rfl) c_law_take.m c_law_take.kp c_law_take.b .nil pass0 (pa_cons (pv 0) (pa_cons pe_int pa_nil))) (fun _ _ => rfl)))
        (pss_cons (ps_if (PW.pt (pw_or (pt_cmpR op_eq (pv 3) pe_str (nomark _)) (pw_or1 (pt_cmpR op_eq (pv 3) pe_str (nomark _))))) (pss_one (ps_ret (pe_tup (pa_cons (pe_ix ix_tup (pv 2) pe_int (fun _ _ => rfl)) (pa_cons (pv 3) (pa_cons pe_non pa_nil)))))) pss_nil)
        (pss_one (ps_ret (pe_tup (pa_cons (pe_ix ix_tup (pv 2) pe_int (fun _ _ => rfl)) (pa_cons (pv 3) (pa_cons (pe_call c_law_value.G (hr.mono (by decide)) (by rfl) c_law_value.m c_law_value.kp c_law_value.b .nil pass0 (pa_cons (pv 0) (pa_cons (pe_ix ix_tup (pv 2) pe_int (fun _ _ => rfl)) (pa_cons pe_bl pa_nil)))) pa_nil))))))))), ?_⟩
    obtain ⟨xs, h1, h2⟩ := id C
    have hx : xs.length = cols.length := by rw [h2.length, List.length_map]
    refine ⟨_, rfl, _, rfl, _, rfl, L, _, rfl, .inl (SqL.of h1), t, c, cs, (xs.length : Int), rfl, T, by omega, ?_, fun d H1 d0 d1 T1 s1 => ?_⟩
    · have b9 : (2 : Nat) ^ 9000 = 2 ^ 7 * 2 ^ 8993 := by rw [← Nat.pow_add]
      have b8 : 0 < (2 : Nat) ^ 8993 := Nat.pow_pos (by decide)
      rw [b9]
      have : ((xs.length : Int)).natAbs = xs.length := by omega
      omega
    have hd : d.toNat < cols.length := by omega
    obtain ⟨xs', a, k1, k2, k3⟩ := C.get (List.getElem?_eq_getElem hd)
    rw [h1] at k1
    cases k1
    have hLt := T.notL h1
    refine ⟨L, _, d, _, rfl, rfl, SqL.of (s1 _ _ h1 hLt), at_of (by omega) k2, ?_⟩
    refine ⟨(by show 8 ≤ sizeLine; decide), fun O hO => ?_⟩
    refine ⟨_, rfl, t, c, cs, 8, rfl, T1.mono (same_new hO _), by decide, by decide +kernel, fun e H2 e0 e1 T2 s2 => ?_⟩
    obtain ⟨v, g1, g2⟩ := at_in (xs := [V.str ("=" : Str), V.str ("!=" : Str), V.str ("<" : Str), V.str ("<=" : Str), V.str (">" : Str), V.str (">=" : Str), V.str ("null" : Str), V.str ("given" : Str)]) e0 (by simpa using e1)
    obtain ⟨op, rfl, hop⟩ := ops_cases g2
    refine ⟨O, _, e, _, rfl, rfl, SqL.of (s2 _ _ upd_same (T1.fresh hO).1), g1, ?_⟩
    have S2 : SameX t H H2 := s1.trans ((SameX.of (same_new hO _)).trans s2)
    have k4 := KeepT.ofX T S2 _ _ k3
    have hc : cols[d.toNat] ∈ cols := List.getElem_mem hd
    refine ⟨_, rfl, rfl, _, rfl, ?_⟩
    refine ifD (fun ho => ?_) (fun ho => ?_)
    · refine ⟨_, rfl, a, _, 0, _, rfl, rfl, SqT.of k4, atI_nat (j := 0) rfl, _, rfl, (by show 3 ≤ sizeLine; decide), fun p hp => ?_⟩
      exact q (.ref p) ⟨cols[d.toNat].n, op, .non⟩ _ (cl_mk upd_same rfl) ⟨hop, _, hc, rfl, .inl ⟨.inl (V.str.inj ho), rfl⟩⟩ (T2.mono (same_new hp _)) (S2.trans (SameX.of (same_new hp _)))
    refine ⟨_, rfl, rfl, _, rfl, ?_⟩
    refine ifD (fun ho2 => ?_) (fun ho2 => ?_)
    · refine ⟨_, rfl, a, _, 0, _, rfl, rfl, SqT.of k4, atI_nat (j := 0) rfl, _, rfl, (by show 3 ≤ sizeLine; decide), fun p hp => ?_⟩
      exact q (.ref p) ⟨cols[d.toNat].n, op, .non⟩ _ (cl_mk upd_same rfl) ⟨hop, _, hc, rfl, .inl ⟨.inr (V.str.inj ho2), rfl⟩⟩ (T2.mono (same_new hp _)) (S2.trans (SameX.of (same_new hp _)))
    · refine ⟨_, rfl, a, _, 0, _, rfl, rfl, SqT.of k4, atI_nat (j := 0) rfl, _, rfl, ?_⟩
      refine ⟨_, rfl, _, rfl, a, _, 1, _, rfl, rfl, SqT.of k4, atI_nat (j := 1) rfl, t, c, cs, _, _, rfl, T2, fun w H3 hw T3 s3 => ?_⟩
      refine ⟨(by show 3 ≤ sizeLine; decide), fun p hp => ?_⟩
      exact q (.ref p) ⟨cols[d.toNat].n, op, w⟩ _ (cl_mk upd_same hw.scal) ⟨hop, _, hc, rfl, .inr ⟨⟨fun z => ho (congrArg V.str z), fun z => ho2 (congrArg V.str z)⟩, hw⟩⟩ (T3.mono (same_new hp _)) (S2.trans (s3.trans (SameX.of (same_new hp _)))))

theorem five_a {d : Int} (d0 : 0 ≤ d) (d1 : d < 5) : ∃ n : Int, atI [V.int 1, V.int 0, V.int 2, V.int 1, V.int 4] d = some (.int n) ∧ 0 ≤ n ∧ n ≤ 4 := by
  obtain ⟨v, h1, h2⟩ := at_in (xs := [V.int 1, V.int 0, V.int 2, V.int 1, V.int 4]) d0 (by simpa using d1)
  simp only [List.mem_cons, List.not_mem_nil, or_false] at h2
  rcases h2 with rfl | rfl | rfl | rfl | rfl <;> exact ⟨_, h1, by decide, by decide⟩
theorem five_b {d : Int} (d0 : 0 ≤ d) (d1 : d < 5) : ∃ n : Int, atI [V.int 1, V.int 2, V.int 0, V.int 1, V.int 4] d = some (.int n) ∧ 0 ≤ n ∧ n ≤ 4 := by
  obtain ⟨v, h1, h2⟩ := at_in (xs := [V.int 1, V.int 2, V.int 0, V.int 1, V.int 4]) d0 (by simpa using d1)
  simp only [List.mem_cons, List.not_mem_nil, or_false] at h2
  rcases h2 with rfl | rfl | rfl | rfl | rfl <;> exact ⟨_, h1, by decide, by decide⟩
theorem ok_law_condition {f : Addr} {fd : FuncData} (k : Kn K mg "_law_condition" s_law_condition ["tape", "columns"] f fd) (z : Z mg)
    {g_law_take : Addr} {gd_law_take : FuncData} (c_law_take : Cal P w K mg base 1 "_law_take" ["tape", "many"] (spTake) g_law_take gd_law_take)
    {g_law_clause : Addr} {gd_law_clause : FuncData} (c_law_clause : Cal P w K mg base 5 "_law_clause" ["tape", "columns"] (spClause) g_law_clause gd_law_clause) :
    Cal P w K mg base 6 "_law_condition" ["tape", "columns"] (spCond) f fd := k.cal (by
  refine k.F.ok sc_law_condition (fun vs H Q E h => ?_) (fun cdv A outer s H vs Q E hr h => ?_)
  · obtain ⟨t, c, L, cs, cols, rfl, _⟩ := h; rfl
  · obtain ⟨t, c, L, cs, cols, rfl, T, C, hp0, hl, q⟩ := h
    refine ⟨_, (pss_cons (ps_set (i := 2) sc_law_condition.nd rfl (Or.inl rfl) (pe_lst pa_nil))
        (pss_cons (ps_for PassesOwn.never rfl (pi_range1 (by rfl) z.range (pa_cons (pe_ix ix_list (pe_lst (pa_cons pe_int (pa_cons pe_int (pa_cons pe_int (pa_cons pe_int (pa_cons pe_int pa_nil)))))) (pe_call c_law_take.G (hr.mono (by decide)) (by rfl) c_law_take.m c_law_take.kp c_law_take.b .nil pass0 (pa_cons (pv 0) (pa_cons pe_int pa_nil))) (fun _ _ => rfl)) pa_nil)) (pg_name (i := 3) sc_law_condition.nd rfl (Or.inl rfl))
        (pss_cons (ps_set (i := 4) sc_law_condition.nd rfl (Or.inl rfl) (pe_ix ix_list (pe_lst (pa_cons pe_int (pa_cons pe_int (pa_cons pe_int (pa_cons pe_int (pa_cons pe_int pa_nil)))))) (pe_call c_law_take.G (hr.mono (by decide)) (by rfl) c_law_take.m c_law_take.kp c_law_take.b .nil pass0 (pa_cons (pv 0) (pa_cons pe_int pa_nil))) (fun _ _ => rfl)))
        (pss_one (ps_expr (pe_bm PySem.F.plainAttrs_list PySem.F.slot_list_append PySem.F.type_list_append mt_append (pv 2) (pa_cons (pe_callTy call_tuple_of (by rfl) z.tuple (by decide +kernel) (pa_cons (pe_lc (own := [("j", 5)]) (g := gName 5) (tt := tYes) (by rfl) sc_law_condition.nd (pi_range1 (by rfl) z.range (pa_cons (pv 4) pa_nil)) (blkOk_by (own := [("j", 5)]) (N := ["tape", "columns", "condition", "k", "many", "j"]) (sc := defScope s_law_condition) (by decide +kernel)) (fun _ _ _ _ _ => pg_name (i := 5) sc_law_condition.nd rfl (Or.inl rfl)) (fun _ _ _ _ _ => pts_nil) (fun _ _ _ _ _ => (pe_call c_law_clause.G (hr.mono (by decide)) (by rfl) c_law_clause.m c_law_clause.kp c_law_clause.b .nil pass0 (pa_cons (pv 0) (pa_cons (pv 1) pa_nil))))) pa_nil)) pa_nil))))))
        (pss_one (ps_ret (pe_callTy call_tuple_of (by rfl) z.tuple (by decide +kernel) (pa_cons (pv 2) pa_nil)))))), ?_⟩
    have hLt : L ≠ t := by obtain ⟨xs, h1, _⟩ := C; exact T.notL h1
    refine ⟨(by show 0 ≤ sizeLine; decide), fun R hR => ?_⟩
    have fR := T.fresh hR
    refine ⟨(by show 5 ≤ sizeLine; decide), fun A1 hA1 => ?_⟩
    have TA := (T.mono (same_new hR (.lst []))).mono (same_new hA1 (.lst [.int 1, .int 0, .int 2, .int 1, .int 4]))
    refine ⟨_, rfl, t, c, cs, 5, rfl, TA, by decide, by decide +kernel, fun d H1 d0 d1 T1 s1 => ?_⟩
    obtain ⟨n, hn, n0, n4⟩ := five_a d0 d1
    have fA := (T.mono (same_new hR (.lst []))).fresh hA1
    have RA : R ≠ A1 := ne_of_none upd_same hA1
    have R1 : H1 R = some (.lst []) := s1 _ _ (by rw [upd_ne RA]; exact upd_same) fR.1
    have S1 : SameX t H H1 := (SameX.of ((same_new hR _).trans (same_new hA1 _))).trans s1
    refine ⟨A1, _, d, _, rfl, rfl, SqL.of (s1 _ _ upd_same fA.1), hn, n, rfl, by omega, by omega, for_range (lo := 0) (n := n.toNat) (fun i σ H' => ∃ v3 v4 v5 xs, ∃ cond : Cond, σ = [some (.ref t), some (.ref L), some (.ref R), v3, v4, v5] ∧ H' R = some (.lst xs) ∧ TpL H' xs (cond.map altD) ∧ cond.length = i ∧ (∀ a ∈ cond, ∀ cl ∈ a, ClOk cols cl) ∧ (∀ a ∈ cond, a.length ≤ 4) ∧ TapeAt H' t c cs ∧ SameX t H H') ⟨none, none, none, [], [], rfl, R1, .nil, rfl, (fun a h => by cases h), (fun a h => by cases h), T1, S1⟩ ?_ ?_⟩
    · rintro i σ H2 hi ⟨v3, v4, v5, xs, cond, rfl, R2, r2, l2, k2, m2, T2, s2⟩
      refine ⟨(by show 5 ≤ sizeLine; decide), fun B hB => ?_⟩
      have e3 := same_new hB (.lst [.int 1, .int 2, .int 0, .int 1, .int 4])
      have fB := T2.fresh hB
      refine ⟨_, rfl, t, c, cs, 5, rfl, T2.mono e3, by decide, by decide +kernel, fun d H3 d0 d1 T3 s3 => ?_⟩
      obtain ⟨g, hg, g0, g4⟩ := five_b d0 d1
      refine ⟨B, _, d, _, rfl, rfl, SqL.of (s3 _ _ upd_same fB.1), hg, ?_⟩
      have S3 : SameX t H2 H3 := (SameX.of e3).trans s3
      have R3 := S3 _ _ R2 fR.1
      have r3 := r2.mono (KeepT.ofX T2 S3)
      have C3 := C.mono (KeepT.ofX T (s2.trans S3)) (fun o h => (s2.trans S3) _ _ h hLt)
      refine ⟨_, rfl, .inl ⟨rfl, _, SqL.of R3⟩, ?_⟩
      refine ⟨_, rfl, g, rfl, by omega, by omega, fun D hD => lc_range (lo := 0) (n := g.toNat) (fun j H' => ∃ ys, ∃ cls : List Cl, H' D = some (.lst ys) ∧ TpL H' ys (cls.map clD) ∧ cls.length = j ∧ (∀ cl ∈ cls, ClOk cols cl) ∧ TapeAt H' t c cs ∧ SameX t H3 H') ?_ ?_ ?_⟩
      · exact ⟨[], [], upd_same, .nil, rfl, (fun cl h => by cases h), T3.mono (same_new hD _), SameX.of (same_new hD _)⟩
      · rintro j H4 hj ⟨ys, cls, D4, r4, l4, k4, T4, s4⟩
        have fD := T3.fresh hD
        have C4 := C3.mono (KeepT.ofX T3 s4) (fun o h => s4 _ _ h hLt)
        refine ⟨rfl, _, rfl, _, rfl, t, c, L, cs, cols, rfl, T4, C4, hp0, hl, fun v cl H5 hv kcl T5 s5 => ?_⟩
        have D5 := s5 _ _ D4 fD.1
        refine ⟨ys, D5, (by rw [r4.length, List.length_map]; exact small1000 (by omega)), ys ++ [v], cls ++ [cl], upd_same, ?_, by simp [l4], ?_, T5.upd fD.1 fD.2, samex_upd hD _ (s4.trans s5)⟩
        · rw [List.map_append]
          have ku : KeepT H5 (upd H5 D (.lst (ys ++ [v]))) := KeepT.upd (fun zs z => by rw [D5] at z; cases z)
          exact TpL.snoc ((r4.mono (KeepT.ofX T4 s5)).mono ku) (hv.mono ku)
        · intro x hx
          rcases List.mem_append.mp hx with hx | hx
          · exact k4 x hx
          · rw [List.mem_singleton.mp hx]; exact kcl
      rintro H4 ⟨ys, cls, D4, r4, l4, k4, T4, s4⟩
      refine ⟨D, ys, rfl, .inl ⟨SqL.of D4, fun p hp => ?_⟩⟩
      have e5 := same_new hp (.tup ys)
      have R4 := s4 _ _ R3 fR.1
      have Rp : R ≠ p := ne_of_none R4 hp
      refine ⟨R, xs, _, rfl, rfl, e5 _ _ R4, (by rw [r2.length, List.length_map]; exact small1000 (by omega)), ?_⟩
      have ku : KeepT (upd H4 p (.tup ys)) (upd (upd H4 p (.tup ys)) R (.lst (xs ++ [.ref p]))) := KeepT.upd (fun zs z => by rw [e5 _ _ R4] at z; cases z)
      have S4 : SameX t H (upd H4 p (.tup ys)) := s2.trans (S3.trans (s4.trans (SameX.of e5)))
      refine ⟨_, _, _, xs ++ [.ref p], cond ++ [cls], rfl, upd_same, ?_, by simp [l2], ?_, ?_, (T4.mono e5).upd fR.1 fR.2, samex_upd hR _ S4⟩
      · rw [List.map_append]
        exact TpL.snoc (((r3.mono (KeepT.ofX T3 s4)).mono (KeepT.of e5)).mono ku) (.t (ku _ _ upd_same) ((r4.mono (KeepT.of e5)).mono ku))
      · intro a ha
        rcases List.mem_append.mp ha with ha | ha
        · exact k2 a ha
        · rw [List.mem_singleton.mp ha]; exact k4
      · intro a ha
        rcases List.mem_append.mp ha with ha | ha
        · exact m2 a ha
        · rw [List.mem_singleton.mp ha]; omega
    · rintro σ H2 ⟨v3, v4, v5, xs, cond, rfl, R2, r2, l2, k2, m2, T2, s2⟩
      refine ⟨_, rfl, R, xs, rfl, .inl ⟨SqL.of R2, fun p hp => ?_⟩⟩
      exact q (.ref p) cond _ (.t upd_same (r2.mono (KeepT.new hp _))) k2 (by omega) m2 (T2.mono (same_new hp _)) (s2.trans (SameX.of (same_new hp _))))

theorem four_a {d : Int} (d0 : 0 ≤ d) (d1 : d < 4) : ∃ n : Int, atI [V.int 0, V.int 0, V.int 1, V.int 2] d = some (.int n) ∧ 0 ≤ n ∧ n ≤ 2 := by
  obtain ⟨v, h1, h2⟩ := at_in (xs := [V.int 0, V.int 0, V.int 1, V.int 2]) d0 (by simpa using d1)
  simp only [List.mem_cons, List.not_mem_nil, or_false] at h2
  rcases h2 with rfl | rfl | rfl | rfl <;> exact ⟨_, h1, by decide, by decide⟩
theorem ok_law_limits {f : Addr} {fd : FuncData} (k : Kn K mg "_law_limits" s_law_limits ["tape", "schema", "table"] f fd) (z : Z mg)
    {g_law_names : Addr} {gd_law_names : FuncData} (c_law_names : Cal P w K mg base 1 "_law_names" ["columns"] (spNames) g_law_names gd_law_names)
    {g_law_take : Addr} {gd_law_take : FuncData} (c_law_take : Cal P w K mg base 1 "_law_take" ["tape", "many"] (spTake) g_law_take gd_law_take)
    {g_law_condition : Addr} {gd_law_condition : FuncData} (c_law_condition : Cal P w K mg base 6 "_law_condition" ["tape", "columns"] (spCond) g_law_condition gd_law_condition) :
    Cal P w K mg base 7 "_law_limits" ["tape", "schema", "table"] (spLimits) f fd := k.cal (by
  refine k.F.ok sc_law_limits (fun vs H Q E h => ?_) (fun cdv A outer s H vs Q E hr h => ?_)
  · obtain ⟨t, c, S, cs, s, a, tab, rfl, _⟩ := h; rfl
  · obtain ⟨t, c, S, cs, s, a, tab, rfl, T, A, l6, hnk, hm, bare, q⟩ := h
    have hu := hu_of hr
    have htk : ∃ kvs, H t = some (.dK kvs) := by obtain ⟨_, _, _, _, e, _⟩ := T.dk; exact ⟨_, e⟩
    have D := A.ds _ hm
    obtain ⟨a1, a2, a3, a4⟩ := A.tS
    have hk0 : H a.k = some (.lst []) := by obtain ⟨xs, g1, g2⟩ := D.ch; rw [bare.c0] at g2; cases g2; exact g1
    have hu0 : H a.u = some (.lst []) := by have := D.un; rw [bare.u0] at this; exact this
    have hr0 : H a.r = some (.lst []) := by obtain ⟨xs, g1, g2⟩ := D.rf; rw [bare.r0] at g2; cases g2; exact g1
    have l5 := bare.l5
    have l0 := bare.l0
    have ck : a.k ≠ c := a4 _ hm _ (by simp [adL])
    have cu : a.u ≠ c := a4 _ hm _ (by simp [adL])
    have cr : a.r ≠ c := a4 _ hm _ (by simp [adL])
    have kt' : a.k ≠ t := T.notL hk0
    have ut' : a.u ≠ t := T.notL hu0
    have rt' : a.r ≠ t := T.notL hr0
    have lcn : (colNs tab.cols).length = tab.cols.length := by unfold colNs; rw [List.length_map]
    have ndA : (adL a).Nodup := (List.pairwise_flatMap.mp (List.nodup_cons.mp A.ln).2).1 _ hm
    simp only [adL, List.nodup_cons, List.mem_cons, List.not_mem_nil, or_false, not_or] at ndA
    obtain ⟨⟨n1, n2, n3⟩, ⟨n4, n5⟩, n6, _⟩ := ndA
    refine ⟨_, (pss_cons (ps_set (i := 3) sc_law_limits.nd rfl (Or.inl rfl) (pe_dget hu (pe_dget hu (pv 1) (pv 2) (fun _ _ => rfl)) pe_str (fun _ _ => rfl)))
        (pss_cons (ps_set (i := 4) sc_law_limits.nd rfl (Or.inl rfl) (pe_slice sl_list (pe_call c_law_names.G (hr.mono (by decide)) (by rfl) c_law_names.m c_law_names.kp c_law_names.b .nil pass0 (pa_cons (pv 3) pa_nil)) (po_some pe_int) po_none))
        (pss_cons (ps_setLc (i := 6) (own := [("name", 5)]) (g := gName 5) (by rfl) sc_law_limits.nd rfl rfl (sw_true rfl rfl rfl (by decide +kernel)) (pi_list (pe_callB (call_sortedD rfl) (by rfl) z.sorted (by decide +kernel) (pa_cons (pv 1) pa_nil))) (blkOk_by (own := [("name", 5)]) (N := ["tape", "schema", "table", "columns", "names", "name", "others", "k", "column", "other"]) (sc := defScope s_law_limits) (by decide +kernel)) (fun _ _ _ _ _ => pg_name (i := 5) sc_law_limits.nd rfl (Or.inl rfl)) (fun _ _ _ _ _ => (pts_one (pt_cmpR op_ne (pv 5) (pv 2) (nomark _)))) (fun _ _ _ _ _ => (pv 5)))
        (pss_cons (ps_for PassesOwn.never rfl (pi_range1 (by rfl) z.range (pa_cons (pe_ix ix_list (pe_lst (pa_cons pe_int (pa_cons pe_int (pa_cons pe_int (pa_cons pe_int pa_nil))))) (pe_call c_law_take.G (hr.mono (by decide)) (by rfl) c_law_take.m c_law_take.kp c_law_take.b .nil pass0 (pa_cons (pv 0) (pa_cons pe_int pa_nil))) (fun _ _ => rfl)) pa_nil)) (pg_name (i := 7) sc_law_limits.nd rfl (Or.inl rfl))
        (pss_one (ps_expr (pe_bm PySem.F.plainAttrs_list PySem.F.slot_list_append PySem.F.type_list_append mt_append (pe_dget hu (pe_dget hu (pv 1) (pv 2) (fun _ _ => rfl)) pe_str (fun _ _ => rfl)) (pa_cons (pe_call c_law_condition.G (hr.mono (by decide)) (by rfl) c_law_condition.m c_law_condition.kp c_law_condition.b .nil pass0 (pa_cons (pv 0) (pa_cons (pv 3) pa_nil))) pa_nil)))))
        (pss_cons (ps_for PassesOwn.never rfl (pi_list (pv 4)) (pg_name (i := 5) sc_law_limits.nd rfl (Or.inl rfl))
        (pss_one (ps_if (PW.pt (pw_and (pt_cmpR op_eq (pe_call c_law_take.G (hr.mono (by decide)) (by rfl) c_law_take.m c_law_take.kp c_law_take.b .nil pass0 (pa_cons (pv 0) (pa_cons pe_int pa_nil))) pe_int (nomark _)) (pw_and1 (pt_cmpR op_lt (pe_callB call_len_seq (by rfl) z.len (by decide +kernel) (pa_cons (pe_dget hu (pe_dget hu (pv 1) (pv 2) (fun _ _ => rfl)) pe_str (fun _ _ => rfl)) pa_nil)) pe_int (nomark _))))) (pss_one (ps_expr (pe_bm PySem.F.plainAttrs_list PySem.F.slot_list_append PySem.F.type_list_append mt_append (pe_dget hu (pe_dget hu (pv 1) (pv 2) (fun _ _ => rfl)) pe_str (fun _ _ => rfl)) (pa_cons (pv 5) pa_nil)))) pss_nil)))
        (pss_one (ps_for PassesOwn.never rfl (pi_list (pe_slice sl_list (pv 3) (po_some pe_int) po_none)) (pg_name (i := 8) sc_law_limits.nd rfl (Or.inl rfl))
        (pss_one (ps_if (PW.pt (pw_and (pt_cmpR (op_neD hr.units) (pv 6) (pe_lst pa_nil) (nomark _)) (pw_and (pt_cmpR op_eq (pe_call c_law_take.G (hr.mono (by decide)) (by rfl) c_law_take.m c_law_take.kp c_law_take.b .nil pass0 (pa_cons (pv 0) (pa_cons pe_int pa_nil))) pe_int (nomark _)) (pw_and1 (pt_cmpR op_lt (pe_callB call_len_seq (by rfl) z.len (by decide +kernel) (pa_cons (pe_dget hu (pe_dget hu (pv 1) (pv 2) (fun _ _ => rfl)) pe_str (fun _ _ => rfl)) pa_nil)) pe_int (nomark _)))))) (pss_cons (ps_set (i := 9) sc_law_limits.nd rfl (Or.inl rfl) (pe_ix ix_list (pv 6) (pe_call c_law_take.G (hr.mono (by decide)) (by rfl) c_law_take.m c_law_take.kp c_law_take.b .nil pass0 (pa_cons (pv 0) (pa_cons (pe_callB call_len_seq (by rfl) z.len (by decide +kernel) (pa_cons (pv 6) pa_nil)) pa_nil))) (fun _ _ => rfl)))
        (pss_one (ps_if (pt_cmpR op_eq (pe_ix ix_tup (pe_ix ix_list (pe_dget hu (pe_dget hu (pv 1) (pv 9) (fun _ _ => rfl)) pe_str (fun _ _ => rfl)) pe_int (fun _ _ => rfl)) pe_int (fun _ _ => rfl)) (pe_ix ix_tup (pv 8) pe_int (fun _ _ => rfl)) (nomark _)) (pss_one (ps_expr (pe_bm PySem.F.plainAttrs_list PySem.F.slot_list_append PySem.F.type_list_append mt_append (pe_dget hu (pe_dget hu (pv 1) (pv 2) (fun _ _ => rfl)) pe_str (fun _ _ => rfl)) (pa_cons (pe_tup (pa_cons (pe_ix ix_tup (pv 8) pe_int (fun _ _ => rfl)) (pa_cons (pv 9) pa_nil))) pa_nil)))) pss_nil))) pss_nil))))))))), ?_⟩
    refine ⟨_, rfl, _, rfl, S, _, rfl, A.desc hm, a.d, _, rfl, D.gc, ?_⟩
    refine ⟨_, rfl, a.c, tab.cols, rfl, D.co, by omega, fun N H1 hN0 s1 hN => ⟨_, rfl, N, _, rfl, SqL.of hN, fun NL hNL => ?_⟩⟩
    rw [cut_tail, ← List.map_drop]
    have e2 := same_new hNL (.lst (((colNs tab.cols).drop 1).map V.str))
    have S2 : Same H (upd H1 NL (.lst (((colNs tab.cols).drop 1).map V.str))) := s1.trans e2
    refine ⟨_, rfl, S, schK s, schN s, rfl, .inl (S2 _ _ A.sk), sch_keys s, (by unfold schN; rw [List.length_map]; omega), fun ys P hper _ hP => ?_⟩
    have e3 := same_new hP (.lst (ys.map V.str))
    have ly : ys.length ≤ 6 := by rw [hper.length_eq]; unfold schN; rw [List.length_map]; exact l6
    refine ⟨P, rfl, ⟨_, SqL.of upd_same⟩, fun OL hOL => inner walk_list (fun i H' => ∃ os : List Str, H' OL = some (.lst (os.map V.str)) ∧ (∀ o ∈ os, o ∈ schN s ∧ o ≠ tab.n) ∧ os.length ≤ i ∧ Same (upd (upd H1 NL (.lst (((colNs tab.cols).drop 1).map V.str))) P (.lst (ys.map V.str))) H') ⟨[], upd_same, (by intro o ho; cases ho), Nat.le_refl _, same_new hOL _⟩ (fun i H' _ ⟨_, _, _, _, s⟩ => SqL.of (s _ _ upd_same)) ?_ ?_⟩
    · rintro i x H4 H4' hi ⟨os, h1, h2, h3, h4⟩ ⟨rfl, ex⟩
      obtain ⟨z, hz, rfl⟩ : ∃ z, z ∈ ys ∧ x = V.str z := by
        obtain ⟨z, h1, h2⟩ := List.mem_map.mp (List.mem_of_getElem? ex)
        exact ⟨z, h1, h2.symm⟩
      refine ⟨rfl, _, rfl, _, rfl, rfl, _, rfl, ?_⟩
      refine ifN (fun hne => ?_) (fun _ => ⟨os, h1, h2, by omega, h4⟩)
      rw [List.length_map] at hi
      refine ⟨_, rfl, _, h1, (by rw [List.length_map]; exact small1000 (by omega)), os ++ [z], by rw [upd_same, List.map_append]; rfl, ?_, by rw [List.length_append, List.length_singleton]; omega, same_upd hOL _ h4⟩
      intro o ho
      rcases List.mem_append.mp ho with ho | ho
      · exact h2 o ho
      · rw [List.mem_singleton.mp ho]
        exact ⟨hper.mem_iff.mp hz, fun e => hne (congrArg V.str e)⟩
    rintro H4 ⟨os, ol, ho, lo, s4⟩
    have lo6 : os.length ≤ 6 := by rw [List.length_map] at lo; omega
    have S4 : Same H H4 := S2.trans (e3.trans s4)
    have hNL4 : H4 NL = some (.lst (((colNs tab.cols).drop 1).map V.str)) := s4 _ _ (e3 _ _ upd_same)
    have L4 : Lim H H4 t c cs a OL os [] [] [] := ⟨T.mono S4, KeepT.of S4, SameE.of S4, ol, ⟨[], S4 _ _ hk0, .nil⟩, S4 _ _ hu0, ⟨[], S4 _ _ hr0, .nil⟩⟩
    have fresh : ∀ {b : Addr}, H b = none → b ≠ a.k ∧ b ≠ a.u ∧ b ≠ a.r ∧ b ≠ t := fun h => ⟨(ne_of_none hk0 h).symm, (ne_of_none hu0 h).symm, (ne_of_none hr0 h).symm, by obtain ⟨_, e⟩ := htk; exact (ne_of_none e h).symm⟩
    have fNL : H NL = none := s1.free hNL
    have fOL : H OL = none := (S2.trans e3).free hOL
    obtain ⟨x1, x2, x3, x4⟩ := fresh fNL
    obtain ⟨y1, y2, y3, y4⟩ := fresh fOL
    -- the checks
    refine ⟨(by show 4 ≤ sizeLine; decide), fun M hM => ?_⟩
    have e5 := same_new hM (.lst [.int 0, .int 0, .int 1, .int 2])
    refine ⟨_, rfl, t, c, cs, 4, rfl, L4.T.mono e5, by decide, by decide +kernel, fun d H6 d0 d1 T6 s6 => ?_⟩
    obtain ⟨n, hn, m0, m2⟩ := four_a d0 d1
    have L6 := (L4.step e5).stepX T6 s6
    have hNL6 := s6 _ _ (e5 _ _ hNL4) x4
    refine ⟨M, _, d, _, rfl, rfl, SqL.of (s6 _ _ upd_same (L4.T.fresh hM).1), hn, n, rfl, by omega, by omega, for_range (lo := 0) (n := n.toNat) (fun i σ H' => ∃ v5 v7, ∃ conds : List Cond, σ = [some (.ref t), some (.ref S), some (.str tab.n), some (.ref a.c), some (.ref NL), v5, some (.ref OL), v7, none, none] ∧ Lim H H' t c cs a OL os conds [] [] ∧ conds.length = i ∧ (∀ cd ∈ conds, cd.length ≤ 4 ∧ ∀ x ∈ cd, x.length ≤ 4 ∧ ∀ cl ∈ x, ClOk tab.cols cl) ∧ H' NL = some (.lst (((colNs tab.cols).drop 1).map V.str))) ⟨_, _, [], rfl, L6, rfl, (by intro x hx; cases hx), hNL6⟩ ?_ ?_⟩
    · rintro i σ H7 hi ⟨v5, v7, conds, rfl, L7, l7, k7, N7⟩
      obtain ⟨g1, g2, g3, g4, g5, g6, _⟩ := L7.see A hm htk
      obtain ⟨xs, c1, c2⟩ := L7.ch
      refine ⟨_, rfl, _, rfl, S, _, rfl, g1, a.d, _, rfl, g3, .inl ⟨rfl, _, SqL.of c1⟩, ?_⟩
      refine ⟨_, rfl, _, rfl, t, c, a.c, cs, tab.cols, rfl, L7.T, g6, by omega, by omega, fun v cond H8 hv kc lc mc T8 s8 => ?_⟩
      have L8 := L7.stepX T8 s8
      have c8 := s8 _ _ c1 kt'
      have r8 := c2.mono (KeepT.ofX L7.T s8)
      refine ⟨a.k, xs, v, rfl, rfl, c8, (by rw [c2.length, List.length_map]; exact small1000 (by omega)), ?_⟩
      have ku : KeepT H8 (upd H8 a.k (.lst (xs ++ [v]))) := KeepT.upd (fun zs z => by rw [c8] at z; cases z)
      obtain ⟨ys', r1, r2⟩ := L8.rf
      refine ⟨_, _, conds ++ [cond], rfl, ⟨T8.upd kt' ck.symm, L8.kt.trans ku, SameE.upd (by simp) _ L8.se, by rw [upd_ne y1]; exact L8.ol, ⟨xs ++ [v], upd_same, ?_⟩, by rw [upd_ne (Ne.symm n4)]; exact L8.un, ⟨ys', by rw [upd_ne (Ne.symm n5)]; exact r1, r2.mono ku⟩⟩, by rw [List.length_append, List.length_singleton, l7], ?_, by rw [upd_ne x1]; exact s8 _ _ N7 x4⟩
      · rw [List.map_append]
        exact TpL.snoc (r8.mono ku) (hv.mono ku)
      · intro x hx
        rcases List.mem_append.mp hx with hx | hx
        · exact k7 x hx
        · rw [List.mem_singleton.mp hx]
          exact ⟨lc, fun y hy => ⟨mc y hy, kc y hy⟩⟩
    rintro σ H7 ⟨v5, v7, conds, rfl, L7, l7, k7, N7⟩
    -- the uniques
    refine ⟨_, rfl, NL, rfl, ⟨_, SqL.of N7⟩, for_it walk_list (fun j σ H' => ∃ v5, ∃ un : List Str, σ = [some (.ref t), some (.ref S), some (.str tab.n), some (.ref a.c), some (.ref NL), v5, some (.ref OL), v7, none, none] ∧ Lim H H' t c cs a OL os conds un [] ∧ un.length ≤ 4 ∧ un.Nodup ∧ (∀ x ∈ un, x ∈ ((colNs tab.cols).drop 1).take j) ∧ H' NL = some (.lst (((colNs tab.cols).drop 1).map V.str))) ⟨v5, [], rfl, L7, by decide, List.nodup_nil, (by intro x hx; cases hx), N7⟩ (fun j σ H' _ ⟨_, _, _, _, _, _, _, e⟩ => SqL.of e) ?_ ?_⟩
    · rintro j x σ H8 H8' hj ⟨v5, un, rfl, L8, l8, nd8, k8, N8⟩ ⟨rfl, ex⟩
      rw [List.length_map] at hj
      obtain ⟨z, hz, rfl⟩ : ∃ z, ((colNs tab.cols).drop 1)[j]? = some z ∧ x = V.str z := by
        rw [List.getElem?_map] at ex
        cases e : ((colNs tab.cols).drop 1)[j]? with
        | none => rw [e] at ex; cases ex
        | some z => rw [e] at ex; exact ⟨z, rfl, (Option.some.inj ex).symm⟩
      have mono : ∀ y ∈ un, y ∈ ((colNs tab.cols).drop 1).take (j + 1) := fun y hy => by rw [List.take_add_one]; exact List.mem_append.mpr (.inl (k8 y hy))
      refine ⟨_, rfl, t, c, cs, 4, rfl, L8.T, by decide, by decide +kernel, fun d H9 d0 d1 T9 s9 => ⟨rfl, _, rfl, ?_⟩⟩
      have L9 := L8.stepX T9 s9
      have N9 := s9 _ _ N8 x4
      refine ifD (fun _ => ?_) (fun _ => ⟨_, un, rfl, L9, l8, nd8, mono, N9⟩)
      obtain ⟨g1, g2, g3, g4, g5, g6, _⟩ := L9.see A hm htk
      refine ⟨_, rfl, _, rfl, S, _, rfl, g1, a.d, _, rfl, g4, a.u, _, rfl, .inl (SqL.of L9.un), _, _, rfl, rfl, _, rfl, ?_⟩
      refine ifD (fun h4 => ?_) (fun _ => ⟨_, un, rfl, L9, l8, nd8, mono, N9⟩)
      rw [List.length_map] at h4
      refine ⟨_, rfl, _, rfl, S, _, rfl, g1, a.d, _, rfl, g4, .inl ⟨rfl, _, SqL.of L9.un⟩, _, rfl, a.u, _, _, rfl, rfl, L9.un, (by rw [List.length_map]; exact small1000 (by omega)), ?_⟩
      have ku : KeepT H9 (upd H9 a.u (.lst (un.map V.str ++ [.str z]))) := KeepT.upd (fun zs q => by rw [L9.un] at q; cases q)
      obtain ⟨xs', r1, r2⟩ := L9.ch
      obtain ⟨ys', r3, r4⟩ := L9.rf
      refine ⟨_, un ++ [z], rfl, ⟨T9.upd ut' cu.symm, L9.kt.trans ku, SameE.upd (by simp) _ L9.se, by rw [upd_ne y2]; exact L9.ol, ⟨xs', by rw [upd_ne n4]; exact r1, r2.mono ku⟩, by rw [upd_same, List.map_append]; rfl, ⟨ys', by rw [upd_ne (Ne.symm n6)]; exact r3, r4.mono ku⟩⟩, by rw [List.length_append, List.length_singleton]; omega, ?_, ?_, by rw [upd_ne x2]; exact N9⟩
      · refine List.nodup_append.mpr ⟨nd8, by simp, fun y hy w hw => ?_⟩
        have : w = z := by simpa using hw
        subst this
        rintro rfl
        obtain ⟨i0, hi0, ei⟩ := List.getElem_of_mem (k8 _ hy)
        rw [List.length_take] at hi0
        rw [List.getElem_take] at ei
        have ndn : ((colNs tab.cols).drop 1).Nodup := bare.co.nd.sublist (List.drop_sublist _ _)
        have b1 : ((colNs tab.cols).drop 1)[i0]? = some y := by rw [List.getElem?_eq_getElem (by omega), ei]
        have := nd_ix ndn b1 hz
        omega
      · intro y hy
        rcases List.mem_append.mp hy with hy | hy
        · exact mono y hy
        · rw [List.mem_singleton.mp hy, List.take_add_one, hz]
          exact List.mem_append.mpr (.inr (by simp))
    rintro σ H8 ⟨v5, un, rfl, L8, l8, nd8, k8, N8⟩
    have hun : ∀ x ∈ un, x ∈ colNs (tab.cols.drop 1) := fun x hx => by
      have := List.mem_of_mem_take (k8 x hx)
      unfold colNs at this ⊢
      rw [List.map_drop]
      exact this
    -- the references
    obtain ⟨g1, g2, g3, g4, g5, ⟨xc, g6, g7⟩, _⟩ := L8.see A hm htk
    have lx : xc.length = tab.cols.length := by rw [g7.length, List.length_map]
    refine ⟨_, rfl, _, rfl, a.c, xc, rfl, SqL.of g6, fun CL hCL => ?_⟩
    rw [cut_tail]
    have e9 := same_new hCL (.lst (xc.drop 1))
    have fCL : H CL = none := by
      cases e : H CL with
      | none => rfl
      | some o =>
        exfalso
        by_cases hin : CL ∈ [t, a.k, a.u, a.r]
        · simp only [List.mem_cons, List.not_mem_nil, or_false] at hin
          obtain ⟨xs', r1, _⟩ := L8.ch
          obtain ⟨ys', r3, _⟩ := L8.rf
          rcases hin with z | z | z | z
          · obtain ⟨_, _, _, _, e', _⟩ := L8.T.dk; rw [z, e'] at hCL; cases hCL
          · rw [z, r1] at hCL; cases hCL
          · rw [z, L8.un] at hCL; cases hCL
          · rw [z, r3] at hCL; cases hCL
        · have := L8.se _ _ e hin; rw [hCL] at this; cases this
    obtain ⟨w1, w2, w3, w4⟩ := fresh fCL
    refine ⟨CL, rfl, ⟨_, SqL.of upd_same⟩, for_it walk_list (fun j σ H' => ∃ v8 v9, ∃ rf : List (Str × Str), σ = [some (.ref t), some (.ref S), some (.str tab.n), some (.ref a.c), some (.ref NL), v5, some (.ref OL), v7, v8, v9] ∧ Lim H H' t c cs a OL os conds un rf ∧ rf.length ≤ 4 ∧ (rf.map (·.1)).Nodup ∧ (∀ p ∈ rf, p.1 ∈ ((colNs tab.cols).drop 1).take j) ∧ (∀ p ∈ rf, ∃ col ∈ tab.cols.drop 1, col.n = p.1 ∧ p.2 ≠ tab.n ∧ ∃ f ∈ frOf s, f.1 = p.2 ∧ ∃ kc, f.2[0]? = some kc ∧ kc.k = col.k) ∧ H' CL = some (.lst (xc.drop 1))) ⟨_, _, [], rfl, L8.step e9, by decide, List.nodup_nil, (by intro x hx; cases hx), (by intro x hx; cases hx), upd_same⟩ (fun j σ H' _ ⟨_, _, _, _, _, _, _, _, _, e⟩ => SqL.of e) ?_ ?_⟩
    · rintro j x σ H9 H9' hj ⟨v8, v9, rf, rfl, L9, l9, nd9, k9, rc9, C9⟩ ⟨rfl, ex⟩
      have ex1 : xc[j + 1]? = some x := by rw [List.getElem?_drop] at ex; rw [show j + 1 = 1 + j by omega]; exact ex
      have hjl : j + 1 < tab.cols.length := by rw [← lx]; exact (List.getElem?_eq_some_iff.mp ex1).1
      have ecol : tab.cols[j + 1]? = some tab.cols[j + 1] := List.getElem?_eq_getElem hjl
      obtain ⟨xs', ca, u1, u2, u3⟩ := (D.co).get ecol
      have hxc : xs' = xc := by
        have := L8.se _ _ u1 (by
          simp only [List.mem_cons, List.not_mem_nil, or_false, not_or]
          exact ⟨T.notL u1, n1, n2, n3⟩)
        rw [g6] at this
        cases this
        rfl
      rw [hxc, ex1] at u2
      cases u2
      have hca : ∀ {H' : Hp} {rf' : List (Str × Str)}, Lim H H' t c cs a OL os conds un rf' → H' ca = some (.tup [.str tab.cols[j + 1].n, .str tab.cols[j + 1].k, .bl tab.cols[j + 1].b]) := fun L => L.kt _ _ u3
      have mono : ∀ p ∈ rf, p.1 ∈ ((colNs tab.cols).drop 1).take (j + 1) := fun p hp => by rw [List.take_add_one]; exact List.mem_append.mpr (.inl (k9 p hp))
      have skip : ∀ (H' : Hp) (v9 : Option V), Lim H H' t c cs a OL os conds un rf → H' CL = some (.lst (xc.drop 1)) → ∃ v8 v9', ∃ rf' : List (Str × Str), [some (V.ref t), some (V.ref S), some (V.str tab.n), some (V.ref a.c), some (V.ref NL), v5, some (V.ref OL), v7, some (V.ref ca), v9] = [some (V.ref t), some (V.ref S), some (V.str tab.n), some (V.ref a.c), some (V.ref NL), v5, some (V.ref OL), v7, v8, v9'] ∧ Lim H H' t c cs a OL os conds un rf' ∧ rf'.length ≤ 4 ∧ (rf'.map (·.1)).Nodup ∧ (∀ p ∈ rf', p.1 ∈ ((colNs tab.cols).drop 1).take (j + 1)) ∧ (∀ p ∈ rf', ∃ col ∈ tab.cols.drop 1, col.n = p.1 ∧ p.2 ≠ tab.n ∧ ∃ f ∈ frOf s, f.1 = p.2 ∧ ∃ kc, f.2[0]? = some kc ∧ kc.k = col.k) ∧ H' CL = some (.lst (xc.drop 1)) :=
        fun H' v9 L h => ⟨_, _, rf, rfl, L, l9, nd9, mono, rc9, h⟩
      refine ⟨_, rfl, (by show 0 ≤ sizeLine; decide), fun pe hpe => ?_⟩
      have e10 := same_new hpe (.lst [])
      have L10 := L9.step e10
      have C10 := e10 _ _ C9
      have sok : ∀ x ∈ os, PySem.PyData.strOk x = true := fun x hx => by
        obtain ⟨p, hp, e⟩ := sch_in (ho x hx).1
        rw [← e]
        exact (hnk p hp).1.str
      refine ⟨.list (os.map PyData.str), .list [], .lst (SqL.of L10.ol) (strs_dp _), .lst (SqL.of upd_same) .nil, strs_shaped sok, rfl, _, rfl, ?_⟩
      rw [strs_eqv]
      refine ite2 (fun hne => ?_) (fun _ => skip _ _ L10 C10)
      have hpos : 0 < os.length := by
        cases os with
        | nil => cases hne
        | cons y r => exact Nat.succ_pos _
      refine ⟨_, rfl, t, c, cs, 3, rfl, L10.T, by decide, by decide +kernel, fun d H11 d0 d1 T11 s11 => ⟨rfl, _, rfl, ?_⟩⟩
      have L11 := L10.stepX T11 s11
      have C11 := s11 _ _ C10 w4
      refine ifD (fun _ => ?_) (fun _ => skip _ _ L11 C11)
      obtain ⟨g1, g2, g3, g4, g5, g6', _⟩ := L11.see A hm htk
      obtain ⟨ys', r3, r4⟩ := L11.rf
      have lr : ys'.length = rf.length := by rw [r4.length, List.length_map]
      refine ⟨_, rfl, _, rfl, S, _, rfl, g1, a.d, _, rfl, g5, a.r, _, rfl, .inl (SqL.of r3), _, _, rfl, rfl, _, rfl, ?_⟩
      refine ifD (fun h4 => ?_) (fun _ => skip _ _ L11 C11)
      refine ⟨_, rfl, _, rfl, _, rfl, OL, _, rfl, .inl (SqL.of L11.ol), t, c, cs, ((os.map V.str).length : Int), rfl, L11.T, by rw [List.length_map]; omega, ?_, fun g H12 gg0 gg1 T12 s12 => ?_⟩
      · have b9 : (2 : Nat) ^ 9000 = 2 ^ 7 * 2 ^ 8993 := by rw [← Nat.pow_add]
        have b8 : 0 < (2 : Nat) ^ 8993 := Nat.pow_pos (by decide)
        rw [b9]
        have : (((os.map V.str).length : Int)).natAbs = os.length := by rw [List.length_map]; omega
        omega
      have L12 := L11.stepX T12 s12
      have C12 := s12 _ _ C11 w4
      rw [List.length_map] at gg1
      have hgl : g.toNat < os.length := by omega
      have eo : os[g.toNat]? = some os[g.toNat] := List.getElem?_eq_getElem hgl
      have hmo := List.getElem_mem hgl
      generalize os[g.toNat] = oth at eo hmo
      obtain ⟨hin, hneq⟩ := ho _ hmo
      obtain ⟨p, hp, ep⟩ := sch_in hin
      subst ep
      refine ⟨OL, _, g, _, rfl, rfl, SqL.of L12.ol, at_of (j := g.toNat) (by omega) (by rw [List.getElem?_map, eo]; rfl), ?_⟩
      obtain ⟨g1, g2, g3, g4, g5, g6', gq⟩ := L12.see A hm htk
      obtain ⟨q1, q2, q3⟩ := gq p hp
      have hp0 : p.2.cols[0]? = some (p.2.cols[0]'((hnk p hp).2)) := List.getElem?_eq_getElem _
      obtain ⟨xq, qa, z1, z2, z3⟩ := q3.get hp0
      generalize p.2.cols[0]'((hnk p hp).2) = kc at hp0 z3
      refine ⟨_, rfl, _, rfl, S, _, rfl, q1, p.1.d, _, rfl, q2, p.1.c, _, 0, _, rfl, rfl, SqL.of z1, atI_nat (j := 0) z2, qa, _, 1, _, rfl, rfl, SqT.of z3, atI_nat (j := 1) rfl, _, rfl, ca, _, 1, _, rfl, rfl, SqT.of (hca L12), atI_nat (j := 1) rfl, rfl, _, rfl, ?_⟩
      refine ifD (fun hkk => ?_) (fun _ => skip _ _ L12 C12)
      obtain ⟨ys2, r5, r6⟩ := L12.rf
      refine ⟨_, rfl, _, rfl, S, _, rfl, g1, a.d, _, rfl, g5, .inl ⟨rfl, _, SqL.of r5⟩, ?_⟩
      refine ⟨_, rfl, ca, _, 0, _, rfl, rfl, SqT.of (hca L12), atI_nat (j := 0) rfl, _, rfl, (by show 2 ≤ sizeLine; decide), fun pt hpt => ?_⟩
      have e13 := same_new hpt (.tup [.str tab.cols[j + 1].n, .str p.2.n])
      have L13 := L12.step e13
      have r7 := e13 _ _ r5
      refine ⟨a.r, ys2, _, rfl, rfl, r7, (by rw [r6.length, List.length_map]; exact small1000 (by omega)), ?_⟩
      have ku : KeepT (upd H12 pt (.tup [.str tab.cols[j + 1].n, .str p.2.n])) (upd (upd H12 pt (.tup [.str tab.cols[j + 1].n, .str p.2.n])) a.r (.lst (ys2 ++ [.ref pt]))) := KeepT.upd (fun zs q => by rw [r7] at q; cases q)
      obtain ⟨xs3, v1, v2⟩ := L13.ch
      have enm : ((colNs tab.cols).drop 1)[j]? = some tab.cols[j + 1].n := by
        rw [List.getElem?_drop, show 1 + j = j + 1 by omega]
        unfold colNs
        rw [List.getElem?_map, ecol]
        rfl
      refine ⟨_, _, rf ++ [(tab.cols[j + 1].n, p.2.n)], rfl, ⟨L13.T.upd rt' cr.symm, L13.kt.trans ku, SameE.upd (by simp) _ L13.se, by rw [upd_ne y3]; exact L13.ol, ⟨xs3, by rw [upd_ne n5]; exact v1, v2.mono ku⟩, by rw [upd_ne n6]; exact L13.un, ⟨ys2 ++ [.ref pt], upd_same, ?_⟩⟩, by rw [List.length_append, List.length_singleton]; omega, ?_, ?_, ?_, by rw [upd_ne w3]; exact e13 _ _ C12⟩
      · rw [List.map_append]
        exact TpL.snoc ((r6.mono (KeepT.of e13)).mono ku) (rf_mk (ku _ _ upd_same))
      · rw [List.map_append]
        refine List.nodup_append.mpr ⟨nd9, by simp, fun y hy w hw => ?_⟩
        have : w = tab.cols[j + 1].n := by simpa using hw
        subst this
        rintro rfl
        obtain ⟨pp, hpp, epp⟩ := List.mem_map.mp hy
        have hkk9 := k9 pp hpp
        rw [epp] at hkk9
        obtain ⟨i0, hi0, ei⟩ := List.getElem_of_mem hkk9
        rw [List.length_take] at hi0
        rw [List.getElem_take] at ei
        have ndn : ((colNs tab.cols).drop 1).Nodup := bare.co.nd.sublist (List.drop_sublist _ _)
        have b1 : ((colNs tab.cols).drop 1)[i0]? = some tab.cols[j + 1].n := by rw [List.getElem?_eq_getElem (by omega), ei]
        have := nd_ix ndn b1 enm
        omega
      · intro y hy
        rcases List.mem_append.mp hy with hy | hy
        · exact mono y hy
        · rw [List.mem_singleton.mp hy, List.take_add_one, enm]
          exact List.mem_append.mpr (.inr (by simp))
      · intro y hy
        rcases List.mem_append.mp hy with hy | hy
        · exact rc9 y hy
        · rw [List.mem_singleton.mp hy]
          refine ⟨tab.cols[j + 1], ?_, rfl, hneq, (p.2.n, p.2.cols), List.mem_map.mpr ⟨p, hp, rfl⟩, rfl, kc, hp0, V.str.inj hkk⟩
          refine List.mem_of_getElem? (i := j) ?_
          rw [List.getElem?_drop, show 1 + j = j + 1 by omega]
          exact ecol
    · rintro σ H9 ⟨v8, v9, rf, rfl, L9, l9, nd9, k9, rc9, C9⟩
      obtain ⟨g1, g2, g3, g4, g5, g6', _⟩ := L9.see A hm htk
      obtain ⟨xs3, v1, v2⟩ := L9.ch
      obtain ⟨ys3, v3, v4⟩ := L9.rf
      have hd9 : H9 a.d = some (.dK (descD a)) := L9.se _ _ D.dk (by
        simp only [List.mem_cons, List.not_mem_nil, or_false, not_or]
        exact ⟨a2 _ hm, ne_of D.dk hk0 (by intro z; cases z), ne_of D.dk hu0 (by intro z; cases z), ne_of D.dk hr0 (by intro z; cases z)⟩)
      exact q ⟨tab.n, tab.cols, conds, un, rf⟩ H9 rfl rfl ⟨bare.nm, bare.co, bare.l0, bare.l5, by show conds.length ≤ 2; omega, k7, l8, nd8, hun, l9, nd9, rc9⟩ ⟨hd9, g6', ⟨xs3, v1, v2⟩, L9.un, ⟨ys3, v3, v4⟩⟩ L9.T L9.kt L9.se)

theorem small_nat {x : Int} (h : 0 ≤ x) (h2 : x ≤ 1000) : x.natAbs < 2 ^ 9000 := by
  have h1 : x.natAbs ≤ 1000 := by omega
  exact Nat.lt_of_le_of_lt h1 (by decide +kernel)
theorem ok_law_schema {f : Addr} {fd : FuncData} (k : Kn K mg "_law_schema" s_law_schema ["tape", "least", "most"] f fd) (z : Z mg)
    {g_law_take : Addr} {gd_law_take : FuncData} (c_law_take : Cal P w K mg base 1 "_law_take" ["tape", "many"] (spTake) g_law_take gd_law_take)
    {g_law_name : Addr} {gd_law_name : FuncData} (c_law_name : Cal P w K mg base 2 "_law_name" ["tape", "used"] (spName) g_law_name gd_law_name)
    {g_law_table : Addr} {gd_law_table : FuncData} (c_law_table : Cal P w K mg base 1 "_law_table" ["columns"] (spTable) g_law_table gd_law_table)
    {g_law_columns : Addr} {gd_law_columns : FuncData} (c_law_columns : Cal P w K mg base 3 "_law_columns" ["tape", "used", "many"] (spColumns) g_law_columns gd_law_columns)
    {g_law_limits : Addr} {gd_law_limits : FuncData} (c_law_limits : Cal P w K mg base 7 "_law_limits" ["tape", "schema", "table"] (spLimits) g_law_limits gd_law_limits) :
    Cal P w K mg base 8 "_law_schema" ["tape", "least", "most"] (spSchema) f fd := k.cal (by
  refine k.F.ok sc_law_schema (fun vs H Q E h => ?_) (fun cdv A outer s H vs Q E hr h => ?_)
  · obtain ⟨t, c, cs, least, most, rfl, _⟩ := h; rfl
  · obtain ⟨t, c, cs, least, most, rfl, T, b0, b1, b6, q⟩ := h
    have hu := hu_of hr
    refine ⟨_, (pss_cons (ps_set (i := 3) sc_law_schema.nd rfl (Or.inl rfl) (pe_lst pa_nil))
        (pss_cons (ps_set (i := 4) sc_law_schema.nd rfl (Or.inl rfl) pe_dnewK)
        (pss_cons (ps_for PassesOwn.never rfl (pi_range1 (by rfl) z.range (pa_cons (pe_op op_add (pv 1) (pe_call c_law_take.G (hr.mono (by decide)) (by rfl) c_law_take.m c_law_take.kp c_law_take.b .nil pass0 (pa_cons (pv 0) (pa_cons (pe_op op_add (pe_op op_sub (pv 2) (pv 1)) pe_int) pa_nil)))) pa_nil)) (pg_name (i := 5) sc_law_schema.nd rfl (Or.inl rfl))
        (pss_one (ps_dput hu (pv 4) (pe_call c_law_name.G (hr.mono (by decide)) (by rfl) c_law_name.m c_law_name.kp c_law_name.b .nil pass0 (pa_cons (pv 0) (pa_cons (pv 3) pa_nil))) (pe_call c_law_table.G (hr.mono (by decide)) (by rfl) c_law_table.m c_law_table.kp c_law_table.b .nil pass0 (pa_cons (pe_call c_law_columns.G (hr.mono (by decide)) (by rfl) c_law_columns.m c_law_columns.kp c_law_columns.b .nil pass0 (pa_cons (pv 0) (pa_cons (pe_lst pa_nil) (pa_cons (pe_call c_law_take.G (hr.mono (by decide)) (by rfl) c_law_take.m c_law_take.kp c_law_take.b .nil pass0 (pa_cons (pv 0) (pa_cons pe_int pa_nil))) pa_nil)))) pa_nil)) rfl)))
        (pss_cons (ps_for PassesOwn.never rfl (pi_list (pe_callB (call_sortedD rfl) (by rfl) z.sorted (by decide +kernel) (pa_cons (pv 4) pa_nil))) (pg_name (i := 6) sc_law_schema.nd rfl (Or.inl rfl))
        (pss_one (ps_expr (pe_call c_law_limits.G (hr.mono (by decide)) (by rfl) c_law_limits.m c_law_limits.kp c_law_limits.b .nil pass0 (pa_cons (pv 0) (pa_cons (pv 4) (pa_cons (pv 6) pa_nil)))))))
        (pss_one (ps_ret (pv 4))))))), ?_⟩
    refine ⟨(by show 0 ≤ sizeLine; decide), fun U hU => ?_⟩
    refine fun S hS => ?_
    have m1 := same_new hU (.lst [])
    have m2 := same_new hS (.dK [])
    have M := m1.trans m2
    have fS : H S = none := m1.free hS
    have US : U ≠ S := ne_of_none upd_same hS
    have hUt := T.fresh hU
    have hSt := T.fresh fS
    refine ⟨_, rfl, _, rfl, _, rfl, _, rfl, _, _, rfl, rfl, _, _, rfl, rfl, t, c, cs, most - least + 1, rfl, T.mono M, by omega, small_nat (by omega) (by omega), fun d H1 d0 d1 T1 s1 => ?_⟩
    have hU1 : H1 U = some (.lst []) := s1 _ _ (m2 _ _ upd_same) hUt.1
    have hS1 : H1 S = some (.dK []) := s1 _ _ upd_same hSt.1
    refine ⟨_, _, rfl, rfl, _, rfl, by omega, by omega, for_range (lo := 0) (n := (least + d).toNat) (fun i σ H' => ∃ v, ∃ s : Sch, σ = [some (.ref t), some (.int least), some (.int most), some (.ref U), some (.ref S), v, none] ∧ SchAt H' S s t c ∧ TapeAt H' t c cs ∧ H' U = some (.lst ((schN s).map V.str)) ∧ U ∉ schL s ∧ (∀ p ∈ s, TabBare p.2) ∧ s.length = i ∧ SameX t H H' ∧ (∀ b ∈ schL s, H b = none)) ⟨none, [], rfl, ⟨hS1, (by intro p hp; cases hp), List.nodup_nil, ?_, ?_⟩, T1, hU1, (by intro z; cases z), (by intro p hp; cases hp), rfl, (SameX.of M).trans s1, (by intro p hp; cases hp)⟩ ?_ ?_⟩
    · show [t, S].Nodup
      simp only [List.nodup_cons, List.mem_cons, List.not_mem_nil, or_false, not_false_eq_true, List.nodup_nil, and_true]
      exact hSt.1.symm
    · show [c].Nodup
      simp
    · rintro i σ H2 hi ⟨v, s, rfl, A, T2, hU2, nU, bare, ls, S2, new⟩
      have ln : (schN s).length = i := by unfold schN; rw [List.length_map]; exact ls
      refine ⟨_, rfl, (by show 0 ≤ sizeLine; decide), fun E hE => ?_⟩
      have e3 := same_new hE (.lst [])
      refine ⟨_, rfl, t, c, cs, 5, rfl, T2.mono e3, by decide, by decide +kernel, fun d H3 d0 d1 T3 s3 => ?_⟩
      have fE := T2.fresh hE
      refine ⟨t, c, E, cs, [], d, rfl, T3, s3 _ _ upd_same fE.1, fE.2.symm, d0, by omega, (by show ((0 : Nat) : Int) + d ≤ 25; omega), fun L cols xs H4 _ hL rL lc okc T4 _ s4 => ?_⟩
      refine ⟨L, cols, rfl, ⟨xs, hL, rL⟩, fun a H5 D5 s5 fd fl ndA => ?_⟩
      have X24 : ∀ b o, H2 b = some o → b ≠ t → H4 b = some o := fun b o hb ht => s4 _ _ (s3 _ _ (e3 _ _ hb) ht) ht (ne_of_none hb hE)
      have X25 : SameX t H2 H5 := fun b o hb ht => s5 _ _ (X24 b o hb ht)
      have ht4 : ∃ o, H4 t = some o := by obtain ⟨_, _, _, _, e, _⟩ := T4.dk; exact ⟨_, e⟩
      have back : ∀ {b : Addr}, H4 b = none → b ≠ t ∧ H2 b = none := fun {b} hb => by
        have h1 : b ≠ t := fun z => by obtain ⟨o, e⟩ := ht4; rw [z, e] at hb; cases hb
        refine ⟨h1, ?_⟩
        cases z : H2 b with
        | none => rfl
        | some o => have := X24 b o z h1; rw [hb] at this; cases this
      have T5 := T4.mono s5
      have A5 := A.monoX T2 X25
      have hU5 := X25 _ _ hU2 hUt.1
      refine ⟨_, rfl, _, rfl, _, rfl, t, c, U, cs, schN s, rfl, T5, hU5, hUt.2.symm, by omega, fun z H6 nk nf T6 hU6 s6 => ?_⟩
      have A6 := A5.monoXY T5 hU5 nU s6
      have hdk : H5 a.d = some (.dK (descD a)) := (D5 z).dk
      have aU : a.d ≠ U := fun e => by rw [e, hU5] at hdk; cases hdk
      have bU : ∀ b ∈ adL a, b ≠ U := fun b hb e => by
        have := (back (fl b hb)).2
        rw [e, hU2] at this; cases this
      have D6 : DescAt H6 a ⟨z, cols, [], [], []⟩ := (D5 z).frame (KeepT.ofXY T5 hU5 s6) (fun o e => s6 _ _ e (back fd).1 aU) (fun b hb o e => s6 _ _ e (back (fl b hb)).1 (bU b hb))
      refine ⟨S, _, rfl, DPut.k (k := (Sum.inr z : Key)) A6.sk (by unfold schK; rw [List.length_map]; exact Nat.lt_of_lt_of_le (by omega : s.length < 1000) (by show 1000 ≤ sizeLine; decide)), ?_⟩
      rw [schK_new (s := s) (a := a) (tab := ⟨z, cols, [], [], []⟩) nf]
      refine ⟨_, s ++ [(a, ⟨z, cols, [], [], []⟩)], rfl, A6.add D6 nf ?_ ?_ ndA, T6.upd hSt.1 hSt.2, ?_, ?_, ?_, (by rw [List.length_append, List.length_singleton, ls]), ?_, ?_⟩
      · refine ⟨(back fd).1, fun e => ?_, fun p hp e => ?_⟩
        · have := (back fd).2; rw [e, A.sk] at this; cases this
        · have := (back fd).2; rw [e, (A.ds p hp).dk] at this; cases this
      · refine fun b hb => ⟨fun e => ?_, fun e => ?_⟩
        · have := (back (fl b hb)).2; rw [e, T2.ls] at this; cases this
        · obtain ⟨p, hp, hbp⟩ := List.mem_flatMap.mp e
          obtain ⟨xs', g⟩ := (A.ds p hp).isL b hbp
          have := (back (fl b hb)).2; rw [g] at this; cases this
      · rw [upd_ne US, hU6]
        have : schN (s ++ [(a, ⟨z, cols, [], [], []⟩)]) = schN s ++ [z] := by unfold schN; rw [List.map_append]; rfl
        rw [this]
      · intro e
        unfold schL at e
        rw [List.flatMap_append] at e
        rcases List.mem_append.mp e with e | e
        · exact nU e
        · exact bU U (by simpa using e) rfl
      · intro p hp
        rcases List.mem_append.mp hp with hp | hp
        · exact bare p hp
        · rw [List.mem_singleton.mp hp]
          exact ⟨nk, okc, by show 1 ≤ cols.length; omega, by show cols.length ≤ 5; omega, rfl, rfl, rfl⟩
      · intro b o hb ht
        have nb : b ≠ U := ne_of_none hb hU
        rw [upd_ne (ne_of_none hb fS)]
        exact s6 _ _ (X25 _ _ (S2 _ _ hb ht) ht) ht nb
      · intro b hb
        unfold schL at hb
        rw [List.flatMap_append] at hb
        rcases List.mem_append.mp hb with hb | hb
        · exact new b hb
        · have hb : b ∈ adL a := by simpa using hb
          have h2 := back (fl b hb)
          exact S2.free h2.1 h2.2
    rintro σ H2 ⟨v, s, rfl, A, T2, hU2, nU, bare, ls, S2, new⟩
    have l6 : s.length ≤ 6 := by omega
    refine ⟨_, rfl, S, schK s, schN s, rfl, .inl A.sk, sch_keys s, (by unfold schN; rw [List.length_map]; omega), fun ys P hper _ hP => ?_⟩
    have e3 := same_new hP (.lst (ys.map V.str))
    have ndy : ys.Nodup := hper.nodup_iff.mpr A.nm
    refine ⟨P, rfl, ⟨_, SqL.of upd_same⟩, for_it walk_list (fun j σ H' => ∃ w, ∃ s' : Sch, σ = [some (.ref t), some (.int least), some (.int most), some (.ref U), some (.ref S), v, w] ∧ Half H H' t c cs S s s' (ys.take j) ∧ H' P = some (.lst (ys.map V.str))) ⟨none, s, rfl, ⟨A.monoX T2 (SameX.of e3), T2.mono e3, rfl, rfl, (by intro p hp hd; cases hd), fun p hp _ => bare p hp, S2.trans (SameX.of e3), new⟩, upd_same⟩ (fun j σ H' _ ⟨_, _, _, _, e⟩ => SqL.of e) ?_ ?_⟩
    · rintro j x σ H3 H3' hj ⟨w, s', rfl, L, hP3⟩ ⟨rfl, ex⟩
      rw [List.length_map] at hj
      have ey : ys[j]? = some ys[j] := List.getElem?_eq_getElem hj
      rw [List.getElem?_map, ey] at ex
      cases ex
      have hin : ys[j] ∈ schN s' := by rw [schN_of L.fr]; exact hper.mem_iff.mp (List.getElem_mem hj)
      obtain ⟨⟨a, tab⟩, hm, hn⟩ := sch_in hin
      have hn : tab.n = ys[j] := hn
      have hnd : tab.n ∉ ys.take j := by
        rw [hn]
        intro z
        obtain ⟨i0, hi0, ei⟩ := List.getElem_of_mem z
        rw [List.length_take] at hi0
        rw [List.getElem_take] at ei
        have b1 : ys[i0]? = some ys[j] := by rw [List.getElem?_eq_getElem (by omega), ei]
        have := nd_ix ndy b1 ey
        omega
      have l6' : s'.length ≤ 6 := by have := congrArg List.length L.ads; simp only [List.length_map] at this; omega
      refine ⟨_, rfl, _, rfl, _, rfl, t, c, S, cs, s', a, tab, (by rw [hn]; rfl), L.T, L.A, l6', fun p hp => ?_, hm, L.ba _ hm hnd, fun tab' H4 hn' hc' ok D T4 kt se => ?_⟩
      · by_cases hd : p.2.n ∈ ys.take j
        · have k := L.ok p hp hd; exact ⟨k.nm, k.l0⟩
        · have k := L.ba p hp hd; exact ⟨k.nm, k.l0⟩
      obtain ⟨s2, L2⟩ := L.put hm hn' hc' ok D T4 kt se
      have et : ys.take (j + 1) = ys.take j ++ [tab.n] := by rw [List.take_add_one, ey, hn]; rfl
      refine ⟨_, s2, rfl, by rw [et]; exact L2, se _ _ hP3 fun hc => ?_⟩
      have hP0 : H2 P = none := hP
      obtain ⟨_, _, _, _, et2, _⟩ := T2.dk
      have dd : ∀ b ∈ adL a, H2 b ≠ none := fun b hb z => by
        have e1 : b ∈ schL s := by rw [← schL_of L.ads]; exact mem_flat hm hb
        obtain ⟨p, hp, hbp⟩ := List.mem_flatMap.mp e1
        obtain ⟨xs', g⟩ := (A.ds p hp).isL b hbp
        rw [g] at z; cases z
      simp only [List.mem_cons, List.not_mem_nil, or_false] at hc
      rcases hc with z | z | z | z
      · rw [z, et2] at hP0; cases hP0
      · exact dd a.k (by simp [adL]) (z ▸ hP0)
      · exact dd a.u (by simp [adL]) (z ▸ hP0)
      · exact dd a.r (by simp [adL]) (z ▸ hP0)
    rintro σ H3 ⟨w, s', rfl, L, hP3⟩
    rw [List.length_map, List.take_length] at L
    have ls' : s'.length = s.length := by have := congrArg List.length L.ads; simpa using this
    refine ⟨_, rfl, q S s' H3 L.A (fun p hp => ?_) (by omega) (by omega) L.T L.se⟩
    rw [L.fr]
    refine L.ok p hp (hper.mem_iff.mpr ?_)
    rw [← schN_of L.fr]
    exact List.mem_map.mpr ⟨p, hp, rfl⟩)
theorem ok_law_rest {f : Addr} {fd : FuncData} (k : Kn K mg "_law_rest" s_law_rest ["tape", "columns"] f fd) (z : Z mg)
    {g_law_value : Addr} {gd_law_value : FuncData} (c_law_value : Cal P w K mg base 4 "_law_value" ["tape", "kind", "nullable"] (spVal) g_law_value gd_law_value) :
    Cal P w K mg base 5 "_law_rest" ["tape", "columns"] (spRest) f fd := k.cal (by
  refine k.F.ok sc_law_rest (fun vs H Q E h => ?_) (fun cdv A outer s H vs Q E hr h => ?_)
  · obtain ⟨t, c, L, cs, cols, rfl, _⟩ := h; rfl
  · obtain ⟨t, c, L, cs, cols, rfl, T, C, hp0, hl, q⟩ := h
    refine ⟨_, (pss_one (ps_ret (pe_callTy call_tuple_of (by rfl) z.tuple (by decide +kernel) (pa_cons (pe_lc (own := [("column", 2)]) (g := gName 2) (tt := tYes) (by rfl) sc_law_rest.nd (pi_list (pe_slice sl_list (pv 1) (po_some pe_int) po_none)) (blkOk_by (own := [("column", 2)]) (N := ["tape", "columns", "column"]) (sc := defScope s_law_rest) (by decide +kernel)) (fun _ _ _ _ _ => pg_name (i := 2) sc_law_rest.nd rfl (Or.inl rfl)) (fun _ _ _ _ _ => pts_nil) (fun _ _ _ _ _ => (pe_call c_law_value.G (hr.mono (by decide)) (by rfl) c_law_value.m c_law_value.kp c_law_value.b .nil pass0 (pa_cons (pv 0) (pa_cons (pe_ix (r := rIxT K) ix_tup (pv 2) pe_int (fun _ _ => rfl)) (pa_cons (pe_ix (r := rIxT K) ix_tup (pv 2) pe_int (fun _ _ => rfl)) pa_nil)))))) pa_nil)))), ?_⟩
    obtain ⟨xs, h1, h2⟩ := id C
    have hx : xs.length = cols.length := by rw [h2.length, List.length_map]
    refine ⟨_, rfl, _, rfl, L, _, rfl, SqL.of h1, fun S hS => ?_⟩
    rw [cut_tail]
    have tS := T.fresh hS
    refine ⟨S, rfl, ⟨_, SqL.of upd_same⟩, fun D hD => lc_list (K := K) (a := S) (xs := xs.drop 1) (fun i H' => ∃ vs, H' D = some (.lst vs) ∧ vs.length = i ∧ (∀ (j : Nat) (col : Col) (v : V), cols[j + 1]? = some col → vs[j]? = some v → ValOf col.k col.b v) ∧ TapeAt H' t c cs ∧ SameX t H H' ∧ H' S = some (.lst (xs.drop 1))) ?_ (fun i H' _ ⟨_, _, _, _, _, _, e⟩ => SqL.of e) ?_ ?_⟩
    · have tS' := T.mono (same_new hS (.lst (xs.drop 1)))
      exact ⟨[], upd_same, rfl, (fun j col v _ h => by cases h), tS'.mono (same_new hD _), SameX.of ((same_new hS _).trans (same_new hD _)), same_new hD _ _ _ upd_same⟩
    · rintro i x H1 hi ⟨vs, hD1, l1, f1, T1, s1, hS1⟩
      have tD := (T.mono (same_new hS (.lst (xs.drop 1)))).fresh hD
      have hi2 : xs[i + 1]? = some x := by rw [List.getElem?_drop] at hi; rw [show i + 1 = 1 + i by omega]; exact hi
      have hil : i + 1 < cols.length := by rw [← hx]; exact (List.getElem?_eq_some_iff.mp hi2).1
      obtain ⟨xs', a, k1, k2, k3⟩ := C.get (List.getElem?_eq_getElem hil)
      rw [h1] at k1
      cases k1
      rw [hi2] at k2
      cases k2
      have k4 := KeepT.ofX T s1 _ _ k3
      refine ⟨rfl, _, rfl, _, rfl, a, _, 1, _, rfl, rfl, SqT.of k4, atI_nat (j := 1) rfl, _, rfl, a, _, 2, _, rfl, rfl, SqT.of k4, atI_nat (j := 2) rfl, t, c, cs, _, _, rfl, T1, fun v H2 hv T2 s2 => ?_⟩
      have hSD : S ≠ D := ne_of_none upd_same hD
      have hD0 : H D = none := by
        cases e : H D with
        | none => rfl
        | some o => have := same_new hS (.lst (xs.drop 1)) _ _ e; rw [hD] at this; cases this
      refine ⟨_, s2 _ _ hD1 tD.1, (by exact small1000 (by omega)), vs ++ [v], upd_same, by simp [l1], ?_, T2.upd tD.1 tD.2, samex_upd hD0 _ (s1.trans s2), ?_⟩
      · intro j col w hc hw
        by_cases hj : j < vs.length
        · rw [List.getElem?_append_left hj] at hw
          exact f1 j col w hc hw
        · have hj2 : j = vs.length := by
            have := (List.getElem?_eq_some_iff.mp hw).1
            rw [List.length_append, List.length_singleton] at this
            omega
          subst hj2
          rw [List.getElem?_append_right (Nat.le_refl _), Nat.sub_self] at hw
          cases hw
          rw [l1, List.getElem?_eq_getElem hil] at hc
          cases hc
          exact hv
      · rw [upd_ne hSD]
        exact s2 _ _ hS1 (by
          obtain ⟨_, _, _, _, e, _⟩ := T1.dk
          exact ne_of hS1 e (by intro z; cases z))
    · rintro H1 ⟨vs, hD1, l1, f1, T1, s1, hS1⟩
      refine ⟨D, vs, rfl, .inl ⟨SqL.of hD1, fun p hp => ?_⟩⟩
      have hpt := T1.fresh hp
      refine q p vs _ (s1.free hpt.1 hp) upd_same ⟨?_, f1⟩ (T1.mono (same_new hp _)) (s1.trans (SameX.of (same_new hp _)))
      rw [l1, List.length_drop]
      omega)
theorem ok_law_rows {f : Addr} {fd : FuncData} (k : Kn K mg "_law_rows" s_law_rows ["tape", "columns", "most"] f fd) (z : Z mg)
    {g_law_take : Addr} {gd_law_take : FuncData} (c_law_take : Cal P w K mg base 1 "_law_take" ["tape", "many"] (spTake) g_law_take gd_law_take)
    {g_law_value : Addr} {gd_law_value : FuncData} (c_law_value : Cal P w K mg base 4 "_law_value" ["tape", "kind", "nullable"] (spVal) g_law_value gd_law_value)
    {g_law_rest : Addr} {gd_law_rest : FuncData} (c_law_rest : Cal P w K mg base 5 "_law_rest" ["tape", "columns"] (spRest) g_law_rest gd_law_rest) :
    Cal P w K mg base 6 "_law_rows" ["tape", "columns", "most"] (spRowsDraw) f fd := k.cal (by
  refine k.F.ok sc_law_rows (fun vs H Q E h => ?_) (fun cdv A outer s H vs Q E hr h => ?_)
  · obtain ⟨t, c, L, cs, cols, most, rfl, _⟩ := h; rfl
  · obtain ⟨t, c, L, cs, cols, most, rfl, T, C, c0, c100, m0, m20, q⟩ := h
    have hu := hu_of hr
    refine ⟨_, (pss_cons (ps_set (i := 3) sc_law_rows.nd rfl (Or.inl rfl) pe_dnewK)
        (pss_cons (ps_for PassesOwn.never rfl (pi_range1 (by rfl) z.range (pa_cons (pe_call c_law_take.G (hr.mono (by decide)) (by rfl) c_law_take.m c_law_take.kp c_law_take.b .nil pass0 (pa_cons (pv 0) (pa_cons (pe_op op_add (pv 2) pe_int) pa_nil))) pa_nil)) (pg_name (i := 4) sc_law_rows.nd rfl (Or.inl rfl))
        (pss_one (ps_dput hu (pv 3) (pe_call c_law_value.G (hr.mono (by decide)) (by rfl) c_law_value.m c_law_value.kp c_law_value.b .nil pass0 (pa_cons (pv 0) (pa_cons (pe_ix ix_tup (pe_ix ix_list (pv 1) pe_int (fun _ _ => rfl)) pe_int (fun _ _ => rfl)) (pa_cons pe_bl pa_nil)))) (pe_call c_law_rest.G (hr.mono (by decide)) (by rfl) c_law_rest.m c_law_rest.kp c_law_rest.b .nil pass0 (pa_cons (pv 0) (pa_cons (pv 1) pa_nil))) rfl)))
        (pss_one (ps_ret (pv 3))))), ?_⟩
    refine fun M hM => ?_
    have e1 := same_new hM (.dK [])
    have fM := T.fresh hM
    have T1 := T.mono e1
    have C1 : ColsAt (upd H M (.dK [])) L cols := C.mono (KeepT.of e1) (fun o => e1 _ _)
    refine ⟨_, rfl, _, rfl, _, _, rfl, rfl, t, c, cs, most + 1, rfl, T1, by omega, natSm (by omega) (by omega), fun d H2 d0 d1 T2 s2 => ?_⟩
    refine ⟨_, rfl, by omega, by omega, for_range (lo := 0) (n := d.toNat) (fun i σ H' => ∃ v, ∃ rs : List Ro, σ = [some (.ref t), some (.ref L), some (.int most), some (.ref M), v] ∧ TAt H' M rs ∧ (∀ r ∈ rs, RowFit cols r) ∧ rs.length ≤ i ∧ TapeAt H' t c cs ∧ ColsAt H' L cols ∧ SameX t H H') ⟨none, [], rfl, ⟨s2 _ _ upd_same fM.1, (by intro r h; cases h), List.nodup_nil⟩, (by intro r h; cases h), Nat.le_refl _, T2, ?_, (SameX.of e1).trans s2⟩ ?_ ?_⟩
    · obtain ⟨xs, h1, h2⟩ := C1
      exact ⟨xs, s2 _ _ h1 (T1.notL h1), h2.mono (KeepT.ofX T1 s2)⟩
    · rintro i σ H3 hi ⟨v, rs, rfl, A3, f3, l3, T3, C3, s3⟩
      have ecol : cols[0]? = some cols[0] := List.getElem?_eq_getElem c0
      refine ⟨_, rfl, _, rfl, t, c, L, cs, cols, rfl, T3, C3, c0, c100, fun pr ws H4 hp0 hp fit T4 s4 => ?_⟩
      have ML : L ≠ t := by obtain ⟨xs, h1, _⟩ := C3; exact T3.notL h1
      have C4 : ColsAt H4 L cols := by
        obtain ⟨xs, h1, h2⟩ := C3
        exact ⟨xs, s4 _ _ h1 ML, h2.mono (KeepT.ofX T3 s4)⟩
      have A4 := A3.mono (KeepT.ofX T3 s4) (fun o h => s4 _ _ h fM.1)
      obtain ⟨xs, a, k1, k2, k3⟩ := C4.get ecol
      refine ⟨_, rfl, _, rfl, _, rfl, L, _, 0, _, rfl, rfl, SqL.of k1, atI_nat (j := 0) k2, a, _, 1, _, rfl, rfl, SqT.of k3, atI_nat (j := 1) rfl, t, c, cs, cols[0].k, false, rfl, T4, fun kv H5 hv T5 s5 => ?_⟩
      have A5 := A4.mono (KeepT.ofX T4 s5) (fun o h => s5 _ _ h fM.1)
      have C5 : ColsAt H5 L cols := by
        obtain ⟨xs, h1, h2⟩ := C4
        exact ⟨xs, s5 _ _ h1 (T4.notL h1), h2.mono (KeepT.ofX T4 s5)⟩
      have hp5 := KeepT.ofX T4 s5 _ _ hp
      have hk := hv.key
      have dp := DPut.k (k := vKey kv) (v := .ref pr) A5.dk (by unfold roK; rw [List.length_map]; exact small1000 (by omega))
      rw [hk] at dp
      refine ⟨M, _, rfl, dp, ?_⟩
      rw [putRo_K rs ⟨vKey kv, pr, ws⟩]
      have ku : KeepT H5 (upd H5 M (.dK (roK (putRo rs ⟨vKey kv, pr, ws⟩)))) := KeepT.lock A5.dk
      refine ⟨_, putRo rs ⟨vKey kv, pr, ws⟩, rfl, ⟨upd_same, fun r hr' => ?_, putRo_nd A5.nd _⟩, fun r hr' => ?_, by have := putRo_len rs ⟨vKey kv, pr, ws⟩; omega, T5.upd fM.1 fM.2, ?_, ?_⟩
      · rcases putRo_mem hr' with ⟨_, ea, ev⟩ | h
        · rw [ea, ev]; exact ku _ _ hp5
        · exact ku _ _ (A5.rt r h)
      · rcases putRo_mem hr' with ⟨ek, ea, ev⟩ | h
        · have := RowFit.mk' (a := pr) ecol hv fit
          refine ⟨fun c' hc' => by rw [ek]; exact this.k c' hc', by rw [ev]; exact this.r⟩
        · exact f3 r h
      · obtain ⟨xs, h1, h2⟩ := C5
        exact ⟨xs, by rw [upd_ne (fun z => by rw [z, A5.dk] at h1; cases h1)]; exact h1, h2.mono ku⟩
      · exact fun b o hb hbt => by
          rw [upd_ne (ne_of_none hb hM)]
          exact s5 _ _ (s4 _ _ (s3 _ _ hb hbt) hbt) hbt
    · rintro σ H3 ⟨v, rs, rfl, A3, f3, l3, T3, C3, s3⟩
      exact ⟨_, rfl, q M rs H3 A3 f3 (by omega) hM T3 s3⟩)
theorem ok_law_state {f : Addr} {fd : FuncData} (k : Kn K mg "_law_state" s_law_state ["tape", "schema", "most"] f fd) (z : Z mg)
    {g_law_rows : Addr} {gd_law_rows : FuncData} (c_law_rows : Cal P w K mg base 6 "_law_rows" ["tape", "columns", "most"] (spRowsDraw) g_law_rows gd_law_rows) :
    Cal P w K mg base 7 "_law_state" ["tape", "schema", "most"] (spState) f fd := k.cal (by
  refine k.F.ok sc_law_state (fun vs H Q E h => ?_) (fun cdv A outer s H vs Q E hr h => ?_)
  · obtain ⟨t, c, S, cs, s, most, rfl, _⟩ := h; rfl
  · obtain ⟨t, c, S, cs, s, most, rfl, T, A, ok, l6, m0, m20, q⟩ := h
    have hu := hu_of hr
    refine ⟨_, (pss_cons (ps_set (i := 3) sc_law_state.nd rfl (Or.inl rfl) pe_dnewK)
        (pss_cons (ps_for PassesOwn.never rfl (pi_list (pe_callB (call_sortedD rfl) (by rfl) z.sorted (by decide +kernel) (pa_cons (pv 1) pa_nil))) (pg_name (i := 4) sc_law_state.nd rfl (Or.inl rfl))
        (pss_one (ps_dput hu (pv 3) (pv 4) (pe_call c_law_rows.G (hr.mono (by decide)) (by rfl) c_law_rows.m c_law_rows.kp c_law_rows.b .nil pass0 (pa_cons (pv 0) (pa_cons (pe_dget hu (pe_dget hu (pv 1) (pv 4) (fun _ _ => rfl)) pe_str (fun _ _ => rfl)) (pa_cons (pv 2) pa_nil)))) rfl)))
        (pss_one (ps_ret (pv 3))))), ?_⟩
    refine fun M hM => ?_
    have e1 := same_new hM (.dK [])
    have fM := T.fresh hM
    have T1 := T.mono e1
    have A1 := A.monoX T (SameX.of e1)
    refine ⟨_, rfl, S, schK s, schN s, rfl, .inl A1.sk, sch_keys s, (by unfold schN; rw [List.length_map]; omega), fun ys P hper _ hP => ?_⟩
    have e2 := same_new hP (.lst (ys.map V.str))
    have fP := T1.fresh hP
    have ndy : ys.Nodup := hper.nodup_iff.mpr A.nm
    have ly : ys.length = s.length := by rw [hper.length_eq]; unfold schN; rw [List.length_map]
    have MP : M ≠ P := ne_of_none upd_same hP
    refine ⟨P, rfl, ⟨_, SqL.of upd_same⟩, for_it walk_list (fun i σ H' => ∃ v, ∃ st : List TS, σ = [some (.ref t), some (.ref S), some (.int most), some (.ref M), v] ∧ H' M = some (.dK (stK st)) ∧ (∀ p ∈ st, TAt H' p.d p.rs) ∧ stN st = ys.take i ∧ (∀ p ∈ st, H p.d = none ∧ p.d ≠ M ∧ p.d ≠ t) ∧ (st.map fun q => q.d).Nodup ∧ (∀ p ∈ s, p.2.n ∈ ys.take i → ∃ q ∈ st, q.n = p.2.n ∧ ∀ r ∈ q.rs, RowFit p.2.cols r) ∧ (∀ p ∈ st, p.rs.length ≤ most.toNat) ∧ TapeAt H' t c cs ∧ SchAt H' S s t c ∧ H' P = some (.lst (ys.map V.str)) ∧ SameX t H H') ⟨none, [], rfl, e2 _ _ upd_same, (by intro p h; cases h), rfl, (by intro p h; cases h), List.nodup_nil, (by intro p _ h; cases h), (by intro p h; cases h), T1.mono e2, A1.monoX T1 (SameX.of e2), upd_same, SameX.of (e1.trans e2)⟩ (fun i σ H' _ ⟨_, _, _, _, _, _, _, _, _, _, _, _, e, _⟩ => SqL.of e) ?_ ?_⟩
    · rintro i x σ H3 H3' hi ⟨v, st, rfl, hM3, hD3, hn3, fr3, dn3, fit3, l3, T3, A3, hP3, s3⟩ ⟨rfl, ex⟩
      rw [List.length_map] at hi
      have ey : ys[i]? = some ys[i] := List.getElem?_eq_getElem hi
      rw [List.getElem?_map, ey] at ex
      cases ex
      have hmy := List.getElem_mem hi
      generalize ys[i] = y at ey hmy
      obtain ⟨p, hp, rfl⟩ := sch_in (hper.mem_iff.mp hmy)
      have D3 := A3.ds p hp
      have okp := ok p hp
      have l5 := okp.l5
      have l0 := okp.l0
      refine ⟨_, rfl, _, rfl, _, rfl, S, _, rfl, A3.desc hp, p.1.d, _, rfl, D3.gc, _, rfl, t, c, p.1.c, cs, p.2.cols, most, rfl, T3, D3.co, by omega, by omega, m0, m20, fun d rs H4 A4 f4 lr d0 T4 s4 => ?_⟩
      have hnot : p.2.n ∉ stN st := by
        rw [hn3]
        intro z
        obtain ⟨j, hj, ej⟩ := List.getElem_of_mem z
        rw [List.length_take] at hj
        rw [List.getElem_take] at ej
        have b1 : ys[j]? = some p.2.n := by rw [List.getElem?_eq_getElem (by omega), ej]
        have := nd_ix ndy b1 ey
        omega
      have hM4 := s4 _ _ hM3 fM.1
      have lst : st.length = i := by
        have := congrArg List.length hn3
        unfold stN at this
        rw [List.length_map, List.length_take] at this
        omega
      have ft : ∀ {b : Addr}, H3' b = none → b ≠ t ∧ H b = none := fun {b} hb => by
        have n1 : b ≠ t := by obtain ⟨_, _, _, _, e, _⟩ := T3.dk; exact (ne_of_none e hb).symm
        refine ⟨n1, ?_⟩
        cases e : H b with
        | none => rfl
        | some o => have := s3 _ _ e n1; rw [hb] at this; cases this
      have dM : d ≠ M := (ne_of_none hM3 d0).symm
      refine ⟨_, rfl, _, rfl, M, _, rfl, DPut.k (k := (Sum.inr p.2.n : Key)) hM4 (by unfold stK; rw [List.length_map]; exact small1000 (by omega)), ?_⟩
      rw [st_new (x := ⟨p.2.n, d, rs⟩) hnot]
      have ku : KeepT H4 (upd H4 M (.dK (stK (st ++ [⟨p.2.n, d, rs⟩])))) := KeepT.lock hM4
      have tk : ys.take (i + 1) = ys.take i ++ [p.2.n] := by rw [List.take_add_one, ey]; rfl
      refine ⟨_, st ++ [⟨p.2.n, d, rs⟩], rfl, upd_same, fun z hz => ?_, ?_, fun z hz => ?_, ?_, fun z hz hzn => ?_, fun z hz => ?_, T4.upd fM.1 fM.2, ?_, ?_, ?_⟩
      · rcases List.mem_append.mp hz with h | h
        · have A' := (hD3 z h).mono (KeepT.ofX T3 s4) (fun o e => s4 _ _ e (fr3 z h).2.2)
          exact A'.mono ku fun o e => by rw [upd_ne (fr3 z h).2.1]; exact e
        · rw [List.mem_singleton.mp h]
          exact A4.mono ku fun o e => by rw [upd_ne dM]; exact e
      · rw [tk, ← hn3]; unfold stN; rw [List.map_append]; rfl
      · rcases List.mem_append.mp hz with h | h
        · exact fr3 z h
        · rw [List.mem_singleton.mp h]
          exact ⟨(ft d0).2, dM, (ft d0).1⟩
      · rw [List.map_append]
        refine List.nodup_append.mpr ⟨dn3, by simp, fun x hx y hy => ?_⟩
        have : y = d := by simpa using hy
        subst this
        rintro rfl
        obtain ⟨z, hz, e⟩ := List.mem_map.mp hx
        have e : z.d = x := e
        have := (hD3 z hz).dk
        rw [e, d0] at this
        cases this
      · rw [tk] at hzn
        rcases List.mem_append.mp hzn with h | h
        · obtain ⟨w, h1, h2, h3⟩ := fit3 z hz h
          exact ⟨w, List.mem_append.mpr (.inl h1), h2, h3⟩
        · have ezp := sch_one A.nm hz hp (List.mem_singleton.mp h)
          subst ezp
          exact ⟨_, List.mem_append.mpr (.inr (List.mem_singleton.mpr rfl)), rfl, f4⟩
      · rcases List.mem_append.mp hz with h | h
        · exact l3 z h
        · rw [List.mem_singleton.mp h]
          show rs.length ≤ most.toNat
          omega
      · exact (A3.monoX T3 s4).other hM4 (ne_of_none A.sk hM) (fun z hz => ne_of_none (A.ds z hz).dk hM)
      · rw [upd_ne MP.symm]; exact s4 _ _ hP3 fP.1
      · exact fun b o hb hbt => by
          rw [upd_ne (ne_of_none hb hM)]
          exact s4 _ _ (s3 _ _ hb hbt) hbt
    · rintro σ H3 ⟨v, st, rfl, hM3, hD3, hn3, fr3, dn3, fit3, l3, T3, A3, hP3, s3⟩
      rw [List.length_map, List.take_length] at hn3 fit3
      have lst : st.length = s.length := by
        have := congrArg List.length hn3
        unfold stN at this
        rw [List.length_map] at this
        omega
      refine ⟨_, rfl, q M st H3 ⟨hM3, hD3, by rw [hn3]; exact ndy⟩ ⟨fun p hp => fit3 p hp (hper.mem_iff.mpr (List.mem_map.mpr ⟨p, hp, rfl⟩)), l3, fun z hz => hper.mem_iff.mp (by rw [← hn3]; exact List.mem_map.mpr ⟨z, hz, rfl⟩), lst⟩ ?_ ?_ T3 s3⟩
      · unfold stD
        refine List.nodup_cons.mpr ⟨fun h => ?_, dn3⟩
        obtain ⟨z, hz, e⟩ := List.mem_map.mp h
        exact (fr3 z hz).2.1 e
      · intro b hb
        rcases List.mem_cons.mp hb with rfl | hb
        · exact hM
        · obtain ⟨z, hz, rfl⟩ := List.mem_map.mp hb
          exact (fr3 z hz).1)

theorem no_copy {f : Addr} {fd : FuncData} : FnOk P w K mg base CX0 0 f fd ["thing"] (spCopyG 0) := by
  have no : ∀ vs H Q E, ¬ spCopyG 0 vs H Q E := fun vs H Q E h => by
    obtain ⟨x, g, D, _, _, h1, _⟩ := h
    exact Nat.not_lt_zero _ h1
  exact ⟨fun vs H Q E h => absurd h (no vs H Q E), fun A outer s H args us vs Q E _ _ _ _ h => absurd h (no vs H Q E)⟩
theorem ok_copy {n : Nat} {f : Addr} {fd : FuncData} (k : Kn K mg "_law_copy" s_law_copy ["thing"] f fd) (z : Z mg)
    (c_law_copy : Cal P w K mg base n "_law_copy" ["thing"] (spCopyG n) f fd) : Cal P w K mg base (n + 1) "_law_copy" ["thing"] (spCopyG (n + 1)) f fd := k.cal (by
  refine k.F.ok sc_law_copy (fun vs H Q E h => ?_) (fun cdv A outer s H vs Q E hr h => ?_)
  · obtain ⟨x, g, D, rfl, _⟩ := h; rfl
  · obtain ⟨x, g, D, rfl, hx, hdep, q⟩ := h
    have hu := hu_of hr
    refine ⟨_, (pss_cons (ps_if (pt_val (pe_callB call_isi (by rfl) z.isinstance (by decide +kernel) (pa_cons (pv 0) (pa_cons (pe_bltn (v := .ty "list") (u := .type "list") (by rfl) z.list (by decide +kernel) rfl) pa_nil)))) (pss_one (ps_ret (pe_lc (own := [("item", 3)]) (g := gName 3) (tt := tYes) (by rfl) sc_law_copy.nd (pi_list (pv 0)) (blkOk_by (own := [("item", 3)]) (N := ["thing", "result", "key", "item"]) (sc := defScope s_law_copy) (by decide +kernel)) (fun _ _ _ _ _ => pg_name (i := 3) sc_law_copy.nd rfl (Or.inl rfl)) (fun _ _ _ _ _ => pts_nil) (fun _ _ _ _ _ => (pe_call c_law_copy.G (hr.mono (by omega)) (by rfl) c_law_copy.m c_law_copy.kp c_law_copy.b .nil pass0 (pa_cons (pv 3) pa_nil)))))) pss_nil)
    (pss_cons (ps_if (pt_val (pe_callB call_isi (by rfl) z.isinstance (by decide +kernel) (pa_cons (pv 0) (pa_cons (pe_bltn (v := .ty "tuple") (u := .type "tuple") (by rfl) z.tuple (by decide +kernel) rfl) pa_nil)))) (pss_one (ps_ret (pe_callTy call_tuple_of (by rfl) z.tuple (by decide +kernel) (pa_cons (pe_lc (own := [("item", 3)]) (g := gName 3) (tt := tYes) (by rfl) sc_law_copy.nd (pi_tup (pv 0)) (blkOk_by (own := [("item", 3)]) (N := ["thing", "result", "key", "item"]) (sc := defScope s_law_copy) (by decide +kernel)) (fun _ _ _ _ _ => pg_name (i := 3) sc_law_copy.nd rfl (Or.inl rfl)) (fun _ _ _ _ _ => pts_nil) (fun _ _ _ _ _ => (pe_call c_law_copy.G (hr.mono (by omega)) (by rfl) c_law_copy.m c_law_copy.kp c_law_copy.b .nil pass0 (pa_cons (pv 3) pa_nil)))) pa_nil)))) pss_nil)
    (pss_cons (ps_if (pt_val (pe_callB call_isi (by rfl) z.isinstance (by decide +kernel) (pa_cons (pv 0) (pa_cons (pe_bltn (v := .ty "dict") (u := .type "dict") (by rfl) z.dict (by decide +kernel) rfl) pa_nil)))) (pss_cons (ps_set (i := 1) sc_law_copy.nd rfl (Or.inl rfl) pe_dnewK)
    (pss_cons (ps_lock (ps_for PassesOwn.never rfl (pi_keys (pv 0)) (pg_name (i := 2) sc_law_copy.nd rfl (Or.inl rfl))
    (pss_one (ps_dput hu (pv 1) (pv 2) (pe_call c_law_copy.G (hr.mono (by omega)) (by rfl) c_law_copy.m c_law_copy.kp c_law_copy.b .nil pass0 (pa_cons (pe_dget hu (pv 0) (pv 2) (fun _ _ => rfl)) pa_nil)) rfl))))
    (pss_one (ps_ret (pv 1))))) pss_nil)
    (pss_one (ps_ret (pv 0)))))), ?_⟩
    -- the items of a list or a tuple, one by one, into a new list R
    have part : ∀ (gs : List G) (xs : List V) (R : Addr), H R = none → (∀ g ∈ gs, g.dep < n) → xs.length = gs.length → xs.length ≤ 1000 → True := fun _ _ _ _ _ _ _ => True.intro
    cases hx with
    | @s v hs =>
      obtain ⟨t, hT, c⟩ := ty_scal (K := K) (H := H) hs
      have n1 : kitB t "list" = some false ∧ kitB t "tuple" = some false ∧ kitB t "dict" = some false := by
        rcases c with ⟨_, rfl⟩ | ⟨_, rfl⟩ | ⟨_, rfl⟩ | ⟨_, rfl⟩ <;> exact ⟨by decide +kernel, by decide +kernel, by decide +kernel⟩
      refine ⟨_, rfl, _, _, _, _, false, rfl, .ty _, hT, kit_ty n1.1, _, rfl, ?_⟩
      refine ⟨_, rfl, _, _, _, _, false, rfl, .ty _, hT, kit_ty n1.2.1, _, rfl, ?_⟩
      refine ⟨_, rfl, _, _, _, _, false, rfl, .ty _, hT, kit_ty n1.2.2, _, rfl, ?_⟩
      exact ⟨_, rfl, q _ [] _ (.s hs) (Same.refl _) (fun a h => by cases h) List.nodup_nil⟩
    | @l a xs gs D hxa hn rx =>
      have hA : TyX K H (.ref a) (.type "list") := .base (.lst hxa)
      have hd : ∀ g ∈ gs, g.dep < n := fun g hg => by have := depL_mem hg; simp only [G.dep] at hdep; omega
      refine ⟨_, rfl, _, _, _, _, true, rfl, .ty _, hA, kit_ty (by decide +kernel), _, rfl, ?_⟩
      refine ⟨_, rfl, a, rfl, ⟨_, SqL.of hxa⟩, fun R hR => inner walk_list (fun i H' => ∃ ys E, H' R = some (.lst ys) ∧ GpL H' ys (gs.take i) E ∧ Same H H' ∧ (∀ b ∈ E, H b = none ∧ b ≠ R) ∧ E.Nodup) ⟨[], [], upd_same, .nil, same_new hR _, (fun b h => by cases h), List.nodup_nil⟩ (fun i H' _ ⟨_, _, _, _, s, _⟩ => SqL.of (s _ _ hxa)) ?_ ?_⟩
      · rintro i x H1 H1' hi ⟨ys, E, R1, r1, s1, f1, nd1⟩ ⟨rfl, ex⟩
        obtain ⟨g1, D1, e1, p1, i1⟩ := rx.get ex
        refine ⟨rfl, _, rfl, x, g1, D1, rfl, p1.mono s1, hd g1 (List.mem_of_getElem? e1), fun x' D' H2 p2 s2 f2 nd2 => ?_⟩
        have R2 := s2 _ _ R1
        have ku : KeepT H2 (upd H2 R (.lst (ys ++ [x']))) := KeepT.upd (fun zs z => by rw [R2] at z; cases z)
        have nR : ∀ b ∈ D', b ≠ R := fun b hb e => by subst e; have := f2 _ hb; rw [R1] at this; cases this
        refine ⟨ys, R2, (by rw [r1.length, List.length_take]; exact small1000 (by omega)), ys ++ [x'], E ++ D', upd_same, ?_, same_upd hR _ (s1.trans s2), ?_, List.nodup_append.mpr ⟨nd1, nd2, fun x hx y hy e => r1.there x hx (f2 x (e ▸ hy))⟩⟩
        · rw [List.take_add_one, e1]
          exact GpL.snoc ((r1.mono s2).frame ku fun b hb o ho => by rw [upd_ne (f1 b hb).2]; exact ho) (p2.frame ku fun b hb o ho => by rw [upd_ne (nR b hb)]; exact ho)
        · intro b hb
          rcases List.mem_append.mp hb with hb | hb
          · exact f1 b hb
          · exact ⟨s1.free (f2 b hb), nR b hb⟩
      · rintro H1 ⟨ys, E, R1, r1, s1, f1, nd1⟩
        rw [List.take_of_length_le (by rw [rx.length]; omega)] at r1
        refine q (.ref R) (R :: E) H1 (.l R1 (by rw [r1.length, ← rx.length]; exact hn) r1) s1 (fun b hb => ?_) (List.nodup_cons.mpr ⟨fun h => (f1 R h).2 rfl, nd1⟩)
        rcases List.mem_cons.mp hb with rfl | hb
        · exact hR
        · exact (f1 b hb).1
    | @t a xs gs D hxa hn rx =>
      have hA : TyX K H (.ref a) (.type "tuple") := .base (.tup hxa)
      have hd : ∀ g ∈ gs, g.dep < n := fun g hg => by have := depL_mem hg; simp only [G.dep] at hdep; omega
      refine ⟨_, rfl, _, _, _, _, false, rfl, .ty _, hA, kit_ty (by decide +kernel), _, rfl, ?_⟩
      refine ⟨_, rfl, _, _, _, _, true, rfl, .ty _, hA, kit_ty (by decide +kernel), _, rfl, ?_⟩
      refine ⟨_, rfl, a, rfl, ⟨_, SqT.of hxa⟩, fun R hR => inner walk_tup (fun i H' => ∃ ys E, H' R = some (.lst ys) ∧ GpL H' ys (gs.take i) E ∧ Same H H' ∧ (∀ b ∈ E, H b = none ∧ b ≠ R) ∧ E.Nodup) ⟨[], [], upd_same, .nil, same_new hR _, (fun b h => by cases h), List.nodup_nil⟩ (fun i H' _ ⟨_, _, _, _, s, _⟩ => SqT.of (s _ _ hxa)) ?_ ?_⟩
      · rintro i x H1 H1' hi ⟨ys, E, R1, r1, s1, f1, nd1⟩ ⟨rfl, ex⟩
        obtain ⟨g1, D1, e1, p1, i1⟩ := rx.get ex
        refine ⟨rfl, _, rfl, x, g1, D1, rfl, p1.mono s1, hd g1 (List.mem_of_getElem? e1), fun x' D' H2 p2 s2 f2 nd2 => ?_⟩
        have R2 := s2 _ _ R1
        have ku : KeepT H2 (upd H2 R (.lst (ys ++ [x']))) := KeepT.upd (fun zs z => by rw [R2] at z; cases z)
        have nR : ∀ b ∈ D', b ≠ R := fun b hb e => by subst e; have := f2 _ hb; rw [R1] at this; cases this
        refine ⟨ys, R2, (by rw [r1.length, List.length_take]; exact small1000 (by omega)), ys ++ [x'], E ++ D', upd_same, ?_, same_upd hR _ (s1.trans s2), ?_, List.nodup_append.mpr ⟨nd1, nd2, fun x hx y hy e => r1.there x hx (f2 x (e ▸ hy))⟩⟩
        · rw [List.take_add_one, e1]
          exact GpL.snoc ((r1.mono s2).frame ku fun b hb o ho => by rw [upd_ne (f1 b hb).2]; exact ho) (p2.frame ku fun b hb o ho => by rw [upd_ne (nR b hb)]; exact ho)
        · intro b hb
          rcases List.mem_append.mp hb with hb | hb
          · exact f1 b hb
          · exact ⟨s1.free (f2 b hb), nR b hb⟩
      · rintro H1 ⟨ys, E, R1, r1, s1, f1, nd1⟩
        rw [List.take_of_length_le (by rw [rx.length]; omega)] at r1
        refine ⟨R, ys, rfl, .inl ⟨SqL.of R1, fun p hp => ?_⟩⟩
        exact q (.ref p) E _ (.t upd_same (by rw [r1.length, ← rx.length]; exact hn) (r1.mono (same_new hp _))) (s1.trans (same_new hp _)) (fun b hb => (f1 b hb).1) nd1
    | @d a kvs kgs D hxa hn nd rx fx =>
      have hA : TyX K H (.ref a) (.type "dict") := .base (.dK hxa)
      have hd : ∀ (k : Key) (g : G), (k, g) ∈ kgs → g.dep < n := fun k g hg => by have := depK_mem hg; simp only [G.dep] at hdep; omega
      refine ⟨_, rfl, _, _, _, _, false, rfl, .ty _, hA, kit_ty (by decide +kernel), _, rfl, ?_⟩
      refine ⟨_, rfl, _, _, _, _, false, rfl, .ty _, hA, kit_ty (by decide +kernel), _, rfl, ?_⟩
      refine ⟨_, rfl, _, _, _, _, true, rfl, .ty _, hA, kit_ty (by decide +kernel), _, rfl, ?_⟩
      refine fun R hR => ?_
      have aR : a ≠ R := ne_of_none hxa hR
      have hxa1 : (upd H R (.dK [])) a = some (.dK kvs) := by rw [upd_ne aR]; exact hxa
      refine ⟨a, .dK kvs, hxa1, True.intro, fun od => ?_⟩
      refine ⟨_, rfl, a, od, rfl, .inl ⟨kvs, upd_same, for_it walk_keys (fun i σ H' => ∃ v2 ys E, σ = [some (.ref a), some (.ref R), v2, none] ∧ H' a = some (.frz od (.dK kvs)) ∧ H' R = some (.dK ys) ∧ GpK H' ys (kgs.take i) E ∧ (∀ b o, H b = some o → b ≠ a → H' b = some o) ∧ (∀ b ∈ E, H b = none ∧ b ≠ R) ∧ E.Nodup) ⟨none, [], [], rfl, upd_same, by rw [upd_ne aR.symm]; exact upd_same, .nil, fun b o h nb => by rw [upd_ne nb, upd_ne (ne_of_none h hR)]; exact h, (fun b h => by cases h), List.nodup_nil⟩ (fun i σ H' _ ⟨_, _, _, _, e, _⟩ => e) ?_ ?_⟩⟩
      · rintro i x σ H1 H1' hi ⟨v2, ys, E, rfl, a1, R1, r1, s1, f1, nd1⟩ ⟨rfl, key, wv, ek, rfl⟩
        obtain ⟨g1, D1, e1, p1, i1⟩ := rx.get ek
        have ga : DGet H1' a (kV key) (some wv) := .inl ⟨kvs, key, .inr ⟨od, a1⟩, rfl, (valV_at nd ek).symm⟩
        have p1' : Gp H1' wv g1 D1 := p1.frame (fun b zs h => s1 _ _ h (ne_of h hxa (by intro z; cases z))) (fun b hb o h => s1 _ _ h (fun e => by subst e; exact fx (i1 _ hb)))
        refine ⟨_, rfl, _, rfl, a, wv, rfl, ga, wv, g1, D1, rfl, p1', hd _ _ (List.mem_of_getElem? e1), fun x' D' H2 p2 s2 f2 nd2 => ?_⟩
        have R2 := s2 _ _ R1
        have a2 := s2 _ _ a1
        have nR : ∀ b ∈ D', b ≠ R := fun b hb e => by subst e; have := f2 _ hb; rw [R1] at this; cases this
        have lk : ys.length = i := by
          have := congrArg List.length r1.keys
          rw [List.length_map, List.length_map, List.length_take] at this
          have l2 := congrArg List.length rx.keys
          rw [List.length_map, List.length_map] at l2
          omega
        have hno : valV ys key = none := by
          cases e : valV ys key with
          | none => rfl
          | some v =>
            exfalso
            have hin := valV_in e
            rw [r1.keys, List.map_take, ← rx.keys] at hin
            obtain ⟨j, hj, ej⟩ := List.getElem_of_mem hin
            rw [List.length_take] at hj
            rw [List.getElem_take] at ej
            have b1 : (kvs.map (·.1))[j]? = some key := by rw [List.getElem?_eq_getElem (by omega), ej]
            have b2 : (kvs.map (·.1))[i]? = some key := by rw [List.getElem?_map, ek]; rfl
            have := nd_ix nd b1 b2
            omega
        refine ⟨_, rfl, _, rfl, R, _, rfl, DPut.k (k := key) R2 (by rw [lk]; exact small1000 (by omega)), ?_⟩
        rw [putK_new _ hno]
        have ku : KeepT H2 (upd H2 R (.dK (ys ++ [(key, x')]))) := KeepT.upd (fun zs z => by rw [R2] at z; cases z)
        refine ⟨_, ys ++ [(key, x')], E ++ D', rfl, by rw [upd_ne aR]; exact a2, upd_same, ?_, ?_, ?_, List.nodup_append.mpr ⟨nd1, nd2, fun x hx y hy e => r1.there x hx (f2 x (e ▸ hy))⟩⟩
        · rw [List.take_add_one, e1]
          exact GpK.snoc ((r1.mono s2).frame ku fun b hb o ho => by rw [upd_ne (f1 b hb).2]; exact ho) (p2.frame ku fun b hb o ho => by rw [upd_ne (nR b hb)]; exact ho)
        · intro b o h nb
          rw [upd_ne (ne_of_none h hR)]
          exact s2 _ _ (s1 b o h nb)
        · intro b hb
          rcases List.mem_append.mp hb with hb | hb
          · exact f1 b hb
          · refine ⟨?_, nR b hb⟩
            cases e : H b with
            | none => rfl
            | some o =>
              by_cases eb : b = a
              · subst eb; have := f2 _ hb; rw [a1] at this; cases this
              · have := s1 b o e eb
                rw [f2 _ hb] at this
                cases this
      · rintro σ H1 ⟨v2, ys, E, rfl, a1, R1, r1, s1, f1, nd1⟩
        have l2 : kvs.length = kgs.length := by have := congrArg List.length rx.keys; simpa using this
        rw [List.take_of_length_le (by omega)] at r1
        have kk : ys.map (·.1) = kvs.map (·.1) := by rw [r1.keys, rx.keys]
        have ly : ys.length = kvs.length := by have := congrArg List.length kk; simpa using this
        refine ⟨a1, ?_⟩
        have ku : KeepT H1 (upd H1 a (.dK kvs)) := KeepT.upd (fun zs z => by rw [a1] at z; cases z)
        have na : ∀ b ∈ E, b ≠ a := fun b hb e => by subst e; have := (f1 _ hb).1; rw [hxa] at this; cases this
        refine ⟨_, rfl, q (.ref R) (R :: E) _ (.d (by rw [upd_ne aR.symm]; exact R1) (by omega) (by rw [kk]; exact nd) (r1.frame ku fun b hb o ho => by rw [upd_ne (na b hb)]; exact ho) (fun h => (f1 R h).2 rfl)) ?_ ?_ ?_⟩
        · intro b o h
          by_cases e : b = a
          · subst e; rw [hxa] at h; cases h; exact upd_same
          · rw [upd_ne e]; exact s1 b o h e
        · intro b hb
          rcases List.mem_cons.mp hb with rfl | hb
          · exact hR
          · exact (f1 b hb).1
        · exact List.nodup_cons.mpr ⟨fun h => (f1 R h).2 rfl, nd1⟩)
theorem ok_law_copy {f : Addr} {fd : FuncData} (k : Kn K mg "_law_copy" s_law_copy ["thing"] f fd) (z : Z mg) : ∀ n : Nat, Cal P w K mg base n "_law_copy" ["thing"] (spCopyG n) f fd
  | 0 => k.cal no_copy
  | n + 1 => ok_copy k z (ok_law_copy k z n)
theorem ok_law_some_key {f : Addr} {fd : FuncData} (k : Kn K mg "_law_some_key" s_law_some_key ["tape", "rows", "columns"] f fd) (z : Z mg)
    {g_law_take : Addr} {gd_law_take : FuncData} (c_law_take : Cal P w K mg base 1 "_law_take" ["tape", "many"] (spTake) g_law_take gd_law_take)
    {g_law_value : Addr} {gd_law_value : FuncData} (c_law_value : Cal P w K mg base 4 "_law_value" ["tape", "kind", "nullable"] (spVal) g_law_value gd_law_value) :
    Cal P w K mg base 5 "_law_some_key" ["tape", "rows", "columns"] (spSomeKey) f fd := k.cal (by
  refine k.F.ok sc_law_some_key (fun vs H Q E h => ?_) (fun cdv A outer s H vs Q E hr h => ?_)
  · obtain ⟨t, c, d, L, cs, rs, cols, rfl, _⟩ := h; rfl
  · obtain ⟨t, c, d, L, cs, rs, cols, rfl, T, hT, l200, hL, hco, l1, dt, hk, q⟩ := h
    have hu := hu_of hr
    refine ⟨_, (pss_cons (ps_set (i := 3) sc_law_some_key.nd rfl (Or.inl rfl) (pe_callB (call_sortedK rfl) (by rfl) z.sorted (by decide +kernel) (pa_cons (pv 1) pa_nil)))
        (pss_cons (ps_if (PW.pt (pw_and (pt_cmpR (op_neD hr.units) (pv 3) (pe_lst pa_nil) (nomark _)) (pw_and1 (pt_cmpR op_gt (pe_call c_law_take.G (hr.mono (by decide)) (by rfl) c_law_take.m c_law_take.kp c_law_take.b .nil pass0 (pa_cons (pv 0) (pa_cons pe_int pa_nil))) pe_int (nomark _))))) (pss_one (ps_ret (pe_ix ix_list (pv 3) (pe_call c_law_take.G (hr.mono (by decide)) (by rfl) c_law_take.m c_law_take.kp c_law_take.b .nil pass0 (pa_cons (pv 0) (pa_cons (pe_callB call_len_seq (by rfl) z.len (by decide +kernel) (pa_cons (pv 3) pa_nil)) pa_nil))) (fun _ _ => rfl)))) pss_nil)
        (pss_one (ps_ret (pe_call c_law_value.G (hr.mono (by decide)) (by rfl) c_law_value.m c_law_value.kp c_law_value.b .nil pass0 (pa_cons (pv 0) (pa_cons (pe_ix ix_tup (pe_ix ix_list (pv 2) pe_int (fun _ _ => rfl)) pe_int (fun _ _ => rfl)) (pa_cons pe_bl pa_nil)))))))), ?_⟩
    have hkn : ∀ k ∈ roN rs, keyB cols (kV k) = true := fun k hm => by
      obtain ⟨r, hr, rfl⟩ := ro_mem hm
      exact hk r hr
    obtain ⟨c0, hc0⟩ : ∃ c, cols[0]? = some c := ⟨cols[0]'(by omega), List.getElem?_eq_getElem _⟩
    refine ⟨_, rfl, d, roK rs, rfl, .inl hT.dk, by rw [roK_keys]; exact one_keys l1 hkn, fun ys P hper hsrt hP => ?_⟩
    rw [roK_keys] at hper
    have s1 := same_new hP (.lst (ys.map kV))
    have hP1 : (upd H P (.lst (ys.map kV))) P = some (.lst (ys.map kV)) := upd_same
    have T1 := T.mono s1
    have L1 : ColsAt (upd H P (.lst (ys.map kV))) L cols := hL.mono (KeepT.of s1) (fun o => s1 _ _)
    generalize upd H P (.lst (ys.map kV)) = H1 at s1 hP1 T1 L1 ⊢
    have hy : ∀ k ∈ ys, keyB cols (kV k) = true := fun k hm => hkn k (hper.mem_iff.mp hm)
    have ly : ys.length ≤ 200 := by have := hper.length_eq; unfold roN at this; rw [List.length_map] at this; omega
    have Pt : ∀ {H'}, H' P = some (.lst (ys.map kV)) → TapeAt H' t c cs → P ≠ t := fun {H'} e T' z => by
      obtain ⟨_, _, _, _, e', _⟩ := T'.dk
      rw [← z, e] at e'; cases e'
    have last : ∀ H', SameX t H H' → TapeAt H' t c cs → ColsAt H' L cols → L2.tRet (tCall spVal [] E0 (tCons (tVar 0) (tCons (tOp (rIxT K) (tOp (rIxL K) (tVar 2) (tC (.int 0))) (tC (.int 1))) (tCons (tC (.bl false)) tNil)))) { nx := fun x H' => Q .non H', rt := Q } [some (.ref t), some (.ref d), some (.ref L), some (.ref P)] H' := fun H' x T' L' => by
      obtain ⟨as, ca, k1, k2, k3⟩ := L'.get hc0
      refine ⟨_, rfl, _, rfl, L, _, _, .ref ca, rfl, rfl, SqL.of k1, at_ofN (j := 0) rfl k2, ca, _, _, .str c0.k, rfl, rfl, SqT.of k3, at_ofN (j := 1) rfl rfl, t, c, cs, c0.k, false, rfl, T', fun v H2 hv T2 x2 => ?_⟩
      exact q v H2 (by rw [keyB_at hc0]; exact hv.fitB (hco.kd c0 (List.mem_of_getElem? hc0)) (fun z => nomatch z)) hv.e T2 (x.trans x2)
    refine ⟨_, rfl, Nat.zero_le _, fun Z hZ => ?_⟩
    have s2 := same_new hZ (.lst [])
    refine ⟨_, _, .lst (SqL.of (s2 _ _ hP1)) (keys_dp ys), .lst (SqL.of upd_same) .nil, keys_shaped (fun k hm => keyB_e hc0 (hy k hm)), keys_shaped (ks := []) (fun k hm => by cases hm), _, rfl, ?_⟩
    rw [keys_nil]
    have hP2 := s2 _ _ hP1
    have T2 := T1.mono s2
    have Lc := L1.mono (KeepT.of s2) (fun o => s2 _ _)
    have s12 := s1.trans s2
    generalize upd H1 Z (.lst []) = H2 at s12 hP2 T2 Lc ⊢
    cases ys with
    | nil => exact iteF (last H2 (SameX.of s12) T2 Lc)
    | cons y0 yr =>
    refine iteT ?_
    refine ⟨_, rfl, t, c, cs, 4, rfl, T2, by decide, by decide +kernel, fun d1 H3 d10 d11 T3 x3 => ?_⟩
    have PP := Pt hP2 T2
    have hP3 := x3 _ _ hP2 PP
    have Lt3 : ∀ o, H2 L = some o → H3 L = some o := fun o e => x3 _ _ e (fun z => by
      obtain ⟨as, k1, _⟩ := Lc
      obtain ⟨_, _, _, _, e', _⟩ := T2.dk
      rw [← z, k1] at e'; cases e')
    have Lc3 := Lc.mono (KeepT.ofX T2 x3) Lt3
    refine ⟨_, _, rfl, rfl, _, rfl, ?_⟩
    refine ifD (fun _ => ?_) (fun _ => last H3 ((SameX.of s12).trans x3) T3 Lc3)
    refine ⟨_, rfl, _, rfl, _, rfl, P, _, rfl, .inl (SqL.of hP3), t, c, cs, _, rfl, T3, ?_, ?_, fun d2 H4 d20 d21 T4 x4 => ?_⟩
    · rw [List.length_map, List.length_cons]; omega
    · rw [List.length_map]
      exact Nat.lt_of_le_of_lt (m := 200) (by omega) (by decide +kernel)
    obtain ⟨v, hv1, hv2⟩ := at_in (xs := (y0 :: yr).map kV) d20 d21
    obtain ⟨k0, hk0, rfl⟩ := List.mem_map.mp hv2
    refine ⟨P, _, _, kV k0, rfl, rfl, SqL.of (x4 _ _ hP3 PP), hv1, q _ H4 (hy k0 hk0) (keyB_e hc0 (hy k0 hk0)) T4 ((SameX.of s12).trans (x3.trans x4))⟩)
theorem ok_law_edit {f : Addr} {fd : FuncData} (k : Kn K mg "_law_edit" s_law_edit ["tape", "schema", "state"] f fd) (z : Z mg)
    {g_law_take : Addr} {gd_law_take : FuncData} (c_law_take : Cal P w K mg base 1 "_law_take" ["tape", "many"] (spTake) g_law_take gd_law_take)
    {g_law_some_key : Addr} {gd_law_some_key : FuncData} (c_law_some_key : Cal P w K mg base 5 "_law_some_key" ["tape", "rows", "columns"] (spSomeKey) g_law_some_key gd_law_some_key)
    {g_law_value : Addr} {gd_law_value : FuncData} (c_law_value : Cal P w K mg base 4 "_law_value" ["tape", "kind", "nullable"] (spVal) g_law_value gd_law_value)
    {g_law_rest : Addr} {gd_law_rest : FuncData} (c_law_rest : Cal P w K mg base 5 "_law_rest" ["tape", "columns"] (spRest) g_law_rest gd_law_rest) :
    Cal P w K mg base 6 "_law_edit" ["tape", "schema", "state"] (spLawEdit) f fd := k.cal (by
  refine k.F.ok sc_law_edit (fun vs H Q E h => ?_) (fun cdv A outer s H vs Q E hr h => ?_)
  · obtain ⟨t, c, S, T, cs, s, st, b, rfl, _⟩ := h; rfl
  · obtain ⟨t, c, S, T, cs, s, st, b, rfl, Tp0, A, tv, l1, l6, hT, W, hb, MK, Tt, dt, q⟩ := h
    have hu := hu_of hr
    refine ⟨_, (pss_cons (ps_set (i := 3) sc_law_edit.nd rfl (Or.inl rfl) (pe_ix ix_list (pe_callB (call_sortedK rfl) (by rfl) z.sorted (by decide +kernel) (pa_cons (pv 1) pa_nil)) (pe_call c_law_take.G (hr.mono (by decide)) (by rfl) c_law_take.m c_law_take.kp c_law_take.b .nil pass0 (pa_cons (pv 0) (pa_cons (pe_callB call_lenD (by rfl) z.len (by decide +kernel) (pa_cons (pv 1) pa_nil)) pa_nil))) (fun _ _ => rfl)))
        (pss_cons (ps_set (i := 4) sc_law_edit.nd rfl (Or.inl rfl) (pe_dget hu (pe_dget hu (pv 1) (pv 3) (fun _ _ => rfl)) pe_str (fun _ _ => rfl)))
        (pss_cons (ps_set (i := 5) sc_law_edit.nd rfl (Or.inl rfl) (pe_ix ix_list (pe_lst (pa_cons pe_str (pa_cons pe_str (pa_cons pe_str (pa_cons pe_str (pa_cons pe_str pa_nil)))))) (pe_call c_law_take.G (hr.mono (by decide)) (by rfl) c_law_take.m c_law_take.kp c_law_take.b .nil pass0 (pa_cons (pv 0) (pa_cons pe_int pa_nil))) (fun _ _ => rfl)))
        (pss_cons (ps_set (i := 6) sc_law_edit.nd rfl (Or.inl rfl) (pe_call c_law_some_key.G (hr.mono (by decide)) (by rfl) c_law_some_key.m c_law_some_key.kp c_law_some_key.b .nil pass0 (pa_cons (pv 0) (pa_cons (pe_dget hu (pv 2) (pv 3) (fun _ _ => rfl)) (pa_cons (pv 4) pa_nil)))))
        (pss_cut (ps_if (PW.pt (pw_and (pt_cmpR op_eq (pv 5) pe_str (nomark _)) (pw_and1 (pt_cmpR op_gt (pe_call c_law_take.G (hr.mono (by decide)) (by rfl) c_law_take.m c_law_take.kp c_law_take.b .nil pass0 (pa_cons (pv 0) (pa_cons pe_int pa_nil))) pe_int (nomark _))))) (pss_one (ps_set (i := 6) sc_law_edit.nd rfl (Or.inl rfl) (pe_call c_law_value.G (hr.mono (by decide)) (by rfl) c_law_value.m c_law_value.kp c_law_value.b .nil pass0 (pa_cons (pv 0) (pa_cons (pe_ix ix_tup (pe_ix ix_list (pv 4) pe_int (fun _ _ => rfl)) pe_int (fun _ _ => rfl)) (pa_cons pe_bl pa_nil)))))) pss_nil)
        (pss_cons (ps_if (PW.pt (pw_and (pt_cmpR op_eq (pv 5) pe_str (nomark _)) (pw_and1 (pt_cmpR op_gt (pe_callB call_len_seq (by rfl) z.len (by decide +kernel) (pa_cons (pv 4) pa_nil)) pe_int (nomark _))))) (pss_cons (ps_set (i := 7) sc_law_edit.nd rfl (Or.inl rfl) (pe_ix ix_list (pv 4) (pe_op op_add pe_int (pe_call c_law_take.G (hr.mono (by decide)) (by rfl) c_law_take.m c_law_take.kp c_law_take.b .nil pass0 (pa_cons (pv 0) (pa_cons (pe_op op_sub (pe_callB call_len_seq (by rfl) z.len (by decide +kernel) (pa_cons (pv 4) pa_nil)) pe_int) pa_nil)))) (fun _ _ => rfl)))
        (pss_one (ps_ret (pe_tup (pa_cons pe_str (pa_cons (pv 3) (pa_cons (pv 6) (pa_cons (pe_ix ix_tup (pv 7) pe_int (fun _ _ => rfl)) (pa_cons (pe_call c_law_value.G (hr.mono (by decide)) (by rfl) c_law_value.m c_law_value.kp c_law_value.b .nil pass0 (pa_cons (pv 0) (pa_cons (pe_ix ix_tup (pv 7) pe_int (fun _ _ => rfl)) (pa_cons (pe_ix ix_tup (pv 7) pe_int (fun _ _ => rfl)) pa_nil)))) pa_nil))))))))) pss_nil)
        (pss_cons (ps_if (PW.pt (pw_or (pt_cmpR op_eq (pv 5) pe_str (nomark _)) (pw_or1 (pt_cmpR op_eq (pv 5) pe_str (nomark _))))) (pss_one (ps_ret (pe_tup (pa_cons pe_str (pa_cons (pv 3) (pa_cons (pv 6) pa_nil)))))) pss_nil)
        (pss_one (ps_ret (pe_tup (pa_cons (pv 5) (pa_cons (pv 3) (pa_cons (pe_op op_catA (pe_tup (pa_cons (pv 6) pa_nil)) (pe_call c_law_rest.G (hr.mono (by decide)) (by rfl) c_law_rest.m c_law_rest.kp c_law_rest.b .nil pass0 (pa_cons (pv 0) (pa_cons (pv 4) pa_nil)))) pa_nil))))))))))))), ?_⟩
    have lks : (schK s).length = s.length := by unfold schK; rw [List.length_map]
    refine ⟨_, rfl, S, schK s, rfl, .inl A.sk, .inr ⟨schN s, sch_keys s⟩, fun ys P hper hsrt hP => ?_⟩
    rw [sch_keys] at hper
    have s1 := same_new hP (.lst (ys.map kV))
    have hP1 : (upd H P (.lst (ys.map kV))) P = some (.lst (ys.map kV)) := upd_same
    have T1 := Tp0.mono s1
    generalize upd H P (.lst (ys.map kV)) = H1 at s1 hP1 T1 ⊢
    have ly : ys.length = s.length := by have := hper.length_eq; unfold schN at this; rw [List.length_map, List.length_map] at this; exact this
    refine ⟨_, rfl, _, rfl, S, schK s, rfl, s1 _ _ A.sk, t, c, cs, _, rfl, T1, ?_, ?_, fun d1 H2 d10 d11 T2 x2 => ?_⟩
    · rw [lks]; omega
    · rw [lks]; exact Nat.lt_of_le_of_lt (m := 6) (by omega) (by decide +kernel)
    have Pt : P ≠ t := fun z => by
      obtain ⟨_, _, _, _, e, _⟩ := T1.dk
      rw [← z, hP1] at e; cases e
    obtain ⟨vn, hv1, hv2⟩ := at_in (xs := ys.map kV) d10 (by rw [List.length_map, ly, ← lks]; exact d11)
    obtain ⟨kn, hkn, rfl⟩ := List.mem_map.mp hv2
    obtain ⟨nm, hnm, rfl⟩ := List.mem_map.mp (hper.mem_iff.mp hkn)
    obtain ⟨p, hp, rfl⟩ := List.mem_map.mp hnm
    refine ⟨P, _, _, .str p.2.n, rfl, rfl, SqL.of (x2 _ _ hP1 Pt), hv1, ?_⟩
    have X2 := (SameX.of s1).trans x2
    have A2 := A.monoX Tp0 X2
    have tvp := tv p hp
    refine ⟨_, rfl, _, rfl, S, _, rfl, sch_getK A2.sk A2.nm hp, p.1.d, _, rfl, (A2.ds p hp).gc, ?_⟩
    refine ⟨(by show 5 ≤ sizeLine; decide), fun L hL => ?_⟩
    have s3 := same_new hL (.lst [V.str "insert", V.str "insert", V.str "replace", V.str "set", V.str "delete"])
    refine ⟨_, rfl, t, c, cs, 5, rfl, T2.mono s3, by decide, by decide +kernel, fun d2 H4 d20 d21 T4 x4 => ?_⟩
    have Ltt : L ≠ t := fun z => by
      obtain ⟨_, _, _, _, e, _⟩ := T2.dk
      rw [← z, hL] at e; cases e
    obtain ⟨kv, hw1, hw2⟩ := at_in (xs := [V.str "insert", V.str "insert", V.str "replace", V.str "set", V.str "delete"]) d20 (by exact d21)
    refine ⟨L, _, _, kv, rfl, rfl, SqL.of (x4 _ _ upd_same Ltt), hw1, ?_⟩
    have X4 := X2.trans ((SameX.of s3).trans x4)
    have A4 := A.monoX Tp0 X4
    obtain ⟨pt, hpt, ept⟩ := st_in (st := st) (n := p.2.n) (W.names rfl (t := p.2) (List.mem_map.mpr ⟨p, hp, rfl⟩))
    have gT : DGet H4 T (.str p.2.n) (some (.ref pt.d)) := by
      have g := DGet.k (k := (Sum.inr p.2.n : Key)) (X4 _ _ hT.sk Tt)
      rw [← ept, st_get hT.nm hpt] at g
      rw [← ept]; exact g
    have Td4 : TAt H4 pt.d pt.rs := (hT.ds pt hpt).mono (KeepT.ofX Tp0 X4) (fun o e => X4 _ _ e (dt pt hpt))
    have pm : (pt.n, rM pt.rs) ∈ stM st := List.mem_map.mpr ⟨pt, hpt, rfl⟩
    have lr : pt.rs.length ≤ 180 := by have := W.ln _ pm; unfold rM at this; rw [List.length_map] at this; omega
    obtain ⟨c0, hc0⟩ : ∃ c, p.2.cols[0]? = some c := ⟨p.2.cols[0]'(by have := tvp.l0; omega), List.getElem?_eq_getElem _⟩
    refine ⟨_, rfl, _, rfl, _, rfl, T, _, rfl, gT, _, rfl, t, c, pt.d, p.1.c, cs, pt.rs, p.2.cols, rfl, T4, Td4, by omega, (A4.ds p hp).co, tvp.co, tvp.l0, dt pt hpt, (fun r hr => MK _ pm p.2 (List.mem_map.mpr ⟨p, hp, rfl⟩) ept.symm (r.k, r.vs) (List.mem_map.mpr ⟨r, hr, rfl⟩)), fun key H5 hkey hke T5 x5 => ?_⟩
    have X5 := X4.trans x5
    refine ⟨fun σ H' => ∃ key, σ = [some (.ref t), some (.ref S), some (.ref T), some (.str p.2.n), some (.ref p.1.c), some kv, some key, none] ∧ keyB p.2.cols key = true ∧ valE key ∧ TapeAt H' t c cs ∧ SameX t H H', ?_, ?_⟩
    · have sc : scal kv (.str "insert") = true := by
        simp only [List.mem_cons, List.not_mem_nil, or_false] at hw2
        rcases hw2 with rfl | rfl | rfl | rfl | rfl <;> rfl
      refine ⟨_, rfl, sc, _, rfl, ?_⟩
      refine ifD (fun _ => ?_) (fun _ => ⟨key, rfl, hkey, hke, T5, X5⟩)
      refine ⟨_, rfl, t, c, cs, 4, rfl, T5, by decide, by decide +kernel, fun d3 H6 d30 d31 T6 x6 => ⟨_, _, rfl, rfl, _, rfl, ?_⟩⟩
      have X6 := X5.trans x6
      refine ifD (fun _ => ?_) (fun _ => ⟨key, rfl, hkey, hke, T6, X6⟩)
      obtain ⟨as, ca, k1, k2, k3⟩ := ((A.monoX Tp0 X6).ds p hp).co.get hc0
      refine ⟨_, rfl, _, rfl, p.1.c, _, _, .ref ca, rfl, rfl, SqL.of k1, at_ofN (j := 0) rfl k2, ca, _, _, .str c0.k, rfl, rfl, SqT.of k3, at_ofN (j := 1) rfl rfl, t, c, cs, c0.k, false, rfl, T6, fun v H7 hv T7 x7 => ?_⟩
      exact ⟨v, rfl, by rw [keyB_at hc0]; exact hv.fitB (tvp.co.kd c0 (List.mem_of_getElem? hc0)) (fun z => nomatch z), hv.e, T7, X6.trans x7⟩
    rintro σ H6 ⟨key, rfl, hkey, hke, T6, X6⟩
    have A6 := A.monoX Tp0 X6
    have fit : ∀ e, edT e = p.2.n → rowBad p.2.cols e = false → edK e = key → EdFit s e := fun e e1 e2 e3 => ⟨p, hp, e1.symm, e2, by rw [e3]; exact hkey⟩
    have sok : PyData.strOk p.2.n = true := tvp.nm.str
    have sc2 : scal kv (.str "set") = true ∧ scal kv (.str "delete") = true := by
      simp only [List.mem_cons, List.not_mem_nil, or_false] at hw2
      rcases hw2 with rfl | rfl | rfl | rfl | rfl <;> exact ⟨rfl, rfl⟩
    obtain ⟨as, ca0, k1, k2, k3⟩ := (A6.ds p hp).co.get hc0
    obtain ⟨as', k1', k4⟩ := (A6.ds p hp).co
    rw [k1] at k1'
    cases k1'
    have las : as.length = p.2.cols.length := by have := k4.length; rw [List.length_map] at this; exact this
    have del : ∀ {D' : Ends}, D'.rt = Q → kv = .str "set" ∨ kv = .str "delete" → L2.tRet (tTup (tCons (tC (.str "delete")) (tCons (tVar 3) (tCons (tVar 6) tNil)))) D' [some (.ref t), some (.ref S), some (.ref T), some (.str p.2.n), some (.ref p.1.c), some kv, some key, none] H6 := fun {D'} hD _ => by
      refine ⟨_, rfl, _, rfl, (by show 3 ≤ sizeLine; decide), fun r hr2 => ?_⟩
      rw [hD]
      have sr := same_new hr2 (.tup [.str "delete", .str p.2.n, key])
      exact q (.ref r) (.del p.2.n key) _ (.t upd_same (.cons (.s rfl) (.cons (.s rfl) (.cons (.s hke.scal) .nil)))) ⟨sok, hke⟩ (fit _ rfl rfl rfl) (T6.mono sr) (X6.trans (SameX.of sr))
    refine ⟨_, rfl, sc2.1, _, rfl, ?_⟩
    refine ifD (fun hset => ?_) (fun hset => ?_)
    · refine ⟨_, rfl, p.1.c, as, rfl, .inl (SqL.of k1), _, _, rfl, rfl, _, rfl, ?_⟩
      refine ifD (fun hmore => ?_) (fun hmore => ?_)
      · refine ⟨_, rfl, _, rfl, _, rfl, p.1.c, as, rfl, .inl (SqL.of k1), _, _, rfl, rfl, t, c, cs, _, rfl, T6, ?_, ?_, fun d4 H7 d40 d41 T7 x7 => ?_⟩
        · omega
        · have := tvp.l8; exact Nat.lt_of_le_of_lt (m := 8) (by omega) (by decide +kernel)
        have X7 := X6.trans x7
        have hi : (1 + d4.toNat) < p.2.cols.length := by omega
        have ecl : p.2.cols[1 + d4.toNat]? = some (p.2.cols[1 + d4.toNat]'hi) := List.getElem?_eq_getElem hi
        have ecd : (p.2.cols.drop 1)[d4.toNat]? = some (p.2.cols[1 + d4.toNat]'hi) := by rw [List.getElem?_drop]; exact ecl
        generalize p.2.cols[1 + d4.toNat]'hi = col at ecl ecd
        obtain ⟨as2, ca, m1, m2, m3⟩ := ((A.monoX Tp0 X7).ds p hp).co.get ecl
        refine ⟨_, _, rfl, rfl, p.1.c, _, _, .ref ca, rfl, rfl, SqL.of m1, at_ofN (j := 1 + d4.toNat) (by omega) m2, ?_⟩
        refine ⟨_, rfl, _, rfl, _, rfl, ca, _, _, .str col.n, rfl, rfl, SqT.of m3, at_ofN (j := 0) rfl rfl, _, rfl, _, rfl, ca, _, _, .str col.k, rfl, rfl, SqT.of m3, at_ofN (j := 1) rfl rfl, _, rfl, ca, _, _, .bl col.b, rfl, rfl, SqT.of m3, at_ofN (j := 2) rfl rfl, t, c, cs, col.k, col.b, rfl, T7, fun v H8 hv T8 x8 => ?_⟩
        refine ⟨(by show 5 ≤ sizeLine; decide), fun r hr2 => ?_⟩
        have sr := same_new hr2 (.tup [.str "set", .str p.2.n, key, .str col.n, v])
        have hcm : col ∈ p.2.cols := List.mem_of_getElem? ecl
        have nmo := (tvp.co.fr col.n (List.mem_map.mpr ⟨col, hcm, rfl⟩)).2
        refine q (.ref r) (.set p.2.n key (.str col.n) v) _ (.t upd_same (.cons (.s rfl) (.cons (.s rfl) (.cons (.s hke.scal) (.cons (.s rfl) (.cons (.s hv.e.scal) .nil)))))) ⟨sok, hke, ?_, hv.e⟩ (fit _ rfl ?_ rfl) (T8.mono sr) (X7.trans (x8.trans (SameX.of sr)))
        · exact ⟨by have := nmo.1; omega, fun c hc => (nmo.2.2 c hc).ok⟩
        · show (!setB p.2.cols (.str col.n) v) = false
          rw [setB_col tvp.co.nd (List.mem_of_getElem? ecd) (hv.fitB (tvp.co.kd col hcm) (fun z => z))]; rfl
      · refine ⟨_, rfl, sc2.2, _, rfl, ifD (fun z => del rfl (.inr z)) (fun _ => ?_)⟩
        exact ⟨_, rfl, sc2.1, _, rfl, ifD (fun z => del rfl (.inl z)) (fun z => absurd hset z)⟩
    refine ⟨_, rfl, sc2.2, _, rfl, ifD (fun z => del rfl (.inr z)) (fun hdel => ?_)⟩
    refine ⟨_, rfl, sc2.1, _, rfl, ifD (fun z => absurd z hset) (fun _ => ?_)⟩
    obtain ⟨ins, rfl⟩ : ∃ ins : Bool, kv = .str (if ins = true then ("insert" : Str) else ("replace" : Str)) := by
      simp only [List.mem_cons, List.not_mem_nil, or_false] at hw2
      rcases hw2 with rfl | rfl | rfl | rfl | rfl
      · exact ⟨true, rfl⟩
      · exact ⟨true, rfl⟩
      · exact ⟨false, rfl⟩
      · exact absurd rfl hset
      · exact absurd rfl hdel
    refine ⟨_, rfl, _, rfl, _, rfl, (by show 1 ≤ sizeLine; decide), fun x1 hx1 => ?_⟩
    have sx := same_new hx1 (.tup [key])
    have x1t : x1 ≠ t := fun z => by
      obtain ⟨_, _, _, _, e, _⟩ := T6.dk
      rw [← z, hx1] at e; cases e
    refine ⟨_, rfl, _, rfl, t, c, p.1.c, cs, p.2.cols, rfl, T6.mono sx, ((A6.ds p hp).mono sx).co, (by have := tvp.l0; omega), (by have := tvp.l8; omega), fun pr ws H8 np h8 hro T8 x8 => ?_⟩
    have lw := hro.1
    refine cat_any (x8 _ _ upd_same x1t) h8 (by rw [List.length_cons, List.length_nil]; have := tvp.l8; omega) (fun x2 H9 h9 s9 => ?_)
    refine ⟨(by show 3 ≤ sizeLine; decide), fun r hr2 => ?_⟩
    have hrow := rowB_mk tvp.co.kd hc0 hkey hro
    have hwe := rest_e hro
    have X9 := X6.trans ((SameX.of sx).trans (x8.trans (SameX.of s9)))
    cases ins with
    | true =>
      have sr := same_new hr2 (.tup [.str "insert", .str p.2.n, .ref x2])
      exact q (.ref r) (.row true p.2.n (key :: ws)) _ (.t upd_same (.cons (.s rfl) (.cons (.s rfl) (.cons (.t (sr _ _ h9) (TpL.scal (fun v hv => by rcases List.mem_cons.mp hv with rfl | hv; exact hke.scal; exact (hwe v hv).scal))) .nil)))) ⟨sok, by rw [List.length_cons]; have := tvp.l8; omega, fun v hv => by rcases List.mem_cons.mp hv with rfl | hv; exact hke; exact hwe v hv⟩ (fit _ rfl (by show (!rowB p.2.cols (key :: ws)) = false; rw [hrow]; rfl) rfl) ((T8.mono s9).mono sr) (X9.trans (SameX.of sr))
    | false =>
      have sr := same_new hr2 (.tup [.str "replace", .str p.2.n, .ref x2])
      exact q (.ref r) (.row false p.2.n (key :: ws)) _ (.t upd_same (.cons (.s rfl) (.cons (.s rfl) (.cons (.t (sr _ _ h9) (TpL.scal (fun v hv => by rcases List.mem_cons.mp hv with rfl | hv; exact hke.scal; exact (hwe v hv).scal))) .nil)))) ⟨sok, by rw [List.length_cons]; have := tvp.l8; omega, fun v hv => by rcases List.mem_cons.mp hv with rfl | hv; exact hke; exact hwe v hv⟩ (fit _ rfl (by show (!rowB p.2.cols (key :: ws)) = false; rw [hrow]; rfl) rfl) ((T8.mono s9).mono sr) (X9.trans (SameX.of sr)))
theorem ok_law_key_of {f : Addr} {fd : FuncData} (k : Kn K mg "_law_key_of" s_law_key_of ["edit"] f fd) (z : Z mg) :
    Cal P w K mg base 1 "_law_key_of" ["edit"] (spKeyOfE) f fd := k.cal (by
  refine k.F.ok sc_law_key_of (fun vs H Q E h => ?_) (fun cdv A outer s H vs Q E hr h => ?_)
  · obtain ⟨v, e, rfl, _⟩ := h; rfl
  · obtain ⟨v, e, rfl, he, hf, q⟩ := h
    refine ⟨_, (pss_cons (ps_if (PW.pt (pw_or (pt_cmpR op_eq (pe_ix ix_tup (pv 0) pe_int (fun _ _ => rfl)) pe_str (nomark _)) (pw_or1 (pt_cmpR op_eq (pe_ix ix_tup (pv 0) pe_int (fun _ _ => rfl)) pe_str (nomark _))))) (pss_one (ps_ret (pe_ix ix_tup (pe_ix ix_tup (pv 0) pe_int (fun _ _ => rfl)) pe_int (fun _ _ => rfl)))) pss_nil)
        (pss_one (ps_ret (pe_ix ix_tup (pv 0) pe_int (fun _ _ => rfl))))), ?_⟩
    obtain ⟨a, ys, rfl, h1, hys⟩ := ed_head he
    refine ⟨_, rfl, a, _, _, .str (edA e), rfl, rfl, SqT.of h1, at_ofN (j := 0) rfl rfl, rfl, _, rfl, ?_⟩
    cases e with
    | row b t r =>
      obtain ⟨u, us, rfl, k1, h3⟩ := hys.c1
      obtain ⟨p, zs, rfl, h4, h5⟩ := t_at k1
      have := scal_L h5
      subst this
      cases zs with
      | nil => exact absurd rfl hf
      | cons x r =>
        have fin := q H (Same.refl _)
        cases b with
        | true => exact ifD (fun _ => ⟨_, rfl, a, _, _, .ref p, rfl, rfl, SqT.of h1, at_ofN (j := 2) rfl rfl, p, _, _, x, rfl, rfl, SqT.of h4, at_ofN (j := 0) rfl rfl, fin⟩) (fun z => absurd rfl z)
        | false =>
          refine ifD (fun z => absurd z (by show ¬ V.str "replace" = V.str "insert"; decide +kernel)) (fun _ => ?_)
          refine ⟨_, rfl, a, _, _, .str "replace", rfl, rfl, SqT.of h1, at_ofN (j := 0) rfl rfl, rfl, _, rfl, ifD (fun _ => ?_) (fun z => absurd rfl z)⟩
          exact ⟨_, rfl, a, _, _, .ref p, rfl, rfl, SqT.of h1, at_ofN (j := 2) rfl rfl, p, _, _, x, rfl, rfl, SqT.of h4, at_ofN (j := 0) rfl rfl, fin⟩
    | set t k c w =>
      refine ifD (fun z => absurd z (by show ¬ V.str "set" = V.str "insert"; decide +kernel)) (fun _ => ?_)
      refine ⟨_, rfl, a, _, _, .str "set", rfl, rfl, SqT.of h1, at_ofN (j := 0) rfl rfl, rfl, _, rfl, ifD (fun z => absurd z (by show ¬ V.str "set" = V.str "replace"; decide +kernel)) (fun _ => ?_)⟩
      obtain ⟨u, us, rfl, k1, h3⟩ := hys.c1
      rw [k1.s1] at h1
      exact ⟨_, rfl, a, _, _, k, rfl, rfl, SqT.of h1, at_ofN (j := 2) rfl rfl, q H (Same.refl _)⟩
    | del t k =>
      refine ifD (fun z => absurd z (by show ¬ V.str "delete" = V.str "insert"; decide +kernel)) (fun _ => ?_)
      refine ⟨_, rfl, a, _, _, .str "delete", rfl, rfl, SqT.of h1, at_ofN (j := 0) rfl rfl, rfl, _, rfl, ifD (fun z => absurd z (by show ¬ V.str "delete" = V.str "replace"; decide +kernel)) (fun _ => ?_)⟩
      obtain ⟨u, us, rfl, k1, h3⟩ := hys.c1
      rw [k1.s1] at h1
      exact ⟨_, rfl, a, _, _, k, rfl, rfl, SqT.of h1, at_ofN (j := 2) rfl rfl, q H (Same.refl _)⟩)
theorem ok_law_right {f : Addr} {fd : FuncData} (k : Kn K mg "_law_right" s_law_right ["state", "edit"] f fd) (z : Z mg)
    {g_law_key_of : Addr} {gd_law_key_of : FuncData} (c_law_key_of : Cal P w K mg base 1 "_law_key_of" ["edit"] (spKeyOfE) g_law_key_of gd_law_key_of) :
    Cal P w K mg base 2 "_law_right" ["state", "edit"] (spRightE) f fd := k.cal (by
  refine k.F.ok sc_law_right (fun vs H Q E h => ?_) (fun cdv A outer s H vs Q E hr h => ?_)
  · obtain ⟨T, st, v, e, rfl, _⟩ := h; rfl
  · obtain ⟨T, st, v, e, rfl, hT, hn, he, hf, hk, q⟩ := h
    have hu := hu_of hr
    refine ⟨_, (pss_one (ps_ret (pe_cmpR op_ne (pe_cmp (pc_din hu (pe_call c_law_key_of.G (hr.mono (by decide)) (by rfl) c_law_key_of.m c_law_key_of.kp c_law_key_of.b .nil pass0 (pa_cons (pv 1) pa_nil)) (pe_dget hu (pv 0) (pe_ix ix_tup (pv 1) pe_int (fun _ _ => rfl)) (fun _ _ => rfl))) rfl) (pe_cmpR op_eq (pe_ix ix_tup (pv 1) pe_int (fun _ _ => rfl)) pe_str (nomark _)) (nomark _)))), ?_⟩
    refine ⟨_, rfl, v, e, rfl, he, hf, fun H1 s1 => ?_⟩
    obtain ⟨a, ys, rfl, h1, _⟩ := ed_head (he.mono (KeepT.of s1))
    obtain ⟨pt, hpt, ept⟩ := st_in hn
    have hT1 := hT.mono s1
    have gT : DGet H1 T (.str (edT e)) (some (.ref pt.d)) := by rw [← ept]; exact hT1.get hpt
    have gK : DGet H1 pt.d (edK e) (valV (roK pt.rs) (keyOf (edK e))) := by
      have g := DGet.k (k := keyOf (edK e)) (hT1.ds pt hpt).dk
      rw [← hk] at g
      exact g
    have er : rwsOf (stM st) (edT e) = rM pt.rs := by rw [← ept]; exact rwsOf_in hT.nm hpt
    rw [er] at q
    refine ⟨_, rfl, _, rfl, a, _, _, .str (edT e), rfl, rfl, SqT.of h1, at_ofN (j := 1) rfl rfl, T, _, rfl, gT, pt.d, _, rfl, gK, _, rfl, a, _, _, .str (edA e), rfl, rfl, SqT.of h1, at_ofN (j := 0) rfl rfl, rfl, rfl, ?_⟩
    rw [hasK_ro, isIns_eq]
    have e9 : (!decide (V.bl (hasK (rM pt.rs) (keyOf (edK e))) = V.bl (isIns e))) = decide (hasK (rM pt.rs) (keyOf (edK e)) ≠ isIns e) := by
      rw [Bool.eq_iff_iff]
      simp
    rw [e9]
    exact q H1 s1)
theorem ok_law_do {f : Addr} {fd : FuncData} (k : Kn K mg "_law_do" s_law_do ["schema", "state", "edit"] f fd) (z : Z mg)
    {g_law_key_of : Addr} {gd_law_key_of : FuncData} (c_law_key_of : Cal P w K mg base 1 "_law_key_of" ["edit"] (spKeyOfE) g_law_key_of gd_law_key_of)
    {g_law_names : Addr} {gd_law_names : FuncData} (c_law_names : Cal P w K mg base 1 "_law_names" ["columns"] (spNames) g_law_names gd_law_names) :
    Cal P w K mg base 2 "_law_do" ["schema", "state", "edit"] (spLawDo) f fd := k.cal (by
  refine k.F.ok sc_law_do (fun vs H Q E h => ?_) (fun cdv A outer s H vs Q E hr h => ?_)
  · obtain ⟨S, s, T, st, v, e, b, rfl, _⟩ := h; rfl
  · obtain ⟨S, s, T, st, v, e, b, rfl, hS, hT, nd, he, ok, hc, W, hb, q⟩ := h
    have hu := hu_of hr
    refine ⟨_, (pss_cons (ps_set (i := 3) sc_law_do.nd rfl (Or.inl rfl) (pe_dget hu (pv 1) (pe_ix ix_tup (pv 2) pe_int (fun _ _ => rfl)) (fun _ _ => rfl)))
        (pss_cons (ps_set (i := 4) sc_law_do.nd rfl (Or.inl rfl) (pe_call c_law_key_of.G (hr.mono (by decide)) (by rfl) c_law_key_of.m c_law_key_of.kp c_law_key_of.b .nil pass0 (pa_cons (pv 2) pa_nil)))
        (pss_one (ps_if (pt_cmpR op_eq (pe_ix ix_tup (pv 2) pe_int (fun _ _ => rfl)) pe_str (nomark _)) (pss_one (ps_expr (pe_dpop1 (pv 3) (pv 4) ⟨rfl, rfl, rfl, rfl⟩))) (pss_one (ps_if (pt_cmpR op_eq (pe_ix ix_tup (pv 2) pe_int (fun _ _ => rfl)) pe_str (nomark _)) (pss_cons (ps_set (i := 5) sc_law_do.nd rfl (Or.inl rfl) (pe_bm PySem.F.plainAttrs_list PySem.F.slot_list_index PySem.F.type_list_index mt_index (pe_call c_law_names.G (hr.mono (by decide)) (by rfl) c_law_names.m c_law_names.kp c_law_names.b .nil pass0 (pa_cons (pe_dget hu (pe_dget hu (pv 0) (pe_ix ix_tup (pv 2) pe_int (fun _ _ => rfl)) (fun _ _ => rfl)) pe_str (fun _ _ => rfl)) pa_nil)) (pa_cons (pe_ix ix_tup (pv 2) pe_int (fun _ _ => rfl)) pa_nil)))
        (pss_cons (ps_set (i := 6) sc_law_do.nd rfl (Or.inl rfl) (pe_op op_catA (pe_tup (pa_cons (pv 4) pa_nil)) (pe_dget hu (pv 3) (pv 4) (fun _ _ => rfl))))
        (pss_one (ps_dput hu (pv 3) (pv 4) (pe_slice sl_tupA (pe_op op_catA (pe_op op_catA (pe_slice sl_tupA (pv 6) po_none (po_some (pv 5))) (pe_tup (pa_cons (pe_ix ix_tup (pv 2) pe_int (fun _ _ => rfl)) pa_nil))) (pe_slice sl_tupA (pv 6) (po_some (pe_op op_add (pv 5) pe_int)) po_none)) (po_some pe_int) po_none) rfl)))) (pss_one (ps_dput hu (pv 3) (pv 4) (pe_slice sl_tupA (pe_ix ix_tup (pv 2) pe_int (fun _ _ => rfl)) (po_some pe_int) po_none) rfl)))))))), ?_⟩
    obtain ⟨a, ys, rfl, h1, hys⟩ := ed_head he
    obtain ⟨t, g1, g2, g3, g4⟩ := edC_good hc
    obtain ⟨ht1, htn⟩ := tabOf_mem g1
    obtain ⟨p, hp, hpt⟩ := List.mem_map.mp ht1
    subst hpt
    have tv := hS.ok p hp
    have l40 : p.2.cols.length ≤ 40 := by have := tv.l8; omega
    obtain ⟨pt, hpt, ept⟩ := st_in (st := st) (n := edT e) (by rw [← htn]; exact W.names rfl ht1)
    have er1 : rwsOf (stM st) (edT e) = rM pt.rs := by rw [← ept]; exact rwsOf_in hT.nm hpt
    have good : EdGood p.2.cols pt.rs e := ⟨g2, g3, by rw [← er1]; exact g4⟩
    have full := good.full
    have ekey := keyB_key tv.co g3
    have gT : DGet H T (.str (edT e)) (some (.ref pt.d)) := by rw [← ept]; exact hT.get hpt
    have gS : DGet H S (.str (edT e)) (some (.ref p.1.d)) := by rw [← htn]; exact sch_getK hS.sk hS.nm hp
    have D := hS.ds p hp
    have T0 := hT.ds pt hpt
    have pm : (pt.n, rM pt.rs) ∈ stM st := List.mem_map.mpr ⟨pt, hpt, rfl⟩
    have lr : pt.rs.length ≤ 180 := by have := W.ln _ pm; unfold rM at this; rw [List.length_map] at this; omega
    have wd : ∀ r ∈ pt.rs, r.vs.length + 1 = p.2.cols.length := fun r hr => W.wd _ pm p.2 ht1 (by show p.2.n = pt.n; rw [htn, ept]) (r.k, r.vs) (List.mem_map.mpr ⟨r, hr, rfl⟩)
    have fin : ∀ H2 rs', Same H H2 → (∀ r ∈ rs', H2 r.a = some (.tup r.vs)) → (roN rs').Nodup → rM rs' = rowsAfter p.2.cols (rM pt.rs) e → Q .non (upd H2 pt.d (.dK (roK rs'))) := fun H2 rs' s2 rt kn em => by
      obtain ⟨A2, dm⟩ := (hT.mono s2).own nd hpt rt kn
      refine q _ _ A2 ?_ dm (own_same hpt s2) (own_keep (s2 _ _ T0.dk) s2)
      rw [replT_M, ept]
      exact edM_eq hT.nm rfl hpt ept g1 em
    refine ⟨_, rfl, _, rfl, a, _, _, .str (edT e), rfl, rfl, SqT.of h1, at_ofN (j := 1) rfl rfl, T, _, rfl, gT, ?_⟩
    refine ⟨_, rfl, .ref a, e, rfl, he, full, fun H1 s1 => ?_⟩
    have h11 := s1 _ _ h1
    have T1 := T0.mono (KeepT.of s1) (fun o => s1 _ _)
    refine ⟨_, rfl, a, _, _, .str (edA e), rfl, rfl, SqT.of h11, at_ofN (j := 0) rfl rfl, rfl, _, rfl, ?_⟩
    cases e with
    | del tn k =>
      refine ifD (fun _ => ?_) (fun z => absurd rfl z)
      have hk : hasK (rM pt.rs) (keyOf k) = true := by
        have h7 : hasK (rM pt.rs) (keyOf k) ≠ false := good.kk
        cases h : hasK (rM pt.rs) (keyOf k) with
        | true => rfl
        | false => exact absurd h h7
      obtain ⟨r, hr, ekr⟩ := ro_mem (rs := pt.rs) (k := keyOf k) (by rw [← hasK_ro, valV_isSome, roK_keys] at hk; exact hk)
      refine ⟨_, rfl, pt.d, rfl, .inl ⟨_, .inl T1.dk⟩, _, rfl, roK pt.rs, keyOf k, .ref r.a, T1.dk, ekey, by rw [← ekr]; exact ro_get T1.nd hr, ?_⟩
      rw [roK_drop]
      exact fin H1 (dropRo pt.rs (keyOf k)) s1 (fun x hx => T1.rt x (List.mem_filter.mp hx).1) (dropRo_nd T1.nd _) (rM_drop pt.rs _)
    | set tn k c w =>
      refine ifD (fun z => absurd z (by show ¬ V.str "set" = V.str "delete"; decide +kernel)) (fun _ => ?_)
      refine ⟨_, rfl, a, _, _, .str "set", rfl, rfl, SqT.of h11, at_ofN (j := 0) rfl rfl, rfl, _, rfl, ifD (fun _ => ?_) (fun z => absurd rfl z)⟩
      have hk : hasK (rM pt.rs) (keyOf k) = true := by
        have h7 : hasK (rM pt.rs) (keyOf k) ≠ false := good.kk
        cases h : hasK (rM pt.rs) (keyOf k) with
        | true => rfl
        | false => exact absurd h h7
      obtain ⟨r, hr, ekr⟩ := ro_mem (rs := pt.rs) (k := keyOf k) (by rw [← hasK_ro, valV_isSome, roK_keys] at hk; exact hk)
      have ek' : k = kV (keyOf k) := ekey
      have hset : (setC p.2.cols c).isSome = true := by
        have h6 : (!setB p.2.cols c w) = false := good.rb
        unfold setB at h6
        cases h7 : setC p.2.cols c with
        | none => rw [h7] at h6; cases h6
        | some col => rfl
      obtain ⟨col, hcol⟩ := Option.isSome_iff_exists.mp hset
      obtain ⟨rfl, hm⟩ := setC_some hcol
      have hin : col.n ∈ colNs p.2.cols := List.mem_map.mpr ⟨col, List.mem_of_mem_drop hm, rfl⟩
      obtain ⟨p1, p2⟩ := idx_pos tv.co.nd (List.mem_map.mpr ⟨col, hm, rfl⟩ : col.n ∈ colNs (p.2.cols.drop 1))
      obtain ⟨z, i1, i2, i3, i4⟩ := ix_names hin
      obtain ⟨j, ej⟩ : ∃ j, (colNs p.2.cols).idxOf col.n = j + 1 := ⟨(colNs p.2.cols).idxOf col.n - 1, by omega⟩
      have wr := wd r hr
      obtain ⟨a', e', h5⟩ := set_at he
      cases e'
      have h51 := s1 _ _ h5
      have D1 := D.mono s1
      have gS1 : DGet H1 S (.str tn) (some (.ref p.1.d)) := by have := sch_getK (hS.mono s1).sk hS.nm hp; rw [htn] at this; exact this
      refine ⟨_, rfl, _, rfl, a, _, _, .str tn, rfl, rfl, SqT.of h51, at_ofN (j := 1) rfl rfl, S, _, rfl, gS1, p.1.d, _, rfl, D1.gc, p.1.c, p.2.cols, rfl, D1.co, by omega, fun N H2 hN s2 hN2 => ?_⟩
      refine ⟨.inl ⟨rfl, _, SqL.of hN2⟩, _, rfl, a, _, _, .str col.n, rfl, rfl, SqT.of (s2 _ _ h51), at_ofN (j := 3) rfl rfl, N, _, _, (colNs p.2.cols).idxOf col.n, z, rfl, rfl, SqL.of hN2, rfl, i1, i2, i3, i4, ?_⟩
      have T2 := T1.mono (KeepT.of s2) (fun o => s2 _ _)
      have gR : ∀ {H'}, Same H2 H' → DGet H' pt.d k (some (.ref r.a)) := fun {H'} s' => by
        have g := (T2.mono (KeepT.of s') (fun o => s' _ _)).get hr
        rw [ekr, ← ek'] at g
        exact g
      refine ⟨_, rfl, (by show 1 ≤ sizeLine; decide), fun x1 hx1 => ?_⟩
      have s3 := same_new hx1 (.tup [k])
      refine ⟨_, rfl, _, rfl, pt.d, _, rfl, gR s3, ?_⟩
      refine cat_any upd_same (s3 _ _ (T2.rt r hr)) (by rw [List.length_cons, List.length_nil]; omega) (fun x2 H4 h4 s4 => ?_)
      have s24 := s3.trans s4
      refine ⟨_, rfl, _, rfl, _, rfl, cut_any h4 (fun x3 H5 h5' s5 => ?_)⟩
      have e5 : cutV ([k] ++ r.vs) none (some (((colNs p.2.cols).idxOf col.n : Nat) : Int)) = k :: r.vs.take j := by rw [ej]; exact cut_takeE _ _
      have h5 : H5 x3 = some (.tup (k :: r.vs.take j)) := by rw [h5']; exact congrArg (fun z => some (HO.tup z)) e5
      have s25 := s24.trans s5
      refine ⟨_, rfl, a, _, _, w, rfl, rfl, SqT.of (s25 _ _ (s2 _ _ h51)), at_ofN (j := 4) rfl rfl, (by show 1 ≤ sizeLine; decide), fun x4 hx4 => ?_⟩
      have s6 := same_new hx4 (.tup [w])
      refine cat_any (s6 _ _ h5) upd_same (by rw [List.length_cons, List.length_take, List.length_cons, List.length_nil]; omega) (fun x5 H7 h7 s7 => ?_)
      have s57 := s6.trans s7
      refine ⟨_, rfl, _, rfl, _, _, rfl, rfl, _, rfl, ?_⟩
      dsimp only [tNoPart]
      refine cut_any (s57 _ _ (s5 _ _ h4)) (fun x6 H8 h8' s8 => ?_)
      have e8 : cutV ([k] ++ r.vs) (some ((((colNs p.2.cols).idxOf col.n : Nat) : Int) + 1)) none = r.vs.drop (j + 1) := by
        have e81 : ((((colNs p.2.cols).idxOf col.n : Nat) : Int) + 1) = ((j + 2 : Nat) : Int) := by omega
        rw [e81, cut_back _ _ (by rw [List.length_append, List.length_cons, List.length_nil]; omega)]
        rfl
      have h8 : H8 x6 = some (.tup (r.vs.drop (j + 1))) := by rw [h8']; exact congrArg (fun z => some (HO.tup z)) e8
      refine cat_any (s8 _ _ h7) h8 (by simp only [List.length_append, List.length_cons, List.length_take, List.length_drop, List.length_nil]; omega) (fun x7 H9 h9 s9 => ?_)
      refine ⟨_, rfl, ?_⟩
      dsimp only [tNoPart]
      refine cut_any h9 (fun x8 H10 h10 s10 => ?_)
      rw [cut_tail] at h10
      have e10 : ((k :: r.vs.take j ++ [w]) ++ r.vs.drop (j + 1)).drop 1 = r.vs.set j w := by
        show (r.vs.take j ++ [w]) ++ r.vs.drop (j + 1) = _
        exact set_cut _ _ _ (by omega)
      have h10' : H10 x8 = some (.tup (setAt p.2.cols r.vs (.str col.n) w)) := by
        rw [h10, e10]
        show _ = some (HO.tup (r.vs.set ((colNs p.2.cols).idxOf col.n - 1) w))
        rw [ej]; rfl
      have s210 := s25.trans (s57.trans (s8.trans (s9.trans s10)))
      have T10 := T2.mono (KeepT.of s210) (fun o => s210 _ _)
      refine ⟨_, rfl, _, rfl, pt.d, _, rfl, (by show DPut H10 pt.d k _ _; rw [ek']; exact DPut.k (k := keyOf k) T10.dk (by unfold roK; rw [List.length_map]; exact small1000 (by omega))), ?_⟩
      have ep' : putK (roK pt.rs) (keyOf k) (.ref x8) = roK (putRo pt.rs ⟨keyOf k, x8, setAt p.2.cols r.vs (.str col.n) w⟩) := putRo_K pt.rs ⟨keyOf k, x8, setAt p.2.cols r.vs (.str col.n) w⟩
      rw [ep']
      refine fin H10 _ (s1.trans (s2.trans s210)) (fun x hx => ?_) (putRo_nd T1.nd _) ?_
      · rcases putRo_mem hx with ⟨_, e2, e3⟩ | hx
        · rw [e2, e3]; exact h10'
        · exact T10.rt x hx
      · show _ = putRw (rM pt.rs) (keyOf k) (setAt p.2.cols (restOf (rM pt.rs) (keyOf k)) (.str col.n) w)
        rw [rM_put, ← ekr, restOf_rM T1.nd hr]
    | row ins tn r =>
      refine ifD (fun z => absurd z (by cases ins <;> simp only [edA] <;> decide +kernel)) (fun _ => ?_)
      refine ⟨_, rfl, a, _, _, _, rfl, rfl, SqT.of h11, at_ofN (j := 0) rfl rfl, rfl, _, rfl, ifD (fun z => absurd z (by cases ins <;> simp only [edA] <;> decide +kernel)) (fun _ => ?_)⟩
      obtain ⟨b', pr, e', h5, h6⟩ := row_at he
      cases e'
      refine ⟨_, rfl, a, _, _, .ref pr, rfl, rfl, SqT.of (s1 _ _ h5), at_ofN (j := 2) rfl rfl, _, rfl, ?_⟩
      dsimp only [tNoPart]
      refine cut_any (s1 _ _ h6) (fun r' H3 h3 s3 => ?_)
      rw [cut_tail] at h3
      have T3 := T1.mono (KeepT.of s3) (fun o => s3 _ _)
      have ek' : r.headD .non = kV (keyOf (r.headD .non)) := ekey
      refine ⟨_, rfl, _, rfl, pt.d, _, rfl, (by show DPut H3 pt.d (r.headD .non) _ _; rw [ek']; exact DPut.k (k := keyOf (r.headD .non)) T3.dk (by unfold roK; rw [List.length_map]; exact small1000 (by omega))), ?_⟩
      have ep := putRo_K pt.rs ⟨keyOf (r.headD .non), r', r.drop 1⟩
      have ep' : putK (roK pt.rs) (keyOf (r.headD .non)) (.ref r') = roK (putRo pt.rs ⟨keyOf (r.headD .non), r', r.drop 1⟩) := ep
      rw [ep']
      refine fin H3 _ (s1.trans s3) (fun x hx => ?_) (putRo_nd T1.nd _) (rM_put _ _ _ _)
      rcases putRo_mem hx with ⟨_, e2, e3⟩ | hx
      · rw [e2, e3]; exact h3
      · exact T3.rt x hx)
theorem ok_law_write {f : Addr} {fd : FuncData} (k : Kn K mg "_law_write" s_law_write ["tape", "schema", "state", "most"] f fd) (z : Z mg)
    {g_law_copy : Addr} {gd_law_copy : FuncData} (c_law_copy : Cal P w K mg base 9 "_law_copy" ["thing"] (spCopyG 9) g_law_copy gd_law_copy)
    {g_law_take : Addr} {gd_law_take : FuncData} (c_law_take : Cal P w K mg base 1 "_law_take" ["tape", "many"] (spTake) g_law_take gd_law_take)
    {g_law_edit : Addr} {gd_law_edit : FuncData} (c_law_edit : Cal P w K mg base 6 "_law_edit" ["tape", "schema", "state"] (spLawEdit) g_law_edit gd_law_edit)
    {g_law_right : Addr} {gd_law_right : FuncData} (c_law_right : Cal P w K mg base 2 "_law_right" ["state", "edit"] (spRightE) g_law_right gd_law_right)
    {g_law_do : Addr} {gd_law_do : FuncData} (c_law_do : Cal P w K mg base 2 "_law_do" ["schema", "state", "edit"] (spLawDo) g_law_do gd_law_do) :
    Cal P w K mg base 10 "_law_write" ["tape", "schema", "state", "most"] (spLawWrite) f fd := k.cal (by
  refine k.F.ok sc_law_write (fun vs H Q E h => ?_) (fun cdv A outer s H vs Q E hr h => ?_)
  · obtain ⟨t, c, S, T, cs, s, st, b, most, rfl, _⟩ := h; rfl
  · obtain ⟨t, c, S, T, cs, s, st, b, most, rfl, Tp0, A, tv, l1, l6, hT, W, MS, hb, l100, MK, m30, q⟩ := h
    have hu := hu_of hr
    refine ⟨_, (pss_cons (ps_set (i := 2) sc_law_write.nd rfl (Or.inl rfl) (pe_call c_law_copy.G (hr.mono (by decide)) (by rfl) c_law_copy.m c_law_copy.kp c_law_copy.b .nil pass0 (pa_cons (pv 2) pa_nil)))
        (pss_cons (ps_set (i := 4) sc_law_write.nd rfl (Or.inl rfl) (pe_lst pa_nil))
        (pss_cons (ps_for PassesOwn.never rfl (pi_range1 (by rfl) z.range (pa_cons (pe_call c_law_take.G (hr.mono (by decide)) (by rfl) c_law_take.m c_law_take.kp c_law_take.b .nil pass0 (pa_cons (pv 0) (pa_cons (pe_op op_add (pv 3) pe_int) pa_nil))) pa_nil)) (pg_name (i := 5) sc_law_write.nd rfl (Or.inl rfl))
        (pss_one (ps_if (pt_cmpR op_gt (pe_callB call_lenD (by rfl) z.len (by decide +kernel) (pa_cons (pv 1) pa_nil)) pe_int (nomark _)) (pss_cons (ps_set (i := 6) sc_law_write.nd rfl (Or.inl rfl) (pe_call c_law_edit.G (hr.mono (by decide)) (by rfl) c_law_edit.m c_law_edit.kp c_law_edit.b .nil pass0 (pa_cons (pv 0) (pa_cons (pv 1) (pa_cons (pv 2) pa_nil)))))
        (pss_one (ps_if (pt_val (pe_call c_law_right.G (hr.mono (by decide)) (by rfl) c_law_right.m c_law_right.kp c_law_right.b .nil pass0 (pa_cons (pv 2) (pa_cons (pv 6) pa_nil)))) (pss_cons (ps_expr (pe_bm PySem.F.plainAttrs_list PySem.F.slot_list_append PySem.F.type_list_append mt_append (pv 4) (pa_cons (pv 6) pa_nil)))
        (pss_one (ps_expr (pe_call c_law_do.G (hr.mono (by decide)) (by rfl) c_law_do.m c_law_do.kp c_law_do.b .nil pass0 (pa_cons (pv 1) (pa_cons (pv 2) (pa_cons (pv 6) pa_nil))))))) pss_nil))) pss_nil)))
        (pss_one (ps_ret (pe_tup (pa_cons (pv 4) (pa_cons (pv 2) pa_nil)))))))), ?_⟩
    have ht0 : ∃ o, H t = some o := by obtain ⟨_, _, _, _, e, _⟩ := Tp0.dk; exact ⟨_, e⟩
    have lks : (schK s).length = s.length := by unfold schK; rw [List.length_map]
    have tnd : ((tbs s).map (·.n)).Nodup := by
      have := A.nm
      unfold tbs
      rw [List.map_map]
      exact this
    refine ⟨_, rfl, .ref T, stG st, _, rfl, hT.gM W MS (by omega) (by omega), Nat.lt_of_le_of_lt (st_dep st) (by decide), fun x' D' H1 g1 s1 f1 nd1 => ?_⟩
    obtain ⟨T0, st0, rfl, A0, em0, rfl⟩ := gp_st g1 hT.nm
    refine ⟨Nat.zero_le _, fun L hL => ?_⟩
    have L0 : H L = none := s1.free hL
    have s2 := s1.trans (same_new hL (.lst []))
    have A2 := A0.mono (same_new hL (.lst []))
    have hL2 : (upd H1 L (.lst [])) L = some (.lst []) := upd_same
    have LD : L ∉ stD T0 st0 := fun hm => g1.there L hm hL
    generalize upd H1 L (.lst []) = H2 at s2 A2 hL2 ⊢
    refine ⟨_, rfl, _, rfl, _, _, rfl, rfl, t, c, cs, _, rfl, Tp0.mono s2, by omega, Nat.lt_of_le_of_lt (m := 31) (by omega) (by decide +kernel), fun d H3 d0 d1 T3 x3 => ?_⟩
    have Lt0 : L ≠ t := fun z => by obtain ⟨o, e⟩ := ht0; rw [← z, L0] at e; cases e
    have frt : ∀ a ∈ stD T0 st0, a ≠ t := fun a ha z => by obtain ⟨o, e⟩ := ht0; rw [← z, f1 a ha] at e; cases e
    refine ⟨d, rfl, by omega, by omega, for_range (lo := 0) (n := d.toNat) (fun i σ H' => ∃ v5 v6 st' m xs es, σ = [some (.ref t), some (.ref S), some (.ref T0), some (.int (most : Nat)), some (.ref L), v5, v6] ∧ StAt H' T0 st' ∧ stM st' = m ∧ (stD T0 st').Nodup ∧ (∀ a ∈ stD T0 st', H a = none) ∧ L ∉ stD T0 st' ∧ MW (tbs s) m (b + i) ∧ MKy (tbs s) m ∧ H' L = some (.lst xs) ∧ TpL H' xs (es.map edD) ∧ (∀ e ∈ es, edOk e ∧ EdFit s e) ∧ es.length ≤ i ∧ TapeAt H' t c cs ∧ SameX t H H') ⟨none, none, st0, stM st, [], [], rfl, A2.frame (KeepT.ofX (Tp0.mono s2) x3) (fun a ha o e => x3 _ _ e (frt a ha)), em0, nd1, f1, LD, W, MK, x3 _ _ hL2 Lt0, .nil, (fun e he => by cases he), Nat.le_refl _, T3, (SameX.of s2).trans x3⟩ ?_ ?_⟩
    rotate_left
    · rintro σ H4 ⟨v5, v6, st', m, xs, es, rfl, A4, em, nd, fr, LD', W4, MK4, hL4, hx, hok, le, T4, X4⟩
      refine ⟨_, rfl, _, rfl, (by show 2 ≤ sizeLine; decide), fun r hr2 => ?_⟩
      have sr := same_new hr2 (.tup [V.ref L, V.ref T0])
      exact q L _ r xs es _ upd_same (sr _ _ hL4) (hx.mono (KeepT.of sr)) hok (by omega) L0 (T4.mono sr) (X4.trans (SameX.of sr))
    rintro i σ H4 hi ⟨v5, v6, st', m, xs, es, rfl, A4, em, nd, fr, LD', W4, MK4, hL4, hx, hok, le, T4, X4⟩
    have frt' : ∀ a ∈ stD T0 st', a ≠ t := fun a ha z => by obtain ⟨o, e⟩ := ht0; rw [← z, fr a ha] at e; cases e
    have As4 := A.monoX Tp0 X4
    refine ⟨_, rfl, S, schK s, rfl, As4.sk, _, _, rfl, rfl, _, rfl, ifD (fun _ => ?_) (fun z => absurd (by rw [lks]; omega) z)⟩
    refine ⟨_, rfl, _, rfl, _, rfl, t, c, S, T0, cs, s, st', b + i, rfl, T4, As4, tv, l1, l6, A4, by rw [em]; exact W4, by omega, by rw [em]; exact MK4, frt' T0 (List.mem_cons_self ..), (fun q hq => frt' q.d (List.mem_cons_of_mem _ (List.mem_map.mpr ⟨q, hq, rfl⟩))), fun v e H5 hte ok fit T5 x5 => ?_⟩
    have A5 := A4.frame (KeepT.ofX T4 x5) (fun a ha o e => x5 _ _ e (frt' a ha))
    have hL5 := x5 _ _ hL4 Lt0
    have hx5 := hx.mono (KeepT.ofX T4 x5)
    have X5 := X4.trans x5
    obtain ⟨p, hp, hpn, _, hkb⟩ := id fit
    have hin : edT e ∈ stN st' := by rw [← hpn]; exact W4.names em (t := p.2) (List.mem_map.mpr ⟨p, hp, rfl⟩)
    refine ⟨_, rfl, _, rfl, T0, st', v, e, rfl, A5, hin, hte, fit.full, keyB_key (tv p hp).co hkb, fun H6 s6 => ⟨_, rfl, ?_⟩⟩
    rw [em]
    have A6 := A5.mono s6
    have T6 := T5.mono s6
    have X6 := X5.trans (SameX.of s6)
    refine ifD (fun hgood => ?_) (fun _ => ⟨_, _, st', m, xs, es, rfl, A6, em, nd, fr, LD', W4.up (by omega), MK4, s6 _ _ hL5, hx5.mono (KeepT.of s6), hok, by omega, T6, X6⟩)
    have hL6 := s6 _ _ hL5
    refine ⟨_, rfl, .inl ⟨rfl, _, SqL.of hL6⟩, _, rfl, L, _, _, rfl, rfl, hL6, ?_, ?_⟩
    · have := hx.length; rw [List.length_map] at this; exact small1000 (by omega)
    have ku : KeepT H6 (upd H6 L (.lst (xs ++ [v]))) := KeepT.upd fun zs z => by rw [hL6] at z; cases z
    have A7 : StAt (upd H6 L (.lst (xs ++ [v]))) T0 st' := A6.frame ku (fun a ha o e => by rw [upd_ne (fun z => LD' (by rw [← z]; exact ha))]; exact e)
    have X7 : SameX t H (upd H6 L (.lst (xs ++ [v]))) := samex_upd L0 _ X6
    have Lc : L ≠ c := fun z => by have e := Tp0.ls; rw [← z, L0] at e; cases e
    have T7 : TapeAt (upd H6 L (.lst (xs ++ [v]))) t c cs := T6.upd Lt0 Lc.symm
    have hL7 : (upd H6 L (.lst (xs ++ [v]))) L = some (.lst (xs ++ [v])) := upd_same
    have hx7 : TpL (upd H6 L (.lst (xs ++ [v]))) (xs ++ [v]) ((es ++ [e]).map edD) := by
      rw [List.map_append]
      exact ((hx5.mono (KeepT.of s6)).mono ku).snoc ((hte.mono (KeepT.of s6)).mono ku)
    have ht7 := (hte.mono (KeepT.of s6)).mono ku
    generalize upd H6 L (.lst (xs ++ [v])) = H7 at A7 X7 T7 hL7 hx7 ht7 ⊢
    have As7 := A.monoX Tp0 X7
    have ec := edC_ok A.nm fit (m := m) hgood
    refine ⟨_, rfl, _, rfl, _, rfl, S, s, T0, st', v, e, b + i, rfl, ⟨As7.sk, As7.ds, As7.nm, tv, l6⟩, A7, nd, ht7, ok, by rw [em]; exact ec, by rw [em]; exact W4, by omega, fun st2 H8 A8 em8 dm SE KT => ?_⟩
    have dD : stD T0 st2 = stD T0 st' := by unfold stD; rw [dm]
    have out : ∀ a o, H a = some o → a ∉ st'.map (fun q => q.d) := fun a o e hm => by rw [fr a (List.mem_cons_of_mem _ hm)] at e; cases e
    have hc0 : ∃ o, H c = some o := ⟨_, Tp0.ls⟩
    refine ⟨_, _, st2, edM (tbs s) m e, xs ++ [v], es ++ [e], rfl, A8, by rw [em8, em], by rw [dD]; exact nd, by rw [dD]; exact fr, by rw [dD]; exact LD', by rw [← Nat.add_assoc]; exact W4.step tnd ec, MK4.step A.nm (fun p hp => (tv p hp).co) fit, SE _ _ hL7 (fun hm => LD' (List.mem_cons_of_mem _ hm)), hx7.mono KT, ?_, by rw [List.length_append, List.length_cons, List.length_nil]; omega, T7.frame (fun o e => SE _ _ e (by obtain ⟨o', e'⟩ := ht0; exact out t o' e')) (fun o e => SE _ _ e (by obtain ⟨o', e'⟩ := hc0; exact out c o' e')), fun a o e ne => SE _ _ (X7 a o e ne) (out a o e)⟩
    intro e' he'
    rcases List.mem_append.mp he' with h | h
    · exact hok e' h
    · rw [List.mem_singleton.mp h]; exact ⟨ok, fit⟩)
theorem ok_law_spoil {f : Addr} {fd : FuncData} (k : Kn K mg "_law_spoil" s_law_spoil ["tape", "edit"] f fd) (z : Z mg)
    {g_law_take : Addr} {gd_law_take : FuncData} (c_law_take : Cal P w K mg base 1 "_law_take" ["tape", "many"] (spTake) g_law_take gd_law_take) :
    Cal P w K mg base 2 "_law_spoil" ["tape", "edit"] (spSpoilE) f fd := k.cal (by
  refine k.F.ok sc_law_spoil (fun vs H Q E h => ?_) (fun cdv A outer s H vs Q E hr h => ?_)
  · obtain ⟨t, c, cs, v, e, rfl, _⟩ := h; rfl
  · obtain ⟨t, c, cs, v, e, rfl, Tp0, he, ok, full, l45, q⟩ := h
    have hu := hu_of hr
    refine ⟨_, (pss_cons (ps_set (i := 2) sc_law_spoil.nd rfl (Or.inl rfl) (pe_call c_law_take.G (hr.mono (by decide)) (by rfl) c_law_take.m c_law_take.kp c_law_take.b .nil pass0 (pa_cons (pv 0) (pa_cons pe_int pa_nil))))
        (pss_cons (ps_if (pt_cmpR op_eq (pv 2) pe_int (nomark _)) (pss_one (ps_ret (pe_op op_catA (pe_tup (pa_cons (pe_ix ix_tup (pv 1) pe_int (fun _ _ => rfl)) (pa_cons pe_str pa_nil))) (pe_slice sl_tupA (pv 1) (po_some pe_int) po_none)))) pss_nil)
        (pss_cons (ps_if (pt_cmpR op_eq (pe_ix ix_tup (pv 1) pe_int (fun _ _ => rfl)) pe_str (nomark _)) (pss_cons (ps_set (i := 3) sc_law_spoil.nd rfl (Or.inl rfl) (pe_lst (pa_cons (pe_tup (pa_cons pe_str (pa_cons pe_int pa_nil))) (pa_cons (pe_tup (pa_cons pe_str (pa_cons pe_int pa_nil))) (pa_cons (pe_tup (pa_cons pe_non (pa_cons pe_int pa_nil))) (pa_cons (pe_tup (pa_cons pe_int (pa_cons pe_int pa_nil))) (pa_cons (pe_tup (pa_cons pe_bl (pa_cons pe_int pa_nil))) (pa_cons (pe_tup (pa_cons pe_non (pa_cons pe_int pa_nil))) pa_nil))))))))
        (pss_cons (ps_asg (pe_ix ix_list (pv 3) (pv 2) (fun _ _ => rfl)) (pg_tup (by rfl) (pgs_cons (pg_name (i := 4) sc_law_spoil.nd rfl (Or.inl rfl)) (pgs_cons (pg_name (i := 5) sc_law_spoil.nd rfl (Or.inl rfl)) pgs_nil))))
        (pss_one (ps_ret (pe_op op_catA (pe_op op_catA (pe_slice sl_tupA (pv 1) po_none (po_some (pv 5))) (pe_tup (pa_cons (pv 4) pa_nil))) (pe_slice sl_tupA (pv 1) (po_some (pe_op op_add (pv 5) pe_int)) po_none)))))) pss_nil)
        (pss_cons (ps_if (pt_cmpR op_eq (pe_ix ix_tup (pv 1) pe_int (fun _ _ => rfl)) pe_str (nomark _)) (pss_one (ps_ret (pe_tup (pa_cons pe_str (pa_cons (pe_ix ix_tup (pv 1) pe_int (fun _ _ => rfl)) (pa_cons (pe_ix ix_list (pe_lst (pa_cons pe_non (pa_cons pe_int (pa_cons pe_str (pa_cons pe_bl (pa_cons (pe_op op_mul_strE pe_str pe_int) (pa_cons (pe_un un_neg pe_int) pa_nil))))))) (pv 2) (fun _ _ => rfl)) pa_nil)))))) pss_nil)
        (pss_cons (ps_set (i := 6) sc_law_spoil.nd rfl (Or.inl rfl) (pe_ix ix_tup (pv 1) pe_int (fun _ _ => rfl)))
        (pss_cons (ps_if (pt_cmpR op_eq (pv 2) pe_int (nomark _)) (pss_one (ps_ret (pe_tup (pa_cons (pe_ix ix_tup (pv 1) pe_int (fun _ _ => rfl)) (pa_cons (pe_ix ix_tup (pv 1) pe_int (fun _ _ => rfl)) (pa_cons (pe_slice sl_tupA (pv 6) po_none (po_some (pe_un un_neg pe_int))) pa_nil)))))) pss_nil)
        (pss_cons (ps_if (pt_cmpR op_eq (pv 2) pe_int (nomark _)) (pss_one (ps_ret (pe_tup (pa_cons (pe_ix ix_tup (pv 1) pe_int (fun _ _ => rfl)) (pa_cons (pe_ix ix_tup (pv 1) pe_int (fun _ _ => rfl)) (pa_cons (pe_op op_catA (pv 6) (pe_tup (pa_cons pe_non pa_nil))) pa_nil)))))) pss_nil)
        (pss_cons (ps_set (i := 5) sc_law_spoil.nd rfl (Or.inl rfl) (pe_call c_law_take.G (hr.mono (by decide)) (by rfl) c_law_take.m c_law_take.kp c_law_take.b .nil pass0 (pa_cons (pv 0) (pa_cons (pe_callB call_len_seq (by rfl) z.len (by decide +kernel) (pa_cons (pv 6) pa_nil)) pa_nil))))
        (pss_one (ps_ret (pe_tup (pa_cons (pe_ix ix_tup (pv 1) pe_int (fun _ _ => rfl)) (pa_cons (pe_ix ix_tup (pv 1) pe_int (fun _ _ => rfl)) (pa_cons (pe_op op_catA (pe_op op_catA (pe_slice sl_tupA (pv 6) po_none (po_some (pv 5))) (pe_tup (pa_cons (pe_ix ix_list (pe_lst (pa_cons pe_non (pa_cons pe_bl (pa_cons (pe_op op_mul_strE pe_str pe_int) pa_nil)))) (pe_op op_sub (pv 2) pe_int) (fun _ _ => rfl)) pa_nil))) (pe_slice sl_tupA (pv 6) (po_some (pe_op op_add (pv 5) pe_int)) po_none)) pa_nil)))))))))))))), ?_⟩
    refine ⟨_, rfl, t, c, cs, 6, rfl, Tp0, by decide, by decide +kernel, fun d H1 d0 d1 T1 x1 => ?_⟩
    have he1 := he.mono (KeepT.ofX Tp0 x1)
    obtain ⟨a, ys, rfl, h1, hys⟩ := ed_head he1
    refine ⟨_, rfl, rfl, _, rfl, ?_⟩
    refine ifD (fun _ => ?_) (fun hz => ?_)
    · refine ⟨_, rfl, a, _, _, .str (edA e), rfl, rfl, SqT.of h1, at_ofN (j := 0) rfl rfl, (by show 2 ≤ sizeLine; decide), fun y1 hy1 => ?_⟩
      have s2 := same_new hy1 (.tup [.str (edA e), .str "nowhere"])
      refine ⟨_, rfl, _, rfl, ?_⟩
      dsimp only [tNoPart]
      refine cut_any (s2 _ _ h1) (fun y2 H3 h3' s3 => ?_)
      have e3 : cutV (.str (edA e) :: .str (edT e) :: ys) (some 2) none = ys := cut_back _ 2 (by rw [List.length_cons, List.length_cons]; omega)
      rw [e3] at h3'
      have lys : ys.length ≤ 5 := by
        have := hys.length
        cases e <;> simp only [edR, List.length_cons, List.length_nil] at this <;> omega
      refine cat_any (s3 _ _ upd_same) h3' (by rw [List.length_cons, List.length_cons, List.length_nil]; omega) (fun y3 H4 h4 s4 => ?_)
      have S := s2.trans (s3.trans s4)
      refine q (.ref y3) (reT "nowhere" e) H4 ?_ (reT_ok ok (by decide +kernel)) (T1.mono S) (x1.trans (SameX.of S))
      rw [reT_D]
      exact .t h4 (.cons (.s rfl) (.cons (.s rfl) (hys.mono (KeepT.of S))))
    refine ⟨_, rfl, a, _, _, .str (edA e), rfl, rfl, SqT.of h1, at_ofN (j := 0) rfl rfl, rfl, _, rfl, ?_⟩
    cases e with
    | set tn k cc w =>
      refine ifD (fun _ => ?_) (fun z => absurd rfl z)
      obtain ⟨a', e', h5⟩ := set_at he1
      cases e'
      refine ⟨(by show 2 ≤ sizeLine; decide), fun y1 hy1 => ⟨(by show 2 ≤ sizeLine; decide), fun y2 hy2 => ⟨(by show 2 ≤ sizeLine; decide), fun y3 hy3 => ⟨(by show 2 ≤ sizeLine; decide), fun y4 hy4 => ⟨(by show 2 ≤ sizeLine; decide), fun y5 hy5 => ⟨(by show 2 ≤ sizeLine; decide), fun y6 hy6 => ⟨(by show 6 ≤ sizeLine; decide), fun N hN => ?_⟩⟩⟩⟩⟩⟩⟩
      have t1 := same_new hy1 (.tup [V.str "x", V.int 3])
      have t2 := same_new hy2 (.tup [V.str "nowhere", V.int 3])
      have t3 := same_new hy3 (.tup [V.non, V.int 2])
      have t4 := same_new hy4 (.tup [V.int 1000000000, V.int 2])
      have t5 := same_new hy5 (.tup [V.bl true, V.int 4])
      have t6 := same_new hy6 (.tup [V.non, V.int 4])
      have t7 := same_new hN (.lst [V.ref y1, V.ref y2, V.ref y3, V.ref y4, V.ref y5, V.ref y6])
      have S := t1.trans (t2.trans (t3.trans (t4.trans (t5.trans (t6.trans t7)))))
      obtain ⟨u, hu1, hu2⟩ := at_in (xs := [V.ref y1, V.ref y2, V.ref y3, V.ref y4, V.ref y5, V.ref y6]) d0 (by exact d1)
      refine ⟨_, rfl, _, rfl, N, _, _, u, rfl, rfl, SqL.of upd_same, hu1, ?_⟩
      have pick : ∃ (y : Addr) (val : V) (j : Nat), u = .ref y ∧ (upd (upd (upd (upd (upd (upd (upd H1 y1 (.tup [V.str "x", V.int 3])) y2 (.tup [V.str "nowhere", V.int 3])) y3 (.tup [V.non, V.int 2])) y4 (.tup [V.int 1000000000, V.int 2])) y5 (.tup [V.bl true, V.int 4])) y6 (.tup [V.non, V.int 4])) N (.lst [V.ref y1, V.ref y2, V.ref y3, V.ref y4, V.ref y5, V.ref y6])) y = some (.tup [val, .int j]) ∧ 2 ≤ j ∧ j ≤ 4 ∧ valE val := by
        simp only [List.mem_cons, List.not_mem_nil, or_false] at hu2
        rcases hu2 with rfl | rfl | rfl | rfl | rfl | rfl
        · exact ⟨y1, _, 3, rfl, (t2.trans (t3.trans (t4.trans (t5.trans (t6.trans t7))))) _ _ upd_same, by decide, by decide, ⟨by decide +kernel, by decide +kernel⟩⟩
        · exact ⟨y2, _, 3, rfl, (t3.trans (t4.trans (t5.trans (t6.trans t7)))) _ _ upd_same, by decide, by decide, ⟨by decide +kernel, by decide +kernel⟩⟩
        · exact ⟨y3, _, 2, rfl, (t4.trans (t5.trans (t6.trans t7))) _ _ upd_same, by decide, by decide, True.intro⟩
        · exact ⟨y4, _, 2, rfl, (t5.trans (t6.trans t7)) _ _ upd_same, by decide, by decide, ⟨by decide, by decide⟩⟩
        · exact ⟨y5, _, 4, rfl, (t6.trans t7) _ _ upd_same, by decide, by decide, True.intro⟩
        · exact ⟨y6, _, 4, rfl, t7 _ _ upd_same, by decide, by decide, True.intro⟩
      obtain ⟨y, val, j, rfl, hyv, j2, j4, hve⟩ := pick
      have h5N := S _ _ h5
      generalize upd (upd (upd (upd (upd (upd (upd H1 y1 (.tup [V.str "x", V.int 3])) y2 (.tup [V.str "nowhere", V.int 3])) y3 (.tup [V.non, V.int 2])) y4 (.tup [V.int 1000000000, V.int 2])) y5 (.tup [V.bl true, V.int 4])) y6 (.tup [V.non, V.int 4])) N (.lst [V.ref y1, V.ref y2, V.ref y3, V.ref y4, V.ref y5, V.ref y6]) = HN at S hyv h5N ⊢
      refine ⟨y, _, rfl, SqT.of hyv, rfl, _, _, rfl, _, _, rfl, rfl, ?_⟩
      refine ⟨_, rfl, _, rfl, _, rfl, cut_any h5N (fun z1 H2 g1 s2 => ?_)⟩
      rw [cut_takeE] at g1
      refine ⟨_, rfl, (by show 1 ≤ sizeLine; decide), fun z2 hz2 => ?_⟩
      have s3 := same_new hz2 (.tup [val])
      refine cat_any (s3 _ _ g1) upd_same (by simp only [List.length_take, List.length_cons, List.length_nil]; omega) (fun z3 H4 g4 s4 => ?_)
      refine ⟨_, rfl, _, rfl, _, _, rfl, rfl, _, rfl, ?_⟩
      dsimp only [tNoPart]
      have s24 := s2.trans (s3.trans s4)
      refine cut_any (s24 _ _ h5N) (fun z5 H5 g5' s5 => ?_)
      have e5 : cutV [V.str "set", V.str tn, k, cc, w] (some ((j : Int) + 1)) none = [V.str "set", V.str tn, k, cc, w].drop (j + 1) := cut_back _ (j + 1) (by show j + 1 ≤ 5; omega)
      have g5 : H5 z5 = some (.tup ([V.str "set", V.str tn, k, cc, w].drop (j + 1))) := by rw [g5']; exact congrArg (fun z => some (HO.tup z)) e5
      refine cat_any (s5 _ _ g4) g5 (by simp only [List.length_append, List.length_take, List.length_drop, List.length_cons, List.length_nil]; omega) (fun z6 H6 g6 s6 => ?_)
      rw [set_cut _ _ _ (by show j < 5; omega)] at g6
      have S6 := S.trans (s24.trans (s5.trans s6))
      have hok : PyData.strOk tn = true ∧ valE k ∧ valE cc ∧ valE w := ok
      rcases (by omega : j = 2 ∨ j = 3 ∨ j = 4) with rfl | rfl | rfl
      · exact q (.ref z6) (.set tn val cc w) H6 (.t g6 (.cons (.s rfl) (.cons (.s rfl) (.cons (.s hve.scal) (.cons (.s hok.2.2.1.scal) (.cons (.s hok.2.2.2.scal) .nil)))))) ⟨hok.1, hve, hok.2.2.1, hok.2.2.2⟩ (T1.mono S6) (x1.trans (SameX.of S6))
      · exact q (.ref z6) (.set tn k val w) H6 (.t g6 (.cons (.s rfl) (.cons (.s rfl) (.cons (.s hok.2.1.scal) (.cons (.s hve.scal) (.cons (.s hok.2.2.2.scal) .nil)))))) ⟨hok.1, hok.2.1, hve, hok.2.2.2⟩ (T1.mono S6) (x1.trans (SameX.of S6))
      · exact q (.ref z6) (.set tn k cc val) H6 (.t g6 (.cons (.s rfl) (.cons (.s rfl) (.cons (.s hok.2.1.scal) (.cons (.s hok.2.2.1.scal) (.cons (.s hve.scal) .nil)))))) ⟨hok.1, hok.2.1, hok.2.2.1, hve⟩ (T1.mono S6) (x1.trans (SameX.of S6))
    | del tn k =>
      refine ifD (fun z => absurd z (by show ¬ V.str "delete" = V.str "set"; decide +kernel)) (fun _ => ?_)
      refine ⟨_, rfl, a, _, _, .str "delete", rfl, rfl, SqT.of h1, at_ofN (j := 0) rfl rfl, rfl, _, rfl, ifD (fun _ => ?_) (fun z => absurd rfl z)⟩
      refine ⟨_, rfl, a, _, _, .str tn, rfl, rfl, SqT.of h1, at_ofN (j := 1) rfl rfl, _, _, rfl, rfl, a31_ok, _, rfl, (by show 6 ≤ sizeLine; decide), fun N hN => ?_⟩
      have s2 := same_new hN (.lst [.non, .int 7, .str "7", .bl true, .str (Txt.mul ("a" : Str) 31), .int (-5)])
      obtain ⟨w, hw1, hw2⟩ := at_in (xs := [V.non, V.int 7, V.str "7", V.bl true, V.str (Txt.mul ("a" : Str) 31), V.int (-5)]) d0 (by exact d1)
      have hwe : valE w := by
        simp only [List.mem_cons, List.not_mem_nil, or_false] at hw2
        rcases hw2 with rfl | rfl | rfl | rfl | rfl | rfl
        · exact True.intro
        · exact ⟨by decide, by decide⟩
        · exact ⟨by decide +kernel, by decide +kernel⟩
        · exact True.intro
        · exact a31_e
        · exact ⟨by decide, by decide⟩
      refine ⟨_, rfl, N, _, _, w, rfl, rfl, SqL.of upd_same, hw1, (by show 3 ≤ sizeLine; decide), fun r hr2 => ?_⟩
      have s3 := same_new hr2 (.tup [.str "delete", .str tn, w])
      exact q (.ref r) (.del tn w) _ (.t upd_same (.cons (.s rfl) (.cons (.s rfl) (.cons (.s hwe.scal) .nil)))) ⟨ok.1, hwe⟩ ((T1.mono s2).mono s3) (x1.trans (SameX.of (s2.trans s3)))
    | row ins tn r =>
      refine ifD (fun z => absurd z (by cases ins <;> simp only [edA] <;> decide +kernel)) (fun _ => ?_)
      refine ⟨_, rfl, a, _, _, .str (edA (.row ins tn r)), rfl, rfl, SqT.of h1, at_ofN (j := 0) rfl rfl, rfl, _, rfl, ifD (fun z => absurd z (by cases ins <;> simp only [edA] <;> decide +kernel)) (fun _ => ?_)⟩
      obtain ⟨a', pr, e', h5, h6⟩ := row_at he1
      cases e'
      have l := l45 ins tn r rfl
      have okr : ∀ v ∈ r, valE v := ok.2.2
      have fin : ∀ (zs : List V) (z : Addr) (H2 : Hp), SameX t H1 H2 → TapeAt H2 t c cs → H2 z = some (.tup zs) → zs.length ≤ 50 → (∀ v ∈ zs, valE v) → [V.str (edA (.row ins tn r)), V.str tn, V.ref z].length ≤ sizeLine ∧ ∀ p, H2 p = none → Q (.ref p) (upd H2 p (.tup [V.str (edA (.row ins tn r)), V.str tn, V.ref z])) := fun zs z H2 x2 T2 g lz hz => ⟨by show 3 ≤ sizeLine; decide, fun p hp => by
        have sp := same_new hp (.tup [V.str (edA (.row ins tn r)), V.str tn, V.ref z])
        refine q (.ref p) (.row ins tn zs) _ ?_ ⟨ok.1, lz, hz⟩ (T2.mono sp) (x1.trans (x2.trans (SameX.of sp)))
        have e9 : edA (.row ins tn zs) = edA (.row ins tn r) := by cases ins <;> rfl
        show Tp _ _ (.t (.s (.str (edA (.row ins tn zs))) :: .s (.str tn) :: [.t (zs.map D.s)]))
        rw [e9]
        exact .t upd_same (.cons (.s rfl) (.cons (.s rfl) (.cons (.t (sp _ _ g) (TpL.scal fun v hv => (hz v hv).scal)) .nil)))⟩
      refine ⟨_, rfl, a, _, _, .ref pr, rfl, rfl, SqT.of h5, at_ofN (j := 2) rfl rfl, ?_⟩
      refine ⟨_, rfl, rfl, _, rfl, ifD (fun _ => ?_) (fun hz1 => ?_)⟩
      · refine ⟨_, rfl, a, _, _, .str (edA (.row ins tn r)), rfl, rfl, SqT.of h5, at_ofN (j := 0) rfl rfl, _, rfl, a, _, _, .str tn, rfl, rfl, SqT.of h5, at_ofN (j := 1) rfl rfl, _, rfl, _, rfl, _, rfl, cut_any h6 (fun z H2 g s2 => ?_)⟩
        have e5 : cutV r none (some (-1)) = r.take (r.length - 1) := cut_last r
        rw [e5] at g
        exact fin _ z H2 (SameX.of s2) (T1.mono s2) g (by rw [List.length_take]; omega) (fun v hv => okr v (List.mem_of_mem_take hv))
      refine ⟨_, rfl, rfl, _, rfl, ifD (fun _ => ?_) (fun hz2 => ?_)⟩
      · refine ⟨_, rfl, a, _, _, .str (edA (.row ins tn r)), rfl, rfl, SqT.of h5, at_ofN (j := 0) rfl rfl, _, rfl, a, _, _, .str tn, rfl, rfl, SqT.of h5, at_ofN (j := 1) rfl rfl, _, rfl, (by show 1 ≤ sizeLine; decide), fun z1 hz1' => ?_⟩
        have s2 := same_new hz1' (.tup [V.non])
        refine cat_any (s2 _ _ h6) upd_same (by rw [List.length_cons, List.length_nil]; omega) (fun z H3 g s3 => ?_)
        exact fin _ z H3 (SameX.of (s2.trans s3)) ((T1.mono s2).mono s3) g (by rw [List.length_append, List.length_cons, List.length_nil]; omega) (fun v hv => by
          rcases List.mem_append.mp hv with h | h
          · exact okr v h
          · rw [List.mem_singleton.mp h]; exact True.intro)
      have n0 : d ≠ 0 := fun z => hz (by rw [z])
      have n1 : d ≠ 1 := fun z => hz1 (by rw [z])
      have n2 : d ≠ 2 := fun z => hz2 (by rw [z])
      have r0 : r ≠ [] := full
      have rp : 0 < r.length := List.length_pos_iff.mpr r0
      refine ⟨_, rfl, _, rfl, pr, _, rfl, .inr (SqT.of h6), t, c, cs, _, rfl, T1, by omega, Nat.lt_of_le_of_lt (m := 50) (by omega) (by decide +kernel), fun d2 H3 d20 d21 T3 x3 => ?_⟩
      have kt := KeepT.ofX T1 x3
      have h6' := kt _ _ h6
      have h5' := kt _ _ h5
      obtain ⟨j, rfl⟩ : ∃ j : Nat, d2 = j := ⟨d2.toNat, by omega⟩
      refine ⟨_, rfl, a, _, _, .str (edA (.row ins tn r)), rfl, rfl, SqT.of h5', at_ofN (j := 0) rfl rfl, _, rfl, a, _, _, .str tn, rfl, rfl, SqT.of h5', at_ofN (j := 1) rfl rfl, _, rfl, _, rfl, _, rfl, cut_any h6' (fun z1 H4 g1 s4 => ?_)⟩
      rw [cut_takeE] at g1
      refine ⟨_, _, rfl, rfl, a31_ok, (by show 3 ≤ sizeLine; decide), fun N hN => ?_⟩
      have s5 := same_new hN (.lst [V.non, V.bl true, V.str (Txt.mul ("a" : Str) 31)])
      obtain ⟨w, hw1, hw2⟩ := at_in (xs := [V.non, V.bl true, V.str (Txt.mul ("a" : Str) 31)]) (i := d - 3) (by omega) (by show d - 3 < 3; omega)
      have hwe : valE w := by
        simp only [List.mem_cons, List.not_mem_nil, or_false] at hw2
        rcases hw2 with rfl | rfl | rfl
        · exact True.intro
        · exact True.intro
        · exact a31_e
      refine ⟨_, rfl, _, _, rfl, rfl, N, _, _, w, rfl, rfl, SqL.of upd_same, hw1, (by show 1 ≤ sizeLine; decide), fun z2 hz2' => ?_⟩
      have s6 := same_new hz2' (.tup [w])
      refine cat_any (s6 _ _ (s5 _ _ g1)) upd_same (by simp only [List.length_take, List.length_cons, List.length_nil]; omega) (fun z3 H7 g7 s7 => ?_)
      refine ⟨_, rfl, _, rfl, _, _, rfl, rfl, _, rfl, ?_⟩
      dsimp only [tNoPart]
      have s47 := s4.trans (s5.trans (s6.trans s7))
      refine cut_any (s47 _ _ h6') (fun z5 H8 g8' s8 => ?_)
      have e8 : cutV r (some ((j : Int) + 1)) none = r.drop (j + 1) := cut_back _ (j + 1) (by omega)
      have g8 : H8 z5 = some (.tup (r.drop (j + 1))) := by rw [g8']; exact congrArg (fun z => some (HO.tup z)) e8
      refine cat_any (s8 _ _ g7) g8 (by simp only [List.length_append, List.length_take, List.length_drop, List.length_cons, List.length_nil]; omega) (fun z6 H9 g9 s9 => ?_)
      rw [set_cut _ _ _ (by omega)] at g9
      have S9 := s47.trans (s8.trans s9)
      exact fin _ z6 H9 (x3.trans (SameX.of S9)) (T3.mono S9) g9 (by rw [List.length_set]; omega) (fun v hv => by
        rcases List.mem_or_eq_of_mem_set hv with h | h
        · exact okr v h
        · rw [h]; exact hwe))
theorem ok_law_value_fits {f : Addr} {fd : FuncData} (k : Kn K mg "_law_value_fits" s_law_value_fits ["value", "column"] f fd) (z : Z mg) :
    Cal P w K mg base 1 "_law_value_fits" ["value", "column"] (spValFits) f fd := k.cal (by
  refine k.F.ok sc_law_value_fits (fun vs H Q E h => ?_) (fun cdv A outer s H vs Q E hr h => ?_)
  · obtain ⟨v, ca, c, rfl, _⟩ := h; rfl
  · obtain ⟨v, ca, c, rfl, hc, hk, hv, q⟩ := h
    refine ⟨_, (pss_cons (ps_if (pt_cmpR op_isN (pv 0) pe_non (nomark _)) (pss_one (ps_ret (pe_ix ix_tup (pv 1) pe_int (fun _ _ => rfl)))) pss_nil)
        (pss_cons (ps_if (pt_val (pe_callB call_isi (by rfl) z.isinstance (by decide +kernel) (pa_cons (pv 0) (pa_cons (pe_bltn (v := .ty "bool") (u := .type "bool") (by rfl) z.bool (by decide +kernel) rfl) pa_nil)))) (pss_one (ps_ret pe_bl)) pss_nil)
        (pss_cons (ps_if (pt_val (pe_callB call_isi (by rfl) z.isinstance (by decide +kernel) (pa_cons (pv 0) (pa_cons (pe_bltn (v := .ty "int") (u := .type "int") (by rfl) z.int (by decide +kernel) rfl) pa_nil)))) (pss_one (ps_ret (pe_and (pe_cmpR op_eq (pe_ix ix_tup (pv 1) pe_int (fun _ _ => rfl)) pe_str (nomark _)) (pe_one (pe_chain op_lt op_lt (pe_un un_neg pe_int) (pv 0) pe_int))))) pss_nil)
        (pss_one (ps_ret (pe_and (pe_cmpR op_eq (pe_ix ix_tup (pv 1) pe_int (fun _ _ => rfl)) pe_str (nomark _)) (pe_one (pe_cmpR op_le (pe_callB call_len_str (by rfl) z.len (by decide +kernel) (pa_cons (pv 0) pa_nil)) pe_int (nomark _))))))))), ?_⟩
    cases v with
    | non =>
      have e : fitsK .non c.k c.b = c.b := if_pos rfl
      rw [e] at q
      exact ⟨_, rfl, rfl, _, rfl, iteDT rfl ⟨_, rfl, ca, _, _, .bl c.b, rfl, rfl, SqT.of hc, rfl, q⟩⟩
    | bl b =>
      have e : fitsK (.bl b) c.k c.b = false := by unfold fitsK; rw [if_neg (fun z => nomatch z)]; rfl
      rw [e] at q
      refine ⟨_, rfl, rfl, _, rfl, iteDF (fun z => nomatch z) ⟨_, rfl, _, _, _, _, true, rfl, .ty _, .base (.bl _), kit_ty (by decide +kernel), _, rfl, q⟩⟩
    | int i =>
      refine ⟨_, rfl, rfl, _, rfl, iteDF (fun z => nomatch z) ⟨_, rfl, _, _, _, _, false, rfl, .ty _, .base (.int _), kit_ty (by decide +kernel), _, rfl, ?_⟩⟩
      refine ⟨_, rfl, _, _, _, _, true, rfl, .ty _, .base (.int _), kit_ty (by decide +kernel), _, rfl, ?_⟩
      refine ⟨_, rfl, ca, _, _, .str c.k, rfl, rfl, SqT.of hc, rfl, rfl, _, rfl, ?_⟩
      have e : fitsK (.int i) c.k c.b = (decide (-1000000000 < i ∧ i < 1000000000) && decide (("int" : Str) = c.k)) := by unfold fitsK; rw [if_neg (fun z => nomatch z)]; rfl
      rw [e] at q
      refine ifD (fun z => ?_) (fun z => ?_)
      · have z' : ("int" : Str) = c.k := (V.str.inj z).symm
        rw [decide_eq_true z', Bool.and_true] at q
        refine ⟨_, rfl, _, rfl, _, _, rfl, rfl, _, rfl, ifD (fun h1 => ⟨_, _, rfl, rfl, ?_⟩) (fun h1 => ?_)⟩
        · have e2 : decide (-1000000000 < i ∧ i < 1000000000) = decide (i < 1000000000) := by rw [Bool.eq_iff_iff, decide_eq_true_iff, decide_eq_true_iff]; omega
          rw [e2] at q; exact q
        · have e2 : decide (-1000000000 < i ∧ i < 1000000000) = false := decide_eq_false (by omega)
          rw [e2] at q; exact q
      · rw [decide_eq_false (fun z' : ("int" : Str) = c.k => z (by rw [← z'])), Bool.and_false] at q
        exact q
    | str y =>
      refine ⟨_, rfl, rfl, _, rfl, iteDF (fun z => nomatch z) ⟨_, rfl, _, _, _, _, false, rfl, .ty _, .base (.str _), kit_ty (by decide +kernel), _, rfl, ?_⟩⟩
      refine ⟨_, rfl, _, _, _, _, false, rfl, .ty _, .base (.str _), kit_ty (by decide +kernel), _, rfl, ?_⟩
      refine ⟨_, rfl, ca, _, _, .str c.k, rfl, rfl, SqT.of hc, rfl, rfl, _, rfl, ?_⟩
      have e : fitsK (.str y) c.k c.b = (decide (y.length ≤ 30) && decide (("text" : Str) = c.k)) := by
        unfold fitsK
        rw [if_neg (fun z => nomatch z)]
        show (decide (y.length ≤ 30 ∧ ∀ c ∈ tl y, chOk c) && decide (("text" : Str) = c.k)) = _
        congr 1
        rw [Bool.eq_iff_iff, decide_eq_true_iff, decide_eq_true_iff]
        exact ⟨fun h => h.1, fun h => ⟨h, hv.2⟩⟩
      rw [e] at q
      refine ifD (fun z => ?_) (fun z => ?_)
      · have z' : ("text" : Str) = c.k := (V.str.inj z).symm
        rw [decide_eq_true z', Bool.and_true] at q
        refine ⟨_, rfl, y, rfl, Nat.le_of_lt (small1000 (by have := hv.1; omega)), _, _, rfl, rfl, ?_⟩
        have e2 : decide ((y.length : Int) ≤ 30) = decide (y.length ≤ 30) := by rw [Bool.eq_iff_iff, decide_eq_true_iff, decide_eq_true_iff]; omega
        show Q (.bl (decide ((y.length : Int) ≤ 30))) H
        rw [e2]; exact q
      · rw [decide_eq_false (fun z' : ("text" : Str) = c.k => z (by rw [← z'])), Bool.and_false] at q
        exact q
    | _ => exact hv.elim)
theorem ok_law_row_fits {f : Addr} {fd : FuncData} (k : Kn K mg "_law_row_fits" s_law_row_fits ["columns", "row"] f fd) (z : Z mg)
    {g_law_value_fits : Addr} {gd_law_value_fits : FuncData} (c_law_value_fits : Cal P w K mg base 1 "_law_value_fits" ["value", "column"] (spValFits) g_law_value_fits gd_law_value_fits) :
    Cal P w K mg base 2 "_law_row_fits" ["columns", "row"] (spRowFits) f fd := k.cal (by
  refine k.F.ok sc_law_row_fits (fun vs H Q E h => ?_) (fun cdv A outer s H vs Q E hr h => ?_)
  · obtain ⟨L, r, cols, xs, rfl, _⟩ := h; rfl
  · obtain ⟨L, r, cols, xs, rfl, hL, hk, hr0, hv, l1, l2, q⟩ := h
    refine ⟨_, (pss_cons (ps_if (pt_cmpR op_ne (pe_callB call_len_seq (by rfl) z.len (by decide +kernel) (pa_cons (pv 1) pa_nil)) (pe_callB call_len_seq (by rfl) z.len (by decide +kernel) (pa_cons (pv 0) pa_nil)) (nomark _)) (pss_one (ps_ret pe_bl)) pss_nil)
        (pss_one (ps_ret (pe_cmpR (op_eqD hr.units) (pe_lc (own := [("k", 2)]) (g := gName 2) (by rfl) sc_law_row_fits.nd (pi_range1 (by rfl) z.range (pa_cons (pe_callB call_len_seq (by rfl) z.len (by decide +kernel) (pa_cons (pv 1) pa_nil)) pa_nil)) (blkOk_by (own := [("k", 2)]) (N := ["columns", "row", "k"]) (sc := defScope s_law_row_fits) (by decide +kernel)) (fun _ _ _ _ _ => pg_name (i := 2) sc_law_row_fits.nd rfl (Or.inl rfl)) (fun _ _ _ _ _ => (pts_one (pt_not (pt_val (pe_call c_law_value_fits.G (hr.mono (by decide)) (by rfl) c_law_value_fits.m c_law_value_fits.kp c_law_value_fits.b .nil pass0 (pa_cons (pe_ix (r := rIxT K) ix_tup (pv 1) (pv 2) (fun _ _ => rfl)) (pa_cons (pe_ix (r := rIxL K) ix_list (pv 0) (pv 2) (fun _ _ => rfl)) pa_nil))))))) (fun _ _ _ _ _ => (pv 2))) (pe_lst pa_nil) (nomark _))))), ?_⟩
    obtain ⟨as, hL1, hL2⟩ := hL
    have lc : as.length = cols.length := by have := hL2.length; rw [List.length_map] at this; exact this
    refine ⟨_, rfl, r, xs, rfl, .inr (SqT.of hr0), _, rfl, L, as, rfl, .inl (SqL.of hL1), rfl, _, rfl, ?_⟩
    by_cases e : xs.length = cols.length
    rotate_left
    · refine iteNF (fun z => e ?_) ?_
      · have := V.int.inj z; omega
      · have : rowB cols xs = false := by unfold rowB; rw [decide_eq_false e]; rfl
        rw [this] at q
        exact q H (Same.refl _)
    refine iteNS (by rw [e, lc]) ?_
    refine ⟨_, rfl, r, xs, rfl, .inr (SqT.of hr0), ((xs.length : Nat) : Int), rfl, by omega, by omega, fun N hN => lc_range (lo := 0) (n := xs.length) (fun i H' => H' N = some (.lst (((((List.range i).filter (badAt cols xs)).map fun j => ((j : Nat) : Int))).map V.int)) ∧ Same H H') ⟨upd_same, same_new hN _⟩ ?_ ?_⟩
    · rintro i H1 hi ⟨h1, s1⟩
      have hic : i < cols.length := by omega
      obtain ⟨as', a', k1, k2, k3⟩ := ColsAt.get ⟨as, hL1, hL2⟩ (List.getElem?_eq_getElem hic)
      rw [hL1] at k1
      cases k1
      have ex : xs[i]? = some xs[i] := List.getElem?_eq_getElem hi
      have e0 : (0 : Int) + (i : Nat) = (i : Nat) := by omega
      refine ⟨rfl, _, rfl, _, rfl, r, _, _, xs[i], rfl, rfl, SqT.of (s1 _ _ hr0), (by rw [e0]; exact atI_nat ex), _, rfl, _, rfl, L, _, _, _, rfl, rfl, SqL.of (s1 _ _ hL1), (by rw [e0]; exact atI_nat k2), xs[i], a', cols[i], rfl, s1 _ _ k3, hk _ (List.getElem_mem hic), hv _ (List.getElem_mem hi), ?_⟩
      have eP := badAt_eq hi hic
      refine ⟨_, rfl, ?_⟩
      cases hf : fitsK xs[i] cols[i].k cols[i].b with
      | true =>
        rw [hf] at eP
        refine iteF ⟨?_, s1⟩
        rw [List.range_succ, List.filter_append, List.filter_cons, if_neg (by rw [eP]; decide), List.filter_nil, List.append_nil]
        exact h1
      | false =>
        rw [hf] at eP
        refine iteT ⟨_, rfl, _, h1, ?_, ?_, same_upd hN _ s1⟩
        · rw [List.length_map, List.length_map]
          exact small1000 (by have := List.length_filter_le (badAt cols xs) (List.range i); rw [List.length_range] at this; omega)
        · rw [upd_same, List.range_succ, List.filter_append, List.filter_cons, if_pos (by rw [eP]; decide), List.filter_nil, List.map_append, List.map_append, e0]
          rfl
    rintro H1 ⟨h1, s1⟩
    refine ⟨Nat.zero_le _, fun M hM => ?_⟩
    have s2 := same_new hM (.lst [])
    refine ⟨_, _, .lst (SqL.of (s2 _ _ h1)) (intD_dp _), .lst (SqL.of upd_same) .nil, intD_shaped _, intD_shaped [], ?_⟩
    rw [intD_nil]
    have e9 : decide (((List.range xs.length).filter (badAt cols xs)).map (fun j => ((j : Nat) : Int)) = []) = rowB cols xs := by
      rw [row_bad e]
      congr 1
      rw [List.map_eq_nil_iff]
    rw [e9]
    exact q _ (s1.trans s2))
theorem ok_law_code {f : Addr} {fd : FuncData} (k : Kn K mg "_law_code" s_law_code ["schema", "state", "edit"] f fd) (z : Z mg)
    {g_law_row_fits : Addr} {gd_law_row_fits : FuncData} (c_law_row_fits : Cal P w K mg base 2 "_law_row_fits" ["columns", "row"] (spRowFits) g_law_row_fits gd_law_row_fits)
    {g_law_value_fits : Addr} {gd_law_value_fits : FuncData} (c_law_value_fits : Cal P w K mg base 1 "_law_value_fits" ["value", "column"] (spValFits) g_law_value_fits gd_law_value_fits)
    {g_law_key_of : Addr} {gd_law_key_of : FuncData} (c_law_key_of : Cal P w K mg base 1 "_law_key_of" ["edit"] (spKeyOfE) g_law_key_of gd_law_key_of)
    {g_law_right : Addr} {gd_law_right : FuncData} (c_law_right : Cal P w K mg base 2 "_law_right" ["state", "edit"] (spRightE) g_law_right gd_law_right) :
    Cal P w K mg base 3 "_law_code" ["schema", "state", "edit"] (spEdCode) f fd := k.cal (by
  refine k.F.ok sc_law_code (fun vs H Q E h => ?_) (fun cdv A outer s H vs Q E hr h => ?_)
  · obtain ⟨S, s, T, st, v, e, rfl, _⟩ := h; rfl
  · obtain ⟨S, s, T, st, v, e, rfl, hS, hT, hN, he, ok, q⟩ := h
    have hu := hu_of hr
    refine ⟨_, (pss_cons (ps_if (pt_cmp (pc_dnotin hu (pe_ix ix_tup (pv 2) pe_int (fun _ _ => rfl)) (pv 0))) (pss_one (ps_ret pe_str)) pss_nil)
        (pss_cons (ps_set (i := 3) sc_law_code.nd rfl (Or.inl rfl) (pe_dget hu (pe_dget hu (pv 0) (pe_ix ix_tup (pv 2) pe_int (fun _ _ => rfl)) (fun _ _ => rfl)) pe_str (fun _ _ => rfl)))
        (pss_cut (ps_if (PW.pt (pw_or (pt_cmpR op_eq (pe_ix ix_tup (pv 2) pe_int (fun _ _ => rfl)) pe_str (nomark _)) (pw_or1 (pt_cmpR op_eq (pe_ix ix_tup (pv 2) pe_int (fun _ _ => rfl)) pe_str (nomark _))))) (pss_one (ps_if (pt_not (pt_val (pe_call c_law_row_fits.G (hr.mono (by decide)) (by rfl) c_law_row_fits.m c_law_row_fits.kp c_law_row_fits.b .nil pass0 (pa_cons (pv 3) (pa_cons (pe_ix ix_tup (pv 2) pe_int (fun _ _ => rfl)) pa_nil))))) (pss_one (ps_ret pe_str)) pss_nil)) pss_nil)
        (pss_cut (ps_if (pt_cmpR op_eq (pe_ix ix_tup (pv 2) pe_int (fun _ _ => rfl)) pe_str (nomark _)) (pss_cons (ps_setLc (i := 4) (own := [("column", 5)]) (g := gName 5) (by rfl) sc_law_code.nd rfl rfl (sw_true rfl rfl rfl (by decide +kernel)) (pi_list (pe_slice sl_list (pv 3) (po_some pe_int) po_none)) (blkOk_by (own := [("column", 5)]) (N := ["schema", "state", "edit", "columns", "found", "column"]) (sc := defScope s_law_code) (by decide +kernel)) (fun _ _ _ _ _ => pg_name (i := 5) sc_law_code.nd rfl (Or.inl rfl)) (fun _ _ _ _ _ => (pts_one (pt_cmpR op_eq (pe_ix (r := rIxT K) ix_tup (pv 5) pe_int (fun _ _ => rfl)) (pe_ix (r := rIxT K) ix_tup (pv 2) pe_int (fun _ _ => rfl)) (nomark _)))) (fun _ _ _ _ _ => (pv 5)))
        (pss_one (ps_if (PW.pt (pw_or (pt_cmpR (op_eqD hr.units) (pv 4) (pe_lst pa_nil) (nomark _)) (pw_or1 (pt_not (pt_val (pe_call c_law_value_fits.G (hr.mono (by decide)) (by rfl) c_law_value_fits.m c_law_value_fits.kp c_law_value_fits.b .nil pass0 (pa_cons (pe_ix ix_tup (pv 2) pe_int (fun _ _ => rfl)) (pa_cons (pe_ix ix_list (pv 4) pe_int (fun _ _ => rfl)) pa_nil)))))))) (pss_one (ps_ret pe_str)) pss_nil))) pss_nil)
        (pss_cons (ps_if (pt_not (pt_val (pe_call c_law_value_fits.G (hr.mono (by decide)) (by rfl) c_law_value_fits.m c_law_value_fits.kp c_law_value_fits.b .nil pass0 (pa_cons (pe_call c_law_key_of.G (hr.mono (by decide)) (by rfl) c_law_key_of.m c_law_key_of.kp c_law_key_of.b .nil pass0 (pa_cons (pv 2) pa_nil)) (pa_cons (pe_ix ix_list (pv 3) pe_int (fun _ _ => rfl)) pa_nil))))) (pss_one (ps_ret pe_str)) pss_nil)
        (pss_cons (ps_if (pt_not (pt_val (pe_call c_law_right.G (hr.mono (by decide)) (by rfl) c_law_right.m c_law_right.kp c_law_right.b .nil pass0 (pa_cons (pv 1) (pa_cons (pv 2) pa_nil))))) (pss_one (ps_ret pe_str)) pss_nil)
        (pss_one (ps_ret pe_str)))))))), ?_⟩
    obtain ⟨a, ys, rfl, h1, hys⟩ := ed_head he
    refine ⟨_, rfl, a, _, _, .str (edT e), rfl, rfl, SqT.of h1, at_ofN (j := 1) rfl rfl, _, rfl, S, _, rfl, hS.in', _, rfl, ?_⟩
    rw [sch_some]
    rcases tab_cases hS.nm (edT e) with ⟨h2, h3⟩ | ⟨p, hp, hpn, h3⟩
    · rw [decide_eq_false h2]
      refine iteT ?_
      have : edC (tbs s) (stM st) e = "table" := by unfold edC; rw [h3]
      rw [this] at q
      exact q H (Same.refl _)
    have hin : edT e ∈ schN s := List.mem_map.mpr ⟨p, hp, hpn⟩
    rw [decide_eq_true hin]
    refine iteF ?_
    have D := hS.ds p hp
    have tv := hS.ok p hp
    have l40 : p.2.cols.length ≤ 40 := by have := tv.l8; omega
    have gS : DGet H S (.str (edT e)) (some (.ref p.1.d)) := by rw [← hpn]; exact sch_getK hS.sk hS.nm hp
    refine ⟨_, rfl, _, rfl, a, _, _, .str (edT e), rfl, rfl, SqT.of h1, at_ofN (j := 1) rfl rfl, S, _, rfl, gS, p.1.d, _, rfl, D.gc, ?_⟩
    have ecd : edC (tbs s) (stM st) e = (if rowBad p.2.cols e = true then ("row" : Str) else if keyB p.2.cols (edK e) = false then ("key" : Str) else if hasK (rwsOf (stM st) (edT e)) (keyOf (edK e)) = isIns e then ("key" : Str) else ("" : Str)) := by unfold edC; rw [h3]
    rw [ecd] at q
    have bad : ∀ H2, Same H H2 → rowBad p.2.cols e = true → Q (.str "row") H2 := fun H2 s2 hb => by rw [if_pos hb] at q; exact q H2 s2
    refine ⟨fun σ H' => σ = [some (.ref S), some (.ref T), some (.ref a), some (.ref p.1.c), none, none] ∧ Same H H' ∧ ∀ b t r, e = .row b t r → rowB p.2.cols r = true, ?_, ?_⟩
    · refine ⟨_, rfl, a, _, _, .str (edA e), rfl, rfl, SqT.of h1, at_ofN (j := 0) rfl rfl, rfl, _, rfl, ?_⟩
      cases e with
      | row b t r =>
        obtain ⟨u, us, rfl, k1, h4⟩ := hys.c1
        obtain ⟨pr, zs, rfl, h5, h6⟩ := t_at k1
        have := scal_L h6
        subst this
        have core : ∀ {R : VK}, (Q = R) → ∀ {Nx : St → Hp → Prop}, (∀ H2, Same H H2 → rowB p.2.cols zs = true → Nx [some (.ref S), some (.ref T), some (.ref a), some (.ref p.1.c), none, none] H2) → True := fun _ _ _ => True.intro
        cases b with
        | true =>
          refine ifD (fun _ => ?_) (fun z => absurd rfl z)
          refine ⟨_, rfl, _, rfl, a, _, _, .ref pr, rfl, rfl, SqT.of h1, at_ofN (j := 2) rfl rfl, p.1.c, pr, p.2.cols, zs, rfl, D.co, tv.co.kd, h5, ok.2.2, (by have := ok.2.1; omega), (by omega), fun H2 s2 => ⟨_, rfl, ?_⟩⟩
          cases hb : rowB p.2.cols zs with
          | false => exact iteT (bad H2 s2 (by simp only [rowBad, hb]; rfl))
          | true => exact iteF ⟨rfl, s2, fun b' t' r' e' => by cases e'; exact hb⟩
        | false =>
          refine ifD (fun z => absurd z (by show ¬ V.str "replace" = V.str "insert"; decide +kernel)) (fun _ => ?_)
          refine ⟨_, rfl, a, _, _, .str "replace", rfl, rfl, SqT.of h1, at_ofN (j := 0) rfl rfl, rfl, _, rfl, ifD (fun _ => ?_) (fun z => absurd rfl z)⟩
          refine ⟨_, rfl, _, rfl, a, _, _, .ref pr, rfl, rfl, SqT.of h1, at_ofN (j := 2) rfl rfl, p.1.c, pr, p.2.cols, zs, rfl, D.co, tv.co.kd, h5, ok.2.2, (by have := ok.2.1; omega), (by omega), fun H2 s2 => ⟨_, rfl, ?_⟩⟩
          cases hb : rowB p.2.cols zs with
          | false => exact iteT (bad H2 s2 (by simp only [rowBad, hb]; rfl))
          | true => exact iteF ⟨rfl, s2, fun b' t' r' e' => by cases e'; exact hb⟩
      | set t k c w =>
        refine ifD (fun z => absurd z (by show ¬ V.str "set" = V.str "insert"; decide +kernel)) (fun _ => ?_)
        exact ⟨_, rfl, a, _, _, .str "set", rfl, rfl, SqT.of h1, at_ofN (j := 0) rfl rfl, rfl, _, rfl, ifD (fun z => absurd z (by show ¬ V.str "set" = V.str "replace"; decide +kernel)) (fun _ => ⟨rfl, Same.refl _, fun _ _ _ e' => by cases e'⟩)⟩
      | del t k =>
        refine ifD (fun z => absurd z (by show ¬ V.str "delete" = V.str "insert"; decide +kernel)) (fun _ => ?_)
        exact ⟨_, rfl, a, _, _, .str "delete", rfl, rfl, SqT.of h1, at_ofN (j := 0) rfl rfl, rfl, _, rfl, ifD (fun z => absurd z (by show ¬ V.str "delete" = V.str "replace"; decide +kernel)) (fun _ => ⟨rfl, Same.refl _, fun _ _ _ e' => by cases e'⟩)⟩
    rintro σ H1 ⟨rfl, s1, hrow⟩
    have D1 := D.mono s1
    have h11 := s1 _ _ h1
    refine ⟨fun σ H' => (∃ v4 v5, σ = [some (.ref S), some (.ref T), some (.ref a), some (.ref p.1.c), v4, v5]) ∧ Same H H' ∧ rowBad p.2.cols e = false, ?_, ?_⟩
    · refine ⟨_, rfl, a, _, _, .str (edA e), rfl, rfl, SqT.of h11, at_ofN (j := 0) rfl rfl, rfl, _, rfl, ?_⟩
      cases e with
      | row b t r => exact ifD (fun z => absurd z (by cases b <;> simp only [edA] <;> decide +kernel)) (fun _ => ⟨⟨_, _, rfl⟩, s1, by simp only [rowBad, hrow b t r rfl]; rfl⟩)
      | del t k => exact ifD (fun z => absurd z (by simp only [edA]; decide +kernel)) (fun _ => ⟨⟨_, _, rfl⟩, s1, rfl⟩)
      | set t k c w =>
        refine ifD (fun _ => ?_) (fun z => absurd rfl z)
        obtain ⟨a', rfl', h5⟩ := set_at he
        cases rfl'
        have h6 := s1 _ _ h5
        obtain ⟨as, k1, k2⟩ := D1.co
        have lc : as.length = p.2.cols.length := by have := k2.length; rw [List.length_map] at this; exact this
        let F : Col → Bool := fun col => decide (V.str col.n = c)
        refine ⟨_, rfl, _, rfl, p.1.c, as, rfl, SqL.of k1, fun M hM => ?_⟩
        rw [cut_tail]
        have s2 := s1.trans (same_new hM (.lst (as.drop 1)))
        have hM2 : (upd H1 M (.lst (as.drop 1))) M = some (.lst (as.drop 1)) := upd_same
        have k3 := (k2.mono (KeepT.of (same_new hM (.lst (as.drop 1))))).drop 1
        rw [← List.map_drop] at k3
        have h7 := same_new hM (.lst (as.drop 1)) _ _ h6
        generalize upd H1 M (.lst (as.drop 1)) = H2 at s2 hM2 k3 h7 ⊢
        refine ⟨M, rfl, ⟨_, SqL.of hM2⟩, fun N hN => lc_list (K := K) (a := M) (xs := as.drop 1) (fun i H' => ∃ fs, H' N = some (.lst fs) ∧ TpL H' fs ((((p.2.cols.drop 1).take i).filter F).map colD) ∧ fs.length ≤ i ∧ Same H2 H') ⟨[], upd_same, .nil, Nat.le_refl _, same_new hN _⟩ (fun i H' _ ⟨_, _, _, _, s⟩ => SqL.of (s _ _ hM2)) ?_ ?_⟩
        · rintro i x H3 hi ⟨fs, h8, h9, lf, s3⟩
          obtain ⟨d0, ed0, tx⟩ := k3.get hi
          obtain ⟨col, ecol, rfl⟩ : ∃ col, (p.2.cols.drop 1)[i]? = some col ∧ colD col = d0 := by
            rw [List.getElem?_map] at ed0
            cases h : (p.2.cols.drop 1)[i]? with
            | none => rw [h] at ed0; cases ed0
            | some col => rw [h] at ed0; cases ed0; exact ⟨col, rfl, rfl⟩
          have tx3 := tx.mono (KeepT.of s3)
          obtain ⟨ca, zs, rfl, g1, g2⟩ := t_at tx3
          obtain ⟨u1, us1, rfl, g3, g2⟩ := g2.c1
          rw [g3.s1] at g1
          refine ⟨rfl, _, rfl, ca, _, _, .str col.n, rfl, rfl, SqT.of g1, at_ofN (j := 0) rfl rfl, _, rfl, a, _, _, c, rfl, rfl, SqT.of (s3 _ _ h7), at_ofN (j := 3) rfl rfl, scal_str _ ok.2.2.1, _, rfl, ?_⟩
          have li : i < 40 := by have := (List.getElem?_eq_some_iff.mp ecol).1; rw [List.length_drop] at this; omega
          refine ifD (fun z => ?_) (fun z => ?_)
          · refine ⟨_, rfl, fs, h8, small1000 (by omega), fs ++ [.ref ca], upd_same, ?_, by rw [List.length_append, List.length_cons, List.length_nil]; omega, same_upd hN _ s3⟩
            rw [List.take_add_one, ecol, Option.toList_some, List.filter_append, List.filter_cons, if_pos (show F col = true from decide_eq_true z), List.filter_nil, List.map_append]
            have ku : KeepT H3 (upd H3 N (.lst (fs ++ [.ref ca]))) := KeepT.upd fun zs z => by rw [h8] at z; cases z
            exact TpL.snoc (h9.mono ku) (tx3.mono ku)
          · refine ⟨fs, h8, ?_, by omega, s3⟩
            rw [List.take_add_one, ecol, Option.toList_some, List.filter_append, List.filter_cons, if_neg (show ¬ F col = true from fun y => z (of_decide_eq_true y)), List.filter_nil, List.append_nil]
            exact h9
        rintro H3 ⟨fs, h8, h9, lf, s3⟩
        rw [List.take_of_length_le (by rw [List.length_drop, List.length_drop]; omega)] at h9
        have s03 := s2.trans s3
        have hhead := setC_head p.2.cols c
        have hsub : ∀ x ∈ (p.2.cols.drop 1).filter F, x ∈ p.2.cols := fun x hx => List.mem_of_mem_drop (List.mem_filter.mp hx).1
        have hhead' : setC p.2.cols c = ((p.2.cols.drop 1).filter F).head? := hhead
        generalize (p.2.cols.drop 1).filter F = fl at h9 hsub hhead'
        have bad' : ∀ H2, Same H H2 → setB p.2.cols c w = false → Q (.str "row") H2 := fun H2 s hb => bad H2 s (by simp only [rowBad, hb]; rfl)
        refine ⟨_, rfl, Nat.zero_le _, fun Z hZ => ?_⟩
        have sZ := same_new hZ (.lst [])
        refine ⟨_, _, .lst (SqL.of (sZ _ _ h8)) ((h9.mono (KeepT.of sZ)).py), .lst (SqL.of upd_same) .nil, cols_shaped (fun x hx => ⟨(tv.co.fr x.n (List.mem_map.mpr ⟨x, hsub x hx, rfl⟩)).2, tv.co.kd x (hsub x hx)⟩), intD_shaped [], _, rfl, ?_⟩
        rw [cols_nil]
        have h8z := sZ _ _ h8
        have h7z := sZ _ _ (s3 _ _ h7)
        have h9z := h9.mono (KeepT.of sZ)
        have s0z := s03.trans sZ
        generalize upd H3 Z (.lst []) = H4 at h8z h7z h9z s0z ⊢
        cases fl with
        | nil => exact ifD (fun _ => bad' H4 s0z (by unfold setB; rw [hhead']; rfl)) (fun z => absurd rfl z)
        | cons col r =>
          refine ifD (fun z => nomatch z) (fun _ => ?_)
          obtain ⟨v0, vs0, rfl, g1, g2⟩ := h9z.c1
          obtain ⟨ca, zs, rfl, g3, g4⟩ := t_at g1
          obtain ⟨u1, us1, rfl, g5, g4⟩ := g4.c1
          obtain ⟨u2, us2, rfl, g6, g4⟩ := g4.c1
          obtain ⟨u3, us3, rfl, g7, g4⟩ := g4.c1
          cases g4
          rw [g5.s1, g6.s1, g7.s1] at g3
          refine ⟨_, rfl, a, _, _, w, rfl, rfl, SqT.of h7z, at_ofN (j := 4) rfl rfl, _, rfl, N, _, _, .ref ca, rfl, rfl, SqL.of h8z, at_ofN (j := 0) rfl rfl, w, ca, col, rfl, g3, tv.co.kd col (hsub col (List.mem_cons_self ..)), ok.2.2.2, ⟨_, rfl, ?_⟩⟩
          have eb : setB p.2.cols c w = fitsK w col.k col.b := by unfold setB; rw [hhead']; rfl
          rw [← eb]
          cases hb : setB p.2.cols c w with
          | false => exact iteT (bad' H4 s0z hb)
          | true => exact iteF ⟨⟨_, _, rfl⟩, s0z, by simp only [rowBad, hb]; rfl⟩
    rintro σ H3 ⟨⟨v4, v5, rfl⟩, s3, hgood⟩
    rw [if_neg (by rw [hgood]; exact fun z => nomatch z)] at q
    have full : edFull e := by
      cases e with
      | row b t r =>
        intro z
        subst z
        have h4 := hrow b t [] rfl
        have h6 := tv.l0
        have h7 : ([] : List V).length = p.2.cols.length := rowB_len h4
        simp only [List.length_nil] at h7
        omega
      | set t k c w => exact True.intro
      | del t k => exact True.intro
    have kOk : valE (edK e) := by
      cases e with
      | row b t r =>
        cases r with
        | nil => exact absurd rfl full
        | cons x r => exact ok.2.2 x (List.mem_cons_self ..)
      | set t k c w => exact ok.2.1
      | del t k => exact ok.2
    have ec0 : p.2.cols[0]? = some (p.2.cols[0]'(by have := tv.l0; omega)) := List.getElem?_eq_getElem _
    generalize p.2.cols[0]'(by have := tv.l0; omega) = c0 at ec0
    refine ⟨_, rfl, .ref a, e, rfl, he.mono (KeepT.of s3), full, fun H4 s4 => ?_⟩
    have s04 := s3.trans s4
    obtain ⟨as, ca, k1, k2, k3⟩ := (D.mono s04).co.get ec0
    refine ⟨_, rfl, p.1.c, _, _, .ref ca, rfl, rfl, SqL.of k1, at_ofN (j := 0) rfl k2, edK e, ca, c0, rfl, k3, tv.co.kd c0 (List.mem_of_getElem? ec0), kOk, ⟨_, rfl, ?_⟩⟩
    rw [keyB_at ec0] at q
    cases hk : fitsK (edK e) c0.k c0.b with
    | false =>
      rw [if_pos hk] at q
      exact iteT (q H4 s04)
    | true =>
    refine iteF ?_
    rw [if_neg (by rw [hk]; exact fun z => nomatch z)] at q
    refine ⟨_, rfl, _, rfl, T, st, .ref a, e, rfl, hT.mono s04, hN _ hin, he.mono (KeepT.of s04), full, keyB_key tv.co (by rw [keyB_at ec0]; exact hk), fun H5 s5 => ⟨_, rfl, ?_⟩⟩
    have s05 := s04.trans s5
    by_cases hh : hasK (rwsOf (stM st) (edT e)) (keyOf (edK e)) = isIns e
    · rw [if_pos hh] at q
      rw [decide_eq_false (fun z => z hh)]
      exact iteT (q H5 s05)
    · rw [if_neg hh] at q
      rw [decide_eq_true hh]
      exact iteF (q H5 s05))
theorem ok_law_expected {f : Addr} {fd : FuncData} (k : Kn K mg "_law_expected" s_law_expected ["schema", "state", "edits"] f fd) (z : Z mg)
    {g_law_copy : Addr} {gd_law_copy : FuncData} (c_law_copy : Cal P w K mg base 9 "_law_copy" ["thing"] (spCopyG 9) g_law_copy gd_law_copy)
    {g_law_code : Addr} {gd_law_code : FuncData} (c_law_code : Cal P w K mg base 3 "_law_code" ["schema", "state", "edit"] (spEdCode) g_law_code gd_law_code)
    {g_law_do : Addr} {gd_law_do : FuncData} (c_law_do : Cal P w K mg base 2 "_law_do" ["schema", "state", "edit"] (spLawDo) g_law_do gd_law_do) :
    Cal P w K mg base 10 "_law_expected" ["schema", "state", "edits"] (spExpE) f fd := k.cal (by
  refine k.F.ok sc_law_expected (fun vs H Q E h => ?_) (fun cdv A outer s H vs Q E hr h => ?_)
  · obtain ⟨S, s, T, st, L, es, xs, b, rfl, _⟩ := h; rfl
  · obtain ⟨S, s, T, st, L, es, xs, b, rfl, hS, hT, hW, hM, hb, l100, hL, hes, oks, q1, q2⟩ := h
    have hu := hu_of hr
    refine ⟨_, (pss_cons (ps_set (i := 1) sc_law_expected.nd rfl (Or.inl rfl) (pe_call c_law_copy.G (hr.mono (by decide)) (by rfl) c_law_copy.m c_law_copy.kp c_law_copy.b .nil pass0 (pa_cons (pv 1) pa_nil)))
        (pss_cons (ps_if (pt_cmpR op_gt (pe_callB call_len_seq (by rfl) z.len (by decide +kernel) (pa_cons (pv 2) pa_nil)) pe_int (nomark _)) (pss_one (ps_ret (pe_tup (pa_cons pe_non (pa_cons pe_str (pa_cons pe_int pa_nil)))))) pss_nil)
        (pss_cons (ps_for PassesOwn.never rfl (pi_range1 (by rfl) z.range (pa_cons (pe_callB call_len_seq (by rfl) z.len (by decide +kernel) (pa_cons (pv 2) pa_nil)) pa_nil)) (pg_name (i := 3) sc_law_expected.nd rfl (Or.inl rfl))
        (pss_cons (ps_set (i := 4) sc_law_expected.nd rfl (Or.inl rfl) (pe_call c_law_code.G (hr.mono (by decide)) (by rfl) c_law_code.m c_law_code.kp c_law_code.b .nil pass0 (pa_cons (pv 0) (pa_cons (pv 1) (pa_cons (pe_ix ix_list (pv 2) (pv 3) (fun _ _ => rfl)) pa_nil)))))
        (pss_cons (ps_if (pt_cmpR op_ne (pv 4) pe_str (nomark _)) (pss_one (ps_ret (pe_tup (pa_cons pe_non (pa_cons (pv 4) (pa_cons (pv 3) pa_nil)))))) pss_nil)
        (pss_one (ps_expr (pe_call c_law_do.G (hr.mono (by decide)) (by rfl) c_law_do.m c_law_do.kp c_law_do.b .nil pass0 (pa_cons (pv 0) (pa_cons (pv 1) (pa_cons (pe_ix ix_list (pv 2) (pv 3) (fun _ _ => rfl)) pa_nil)))))))))
        (pss_one (ps_ret (pe_tup (pa_cons (pv 1) (pa_cons pe_str (pa_cons (pe_un un_neg pe_int) pa_nil))))))))), ?_⟩
    have lx : xs.length = es.length := by rw [hes.length, List.length_map]
    have tnd : ((tbs s).map (·.n)).Nodup := by
      have := hS.nm
      unfold tbs
      rw [List.map_map]
      exact this
    refine ⟨_, rfl, .ref T, stG st, _, rfl, hT.gM hW hM (by omega) (by omega), Nat.lt_of_le_of_lt (st_dep st) (by decide), fun x' D' H1 g1 s1 f1 nd1 => ?_⟩
    obtain ⟨T0, st0, rfl, A0, em0, rfl⟩ := gp_st g1 hT.nm
    refine ⟨_, rfl, L, _, rfl, .inl (SqL.of (s1 _ _ hL)), _, _, rfl, rfl, _, rfl, ?_⟩
    refine ifD (fun hlong => ?_) (fun hshort => ?_)
    · refine ⟨(by show 3 ≤ sizeLine; decide), fun r hr2 => ?_⟩
      exact q2 "long" 24 (by unfold applyM; rw [if_pos (by omega)]) r _ upd_same (s1.trans (same_new hr2 _))
    have ea : applyM (tbs s) (stM st) es = runE (tbs s) (stM st) es 0 := by unfold applyM; rw [if_neg (by omega)]
    refine ⟨_, rfl, L, _, rfl, .inl (SqL.of (s1 _ _ hL)), ((xs.length : Nat) : Int), rfl, by omega, by omega, for_range (lo := 0) (n := xs.length) (fun i σ H' => (∃ v3 v4, σ = [some (.ref S), some (.ref T0), some (.ref L), v3, v4]) ∧ ∃ st' m, StAt H' T0 st' ∧ stM st' = m ∧ (stD T0 st').Nodup ∧ (∀ a ∈ stD T0 st', H a = none) ∧ MW (tbs s) m (b + i) ∧ m.length = st.length ∧ Same H H' ∧ runE (tbs s) (stM st) es 0 = runE (tbs s) m (es.drop i) i) ⟨⟨none, none, rfl⟩, st0, stM st, A0, em0, nd1, f1, hW, stM_len st, s1, by rw [List.drop_zero]⟩ ?_ ?_⟩
    rotate_left
    · rintro σ H2 ⟨⟨v3, v4, rfl⟩, st', m, A, em, nd, fr, W, lm, s2, er⟩
      rw [List.drop_eq_nil_of_le (by omega)] at er
      refine ⟨_, rfl, _, rfl, (by show 3 ≤ sizeLine; decide), fun r hr2 => ?_⟩
      have s3 := same_new hr2 (.tup [V.ref T0, V.str "", V.int (-1)])
      exact q1 m (by rw [ea, er]; rfl) T0 st' r _ (A.mono s3) em fr upd_same (s2.trans s3)
    rintro i σ H2 hi ⟨⟨v3, v4, rfl⟩, st', m, A, em, nd, fr, W, lm, s2, er⟩
    have ex : xs[i]? = some xs[i] := List.getElem?_eq_getElem hi
    generalize xs[i] = qv at ex
    have e0 : (0 : Int) + (i : Nat) = (i : Nat) := by omega
    obtain ⟨d0, ed0, ht⟩ := hes.get ex
    obtain ⟨e, ee, rfl⟩ : ∃ e, es[i]? = some e ∧ edD e = d0 := by
      rw [List.getElem?_map] at ed0
      cases h : es[i]? with
      | none => rw [h] at ed0; cases ed0
      | some e => rw [h] at ed0; cases ed0; exact ⟨e, rfl, rfl⟩
    have oke := oks e (List.mem_of_getElem? ee)
    have ed : es.drop i = e :: es.drop (i + 1) := by
      obtain ⟨h3, h4⟩ := List.getElem?_eq_some_iff.mp ee
      rw [← h4, List.getElem_cons_drop]
    rw [ed] at er
    refine ⟨_, rfl, _, rfl, _, rfl, _, rfl, L, _, _, qv, rfl, rfl, SqL.of (s2 _ _ hL), (by rw [e0]; exact atI_nat ex), S, s, T0, st', qv, e, rfl, hS.mono s2, A, (fun n hn => by
      obtain ⟨p, h3, h4⟩ := List.mem_map.mp hn
      rw [← h4]
      exact W.names em (t := p.2) (List.mem_map.mpr ⟨p, h3, rfl⟩)), ht.mono (KeepT.of s2), oke, fun H3 s3 => ?_⟩
    rw [em]
    have s23 := s2.trans s3
    refine ⟨_, rfl, rfl, _, rfl, ?_⟩
    by_cases hc : edC (tbs s) m e = ""
    rotate_left
    · refine iteNF (fun z => hc (V.str.inj z)) ?_
      refine ⟨_, rfl, _, rfl, (by show 3 ≤ sizeLine; decide), fun r hr2 => ?_⟩
      refine q2 (edC (tbs s) m e) i (by rw [ea, er, runE, if_neg hc]) r _ ?_ (s23.trans (same_new hr2 _))
      rw [upd_same, e0]
    rw [runE, if_pos hc] at er
    have W2 := W.step tnd hc
    refine iteNS (by rw [hc]) ?_
    refine ⟨_, rfl, _, rfl, _, rfl, _, rfl, L, _, _, qv, rfl, rfl, SqL.of (s23 _ _ hL), (by rw [e0]; exact atI_nat ex), S, s, T0, st', qv, e, b + i, rfl, hS.mono s23, A.mono s3, nd, ht.mono (KeepT.of s23), oke, by rw [em]; exact hc, by rw [em]; exact W, by omega, fun st2 H4 A4 em4 dm SE KT => ?_⟩
    have dD : stD T0 st2 = stD T0 st' := by unfold stD; rw [dm]
    refine ⟨⟨_, _, rfl⟩, st2, edM (tbs s) m e, A4, by rw [em4, em], by rw [dD]; exact nd, by rw [dD]; exact fr, by rw [← Nat.add_assoc]; exact W2, by rw [edM_len]; exact lm, fun b' o' e' => SE b' o' (s23 b' o' e') (fun hm => by rw [fr b' (List.mem_cons_of_mem _ hm)] at e'; cases e'), er⟩)
theorem ok_copy_state {f : Addr} {fd : FuncData} (k : Kn K mg "copy_state" s_copy_state ["state"] f fd) (z : Z mg) :
    Cal P w K mg base 1 "copy_state" ["state"] (spCopyState) f fd := k.cal (by
  refine k.F.ok sc_copy_state (fun vs H Q E h => ?_) (fun cdv A outer s H vs Q E hr h => ?_)
  · obtain ⟨T, st, rfl, _⟩ := h; rfl
  · obtain ⟨T, st, rfl, hT, l100, q⟩ := h
    have hu := hu_of hr
    refine ⟨_, (pss_one (ps_ret (pe_lock (pe_dc (own := [("table", 1)]) (g := gName 1) (tt := tYes) (by rfl) sc_copy_state.nd (pi_keys (pv 0)) (blkOk_by (own := [("table", 1)]) (N := ["state", "table"]) (sc := defScope s_copy_state) (by decide +kernel)) (fun _ _ _ _ _ => pg_name (i := 1) sc_copy_state.nd rfl (Or.inl rfl)) (fun _ _ _ _ _ => pts_nil) (fun _ _ _ _ _ => (pv 1)) (fun _ _ _ _ _ => (pe_callTy call_dictD (by rfl) z.dict (by decide +kernel) (pa_cons (pe_dget hu (pv 0) (pv 1) (fun _ _ => rfl)) pa_nil))))))), ?_⟩
    refine ⟨T, .dK (stK st), hT.sk, True.intro, fun od => ?_⟩
    have neT := st_neT hT
    have lk : (stK st).length = st.length := by unfold stK; rw [List.length_map]
    refine ⟨_, rfl, T, od, rfl, .inl ⟨stK st, upd_same, fun N hN => inner walk_keys (fun i H' => ∃ st1 : List TS, stM st1 = stM (st.take i) ∧ H' N = some (.dK (stK st1)) ∧ (∀ q ∈ st1, TAt H' q.d q.rs ∧ H q.d = none ∧ q.d ≠ N) ∧ (st1.map fun q => q.d).Nodup ∧ H' T = some (.frz od (.dK (stK st))) ∧ Same (upd H T (.frz od (.dK (stK st)))) H') ⟨[], rfl, upd_same, (fun q hq => by cases hq), List.nodup_nil, by rw [upd_ne (fun z => by rw [← z, upd_same] at hN; cases hN)]; exact upd_same, same_new hN _⟩ (fun i H' _ ⟨_, _, _, _, _, e, _⟩ => e) ?_ ?_⟩⟩
    · rintro i x H3 H3' hi ⟨st1, em, h3, fr, nd, h4, s3⟩ ⟨rfl, key, wv, ek, rfl⟩
      have hil : i < st.length := by rw [← lk]; exact hi
      have ep : st[i]? = some st[i] := List.getElem?_eq_getElem hil
      generalize st[i] = p at ep
      have hp : p ∈ st := List.mem_of_getElem? ep
      have ek' : (stK st)[i]? = some ((Sum.inr p.n : Key), V.ref p.d) := by unfold stK; rw [List.getElem?_map, ep]; rfl
      rw [ek'] at ek
      cases ek
      have gd : DGet H3' T (.str p.n) (some (.ref p.d)) := .inl ⟨stK st, Sum.inr p.n, .inr ⟨od, h4⟩, rfl, (st_get hT.nm hp).symm⟩
      have hd : H3' p.d = some (.dK (roK p.rs)) := s3 _ _ (by rw [upd_ne (neT p hp)]; exact (hT.ds p hp).dk)
      have NT : N ≠ T := fun z => by rw [z, h4] at h3; cases h3
      have N0 : H N = none := lockE_free (u := .dK (stK st)) (Same.refl _) hN
      refine ⟨rfl, _, rfl, _, rfl, _, rfl, T, _, rfl, gd, p.d, roK p.rs, rfl, .inl hd, fun r hr => ?_⟩
      have l1 : st1.length = i := by have := congrArg List.length em; unfold stM at this; rw [List.length_map, List.length_map, List.length_take] at this; omega
      have hnm : p.n ∉ stN st1 := fun hm => by
        rw [← stM_names, em, stM_names] at hm
        have h5 : (stN st)[i]? = some p.n := by unfold stN; rw [List.getElem?_map, ep]; rfl
        obtain ⟨j, hj, ej⟩ := List.getElem_of_mem hm
        have h6 : (stN st)[j]? = some p.n := by
          have h7 : (stN (st.take i))[j]? = some p.n := by rw [List.getElem?_eq_getElem hj, ej]
          unfold stN at h7 ⊢
          rw [List.map_take] at h7
          rw [List.getElem?_take] at h7
          split at h7
          · exact h7
          · cases h7
        have := nd_ix hT.nm h5 h6
        unfold stN at hj
        rw [List.length_map, List.length_take] at hj
        omega
      have hno : valV (stK st1) (Sum.inr p.n : Key) = none := by
        cases e : valV (stK st1) (Sum.inr p.n : Key) with
        | none => rfl
        | some v =>
          exfalso
          have hin := valV_in e
          rw [st_keys] at hin
          obtain ⟨y, h5, h6⟩ := List.mem_map.mp hin
          cases h6
          exact hnm h5
      have r0 : H r = none := lockE_free (u := .dK (stK st)) s3 hr
      have rN : r ≠ N := fun z => by rw [z, h3] at hr; cases hr
      refine ⟨stK st1, Sum.inr p.n, rfl, (by rw [upd_ne rN.symm]; exact h3), (by unfold stK; rw [List.length_map]; exact small1000 (by omega)), ?_⟩
      rw [putK_new _ hno]
      have keep : ∀ b o, b ≠ N → b ≠ r → H3' b = some o → (upd (upd H3' r (.dK (roK p.rs))) N (.dK (stK st1 ++ [((Sum.inr p.n : Key), V.ref r)]))) b = some o := fun b o n1 n2 e => by rw [upd_ne n1, upd_ne n2]; exact e
      refine ⟨st1 ++ [⟨p.n, r, p.rs⟩], ?_, ?_, ?_, ?_, ?_, ?_⟩
      · rw [stM_at ep, ← em]; unfold stM; rw [List.map_append]; rfl
      · rw [upd_same]; unfold stK; rw [List.map_append]; rfl
      · intro q hq
        rcases List.mem_append.mp hq with h | h
        · obtain ⟨t1, n1, n2⟩ := fr q h
          have nr : q.d ≠ r := fun z => by have := t1.dk; rw [z, hr] at this; cases this
          refine ⟨⟨keep _ _ n2 nr t1.dk, fun x hx => ?_, t1.nd⟩, n1, n2⟩
          have hx1 := t1.rt x hx
          exact keep _ _ (fun z => by rw [z, h3] at hx1; cases hx1) (fun z => by rw [z, hr] at hx1; cases hx1) hx1
        · rw [List.mem_singleton.mp h]
          refine ⟨⟨by rw [upd_ne rN]; exact upd_same, fun x hx => ?_, (hT.ds p hp).nd⟩, r0, rN⟩
          have hx0 := (hT.ds p hp).rt x hx
          have hx1 : H3' x.a = some (.tup x.vs) := s3 _ _ (by rw [upd_ne (fun z => by rw [z, hT.sk] at hx0; cases hx0)]; exact hx0)
          exact keep _ _ (fun z => by rw [z, h3] at hx1; cases hx1) (fun z => by rw [z, hr] at hx1; cases hx1) hx1
      · rw [List.map_append]
        refine List.nodup_append.mpr ⟨nd, List.nodup_cons.mpr ⟨(fun h => by cases h), List.nodup_nil⟩, fun x hx y hy e => ?_⟩
        obtain ⟨q, h5, h6⟩ := List.mem_map.mp hx
        rw [List.mem_singleton.mp hy] at e
        have h6' : q.d = x := h6
        have := (fr q h5).1.dk
        rw [h6', e] at this
        have hr' : H3' r = none := hr
        have h8 : H3' r = some (.dK (roK q.rs)) := this
        rw [hr'] at h8
        cases h8
      · exact keep _ _ NT.symm (fun z => by rw [← z, h4] at hr; cases hr) h4
      · exact same_upd hN _ (s3.trans (same_new hr _))
    rintro H3 ⟨st1, em, h3, fr, nd, h4, s3⟩
    rw [lk, List.take_length] at em
    have NT : N ≠ T := fun z => by rw [z, h4] at h3; cases h3
    refine ⟨h4, q N st1 _ ⟨⟨by rw [upd_ne NT]; exact h3, fun x hx => ?_, ?_⟩, em, lockE_free (u := .dK (stK st)) (Same.refl _) hN, fun x hx => ⟨(fr x hx).2.1, (fr x hx).2.2⟩, nd, unlockE hT.sk s3⟩⟩
    · have t1 := (fr x hx).1
      exact ⟨by rw [upd_ne (fun z => by have := t1.dk; rw [z, h4] at this; cases this)]; exact t1.dk, fun y hy => by rw [upd_ne (fun z => by have := t1.rt y hy; rw [z, h4] at this; cases this)]; exact t1.rt y hy, t1.nd⟩
    · rw [← stM_names, em, stM_names]; exact hT.nm)
theorem ok_kind_of {f : Addr} {fd : FuncData} (k : Kn K mg "kind_of" s_kind_of ["value"] f fd) (z : Z mg) :
    Cal P w K mg base 1 "kind_of" ["value"] (spKindOf) f fd := k.cal (by
  refine k.F.ok sc_kind_of (fun vs H Q E h => ?_) (fun cdv A outer s H vs Q E hr h => ?_)
  · obtain ⟨v, rfl, _⟩ := h; rfl
  · obtain ⟨v, rfl, hv, q⟩ := h
    refine ⟨_, (pss_cons (ps_if (pt_cmpR op_isN (pv 0) pe_non (nomark _)) (pss_one (ps_ret pe_str)) pss_nil)
        (pss_cons (ps_if (pt_val (pe_callB call_isi (by rfl) z.isinstance (by decide +kernel) (pa_cons (pv 0) (pa_cons (pe_bltn (v := .ty "int") (u := .type "int") (by rfl) z.int (by decide +kernel) rfl) pa_nil)))) (pss_one (ps_ret pe_str)) pss_nil)
        (pss_one (ps_ret pe_str)))), ?_⟩
    refine ⟨_, rfl, rfl, _, rfl, ?_⟩
    cases v with
    | non => exact iteDT rfl q
    | bl b => exact iteDF (fun e => nomatch e) ⟨_, rfl, _, _, _, _, true, rfl, .ty _, .base (.bl b), kit_ty (by decide +kernel), _, rfl, q⟩
    | int i => exact iteDF (fun e => nomatch e) ⟨_, rfl, _, _, _, _, true, rfl, .ty _, .base (.int i), kit_ty (by decide +kernel), _, rfl, q⟩
    | str y => exact iteDF (fun e => nomatch e) ⟨_, rfl, _, _, _, _, false, rfl, .ty _, .base (.str y), kit_ty (by decide +kernel), _, rfl, q⟩
    | byt _ => cases hv
    | flt _ => cases hv
    | ref _ => cases hv
    | ty _ => cases hv)
theorem ok_is_text_code {f : Addr} {fd : FuncData} (k : Kn K mg "is_text_code" s_is_text_code ["code"] f fd) (z : Z mg) :
    Cal P w K mg base 1 "is_text_code" ["code"] (spIsCode) f fd := k.cal (by
  obtain ⟨t_PERCENT_CODE, k_PERCENT_CODE⟩ := z.c_PERCENT_CODE
  obtain ⟨t_LAST_CODE, k_LAST_CODE⟩ := z.c_LAST_CODE
  obtain ⟨t_FIRST_CODE, k_FIRST_CODE⟩ := z.c_FIRST_CODE
  refine k.F.ok sc_is_text_code (fun vs H Q E h => ?_) (fun cdv A outer s H vs Q E hr h => ?_)
  · obtain ⟨c, rfl, _⟩ := h; rfl
  · obtain ⟨c, rfl, q⟩ := h
    refine ⟨_, (pss_one (ps_ret (pe_and (pe_cmpR op_le (pe_glob (v := .int (32)) rfl k_FIRST_CODE ⟨_, rfl⟩) (pv 0) (nomark _)) (pe_and (pe_cmpR op_le (pv 0) (pe_glob (v := .int (126)) rfl k_LAST_CODE ⟨_, rfl⟩) (nomark _)) (pe_one (pe_cmpR op_ne (pv 0) (pe_glob (v := .int (37)) rfl k_PERCENT_CODE ⟨_, rfl⟩) (nomark _))))))), ?_⟩
    refine ⟨_, rfl, _, _, rfl, rfl, _, rfl, ?_⟩
    refine ifD (fun h1 => ?_) (fun h1 => ?_)
    · refine ⟨_, rfl, _, _, rfl, rfl, _, rfl, ?_⟩
      refine ifD (fun h2 => ?_) (fun h2 => ?_)
      · refine ⟨_, rfl, rfl, ?_⟩
        have e : (!decide (V.int c = V.int 37)) = decide (codeOk c) := by
          by_cases h3 : c = 37
          · subst h3; decide
          · have a : ¬ (V.int c = V.int 37) := fun z => h3 (V.int.inj z)
            rw [decide_eq_false a, decide_eq_true (show codeOk c from ⟨h1, h2, h3⟩)]
            rfl
        rw [e]
        exact q
      · rw [decide_eq_false (show ¬ codeOk c from fun z => h2 z.2.1)] at q
        exact q
    · rw [decide_eq_false (show ¬ codeOk c from fun z => h1 z.1)] at q
      exact q)
theorem ok_is_text_character {f : Addr} {fd : FuncData} (k : Kn K mg "is_text_character" s_is_text_character ["character"] f fd) (z : Z mg)
    {g_is_text_code : Addr} {gd_is_text_code : FuncData} (c_is_text_code : Cal P w K mg base 1 "is_text_code" ["code"] (spIsCode) g_is_text_code gd_is_text_code) :
    Cal P w K mg base 2 "is_text_character" ["character"] (spIsChar) f fd := k.cal (by
  refine k.F.ok sc_is_text_character (fun vs H Q E h => ?_) (fun cdv A outer s H vs Q E hr h => ?_)
  · obtain ⟨c, rfl, _⟩ := h; rfl
  · obtain ⟨c, rfl, q⟩ := h
    refine ⟨_, (pss_one (ps_ret (pe_call c_is_text_code.G (hr.mono (by decide)) (by rfl) c_is_text_code.m c_is_text_code.kp c_is_text_code.b .nil pass0 (pa_cons (pe_callB call_ord (by rfl) z.ord (by decide +kernel) (pa_cons (pv 0) pa_nil)) pa_nil)))), ?_⟩
    refine ⟨_, rfl, one c, rfl, rfl, (c : Int), rfl, ?_⟩
    have e : decide (codeOk (c : Int)) = decide (chOk c) := by
      by_cases h : chOk c
      · rw [decide_eq_true h, decide_eq_true]
        unfold chOk at h; unfold codeOk; omega
      · rw [decide_eq_false h, decide_eq_false]
        intro z
        apply h
        unfold codeOk at z; unfold chOk; omega
    rw [e]
    exact q)
theorem ok_is_text {f : Addr} {fd : FuncData} (k : Kn K mg "is_text" s_is_text ["thing"] f fd) (z : Z mg)
    {g_is_text_character : Addr} {gd_is_text_character : FuncData} (c_is_text_character : Cal P w K mg base 2 "is_text_character" ["character"] (spIsChar) g_is_text_character gd_is_text_character) :
    Cal P w K mg base 3 "is_text" ["thing"] (spIsText) f fd := k.cal (by
  obtain ⟨t_MOST_CHARACTERS, k_MOST_CHARACTERS⟩ := z.c_MOST_CHARACTERS
  refine k.F.ok sc_is_text (fun vs H Q E h => ?_) (fun cdv A outer s H vs Q E hr h => ?_)
  · obtain ⟨z, rfl, _⟩ := h; rfl
  · obtain ⟨zz, rfl, hl, q⟩ := h
    refine ⟨_, (pss_one (ps_ret (pe_and (pe_cmpR op_le (pe_callB call_len_str (by rfl) z.len (by decide +kernel) (pa_cons (pv 0) pa_nil)) (pe_glob (v := .int (30)) rfl k_MOST_CHARACTERS ⟨_, rfl⟩) (nomark _)) (pe_one (pe_callB (cr_all rfl) (by rfl) z.all (by decide +kernel) (pa_cons (pe_lc (own := [("character", 1)]) (g := gName 1) (tt := tYes) (by rfl) sc_is_text.nd (pi_str (pv 0)) (blkOk_by (own := [("character", 1)]) (N := ["thing", "character"]) (sc := defScope s_is_text) (by decide +kernel)) (fun _ _ _ _ _ => pg_name (i := 1) sc_is_text.nd rfl (Or.inl rfl)) (fun _ _ _ _ _ => pts_nil) (fun _ _ _ _ _ => (pe_call c_is_text_character.G (hr.mono (by decide)) (by rfl) c_is_text_character.m c_is_text_character.kp c_is_text_character.b .nil pass0 (pa_cons (pv 1) pa_nil)))) pa_nil)))))), ?_⟩
    refine ⟨_, rfl, _, rfl, Nat.le_of_lt (small1000 hl), _, _, rfl, rfl, _, rfl, ?_⟩
    have ln : zz.length = zz.cps.size := rfl
    refine ifD (fun h1 => ?_) (fun h1 => ?_)
    · refine ⟨_, rfl, zz, rfl, fun D hD => lc_it walk_str (fun i H' => H' D = some (.lst (((tl zz).take i).map fun c => V.bl (decide (chOk c)))) ∧ Same H H') ⟨upd_same, same_new hD _⟩ (fun _ _ _ _ => True.intro) ?_ ?_⟩
      · rintro i x H1 H2 hi ⟨hD1, s1⟩ ⟨e1, c, e2, rfl⟩
        subst e1
        have ec : (tl zz)[i]? = some c := by rw [← e2]; exact Array.getElem?_toList
        refine ⟨rfl, _, rfl, c, rfl, _, hD1, (by rw [List.length_map, List.length_take]; exact small1000 (by omega)), ?_, same_upd hD _ s1⟩
        rw [upd_same, List.take_succ, ec]
        simp
      · rintro H1 ⟨hD1, s1⟩
        have e : (tl zz).take zz.cps.size = tl zz := List.take_of_length_le (by simp [tl])
        rw [e] at hD1
        have hD2 : H1 D = some (.lst (((tl zz).map fun c => decide (chOk c)).map V.bl)) := by rw [hD1, List.map_map]; rfl
        refine ⟨D, _, rfl, SqL.of hD2, ?_⟩
        have eg : ((tl zz).map fun c => decide (chOk c)).all id = goodV (.str zz) := by
          unfold goodV
          rw [Bool.eq_iff_iff, List.all_eq_true, decide_eq_true_iff]
          constructor
          · intro h
            exact ⟨by omega, fun c hc => of_decide_eq_true (h (decide (chOk c)) (List.mem_map.mpr ⟨c, hc, rfl⟩))⟩
          · rintro ⟨_, h⟩ b hb
            obtain ⟨c, hc, rfl⟩ := List.mem_map.mp hb
            exact decide_eq_true (h c hc)
        rw [eg]
        exact q _ s1
    · have eg : goodV (.str zz) = false := decide_eq_false fun z => h1 (by have := z.1; omega)
      rw [eg] at q
      exact q _ (Same.refl _))
theorem ok_is_value {f : Addr} {fd : FuncData} (k : Kn K mg "is_value" s_is_value ["thing"] f fd) (z : Z mg)
    {g_is_text : Addr} {gd_is_text : FuncData} (c_is_text : Cal P w K mg base 3 "is_text" ["thing"] (spIsText) g_is_text gd_is_text) :
    Cal P w K mg base 4 "is_value" ["thing"] (spIsValue) f fd := k.cal (by
  obtain ⟨t_GREATEST, k_GREATEST⟩ := z.c_GREATEST
  obtain ⟨t_LEAST, k_LEAST⟩ := z.c_LEAST
  refine k.F.ok sc_is_value (fun vs H Q E h => ?_) (fun cdv A outer s H vs Q E hr h => ?_)
  · obtain ⟨v, rfl, _⟩ := h; rfl
  · obtain ⟨v, rfl, hv, q⟩ := h
    refine ⟨_, (pss_cons (ps_if (pt_cmpR op_isN (pv 0) pe_non (nomark _)) (pss_one (ps_ret pe_bl)) pss_nil)
        (pss_cons (ps_if (pt_val (pe_callB call_isi (by rfl) z.isinstance (by decide +kernel) (pa_cons (pv 0) (pa_cons (pe_bltn (v := .ty "bool") (u := .type "bool") (by rfl) z.bool (by decide +kernel) rfl) pa_nil)))) (pss_one (ps_ret pe_bl)) pss_nil)
        (pss_cons (ps_if (pt_val (pe_callB call_isi (by rfl) z.isinstance (by decide +kernel) (pa_cons (pv 0) (pa_cons (pe_bltn (v := .ty "int") (u := .type "int") (by rfl) z.int (by decide +kernel) rfl) pa_nil)))) (pss_one (ps_ret (pe_and (pe_cmpR op_le (pe_glob (v := .int (-999999999)) rfl k_LEAST ⟨_, rfl⟩) (pv 0) (nomark _)) (pe_one (pe_cmpR op_le (pv 0) (pe_glob (v := .int (999999999)) rfl k_GREATEST ⟨_, rfl⟩) (nomark _)))))) pss_nil)
        (pss_one (ps_ret (pe_and (pe_callB call_isi (by rfl) z.isinstance (by decide +kernel) (pa_cons (pv 0) (pa_cons (pe_bltn (v := .ty "str") (u := .type "str") (by rfl) z.str (by decide +kernel) rfl) pa_nil))) (pe_one (pe_call c_is_text.G (hr.mono (by decide)) (by rfl) c_is_text.m c_is_text.kp c_is_text.b .nil pass0 (pa_cons (pv 0) pa_nil))))))))), ?_⟩
    refine ⟨_, rfl, rfl, _, rfl, ?_⟩
    cases hv with
    | non => exact iteDT rfl (q _ (Same.refl _))
    | bl b => exact iteDF (fun e => nomatch e) ⟨_, rfl, _, _, _, _, true, rfl, .ty _, .base (.bl b), kit_ty (by decide +kernel), _, rfl, q _ (Same.refl _)⟩
    | int i =>
      refine iteDF (fun e => nomatch e) ⟨_, rfl, _, _, _, _, false, rfl, .ty _, .base (.int i), kit_ty (by decide +kernel), _, rfl, ?_⟩
      refine ⟨_, rfl, _, _, _, _, true, rfl, .ty _, .base (.int i), kit_ty (by decide +kernel), _, rfl, ?_⟩
      refine ⟨_, rfl, _, _, rfl, rfl, _, rfl, ?_⟩
      refine ifD (fun h1 => ?_) (fun h1 => ?_)
      · refine ⟨_, rfl, _, _, rfl, rfl, ?_⟩
        have e : decide (i ≤ 999999999) = goodV (.int i) := by
          by_cases h2 : i ≤ 999999999
          · rw [decide_eq_true h2]; exact (decide_eq_true (by omega)).symm
          · rw [decide_eq_false h2]; exact (decide_eq_false (by omega)).symm
        show Q (.bl (decide (i ≤ 999999999))) H
        rw [e]
        exact q _ (Same.refl _)
      · have e : goodV (.int i) = false := decide_eq_false (by omega)
        rw [e] at q
        exact q _ (Same.refl _)
    | str y hy =>
      refine iteDF (fun e => nomatch e) ⟨_, rfl, _, _, _, _, false, rfl, .ty _, .base (.str y), kit_ty (by decide +kernel), _, rfl, ?_⟩
      refine ⟨_, rfl, _, _, _, _, false, rfl, .ty _, .base (.str y), kit_ty (by decide +kernel), _, rfl, ?_⟩
      refine ⟨_, rfl, _, _, _, _, true, rfl, .ty _, .base (.str y), kit_ty (by decide +kernel), _, rfl, ?_⟩
      exact ⟨_, rfl, y, rfl, hy, q⟩
    | lst ha =>
      refine iteDF (fun e => nomatch e) ⟨_, rfl, _, _, _, _, false, rfl, .ty _, .base (.lst ha), kit_ty (by decide +kernel), _, rfl, ?_⟩
      refine ⟨_, rfl, _, _, _, _, false, rfl, .ty _, .base (.lst ha), kit_ty (by decide +kernel), _, rfl, ?_⟩
      exact ⟨_, rfl, _, _, _, _, false, rfl, .ty _, .base (.lst ha), kit_ty (by decide +kernel), _, rfl, q _ (Same.refl _)⟩
    | tup ha =>
      refine iteDF (fun e => nomatch e) ⟨_, rfl, _, _, _, _, false, rfl, .ty _, .base (.tup ha), kit_ty (by decide +kernel), _, rfl, ?_⟩
      refine ⟨_, rfl, _, _, _, _, false, rfl, .ty _, .base (.tup ha), kit_ty (by decide +kernel), _, rfl, ?_⟩
      exact ⟨_, rfl, _, _, _, _, false, rfl, .ty _, .base (.tup ha), kit_ty (by decide +kernel), _, rfl, q _ (Same.refl _)⟩)
theorem ok_fits_kind {f : Addr} {fd : FuncData} (k : Kn K mg "fits_kind" s_fits_kind ["thing", "kind", "nullable"] f fd) (z : Z mg)
    {g_kind_of : Addr} {gd_kind_of : FuncData} (c_kind_of : Cal P w K mg base 1 "kind_of" ["value"] (spKindOf) g_kind_of gd_kind_of)
    {g_is_value : Addr} {gd_is_value : FuncData} (c_is_value : Cal P w K mg base 4 "is_value" ["thing"] (spIsValue) g_is_value gd_is_value) :
    Cal P w K mg base 5 "fits_kind" ["thing", "kind", "nullable"] (spFitsKind) f fd := k.cal (by
  refine k.F.ok sc_fits_kind (fun vs H Q E h => ?_) (fun cdv A outer s H vs Q E hr h => ?_)
  · obtain ⟨v, kk, b, rfl, _⟩ := h; rfl
  · obtain ⟨v, kk, b, rfl, hv, q⟩ := h
    refine ⟨_, (pss_cons (ps_if (pt_cmpR op_isN (pv 0) pe_non (nomark _)) (pss_one (ps_ret (pv 2))) pss_nil)
        (pss_one (ps_ret (pe_and (pe_call c_is_value.G (hr.mono (by decide)) (by rfl) c_is_value.m c_is_value.kp c_is_value.b .nil pass0 (pa_cons (pv 0) pa_nil)) (pe_one (pe_cmpR op_eq (pe_call c_kind_of.G (hr.mono (by decide)) (by rfl) c_kind_of.m c_kind_of.kp c_kind_of.b .nil pass0 (pa_cons (pv 0) pa_nil)) (pv 1) (nomark _))))))), ?_⟩
    refine ⟨_, rfl, rfl, _, rfl, ?_⟩
    refine ifD (fun h1 => ?_) (fun h1 => ?_)
    · have e : fitsK v kk b = b := by unfold fitsK; rw [if_pos h1]
      rw [e] at q
      exact ⟨_, rfl, q _ (Same.refl _)⟩
    have e : fitsK v kk b = (goodV v && decide (kindOf v = kk)) := by unfold fitsK; rw [if_neg h1]
    rw [e] at q
    refine ⟨_, rfl, v, rfl, hv, fun H1 s1 => ⟨_, rfl, ?_⟩⟩
    refine ite2 (fun hg => ?_) (fun hg => ?_)
    · have hs : isScal v = true := by
        cases hv with
        | non => rfl
        | bl b => rfl
        | int i => rfl
        | str z h => rfl
        | lst h => cases hg
        | tup h => cases hg
      refine ⟨_, rfl, v, rfl, hs, _, rfl, rfl, ?_⟩
      have e2 : decide (V.str (kindOf v) = V.str kk) = (goodV v && decide (kindOf v = kk)) := by
        rw [hg, Bool.true_and]
        by_cases h : kindOf v = kk
        · rw [decide_eq_true h, decide_eq_true (congrArg V.str h)]
        · rw [decide_eq_false h, decide_eq_false (fun z => h (V.str.inj z))]
      rw [e2]
      exact q _ s1
    · have hg' : goodV v = false := by simpa using hg
      rw [hg', Bool.false_and] at q
      exact q _ s1)
theorem ok_fits_columns {f : Addr} {fd : FuncData} (k : Kn K mg "fits_columns" s_fits_columns ["row", "columns"] f fd) (z : Z mg)
    {g_fits_kind : Addr} {gd_fits_kind : FuncData} (c_fits_kind : Cal P w K mg base 5 "fits_kind" ["thing", "kind", "nullable"] (spFitsKind) g_fits_kind gd_fits_kind) :
    Cal P w K mg base 6 "fits_columns" ["row", "columns"] (spFitsCols) f fd := k.cal (by
  refine k.F.ok sc_fits_columns (fun vs H Q E h => ?_) (fun cdv A outer s H vs Q E hr h => ?_)
  · obtain ⟨r, L, xs, cols, rfl, _⟩ := h; rfl
  · obtain ⟨r, L, xs, cols, rfl, hr0, hL, hv, l1, l2, q⟩ := h
    refine ⟨_, (pss_cons (ps_if (pt_cmpR op_ne (pe_callB call_len_seq (by rfl) z.len (by decide +kernel) (pa_cons (pv 0) pa_nil)) (pe_callB call_len_seq (by rfl) z.len (by decide +kernel) (pa_cons (pv 1) pa_nil)) (nomark _)) (pss_one (ps_ret pe_bl)) pss_nil)
        (pss_one (ps_ret (pe_callB (cr_all rfl) (by rfl) z.all (by decide +kernel) (pa_cons (pe_lc (own := [("value", 2), ("_", 3), ("kind", 4), ("nullable", 5)]) (g := (gTup K 2 (gCons (gName 2) (gCons (gTup K 3 (gCons (gName 3) (gCons (gName 4) (gCons (gName 5) (gNil))))) (gNil))))) (tt := tYes) (by rfl) sc_fits_columns.nd (LtZ.pi_zz .t .l (by rfl) z.zip (pa_cons (pv 0) (pa_cons (pv 1) pa_nil))) (blkOk_by (own := [("value", 2), ("_", 3), ("kind", 4), ("nullable", 5)]) (N := ["row", "columns", "value", "_", "kind", "nullable"]) (sc := defScope s_fits_columns) (by decide +kernel)) (fun _ _ _ _ _ => (pg_tup (by rfl) (pgs_cons (pg_name (i := 2) sc_fits_columns.nd rfl (Or.inl rfl)) (pgs_cons (pg_tup (by rfl) (pgs_cons (pg_name (i := 3) sc_fits_columns.nd rfl (Or.inl rfl)) (pgs_cons (pg_name (i := 4) sc_fits_columns.nd rfl (Or.inl rfl)) (pgs_cons (pg_name (i := 5) sc_fits_columns.nd rfl (Or.inl rfl)) pgs_nil)))) pgs_nil)))) (fun _ _ _ _ _ => pts_nil) (fun _ _ _ _ _ => (pe_call c_fits_kind.G (hr.mono (by decide)) (by rfl) c_fits_kind.m c_fits_kind.kp c_fits_kind.b .nil pass0 (pa_cons (pv 2) (pa_cons (pv 4) (pa_cons (pv 5) pa_nil)))))) pa_nil))))), ?_⟩
    obtain ⟨as, hL1, hL2⟩ := hL
    have lc : as.length = cols.length := by have := hL2.length; rw [List.length_map] at this; exact this
    refine ⟨_, rfl, r, xs, rfl, .inr (SqT.of hr0), _, rfl, L, as, rfl, .inl (SqL.of hL1), rfl, _, rfl, ?_⟩
    by_cases e : xs.length = cols.length
    rotate_left
    · refine iteNF (fun z => e ?_) ?_
      · have := V.int.inj z; omega
      · have : rowB cols xs = false := by unfold rowB; rw [decide_eq_false e]; rfl
        rw [this] at q
        exact q H (Same.refl _)
    refine iteNS (by rw [e, lc]) ?_
    refine ⟨_, rfl, _, rfl, r, L, xs, as, rfl, SqT.of hr0, SqL.of hL1, fun N hN => lc_it (LtZ.walk_zz (k1 := .t) (k2 := .l) (K := K) (a := r) (b := L) (xs := xs) (ys := as) rfl) (fun i H' => H' N = some (.lst ((((xs.zip cols).take i).map fun p => fitsK p.1 p.2.k p.2.b).map V.bl)) ∧ Same H H') ⟨upd_same, same_new hN _⟩ (fun i H' _ hh => ⟨SqT.of (hh.2 _ _ hr0), SqL.of (hh.2 _ _ hL1)⟩) ?_ ?_⟩
    · rintro i x H1 H1' hi ⟨h1, s1⟩ ⟨T, v, cv, rfl, hT, rfl, ev, ec⟩
      have hic : i < cols.length := by omega
      obtain ⟨as', a', k1, k2, k3⟩ := ColsAt.get ⟨as, hL1, hL2⟩ (List.getElem?_eq_getElem hic)
      rw [hL1] at k1
      cases k1
      have ec' : as[i]? = some cv := ec
      have ev' : xs[i]? = some v := ev
      rw [ec'] at k2
      cases k2
      have s2 := s1.trans (same_new hT (.tup [v, .ref a']))
      have eN := same_new hT (.tup [v, .ref a']) _ _ h1
      have vE := hv v (List.mem_of_getElem? ev')
      refine ⟨T, _, rfl, SqT.of upd_same, rfl, _, _, rfl, _, _, rfl, a', _, rfl, SqT.of (s2 _ _ k3), rfl, _, _, rfl, _, _, rfl, _, _, rfl, rfl, rfl, rfl, _, rfl, _, rfl, _, rfl, v, _, _, rfl, vE.thing, fun H2 s3 => ?_⟩
      refine ⟨_, s3 _ _ eN, ?_, ?_, same_upd hN _ (s2.trans s3)⟩
      · rw [List.length_map, List.length_map, List.length_take]; exact small1000 (by omega)
      · have ez : (xs.zip cols)[i]? = some (v, cols[i]) := by rw [List.getElem?_zip_eq_some]; exact ⟨ev', List.getElem?_eq_getElem hic⟩
        rw [upd_same, List.take_add_one, ez]
        simp
    rintro H1 ⟨h1, s1⟩
    refine ⟨N, _, rfl, SqL.of h1, ?_⟩
    have : ((((xs.zip cols).take (min xs.length as.length)).map fun p => fitsK p.1 p.2.k p.2.b).all id) = rowB cols xs := by
      rw [List.take_of_length_le (by rw [List.length_zip, lc]; exact Nat.le_refl _)]
      unfold rowB
      rw [decide_eq_true e, Bool.true_and, List.all_map]
      rfl
    rw [this]
    exact q H1 s1)
theorem ok_column_names {f : Addr} {fd : FuncData} (k : Kn K mg "column_names" s_column_names ["description"] f fd) (z : Z mg) :
    Cal P w K mg base 1 "column_names" ["description"] (spColumnNames) f fd := k.cal (by
  refine k.F.ok sc_column_names (fun vs H Q E h => ?_) (fun cdv A outer s H vs Q E hr h => ?_)
  · obtain ⟨d, L, cols, rfl, _⟩ := h; rfl
  · obtain ⟨d, L, cols, rfl, G, C, hl, q⟩ := h
    have hu := hu_of hr
    refine ⟨_, (pss_one (ps_ret (pe_lc (own := [("column", 1)]) (g := gName 1) (tt := tYes) (by rfl) sc_column_names.nd (pi_list (pe_dget hu (pv 0) pe_str (fun _ _ => rfl))) (blkOk_by (own := [("column", 1)]) (N := ["description", "column"]) (sc := defScope s_column_names) (by decide +kernel)) (fun _ _ _ _ _ => pg_name (i := 1) sc_column_names.nd rfl (Or.inl rfl)) (fun _ _ _ _ _ => pts_nil) (fun _ _ _ _ _ => (pe_ix (r := rIxT K) ix_tup (pv 1) pe_int (fun _ _ => rfl)))))), ?_⟩
    obtain ⟨xs, h1, h2⟩ := id C
    have hx : xs.length = cols.length := by rw [h2.length, List.length_map]
    refine ⟨_, rfl, d, _, rfl, G, L, rfl, ⟨_, SqL.of h1⟩, fun D hD => lc_list (K := K) (a := L) (xs := xs) (fun i H' => H' D = some (.lst (((colNs cols).take i).map V.str)) ∧ Same H H') ⟨upd_same, same_new hD _⟩ (fun i H' _ hh => SqL.of (hh.2 _ _ h1)) ?_ ?_⟩
    · rintro i x H1 hi ⟨hD1, s1⟩
      have hil : i < cols.length := by rw [← hx]; exact (List.getElem?_eq_some_iff.mp hi).1
      obtain ⟨xs', a, k1, k2, k3⟩ := C.get (List.getElem?_eq_getElem hil)
      rw [h1] at k1
      cases k1
      rw [hi] at k2
      cases k2
      refine ⟨rfl, _, rfl, a, _, 0, _, rfl, rfl, SqT.of (s1 _ _ k3), atI_nat (j := 0) rfl, _, hD1, (by rw [List.length_map, List.length_take]; exact small1000 (by omega)), ?_, same_upd hD _ s1⟩
      rw [upd_same, List.take_add_one]
      have : (colNs cols)[i]? = some cols[i].n := by unfold colNs; rw [List.getElem?_map, List.getElem?_eq_getElem hil]; rfl
      rw [this]
      simp
    · rintro H1 ⟨hD1, s1⟩
      have : (colNs cols).take xs.length = colNs cols := List.take_of_length_le (by unfold colNs; rw [List.length_map]; omega)
      rw [this] at hD1
      exact q D H1 hD s1 hD1)
theorem ok_is_other_column {f : Addr} {fd : FuncData} (k : Kn K mg "is_other_column" s_is_other_column ["description", "name"] f fd) (z : Z mg)
    {g_column_names : Addr} {gd_column_names : FuncData} (c_column_names : Cal P w K mg base 1 "column_names" ["description"] (spColumnNames) g_column_names gd_column_names) :
    Cal P w K mg base 2 "is_other_column" ["description", "name"] (spIsOther) f fd := k.cal (by
  refine k.F.ok sc_is_other_column (fun vs H Q E h => ?_) (fun cdv A outer s H vs Q E hr h => ?_)
  · obtain ⟨a, t, c, rfl, _⟩ := h; rfl
  · obtain ⟨a, t, c, rfl, hD, l40, hc, q⟩ := h
    refine ⟨_, (pss_one (ps_ret (pe_cmpR op_in_seq (pv 1) (pe_slice sl_list (pe_call c_column_names.G (hr.mono (by decide)) (by rfl) c_column_names.m c_column_names.kp c_column_names.b .nil pass0 (pa_cons (pv 0) pa_nil)) (po_some pe_int) po_none) (by rfl)))), ?_⟩
    refine ⟨_, rfl, _, rfl, a.d, a.c, t.cols, rfl, hD.gc, hD.co, by omega, fun N H1 hN s1 hN1 => ?_⟩
    refine ⟨_, rfl, N, _, rfl, SqL.of hN1, fun M hM => ?_⟩
    rw [cut_tail]
    refine ⟨M, _, rfl, .inl (SqL.of upd_same), hc.flat, ?_, ?_⟩
    · rw [List.all_eq_true]
      intro x hx
      obtain ⟨y, _, rfl⟩ := List.mem_map.mp (List.mem_of_mem_drop hx)
      rfl
    show Q (.bl (inV c (((colNs t.cols).map V.str).drop 1))) _
    rw [setC_in _ hc]
    exact q _ (s1.trans (same_new hM _)))
theorem ok_column_called {f : Addr} {fd : FuncData} (k : Kn K mg "column_called" s_column_called ["description", "name"] f fd) (z : Z mg)
    {g_column_names : Addr} {gd_column_names : FuncData} (c_column_names : Cal P w K mg base 1 "column_names" ["description"] (spColumnNames) g_column_names gd_column_names) :
    Cal P w K mg base 2 "column_called" ["description", "name"] (spColCalled) f fd := k.cal (by
  refine k.F.ok sc_column_called (fun vs H Q E h => ?_) (fun cdv A outer s H vs Q E hr h => ?_)
  · obtain ⟨a, t, n, rfl, _⟩ := h; rfl
  · obtain ⟨a, t, n, rfl, D, l40, hn, q⟩ := h
    have hu := hu_of hr
    refine ⟨_, (pss_one (ps_ret (pe_ix ix_list (pe_dget hu (pv 0) pe_str (fun _ _ => rfl)) (pe_bm PySem.F.plainAttrs_list PySem.F.slot_list_index PySem.F.type_list_index mt_index (pe_call c_column_names.G (hr.mono (by decide)) (by rfl) c_column_names.m c_column_names.kp c_column_names.b .nil pass0 (pa_cons (pv 0) pa_nil)) (pa_cons (pv 1) pa_nil)) (fun _ _ => rfl)))), ?_⟩
    obtain ⟨c, hc, _⟩ := idx_get hn
    obtain ⟨z, i1, i2, i3, i4⟩ := ix_names hn
    obtain ⟨xs, ca, k1, k2, k3⟩ := D.co.get hc
    refine ⟨_, rfl, a.d, _, rfl, D.gc, ?_⟩
    refine ⟨_, rfl, a.d, a.c, t.cols, rfl, D.gc, D.co, by omega, fun N H1 hN s1 hN1 => ?_⟩
    exact ⟨.inl ⟨rfl, _, SqL.of hN1⟩, _, rfl, N, _, _, (colNs t.cols).idxOf n, z, rfl, rfl, SqL.of hN1, rfl, i1, i2, i3, i4, a.c, _, _, _, rfl, rfl, SqL.of (s1 _ _ k1), at_ofN rfl k2, q ca c H1 hc (s1 _ _ k3) s1⟩)
theorem ok_fits_set {f : Addr} {fd : FuncData} (k : Kn K mg "fits_set" s_fits_set ["description", "column", "value"] f fd) (z : Z mg)
    {g_is_other_column : Addr} {gd_is_other_column : FuncData} (c_is_other_column : Cal P w K mg base 2 "is_other_column" ["description", "name"] (spIsOther) g_is_other_column gd_is_other_column)
    {g_column_called : Addr} {gd_column_called : FuncData} (c_column_called : Cal P w K mg base 2 "column_called" ["description", "name"] (spColCalled) g_column_called gd_column_called)
    {g_fits_kind : Addr} {gd_fits_kind : FuncData} (c_fits_kind : Cal P w K mg base 5 "fits_kind" ["thing", "kind", "nullable"] (spFitsKind) g_fits_kind gd_fits_kind) :
    Cal P w K mg base 6 "fits_set" ["description", "column", "value"] (spFitsSet) f fd := k.cal (by
  refine k.F.ok sc_fits_set (fun vs H Q E h => ?_) (fun cdv A outer s H vs Q E hr h => ?_)
  · obtain ⟨a, t, c, v, rfl, _⟩ := h; rfl
  · obtain ⟨a, t, c, v, rfl, hD, hco, l40, hc, hv, q⟩ := h
    refine ⟨_, (pss_cons (ps_if (pt_not (pt_val (pe_call c_is_other_column.G (hr.mono (by decide)) (by rfl) c_is_other_column.m c_is_other_column.kp c_is_other_column.b .nil pass0 (pa_cons (pv 0) (pa_cons (pv 1) pa_nil))))) (pss_one (ps_ret pe_bl)) pss_nil)
        (pss_cons (ps_asg (pe_call c_column_called.G (hr.mono (by decide)) (by rfl) c_column_called.m c_column_called.kp c_column_called.b .nil pass0 (pa_cons (pv 0) (pa_cons (pv 1) pa_nil))) (pg_tup (by rfl) (pgs_cons (pg_name (i := 3) sc_fits_set.nd rfl (Or.inl rfl)) (pgs_cons (pg_name (i := 4) sc_fits_set.nd rfl (Or.inl rfl)) (pgs_cons (pg_name (i := 5) sc_fits_set.nd rfl (Or.inl rfl)) pgs_nil)))))
        (pss_one (ps_ret (pe_call c_fits_kind.G (hr.mono (by decide)) (by rfl) c_fits_kind.m c_fits_kind.kp c_fits_kind.b .nil pass0 (pa_cons (pv 2) (pa_cons (pv 4) (pa_cons (pv 5) pa_nil)))))))), ?_⟩
    refine ⟨_, rfl, _, rfl, a, t, c, rfl, hD, l40, hc, fun H1 s1 => ⟨_, rfl, ?_⟩⟩
    cases hs : setC t.cols c with
    | none =>
      refine iteT ?_
      have : setB t.cols c v = false := by unfold setB; rw [hs]
      rw [this] at q
      exact q H1 s1
    | some col =>
      refine iteF ?_
      obtain ⟨rfl, hm⟩ := setC_some hs
      have hin : col ∈ t.cols := List.mem_of_mem_drop hm
      refine ⟨_, rfl, _, rfl, a, t, col.n, rfl, hD.mono s1, l40, List.mem_map.mpr ⟨col, hin, rfl⟩, fun ca c' H2 hc' hca s2 => ?_⟩
      obtain ⟨c2, e1, e2, _, e4⟩ := idx_get (cols := t.cols) (n := col.n) (List.mem_map.mpr ⟨col, hin, rfl⟩)
      rw [hc'] at e1
      cases e1
      have := col_one hco.nd e4 hin e2
      subst this
      refine ⟨ca, _, rfl, SqT.of hca, rfl, _, _, rfl, _, _, rfl, _, _, rfl, rfl, ?_⟩
      refine ⟨_, rfl, _, rfl, _, rfl, v, _, _, rfl, hv.thing, fun H3 s3 => ?_⟩
      have : setB t.cols (.str c'.n) v = fitsK v c'.k c'.b := by unfold setB; rw [hs]
      rw [this] at q
      exact q H3 (s1.trans (s2.trans s3)))
theorem ok_key_of {f : Addr} {fd : FuncData} (k : Kn K mg "key_of" s_key_of ["edit"] f fd) (z : Z mg) :
    Cal P w K mg base 1 "key_of" ["edit"] (spKeyOfE) f fd := k.cal (by
  refine k.F.ok sc_key_of (fun vs H Q E h => ?_) (fun cdv A outer s H vs Q E hr h => ?_)
  · obtain ⟨v, e, rfl, _⟩ := h; rfl
  · obtain ⟨v, e, rfl, he, hf, q⟩ := h
    refine ⟨_, (pss_cons (ps_if (pt_cmpR op_in_seq (pe_ix ix_tup (pv 0) pe_int (fun _ _ => rfl)) (pe_tup (pa_cons pe_str (pa_cons pe_str pa_nil))) (by rfl)) (pss_one (ps_ret (pe_ix ix_tup (pe_ix ix_tup (pv 0) pe_int (fun _ _ => rfl)) pe_int (fun _ _ => rfl)))) pss_nil)
        (pss_one (ps_ret (pe_ix ix_tup (pv 0) pe_int (fun _ _ => rfl))))), ?_⟩
    obtain ⟨a, ys, rfl, h1, hys⟩ := ed_head he
    refine ⟨_, rfl, a, _, _, .str (edA e), rfl, rfl, SqT.of h1, at_ofN (j := 0) rfl rfl, (by show 2 ≤ sizeLine; decide), fun P hP => ⟨P, _, rfl, .inr (SqT.of upd_same), rfl, rfl, _, rfl, ?_⟩⟩
    have s1 := same_new hP (.tup [V.str "insert", V.str "replace"])
    show if inV (.str (edA e)) [.str "insert", .str "replace"] = true then _ else _
    cases e with
    | row b t r =>
      refine ite2 (fun _ => ?_) (fun z => absurd (by cases b <;> simp only [edA] <;> decide +kernel) z)
      obtain ⟨u, us, rfl, k1, h3⟩ := hys.c1
      obtain ⟨p, zs, rfl, h4, h5⟩ := t_at k1
      have := scal_L h5
      subst this
      cases zs with
      | nil => exact absurd rfl hf
      | cons x r =>
        exact ⟨_, rfl, a, _, _, .ref p, rfl, rfl, SqT.of (s1 _ _ h1), at_ofN (j := 2) rfl rfl, p, _, _, x, rfl, rfl, SqT.of (s1 _ _ h4), at_ofN (j := 0) rfl rfl, q _ s1⟩
    | set t k c w =>
      refine ite2 (fun z => absurd z (by simp only [edA]; decide +kernel)) (fun _ => ?_)
      obtain ⟨u, us, rfl, k1, h3⟩ := hys.c1
      rw [k1.s1] at h1
      exact ⟨_, rfl, a, _, _, k, rfl, rfl, SqT.of (s1 _ _ h1), at_ofN (j := 2) rfl rfl, q _ s1⟩
    | del t k =>
      refine ite2 (fun z => absurd z (by simp only [edA]; decide +kernel)) (fun _ => ?_)
      obtain ⟨u, us, rfl, k1, h3⟩ := hys.c1
      rw [k1.s1] at h1
      exact ⟨_, rfl, a, _, _, k, rfl, rfl, SqT.of (s1 _ _ h1), at_ofN (j := 2) rfl rfl, q _ s1⟩)
theorem ok_fits_key {f : Addr} {fd : FuncData} (k : Kn K mg "fits_key" s_fits_key ["description", "key"] f fd) (z : Z mg)
    {g_fits_columns : Addr} {gd_fits_columns : FuncData} (c_fits_columns : Cal P w K mg base 6 "fits_columns" ["row", "columns"] (spFitsCols) g_fits_columns gd_fits_columns) :
    Cal P w K mg base 7 "fits_key" ["description", "key"] (spFitsKey) f fd := k.cal (by
  refine k.F.ok sc_fits_key (fun vs H Q E h => ?_) (fun cdv A outer s H vs Q E hr h => ?_)
  · obtain ⟨a, t, v, rfl, _⟩ := h; rfl
  · obtain ⟨a, t, v, rfl, hD, l40, hv, q⟩ := h
    have hu := hu_of hr
    refine ⟨_, (pss_one (ps_ret (pe_call c_fits_columns.G (hr.mono (by decide)) (by rfl) c_fits_columns.m c_fits_columns.kp c_fits_columns.b .nil pass0 (pa_cons (pe_tup (pa_cons (pv 1) pa_nil)) (pa_cons (pe_slice sl_list (pe_dget hu (pv 0) pe_str (fun _ _ => rfl)) po_none (po_some pe_int)) pa_nil))))), ?_⟩
    refine ⟨_, rfl, (by show 1 ≤ sizeLine; decide), fun R hR => ?_⟩
    have s1 := same_new hR (.tup [v])
    have hR1 : (upd H R (.tup [v])) R = some (.tup [v]) := upd_same
    generalize upd H R (.tup [v]) = H1 at s1 hR1 ⊢
    have D1 := hD.mono s1
    obtain ⟨as, k1, k2⟩ := D1.co
    refine ⟨_, rfl, a.d, _, rfl, D1.gc, _, rfl, a.c, as, rfl, SqL.of k1, fun M hM => ?_⟩
    have s2 := same_new hM (.lst (cutV as none (some 1)))
    have co : ColsAt (upd H1 M (.lst (cutV as none (some 1)))) M (t.cols.take 1) := by
      refine ⟨as.take 1, ?_, ?_⟩
      · rw [upd_same]; exact congrArg (fun z => some (HO.lst z)) (cut_takeE as 1)
      · rw [List.map_take]; exact (k2.mono (KeepT.of s2)).take 1
    exact ⟨R, M, [v], t.cols.take 1, rfl, s2 _ _ hR1, co, (fun w hw => by rw [List.mem_singleton.mp hw]; exact hv), (by show 1 ≤ 100; decide), (by rw [List.length_take]; omega), fun H2 s3 => q H2 (s1.trans (s2.trans s3))⟩)
theorem ok_edit_code {f : Addr} {fd : FuncData} (k : Kn K mg "edit_code" s_edit_code ["schema", "state", "edit"] f fd) (z : Z mg)
    {g_fits_columns : Addr} {gd_fits_columns : FuncData} (c_fits_columns : Cal P w K mg base 6 "fits_columns" ["row", "columns"] (spFitsCols) g_fits_columns gd_fits_columns)
    {g_fits_set : Addr} {gd_fits_set : FuncData} (c_fits_set : Cal P w K mg base 6 "fits_set" ["description", "column", "value"] (spFitsSet) g_fits_set gd_fits_set)
    {g_key_of : Addr} {gd_key_of : FuncData} (c_key_of : Cal P w K mg base 1 "key_of" ["edit"] (spKeyOfE) g_key_of gd_key_of)
    {g_fits_key : Addr} {gd_fits_key : FuncData} (c_fits_key : Cal P w K mg base 7 "fits_key" ["description", "key"] (spFitsKey) g_fits_key gd_fits_key) :
    Cal P w K mg base 8 "edit_code" ["schema", "state", "edit"] (spEdCode) f fd := k.cal (by
  refine k.F.ok sc_edit_code (fun vs H Q E h => ?_) (fun cdv A outer s H vs Q E hr h => ?_)
  · obtain ⟨S, s, T, st, v, e, rfl, _⟩ := h; rfl
  · obtain ⟨S, s, T, st, v, e, rfl, hS, hT, hN, he, ok, q⟩ := h
    have hu := hu_of hr
    refine ⟨_, (pss_cons (ps_asg (pe_slice sl_tupA (pv 2) po_none (po_some pe_int)) (pg_tup (by rfl) (pgs_cons (pg_name (i := 3) sc_edit_code.nd rfl (Or.inl rfl)) (pgs_cons (pg_name (i := 4) sc_edit_code.nd rfl (Or.inl rfl)) pgs_nil))))
        (pss_cons (ps_if (pt_cmp (pc_dnotin hu (pv 4) (pv 0))) (pss_one (ps_ret pe_str)) pss_nil)
        (pss_cons (ps_set (i := 5) sc_edit_code.nd rfl (Or.inl rfl) (pe_dget hu (pv 0) (pv 4) (fun _ _ => rfl)))
        (pss_cut (ps_if (PW.pt (pw_and (pt_cmpR op_in_seq (pv 3) (pe_tup (pa_cons pe_str (pa_cons pe_str pa_nil))) (by rfl)) (pw_and1 (pt_not (pt_val (pe_call c_fits_columns.G (hr.mono (by decide)) (by rfl) c_fits_columns.m c_fits_columns.kp c_fits_columns.b .nil pass0 (pa_cons (pe_ix ix_tup (pv 2) pe_int (fun _ _ => rfl)) (pa_cons (pe_dget hu (pv 5) pe_str (fun _ _ => rfl)) pa_nil)))))))) (pss_one (ps_ret pe_str)) pss_nil)
        (pss_cut (ps_if (PW.pt (pw_and (pt_cmpR op_eq (pv 3) pe_str (nomark _)) (pw_and1 (pt_not (pt_val (pe_call c_fits_set.G (hr.mono (by decide)) (by rfl) c_fits_set.m c_fits_set.kp c_fits_set.b .nil pass0 (pa_cons (pv 5) (pa_cons (pe_ix ix_tup (pv 2) pe_int (fun _ _ => rfl)) (pa_cons (pe_ix ix_tup (pv 2) pe_int (fun _ _ => rfl)) pa_nil))))))))) (pss_one (ps_ret pe_str)) pss_nil)
        (pss_cons (ps_set (i := 6) sc_edit_code.nd rfl (Or.inl rfl) (pe_call c_key_of.G (hr.mono (by decide)) (by rfl) c_key_of.m c_key_of.kp c_key_of.b .nil pass0 (pa_cons (pv 2) pa_nil)))
        (pss_cons (ps_if (pt_not (pt_val (pe_call c_fits_key.G (hr.mono (by decide)) (by rfl) c_fits_key.m c_fits_key.kp c_fits_key.b .nil pass0 (pa_cons (pv 5) (pa_cons (pv 6) pa_nil))))) (pss_one (ps_ret pe_str)) pss_nil)
        (pss_cons (ps_if (pt_cmpR op_eq (pe_cmp (pc_din hu (pv 6) (pe_dget hu (pv 1) (pv 4) (fun _ _ => rfl))) rfl) (pe_cmpR op_eq (pv 3) pe_str (nomark _)) (nomark _)) (pss_one (ps_ret pe_str)) pss_nil)
        (pss_one (ps_ret pe_str)))))))))), ?_⟩
    obtain ⟨a, ys, rfl, h1, hys⟩ := ed_head he
    have ec : cutV (.str (edA e) :: .str (edT e) :: ys) none (some 2) = [.str (edA e), .str (edT e)] := cut_takeE _ 2
    refine ⟨_, rfl, _, rfl, cut_any h1 (fun P H1 hP s1 => ?_)⟩
    rw [ec] at hP
    refine ⟨P, _, rfl, SqT.of hP, rfl, _, _, rfl, _, _, rfl, rfl, ?_⟩
    have hS1 := hS.mono s1
    have hT1 := hT.mono s1
    have he1 := he.mono (KeepT.of s1)
    have h11 := s1 _ _ h1
    refine ⟨_, rfl, _, rfl, S, _, rfl, hS1.in', _, rfl, ?_⟩
    rw [sch_some]
    rcases tab_cases hS.nm (edT e) with ⟨h2, h3⟩ | ⟨p, hp, hpn, h3⟩
    · rw [decide_eq_false h2]
      refine iteT ?_
      have : edC (tbs s) (stM st) e = "table" := by unfold edC; rw [h3]
      rw [this] at q
      exact q H1 s1
    have hin : edT e ∈ schN s := List.mem_map.mpr ⟨p, hp, hpn⟩
    rw [decide_eq_true hin]
    refine iteF ?_
    have D := hS1.ds p hp
    have tv := hS.ok p hp
    have l40 : p.2.cols.length ≤ 40 := by have := tv.l8; omega
    have gS : DGet H1 S (.str (edT e)) (some (.ref p.1.d)) := by rw [← hpn]; exact sch_getK hS1.sk hS1.nm hp
    refine ⟨_, rfl, _, rfl, S, _, rfl, gS, ?_⟩
    have ecd : edC (tbs s) (stM st) e = (if rowBad p.2.cols e = true then ("row" : Str) else if keyB p.2.cols (edK e) = false then ("key" : Str) else if hasK (rwsOf (stM st) (edT e)) (keyOf (edK e)) = isIns e then ("key" : Str) else ("" : Str)) := by unfold edC; rw [h3]
    rw [ecd] at q
    have bad : ∀ H2, Same H H2 → rowBad p.2.cols e = true → Q (.str "row") H2 := fun H2 s2 hb => by rw [if_pos hb] at q; exact q H2 s2
    refine ⟨fun σ H' => σ = [some (.ref S), some (.ref T), some (.ref a), some (.str (edA e)), some (.str (edT e)), some (.ref p.1.d), none] ∧ Same H1 H' ∧ ∀ b t r, e = .row b t r → rowB p.2.cols r = true, ?_, ?_⟩
    · refine ⟨_, rfl, (by show 2 ≤ sizeLine; decide), fun M hM => ⟨M, _, rfl, .inr (SqT.of upd_same), rfl, rfl, _, rfl, ?_⟩⟩
      have s2 := same_new hM (.tup [V.str "insert", V.str "replace"])
      show if inV (.str (edA e)) [.str "insert", .str "replace"] = true then _ else _
      cases e with
      | row b t r =>
        refine ite2 (fun _ => ?_) (fun z => absurd (by cases b <;> simp only [edA] <;> decide +kernel) z)
        obtain ⟨u, us, rfl, k1, h4⟩ := hys.c1
        obtain ⟨pr, zs, rfl, h5, h6⟩ := t_at k1
        have := scal_L h6
        subst this
        refine ⟨_, rfl, a, _, _, .ref pr, rfl, rfl, SqT.of (s2 _ _ h11), at_ofN (j := 2) rfl rfl, _, rfl, p.1.d, _, rfl, (D.mono s2).gc, pr, p.1.c, zs, p.2.cols, rfl, s2 _ _ (s1 _ _ h5), (D.mono s2).co, ok.2.2, (by have := ok.2.1; omega), (by omega), fun H2 s3 => ⟨_, rfl, ?_⟩⟩
        cases hb : rowB p.2.cols zs with
        | false => exact iteT (bad H2 (s1.trans (s2.trans s3)) (by simp only [rowBad, hb]; rfl))
        | true => exact iteF ⟨rfl, s2.trans s3, fun b' t' r' e' => by cases e'; exact hb⟩
      | set t k c w => exact ite2 (fun z => absurd z (by simp only [edA]; decide +kernel)) (fun _ => iteF ⟨rfl, s2, fun _ _ _ e' => by cases e'⟩)
      | del t k => exact ite2 (fun z => absurd z (by simp only [edA]; decide +kernel)) (fun _ => iteF ⟨rfl, s2, fun _ _ _ e' => by cases e'⟩)
    rintro σ H2 ⟨rfl, s2, hrow⟩
    refine ⟨fun σ H' => σ = [some (.ref S), some (.ref T), some (.ref a), some (.str (edA e)), some (.str (edT e)), some (.ref p.1.d), none] ∧ Same H1 H' ∧ rowBad p.2.cols e = false, ?_, ?_⟩
    · refine ⟨_, rfl, rfl, _, rfl, ?_⟩
      cases e with
      | row b t r => exact ifD (fun z => absurd z (by cases b <;> simp only [edA] <;> decide +kernel)) (fun _ => iteF ⟨rfl, s2, by simp only [rowBad, hrow b t r rfl]; rfl⟩)
      | del t k => exact ifD (fun z => absurd z (by simp only [edA]; decide +kernel)) (fun _ => iteF ⟨rfl, s2, rfl⟩)
      | set t k c w =>
        refine ifD (fun _ => ?_) (fun z => absurd rfl z)
        obtain ⟨a', rfl', h5⟩ := set_at he
        cases rfl'
        have h6 := s2 _ _ (s1 _ _ h5)
        refine ⟨_, rfl, _, rfl, a, _, _, c, rfl, rfl, SqT.of h6, at_ofN (j := 3) rfl rfl, _, rfl, a, _, _, w, rfl, rfl, SqT.of h6, at_ofN (j := 4) rfl rfl, p.1, p.2, c, w, rfl, D.mono s2, tv.co, l40, ok.2.2.1, ok.2.2.2, fun H3 s3 => ⟨_, rfl, ?_⟩⟩
        cases hb : setB p.2.cols c w with
        | false => exact iteT (bad H3 (s1.trans (s2.trans s3)) (by simp only [rowBad, hb]; rfl))
        | true => exact iteF ⟨rfl, s2.trans s3, by simp only [rowBad, hb]; rfl⟩
    rintro σ H3 ⟨rfl, s3, hgood⟩
    have s03 := s1.trans s3
    rw [if_neg (by rw [hgood]; exact fun z => nomatch z)] at q
    have full : edFull e := by
      cases e with
      | row b t r =>
        intro z
        subst z
        have h4 := hrow b t [] rfl
        have h5 : decide ((0 : Nat) = p.2.cols.length) = true := (Bool.and_eq_true_iff.mp h4).1
        have := of_decide_eq_true h5
        have := tv.l0
        omega
      | set t k c w => exact True.intro
      | del t k => exact True.intro
    refine ⟨_, rfl, _, e, rfl, he.mono (KeepT.of s03), full, fun H4 s4 => ?_⟩
    have kOk : valE (edK e) := by
      cases e with
      | row b t r =>
        cases r with
        | nil => exact absurd rfl full
        | cons x r => exact ok.2.2 x (List.mem_cons_self ..)
      | set t k c w => exact ok.2.1
      | del t k => exact ok.2
    refine ⟨_, rfl, _, rfl, p.1, p.2, edK e, rfl, D.mono (s3.trans s4), l40, kOk, fun H5 s5 => ⟨_, rfl, ?_⟩⟩
    have s05 := s03.trans (s4.trans s5)
    cases hk : keyB p.2.cols (edK e) with
    | false =>
      rw [if_pos hk] at q
      exact iteT (q H5 s05)
    | true =>
    refine iteF ?_
    rw [if_neg (by rw [hk]; exact fun z => nomatch z)] at q
    obtain ⟨pt, hpt, ept⟩ := st_in (st := st) (hN _ hin)
    have hT5 := hT.mono s05
    have gT : DGet H5 T (.str (edT e)) (some (.ref pt.d)) := by rw [← ept]; exact hT5.get hpt
    have gK : DGet H5 pt.d (edK e) (valV (roK pt.rs) (keyOf (edK e))) := by
      have g := DGet.k (k := keyOf (edK e)) (hT5.ds pt hpt).dk
      rw [← keyB_key tv.co hk] at g
      exact g
    have er : rwsOf (stM st) (edT e) = rM pt.rs := by rw [← ept]; exact rwsOf_in hT.nm hpt
    rw [er] at q
    refine ⟨_, rfl, _, rfl, _, rfl, T, _, rfl, gT, pt.d, _, rfl, gK, _, rfl, rfl, rfl, _, rfl, ?_⟩
    rw [hasK_ro]
    rw [isIns_eq]
    refine ifD (fun z => ?_) (fun z => ?_)
    · rw [if_pos (V.bl.inj z)] at q
      exact q H5 s05
    · rw [if_neg (fun y => z (by rw [y]))] at q
      exact q H5 s05)
theorem ok_with_value {f : Addr} {fd : FuncData} (k : Kn K mg "with_value" s_with_value ["description", "rest", "column", "value"] f fd) (z : Z mg)
    {g_column_names : Addr} {gd_column_names : FuncData} (c_column_names : Cal P w K mg base 1 "column_names" ["description"] (spColumnNames) g_column_names gd_column_names) :
    Cal P w K mg base 2 "with_value" ["description", "rest", "column", "value"] (spWithValue) f fd := k.cal (by
  refine k.F.ok sc_with_value (fun vs H Q E h => ?_) (fun cdv A outer s H vs Q E hr h => ?_)
  · obtain ⟨a, t, r, xs, c, v, rfl, _⟩ := h; rfl
  · obtain ⟨a, t, r, xs, c, v, rfl, hD, hco, l40, hc, hr0, hl, q⟩ := h
    refine ⟨_, (pss_cons (ps_set (i := 4) sc_with_value.nd rfl (Or.inl rfl) (pe_op op_sub (pe_bm PySem.F.plainAttrs_list PySem.F.slot_list_index PySem.F.type_list_index mt_index (pe_call c_column_names.G (hr.mono (by decide)) (by rfl) c_column_names.m c_column_names.kp c_column_names.b .nil pass0 (pa_cons (pv 0) pa_nil)) (pa_cons (pv 2) pa_nil)) pe_int))
        (pss_one (ps_ret (pe_op op_catA (pe_op op_catA (pe_slice sl_tupA (pv 1) po_none (po_some (pv 4))) (pe_tup (pa_cons (pv 3) pa_nil))) (pe_slice sl_tupA (pv 1) (po_some (pe_op op_add (pv 4) pe_int)) po_none))))), ?_⟩
    obtain ⟨col, hcol⟩ := Option.isSome_iff_exists.mp hc
    obtain ⟨rfl, hm⟩ := setC_some hcol
    have hin : col.n ∈ colNs t.cols := List.mem_map.mpr ⟨col, List.mem_of_mem_drop hm, rfl⟩
    obtain ⟨p1, p2⟩ := idx_pos hco.nd (List.mem_map.mpr ⟨col, hm, rfl⟩ : col.n ∈ colNs (t.cols.drop 1))
    obtain ⟨z, i1, i2, i3, i4⟩ := ix_names hin
    obtain ⟨k, ek⟩ : ∃ k, (colNs t.cols).idxOf col.n = k + 1 := ⟨(colNs t.cols).idxOf col.n - 1, by omega⟩
    have q' : ∀ r' H', H' r' = some (.tup (xs.set k v)) → Same H H' → Q (.ref r') H' := fun r' H' h s => q r' H' (by show H' r' = some (.tup (xs.set ((colNs t.cols).idxOf col.n - 1) v)); rw [ek]; exact h) s
    refine ⟨_, rfl, a.d, a.c, t.cols, rfl, hD.gc, hD.co, by omega, fun N H1 hN s1 hN1 => ?_⟩
    refine ⟨.inl ⟨rfl, _, SqL.of hN1⟩, _, rfl, N, _, _, (colNs t.cols).idxOf col.n, z, rfl, rfl, SqL.of hN1, rfl, i1, i2, i3, i4, _, _, rfl, rfl, ?_⟩
    have e1 : (((colNs t.cols).idxOf col.n : Nat) : Int) - 1 = (k : Nat) := by omega
    refine ⟨_, rfl, _, rfl, _, rfl, cut_any (s1 _ _ hr0) (fun x1 H2 h2' s2 => ?_)⟩
    have ec1 : cutV xs none (some ((((colNs t.cols).idxOf col.n : Nat) : Int) - 1)) = xs.take k := by rw [e1]; exact cut_takeE xs k
    have h2 : H2 x1 = some (.tup (xs.take k)) := by rw [h2']; exact congrArg (fun z => some (HO.tup z)) ec1
    refine ⟨_, rfl, (by show 1 ≤ sizeLine; decide), fun x2 hx2 => ?_⟩
    have s3 := same_new hx2 (.tup [v])
    refine cat_any (s3 _ _ h2) upd_same (by rw [List.length_take, List.length_cons, List.length_nil]; omega) (fun x3 H4 h4 s4 => ?_)
    have s14 := s1.trans (s2.trans (s3.trans s4))
    refine ⟨_, rfl, _, rfl, _, _, rfl, rfl, _, rfl, ?_⟩
    dsimp only [tNoPart]
    refine cut_any (s14 _ _ hr0) (fun x5 H5 h5 s5 => ?_)
    have e2 : cutV xs (some ((((colNs t.cols).idxOf col.n : Nat) : Int) - 1 + 1)) none = xs.drop (k + 1) := by rw [e1]; exact cut_back xs (k + 1) (by omega)
    have h5' : H5 x5 = some (.tup (xs.drop (k + 1))) := by rw [h5]; exact congrArg (fun z => some (HO.tup z)) e2
    refine cat_any (s5 _ _ h4) h5' (by rw [List.length_append, List.length_take, List.length_drop, List.length_cons, List.length_nil]; omega) (fun x6 H6 h6 s6 => ?_)
    rw [set_cut _ _ _ (by omega)] at h6
    exact q' x6 H6 h6 (s14.trans (s5.trans s6)))
theorem ok_table_after {f : Addr} {fd : FuncData} (k : Kn K mg "table_after" s_table_after ["description", "table_rows", "edit"] f fd) (z : Z mg)
    {g_key_of : Addr} {gd_key_of : FuncData} (c_key_of : Cal P w K mg base 1 "key_of" ["edit"] (spKeyOfE) g_key_of gd_key_of)
    {g_with_value : Addr} {gd_with_value : FuncData} (c_with_value : Cal P w K mg base 2 "with_value" ["description", "rest", "column", "value"] (spWithValue) g_with_value gd_with_value) :
    Cal P w K mg base 3 "table_after" ["description", "table_rows", "edit"] (spTableAfter) f fd := k.cal (by
  refine k.F.ok sc_table_after (fun vs H Q E h => ?_) (fun cdv A outer s H vs Q E hr h => ?_)
  · obtain ⟨a, t, d, rs, v, e, rfl, _⟩ := h; rfl
  · obtain ⟨a, t, d, rs, v, e, rfl, hD, hco, l40, hT, l200, hw, he, ok, good, q⟩ := h
    have hu := hu_of hr
    refine ⟨_, (pss_cons (ps_set (i := 3) sc_table_after.nd rfl (Or.inl rfl) (pe_ix ix_tup (pv 2) pe_int (fun _ _ => rfl)))
        (pss_cons (ps_set (i := 4) sc_table_after.nd rfl (Or.inl rfl) (pe_call c_key_of.G (hr.mono (by decide)) (by rfl) c_key_of.m c_key_of.kp c_key_of.b .nil pass0 (pa_cons (pv 2) pa_nil)))
        (pss_cons (ps_set (i := 5) sc_table_after.nd rfl (Or.inl rfl) (pe_callTy call_dictD (by rfl) z.dict (by decide +kernel) (pa_cons (pv 1) pa_nil)))
        (pss_cut (ps_if (pt_cmpR op_eq (pv 3) pe_str (nomark _)) (pss_one (ps_ddel (pv 5) (pv 4))) (pss_one (ps_if (pt_cmpR op_eq (pv 3) pe_str (nomark _)) (pss_one (ps_dput hu (pv 5) (pv 4) (pe_call c_with_value.G (hr.mono (by decide)) (by rfl) c_with_value.m c_with_value.kp c_with_value.b .nil pass0 (pa_cons (pv 0) (pa_cons (pe_dget hu (pv 5) (pv 4) (fun _ _ => rfl)) (pa_cons (pe_ix ix_tup (pv 2) pe_int (fun _ _ => rfl)) (pa_cons (pe_ix ix_tup (pv 2) pe_int (fun _ _ => rfl)) pa_nil))))) rfl)) (pss_one (ps_dput hu (pv 5) (pv 4) (pe_slice sl_tupA (pe_ix ix_tup (pv 2) pe_int (fun _ _ => rfl)) (po_some pe_int) po_none) rfl)))))
        (pss_one (ps_ret (pv 5))))))), ?_⟩
    obtain ⟨b, ys, rfl, h1, hys⟩ := ed_head he
    have full : edFull e := EdGood.full good
    have ekey := keyB_key hco good.kb
    refine ⟨_, rfl, b, _, _, .str (edA e), rfl, rfl, SqT.of h1, at_ofN (j := 0) rfl rfl, ?_⟩
    refine ⟨_, rfl, _, e, rfl, he, full, fun H1 s1 => ?_⟩
    refine ⟨_, rfl, d, roK rs, rfl, .inl (s1 _ _ hT.dk), fun R hR => ?_⟩
    have R0 : H R = none := s1.free hR
    have s2 := s1.trans (same_new hR (.dK (roK rs)))
    have hR2 : (upd H1 R (.dK (roK rs))) R = some (.dK (roK rs)) := upd_same
    generalize upd H1 R (.dK (roK rs)) = H2 at s2 hR2 ⊢
    have T2 : TAt H2 R rs := ⟨hR2, fun r hr => s2 _ _ (hT.rt r hr), hT.nd⟩
    refine ⟨fun σ H' => σ = [some (.ref a.d), some (.ref d), some (.ref b), some (.str (edA e)), some (edK e), some (.ref R)] ∧ ∃ rs', TAt H' R rs' ∧ rM rs' = rowsAfter t.cols (rM rs) e ∧ Same H H', ?_, ?_⟩
    rotate_left
    · rintro σ H3 ⟨rfl, rs', T3, em, s3⟩
      exact ⟨_, rfl, q R rs' H3 T3 em s3 R0⟩
    refine ⟨_, rfl, rfl, _, rfl, ?_⟩
    cases e with
    | del tn k =>
      refine ifD (fun _ => ?_) (fun z => absurd rfl z)
      have hk : hasK (rM rs) (keyOf k) = true := by
        have := good.kk
        simp only [edK, isIns] at this
        cases h : hasK (rM rs) (keyOf k) with
        | true => rfl
        | false => exact absurd h this
      refine ⟨_, rfl, _, rfl, R, roK rs, keyOf k, rfl, hR2, ekey, by rw [hasK_ro]; exact hk, rfl, dropRo rs (keyOf k), ⟨by rw [upd_same, roK_drop], fun r hr => ?_, dropRo_nd hT.nd _⟩, rM_drop rs _, same_upd R0 _ s2⟩
      have hr' : r ∈ rs := (List.mem_filter.mp hr).1
      rw [upd_ne (fun z => by have := T2.rt r hr'; rw [z, hR2] at this; cases this)]
      exact T2.rt r hr'
    | set tn k c w =>
      refine ifD (fun z => absurd z (by show ¬ V.str "set" = V.str "delete"; decide +kernel)) (fun _ => ?_)
      refine ⟨_, rfl, rfl, _, rfl, ifD (fun _ => ?_) (fun z => absurd rfl z)⟩
      obtain ⟨b', e', h5⟩ := set_at he
      cases e'
      have hk : hasK (rM rs) (keyOf k) = true := by
        have := good.kk
        simp only [edK, isIns] at this
        cases h : hasK (rM rs) (keyOf k) with
        | true => rfl
        | false => exact absurd h this
      obtain ⟨r, hr, ekr⟩ := ro_mem (rs := rs) (k := keyOf k) (by
        rw [← hasK_ro, valV_isSome, roK_keys] at hk; exact hk)
      have ek' : k = kV (keyOf k) := ekey
      have gR : DGet H2 R k (some (.ref r.a)) := by
        have g := T2.get hr
        rw [ekr, ← ek'] at g
        exact g
      have hset : (setC t.cols c).isSome = true := by
        have h6 : (!setB t.cols c w) = false := good.rb
        unfold setB at h6
        cases h7 : setC t.cols c with
        | none => rw [h7] at h6; cases h6
        | some col => rfl
      refine ⟨_, rfl, _, rfl, _, rfl, R, _, rfl, gR, _, rfl, b, _, _, c, rfl, rfl, SqT.of (s2 _ _ h5), at_ofN (j := 3) rfl rfl, _, rfl, b, _, _, w, rfl, rfl, SqT.of (s2 _ _ h5), at_ofN (j := 4) rfl rfl, a, t, r.a, r.vs, c, w, rfl, hD.mono s2, hco, l40, hset, T2.rt r hr, hw r hr, fun r' H3 h3 s3 => ?_⟩
      have T3 := T2.mono (KeepT.of s3) (fun o => s3 _ _)
      refine ⟨_, rfl, _, rfl, R, _, rfl, (by show DPut H3 R k _ _; rw [ek']; exact DPut.k (k := keyOf k) T3.dk (by unfold roK; rw [List.length_map]; exact small1000 (by omega))), rfl, putRo rs ⟨keyOf k, r', setAt t.cols r.vs c w⟩, ⟨?_, ?_, putRo_nd hT.nd _⟩, ?_, same_upd R0 _ (s2.trans s3)⟩
      · rw [upd_same, ← putRo_K]
      · intro x hx
        have hxR : ∀ y ys, H3 y = some (.tup ys) → (upd H3 R (.dK (putK (roK rs) (keyOf k) (.ref r')))) y = some (.tup ys) := fun y ys hy => by
          rw [upd_ne (fun z => by rw [z, T3.dk] at hy; cases hy)]; exact hy
        rcases putRo_mem hx with ⟨_, e2, e3⟩ | hx
        · rw [e2, e3]; exact hxR _ _ h3
        · exact hxR _ _ (T3.rt x hx)
      · show _ = putRw (rM rs) (keyOf k) (setAt t.cols (restOf (rM rs) (keyOf k)) c w)
        rw [rM_put, ← ekr, restOf_rM hT.nd hr]
    | row ins tn r =>
      refine ifD (fun z => absurd z (by cases ins <;> simp only [edA] <;> decide +kernel)) (fun _ => ?_)
      refine ⟨_, rfl, rfl, _, rfl, ifD (fun z => absurd z (by cases ins <;> simp only [edA] <;> decide +kernel)) (fun _ => ?_)⟩
      obtain ⟨b', pr, e', h5, h6⟩ := row_at he
      cases e'
      refine ⟨_, rfl, b, _, _, .ref pr, rfl, rfl, SqT.of (s2 _ _ h5), at_ofN (j := 2) rfl rfl, _, rfl, ?_⟩
      dsimp only [tNoPart]
      refine cut_any (s2 _ _ h6) (fun r' H3 h3 s3 => ?_)
      rw [cut_tail] at h3
      have T3 := T2.mono (KeepT.of s3) (fun o => s3 _ _)
      have ek' : r.headD .non = kV (keyOf (r.headD .non)) := ekey
      refine ⟨_, rfl, _, rfl, R, _, rfl, (by show DPut H3 R (r.headD .non) _ _; rw [ek']; exact DPut.k (k := keyOf (r.headD .non)) T3.dk (by unfold roK; rw [List.length_map]; exact small1000 (by omega))), rfl, putRo rs ⟨keyOf (r.headD .non), r', r.drop 1⟩, ⟨?_, ?_, putRo_nd hT.nd _⟩, rM_put _ _ _ _, same_upd R0 _ (s2.trans s3)⟩
      · rw [upd_same, ← putRo_K]
      · intro x hx
        have hxR : ∀ y ys, H3 y = some (.tup ys) → (upd H3 R (.dK (putK (roK rs) (keyOf (r.headD .non)) (.ref r')))) y = some (.tup ys) := fun y ys hy => by
          rw [upd_ne (fun z => by rw [z, T3.dk] at hy; cases hy)]; exact hy
        rcases putRo_mem hx with ⟨_, e2, e3⟩ | hx
        · rw [e2, e3]; exact hxR _ _ h3
        · exact hxR _ _ (T3.rt x hx))
theorem ok_apply_write {f : Addr} {fd : FuncData} (k : Kn K mg "apply_write" s_apply_write ["schema", "state", "edits"] f fd) (z : Z mg)
    {C_EditError fI_EditError : Addr} {fdI_EditError : FuncData} (e_EditError : ErrK P w K mg base "EditError" "code" "index" C_EditError fI_EditError fdI_EditError)
    {g_copy_state : Addr} {gd_copy_state : FuncData} (c_copy_state : Cal P w K mg base 1 "copy_state" ["state"] (spCopyState) g_copy_state gd_copy_state)
    {g_edit_code : Addr} {gd_edit_code : FuncData} (c_edit_code : Cal P w K mg base 8 "edit_code" ["schema", "state", "edit"] (spEdCode) g_edit_code gd_edit_code)
    {g_table_after : Addr} {gd_table_after : FuncData} (c_table_after : Cal P w K mg base 3 "table_after" ["description", "table_rows", "edit"] (spTableAfter) g_table_after gd_table_after) :
    CalX P w K mg base 9 "apply_write" ["schema", "state", "edits"] (spApply C_EditError) f fd := k.calX (by
  obtain ⟨t_MOST_EDITS, k_MOST_EDITS⟩ := z.c_MOST_EDITS
  refine okN k.F sc_apply_write (fun vs H Q E h => ?_) (fun cdv A outer s H vs Q E hr h => ?_)
  · obtain ⟨S, s, T, st, L, es, xs, b, rfl, _⟩ := h; rfl
  · obtain ⟨S, s, T, st, L, es, xs, b, rfl, hS, hT, hW, hb, l100, hL, hes, oks, h1, h2⟩ := h
    have hu := hu_of hr
    refine ⟨_, (pss_cons (ps_if (pt_cmpR op_gt (pe_callB call_len_seq (by rfl) z.len (by decide +kernel) (pa_cons (pv 2) pa_nil)) (pe_glob (v := .int (24)) rfl k_MOST_EDITS ⟨_, rfl⟩) (nomark _)) (pss_one (L2N.ps_raise rfl (L2N.takes_of rfl rfl rfl rfl) (pmk_ownN e_EditError.c.T e_EditError.c.iC e_EditError.c.tI e_EditError.G (hr.mono (by decide)) e_EditError.b pass0 rfl e_EditError.c.gC (by exact (pa_cons pe_str (pa_cons (pe_glob (v := .int (24)) rfl k_MOST_EDITS ⟨_, rfl⟩) pa_nil)))))) pss_nil)
        (pss_cons (ps_set (i := 3) sc_apply_write.nd rfl (Or.inl rfl) (pe_call c_copy_state.G (hr.mono (by decide)) (by rfl) c_copy_state.m c_copy_state.kp c_copy_state.b .nil pass0 (pa_cons (pv 1) pa_nil)))
        (pss_cons (ps_for (passes_of rfl) rfl (pi_enum (by rfl) z.enumerate (pa_cons (pv 2) pa_nil)) (pg_tup (by rfl) (pgs_cons (pg_name (i := 4) sc_apply_write.nd rfl (Or.inl rfl)) (pgs_cons (pg_name (i := 5) sc_apply_write.nd rfl (Or.inl rfl)) pgs_nil)))
        (pss_cons (ps_set (i := 6) sc_apply_write.nd rfl (Or.inl rfl) (pe_call c_edit_code.G (hr.mono (by decide)) (by rfl) c_edit_code.m c_edit_code.kp c_edit_code.b .nil pass0 (pa_cons (pv 0) (pa_cons (pv 3) (pa_cons (pv 5) pa_nil)))))
        (pss_cons (ps_if (pt_cmpR op_ne (pv 6) pe_str (nomark _)) (pss_one (L2N.ps_raise rfl (L2N.takes_of rfl rfl rfl rfl) (pmk_ownN e_EditError.c.T e_EditError.c.iC e_EditError.c.tI e_EditError.G (hr.mono (by decide)) e_EditError.b pass0 rfl e_EditError.c.gC (by exact (pa_cons (pv 6) (pa_cons (pv 4) pa_nil)))))) pss_nil)
        (pss_cons (ps_set (i := 7) sc_apply_write.nd rfl (Or.inl rfl) (pe_ix ix_tup (pv 5) pe_int (fun _ _ => rfl)))
        (pss_one (ps_dput hu (pv 3) (pv 7) (pe_call c_table_after.G (hr.mono (by decide)) (by rfl) c_table_after.m c_table_after.kp c_table_after.b .nil pass0 (pa_cons (pe_dget hu (pv 0) (pv 7) (fun _ _ => rfl)) (pa_cons (pe_dget hu (pv 3) (pv 7) (fun _ _ => rfl)) (pa_cons (pv 5) pa_nil)))) rfl))))))
        (pss_one (ps_ret (pv 3)))))), ?_⟩
    have lx : xs.length = es.length := by rw [hes.length, List.length_map]
    refine ⟨_, rfl, L, _, rfl, .inl (SqL.of hL), _, _, rfl, rfl, _, rfl, ?_⟩
    refine ifD (fun hlong => ?_) (fun hshort => ?_)
    · refine ⟨(by show 2 ≤ 1000; decide), ?_⟩
      exact raise2 e_EditError.c fun d hd => h2 "long" 24 (by unfold applyM; rw [if_pos (by omega)]) H d (Same.refl _) hd
    have ea : applyM (tbs s) (stM st) es = runE (tbs s) (stM st) es 0 := by unfold applyM; rw [if_neg (by omega)]
    have tnd : ((tbs s).map (·.n)).Nodup := by
      have := hS.nm
      unfold tbs
      rw [List.map_map]
      exact this
    refine ⟨_, rfl, T, st, rfl, hT, l100, fun R st0 H1 N0 => ?_⟩
    refine ⟨_, rfl, L, _, rfl, SqL.of (N0.se _ _ hL), for_it walk_enum (fun i σ H' => (∃ v4 v5 v6 v7, σ = [some (.ref S), some (.ref T), some (.ref L), some (.ref R), v4, v5, v6, v7]) ∧ ∃ st' m, NewSt H H' R st' m ∧ MW (tbs s) m (b + i) ∧ m.length = st.length ∧ runE (tbs s) (stM st) es 0 = runE (tbs s) m (es.drop i) i) ⟨⟨none, none, none, none, rfl⟩, st0, stM st, N0, hW, stM_len st, by rw [List.drop_zero]⟩ (fun i σ H' _ ⟨_, _, _, N, _⟩ => SqL.of (N.se _ _ hL)) ?_ ?_⟩
    rotate_left
    · rintro σ H2 ⟨⟨v4, v5, v6, v7, rfl⟩, st', m, N, W, lm, er⟩
      rw [List.drop_eq_nil_of_le (by omega)] at er
      exact ⟨_, rfl, h1 m (by rw [ea, er]; rfl) R st' H2 N⟩
    rintro i x σ H2 H2' hi ⟨⟨v4, v5, v6, v7, rfl⟩, st', m, N, W, lm, er⟩ ⟨TT, p, qv, rfl, hTT, rfl, e5, e6⟩
    cases e5
    have e6' : xs[i]? = some qv := e6
    obtain ⟨d0, ed0, ht⟩ := hes.get e6'
    obtain ⟨e, ee, rfl⟩ : ∃ e, es[i]? = some e ∧ edD e = d0 := by
      rw [List.getElem?_map] at ed0
      cases h : es[i]? with
      | none => rw [h] at ed0; cases ed0
      | some e => rw [h] at ed0; cases ed0; exact ⟨e, rfl, rfl⟩
    have oke := oks e (List.mem_of_getElem? ee)
    have sT := same_new hTT (.tup [V.int (i : Nat), qv])
    have NT := N.mono sT
    have hTT1 : (upd H2 TT (.tup [V.int (i : Nat), qv])) TT = some (.tup [V.int (i : Nat), qv]) := upd_same
    generalize upd H2 TT (.tup [V.int (i : Nat), qv]) = H3 at sT NT hTT1 ⊢
    have hS3 := hS.mono NT.se
    have ht3 := ht.mono (KeepT.of NT.se)
    have ed : es.drop i = e :: es.drop (i + 1) := by
      obtain ⟨h3, h4⟩ := List.getElem?_eq_some_iff.mp ee
      rw [← h4, List.getElem_cons_drop]
    rw [ed] at er
    refine ⟨TT, _, rfl, SqT.of hTT1, rfl, _, _, rfl, _, _, rfl, rfl, ?_⟩
    refine ⟨_, rfl, _, rfl, _, rfl, S, s, R, st', qv, e, rfl, hS3, NT.at', (fun n hn => by
      obtain ⟨p, h3, h4⟩ := List.mem_map.mp hn
      rw [← h4]
      exact W.names NT.md (t := p.2) (List.mem_map.mpr ⟨p, h3, rfl⟩)), ht3, oke, fun H4 s4 => ?_⟩
    rw [NT.md]
    have N4 := NT.mono s4
    refine ⟨_, rfl, rfl, _, rfl, ?_⟩
    by_cases hc : edC (tbs s) m e = ""
    rotate_left
    · refine iteNF (fun z => hc (V.str.inj z)) ?_
      refine ⟨_, rfl, _, rfl, (by show 2 ≤ 1000; decide), ?_⟩
      exact raise2 e_EditError.c fun d hd => h2 (edC (tbs s) m e) i (by rw [ea, er, runE, if_neg hc]) H4 d N4.se hd
    rw [runE, if_pos hc] at er
    have W2 := W.step tnd hc
    refine iteNS (by rw [hc]) ?_
    obtain ⟨a, ys, rfl, h5, _⟩ := ed_head (ht.mono (KeepT.of N4.se))
    refine ⟨_, rfl, a, _, _, .str (edT e), rfl, rfl, SqT.of h5, at_ofN (j := 1) rfl rfl, ?_⟩
    obtain ⟨t, g1, g2, g3, g4⟩ := edC_good hc
    obtain ⟨ht1, htn⟩ := tabOf_mem g1
    obtain ⟨p, hp, hpt⟩ := List.mem_map.mp ht1
    subst hpt
    have hS4 := hS.mono N4.se
    have gS : DGet H4 S (.str (edT e)) (some (.ref p.1.d)) := by rw [← htn]; exact sch_getK hS4.sk hS4.nm hp
    obtain ⟨pt, hpt, ept⟩ := st_in (st := st') (n := edT e) (by rw [← htn]; exact W.names N4.md ht1)
    have gR : DGet H4 R (.str (edT e)) (some (.ref pt.d)) := by rw [← ept]; exact N4.at'.get hpt
    have tv := hS.ok p hp
    have er1 : rwsOf m (edT e) = rM pt.rs := by rw [← N4.md, ← ept]; exact rwsOf_in N4.at'.nm hpt
    have pm : (pt.n, rM pt.rs) ∈ m := by rw [← N4.md]; exact List.mem_map.mpr ⟨pt, hpt, rfl⟩
    have lr : pt.rs.length ≤ b + i := by have := W.ln _ pm; unfold rM at this; rw [List.length_map] at this; exact this
    refine ⟨_, rfl, _, rfl, S, _, rfl, gS, _, rfl, _, rfl, R, _, rfl, gR, _, rfl, p.1, p.2, pt.d, pt.rs, .ref a, e, rfl, hS4.ds p hp, tv.co, (by have := tv.l8; omega), N4.at'.ds pt hpt, (by omega), (fun r hr => ?_), ht.mono (KeepT.of N4.se), oke, ⟨g2, g3, by rw [← er1]; exact g4⟩, fun d' rs' H5 t5 em5 s5 f5 => ?_⟩
    · have := W.wd _ pm p.2 ht1 (by show p.2.n = pt.n; rw [htn, ept]) (r.k, r.vs) (List.mem_map.mpr ⟨r, hr, rfl⟩)
      exact this
    refine ⟨_, rfl, _, rfl, R, _, rfl, DPut.k (k := (Sum.inr (edT e) : Key)) (s5 _ _ N4.at'.sk) (by unfold stK; rw [List.length_map]; have h7 := congrArg List.length N4.md; rw [stM_len] at h7; exact small1000 (by omega)), ?_⟩
    refine ⟨⟨_, _, _, _, rfl⟩, replT st' (edT e) d' rs', edM (tbs s) m e, ?_, by rw [← Nat.add_assoc]; exact W2, by rw [edM_len]; exact lm, er⟩
    have := N4.repl (n := edT e) (by rw [← htn]; exact W.names N4.md ht1) s5 t5 f5
    rw [edM_eq N4.at'.nm N4.md hpt ept g1 em5] at this
    exact this)
theorem ok_law_is_integer {f : Addr} {fd : FuncData} (k : Kn K mg "_law_is_integer" s_law_is_integer ["actual"] f fd) (z : Z mg) :
    Cal P w K mg base 1 "_law_is_integer" ["actual"] (spIsInt) f fd := k.cal (by
  refine k.F.ok sc_law_is_integer (fun vs H Q E h => ?_) (fun cdv A outer s H vs Q E hr h => ?_)
  · obtain ⟨x, rfl, _⟩ := h; rfl
  · obtain ⟨x, rfl, hx, q⟩ := h
    refine ⟨_, (pss_one (ps_ret (pe_and (pe_callB call_isi (by rfl) z.isinstance (by decide +kernel) (pa_cons (pv 0) (pa_cons (pe_bltn (v := .ty "int") (u := .type "int") (by rfl) z.int (by decide +kernel) rfl) pa_nil))) (pe_one (pe_not (pe_callB call_isi (by rfl) z.isinstance (by decide +kernel) (pa_cons (pv 0) (pa_cons (pe_bltn (v := .ty "bool") (u := .type "bool") (by rfl) z.bool (by decide +kernel) rfl) pa_nil)))))))), ?_⟩
    obtain ⟨t, hT, c⟩ := ty_scal (K := K) (H := H) hx
    rcases c with ⟨rfl, rfl⟩ | ⟨⟨b, rfl⟩, rfl⟩ | ⟨⟨i, rfl⟩, rfl⟩ | ⟨⟨y, rfl⟩, rfl⟩
    · exact ⟨_, rfl, _, _, _, _, false, rfl, .ty _, hT, kit_ty (by decide +kernel), ⟨_, rfl, q⟩⟩
    · exact ⟨_, rfl, _, _, _, _, true, rfl, .ty _, hT, kit_ty (by decide +kernel), ⟨_, rfl, ⟨_, rfl, _, _, _, _, true, rfl, .ty _, hT, kit_ty (by decide +kernel), ⟨_, rfl, q⟩⟩⟩⟩
    · exact ⟨_, rfl, _, _, _, _, true, rfl, .ty _, hT, kit_ty (by decide +kernel), ⟨_, rfl, ⟨_, rfl, _, _, _, _, false, rfl, .ty _, hT, kit_ty (by decide +kernel), ⟨_, rfl, q⟩⟩⟩⟩
    · exact ⟨_, rfl, _, _, _, _, false, rfl, .ty _, hT, kit_ty (by decide +kernel), ⟨_, rfl, q⟩⟩)

theorem no_same {f : Addr} {fd : FuncData} : FnOk P w K mg base CX0 0 f fd ["actual", "expected"] (spSameG 0) := by
  have no : ∀ vs H Q E, ¬ spSameG 0 vs H Q E := fun vs H Q E h => by
    obtain ⟨x, y, g, D, E', _, _, _, _, h1, _⟩ := h
    exact Nat.not_lt_zero _ h1
  exact ⟨fun vs H Q E h => absurd h (no vs H Q E), fun A outer s H args us vs Q E _ _ _ _ h => absurd h (no vs H Q E)⟩
theorem ok_items {n : Nat} {f g : Addr} {fd gd : FuncData} (k : Kn K mg "_law_same_items" s_law_same_items ["actual", "expected"] f fd) (z : Z mg)
    (c_law_same : Cal P w K mg base (2 * n) "_law_same" ["actual", "expected"] (spSameG n) g gd) : Cal P w K mg base (2 * n + 1) "_law_same_items" ["actual", "expected"] (spItemsG n) f fd := k.cal (by
  refine k.F.ok sc_law_same_items (fun vs H Q E h => ?_) (fun cdv A outer s H vs Q E hr h => ?_)
  · obtain ⟨a, b, xs, ys, gs, D, E', rfl, _⟩ := h; rfl
  · obtain ⟨a, b, xs, ys, gs, D, E', rfl, hk, h1, rx, ry, hdis, hdep, q⟩ := h
    have A1 : SqL K H a xs ∨ SqT K H a xs := by rcases hk with hk | hk; exact .inl (SqL.of hk.1); exact .inr (SqT.of hk.1)
    have B1 : SqL K H b ys ∨ SqT K H b ys := by rcases hk with hk | hk; exact .inl (SqL.of hk.2); exact .inr (SqT.of hk.2)
    have hl : xs.length = ys.length := by rw [rx.length, ry.length]
    refine ⟨_, (pss_cons (ps_if (pt_cmpR op_ne (pe_callB call_len_seq (by rfl) z.len (by decide +kernel) (pa_cons (pv 0) pa_nil)) (pe_callB call_len_seq (by rfl) z.len (by decide +kernel) (pa_cons (pv 1) pa_nil)) (nomark _)) (pss_one (ps_ret pe_bl)) pss_nil)
    (pss_cons (ps_for PassesOwn.never rfl (pi_range1 (by rfl) z.range (pa_cons (pe_callB call_len_seq (by rfl) z.len (by decide +kernel) (pa_cons (pv 1) pa_nil)) pa_nil)) (pg_name (i := 2) sc_law_same_items.nd rfl (Or.inl rfl))
    (pss_one (ps_if (pt_not (pt_val (pe_call c_law_same.G (hr.mono (by omega)) (by rfl) c_law_same.m c_law_same.kp c_law_same.b .nil pass0 (pa_cons (pe_ix ix_seq (pv 0) (pv 2) (fun _ _ => rfl)) (pa_cons (pe_ix ix_seq (pv 1) (pv 2) (fun _ _ => rfl)) pa_nil))))) (pss_one (ps_ret pe_bl)) pss_nil)))
    (pss_one (ps_ret pe_bl)))), ?_⟩
    refine ⟨_, rfl, a, _, rfl, A1, _, rfl, b, _, rfl, B1, rfl, _, rfl, ?_⟩
    refine iteNS (by rw [hl]) ?_
    refine ⟨_, rfl, b, _, rfl, B1, _, rfl, (by omega), (by omega), for_range (lo := 0) (n := ys.length) (fun i σ H2 => (∃ v, σ = [some (.ref a), some (.ref b), v]) ∧ H2 = H) ⟨⟨none, rfl⟩, rfl⟩ ?_ ?_⟩
    · rintro i σ H2 hi ⟨⟨v, rfl⟩, rfl⟩
      have hx : xs[i]? = some xs[i] := List.getElem?_eq_getElem (by omega)
      have hy : ys[i]? = some ys[i] := List.getElem?_eq_getElem hi
      obtain ⟨g1, E1, e1, p1, i1⟩ := rx.get hx
      obtain ⟨g2, E2, e2, p2, i2⟩ := ry.get hy
      rw [e1] at e2
      cases e2
      refine ⟨_, rfl, _, rfl, ixq A1 (at_of (by omega) hx) ⟨_, rfl, _, rfl, ixq B1 (at_of (by omega) hy) ⟨_, _, g1, E1, E2, rfl, p1, p2, fun a ha hb => hdis a (i1 a ha) (i2 a hb), hdep g1 (List.mem_of_getElem? e1), ⟨_, rfl, ?_⟩⟩⟩⟩
      exact iteF ⟨⟨_, rfl⟩, rfl⟩
    · rintro σ H2 ⟨⟨v, rfl⟩, rfl⟩
      exact q)
theorem ok_same {n : Nat} {f g i : Addr} {fd gd ii : FuncData} (k : Kn K mg "_law_same" s_law_same ["actual", "expected"] f fd) (z : Z mg)
    (c_law_same : Cal P w K mg base (2 * n) "_law_same" ["actual", "expected"] (spSameG n) f fd)
    (c_law_is_integer : Cal P w K mg base 1 "_law_is_integer" ["actual"] spIsInt i ii)
    (c_law_same_items : Cal P w K mg base (2 * n + 1) "_law_same_items" ["actual", "expected"] (spItemsG n) g gd) : Cal P w K mg base (2 * n + 2) "_law_same" ["actual", "expected"] (spSameG (n + 1)) f fd := k.cal (by
  refine k.F.ok sc_law_same (fun vs H Q E h => ?_) (fun cdv A outer s H vs Q E hr h => ?_)
  · obtain ⟨x, y, g, D, E', rfl, _⟩ := h; rfl
  · obtain ⟨x, y, g, D, E', rfl, hx, hy, hdis, hdep, q⟩ := h
    have hu := hu_of hr
    refine ⟨_, (pss_cons (ps_if (pt_cmpR op_isN (pv 1) pe_non (nomark _)) (pss_one (ps_ret (pe_cmpR op_isN (pv 0) pe_non (nomark _)))) pss_nil)
    (pss_cons (ps_if (pt_val (pe_callB call_isi (by rfl) z.isinstance (by decide +kernel) (pa_cons (pv 1) (pa_cons (pe_bltn (v := .ty "bool") (u := .type "bool") (by rfl) z.bool (by decide +kernel) rfl) pa_nil)))) (pss_one (ps_ret (pe_and (pe_callB call_isi (by rfl) z.isinstance (by decide +kernel) (pa_cons (pv 0) (pa_cons (pe_bltn (v := .ty "bool") (u := .type "bool") (by rfl) z.bool (by decide +kernel) rfl) pa_nil))) (pe_one (pe_cmpR op_eq (pv 0) (pv 1) (nomark _)))))) pss_nil)
    (pss_cons (ps_if (pt_val (pe_callB call_isi (by rfl) z.isinstance (by decide +kernel) (pa_cons (pv 1) (pa_cons (pe_bltn (v := .ty "int") (u := .type "int") (by rfl) z.int (by decide +kernel) rfl) pa_nil)))) (pss_one (ps_ret (pe_and (pe_call c_law_is_integer.G (hr.mono (by omega)) (by rfl) c_law_is_integer.m c_law_is_integer.kp c_law_is_integer.b .nil pass0 (pa_cons (pv 0) pa_nil)) (pe_one (pe_cmpR op_eq (pv 0) (pv 1) (nomark _)))))) pss_nil)
    (pss_cons (ps_if (pt_val (pe_callB call_isi (by rfl) z.isinstance (by decide +kernel) (pa_cons (pv 1) (pa_cons (pe_bltn (v := .ty "str") (u := .type "str") (by rfl) z.str (by decide +kernel) rfl) pa_nil)))) (pss_one (ps_ret (pe_and (pe_callB call_isi (by rfl) z.isinstance (by decide +kernel) (pa_cons (pv 0) (pa_cons (pe_bltn (v := .ty "str") (u := .type "str") (by rfl) z.str (by decide +kernel) rfl) pa_nil))) (pe_one (pe_cmpR op_eq (pv 0) (pv 1) (nomark _)))))) pss_nil)
    (pss_cons (ps_if (pt_val (pe_callB call_isi (by rfl) z.isinstance (by decide +kernel) (pa_cons (pv 1) (pa_cons (pe_bltn (v := .ty "tuple") (u := .type "tuple") (by rfl) z.tuple (by decide +kernel) rfl) pa_nil)))) (pss_one (ps_ret (pe_and (pe_callB call_isi (by rfl) z.isinstance (by decide +kernel) (pa_cons (pv 0) (pa_cons (pe_bltn (v := .ty "tuple") (u := .type "tuple") (by rfl) z.tuple (by decide +kernel) rfl) pa_nil))) (pe_one (pe_call c_law_same_items.G (hr.mono (by omega)) (by rfl) c_law_same_items.m c_law_same_items.kp c_law_same_items.b .nil pass0 (pa_cons (pv 0) (pa_cons (pv 1) pa_nil))))))) pss_nil)
    (pss_cons (ps_if (pt_val (pe_callB call_isi (by rfl) z.isinstance (by decide +kernel) (pa_cons (pv 1) (pa_cons (pe_bltn (v := .ty "list") (u := .type "list") (by rfl) z.list (by decide +kernel) rfl) pa_nil)))) (pss_one (ps_ret (pe_and (pe_callB call_isi (by rfl) z.isinstance (by decide +kernel) (pa_cons (pv 0) (pa_cons (pe_bltn (v := .ty "list") (u := .type "list") (by rfl) z.list (by decide +kernel) rfl) pa_nil))) (pe_one (pe_call c_law_same_items.G (hr.mono (by omega)) (by rfl) c_law_same_items.m c_law_same_items.kp c_law_same_items.b .nil pass0 (pa_cons (pv 0) (pa_cons (pv 1) pa_nil))))))) pss_nil)
    (pss_cons (ps_if (PW.pt (pw_or (pt_not (pt_val (pe_callB call_isi (by rfl) z.isinstance (by decide +kernel) (pa_cons (pv 0) (pa_cons (pe_bltn (v := .ty "dict") (u := .type "dict") (by rfl) z.dict (by decide +kernel) rfl) pa_nil))))) (pw_or1 (pt_cmpR op_ne (pe_callB call_lenD (by rfl) z.len (by decide +kernel) (pa_cons (pv 0) pa_nil)) (pe_callB call_lenD (by rfl) z.len (by decide +kernel) (pa_cons (pv 1) pa_nil)) (nomark _))))) (pss_one (ps_ret pe_bl)) pss_nil)
    (pss_cons (ps_lock (ps_for PassesOwn.never rfl (pi_keys (pv 1)) (pg_name (i := 2) sc_law_same.nd rfl (Or.inl rfl))
    (pss_one (ps_if (PW.pt (pw_or (pt_cmp (pc_dnotin hu (pv 2) (pv 0))) (pw_or1 (pt_not (pt_val (pe_call c_law_same.G (hr.mono (by omega)) (by rfl) c_law_same.m c_law_same.kp c_law_same.b .nil pass0 (pa_cons (pe_dget hu (pv 0) (pv 2) (fun _ _ => rfl)) (pa_cons (pe_dget hu (pv 1) (pv 2) (fun _ _ => rfl)) pa_nil)))))))) (pss_one (ps_ret pe_bl)) pss_nil))))
    (pss_cons (ps_lock (ps_for PassesOwn.never rfl (pi_keys (pv 0)) (pg_name (i := 2) sc_law_same.nd rfl (Or.inl rfl))
    (pss_one (ps_if (pt_val (pe_callB call_isi (by rfl) z.isinstance (by decide +kernel) (pa_cons (pv 2) (pa_cons (pe_bltn (v := .ty "bool") (u := .type "bool") (by rfl) z.bool (by decide +kernel) rfl) pa_nil)))) (pss_one (ps_ret pe_bl)) pss_nil))))
    (pss_one (ps_ret pe_bl))))))))))), ?_⟩
    cases hx with
    | @s v hs =>
      cases hy with
      | s _ =>
      obtain ⟨t, hT, c⟩ := ty_scal (K := K) (H := H) hs
      rcases c with ⟨rfl, rfl⟩ | ⟨⟨b, rfl⟩, rfl⟩ | ⟨⟨i, rfl⟩, rfl⟩ | ⟨⟨y, rfl⟩, rfl⟩
      · exact ⟨_, rfl, rfl, _, rfl, iteDT rfl ⟨_, rfl, rfl, bl_T rfl q⟩⟩
      · refine ⟨_, rfl, rfl, _, rfl, iteDF (fun e => nomatch e) ⟨_, rfl, _, _, _, _, true, rfl, .ty _, hT, kit_ty (by decide +kernel), ⟨_, rfl, ?_⟩⟩⟩
        exact ⟨_, rfl, _, _, _, _, true, rfl, .ty _, hT, kit_ty (by decide +kernel), ⟨_, rfl, ⟨_, rfl, _, rfl, rfl, bl_T rfl q⟩⟩⟩
      · refine ⟨_, rfl, rfl, _, rfl, iteDF (fun e => nomatch e) ⟨_, rfl, _, _, _, _, false, rfl, .ty _, hT, kit_ty (by decide +kernel), ⟨_, rfl, ?_⟩⟩⟩
        refine ⟨_, rfl, _, _, _, _, true, rfl, .ty _, hT, kit_ty (by decide +kernel), ⟨_, rfl, ?_⟩⟩
        exact ⟨_, rfl, _, rfl, rfl, ⟨_, rfl, ⟨_, rfl, _, rfl, rfl, bl_T rfl q⟩⟩⟩
      · refine ⟨_, rfl, rfl, _, rfl, iteDF (fun e => nomatch e) ⟨_, rfl, _, _, _, _, false, rfl, .ty _, hT, kit_ty (by decide +kernel), ⟨_, rfl, ?_⟩⟩⟩
        refine ⟨_, rfl, _, _, _, _, false, rfl, .ty _, hT, kit_ty (by decide +kernel), ⟨_, rfl, ?_⟩⟩
        refine ⟨_, rfl, _, _, _, _, true, rfl, .ty _, hT, kit_ty (by decide +kernel), ⟨_, rfl, ?_⟩⟩
        exact ⟨_, rfl, _, _, _, _, true, rfl, .ty _, hT, kit_ty (by decide +kernel), ⟨_, rfl, ⟨_, rfl, _, rfl, rfl, bl_T rfl q⟩⟩⟩
    | @l a xs gs D hxa hn rx =>
      cases hy with
      | @l b ys _ E hyb hm ry =>
      have hA : TyX K H (.ref a) (.type "list") := .base (.lst hxa)
      have hB : TyX K H (.ref b) (.type "list") := .base (.lst hyb)
      have hd : ∀ g ∈ gs, g.dep < n := fun g hg => by have := depL_mem hg; simp only [G.dep] at hdep; omega
      refine ⟨_, rfl, rfl, _, rfl, iteDF (fun e => nomatch e) ⟨_, rfl, _, _, _, _, false, rfl, .ty _, hB, kit_ty (by decide +kernel), ⟨_, rfl, ?_⟩⟩⟩
      refine ⟨_, rfl, _, _, _, _, false, rfl, .ty _, hB, kit_ty (by decide +kernel), ⟨_, rfl, ?_⟩⟩
      refine ⟨_, rfl, _, _, _, _, false, rfl, .ty _, hB, kit_ty (by decide +kernel), ⟨_, rfl, ?_⟩⟩
      refine ⟨_, rfl, _, _, _, _, false, rfl, .ty _, hB, kit_ty (by decide +kernel), ⟨_, rfl, ?_⟩⟩
      refine ⟨_, rfl, _, _, _, _, true, rfl, .ty _, hB, kit_ty (by decide +kernel), ⟨_, rfl, ?_⟩⟩
      exact ⟨_, rfl, _, _, _, _, true, rfl, .ty _, hA, kit_ty (by decide +kernel), ⟨_, rfl, ⟨_, rfl, _, rfl, a, b, xs, ys, gs, D, E, rfl, .inl ⟨hxa, hyb⟩, hn, rx, ry, fun c h1 h2 => hdis c (List.mem_cons_of_mem _ h1) (List.mem_cons_of_mem _ h2), hd, q⟩⟩⟩
    | @t a xs gs D hxa hn rx =>
      cases hy with
      | @t b ys _ E hyb hm ry =>
      have hA : TyX K H (.ref a) (.type "tuple") := .base (.tup hxa)
      have hB : TyX K H (.ref b) (.type "tuple") := .base (.tup hyb)
      have hd : ∀ g ∈ gs, g.dep < n := fun g hg => by have := depL_mem hg; simp only [G.dep] at hdep; omega
      refine ⟨_, rfl, rfl, _, rfl, iteDF (fun e => nomatch e) ⟨_, rfl, _, _, _, _, false, rfl, .ty _, hB, kit_ty (by decide +kernel), ⟨_, rfl, ?_⟩⟩⟩
      refine ⟨_, rfl, _, _, _, _, false, rfl, .ty _, hB, kit_ty (by decide +kernel), ⟨_, rfl, ?_⟩⟩
      refine ⟨_, rfl, _, _, _, _, false, rfl, .ty _, hB, kit_ty (by decide +kernel), ⟨_, rfl, ?_⟩⟩
      refine ⟨_, rfl, _, _, _, _, true, rfl, .ty _, hB, kit_ty (by decide +kernel), ⟨_, rfl, ?_⟩⟩
      exact ⟨_, rfl, _, _, _, _, true, rfl, .ty _, hA, kit_ty (by decide +kernel), ⟨_, rfl, ⟨_, rfl, _, rfl, a, b, xs, ys, gs, _, _, rfl, .inr ⟨hxa, hyb⟩, hn, rx, ry, hdis, hd, q⟩⟩⟩
    | @d a kvs kgs D hxa hn nd rx fx =>
      cases hy with
      | @d b kws _ E hyb hm nd2 ry fy =>
      have hA : TyX K H (.ref a) (.type "dict") := .base (.dK hxa)
      have hB : TyX K H (.ref b) (.type "dict") := .base (.dK hyb)
      have hd : ∀ (k : Key) (g : G), (k, g) ∈ kgs → g.dep < n := fun k g hg => by have := depK_mem hg; simp only [G.dep] at hdep; omega
      have hab : a ≠ b := fun e => by subst e; exact hdis a List.mem_cons_self List.mem_cons_self
      have hbD : b ∉ D := fun h => hdis b (List.mem_cons_of_mem _ h) List.mem_cons_self
      have hkeys : kvs.map (·.1) = kws.map (·.1) := by rw [rx.keys, ry.keys]
      have hlen : kvs.length = kws.length := by have := congrArg List.length hkeys; simpa using this
      refine ⟨_, rfl, rfl, _, rfl, iteDF (fun e => nomatch e) ⟨_, rfl, _, _, _, _, false, rfl, .ty _, hB, kit_ty (by decide +kernel), ⟨_, rfl, ?_⟩⟩⟩
      refine ⟨_, rfl, _, _, _, _, false, rfl, .ty _, hB, kit_ty (by decide +kernel), ⟨_, rfl, ?_⟩⟩
      refine ⟨_, rfl, _, _, _, _, false, rfl, .ty _, hB, kit_ty (by decide +kernel), ⟨_, rfl, ?_⟩⟩
      refine ⟨_, rfl, _, _, _, _, false, rfl, .ty _, hB, kit_ty (by decide +kernel), ⟨_, rfl, ?_⟩⟩
      refine ⟨_, rfl, _, _, _, _, false, rfl, .ty _, hB, kit_ty (by decide +kernel), ⟨_, rfl, ?_⟩⟩
      refine ⟨_, rfl, _, _, _, _, true, rfl, .ty _, hA, kit_ty (by decide +kernel), ⟨_, rfl, ?_⟩⟩
      refine ⟨_, rfl, a, kvs, rfl, hxa, _, rfl, b, kws, rfl, hyb, rfl, _, rfl, ?_⟩
      refine iteNS (by rw [hlen]) ?_
      refine ⟨b, .dK kws, hyb, True.intro, fun od => ?_⟩
      have hLa : (upd H b (.frz od (.dK kws))) a = some (.dK kvs) := by rw [upd_ne hab]; exact hxa
      refine ⟨_, rfl, b, od, rfl, .inl ⟨kws, upd_same, for_it walk_keys (fun i σ H2 => (∃ v, σ = [some (.ref a), some (.ref b), v]) ∧ H2 = upd H b (.frz od (.dK kws))) ⟨⟨none, rfl⟩, rfl⟩ (fun i σ H2 _ hh => by rw [hh.2]; exact upd_same) ?_ ?_⟩⟩
      · rintro i x σ H2 H2' hi ⟨⟨v, rfl⟩, rfl⟩ ⟨rfl, key, wv, ek, rfl⟩
        have eki : (kvs.map (·.1))[i]? = some key := by rw [hkeys, List.getElem?_map, ek]; rfl
        obtain ⟨vv, evv⟩ : ∃ vv, kvs[i]? = some (key, vv) := by
          rw [List.getElem?_map] at eki
          cases e : kvs[i]? with
          | none => rw [e] at eki; cases eki
          | some p => rw [e] at eki; obtain ⟨p1, p2⟩ := p; cases eki; exact ⟨p2, rfl⟩
        have ga : DGet (upd H b (.frz od (.dK kws))) a (kV key) (some vv) := by
          have g := DGet.k (k := key) hLa
          rw [valV_at nd evv] at g
          exact g
        have gb : DGet (upd H b (.frz od (.dK kws))) b (kV key) (some wv) := .inl ⟨kws, key, .inr ⟨od, upd_same⟩, rfl, (valV_at nd2 ek).symm⟩
        obtain ⟨g1, D1, e1, p1, i1⟩ := rx.get evv
        obtain ⟨g2, E1, e2, p2, i2⟩ := ry.get ek
        rw [e1] at e2
        cases e2
        refine ⟨_, rfl, _, rfl, a, _, rfl, ga, _, rfl, ?_⟩
        refine iteF ⟨_, rfl, _, rfl, a, vv, rfl, ga, _, rfl, _, rfl, b, wv, rfl, gb, vv, wv, g1, D1, E1, rfl, p1.locked hyb (fun h => hbD (i1 b h)), p2.locked hyb (fun h => fy (i2 b h)), fun c h1 h2 => hdis c (List.mem_cons_of_mem _ (i1 c h1)) (List.mem_cons_of_mem _ (i2 c h2)), hd _ _ (List.mem_of_getElem? e1), _, rfl, ?_⟩
        exact iteF ⟨⟨_, rfl⟩, rfl⟩
      · rintro σ H2 ⟨⟨v, rfl⟩, rfl⟩
        refine ⟨upd_same, ?_⟩
        rw [upd_upd, upd_self hyb]
        refine ⟨a, .dK kvs, hxa, True.intro, fun oe => ?_⟩
        refine ⟨_, rfl, a, oe, rfl, .inl ⟨kvs, upd_same, for_it walk_keys (fun i σ H2 => (∃ v, σ = [some (.ref a), some (.ref b), v]) ∧ H2 = upd H a (.frz oe (.dK kvs))) ⟨⟨v, rfl⟩, rfl⟩ (fun i σ H2 _ hh => by rw [hh.2]; exact upd_same) ?_ ?_⟩⟩
        · rintro i x σ H2 H2' hi ⟨⟨v, rfl⟩, rfl⟩ ⟨rfl, key, wv, ek, rfl⟩
          cases key with
          | inl i0 => exact ⟨_, rfl, _, _, _, _, false, rfl, .ty _, .base (.int _), kit_ty (by decide +kernel), _, rfl, ⟨_, rfl⟩, rfl⟩
          | inr s0 => exact ⟨_, rfl, _, _, _, _, false, rfl, .ty _, .base (.str _), kit_ty (by decide +kernel), _, rfl, ⟨_, rfl⟩, rfl⟩
        · rintro σ H2 ⟨⟨v, rfl⟩, rfl⟩
          refine ⟨upd_same, ?_⟩
          rw [upd_upd, upd_self hxa]
          exact q)
theorem ok_law_same {f g i : Addr} {fd gd ii : FuncData} (k : Kn K mg "_law_same" s_law_same ["actual", "expected"] f fd) (kI : Kn K mg "_law_same_items" s_law_same_items ["actual", "expected"] g gd) (z : Z mg)
    (c_law_is_integer : Cal P w K mg base 1 "_law_is_integer" ["actual"] spIsInt i ii) : ∀ n : Nat, Cal P w K mg base (2 * n) "_law_same" ["actual", "expected"] (spSameG n) f fd
  | 0 => k.cal no_same
  | n + 1 => by
    have h := ok_law_same k kI z c_law_is_integer n
    exact ok_same k z h c_law_is_integer (ok_items kI z h)
theorem ok_law {f : Addr} {fd : FuncData} (k : Kn K mg "law" s_law ["script"] f fd) (z : Z mg)
    {C_EditError fI_EditError : Addr} {fdI_EditError : FuncData} (e_EditError : ErrK P w K mg base "EditError" "code" "index" C_EditError fI_EditError fdI_EditError)
    {S_EditError : Addr} (i_EditError : IsK K mg C_EditError S_EditError)
    {g_law_tape : Addr} {gd_law_tape : FuncData} (c_law_tape : Cal P w K mg base 1 "_law_tape" ["script"] (spTape K) g_law_tape gd_law_tape)
    {g_law_schema : Addr} {gd_law_schema : FuncData} (c_law_schema : Cal P w K mg base 8 "_law_schema" ["tape", "least", "most"] (spSchema) g_law_schema gd_law_schema)
    {g_law_state : Addr} {gd_law_state : FuncData} (c_law_state : Cal P w K mg base 7 "_law_state" ["tape", "schema", "most"] (spState) g_law_state gd_law_state)
    {g_law_write : Addr} {gd_law_write : FuncData} (c_law_write : Cal P w K mg base 10 "_law_write" ["tape", "schema", "state", "most"] (spLawWrite) g_law_write gd_law_write)
    {g_law_take : Addr} {gd_law_take : FuncData} (c_law_take : Cal P w K mg base 1 "_law_take" ["tape", "many"] (spTake) g_law_take gd_law_take)
    {g_law_spoil : Addr} {gd_law_spoil : FuncData} (c_law_spoil : Cal P w K mg base 2 "_law_spoil" ["tape", "edit"] (spSpoilE) g_law_spoil gd_law_spoil)
    {g_law_copy : Addr} {gd_law_copy : FuncData} (c_law_copy : Cal P w K mg base 9 "_law_copy" ["thing"] (spCopyG 9) g_law_copy gd_law_copy)
    {g_law_expected : Addr} {gd_law_expected : FuncData} (c_law_expected : Cal P w K mg base 10 "_law_expected" ["schema", "state", "edits"] (spExpE) g_law_expected gd_law_expected)
    {g_apply_write : Addr} {gd_apply_write : FuncData} (c_apply_write : CalX P w K mg base 9 "apply_write" ["schema", "state", "edits"] (spApply C_EditError) g_apply_write gd_apply_write)
    {g_law_same : Addr} {gd_law_same : FuncData} (c_law_same : Cal P w K mg base 18 "_law_same" ["actual", "expected"] (spSameG 9) g_law_same gd_law_same) :
    Cal P w K mg base 19 "law" ["script"] (spLaw K) f fd := k.cal (by
  refine k.F.ok sc_law (fun vs H Q E h => ?_) (fun cdv A outer s H vs Q E hr h => ?_)
  · obtain ⟨a, ns, rfl, _⟩ := h; rfl
  · obtain ⟨a, ns, rfl, hS, h63, q⟩ := h
    have hu := hu_of hr
    refine ⟨_, (pss_cons (ps_set (i := 1) sc_law.nd rfl (Or.inl rfl) (pe_call c_law_tape.G (hr.mono (by decide)) (by rfl) c_law_tape.m c_law_tape.kp c_law_tape.b .nil pass0 (pa_cons (pv 0) pa_nil)))
        (pss_cons (ps_set (i := 2) sc_law.nd rfl (Or.inl rfl) (pe_call c_law_schema.G (hr.mono (by decide)) (by rfl) c_law_schema.m c_law_schema.kp c_law_schema.b .nil pass0 (pa_cons (pv 1) (pa_cons pe_int (pa_cons pe_int pa_nil)))))
        (pss_cons (ps_set (i := 3) sc_law.nd rfl (Or.inl rfl) (pe_call c_law_state.G (hr.mono (by decide)) (by rfl) c_law_state.m c_law_state.kp c_law_state.b .nil pass0 (pa_cons (pv 1) (pa_cons (pv 2) (pa_cons pe_int pa_nil)))))
        (pss_cons (ps_asg (pe_call c_law_write.G (hr.mono (by decide)) (by rfl) c_law_write.m c_law_write.kp c_law_write.b .nil pass0 (pa_cons (pv 1) (pa_cons (pv 2) (pa_cons (pv 3) (pa_cons pe_int pa_nil))))) (pg_tup (by rfl) (pgs_cons (pg_name (i := 4) sc_law.nd rfl (Or.inl rfl)) (pgs_cons (pg_name (i := 5) sc_law.nd rfl (Or.inl rfl)) pgs_nil))))
        (pss_cut (ps_if (PW.pt (pw_and (pt_cmpR op_eq (pe_call c_law_take.G (hr.mono (by decide)) (by rfl) c_law_take.m c_law_take.kp c_law_take.b .nil pass0 (pa_cons (pv 1) (pa_cons pe_int pa_nil))) pe_int (nomark _)) (pw_and1 (pt_cmpR (op_neD hr.units) (pv 4) (pe_lst pa_nil) (nomark _))))) (pss_cons (ps_set (i := 4) sc_law.nd rfl (Or.inl rfl) (pe_op op_rep (pv 4) pe_int))
        (pss_one (ps_set (i := 4) sc_law.nd rfl (Or.inl rfl) (pe_slice sl_list (pv 4) po_none (po_some (pe_op op_add pe_int (pe_call c_law_take.G (hr.mono (by decide)) (by rfl) c_law_take.m c_law_take.kp c_law_take.b .nil pass0 (pa_cons (pv 1) (pa_cons pe_int pa_nil))))))))) pss_nil)
        (pss_cut (ps_if (PW.pt (pw_and (pt_cmpR op_eq (pe_call c_law_take.G (hr.mono (by decide)) (by rfl) c_law_take.m c_law_take.kp c_law_take.b .nil pass0 (pa_cons (pv 1) (pa_cons pe_int pa_nil))) pe_int (nomark _)) (pw_and1 (pt_cmpR (op_neD hr.units) (pv 4) (pe_lst pa_nil) (nomark _))))) (pss_cons (ps_set (i := 6) sc_law.nd rfl (Or.inl rfl) (pe_call c_law_take.G (hr.mono (by decide)) (by rfl) c_law_take.m c_law_take.kp c_law_take.b .nil pass0 (pa_cons (pv 1) (pa_cons (pe_callB call_len_seq (by rfl) z.len (by decide +kernel) (pa_cons (pv 4) pa_nil)) pa_nil))))
        (pss_one (ps_asg (pe_call c_law_spoil.G (hr.mono (by decide)) (by rfl) c_law_spoil.m c_law_spoil.kp c_law_spoil.b .nil pass0 (pa_cons (pv 1) (pa_cons (pe_ix ix_list (pv 4) (pv 6) (fun _ _ => rfl)) pa_nil))) (pg_sub (pv 4) (pv 6) set_list)))) (pss_one (ps_if (PW.pt (pw_and (pt_cmpR op_eq (pe_call c_law_take.G (hr.mono (by decide)) (by rfl) c_law_take.m c_law_take.kp c_law_take.b .nil pass0 (pa_cons (pv 1) (pa_cons pe_int pa_nil))) pe_int (nomark _)) (pw_and1 (pt_cmpR (op_neD hr.units) (pv 4) (pe_lst pa_nil) (nomark _))))) (pss_one (ps_expr (pe_bm PySem.F.plainAttrs_list PySem.F.slot_list_append PySem.F.type_list_append mt_append (pv 4) (pa_cons (pe_ix ix_list (pv 4) (pe_call c_law_take.G (hr.mono (by decide)) (by rfl) c_law_take.m c_law_take.kp c_law_take.b .nil pass0 (pa_cons (pv 1) (pa_cons (pe_callB call_len_seq (by rfl) z.len (by decide +kernel) (pa_cons (pv 4) pa_nil)) pa_nil))) (fun _ _ => rfl)) pa_nil)))) pss_nil)))
        (pss_cons (ps_set (i := 7) sc_law.nd rfl (Or.inl rfl) (pe_call c_law_copy.G (hr.mono (by decide)) (by rfl) c_law_copy.m c_law_copy.kp c_law_copy.b .nil pass0 (pa_cons (pe_lst (pa_cons (pv 2) (pa_cons (pv 3) (pa_cons (pv 4) pa_nil)))) pa_nil)))
        (pss_cons (ps_set (i := 8) sc_law.nd rfl (Or.inl rfl) (pe_call c_law_expected.G (hr.mono (by decide)) (by rfl) c_law_expected.m c_law_expected.kp c_law_expected.b .nil pass0 (pa_cons (pv 2) (pa_cons (pv 3) (pa_cons (pv 4) pa_nil)))))
        (pss_cons (ps_set (i := 9) sc_law.nd rfl (Or.inl rfl) (pe_tup (pa_cons pe_non (pa_cons pe_str (pa_cons (pe_un un_neg pe_int) pa_nil)))))
        (pss_cons (L2N.ps_try_as (i := 10) (Wout := fun _ _ _ _ => False) rfl rfl sc_law.nd rfl rfl ⟨rfl, by decide, Or.inl e_EditError.c.gC⟩ takes0N (fun W pn xe tk _ => (pss_one (ps_set (i := 9) sc_law.nd rfl (Or.inl rfl) (pe_tup (pa_cons (pe_callS (E := WE W) c_apply_write.G (hr.mono (by decide)) (by rfl) c_apply_write.m c_apply_write.kp c_apply_write.b (fun σ => L2N.passAt tk σ) (pa_cons (pv 2) (pa_cons (pv 3) (pa_cons (pv 4) pa_nil)))) (pa_cons pe_str (pa_cons (pe_un un_neg pe_int) pa_nil)))))))
        (fun a oe cls d pn hz hf => (pss_cons (ps_if (PW.pt (pw_or (pt_not (pt_val (pe_callB (call_isG (c := V.ref S_EditError) i_EditError.exc i_EditError.s (fun u h => h) hz.zc hf) (by rfl) z.isinstance (by decide +kernel) (pa_cons (pv 10) (pa_cons (pe_glob (v := V.ref S_EditError) rfl i_EditError.gS rfl) pa_nil))))) (pw_or1 (pt_not (pt_val (pe_callB (call_isG (c := .ty "ValueError") i_EditError.exc i_EditError.v (fun u h => h) hz.zc hf) (by rfl) z.isinstance (by decide +kernel) (pa_cons (pv 10) (pa_cons (pe_bltn (v := .ty "ValueError") (u := .type "ValueError") (by rfl) z.ValueError (by decide +kernel) rfl) pa_nil)))))))) (pss_one (ps_ret pe_bl)) pss_nil)
        (pss_one (ps_set (i := 9) sc_law.nd rfl (Or.inl rfl) (pe_tup (pa_cons pe_non (pa_cons (pe_xf e_EditError.c.xf e_EditError.c.n1 hz.zc hf (pv 10)) (pa_cons (pe_xf e_EditError.c.xf e_EditError.c.n2 hz.zc hf (pv 10)) pa_nil)))))))))
        (pss_one (ps_ret (pe_and (pe_call c_law_same.G (hr.mono (by decide)) (by rfl) c_law_same.m c_law_same.kp c_law_same.b .nil pass0 (pa_cons (pv 9) (pa_cons (pv 8) pa_nil))) (pe_one (pe_call c_law_same.G (hr.mono (by decide)) (by rfl) c_law_same.m c_law_same.kp c_law_same.b .nil pass0 (pa_cons (pe_lst (pa_cons (pv 2) (pa_cons (pv 3) (pa_cons (pv 4) pa_nil)))) (pa_cons (pv 7) pa_nil))))))))))))))))), ?_⟩
    refine ⟨_, rfl, a, ns, rfl, hS, h63, fun t c cs H1 T1 s1 ht0 => ?_⟩
    refine ⟨_, rfl, t, c, cs, 1, 3, rfl, T1, by decide, by decide, by decide, fun S s H2 A2 ok l1 l3 T2 x2 => ?_⟩
    refine ⟨_, rfl, _, rfl, t, c, S, cs, s, 5, rfl, T2, A2, ok, by omega, by decide, by decide, fun T st H3 B3 fit nd fr T3 x3 => ?_⟩
    have A3 := A2.monoX T2 x3
    have V3 := A3.v ok (by omega)
    have tv := V3.ok
    obtain ⟨W, MS, MK⟩ := fit.good B3.nm tv
    have tH2 : ∃ o, H2 t = some o := by obtain ⟨_, _, _, _, e, _⟩ := T2.dk; exact ⟨_, e⟩
    have tH3 : ∃ o, H3 t = some o := by obtain ⟨_, _, _, _, e, _⟩ := T3.dk; exact ⟨_, e⟩
    have frt : ∀ b ∈ stD T st, b ≠ t := fun b hb z => by obtain ⟨o, e⟩ := tH2; rw [← z, fr b hb] at e; cases e
    have stl : st.length ≤ 6 := by have := fit.e; omega
    have W5 : MW (tbs s) (stM st) 5 := W
    have tnd : ((tbs s).map (·.n)).Nodup := by
      have := A3.nm
      unfold tbs
      rw [List.map_map]
      exact this
    have stay : ∀ {H' : Hp}, SameX t H3 H' → TapeAt H' t c cs → SchAt H' S s t c ∧ StAt H' T st := fun {H'} X T' => ⟨A3.monoX T3 X, B3.frame (KeepT.ofX T3 X) (fun b hb o e => X b o e (frt b hb))⟩
    refine ⟨_, rfl, _, rfl, _, rfl, t, c, S, T, cs, s, st, 5, 8, rfl, T3, A3, tv, by omega, by omega, B3, W, MS, by decide, by omega, MK, by decide, fun L x r xs es H4 hr4 hL hE hok hl fL T4 x4 => ?_⟩
    refine ⟨r, _, rfl, SqT.of hr4, rfl, .ref L, [x], rfl, x, [], rfl, rfl, ?_⟩
    have nt : ∀ {l : Addr}, H3 l = none → l ≠ t := fun {l} h z => by obtain ⟨o, e⟩ := tH3; rw [← z, h] at e; cases e
    have nc : ∀ {l : Addr}, H3 l = none → l ≠ c := fun {l} h z => by have e := T3.ls; rw [← z, h] at e; cases e
    refine ⟨fun σ H' => ∃ (L : Addr) (xs : List V) (es : List Ed) (v6 v7 v8 v9 v10 : Option V), σ = [some (.ref a), some (.ref t), some (.ref S), some (.ref T), some (.ref L), some x, v6, v7, v8, v9, v10] ∧ H' L = some (.lst xs) ∧ TpL H' xs (es.map edD) ∧ (∀ e ∈ es, edOk e ∧ EdFit s e) ∧ es.length ≤ 26 ∧ H3 L = none ∧ TapeAt H' t c cs ∧ SameX t H3 H', ?_, ?_⟩
    · refine ⟨_, rfl, t, c, cs, 10, rfl, T4, by decide, by decide +kernel, fun d H5 d0 d1 T5 x5 => ⟨rfl, _, rfl, ?_⟩⟩
      have hL5 := x5 _ _ hL (nt fL)
      have hE5 := hE.mono (KeepT.ofX T4 x5)
      have X5 := x4.trans x5
      have same1 : ∀ {H' : Hp}, Same H5 H' → ∃ (L' : Addr) (xs : List V) (es : List Ed) (v6 v7 v8 v9 v10 : Option V), [some (.ref a), some (.ref t), some (.ref S), some (.ref T), some (.ref L), some x, none, none, none, none, none] = [some (.ref a), some (.ref t), some (.ref S), some (.ref T), some (.ref L'), some x, v6, v7, v8, v9, v10] ∧ H' L' = some (.lst xs) ∧ TpL H' xs (es.map edD) ∧ (∀ e ∈ es, edOk e ∧ EdFit s e) ∧ es.length ≤ 26 ∧ H3 L' = none ∧ TapeAt H' t c cs ∧ SameX t H3 H' := fun {H'} s' => ⟨L, xs, es, none, none, none, none, none, rfl, s' _ _ hL5, hE5.mono (KeepT.of s'), hok, by omega, fL, T5.mono s', X5.trans (SameX.of s')⟩
      refine ifD (fun _ => ?_) (fun _ => iteF (same1 (fun _ _ h => h)))
      refine ⟨_, rfl, Nat.zero_le _, fun Z hZ => ?_⟩
      have sZ := same_new hZ (.lst [])
      refine ⟨_, _, .lst (SqL.of (sZ _ _ hL5)) ((hE5.mono (KeepT.of sZ)).py), .lst (SqL.of upd_same) .nil, eds_shaped (fun e he => (hok e he).1), eds_shaped (es := []) (fun e he => by cases he), _, rfl, ?_⟩
      rw [eds_nil]
      refine ifN (fun hne => ?_) (fun _ => same1 sZ)
      have hL6 := sZ _ _ hL5
      have hE6 := hE5.mono (KeepT.of sZ)
      have T6 := T5.mono sZ
      have X6 := X5.trans (SameX.of sZ)
      generalize upd H5 Z (.lst []) = H6 at hL6 hE6 T6 X6 ⊢
      have lx : xs.length = es.length := by have := hE.length; rw [List.length_map] at this; exact this
      refine ⟨_, rfl, L, 26, xs, rfl, rfl, hL6, by decide, by decide, (by show xs.length * 26 ≤ sizeLine; exact Nat.le_of_lt (small1000 (by omega))), fun M hM => ?_⟩
      have sM := same_new hM (.lst (List.replicate (26 : Int).toNat xs).flatten)
      have hM7 : (upd H6 M (.lst (List.replicate (26 : Int).toNat xs).flatten)) M = some (.lst (List.replicate (26 : Int).toNat xs).flatten) := upd_same
      have hE7 : TpL (upd H6 M (.lst (List.replicate (26 : Int).toNat xs).flatten)) (List.replicate (26 : Int).toNat xs).flatten (((List.replicate (26 : Int).toNat es).flatten).map edD) := by
        rw [← map_flat]
        exact (hE6.mono (KeepT.of sM)).rep _
      have T7 := T6.mono sM
      have X7 := X6.trans (SameX.of sM)
      have fM : H3 M = none := X6.free (fun z => by obtain ⟨_, _, _, _, e, _⟩ := T6.dk; rw [← z, hM] at e; cases e) hM
      generalize upd H6 M (.lst (List.replicate (26 : Int).toNat xs).flatten) = H7 at hM7 hE7 T7 X7 ⊢
      refine ⟨_, rfl, ?_⟩
      dsimp only [tNoPart]
      refine ⟨_, rfl, t, c, cs, 3, rfl, T7, by decide, by decide +kernel, fun d2 H8 d3 d4 T8 x8 => ⟨24, d2, rfl, rfl, 24 + d2, rfl, M, _, rfl, SqL.of (x8 _ _ hM7 (nt fM)), fun D hD => ?_⟩⟩
      obtain ⟨j, rfl⟩ : ∃ j : Nat, d2 = j := ⟨d2.toNat, by omega⟩
      have sD := same_new hD (.lst (cutV (List.replicate (26 : Int).toNat xs).flatten none (some (24 + (j : Int)))))
      have fD : H3 D = none := (X7.trans x8).free (fun z => by obtain ⟨_, _, _, _, e, _⟩ := T8.dk; rw [← z, hD] at e; cases e) hD
      have eD : cutV (List.replicate (26 : Int).toNat xs).flatten none (some (24 + (j : Int))) = ((List.replicate (26 : Int).toNat xs).flatten).take (24 + j) := by
        rw [show (24 + (j : Int)) = ((24 + j : Nat) : Int) by omega]; exact cut_takeE _ _
      refine ⟨D, _, ((List.replicate (26 : Int).toNat es).flatten).take (24 + j), _, _, _, _, _, rfl, upd_same, ?_, fun e he => hok e (mem_flat_rep (List.mem_of_mem_take he)), ?_, fD, T8.mono sD, (X7.trans x8).trans (SameX.of sD)⟩
      · have := TpL.take (24 + j) ((hE7.mono (KeepT.ofX T7 x8)).mono (KeepT.of sD))
        rw [← eD, ← List.map_take] at this
        exact this
      · rw [List.length_take]; omega
    rintro σ H5 ⟨L, xs, es, v6, v7, v8, v9, v10, rfl, hL, hE, hok, hl, fL, T5, x5⟩
    refine ⟨fun σ H' => ∃ (L : Addr) (xs : List V) (es : List Ed) (v6 v7 v8 v9 v10 : Option V), σ = [some (.ref a), some (.ref t), some (.ref S), some (.ref T), some (.ref L), some x, v6, v7, v8, v9, v10] ∧ H' L = some (.lst xs) ∧ TpL H' xs (es.map edD) ∧ (∀ e ∈ es, edOk e) ∧ es.length ≤ 27 ∧ H3 L = none ∧ TapeAt H' t c cs ∧ SameX t H3 H', ?_, ?_⟩
    · refine ⟨_, rfl, t, c, cs, 2, rfl, T5, by decide, by decide +kernel, fun d H6 d0 d1 T6 x6 => ⟨rfl, _, rfl, ?_⟩⟩
      have hL6 := x6 _ _ hL (nt fL)
      have hE6 := hE.mono (KeepT.ofX T5 x6)
      have X6 := x5.trans x6
      have lx : xs.length = es.length := by have := hE.length; rw [List.length_map] at this; exact this
      refine ifD (fun _ => ?_) (fun _ => iteF ?_)
      · refine ⟨_, rfl, Nat.zero_le _, fun Z hZ => ?_⟩
        have sZ := same_new hZ (.lst [])
        refine ⟨_, _, .lst (SqL.of (sZ _ _ hL6)) ((hE6.mono (KeepT.of sZ)).py), .lst (SqL.of upd_same) .nil, eds_shaped (fun e he => (hok e he).1), eds_shaped (es := []) (fun e he => by cases he), _, rfl, ?_⟩
        rw [eds_nil]
        have hL7 := sZ _ _ hL6
        have hE7 := hE6.mono (KeepT.of sZ)
        have T7 := T6.mono sZ
        have X7 := X6.trans (SameX.of sZ)
        generalize upd H6 Z (.lst []) = H7 at hL7 hE7 T7 X7 ⊢
        refine ifN (fun hne => ?_) (fun _ => ?_)
        · have lp : 0 < es.length := List.length_pos_iff.mpr hne
          refine ⟨_, rfl, _, rfl, L, _, rfl, .inl (SqL.of hL7), t, c, cs, _, rfl, T7, by omega, Nat.lt_of_le_of_lt (m := 50) (by omega) (by decide +kernel), fun j0 H8 j1 j2 T8 x8 => ?_⟩
          obtain ⟨j, rfl⟩ : ∃ j : Nat, j0 = j := ⟨j0.toNat, by omega⟩
          have hL8 := x8 _ _ hL7 (nt fL)
          have hE8 := hE7.mono (KeepT.ofX T7 x8)
          have X8 := X7.trans x8
          have jl : j < es.length := by omega
          obtain ⟨v, hv, hte⟩ := hE8.get' (i := j) (d := edD es[j]) (by rw [List.getElem?_map, List.getElem?_eq_getElem jl]; rfl)
          have hj := hok _ (List.getElem_mem jl)
          refine ⟨_, rfl, _, rfl, _, rfl, L, xs, _, v, rfl, rfl, SqL.of hL8, at_ofN (j := j) rfl hv, t, c, cs, v, es[j], rfl, T8, hte, hj.1, hj.2.full, fit_len tv hj.2, fun v' e' H9 hte' ok' T9 x9 => ?_⟩
          have hL9 := x9 _ _ hL8 (nt fL)
          have hE9 := hE8.mono (KeepT.ofX T8 x9)
          have X9 := X8.trans x9
          refine ⟨_, rfl, _, rfl, L, xs, _, j, rfl, rfl, hL9, ixN_at (by omega), ?_⟩
          have ku : KeepT H9 (upd H9 L (.lst (xs.set j v'))) := KeepT.upd fun zs z => by rw [hL9] at z; cases z
          exact ⟨L, xs.set j v', es.set j e', _, _, _, _, _, rfl, upd_same, by rw [List.map_set]; exact (hE9.mono ku).set (hte'.mono ku), fun e he => by
            rcases List.mem_or_eq_of_mem_set he with h | h
            · exact (hok e h).1
            · rw [h]; exact ok', by rw [List.length_set]; omega, fL, T9.upd (nt fL) (nc fL).symm, samex_upd fL _ X9⟩
        · refine ⟨_, rfl, t, c, cs, 3, rfl, T7, by decide, by decide +kernel, fun e0 H8 e1 e2 T8 x8 => ⟨rfl, _, rfl, ?_⟩⟩
          have hL8 := x8 _ _ hL7 (nt fL)
          have hE8 := hE7.mono (KeepT.ofX T7 x8)
          have X8 := X7.trans x8
          refine ifD (fun _ => ?_) (fun _ => iteF ⟨L, xs, es, _, _, _, _, _, rfl, hL8, hE8, fun e he => (hok e he).1, by omega, fL, T8, X8⟩)
          refine ⟨_, rfl, Nat.zero_le _, fun Z hZ => ?_⟩
          have sZ := same_new hZ (.lst [])
          refine ⟨_, _, .lst (SqL.of (sZ _ _ hL8)) ((hE8.mono (KeepT.of sZ)).py), .lst (SqL.of upd_same) .nil, eds_shaped (fun e he => (hok e he).1), eds_shaped (es := []) (fun e he => by cases he), _, rfl, ?_⟩
          rw [eds_nil]
          have hL9 := sZ _ _ hL8
          have hE9 := hE8.mono (KeepT.of sZ)
          have T9 := T8.mono sZ
          have X9 := X8.trans (SameX.of sZ)
          generalize upd H8 Z (.lst []) = H9 at hL9 hE9 T9 X9 ⊢
          refine ifN (fun hne => ?_) (fun _ => ⟨L, xs, es, _, _, _, _, _, rfl, hL9, hE9, fun e he => (hok e he).1, by omega, fL, T9, X9⟩)
          have lp : 0 < es.length := List.length_pos_iff.mpr hne
          refine ⟨_, rfl, .inl ⟨rfl, _, SqL.of hL9⟩, _, rfl, _, rfl, _, rfl, L, _, rfl, .inl (SqL.of hL9), t, c, cs, _, rfl, T9, by omega, Nat.lt_of_le_of_lt (m := 50) (by omega) (by decide +kernel), fun j0 H10 j1 j2 T10 x10 => ?_⟩
          obtain ⟨j, rfl⟩ : ∃ j : Nat, j0 = j := ⟨j0.toNat, by omega⟩
          have hL10 := x10 _ _ hL9 (nt fL)
          have hE10 := hE9.mono (KeepT.ofX T9 x10)
          have X10 := X9.trans x10
          have jl : j < es.length := by omega
          obtain ⟨v, hv, hte⟩ := hE10.get' (i := j) (d := edD es[j]) (by rw [List.getElem?_map, List.getElem?_eq_getElem jl]; rfl)
          refine ⟨L, xs, _, v, rfl, rfl, SqL.of hL10, at_ofN (j := j) rfl hv, L, xs, v, rfl, rfl, hL10, small1000 (by omega), ?_⟩
          have ku : KeepT H10 (upd H10 L (.lst (xs ++ [v]))) := KeepT.upd fun zs z => by rw [hL10] at z; cases z
          exact ⟨L, xs ++ [v], es ++ [es[j]], _, _, _, _, _, rfl, upd_same, by rw [List.map_append]; exact (hE10.mono ku).snoc (hte.mono ku), fun e he => by
            rcases List.mem_append.mp he with h | h
            · exact (hok e h).1
            · rw [List.mem_singleton.mp h]; exact (hok _ (List.getElem_mem jl)).1, by rw [List.length_append]; exact Nat.succ_le_succ hl, fL, T10.upd (nt fL) (nc fL).symm, samex_upd fL _ X10⟩
      · refine ⟨_, rfl, t, c, cs, 3, rfl, T6, by decide, by decide +kernel, fun e0 H8 e1 e2 T8 x8 => ⟨rfl, _, rfl, ?_⟩⟩
        have hL8 := x8 _ _ hL6 (nt fL)
        have hE8 := hE6.mono (KeepT.ofX T6 x8)
        have X8 := X6.trans x8
        refine ifD (fun _ => ?_) (fun _ => iteF ⟨L, xs, es, _, _, _, _, _, rfl, hL8, hE8, fun e he => (hok e he).1, by omega, fL, T8, X8⟩)
        refine ⟨_, rfl, Nat.zero_le _, fun Z hZ => ?_⟩
        have sZ := same_new hZ (.lst [])
        refine ⟨_, _, .lst (SqL.of (sZ _ _ hL8)) ((hE8.mono (KeepT.of sZ)).py), .lst (SqL.of upd_same) .nil, eds_shaped (fun e he => (hok e he).1), eds_shaped (es := []) (fun e he => by cases he), _, rfl, ?_⟩
        rw [eds_nil]
        have hL9 := sZ _ _ hL8
        have hE9 := hE8.mono (KeepT.of sZ)
        have T9 := T8.mono sZ
        have X9 := X8.trans (SameX.of sZ)
        generalize upd H8 Z (.lst []) = H9 at hL9 hE9 T9 X9 ⊢
        refine ifN (fun hne => ?_) (fun _ => ⟨L, xs, es, _, _, _, _, _, rfl, hL9, hE9, fun e he => (hok e he).1, by omega, fL, T9, X9⟩)
        have lp : 0 < es.length := List.length_pos_iff.mpr hne
        refine ⟨_, rfl, .inl ⟨rfl, _, SqL.of hL9⟩, _, rfl, _, rfl, _, rfl, L, _, rfl, .inl (SqL.of hL9), t, c, cs, _, rfl, T9, by omega, Nat.lt_of_le_of_lt (m := 50) (by omega) (by decide +kernel), fun j0 H10 j1 j2 T10 x10 => ?_⟩
        obtain ⟨j, rfl⟩ : ∃ j : Nat, j0 = j := ⟨j0.toNat, by omega⟩
        have hL10 := x10 _ _ hL9 (nt fL)
        have hE10 := hE9.mono (KeepT.ofX T9 x10)
        have X10 := X9.trans x10
        have jl : j < es.length := by omega
        obtain ⟨v, hv, hte⟩ := hE10.get' (i := j) (d := edD es[j]) (by rw [List.getElem?_map, List.getElem?_eq_getElem jl]; rfl)
        refine ⟨L, xs, _, v, rfl, rfl, SqL.of hL10, at_ofN (j := j) rfl hv, L, xs, v, rfl, rfl, hL10, small1000 (by omega), ?_⟩
        have ku : KeepT H10 (upd H10 L (.lst (xs ++ [v]))) := KeepT.upd fun zs z => by rw [hL10] at z; cases z
        exact ⟨L, xs ++ [v], es ++ [es[j]], _, _, _, _, _, rfl, upd_same, by rw [List.map_append]; exact (hE10.mono ku).snoc (hte.mono ku), fun e he => by
          rcases List.mem_append.mp he with h | h
          · exact (hok e h).1
          · rw [List.mem_singleton.mp h]; exact (hok _ (List.getElem_mem jl)).1, by rw [List.length_append]; exact Nat.succ_le_succ hl, fL, T10.upd (nt fL) (nc fL).symm, samex_upd fL _ X10⟩
    rintro σ H6 ⟨L, xs, es, v6, v7, v8, v9, v10, rfl, hL, hE, hok, hl, fL, T6, x6⟩
    obtain ⟨A6, B6⟩ := stay x6 T6
    have lx : xs.length = es.length := by have := hE.length; rw [List.length_map] at this; exact this
    have sm : ∀ p ∈ s, TabSm p.2 := fun p hp => (tv p hp).sm
    have gS := A6.g sm (by omega)
    have gT := B6.gM W MS (by decide) (by omega)
    have gE := eds_g hL hE hok (by omega)
    refine ⟨_, rfl, _, rfl, _, rfl, (by show 3 ≤ sizeLine; decide), fun P hP => ?_⟩
    have sP := same_new hP (.lst [.ref S, .ref T, .ref L])
    have g3 := three_g (P := P) upd_same (gS.mono sP) (gT.mono sP) (gE.mono sP)
    have dp3 : (G.l [schG s, stG st, edsG es]).dep < 9 := by
      have h1 := sch_dep s
      have h2 := st_dep st
      have h3 := eds_dep es
      simp only [G.dep, depL]
      omega
    refine ⟨_, _, _, rfl, g3, dp3, fun B DB H7 gB s7 fB ndB => ?_⟩
    have V6 : ScV H6 S s := ⟨A6.sk, A6.ds, A6.nm, tv, by omega⟩
    have s67 := sP.trans s7
    have tpm : ∀ {H' : Hp}, Same H6 H' → TpL H' xs (es.map edD) := fun s => hE.mono (KeepT.of s)
    have stayG : ∀ {H' : Hp} {P1 : Addr}, Same H7 H' → H' P1 = none → ∃ D, Gp (upd H' P1 (.lst [.ref S, .ref T, .ref L])) (.ref P1) (.l [schG s, stG st, edsG es]) D ∧ ∀ b ∈ D, b ∉ DB := fun {H' P1} s' h1 => by
      have sq := same_new h1 (.lst [.ref S, .ref T, .ref L])
      have sa := (s67.trans s').trans sq
      refine ⟨_, three_g upd_same (gS.mono sa) (gT.mono sa) (gE.mono sa), fun b hb hy => ?_⟩
      rcases List.mem_cons.mp hb with rfl | hb
      · exact (gB.mono s').there b hy h1
      · exact g3.there b (List.mem_cons_of_mem _ hb) (fB b hy)
    refine ⟨_, rfl, _, rfl, _, rfl, S, s, T, st, L, es, xs, 5, rfl, V6.mono s67, B6.mono s67, W, MS, by omega, by omega, s67 _ _ hL, tpm s67, hok, fun m hm Te se re H8 Be eme fre hre s8 => ?_, fun code i hc re H8 hre s8 => ?_⟩
    · obtain ⟨MSm, Wm, lm⟩ := run_sc tnd (apply_run hm) MS W hok
      have lm6 : m.length ≤ 6 := by rw [lm, stM_len]; exact stl
      refine ⟨1, rfl, (by show 3 ≤ sizeLine; decide), fun p0 hp0 => ?_⟩
      have s9 := same_new hp0 (.tup [.non, .str "", .int (-1)])
      have s79 := s8.trans s9
      have s69 := s67.trans s79
      refine ⟨_, rfl, _, rfl, _, rfl, S, s, T, st, L, es, xs, 5, rfl, V6.mono s69, B6.mono s69, W, by omega, by omega, s69 _ _ hL, tpm s69, hok, fun m' hm' T1 st1 H10 N => ?_, fun code i hc => ?_⟩
      · rw [hm] at hm'
        cases hm'
        refine ⟨1, rfl, (by show 3 ≤ sizeLine; decide), fun pa hpa => ?_⟩
        have sa := same_new hpa (.tup [.ref T1, .str "", .int (-1)])
        have g1 := st_gm (N.at'.mono sa) N.md Wm MSm (by omega) (by omega)
        have ge9 := st_gm (Be.mono s9) eme Wm MSm (by omega) (by omega)
        have sb := N.se.trans sa
        refine ⟨_, rfl, _, rfl, _, _, _, _, _, rfl, trip_g upd_same g1 rfl rfl, trip_g (sb _ _ (s9 _ _ hre)) (ge9.mono sb) rfl rfl, fun b hb hy => ?_, trip_dep N.md, _, rfl, iteT ?_⟩
        · simp only [List.append_nil] at hb hy
          rcases List.mem_cons.mp hb with rfl | hb
          · exact ge9.there _ hy N.fT
          · obtain ⟨q', h1, rfl⟩ := List.mem_map.mp hb
            exact ge9.there _ hy (N.fd q' h1).1
        refine ⟨_, rfl, _, rfl, _, rfl, (by show 3 ≤ sizeLine; decide), fun P1 hP1 => ?_⟩
        obtain ⟨D, gN, dN⟩ := stayG (s79.trans sb) hP1
        exact ⟨_, rfl, _, _, _, _, _, rfl, gN, gB.mono ((s79.trans sb).trans (same_new hP1 _)), dN, dp3, q _⟩
      · rw [hm] at hc
        cases hc
    · refine ⟨1, rfl, (by show 3 ≤ sizeLine; decide), fun p0 hp0 => ?_⟩
      have s9 := same_new hp0 (.tup [.non, .str "", .int (-1)])
      have s79 := s8.trans s9
      have s69 := s67.trans s79
      refine ⟨_, rfl, _, rfl, _, rfl, S, s, T, st, L, es, xs, 5, rfl, V6.mono s69, B6.mono s69, W, by omega, by omega, s69 _ _ hL, tpm s69, hok, fun m hm => ?_, fun code' i' hc' H10 d s10 hd => ?_⟩
      · rw [hc] at hm
        cases hm
      rw [hc] at hc'
      cases hc'
      refine ⟨true, e_EditError.c.te, fun _ ea hea => ?_, fun z => nomatch z⟩
      have e10 := same_new hd (.xd [("index", .int (i : Nat)), ("code", .str code)])
      refine ⟨_, rfl, _, _, rfl, rfl, rfl, upd_same, true, rfl, iteF ?_⟩
      refine ⟨_, rfl, _, _, rfl, rfl, rfl, upd_same, true, rfl, iteF ?_⟩
      refine ⟨_, rfl, rfl, rfl, d, _, .str code, rfl, upd_same, rfl, _, rfl, rfl, rfl, d, _, .int (i : Nat), rfl, upd_same, rfl, (by show 3 ≤ sizeLine; decide), fun pa hpa => ?_⟩
      have e11 := same_new hpa (.tup [.non, .str code, .int (i : Nat)])
      have sb := (s9.trans (s10.trans e10)).trans e11
      have gN3 : ∀ {H' : Hp} {p : Addr}, H' p = some (.tup [.non, .str code, .int (i : Nat)]) → Gp H' (.ref p) (.t [.s .non, .s (.str code), .s (.int (i : Nat))]) ([] ++ ([] ++ ([] ++ []))) := fun {H' p} h => trip_g h (.s rfl) rfl rfl
      refine ⟨_, rfl, _, rfl, _, _, _, _, _, rfl, gN3 upd_same, gN3 (sb _ _ hre), fun b hb => absurd hb (by simp), (by simp [G.dep, depL]), _, rfl, iteT ?_⟩
      refine ⟨_, rfl, _, rfl, _, rfl, (by show 3 ≤ sizeLine; decide), fun P1 hP1 => ?_⟩
      obtain ⟨D, gN, dN⟩ := stayG (s8.trans sb) hP1
      exact ⟨_, rfl, _, _, _, _, _, rfl, gN, gB.mono ((s8.trans sb).trans (same_new hP1 _)), dN, dp3, q _⟩)
end
end Lt
namespace Lt
open PySem L2 TL
open C8 (pss_cut)
theorem all_mkF {l : PySem.W.OpenLaw} {w : World} {K : PySem.W.Frag} {h : Heap} {mg : Str → Option Value} {fa : Addr} (X : K.In h) (G : h.Ns mainGlobals mg) (hfa : mg "law" = some (.ref fa)) (c : He.SaysE faL fnL K) (ex : exL K = true)
    : ∃ fd : FuncData, (∀ (s : Shared) (v : Value), BindsTo s fd ⟨[v], []⟩ [("script", v)]) ∧ ∀ base : Heap, K.In base → base.Ns mainGlobals mg → FnOk l.prog w K mg base CX0 19 fa fd ["script"] (spLaw K) := by
  have a_law_tape := He.glo_ok X G (c.fact 0 (f := .glo "_law_tape") (by rfl))
  have a_law_take := He.glo_ok X G (c.fact 1 (f := .glo "_law_take") (by rfl))
  have a_law_name := He.glo_ok X G (c.fact 2 (f := .glo "_law_name") (by rfl))
  have a_law_table := He.glo_ok X G (c.fact 3 (f := .glo "_law_table") (by rfl))
  have a_law_columns := He.glo_ok X G (c.fact 4 (f := .glo "_law_columns") (by rfl))
  have a_law_names := He.glo_ok X G (c.fact 5 (f := .glo "_law_names") (by rfl))
  have a_law_integer := He.glo_ok X G (c.fact 6 (f := .glo "_law_integer") (by rfl))
  have a_law_char := He.glo_ok X G (c.fact 7 (f := .glo "_law_char") (by rfl))
  have a_law_text := He.glo_ok X G (c.fact 8 (f := .glo "_law_text") (by rfl))
  have a_law_value := He.glo_ok X G (c.fact 9 (f := .glo "_law_value") (by rfl))
  have a_law_clause := He.glo_ok X G (c.fact 10 (f := .glo "_law_clause") (by rfl))
  have a_law_condition := He.glo_ok X G (c.fact 11 (f := .glo "_law_condition") (by rfl))
  have a_law_limits := He.glo_ok X G (c.fact 12 (f := .glo "_law_limits") (by rfl))
  have a_law_schema := He.glo_ok X G (c.fact 13 (f := .glo "_law_schema") (by rfl))
  have a_law_rest := He.glo_ok X G (c.fact 14 (f := .glo "_law_rest") (by rfl))
  have a_law_rows := He.glo_ok X G (c.fact 15 (f := .glo "_law_rows") (by rfl))
  have a_law_state := He.glo_ok X G (c.fact 16 (f := .glo "_law_state") (by rfl))
  have a_law_copy := He.glo_ok X G (c.fact 17 (f := .glo "_law_copy") (by rfl))
  have a_law_some_key := He.glo_ok X G (c.fact 18 (f := .glo "_law_some_key") (by rfl))
  have a_law_edit := He.glo_ok X G (c.fact 19 (f := .glo "_law_edit") (by rfl))
  have a_law_key_of := He.glo_ok X G (c.fact 20 (f := .glo "_law_key_of") (by rfl))
  have a_law_right := He.glo_ok X G (c.fact 21 (f := .glo "_law_right") (by rfl))
  have a_law_do := He.glo_ok X G (c.fact 22 (f := .glo "_law_do") (by rfl))
  have a_law_write := He.glo_ok X G (c.fact 23 (f := .glo "_law_write") (by rfl))
  have a_law_spoil := He.glo_ok X G (c.fact 24 (f := .glo "_law_spoil") (by rfl))
  have a_law_value_fits := He.glo_ok X G (c.fact 25 (f := .glo "_law_value_fits") (by rfl))
  have a_law_row_fits := He.glo_ok X G (c.fact 26 (f := .glo "_law_row_fits") (by rfl))
  have a_law_code := He.glo_ok X G (c.fact 27 (f := .glo "_law_code") (by rfl))
  have a_law_expected := He.glo_ok X G (c.fact 28 (f := .glo "_law_expected") (by rfl))
  have a_copy_state := He.glo_ok X G (c.fact 29 (f := .glo "copy_state") (by rfl))
  have a_kind_of := He.glo_ok X G (c.fact 30 (f := .glo "kind_of") (by rfl))
  have a_is_text_code := He.glo_ok X G (c.fact 31 (f := .glo "is_text_code") (by rfl))
  have a_is_text_character := He.glo_ok X G (c.fact 32 (f := .glo "is_text_character") (by rfl))
  have a_is_text := He.glo_ok X G (c.fact 33 (f := .glo "is_text") (by rfl))
  have a_is_value := He.glo_ok X G (c.fact 34 (f := .glo "is_value") (by rfl))
  have a_fits_kind := He.glo_ok X G (c.fact 35 (f := .glo "fits_kind") (by rfl))
  have a_fits_columns := He.glo_ok X G (c.fact 36 (f := .glo "fits_columns") (by rfl))
  have a_column_names := He.glo_ok X G (c.fact 37 (f := .glo "column_names") (by rfl))
  have a_is_other_column := He.glo_ok X G (c.fact 38 (f := .glo "is_other_column") (by rfl))
  have a_column_called := He.glo_ok X G (c.fact 39 (f := .glo "column_called") (by rfl))
  have a_fits_set := He.glo_ok X G (c.fact 40 (f := .glo "fits_set") (by rfl))
  have a_key_of := He.glo_ok X G (c.fact 41 (f := .glo "key_of") (by rfl))
  have a_fits_key := He.glo_ok X G (c.fact 42 (f := .glo "fits_key") (by rfl))
  have a_edit_code := He.glo_ok X G (c.fact 43 (f := .glo "edit_code") (by rfl))
  have a_with_value := He.glo_ok X G (c.fact 44 (f := .glo "with_value") (by rfl))
  have a_table_after := He.glo_ok X G (c.fact 45 (f := .glo "table_after") (by rfl))
  have a_apply_write := He.glo_ok X G (c.fact 46 (f := .glo "apply_write") (by rfl))
  have a_law_is_integer := He.glo_ok X G (c.fact 47 (f := .glo "_law_is_integer") (by rfl))
  have a_law_same_items := He.glo_ok X G (c.fact 48 (f := .glo "_law_same_items") (by rfl))
  have a_law_same := He.glo_ok X G (c.fact 49 (f := .glo "_law_same") (by rfl))
  have a_law := He.glo_ok X G (c.fact 50 (f := .glo "law") (by rfl))
  have e := hfa.symm.trans a_law
  cases e
  obtain ⟨oc_law_tape, od_law_tape, sl_law_tape, kV_law_tape, dc_law_tape, pm_law_tape, an_law_tape, cd_law_tape, ct_law_tape, l_law_tape, c_law_tape⟩ := c.def_ 0 (d := dF_law_tape) (by rfl)
  have F_law_tape := fun_mk (st := s_law_tape) (x := "_law_tape") (qual := "_law_tape") (f := He.ga K "_law_tape") l_law_tape c_law_tape (He.keep_ok (c.fact 53 (f := .keep "_law_tape") (by rfl)))
  have b_law_tape := F_law_tape.binds (ps := ["script"]) fun _ _ _ _ _ _ us hl => match us, hl with | [_], _ => rfl
  have n_law_tape : Kn K mg "_law_tape" s_law_tape ["script"] (He.ga K "_law_tape") _ := ⟨F_law_tape, b_law_tape, a_law_tape⟩
  obtain ⟨oc_law_take, od_law_take, sl_law_take, kV_law_take, dc_law_take, pm_law_take, an_law_take, cd_law_take, ct_law_take, l_law_take, c_law_take⟩ := c.def_ 1 (d := dF_law_take) (by rfl)
  have F_law_take := fun_mk (st := s_law_take) (x := "_law_take") (qual := "_law_take") (f := He.ga K "_law_take") l_law_take c_law_take (He.keep_ok (c.fact 54 (f := .keep "_law_take") (by rfl)))
  have b_law_take := F_law_take.binds (ps := ["tape", "many"]) fun _ _ _ _ _ _ us hl => match us, hl with | [_, _], _ => rfl
  have n_law_take : Kn K mg "_law_take" s_law_take ["tape", "many"] (He.ga K "_law_take") _ := ⟨F_law_take, b_law_take, a_law_take⟩
  obtain ⟨oc_law_name, od_law_name, sl_law_name, kV_law_name, dc_law_name, pm_law_name, an_law_name, cd_law_name, ct_law_name, l_law_name, c_law_name⟩ := c.def_ 2 (d := dF_law_name) (by rfl)
  have F_law_name := fun_mk (st := s_law_name) (x := "_law_name") (qual := "_law_name") (f := He.ga K "_law_name") l_law_name c_law_name (He.keep_ok (c.fact 55 (f := .keep "_law_name") (by rfl)))
  have b_law_name := F_law_name.binds (ps := ["tape", "used"]) fun _ _ _ _ _ _ us hl => match us, hl with | [_, _], _ => rfl
  have n_law_name : Kn K mg "_law_name" s_law_name ["tape", "used"] (He.ga K "_law_name") _ := ⟨F_law_name, b_law_name, a_law_name⟩
  obtain ⟨oc_law_table, od_law_table, sl_law_table, kV_law_table, dc_law_table, pm_law_table, an_law_table, cd_law_table, ct_law_table, l_law_table, c_law_table⟩ := c.def_ 3 (d := dF_law_table) (by rfl)
  have F_law_table := fun_mk (st := s_law_table) (x := "_law_table") (qual := "_law_table") (f := He.ga K "_law_table") l_law_table c_law_table (He.keep_ok (c.fact 56 (f := .keep "_law_table") (by rfl)))
  have b_law_table := F_law_table.binds (ps := ["columns"]) fun _ _ _ _ _ _ us hl => match us, hl with | [_], _ => rfl
  have n_law_table : Kn K mg "_law_table" s_law_table ["columns"] (He.ga K "_law_table") _ := ⟨F_law_table, b_law_table, a_law_table⟩
  obtain ⟨oc_law_columns, od_law_columns, sl_law_columns, kV_law_columns, dc_law_columns, pm_law_columns, an_law_columns, cd_law_columns, ct_law_columns, l_law_columns, c_law_columns⟩ := c.def_ 4 (d := dF_law_columns) (by rfl)
  have F_law_columns := fun_mk (st := s_law_columns) (x := "_law_columns") (qual := "_law_columns") (f := He.ga K "_law_columns") l_law_columns c_law_columns (He.keep_ok (c.fact 57 (f := .keep "_law_columns") (by rfl)))
  have b_law_columns := F_law_columns.binds (ps := ["tape", "used", "many"]) fun _ _ _ _ _ _ us hl => match us, hl with | [_, _, _], _ => rfl
  have n_law_columns : Kn K mg "_law_columns" s_law_columns ["tape", "used", "many"] (He.ga K "_law_columns") _ := ⟨F_law_columns, b_law_columns, a_law_columns⟩
  obtain ⟨oc_law_names, od_law_names, sl_law_names, kV_law_names, dc_law_names, pm_law_names, an_law_names, cd_law_names, ct_law_names, l_law_names, c_law_names⟩ := c.def_ 5 (d := dF_law_names) (by rfl)
  have F_law_names := fun_mk (st := s_law_names) (x := "_law_names") (qual := "_law_names") (f := He.ga K "_law_names") l_law_names c_law_names (He.keep_ok (c.fact 58 (f := .keep "_law_names") (by rfl)))
  have b_law_names := F_law_names.binds (ps := ["columns"]) fun _ _ _ _ _ _ us hl => match us, hl with | [_], _ => rfl
  have n_law_names : Kn K mg "_law_names" s_law_names ["columns"] (He.ga K "_law_names") _ := ⟨F_law_names, b_law_names, a_law_names⟩
  obtain ⟨oc_law_integer, od_law_integer, sl_law_integer, kV_law_integer, dc_law_integer, pm_law_integer, an_law_integer, cd_law_integer, ct_law_integer, l_law_integer, c_law_integer⟩ := c.def_ 6 (d := dF_law_integer) (by rfl)
  have F_law_integer := fun_mk (st := s_law_integer) (x := "_law_integer") (qual := "_law_integer") (f := He.ga K "_law_integer") l_law_integer c_law_integer (He.keep_ok (c.fact 59 (f := .keep "_law_integer") (by rfl)))
  have b_law_integer := F_law_integer.binds (ps := ["tape"]) fun _ _ _ _ _ _ us hl => match us, hl with | [_], _ => rfl
  have n_law_integer : Kn K mg "_law_integer" s_law_integer ["tape"] (He.ga K "_law_integer") _ := ⟨F_law_integer, b_law_integer, a_law_integer⟩
  obtain ⟨oc_law_char, od_law_char, sl_law_char, kV_law_char, dc_law_char, pm_law_char, an_law_char, cd_law_char, ct_law_char, l_law_char, c_law_char⟩ := c.def_ 7 (d := dF_law_char) (by rfl)
  have F_law_char := fun_mk (st := s_law_char) (x := "_law_char") (qual := "_law_char") (f := He.ga K "_law_char") l_law_char c_law_char (He.keep_ok (c.fact 60 (f := .keep "_law_char") (by rfl)))
  have b_law_char := F_law_char.binds (ps := ["tape"]) fun _ _ _ _ _ _ us hl => match us, hl with | [_], _ => rfl
  have n_law_char : Kn K mg "_law_char" s_law_char ["tape"] (He.ga K "_law_char") _ := ⟨F_law_char, b_law_char, a_law_char⟩
  obtain ⟨oc_law_text, od_law_text, sl_law_text, kV_law_text, dc_law_text, pm_law_text, an_law_text, cd_law_text, ct_law_text, l_law_text, c_law_text⟩ := c.def_ 8 (d := dF_law_text) (by rfl)
  have F_law_text := fun_mk (st := s_law_text) (x := "_law_text") (qual := "_law_text") (f := He.ga K "_law_text") l_law_text c_law_text (He.keep_ok (c.fact 61 (f := .keep "_law_text") (by rfl)))
  have b_law_text := F_law_text.binds (ps := ["tape"]) fun _ _ _ _ _ _ us hl => match us, hl with | [_], _ => rfl
  have n_law_text : Kn K mg "_law_text" s_law_text ["tape"] (He.ga K "_law_text") _ := ⟨F_law_text, b_law_text, a_law_text⟩
  obtain ⟨oc_law_value, od_law_value, sl_law_value, kV_law_value, dc_law_value, pm_law_value, an_law_value, cd_law_value, ct_law_value, l_law_value, c_law_value⟩ := c.def_ 9 (d := dF_law_value) (by rfl)
  have F_law_value := fun_mk (st := s_law_value) (x := "_law_value") (qual := "_law_value") (f := He.ga K "_law_value") l_law_value c_law_value (He.keep_ok (c.fact 62 (f := .keep "_law_value") (by rfl)))
  have b_law_value := F_law_value.binds (ps := ["tape", "kind", "nullable"]) fun _ _ _ _ _ _ us hl => match us, hl with | [_, _, _], _ => rfl
  have n_law_value : Kn K mg "_law_value" s_law_value ["tape", "kind", "nullable"] (He.ga K "_law_value") _ := ⟨F_law_value, b_law_value, a_law_value⟩
  obtain ⟨oc_law_clause, od_law_clause, sl_law_clause, kV_law_clause, dc_law_clause, pm_law_clause, an_law_clause, cd_law_clause, ct_law_clause, l_law_clause, c_law_clause⟩ := c.def_ 10 (d := dF_law_clause) (by rfl)
  have F_law_clause := fun_mk (st := s_law_clause) (x := "_law_clause") (qual := "_law_clause") (f := He.ga K "_law_clause") l_law_clause c_law_clause (He.keep_ok (c.fact 63 (f := .keep "_law_clause") (by rfl)))
  have b_law_clause := F_law_clause.binds (ps := ["tape", "columns"]) fun _ _ _ _ _ _ us hl => match us, hl with | [_, _], _ => rfl
  have n_law_clause : Kn K mg "_law_clause" s_law_clause ["tape", "columns"] (He.ga K "_law_clause") _ := ⟨F_law_clause, b_law_clause, a_law_clause⟩
  obtain ⟨oc_law_condition, od_law_condition, sl_law_condition, kV_law_condition, dc_law_condition, pm_law_condition, an_law_condition, cd_law_condition, ct_law_condition, l_law_condition, c_law_condition⟩ := c.def_ 11 (d := dF_law_condition) (by rfl)
  have F_law_condition := fun_mk (st := s_law_condition) (x := "_law_condition") (qual := "_law_condition") (f := He.ga K "_law_condition") l_law_condition c_law_condition (He.keep_ok (c.fact 64 (f := .keep "_law_condition") (by rfl)))
  have b_law_condition := F_law_condition.binds (ps := ["tape", "columns"]) fun _ _ _ _ _ _ us hl => match us, hl with | [_, _], _ => rfl
  have n_law_condition : Kn K mg "_law_condition" s_law_condition ["tape", "columns"] (He.ga K "_law_condition") _ := ⟨F_law_condition, b_law_condition, a_law_condition⟩
  obtain ⟨oc_law_limits, od_law_limits, sl_law_limits, kV_law_limits, dc_law_limits, pm_law_limits, an_law_limits, cd_law_limits, ct_law_limits, l_law_limits, c_law_limits⟩ := c.def_ 12 (d := dF_law_limits) (by rfl)
  have F_law_limits := fun_mk (st := s_law_limits) (x := "_law_limits") (qual := "_law_limits") (f := He.ga K "_law_limits") l_law_limits c_law_limits (He.keep_ok (c.fact 65 (f := .keep "_law_limits") (by rfl)))
  have b_law_limits := F_law_limits.binds (ps := ["tape", "schema", "table"]) fun _ _ _ _ _ _ us hl => match us, hl with | [_, _, _], _ => rfl
  have n_law_limits : Kn K mg "_law_limits" s_law_limits ["tape", "schema", "table"] (He.ga K "_law_limits") _ := ⟨F_law_limits, b_law_limits, a_law_limits⟩
  obtain ⟨oc_law_schema, od_law_schema, sl_law_schema, kV_law_schema, dc_law_schema, pm_law_schema, an_law_schema, cd_law_schema, ct_law_schema, l_law_schema, c_law_schema⟩ := c.def_ 13 (d := dF_law_schema) (by rfl)
  have F_law_schema := fun_mk (st := s_law_schema) (x := "_law_schema") (qual := "_law_schema") (f := He.ga K "_law_schema") l_law_schema c_law_schema (He.keep_ok (c.fact 66 (f := .keep "_law_schema") (by rfl)))
  have b_law_schema := F_law_schema.binds (ps := ["tape", "least", "most"]) fun _ _ _ _ _ _ us hl => match us, hl with | [_, _, _], _ => rfl
  have n_law_schema : Kn K mg "_law_schema" s_law_schema ["tape", "least", "most"] (He.ga K "_law_schema") _ := ⟨F_law_schema, b_law_schema, a_law_schema⟩
  obtain ⟨oc_law_rest, od_law_rest, sl_law_rest, kV_law_rest, dc_law_rest, pm_law_rest, an_law_rest, cd_law_rest, ct_law_rest, l_law_rest, c_law_rest⟩ := c.def_ 14 (d := dF_law_rest) (by rfl)
  have F_law_rest := fun_mk (st := s_law_rest) (x := "_law_rest") (qual := "_law_rest") (f := He.ga K "_law_rest") l_law_rest c_law_rest (He.keep_ok (c.fact 67 (f := .keep "_law_rest") (by rfl)))
  have b_law_rest := F_law_rest.binds (ps := ["tape", "columns"]) fun _ _ _ _ _ _ us hl => match us, hl with | [_, _], _ => rfl
  have n_law_rest : Kn K mg "_law_rest" s_law_rest ["tape", "columns"] (He.ga K "_law_rest") _ := ⟨F_law_rest, b_law_rest, a_law_rest⟩
  obtain ⟨oc_law_rows, od_law_rows, sl_law_rows, kV_law_rows, dc_law_rows, pm_law_rows, an_law_rows, cd_law_rows, ct_law_rows, l_law_rows, c_law_rows⟩ := c.def_ 15 (d := dF_law_rows) (by rfl)
  have F_law_rows := fun_mk (st := s_law_rows) (x := "_law_rows") (qual := "_law_rows") (f := He.ga K "_law_rows") l_law_rows c_law_rows (He.keep_ok (c.fact 68 (f := .keep "_law_rows") (by rfl)))
  have b_law_rows := F_law_rows.binds (ps := ["tape", "columns", "most"]) fun _ _ _ _ _ _ us hl => match us, hl with | [_, _, _], _ => rfl
  have n_law_rows : Kn K mg "_law_rows" s_law_rows ["tape", "columns", "most"] (He.ga K "_law_rows") _ := ⟨F_law_rows, b_law_rows, a_law_rows⟩
  obtain ⟨oc_law_state, od_law_state, sl_law_state, kV_law_state, dc_law_state, pm_law_state, an_law_state, cd_law_state, ct_law_state, l_law_state, c_law_state⟩ := c.def_ 16 (d := dF_law_state) (by rfl)
  have F_law_state := fun_mk (st := s_law_state) (x := "_law_state") (qual := "_law_state") (f := He.ga K "_law_state") l_law_state c_law_state (He.keep_ok (c.fact 69 (f := .keep "_law_state") (by rfl)))
  have b_law_state := F_law_state.binds (ps := ["tape", "schema", "most"]) fun _ _ _ _ _ _ us hl => match us, hl with | [_, _, _], _ => rfl
  have n_law_state : Kn K mg "_law_state" s_law_state ["tape", "schema", "most"] (He.ga K "_law_state") _ := ⟨F_law_state, b_law_state, a_law_state⟩
  obtain ⟨oc_law_copy, od_law_copy, sl_law_copy, kV_law_copy, dc_law_copy, pm_law_copy, an_law_copy, cd_law_copy, ct_law_copy, l_law_copy, c_law_copy⟩ := c.def_ 17 (d := dF_law_copy) (by rfl)
  have F_law_copy := fun_mk (st := s_law_copy) (x := "_law_copy") (qual := "_law_copy") (f := He.ga K "_law_copy") l_law_copy c_law_copy (He.keep_ok (c.fact 70 (f := .keep "_law_copy") (by rfl)))
  have b_law_copy := F_law_copy.binds (ps := ["thing"]) fun _ _ _ _ _ _ us hl => match us, hl with | [_], _ => rfl
  have n_law_copy : Kn K mg "_law_copy" s_law_copy ["thing"] (He.ga K "_law_copy") _ := ⟨F_law_copy, b_law_copy, a_law_copy⟩
  obtain ⟨oc_law_some_key, od_law_some_key, sl_law_some_key, kV_law_some_key, dc_law_some_key, pm_law_some_key, an_law_some_key, cd_law_some_key, ct_law_some_key, l_law_some_key, c_law_some_key⟩ := c.def_ 18 (d := dF_law_some_key) (by rfl)
  have F_law_some_key := fun_mk (st := s_law_some_key) (x := "_law_some_key") (qual := "_law_some_key") (f := He.ga K "_law_some_key") l_law_some_key c_law_some_key (He.keep_ok (c.fact 71 (f := .keep "_law_some_key") (by rfl)))
  have b_law_some_key := F_law_some_key.binds (ps := ["tape", "rows", "columns"]) fun _ _ _ _ _ _ us hl => match us, hl with | [_, _, _], _ => rfl
  have n_law_some_key : Kn K mg "_law_some_key" s_law_some_key ["tape", "rows", "columns"] (He.ga K "_law_some_key") _ := ⟨F_law_some_key, b_law_some_key, a_law_some_key⟩
  obtain ⟨oc_law_edit, od_law_edit, sl_law_edit, kV_law_edit, dc_law_edit, pm_law_edit, an_law_edit, cd_law_edit, ct_law_edit, l_law_edit, c_law_edit⟩ := c.def_ 19 (d := dF_law_edit) (by rfl)
  have F_law_edit := fun_mk (st := s_law_edit) (x := "_law_edit") (qual := "_law_edit") (f := He.ga K "_law_edit") l_law_edit c_law_edit (He.keep_ok (c.fact 72 (f := .keep "_law_edit") (by rfl)))
  have b_law_edit := F_law_edit.binds (ps := ["tape", "schema", "state"]) fun _ _ _ _ _ _ us hl => match us, hl with | [_, _, _], _ => rfl
  have n_law_edit : Kn K mg "_law_edit" s_law_edit ["tape", "schema", "state"] (He.ga K "_law_edit") _ := ⟨F_law_edit, b_law_edit, a_law_edit⟩
  obtain ⟨oc_law_key_of, od_law_key_of, sl_law_key_of, kV_law_key_of, dc_law_key_of, pm_law_key_of, an_law_key_of, cd_law_key_of, ct_law_key_of, l_law_key_of, c_law_key_of⟩ := c.def_ 20 (d := dF_law_key_of) (by rfl)
  have F_law_key_of := fun_mk (st := s_law_key_of) (x := "_law_key_of") (qual := "_law_key_of") (f := He.ga K "_law_key_of") l_law_key_of c_law_key_of (He.keep_ok (c.fact 73 (f := .keep "_law_key_of") (by rfl)))
  have b_law_key_of := F_law_key_of.binds (ps := ["edit"]) fun _ _ _ _ _ _ us hl => match us, hl with | [_], _ => rfl
  have n_law_key_of : Kn K mg "_law_key_of" s_law_key_of ["edit"] (He.ga K "_law_key_of") _ := ⟨F_law_key_of, b_law_key_of, a_law_key_of⟩
  obtain ⟨oc_law_right, od_law_right, sl_law_right, kV_law_right, dc_law_right, pm_law_right, an_law_right, cd_law_right, ct_law_right, l_law_right, c_law_right⟩ := c.def_ 21 (d := dF_law_right) (by rfl)
  have F_law_right := fun_mk (st := s_law_right) (x := "_law_right") (qual := "_law_right") (f := He.ga K "_law_right") l_law_right c_law_right (He.keep_ok (c.fact 74 (f := .keep "_law_right") (by rfl)))
  have b_law_right := F_law_right.binds (ps := ["state", "edit"]) fun _ _ _ _ _ _ us hl => match us, hl with | [_, _], _ => rfl
  have n_law_right : Kn K mg "_law_right" s_law_right ["state", "edit"] (He.ga K "_law_right") _ := ⟨F_law_right, b_law_right, a_law_right⟩
  obtain ⟨oc_law_do, od_law_do, sl_law_do, kV_law_do, dc_law_do, pm_law_do, an_law_do, cd_law_do, ct_law_do, l_law_do, c_law_do⟩ := c.def_ 22 (d := dF_law_do) (by rfl)
  have F_law_do := fun_mk (st := s_law_do) (x := "_law_do") (qual := "_law_do") (f := He.ga K "_law_do") l_law_do c_law_do (He.keep_ok (c.fact 75 (f := .keep "_law_do") (by rfl)))
  have b_law_do := F_law_do.binds (ps := ["schema", "state", "edit"]) fun _ _ _ _ _ _ us hl => match us, hl with | [_, _, _], _ => rfl
  have n_law_do : Kn K mg "_law_do" s_law_do ["schema", "state", "edit"] (He.ga K "_law_do") _ := ⟨F_law_do, b_law_do, a_law_do⟩
  obtain ⟨oc_law_write, od_law_write, sl_law_write, kV_law_write, dc_law_write, pm_law_write, an_law_write, cd_law_write, ct_law_write, l_law_write, c_law_write⟩ := c.def_ 23 (d := dF_law_write) (by rfl)
  have F_law_write := fun_mk (st := s_law_write) (x := "_law_write") (qual := "_law_write") (f := He.ga K "_law_write") l_law_write c_law_write (He.keep_ok (c.fact 76 (f := .keep "_law_write") (by rfl)))
  have b_law_write := F_law_write.binds (ps := ["tape", "schema", "state", "most"]) fun _ _ _ _ _ _ us hl => match us, hl with | [_, _, _, _], _ => rfl
  have n_law_write : Kn K mg "_law_write" s_law_write ["tape", "schema", "state", "most"] (He.ga K "_law_write") _ := ⟨F_law_write, b_law_write, a_law_write⟩
  obtain ⟨oc_law_spoil, od_law_spoil, sl_law_spoil, kV_law_spoil, dc_law_spoil, pm_law_spoil, an_law_spoil, cd_law_spoil, ct_law_spoil, l_law_spoil, c_law_spoil⟩ := c.def_ 24 (d := dF_law_spoil) (by rfl)
  have F_law_spoil := fun_mk (st := s_law_spoil) (x := "_law_spoil") (qual := "_law_spoil") (f := He.ga K "_law_spoil") l_law_spoil c_law_spoil (He.keep_ok (c.fact 77 (f := .keep "_law_spoil") (by rfl)))
  have b_law_spoil := F_law_spoil.binds (ps := ["tape", "edit"]) fun _ _ _ _ _ _ us hl => match us, hl with | [_, _], _ => rfl
  have n_law_spoil : Kn K mg "_law_spoil" s_law_spoil ["tape", "edit"] (He.ga K "_law_spoil") _ := ⟨F_law_spoil, b_law_spoil, a_law_spoil⟩
  obtain ⟨oc_law_value_fits, od_law_value_fits, sl_law_value_fits, kV_law_value_fits, dc_law_value_fits, pm_law_value_fits, an_law_value_fits, cd_law_value_fits, ct_law_value_fits, l_law_value_fits, c_law_value_fits⟩ := c.def_ 25 (d := dF_law_value_fits) (by rfl)
  have F_law_value_fits := fun_mk (st := s_law_value_fits) (x := "_law_value_fits") (qual := "_law_value_fits") (f := He.ga K "_law_value_fits") l_law_value_fits c_law_value_fits (He.keep_ok (c.fact 78 (f := .keep "_law_value_fits") (by rfl)))
  have b_law_value_fits := F_law_value_fits.binds (ps := ["value", "column"]) fun _ _ _ _ _ _ us hl => match us, hl with | [_, _], _ => rfl
  have n_law_value_fits : Kn K mg "_law_value_fits" s_law_value_fits ["value", "column"] (He.ga K "_law_value_fits") _ := ⟨F_law_value_fits, b_law_value_fits, a_law_value_fits⟩
  obtain ⟨oc_law_row_fits, od_law_row_fits, sl_law_row_fits, kV_law_row_fits, dc_law_row_fits, pm_law_row_fits, an_law_row_fits, cd_law_row_fits, ct_law_row_fits, l_law_row_fits, c_law_row_fits⟩ := c.def_ 26 (d := dF_law_row_fits) (by rfl)
  have F_law_row_fits := fun_mk (st := s_law_row_fits) (x := "_law_row_fits") (qual := "_law_row_fits") (f := He.ga K "_law_row_fits") l_law_row_fits c_law_row_fits (He.keep_ok (c.fact 79 (f := .keep "_law_row_fits") (by rfl)))
  have b_law_row_fits := F_law_row_fits.binds (ps := ["columns", "row"]) fun _ _ _ _ _ _ us hl => match us, hl with | [_, _], _ => rfl
  have n_law_row_fits : Kn K mg "_law_row_fits" s_law_row_fits ["columns", "row"] (He.ga K "_law_row_fits") _ := ⟨F_law_row_fits, b_law_row_fits, a_law_row_fits⟩
  obtain ⟨oc_law_code, od_law_code, sl_law_code, kV_law_code, dc_law_code, pm_law_code, an_law_code, cd_law_code, ct_law_code, l_law_code, c_law_code⟩ := c.def_ 27 (d := dF_law_code) (by rfl)
  have F_law_code := fun_mk (st := s_law_code) (x := "_law_code") (qual := "_law_code") (f := He.ga K "_law_code") l_law_code c_law_code (He.keep_ok (c.fact 80 (f := .keep "_law_code") (by rfl)))
  have b_law_code := F_law_code.binds (ps := ["schema", "state", "edit"]) fun _ _ _ _ _ _ us hl => match us, hl with | [_, _, _], _ => rfl
  have n_law_code : Kn K mg "_law_code" s_law_code ["schema", "state", "edit"] (He.ga K "_law_code") _ := ⟨F_law_code, b_law_code, a_law_code⟩
  obtain ⟨oc_law_expected, od_law_expected, sl_law_expected, kV_law_expected, dc_law_expected, pm_law_expected, an_law_expected, cd_law_expected, ct_law_expected, l_law_expected, c_law_expected⟩ := c.def_ 28 (d := dF_law_expected) (by rfl)
  have F_law_expected := fun_mk (st := s_law_expected) (x := "_law_expected") (qual := "_law_expected") (f := He.ga K "_law_expected") l_law_expected c_law_expected (He.keep_ok (c.fact 81 (f := .keep "_law_expected") (by rfl)))
  have b_law_expected := F_law_expected.binds (ps := ["schema", "state", "edits"]) fun _ _ _ _ _ _ us hl => match us, hl with | [_, _, _], _ => rfl
  have n_law_expected : Kn K mg "_law_expected" s_law_expected ["schema", "state", "edits"] (He.ga K "_law_expected") _ := ⟨F_law_expected, b_law_expected, a_law_expected⟩
  obtain ⟨oc_copy_state, od_copy_state, sl_copy_state, kV_copy_state, dc_copy_state, pm_copy_state, an_copy_state, cd_copy_state, ct_copy_state, l_copy_state, c_copy_state⟩ := c.def_ 29 (d := dF_copy_state) (by rfl)
  have F_copy_state := fun_mk (st := s_copy_state) (x := "copy_state") (qual := "copy_state") (f := He.ga K "copy_state") l_copy_state c_copy_state (He.keep_ok (c.fact 82 (f := .keep "copy_state") (by rfl)))
  have b_copy_state := F_copy_state.binds (ps := ["state"]) fun _ _ _ _ _ _ us hl => match us, hl with | [_], _ => rfl
  have n_copy_state : Kn K mg "copy_state" s_copy_state ["state"] (He.ga K "copy_state") _ := ⟨F_copy_state, b_copy_state, a_copy_state⟩
  obtain ⟨oc_kind_of, od_kind_of, sl_kind_of, kV_kind_of, dc_kind_of, pm_kind_of, an_kind_of, cd_kind_of, ct_kind_of, l_kind_of, c_kind_of⟩ := c.def_ 30 (d := dF_kind_of) (by rfl)
  have F_kind_of := fun_mk (st := s_kind_of) (x := "kind_of") (qual := "kind_of") (f := He.ga K "kind_of") l_kind_of c_kind_of (He.keep_ok (c.fact 83 (f := .keep "kind_of") (by rfl)))
  have b_kind_of := F_kind_of.binds (ps := ["value"]) fun _ _ _ _ _ _ us hl => match us, hl with | [_], _ => rfl
  have n_kind_of : Kn K mg "kind_of" s_kind_of ["value"] (He.ga K "kind_of") _ := ⟨F_kind_of, b_kind_of, a_kind_of⟩
  obtain ⟨oc_is_text_code, od_is_text_code, sl_is_text_code, kV_is_text_code, dc_is_text_code, pm_is_text_code, an_is_text_code, cd_is_text_code, ct_is_text_code, l_is_text_code, c_is_text_code⟩ := c.def_ 31 (d := dF_is_text_code) (by rfl)
  have F_is_text_code := fun_mk (st := s_is_text_code) (x := "is_text_code") (qual := "is_text_code") (f := He.ga K "is_text_code") l_is_text_code c_is_text_code (He.keep_ok (c.fact 84 (f := .keep "is_text_code") (by rfl)))
  have b_is_text_code := F_is_text_code.binds (ps := ["code"]) fun _ _ _ _ _ _ us hl => match us, hl with | [_], _ => rfl
  have n_is_text_code : Kn K mg "is_text_code" s_is_text_code ["code"] (He.ga K "is_text_code") _ := ⟨F_is_text_code, b_is_text_code, a_is_text_code⟩
  obtain ⟨oc_is_text_character, od_is_text_character, sl_is_text_character, kV_is_text_character, dc_is_text_character, pm_is_text_character, an_is_text_character, cd_is_text_character, ct_is_text_character, l_is_text_character, c_is_text_character⟩ := c.def_ 32 (d := dF_is_text_character) (by rfl)
  have F_is_text_character := fun_mk (st := s_is_text_character) (x := "is_text_character") (qual := "is_text_character") (f := He.ga K "is_text_character") l_is_text_character c_is_text_character (He.keep_ok (c.fact 85 (f := .keep "is_text_character") (by rfl)))
  have b_is_text_character := F_is_text_character.binds (ps := ["character"]) fun _ _ _ _ _ _ us hl => match us, hl with | [_], _ => rfl
  have n_is_text_character : Kn K mg "is_text_character" s_is_text_character ["character"] (He.ga K "is_text_character") _ := ⟨F_is_text_character, b_is_text_character, a_is_text_character⟩
  obtain ⟨oc_is_text, od_is_text, sl_is_text, kV_is_text, dc_is_text, pm_is_text, an_is_text, cd_is_text, ct_is_text, l_is_text, c_is_text⟩ := c.def_ 33 (d := dF_is_text) (by rfl)
  have F_is_text := fun_mk (st := s_is_text) (x := "is_text") (qual := "is_text") (f := He.ga K "is_text") l_is_text c_is_text (He.keep_ok (c.fact 86 (f := .keep "is_text") (by rfl)))
  have b_is_text := F_is_text.binds (ps := ["thing"]) fun _ _ _ _ _ _ us hl => match us, hl with | [_], _ => rfl
  have n_is_text : Kn K mg "is_text" s_is_text ["thing"] (He.ga K "is_text") _ := ⟨F_is_text, b_is_text, a_is_text⟩
  obtain ⟨oc_is_value, od_is_value, sl_is_value, kV_is_value, dc_is_value, pm_is_value, an_is_value, cd_is_value, ct_is_value, l_is_value, c_is_value⟩ := c.def_ 34 (d := dF_is_value) (by rfl)
  have F_is_value := fun_mk (st := s_is_value) (x := "is_value") (qual := "is_value") (f := He.ga K "is_value") l_is_value c_is_value (He.keep_ok (c.fact 87 (f := .keep "is_value") (by rfl)))
  have b_is_value := F_is_value.binds (ps := ["thing"]) fun _ _ _ _ _ _ us hl => match us, hl with | [_], _ => rfl
  have n_is_value : Kn K mg "is_value" s_is_value ["thing"] (He.ga K "is_value") _ := ⟨F_is_value, b_is_value, a_is_value⟩
  obtain ⟨oc_fits_kind, od_fits_kind, sl_fits_kind, kV_fits_kind, dc_fits_kind, pm_fits_kind, an_fits_kind, cd_fits_kind, ct_fits_kind, l_fits_kind, c_fits_kind⟩ := c.def_ 35 (d := dF_fits_kind) (by rfl)
  have F_fits_kind := fun_mk (st := s_fits_kind) (x := "fits_kind") (qual := "fits_kind") (f := He.ga K "fits_kind") l_fits_kind c_fits_kind (He.keep_ok (c.fact 88 (f := .keep "fits_kind") (by rfl)))
  have b_fits_kind := F_fits_kind.binds (ps := ["thing", "kind", "nullable"]) fun _ _ _ _ _ _ us hl => match us, hl with | [_, _, _], _ => rfl
  have n_fits_kind : Kn K mg "fits_kind" s_fits_kind ["thing", "kind", "nullable"] (He.ga K "fits_kind") _ := ⟨F_fits_kind, b_fits_kind, a_fits_kind⟩
  obtain ⟨oc_fits_columns, od_fits_columns, sl_fits_columns, kV_fits_columns, dc_fits_columns, pm_fits_columns, an_fits_columns, cd_fits_columns, ct_fits_columns, l_fits_columns, c_fits_columns⟩ := c.def_ 36 (d := dF_fits_columns) (by rfl)
  have F_fits_columns := fun_mk (st := s_fits_columns) (x := "fits_columns") (qual := "fits_columns") (f := He.ga K "fits_columns") l_fits_columns c_fits_columns (He.keep_ok (c.fact 89 (f := .keep "fits_columns") (by rfl)))
  have b_fits_columns := F_fits_columns.binds (ps := ["row", "columns"]) fun _ _ _ _ _ _ us hl => match us, hl with | [_, _], _ => rfl
  have n_fits_columns : Kn K mg "fits_columns" s_fits_columns ["row", "columns"] (He.ga K "fits_columns") _ := ⟨F_fits_columns, b_fits_columns, a_fits_columns⟩
  obtain ⟨oc_column_names, od_column_names, sl_column_names, kV_column_names, dc_column_names, pm_column_names, an_column_names, cd_column_names, ct_column_names, l_column_names, c_column_names⟩ := c.def_ 37 (d := dF_column_names) (by rfl)
  have F_column_names := fun_mk (st := s_column_names) (x := "column_names") (qual := "column_names") (f := He.ga K "column_names") l_column_names c_column_names (He.keep_ok (c.fact 90 (f := .keep "column_names") (by rfl)))
  have b_column_names := F_column_names.binds (ps := ["description"]) fun _ _ _ _ _ _ us hl => match us, hl with | [_], _ => rfl
  have n_column_names : Kn K mg "column_names" s_column_names ["description"] (He.ga K "column_names") _ := ⟨F_column_names, b_column_names, a_column_names⟩
  obtain ⟨oc_is_other_column, od_is_other_column, sl_is_other_column, kV_is_other_column, dc_is_other_column, pm_is_other_column, an_is_other_column, cd_is_other_column, ct_is_other_column, l_is_other_column, c_is_other_column⟩ := c.def_ 38 (d := dF_is_other_column) (by rfl)
  have F_is_other_column := fun_mk (st := s_is_other_column) (x := "is_other_column") (qual := "is_other_column") (f := He.ga K "is_other_column") l_is_other_column c_is_other_column (He.keep_ok (c.fact 91 (f := .keep "is_other_column") (by rfl)))
  have b_is_other_column := F_is_other_column.binds (ps := ["description", "name"]) fun _ _ _ _ _ _ us hl => match us, hl with | [_, _], _ => rfl
  have n_is_other_column : Kn K mg "is_other_column" s_is_other_column ["description", "name"] (He.ga K "is_other_column") _ := ⟨F_is_other_column, b_is_other_column, a_is_other_column⟩
  obtain ⟨oc_column_called, od_column_called, sl_column_called, kV_column_called, dc_column_called, pm_column_called, an_column_called, cd_column_called, ct_column_called, l_column_called, c_column_called⟩ := c.def_ 39 (d := dF_column_called) (by rfl)
  have F_column_called := fun_mk (st := s_column_called) (x := "column_called") (qual := "column_called") (f := He.ga K "column_called") l_column_called c_column_called (He.keep_ok (c.fact 92 (f := .keep "column_called") (by rfl)))
  have b_column_called := F_column_called.binds (ps := ["description", "name"]) fun _ _ _ _ _ _ us hl => match us, hl with | [_, _], _ => rfl
  have n_column_called : Kn K mg "column_called" s_column_called ["description", "name"] (He.ga K "column_called") _ := ⟨F_column_called, b_column_called, a_column_called⟩
  obtain ⟨oc_fits_set, od_fits_set, sl_fits_set, kV_fits_set, dc_fits_set, pm_fits_set, an_fits_set, cd_fits_set, ct_fits_set, l_fits_set, c_fits_set⟩ := c.def_ 40 (d := dF_fits_set) (by rfl)
  have F_fits_set := fun_mk (st := s_fits_set) (x := "fits_set") (qual := "fits_set") (f := He.ga K "fits_set") l_fits_set c_fits_set (He.keep_ok (c.fact 93 (f := .keep "fits_set") (by rfl)))
  have b_fits_set := F_fits_set.binds (ps := ["description", "column", "value"]) fun _ _ _ _ _ _ us hl => match us, hl with | [_, _, _], _ => rfl
  have n_fits_set : Kn K mg "fits_set" s_fits_set ["description", "column", "value"] (He.ga K "fits_set") _ := ⟨F_fits_set, b_fits_set, a_fits_set⟩
  obtain ⟨oc_key_of, od_key_of, sl_key_of, kV_key_of, dc_key_of, pm_key_of, an_key_of, cd_key_of, ct_key_of, l_key_of, c_key_of⟩ := c.def_ 41 (d := dF_key_of) (by rfl)
  have F_key_of := fun_mk (st := s_key_of) (x := "key_of") (qual := "key_of") (f := He.ga K "key_of") l_key_of c_key_of (He.keep_ok (c.fact 94 (f := .keep "key_of") (by rfl)))
  have b_key_of := F_key_of.binds (ps := ["edit"]) fun _ _ _ _ _ _ us hl => match us, hl with | [_], _ => rfl
  have n_key_of : Kn K mg "key_of" s_key_of ["edit"] (He.ga K "key_of") _ := ⟨F_key_of, b_key_of, a_key_of⟩
  obtain ⟨oc_fits_key, od_fits_key, sl_fits_key, kV_fits_key, dc_fits_key, pm_fits_key, an_fits_key, cd_fits_key, ct_fits_key, l_fits_key, c_fits_key⟩ := c.def_ 42 (d := dF_fits_key) (by rfl)
  have F_fits_key := fun_mk (st := s_fits_key) (x := "fits_key") (qual := "fits_key") (f := He.ga K "fits_key") l_fits_key c_fits_key (He.keep_ok (c.fact 95 (f := .keep "fits_key") (by rfl)))
  have b_fits_key := F_fits_key.binds (ps := ["description", "key"]) fun _ _ _ _ _ _ us hl => match us, hl with | [_, _], _ => rfl
  have n_fits_key : Kn K mg "fits_key" s_fits_key ["description", "key"] (He.ga K "fits_key") _ := ⟨F_fits_key, b_fits_key, a_fits_key⟩
  obtain ⟨oc_edit_code, od_edit_code, sl_edit_code, kV_edit_code, dc_edit_code, pm_edit_code, an_edit_code, cd_edit_code, ct_edit_code, l_edit_code, c_edit_code⟩ := c.def_ 43 (d := dF_edit_code) (by rfl)
  have F_edit_code := fun_mk (st := s_edit_code) (x := "edit_code") (qual := "edit_code") (f := He.ga K "edit_code") l_edit_code c_edit_code (He.keep_ok (c.fact 96 (f := .keep "edit_code") (by rfl)))
  have b_edit_code := F_edit_code.binds (ps := ["schema", "state", "edit"]) fun _ _ _ _ _ _ us hl => match us, hl with | [_, _, _], _ => rfl
  have n_edit_code : Kn K mg "edit_code" s_edit_code ["schema", "state", "edit"] (He.ga K "edit_code") _ := ⟨F_edit_code, b_edit_code, a_edit_code⟩
  obtain ⟨oc_with_value, od_with_value, sl_with_value, kV_with_value, dc_with_value, pm_with_value, an_with_value, cd_with_value, ct_with_value, l_with_value, c_with_value⟩ := c.def_ 44 (d := dF_with_value) (by rfl)
  have F_with_value := fun_mk (st := s_with_value) (x := "with_value") (qual := "with_value") (f := He.ga K "with_value") l_with_value c_with_value (He.keep_ok (c.fact 97 (f := .keep "with_value") (by rfl)))
  have b_with_value := F_with_value.binds (ps := ["description", "rest", "column", "value"]) fun _ _ _ _ _ _ us hl => match us, hl with | [_, _, _, _], _ => rfl
  have n_with_value : Kn K mg "with_value" s_with_value ["description", "rest", "column", "value"] (He.ga K "with_value") _ := ⟨F_with_value, b_with_value, a_with_value⟩
  obtain ⟨oc_table_after, od_table_after, sl_table_after, kV_table_after, dc_table_after, pm_table_after, an_table_after, cd_table_after, ct_table_after, l_table_after, c_table_after⟩ := c.def_ 45 (d := dF_table_after) (by rfl)
  have F_table_after := fun_mk (st := s_table_after) (x := "table_after") (qual := "table_after") (f := He.ga K "table_after") l_table_after c_table_after (He.keep_ok (c.fact 98 (f := .keep "table_after") (by rfl)))
  have b_table_after := F_table_after.binds (ps := ["description", "table_rows", "edit"]) fun _ _ _ _ _ _ us hl => match us, hl with | [_, _, _], _ => rfl
  have n_table_after : Kn K mg "table_after" s_table_after ["description", "table_rows", "edit"] (He.ga K "table_after") _ := ⟨F_table_after, b_table_after, a_table_after⟩
  obtain ⟨oc_apply_write, od_apply_write, sl_apply_write, kV_apply_write, dc_apply_write, pm_apply_write, an_apply_write, cd_apply_write, ct_apply_write, l_apply_write, c_apply_write⟩ := c.def_ 46 (d := dF_apply_write) (by rfl)
  have F_apply_write := fun_mk (st := s_apply_write) (x := "apply_write") (qual := "apply_write") (f := He.ga K "apply_write") l_apply_write c_apply_write (He.keep_ok (c.fact 99 (f := .keep "apply_write") (by rfl)))
  have b_apply_write := F_apply_write.binds (ps := ["schema", "state", "edits"]) fun _ _ _ _ _ _ us hl => match us, hl with | [_, _, _], _ => rfl
  have n_apply_write : Kn K mg "apply_write" s_apply_write ["schema", "state", "edits"] (He.ga K "apply_write") _ := ⟨F_apply_write, b_apply_write, a_apply_write⟩
  obtain ⟨oc_law_is_integer, od_law_is_integer, sl_law_is_integer, kV_law_is_integer, dc_law_is_integer, pm_law_is_integer, an_law_is_integer, cd_law_is_integer, ct_law_is_integer, l_law_is_integer, c_law_is_integer⟩ := c.def_ 47 (d := dF_law_is_integer) (by rfl)
  have F_law_is_integer := fun_mk (st := s_law_is_integer) (x := "_law_is_integer") (qual := "_law_is_integer") (f := He.ga K "_law_is_integer") l_law_is_integer c_law_is_integer (He.keep_ok (c.fact 100 (f := .keep "_law_is_integer") (by rfl)))
  have b_law_is_integer := F_law_is_integer.binds (ps := ["actual"]) fun _ _ _ _ _ _ us hl => match us, hl with | [_], _ => rfl
  have n_law_is_integer : Kn K mg "_law_is_integer" s_law_is_integer ["actual"] (He.ga K "_law_is_integer") _ := ⟨F_law_is_integer, b_law_is_integer, a_law_is_integer⟩
  obtain ⟨oc_law_same_items, od_law_same_items, sl_law_same_items, kV_law_same_items, dc_law_same_items, pm_law_same_items, an_law_same_items, cd_law_same_items, ct_law_same_items, l_law_same_items, c_law_same_items⟩ := c.def_ 48 (d := dF_law_same_items) (by rfl)
  have F_law_same_items := fun_mk (st := s_law_same_items) (x := "_law_same_items") (qual := "_law_same_items") (f := He.ga K "_law_same_items") l_law_same_items c_law_same_items (He.keep_ok (c.fact 101 (f := .keep "_law_same_items") (by rfl)))
  have b_law_same_items := F_law_same_items.binds (ps := ["actual", "expected"]) fun _ _ _ _ _ _ us hl => match us, hl with | [_, _], _ => rfl
  have n_law_same_items : Kn K mg "_law_same_items" s_law_same_items ["actual", "expected"] (He.ga K "_law_same_items") _ := ⟨F_law_same_items, b_law_same_items, a_law_same_items⟩
  obtain ⟨oc_law_same, od_law_same, sl_law_same, kV_law_same, dc_law_same, pm_law_same, an_law_same, cd_law_same, ct_law_same, l_law_same, c_law_same⟩ := c.def_ 49 (d := dF_law_same) (by rfl)
  have F_law_same := fun_mk (st := s_law_same) (x := "_law_same") (qual := "_law_same") (f := He.ga K "_law_same") l_law_same c_law_same (He.keep_ok (c.fact 102 (f := .keep "_law_same") (by rfl)))
  have b_law_same := F_law_same.binds (ps := ["actual", "expected"]) fun _ _ _ _ _ _ us hl => match us, hl with | [_, _], _ => rfl
  have n_law_same : Kn K mg "_law_same" s_law_same ["actual", "expected"] (He.ga K "_law_same") _ := ⟨F_law_same, b_law_same, a_law_same⟩
  obtain ⟨oc_law, od_law, sl_law, kV_law, dc_law, pm_law, an_law, cd_law, ct_law, l_law, c_law⟩ := c.def_ 50 (d := dF_law) (by rfl)
  have F_law := fun_mk (st := s_law) (x := "law") (qual := "law") (f := He.ga K "law") l_law c_law (He.keep_ok (c.fact 103 (f := .keep "law") (by rfl)))
  have b_law := F_law.binds (ps := ["script"]) fun _ _ _ _ _ _ us hl => match us, hl with | [_], _ => rfl
  have n_law : Kn K mg "law" s_law ["script"] (He.ga K "law") _ := ⟨F_law, b_law, a_law⟩
  unfold exL at ex
  obtain ⟨x0, ex⟩ := He.ba ex
  obtain ⟨x1, ex⟩ := He.ba ex
  have z : Z mg := ⟨He.free_ok X G (c.fact 104 (f := .free "abs") (by rfl)), He.free_ok X G (c.fact 105 (f := .free "int") (by rfl)), He.free_ok X G (c.fact 106 (f := .free "len") (by rfl)), He.free_ok X G (c.fact 107 (f := .free "range") (by rfl)), He.free_ok X G (c.fact 108 (f := .free "list") (by rfl)), He.free_ok X G (c.fact 109 (f := .free "str") (by rfl)), He.free_ok X G (c.fact 110 (f := .free "tuple") (by rfl)), He.free_ok X G (c.fact 111 (f := .free "sorted") (by rfl)), He.free_ok X G (c.fact 112 (f := .free "isinstance") (by rfl)), He.free_ok X G (c.fact 113 (f := .free "dict") (by rfl)), He.free_ok X G (c.fact 114 (f := .free "bool") (by rfl)), He.free_ok X G (c.fact 115 (f := .free "ord") (by rfl)), He.free_ok X G (c.fact 116 (f := .free "all") (by rfl)), He.free_ok X G (c.fact 117 (f := .free "zip") (by rfl)), He.free_ok X G (c.fact 118 (f := .free "enumerate") (by rfl)), He.free_ok X G (c.fact 119 (f := .free "ValueError") (by rfl)), He.int_ok X G (c.fact 120 (f := .int "PERCENT_CODE" 37) (by rfl)), He.int_ok X G (c.fact 121 (f := .int "LAST_CODE" 126) (by rfl)), He.int_ok X G (c.fact 122 (f := .int "FIRST_CODE" 32) (by rfl)), He.int_ok X G (c.fact 123 (f := .int "MOST_CHARACTERS" 30) (by rfl)), He.int_ok X G (c.fact 124 (f := .int "GREATEST" 999999999) (by rfl)), He.int_ok X G (c.fact 125 (f := .int "LEAST" (-999999999)) (by rfl)), He.int_ok X G (c.fact 126 (f := .int "MOST_EDITS" 24) (by rfl))⟩
  have i_EditError := isB_ok x1 (He.glo_ok X G (c.fact 52 (f := .glo "StoreError") (by rfl)))
  obtain ⟨x_EditError, kI_EditError⟩ := errB_ok x0 (He.glo_ok X G (c.fact 51 (f := .glo "EditError") (by rfl)))
  obtain ⟨oc_EditError, od_EditError, sl_EditError, kV_EditError, dc_EditError, pm_EditError, an_EditError, cd_EditError, ct_EditError, l_EditError, c_EditError⟩ := c.def_ 51 (d := dF_EditError) (by rfl)
  have F_EditError := fun_mk (st := s_EditError) (x := "__init__") (qual := "EditError.__init__") (f := He.ma K (He.ga K "EditError") "__init__") l_EditError c_EditError kI_EditError
  have b_EditError := F_EditError.binds (ps := ["self", "code", "index"]) fun _ _ _ _ _ _ us hl => match us, hl with | [_, _, _], _ => rfl
  refine ⟨PySem.W.fnOf "law" "law" (defArgs s_law) (defBody s_law) (defScope s_law) .none kV_law dc_law pm_law an_law cd_law ct_law, fun s v => .of_eq rfl, fun base _ _ => ?_⟩
  have e_EditError : ErrK l.prog w K mg base "EditError" "code" "index" (He.ga K "EditError") (He.ma K (He.ga K "EditError") "__init__") _ := ⟨x_EditError, init_EditError F_EditError, b_EditError⟩
  have o_law_tape := ok_law_tape (P := l.prog) (w := w) (base := base) n_law_tape z 
  have o_law_take := ok_law_take (P := l.prog) (w := w) (base := base) n_law_take z 
  have o_law_name := ok_law_name (P := l.prog) (w := w) (base := base) n_law_name z o_law_take
  have o_law_table := ok_law_table (P := l.prog) (w := w) (base := base) n_law_table z 
  have o_law_columns := ok_law_columns (P := l.prog) (w := w) (base := base) n_law_columns z o_law_take o_law_name
  have o_law_names := ok_law_names (P := l.prog) (w := w) (base := base) n_law_names z 
  have o_law_integer := ok_law_integer (P := l.prog) (w := w) (base := base) n_law_integer z o_law_take
  have o_law_char := ok_law_char (P := l.prog) (w := w) (base := base) n_law_char z o_law_take
  have o_law_text := ok_law_text (P := l.prog) (w := w) (base := base) n_law_text z o_law_take o_law_char
  have o_law_value := ok_law_value (P := l.prog) (w := w) (base := base) n_law_value z o_law_take o_law_integer o_law_text
  have o_law_clause := ok_law_clause (P := l.prog) (w := w) (base := base) n_law_clause z o_law_take o_law_value
  have o_law_condition := ok_law_condition (P := l.prog) (w := w) (base := base) n_law_condition z o_law_take o_law_clause
  have o_law_limits := ok_law_limits (P := l.prog) (w := w) (base := base) n_law_limits z o_law_names o_law_take o_law_condition
  have o_law_schema := ok_law_schema (P := l.prog) (w := w) (base := base) n_law_schema z o_law_take o_law_name o_law_table o_law_columns o_law_limits
  have o_law_rest := ok_law_rest (P := l.prog) (w := w) (base := base) n_law_rest z o_law_value
  have o_law_rows := ok_law_rows (P := l.prog) (w := w) (base := base) n_law_rows z o_law_take o_law_value o_law_rest
  have o_law_state := ok_law_state (P := l.prog) (w := w) (base := base) n_law_state z o_law_rows
  have o_law_copy := ok_law_copy (P := l.prog) (w := w) (base := base) n_law_copy z 9
  have o_law_some_key := ok_law_some_key (P := l.prog) (w := w) (base := base) n_law_some_key z o_law_take o_law_value
  have o_law_edit := ok_law_edit (P := l.prog) (w := w) (base := base) n_law_edit z o_law_take o_law_some_key o_law_value o_law_rest
  have o_law_key_of := ok_law_key_of (P := l.prog) (w := w) (base := base) n_law_key_of z 
  have o_law_right := ok_law_right (P := l.prog) (w := w) (base := base) n_law_right z o_law_key_of
  have o_law_do := ok_law_do (P := l.prog) (w := w) (base := base) n_law_do z o_law_key_of o_law_names
  have o_law_write := ok_law_write (P := l.prog) (w := w) (base := base) n_law_write z o_law_copy o_law_take o_law_edit o_law_right o_law_do
  have o_law_spoil := ok_law_spoil (P := l.prog) (w := w) (base := base) n_law_spoil z o_law_take
  have o_law_value_fits := ok_law_value_fits (P := l.prog) (w := w) (base := base) n_law_value_fits z 
  have o_law_row_fits := ok_law_row_fits (P := l.prog) (w := w) (base := base) n_law_row_fits z o_law_value_fits
  have o_law_code := ok_law_code (P := l.prog) (w := w) (base := base) n_law_code z o_law_row_fits o_law_value_fits o_law_key_of o_law_right
  have o_law_expected := ok_law_expected (P := l.prog) (w := w) (base := base) n_law_expected z o_law_copy o_law_code o_law_do
  have o_copy_state := ok_copy_state (P := l.prog) (w := w) (base := base) n_copy_state z 
  have o_kind_of := ok_kind_of (P := l.prog) (w := w) (base := base) n_kind_of z 
  have o_is_text_code := ok_is_text_code (P := l.prog) (w := w) (base := base) n_is_text_code z 
  have o_is_text_character := ok_is_text_character (P := l.prog) (w := w) (base := base) n_is_text_character z o_is_text_code
  have o_is_text := ok_is_text (P := l.prog) (w := w) (base := base) n_is_text z o_is_text_character
  have o_is_value := ok_is_value (P := l.prog) (w := w) (base := base) n_is_value z o_is_text
  have o_fits_kind := ok_fits_kind (P := l.prog) (w := w) (base := base) n_fits_kind z o_kind_of o_is_value
  have o_fits_columns := ok_fits_columns (P := l.prog) (w := w) (base := base) n_fits_columns z o_fits_kind
  have o_column_names := ok_column_names (P := l.prog) (w := w) (base := base) n_column_names z 
  have o_is_other_column := ok_is_other_column (P := l.prog) (w := w) (base := base) n_is_other_column z o_column_names
  have o_column_called := ok_column_called (P := l.prog) (w := w) (base := base) n_column_called z o_column_names
  have o_fits_set := ok_fits_set (P := l.prog) (w := w) (base := base) n_fits_set z o_is_other_column o_column_called o_fits_kind
  have o_key_of := ok_key_of (P := l.prog) (w := w) (base := base) n_key_of z 
  have o_fits_key := ok_fits_key (P := l.prog) (w := w) (base := base) n_fits_key z o_fits_columns
  have o_edit_code := ok_edit_code (P := l.prog) (w := w) (base := base) n_edit_code z o_fits_columns o_fits_set o_key_of o_fits_key
  have o_with_value := ok_with_value (P := l.prog) (w := w) (base := base) n_with_value z o_column_names
  have o_table_after := ok_table_after (P := l.prog) (w := w) (base := base) n_table_after z o_key_of o_with_value
  have o_apply_write := ok_apply_write (P := l.prog) (w := w) (base := base) n_apply_write z e_EditError o_copy_state o_edit_code o_table_after
  have o_law_is_integer := ok_law_is_integer (P := l.prog) (w := w) (base := base) n_law_is_integer z 
  have _ := True.intro
  have o_law_same := ok_law_same (P := l.prog) (w := w) (base := base) n_law_same n_law_same_items z o_law_is_integer 9
  have o_law := ok_law (P := l.prog) (w := w) (base := base) n_law z e_EditError i_EditError o_law_tape o_law_schema o_law_state o_law_write o_law_take o_law_spoil o_law_copy o_law_expected o_apply_write o_law_same
  exact o_law.G
end Lt
open PySem PySem.W PySem.Calls PyProof.Rows
set_option maxRecDepth 100000 in
set_option maxHeartbeats 0 in
theorem PySem.Challenge.cw_lenstree_k10_apply_write_holds : PySem.Challenge.rw_lenstree_k10_apply_write.Holds := by
  w_on; o_law
  refine HandSHeadRun.head_any (r := OpenLaw.row PySem.Challenge.rw_lenstree_k10_apply_write) (q := view (OpenLaw.row PySem.Challenge.rw_lenstree_k10_apply_write).prog [65]) (H := Lt.hkL) (ob := Lt.obN) (M := 20000) (loose := Lt.looseL) (d := HandSHeadRun.topDef (OpenLaw.row PySem.Challenge.rw_lenstree_k10_apply_write).prog 65) (kwd := []) Lt.obN_eq (by kernel_rfl) (fun s => by kernel_rfl) Lt.runL (by kernel_rfl) (by kernel_rfl) (by kernel_rfl) (by rfl) (by first | assumption | decide +kernel) (by decide +kernel) ⟨rfl, rfl, rfl, rfl, rfl, by decide +kernel⟩ ?hw ?hc
  case hw => w_witness2
  case hc =>
    refine L2.walk_ofE (l := PySem.Challenge.rw_lenstree_k10_apply_write) (n := 63) (k := 19) (x := "script") (CX := L2.CX0) rfl (by decide) (by kernel_rfl) ⟨rfl, by decide, by decide⟩ ?F (fun _ _ _ _ z => z)
    intro w mg fa h Y G hmg0
    obtain ⟨K, KX, c, ex⟩ := Y
    have hmg : mg ("law" : PySem.Str) = some (.ref fa) := by
      have e : (HandSHeadRun.topDef (OpenLaw.row PySem.Challenge.rw_lenstree_k10_apply_write).prog 65).name = ("law" : PySem.Str) := by kernel_rfl
      rw [← e]
      exact hmg0
    obtain ⟨fd, hb, hF⟩ := Lt.all_mkF (l := PySem.Challenge.rw_lenstree_k10_apply_write) (w := w) KX G hmg c ex
    exact ⟨K, fd, Lt.spLaw K, KX, hb, fun H a ns hl _ hS => ⟨a, ns, rfl, hS, hl, fun _ => rfl⟩, hF⟩
#print axioms PySem.Challenge.cw_lenstree_k10_apply_write_holds
