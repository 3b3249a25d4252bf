import PyProof.Rows.All
import Wide.All
import OpenK.AllK
import Wide.FinOn
import HandS.ForMost
import HandS.Wide
import HandS.IsInst
import HandS.Flow
import HandS.Codes
import HandS.StrMore
import HandS.Walk
import HandS.Exc
import HandS.ExcInit
import HandS.ExcField
import HandS.ExcCtx
import HandS.HotCalls
import HandS.ExcInitHot
import HandS.ExcIs
import KE.KStateDown
import HandS.Head0
import HandS.Head1
import HandS.Head2
import HandS.HeadEnd
import HandS.HeadHook1
import HandS.HeadHook2
import HandS.Small
import HandS.DictComp
import PySem.Challenge.RW_lenstree_k41_disk_keeps_its_promise
set_option Elab.async false
set_option linter.all false
set_option maxRecDepth 100000
set_option maxHeartbeats 4000000
set_option autoImplicit false
set_option autoImplicit false
namespace Lt
open PySem L2 TL
open C8 (pss_cut)
/-! ## what every law of Lenstree leans on -/
/-- a def that has been walked: how it is called -/
structure Cal (P : Program) (w : World) (K : PySem.W.Frag) (mg : Str → Option Value) (base : Heap) (n : Nat) (x : Str) (ps : List Str) (sp : Sp) (g : Addr) (gd : FuncData) : Prop where
  G : FnOk P w K mg base CX0 n g gd ps sp
  m : mg x = some (.ref g)
  kp : PySem.W.keepIn K (.ref g) = true
  b : Binds K gd ps []
/-- a def as the top has made it -/
structure Kn (K : PySem.W.Frag) (mg : Str → Option Value) (x : Str) (st : Stmt) (ps : List Str) (g : Addr) (gd : FuncData) : Prop where
  F : Fun K x x st g gd
  b : Binds K gd ps []
  m : mg x = some (.ref g)
theorem Kn.cal {P : Program} {w : World} {K : PySem.W.Frag} {mg : Str → Option Value} {base : Heap} {n : Nat} {x : Str} {st : Stmt} {ps : List Str} {sp : Sp} {g : Addr} {gd : FuncData}
    (k : Kn K mg x st ps g gd) (G : FnOk P w K mg base CX0 n g gd ps sp) : Cal P w K mg base n x ps sp g gd := ⟨G, k.m, k.F.kp, k.b⟩

/-! ### heaps that differ at one place -/
def SameX (t : Addr) (H H' : Hp) : Prop := ∀ b o, H b = some o → b ≠ t → H' b = some o
theorem SameX.refl (t : Addr) (H : Hp) : SameX t H H := fun _ _ h _ => h
theorem SameX.trans {t : Addr} {H H1 H2 : Hp} (a : SameX t H H1) (b : SameX t H1 H2) : SameX t H H2 := fun c o h n => b c o (a c o h n) n
theorem SameX.of {t : Addr} {H H1 : Hp} (a : Same H H1) : SameX t H H1 := fun c o h _ => a c o h
theorem SameX.upd {t : Addr} {H : Hp} (o : HO) : SameX t H (upd H t o) := fun b u h n => by rw [upd_ne n]; exact h
theorem same_new {H : Hp} {p : Addr} (h : H p = none) (o : HO) : Same H (upd H p o) := fun b u q => by rw [upd_ne (ne_of_none q h)]; exact q
theorem SameX.free {t : Addr} {H H' : Hp} (e : SameX t H H') {l : Addr} (hl : l ≠ t) (h : H' l = none) : H l = none := by
  cases q : H l with
  | none => rfl
  | some o => rw [e l o q hl] at h; cases h

theorem iteDT {c A B : Prop} [Decidable c] (hc : c) (h : A) : if decide c = true then A else B := by
  rw [decide_eq_true hc]; exact iteT h
theorem iteDF {c A B : Prop} [Decidable c] (hc : ¬ c) (h : B) : if decide c = true then A else B := by
  rw [decide_eq_false hc]; exact iteF h
theorem iteNF {c A B : Prop} [Decidable c] (hc : ¬ c) (h : A) : if (!decide c) = true then A else B := by
  rw [decide_eq_false hc]; exact iteT h
theorem ifD {c A B : Prop} [Decidable c] (h1 : c → A) (h2 : ¬ c → B) : if decide c = true then A else B := by
  by_cases h : c
  · exact iteDT h (h1 h)
  · exact iteDF h (h2 h)
theorem ifN {c A B : Prop} [Decidable c] (h1 : ¬ c → A) (h2 : c → B) : if (!decide c) = true then A else B := by
  by_cases h : c
  · exact iteNS h (h2 h)
  · exact iteNF h (h1 h)
theorem bl_T {c : Prop} [Decidable c] {Q : VK} {H : Hp} (hc : c) (h : Q (.bl true) H) : Q (.bl (decide c)) H := by rw [decide_eq_true hc]; exact h
theorem bl_F {c : Prop} [Decidable c] {Q : VK} {H : Hp} (hc : ¬ c) (h : Q (.bl false) H) : Q (.bl (decide c)) H := by rw [decide_eq_false hc]; exact h
theorem int_at {ns : List Int} {i : Nat} {x : V} (h : (ns.map V.int)[i]? = some x) : ∃ z, x = V.int z ∧ ns[i]? = some z := by
  rw [List.getElem?_map] at h
  cases e : ns[i]? with
  | none => rw [e] at h; cases h
  | some z => rw [e] at h; exact ⟨z, (Option.some.inj h).symm, rfl⟩
theorem same_upd {H H1 : Hp} {p : Addr} (h : H p = none) (o : HO) (e : Same H H1) : Same H (upd H1 p o) := fun b u q => by rw [upd_ne (ne_of_none q h)]; exact e _ _ q
theorem samex_upd {t : Addr} {H H1 : Hp} {p : Addr} (h : H p = none) (o : HO) (e : SameX t H H1) : SameX t H (upd H1 p o) := fun b u q n => by rw [upd_ne (ne_of_none q h)]; exact e _ _ q n
/-- isinstance(x, T) -/
theorem isi {K : PySem.W.Frag} {H : Hp} {Q : VK} {x : V} {a b : String} (r : Bool) (hT : TyX K H x (.type a)) (h : kitB a b = some r) (q : Q (.bl r) H) : rIsi K [x, .ty b] H Q :=
  ⟨_, _, _, _, r, rfl, .ty _, hT, kit_ty h, q⟩
/-- xs[i] of a list or a tuple -/
theorem ixq {K : PySem.W.Frag} {H : Hp} {Q : VK} {a : Addr} {xs : List V} {i : Int} {v : V} (h : SqL K H a xs ∨ SqT K H a xs) (e : atI xs i = some v) (q : Q v H) : rIx K (.ref a) (.int i) H Q := by
  rcases h with h | h
  · exact .inl ⟨a, xs, i, v, rfl, rfl, h, e, q⟩
  · exact .inr (.inl ⟨a, xs, i, v, rfl, rfl, h, e, q⟩)
theorem at_in {α : Type} {xs : List α} {i : Int} (h0 : 0 ≤ i) (h1 : i < xs.length) : ∃ v, atI xs i = some v ∧ v ∈ xs := by
  have hk : i.toNat < xs.length := by omega
  refine ⟨xs[i.toNat], ?_, List.getElem_mem hk⟩
  have e : i = ((i.toNat : Nat) : Int) := by omega
  have q : atI xs ((i.toNat : Nat) : Int) = some xs[i.toNat] := atI_nat (List.getElem?_eq_getElem hk)
  rw [← e] at q
  exact q
/-! ### texts -/
def one (c : Nat) : Str := ⟨#[c]⟩
def chOk (c : Nat) : Prop := 32 ≤ c ∧ c ≤ 126 ∧ c ≠ 37
instance (c : Nat) : Decidable (chOk c) := by unfold chOk; exact inferInstance
theorem tl_one (c : Nat) : tl (one c) = [c] := rfl
theorem join_ones : ∀ chs : List Nat, joinL [] ((chs.map one).map tl) = chs
  | [] => rfl
  | [c] => rfl
  | c :: d :: r => by
    have q := join_ones (d :: r)
    show [c] ++ ([] ++ joinL [] (((d :: r).map one).map tl)) = c :: d :: r
    rw [q]; rfl
theorem strOk_of {x : Str} (h : ∀ c ∈ tl x, chOk c) : PyData.strOk x = true := by
  unfold PyData.strOk
  rw [← Array.all_toList, List.all_eq_true]
  intro c hc
  have := h c hc
  unfold chOk at this
  exact decide_eq_true (by omega)
theorem tl_empty : tl ("" : Str) = [] := by decide +kernel
theorem tl_joined (chs : List Nat) : tl (Txt.join ("" : Str) (chs.map one)) = chs := by
  rw [join_eq, tl_join, tl_empty, join_ones]
theorem len_joined (chs : List Nat) : (Txt.join ("" : Str) (chs.map one)).length = chs.length := by rw [len_tl, tl_joined]
theorem sum_ones (chs : List Nat) : ((chs.map one).map (·.length)).sum = chs.length := by
  induction chs with
  | nil => rfl
  | cons c r ih => rw [List.map_cons, List.map_cons, List.sum_cons, ih, List.length_cons]; show 1 + r.length = r.length + 1; omega
/-! ### the tape that a law draws from -/
theorem s_cells_at : ¬ ("cells" : Str) = ("at" : Str) := by decide +kernel
theorem n_cells_at : ¬ (Sum.inr ("cells" : Str) : Key) = Sum.inr ("at" : Str) := fun e => s_cells_at (Sum.inr.inj e)
theorem s_cells_left : ¬ ("cells" : Str) = ("left" : Str) := by decide +kernel
theorem n_cells_left : ¬ (Sum.inr ("cells" : Str) : Key) = Sum.inr ("left" : Str) := fun e => s_cells_left (Sum.inr.inj e)
theorem s_cells_seed : ¬ ("cells" : Str) = ("seed" : Str) := by decide +kernel
theorem n_cells_seed : ¬ (Sum.inr ("cells" : Str) : Key) = Sum.inr ("seed" : Str) := fun e => s_cells_seed (Sum.inr.inj e)
theorem s_cells_salt : ¬ ("cells" : Str) = ("salt" : Str) := by decide +kernel
theorem n_cells_salt : ¬ (Sum.inr ("cells" : Str) : Key) = Sum.inr ("salt" : Str) := fun e => s_cells_salt (Sum.inr.inj e)
theorem s_at_cells : ¬ ("at" : Str) = ("cells" : Str) := by decide +kernel
theorem s_at_left : ¬ ("at" : Str) = ("left" : Str) := by decide +kernel
theorem n_at_left : ¬ (Sum.inr ("at" : Str) : Key) = Sum.inr ("left" : Str) := fun e => s_at_left (Sum.inr.inj e)
theorem s_at_seed : ¬ ("at" : Str) = ("seed" : Str) := by decide +kernel
theorem n_at_seed : ¬ (Sum.inr ("at" : Str) : Key) = Sum.inr ("seed" : Str) := fun e => s_at_seed (Sum.inr.inj e)
theorem s_at_salt : ¬ ("at" : Str) = ("salt" : Str) := by decide +kernel
theorem n_at_salt : ¬ (Sum.inr ("at" : Str) : Key) = Sum.inr ("salt" : Str) := fun e => s_at_salt (Sum.inr.inj e)
theorem s_left_cells : ¬ ("left" : Str) = ("cells" : Str) := by decide +kernel
theorem s_left_at : ¬ ("left" : Str) = ("at" : Str) := by decide +kernel
theorem s_left_seed : ¬ ("left" : Str) = ("seed" : Str) := by decide +kernel
theorem n_left_seed : ¬ (Sum.inr ("left" : Str) : Key) = Sum.inr ("seed" : Str) := fun e => s_left_seed (Sum.inr.inj e)
theorem s_left_salt : ¬ ("left" : Str) = ("salt" : Str) := by decide +kernel
theorem n_left_salt : ¬ (Sum.inr ("left" : Str) : Key) = Sum.inr ("salt" : Str) := fun e => s_left_salt (Sum.inr.inj e)
theorem s_seed_cells : ¬ ("seed" : Str) = ("cells" : Str) := by decide +kernel
theorem s_seed_at : ¬ ("seed" : Str) = ("at" : Str) := by decide +kernel
theorem s_seed_left : ¬ ("seed" : Str) = ("left" : Str) := by decide +kernel
theorem s_seed_salt : ¬ ("seed" : Str) = ("salt" : Str) := by decide +kernel
theorem n_seed_salt : ¬ (Sum.inr ("seed" : Str) : Key) = Sum.inr ("salt" : Str) := fun e => s_seed_salt (Sum.inr.inj e)
theorem s_salt_cells : ¬ ("salt" : Str) = ("cells" : Str) := by decide +kernel
theorem s_salt_at : ¬ ("salt" : Str) = ("at" : Str) := by decide +kernel
theorem s_salt_left : ¬ ("salt" : Str) = ("left" : Str) := by decide +kernel
theorem s_salt_seed : ¬ ("salt" : Str) = ("seed" : Str) := by decide +kernel
def tk (c : Addr) (a l s m : Int) : List (Key × V) := [(Sum.inr "cells", .ref c), (Sum.inr "at", .int a), (Sum.inr "left", .int l), (Sum.inr "seed", .int s), (Sum.inr "salt", .int m)]
section
variable (c : Addr) (a l s m x : Int)
theorem tk_cells : valV (tk c a l s m) (Sum.inr ("cells" : Str) : Key) = some (.ref c) := valV_pos rfl
theorem tk_at : valV (tk c a l s m) (Sum.inr ("at" : Str) : Key) = some (.int a) := by unfold tk; rw [valV_neg n_cells_at, valV_pos rfl]
theorem tk_left : valV (tk c a l s m) (Sum.inr ("left" : Str) : Key) = some (.int l) := by unfold tk; rw [valV_neg n_cells_left, valV_neg n_at_left, valV_pos rfl]
theorem tk_seed : valV (tk c a l s m) (Sum.inr ("seed" : Str) : Key) = some (.int s) := by unfold tk; rw [valV_neg n_cells_seed, valV_neg n_at_seed, valV_neg n_left_seed, valV_pos rfl]
theorem tk_salt : valV (tk c a l s m) (Sum.inr ("salt" : Str) : Key) = some (.int m) := by unfold tk; rw [valV_neg n_cells_salt, valV_neg n_at_salt, valV_neg n_left_salt, valV_neg n_seed_salt, valV_pos rfl]
theorem put_at : putK (tk c a l s m) (Sum.inr ("at" : Str) : Key) (.int x) = tk c x l s m := by
  simp [putK, tk, s_at_cells, s_cells_at, s_at_left, s_left_at, s_at_seed, s_seed_at, s_at_salt, s_salt_at]
theorem put_left : putK (tk c a l s m) (Sum.inr ("left" : Str) : Key) (.int x) = tk c a x s m := by
  simp [putK, tk, s_left_cells, s_cells_left, s_left_at, s_at_left, s_left_seed, s_seed_left, s_left_salt, s_salt_left]
theorem put_salt : putK (tk c a l s m) (Sum.inr ("salt" : Str) : Key) (.int x) = tk c a l s x := by
  simp [putK, tk, s_salt_cells, s_cells_salt, s_salt_at, s_at_salt, s_salt_left, s_left_salt, s_salt_seed, s_seed_salt]
end
theorem merge_tk (c : Addr) (a l s m : Int) : mergeK [] (tk c a l s m) = tk c a l s m := by
  simp [mergeK, putK, tk, s_cells_at, s_cells_left, s_cells_seed, s_cells_salt, s_at_left, s_at_seed, s_at_salt, s_left_seed, s_left_salt, s_seed_salt]
structure TapeAt (H : Hp) (t c : Addr) (cs : List Int) : Prop where
  dk : ∃ a l s m : Int, H t = some (.dK (tk c a l s m)) ∧ 0 ≤ a ∧ 0 ≤ l
  ls : H c = some (.lst (cs.map V.int))
  nn : ∀ x ∈ cs, (0 : Int) ≤ x
theorem TapeAt.ne {H : Hp} {t c : Addr} {cs : List Int} (T : TapeAt H t c cs) : c ≠ t := by
  obtain ⟨a, l, s, m, h, _⟩ := T.dk
  exact ne_of T.ls h (by intro z; cases z)
theorem TapeAt.mono {H H' : Hp} {t c : Addr} {cs : List Int} (T : TapeAt H t c cs) (e : Same H H') : TapeAt H' t c cs := by
  obtain ⟨a, l, s, m, h, h1, h2⟩ := T.dk
  exact ⟨⟨a, l, s, m, e _ _ h, h1, h2⟩, e _ _ T.ls, T.nn⟩
theorem TapeAt.upd {H : Hp} {t c D : Addr} {cs : List Int} {o : HO} (T : TapeAt H t c cs) (h1 : D ≠ t) (h2 : c ≠ D) : TapeAt (upd H D o) t c cs := by
  obtain ⟨a, l, s, m, h, k1, k2⟩ := T.dk
  exact ⟨⟨a, l, s, m, by rw [upd_ne h1.symm]; exact h, k1, k2⟩, by rw [upd_ne h2]; exact T.ls, T.nn⟩
theorem tk_len {c : Addr} {a l s m : Int} : (tk c a l s m).length < sizeLine := by show 5 < sizeLine; decide
section
variable {H : Hp} {t c : Addr} {a l s m : Int}
theorem d_cells (h : H t = some (.dK (tk c a l s m))) : DGet H t (.str "cells") (some (.ref c)) := by have g := DGet.k (k := (Sum.inr ("cells" : Str) : Key)) h; rw [tk_cells] at g; exact g
theorem d_at (h : H t = some (.dK (tk c a l s m))) : DGet H t (.str "at") (some (.int a)) := by have g := DGet.k (k := (Sum.inr ("at" : Str) : Key)) h; rw [tk_at] at g; exact g
theorem d_left (h : H t = some (.dK (tk c a l s m))) : DGet H t (.str "left") (some (.int l)) := by have g := DGet.k (k := (Sum.inr ("left" : Str) : Key)) h; rw [tk_left] at g; exact g
theorem d_seed (h : H t = some (.dK (tk c a l s m))) : DGet H t (.str "seed") (some (.int s)) := by have g := DGet.k (k := (Sum.inr ("seed" : Str) : Key)) h; rw [tk_seed] at g; exact g
theorem d_salt (h : H t = some (.dK (tk c a l s m))) : DGet H t (.str "salt") (some (.int m)) := by have g := DGet.k (k := (Sum.inr ("salt" : Str) : Key)) h; rw [tk_salt] at g; exact g
theorem p_at (h : H t = some (.dK (tk c a l s m))) (x : Int) : DPut H t (.str "at") (.int x) (upd H t (.dK (tk c x l s m))) := by have g := DPut.k (k := (Sum.inr ("at" : Str) : Key)) (v := .int x) h tk_len; rw [put_at] at g; exact g
theorem p_left (h : H t = some (.dK (tk c a l s m))) (x : Int) : DPut H t (.str "left") (.int x) (upd H t (.dK (tk c a x s m))) := by have g := DPut.k (k := (Sum.inr ("left" : Str) : Key)) (v := .int x) h tk_len; rw [put_left] at g; exact g
theorem p_salt (h : H t = some (.dK (tk c a l s m))) (x : Int) : DPut H t (.str "salt") (.int x) (upd H t (.dK (tk c a l s x))) := by have g := DPut.k (k := (Sum.inr ("salt" : Str) : Key)) (v := .int x) h tk_len; rw [put_salt] at g; exact g
end
/-- _law_tape -/
def spTape (K : PySem.W.Frag) : Sp := fun vs H Q _ => ∃ (a : Addr) (ns : List Int), vs = [.ref a] ∧ SqL K H a (ns.map V.int) ∧ ns.length ≤ 63 ∧
  ∀ t c cs H', TapeAt H' t c cs → Same H H' → H t = none → Q (.ref t) H'
/-- _law_take -/
def spTake : Sp := fun vs H Q _ => ∃ (t c : Addr) (cs : List Int) (many : Int), vs = [.ref t, .int many] ∧ TapeAt H t c cs ∧ 0 < many ∧ many.natAbs < 2 ^ 9000 ∧
  ∀ d H', 0 ≤ d → d < many → TapeAt H' t c cs → SameX t H H' → Q (.int d) H'

/-! ### two pieces of data that are the same -/
def isScal : V → Bool
  | .non => true
  | .bl _ => true
  | .int _ => true
  | .str _ => true
  | _ => false
/-- x and y are the same data, nested less than n deep -/
def SameV (K : PySem.W.Frag) (H : Hp) : Nat → V → V → Prop
  | 0, _, _ => False
  | n + 1, x, y => (x = y ∧ isScal x = true) ∨
      (∃ (a b : Addr) (xs ys : List V), x = .ref a ∧ y = .ref b ∧ H a = some (.lst xs) ∧ H b = some (.lst ys) ∧ xs.length = ys.length ∧ xs.length ≤ 1000 ∧ ∀ (i : Nat) (u v : V), xs[i]? = some u → ys[i]? = some v → SameV K H n u v) ∨
      (∃ (a b : Addr) (xs ys : List V), x = .ref a ∧ y = .ref b ∧ H a = some (.tup xs) ∧ H b = some (.tup ys) ∧ xs.length = ys.length ∧ xs.length ≤ 1000 ∧ ∀ (i : Nat) (u v : V), xs[i]? = some u → ys[i]? = some v → SameV K H n u v)
theorem SameV.sc {K : PySem.W.Frag} {H : Hp} {n : Nat} {x : V} (h : isScal x = true) : SameV K H (n + 1) x x := Or.inl ⟨rfl, h⟩
/-- _law_same, for data that are the same -/
def spSame (K : PySem.W.Frag) (n : Nat) : Sp := fun vs H Q _ => ∃ x y, vs = [x, y] ∧ SameV K H n x y ∧ Q (.bl true) H
def spItems (K : PySem.W.Frag) (n : Nat) : Sp := fun vs H Q _ => ∃ (a b : Addr) (xs ys : List V), vs = [.ref a, .ref b] ∧ ((H a = some (.lst xs) ∧ H b = some (.lst ys)) ∨ (H a = some (.tup xs) ∧ H b = some (.tup ys))) ∧ xs.length = ys.length ∧ xs.length ≤ 1000 ∧
  (∀ (i : Nat) (u v : V), xs[i]? = some u → ys[i]? = some v → SameV K H n u v) ∧ Q (.bl true) H
def spIsInt : Sp := fun vs H Q _ => ∃ x, vs = [x] ∧ isScal x = true ∧ Q (.bl (match x with | .int _ => true | _ => false)) H
theorem ty_scal {K : PySem.W.Frag} {H : Hp} {x : V} (h : isScal x = true) : ∃ t : String, TyX K H x (.type t) ∧ (x = .non ∧ t = "NoneType" ∨ (∃ b, x = .bl b) ∧ t = "bool" ∨ (∃ i, x = .int i) ∧ t = "int" ∨ (∃ z, x = .str z) ∧ t = "str") := by
  cases x with
  | non => exact ⟨_, .base .non, .inl ⟨rfl, rfl⟩⟩
  | bl b => exact ⟨_, .base (.bl b), .inr (.inl ⟨⟨b, rfl⟩, rfl⟩)⟩
  | int i => exact ⟨_, .base (.int i), .inr (.inr (.inl ⟨⟨i, rfl⟩, rfl⟩))⟩
  | str z => exact ⟨_, .base (.str z), .inr (.inr (.inr ⟨⟨z, rfl⟩, rfl⟩))⟩
  | byt _ => cases h
  | flt _ => cases h
  | ref _ => cases h
  | ty _ => cases h
/-- a def that draws: from the tape at t, what it hands back in R -/
def spDraw (R : V → Hp → Addr → Prop) : Sp := fun vs H Q _ => ∃ (t c : Addr) (cs : List Int), vs = [.ref t] ∧ TapeAt H t c cs ∧ ∀ v H', R v H' t → TapeAt H' t c cs → SameX t H H' → Q v H'
def isChar : V → Hp → Addr → Prop := fun v _ _ => ∃ c, chOk c ∧ v = .str (one c)
def isText (n : Nat) : V → Hp → Addr → Prop := fun v _ _ => ∃ z : Str, z.length ≤ n ∧ (∀ c ∈ tl z, chOk c) ∧ v = .str z
def isInt (lo hi : Int) : V → Hp → Addr → Prop := fun v _ _ => ∃ i : Int, lo ≤ i ∧ i ≤ hi ∧ v = .int i
theorem cutS_sub {z : Str} {lo hi : Option Int} : ∀ c ∈ tl (cutS z lo hi), c ∈ tl z := by
  intro c hc
  have e : tl (cutS z lo hi) = (z.cps.toList.drop (HT.sIx z.length 0 lo)).take (HT.sIx z.length z.length hi - HT.sIx z.length 0 lo) := by simp [tl, cutS]
  rw [e] at hc
  exact List.mem_of_mem_drop (List.mem_of_mem_take hc)
theorem len_app (u v : Str) : (u ++ v).length = u.length + v.length := by rw [len_tl, tl_append, List.length_append, ← len_tl, ← len_tl]
/-- anything that is handed to is_value -/
inductive Thing (H : Hp) : V → Prop where
  | non : Thing H .non
  | bl (b : Bool) : Thing H (.bl b)
  | int (i : Int) : Thing H (.int i)
  | str (z : Str) (h : z.length ≤ 1000) : Thing H (.str z)
  | lst {a : Addr} {xs : List V} (h : H a = some (.lst xs)) : Thing H (.ref a)
  | tup {a : Addr} {xs : List V} (h : H a = some (.tup xs)) : Thing H (.ref a)
theorem Thing.mono {H H' : Hp} {v : V} (t : Thing H v) (e : Same H H') : Thing H' v := by
  cases t with
  | non => exact .non
  | bl b => exact .bl b
  | int i => exact .int i
  | str z h => exact .str z h
  | lst h => exact .lst (e _ _ h)
  | tup h => exact .tup (e _ _ h)
/-- is it a value (point 3) -/
def goodV : V → Bool
  | .non => true
  | .int i => decide (-1000000000 < i ∧ i < 1000000000)
  | .str z => decide (z.length ≤ 30 ∧ ∀ c ∈ tl z, chOk c)
  | _ => false
def kindOf : V → Str
  | .non => ""
  | .int _ => "int"
  | .bl _ => "int"
  | _ => "text"
def plainOf (k : Str) (b : Bool) : V := if b = true then .non else if k = ("int" : Str) then .int 0 else .str ""
def spIsValue : Sp := fun vs H Q _ => ∃ v, vs = [v] ∧ Thing H v ∧ ∀ H', Same H H' → Q (.bl (goodV v)) H'
def spIsText : Sp := fun vs H Q _ => ∃ z : Str, vs = [.str z] ∧ z.length ≤ 1000 ∧ ∀ H', Same H H' → Q (.bl (goodV (.str z))) H'
def spIsChar : Sp := fun vs H Q _ => ∃ c : Nat, vs = [.str (one c)] ∧ Q (.bl (decide (chOk c))) H
def spKindOf : Sp := fun vs H Q _ => ∃ v, vs = [v] ∧ isScal v = true ∧ Q (.str (kindOf v)) H
def spPlain : Sp := fun vs H Q _ => ∃ (k : Str) (b : Bool), vs = [.str k, .bl b] ∧ Q (plainOf k b) H
/-- what law(script) promises -/
def spLaw (K : PySem.W.Frag) : Sp := fun vs H Q _ => ∃ (a : Addr) (ns : List Int), vs = [.ref a] ∧ SqL K H a (ns.map V.int) ∧ ns.length ≤ 63 ∧ ∀ H', Q (.bl true) H'
end Lt

set_option autoImplicit false
namespace Lt
open PySem PySem.Spec PyProof.Rows L2 TL
open C8 (pss_cut)
/-! ## errors of the program -/
/-- C(e, ..), C an own exception class with an own __init__: its context is None -/
theorem pmk_ownN {X : Cx} {CX : CXT} {x : Str} {e : Expr} {es : List Expr} {ta : TA} {p pos : Pos} {C fI : Addr} {k : Nat} {fd : FuncData} {ps : List Str} {sp : Sp} (T : OexC X.K C)
    (iC : PySem.W.findIn X.K (.ref C) "__init__" = some (some (.ref fI))) (tI : PySem.W.typeIn X.K (.ref fI) = some (.type "function"))
    (G : FnOk X.prog X.w X.K X.mg X.base CX k fI fd ps sp) (hr : Room (k + 1) X.A) (hb : Binds X.K fd ps []) (hx : Passes CX X (fun _ _ _ => False)) (hg : Gl X x) (hm : X.mg x = some (.ref C)) (ha : PA X (e :: es) ta)
    (hdb : (x == ("__debug__" : Str)) = false := by decide) (he : starEach (e :: es) X.env = (false, eval e X.env) :: starEach es X.env := by rfl) (hpl : (backTo pos (starEach es X.env)).any (·.1) = false := by rfl) :
    L2N.PMk X (.Call (.Name x p) (e :: es) [] pos) (tMkO C sp [] ta) := fun pins s σ H Q I h => by
  obtain ⟨_, _, _, _, bm, _, _, _, _, _, _, _, _, _, _, hcl, hbm⟩ := T.cls
  refine wpAny_Call_Name_kw (ld_glob I hg hm (PySem.W.callWith_K (h₀ := X.base) I.ok.mod.kin T.kC (thn (ha.run pos pins s σ H _ I h) fun us s1 w => ?_) he hpl) hdb)
  obtain ⟨vs, H1, J, rv, lv, q⟩ := w
  refine ⟨J.kIn, ?_⟩
  show wpAny _ _ (call (.ref C) us) _ _ _
  obtain ⟨hp, gs, dr, tok, os⟩ := s1
  generalize hA : hp.objs.size + 1 = A
  have le : hp.objs.size ≤ A := by omega
  have q := q A (J.hok.fresh le)
  rw [List.append_nil] at q
  have keep : ∀ b o, hp.get? b = some o → ((hp.push (PySem.W.kdv_tup us)).push (PySem.HandSPX.excO C hp.objs.size)).get? b = some o := fun _ _ g => Heap.get?_push_of_some _ (Heap.get?_push_of_some _ g)
  have there : ((hp.push (PySem.W.kdv_tup us)).push (PySem.HandSPX.excO C hp.objs.size)).get? A = some (PySem.HandSPX.excO C hp.objs.size) := by rw [← hA]; heap_get
  have J2 : Inv X pins σ (upd H1 A (exo A C none)) ⟨(hp.push (PySem.W.kdv_tup us)).push (PySem.HandSPX.excO C hp.objs.size), gs, dr, tok, os⟩ := J.laid (t' := tok) keep le (exo_ok there)
  have rv2 : Vals (V.ref A :: vs) (Value.ref A :: us) := .cons rfl rv
  have len : (Value.ref A :: us ++ []).length = ps.length := by rw [List.append_nil, ← rv2.length, G.len _ _ _ _ q]
  have bi := hb _ (Value.ref A :: us) J2.kIn len
  rw [List.append_nil] at bi
  have lus : us.length ≤ sizeLine := by rw [← Paired.length rv, sizeLine_eq]; omega
  subst hA
  refine wpAny_call (PySem.HandSPX.call_own F.excBase_ValueError (fun Y => PySem.HandSPX.refsVE_contains Y bm hbm) (J.kIn _ _ hcl) (PySem.W.looks_findIn J.kIn iC) (fun self => PySem.W.bind_fn J.kIn self tI) lus
    (codeAny_mono (G.run _ X.stack _ _ ⟨Value.ref (hp.objs.size + 1) :: us, []⟩ (Value.ref (hp.objs.size + 1) :: us) _ _ (fun _ _ _ => False) (hr.make C us []) (J2.env0.make C us []) bi rv2 q) fun r s' w => ?_))
  cases r with
  | error er => exact hx pins σ _ _ er s' J2 w
  | ok fl =>
    cases fl with
    | ret u =>
      obtain ⟨v, H2, eo, bare, un, hok, ru, rfl, d, fs, ea, ed, hd, q2⟩ := w
      obtain ⟨h2, g2, d2, t2, os'⟩ := s'
      obtain ⟨t0, G0, K0, kG, ge, hoe, na⟩ := mk_end0 (d2 := d2) (t2 := t2) J le keep un hok eo bare ea ed hd
      exact ⟨ru, _, _, _, ⟨G0, g2, d2, t2, os'⟩, _, .ref C, some d, rfl, K0, kG, ge, hoe, ⟨rfl, rfl, fun vs e => by cases e; rfl⟩, rfl, rfl, na, rfl, bare, raises_own T.exC T.tyC, q2⟩
    | next => exact w.elim
    | brk => exact w.elim
    | cont => exact w.elim
/-- what can't be reached -/
theorem ps_no {X : Cx} {st : Stmt} : PS X st (fun _ _ _ => False) := ⟨fun _ _ _ _ _ _ h => h.elim⟩
theorem pss_no {X : Cx} {sts : List Stmt} : PSs X sts (fun _ _ _ => False) := ⟨fun _ _ _ _ _ _ h => h.elim⟩
theorem pe_no {X : Cx} {e : Expr} : PE X e (fun _ _ _ => False) := ⟨fun _ _ _ _ _ _ h => h.elim⟩
/-- what the text says of an error class of two fields -/
structure ErrC (K : PySem.W.Frag) (mg : Str → Option Value) (x f1 f2 : Str) (C fI : Addr) : Prop where
  gC : mg x = some (.ref C)
  T : OexC K C
  iC : PySem.W.findIn K (.ref C) "__init__" = some (some (.ref fI))
  tI : PySem.W.typeIn K (.ref fI) = some (.type "function")
  n1 : PySem.W.findIn K (.ref C) f1 = some none
  n2 : PySem.W.findIn K (.ref C) f2 = some none
  xf : XfC K C
  te : PySem.W.exmOne K (.ref C) (.ref C) = some true
/-- __init__(self, a, b): self.f1 = a; self.f2 = b -/
def spInit2 (K : PySem.W.Frag) (C : Addr) (f1 f2 : Str) : Sp := fun vs H Q _ => ∃ (a : Addr) (u v : V), vs = [.ref a, u, v] ∧ OexC K C ∧ PySem.W.findIn K (.ref C) f1 = some none ∧ PySem.W.findIn K (.ref C) f2 = some none ∧ H a = some (exo a C none) ∧
  ∀ d, H d = none → d ≠ a → Q .non (upd (upd (upd H d (exd d [(f1, u)])) a (exo a C (some d))) d (exd d [(f2, v), (f1, u)]))
/-- C(u, v) raised: its fields stand in a dict of its own -/
theorem raise2 {K : PySem.W.Frag} {mg : Str → Option Value} {x f1 f2 : Str} {C fI : Addr} (c : ErrC K mg x f1 f2 C fI) {H : Hp} {Q : XK} {u v : V} (q : ∀ d, H d = none → Q (.ref C) (some d) (upd H d (.xd [(f2, v), (f1, u)]))) :
    ∀ a, H a = none → spInit2 K C f1 f2 (.ref a :: ([u, v] ++ [])) (upd H a (exo a C none)) (fun w H2 => w = .non ∧ ∃ (d : Addr) (fs : List (Str × V)), H2 a = some (exo a C (some d)) ∧ H2 d = some (exd d fs) ∧ H d = none ∧ Q (.ref C) (some d) (upd (del H2 a) d (.xd fs))) (fun _ _ _ => False) := fun a ha => by
  refine ⟨a, u, v, rfl, c.T, c.n1, c.n2, upd_same, fun d hd hda => ⟨rfl, d, _, ?_, upd_same, ?_, ?_⟩⟩
  · rw [upd_ne hda.symm]; exact upd_same
  · rw [upd_ne hda] at hd; exact hd
  · have hd' : H d = none := by rw [upd_ne hda] at hd; exact hd
    have e : upd (del (upd (upd (upd (upd H a (exo a C none)) d (exd d [(f1, u)])) a (exo a C (some d))) d (exd d [(f2, v), (f1, u)])) a) d (.xd [(f2, v), (f1, u)]) = upd H d (.xd [(f2, v), (f1, u)]) := by
      funext b
      by_cases h1 : b = d
      · subst h1; rw [upd_same, upd_same]
      · rw [upd_ne h1, upd_ne h1]
        by_cases h2 : b = a
        · subst h2; rw [del_same, ha]
        · rw [del_ne h2, upd_ne h1, upd_ne h2, upd_ne h1, upd_ne h2]
    rw [e]
    exact q d hd'
def clsSt : Stmt → Nat → Stmt
  | .ClassDef (body := b) .., j => b.getD j (.Pass ⟨0, 0, 0, 0⟩)
  | _, _ => .Pass ⟨0, 0, 0, 0⟩
structure ErrK (P : Program) (w : World) (K : PySem.W.Frag) (mg : Str → Option Value) (base : Heap) (x f1 f2 : Str) (C fI : Addr) (fdI : FuncData) : Prop where
  c : ErrC K mg x f1 f2 C fI
  G : FnOk P w K mg base CX0 1 fI fdI ["self", f1, f2] (spInit2 K C f1 f2)
  b : Binds K fdI ["self", f1, f2] []
section
variable {P : Program} {w : World} {K : PySem.W.Frag} {mg : Str → Option Value} {base : Heap}
/-- a def that may raise -/
theorem okN {x qual : Str} {st : Stmt} {f : Addr} {fd : FuncData} {N ps : List Str} {k : Nat} {sp : Sp} (F : Fun K x qual st f fd) (S : FnScope N ps (defScope st)) (len : ∀ vs H Q E, sp vs H Q E → vs.length = ps.length)
    (hbody : ∀ (cdv : Value) (A : Around) (outer : List Env) (s : Shared) (H : Hp) (vs : List V) (Q : VK) (E : XK), Room k (A.deeper (envOfC qual (defScope st) s.heap.objs.size f cdv)) → sp vs H Q E →
      ∃ t, PSs (cxOf (L2N.CX P w) P w K mg base N qual (defScope st) f cdv A outer s H E) (defBody st) t ∧ t { nx := fun _ H' => Q .non H', rt := Q } (start N vs) H) : FnOk P w K mg base (L2N.CX P w) (k + 1) f fd ps sp := by
  obtain ⟨oc, od, kV, doc, pm, an, cdv, ct, osl, rfl, lk, hcd⟩ := F.ex
  exact fn_of lk hcd S len fun A outer s H vs Q E hr h => hbody cdv A outer s H vs Q E hr h
/-- a def called where an exception is handled -/
theorem okH {x qual : Str} {st : Stmt} {f : Addr} {fd : FuncData} {N ps : List Str} {k : Nat} {sp : Sp} (F : Fun K x qual st f fd) (S : FnScope N ps (defScope st)) (len : ∀ vs H Q E, sp vs H Q E → vs.length = ps.length)
    (hbody : ∀ (cdv : Value) (A : Around) (outer : List Env) (s : Shared) (H : Hp) (vs : List V) (Q : VK) (E : XK) (p : Addr × Obj), L2H.Hot1 A p → L2H.RoomH k (A.deeper (envOfC qual (defScope st) s.heap.objs.size f cdv)) → sp vs H Q E →
      ∃ t, PSs (L2H.cxH CX0 P w K mg base N qual (defScope st) f cdv A outer s H E p) (defBody st) t ∧ t { nx := fun _ H' => Q .non H', rt := Q } (start N vs) H) : L2H.FnH P w K mg base CX0 (k + 1) f fd ps sp := by
  obtain ⟨oc, od, kV, doc, pm, an, cdv, ct, osl, rfl, lk, hcd⟩ := F.ex
  exact L2H.fn_ofH lk hcd S len fun A outer s H vs Q E p hot hr h => hbody cdv A outer s H vs Q E p hot hr h
/-- a walked def that may raise -/
structure CalX (P : Program) (w : World) (K : PySem.W.Frag) (mg : Str → Option Value) (base : Heap) (n : Nat) (x : Str) (ps : List Str) (sp : Sp) (g : Addr) (gd : FuncData) : Prop where
  G : FnOk P w K mg base (L2N.CX P w) n g gd ps sp
  m : mg x = some (.ref g)
  kp : PySem.W.keepIn K (.ref g) = true
  b : Binds K gd ps []
theorem Kn.calX {n : Nat} {x : Str} {st : Stmt} {ps : List Str} {sp : Sp} {g : Addr} {gd : FuncData} (k : Kn K mg x st ps g gd) (G : FnOk P w K mg base (L2N.CX P w) n g gd ps sp) : CalX P w K mg base n x ps sp g gd := ⟨G, k.m, k.F.kp, k.b⟩
structure CalH (P : Program) (w : World) (K : PySem.W.Frag) (mg : Str → Option Value) (base : Heap) (n : Nat) (x : Str) (ps : List Str) (sp : Sp) (g : Addr) (gd : FuncData) : Prop where
  G : L2H.FnH P w K mg base CX0 n g gd ps sp
  m : mg x = some (.ref g)
  kp : PySem.W.keepIn K (.ref g) = true
  b : Binds K gd ps []
theorem Kn.calH {n : Nat} {x : Str} {st : Stmt} {ps : List Str} {sp : Sp} {g : Addr} {gd : FuncData} (k : Kn K mg x st ps g gd) (G : L2H.FnH P w K mg base CX0 n g gd ps sp) : CalH P w K mg base n x ps sp g gd := ⟨G, k.m, k.F.kp, k.b⟩
end
theorem takes0N {X : Cx} : L2N.Takes X (fun _ _ _ _ => False) := fun _ _ ⟨_, _, _, _, _, _, _, _, _, _, _, _, _, _, _, _, w⟩ => w.elim
theorem hotc {X : Cx} {a : Addr} {oe : Obj} {cls : Value} {d : Option Addr} {pn : List (Addr × Obj)} (hz : L2N.Zn cls d oe) (hf : ∃ vs, oe.data = .fields vs) : L2H.HotC (X.suite a ((a, oe) :: pn)) := by
  obtain ⟨vs, e⟩ := hf
  exact ⟨(a, oe), ⟨rfl, vs, e, hz.2.2 vs e⟩, List.mem_cons_self⟩
theorem hotp {CX : CXT} {P : Program} {w : World} {K : PySem.W.Frag} {mg : Str → Option Value} {base : Heap} {N : List Str} {qual : Str} {scope : Scope} {f : Addr} {cd : Value} {A : Around} {outer : List Env} {s : Shared} {H : Hp} {E : XK} {p : Addr × Obj} (h : L2H.Hot1 A p) :
    L2H.HotC (L2H.cxH CX P w K mg base N qual scope f cd A outer s H E p) := ⟨p, h, List.mem_cons_self⟩
theorem passN {X : Cx} {E : XK} : ∀ σ : L2.St, PassesAt CX0 X σ E := fun _ _ _ _ _ _ _ h => h.elim
theorem err_mk {K : PySem.W.Frag} {mg : Str → Option Value} {x f1 f2 : Str} {C fI N : Addr} {nm q : Str} {bs sub bm : List Value} {sn : List Str} {ab : Bool} {col : Option Bool} {dd : Option Addr} {m0 m1 m2 m3 m5 : Option Value}
    (gC : mg x = some (.ref C)) (xL : K.lookup C = some (excClassObj nm q C N bs bm true sn sub ab col dd m0 m1 m2 m3 m5 "ValueError.__new__")) (hb : PySem.HandSPX.refsVE bm = true)
    (sa : PySem.W.findIn K (.ref C) "__setattr__" = some (some (.builtin "object.__setattr__"))) (ga : PySem.W.findIn K (.ref C) "__getattribute__" = some (some (.builtin "BaseException.__getattribute__"))) (gg : PySem.W.findIn K (.ref C) "__getattr__" = some none)
    (n1 : PySem.W.findIn K (.ref C) f1 = some none) (n2 : PySem.W.findIn K (.ref C) f2 = some none) (iC : PySem.W.findIn K (.ref C) "__init__" = some (some (.ref fI))) (tI : PySem.W.typeIn K (.ref fI) = some (.type "function"))
    (kC : PySem.W.keepIn K (.ref C) = true) (eC : PySem.W.subIn K (.ref C) (.type "BaseException") = some true) (tC : PySem.W.typeIn K (.ref C) = some (.type "type")) (hC : PySem.W.hasDictIn K C = true) (sC : PySem.W.subIn K (.ref C) (.ref C) = some true) : ErrC K mg x f1 f2 C fI :=
  ⟨gC, ⟨⟨nm, q, N, bs, bm, sn, sub, ab, col, dd, m0, m1, m2, m3, m5, xL, hb⟩, sa, eC, tC, kC⟩, iC, tI, n1, n2, ⟨ga, gg, eC, hC⟩, PySem.W.exm_ref eC hC tC sC⟩
end Lt

set_option autoImplicit false
/-! ## the end over a head by facts -/
namespace Lt
open PySem PySem.Spec PyProof.Rows L2
/-- where the names of the top, their code, the classes' parts stand -/
def refS (o : Obj) : List Addr := match o.data with
  | .func fd => He.refV fd.code
  | .cls cd => cd.ns :: cd.mro.flatMap He.refV
  | .dict es _ => es.toList.flatMap fun e => He.refV e.val
  | _ => []
def stepA (g : Addr → Option Obj) (as : List Addr) : List Addr := as.flatMap fun a => match g a with
  | some o => refS o
  | none => []
def asL (xs cs : List Str) (g : Addr → Option Obj) : List Addr :=
  mainGlobals :: (xs.map (He.ga (He.frG g [mainGlobals])) ++ (stepA g (xs.map (He.ga (He.frG g [mainGlobals]))) ++ (cs.map (He.ga (He.frG g [mainGlobals])) ++ (stepA g (cs.map (He.ga (He.frG g [mainGlobals]))) ++ (stepA g (stepA g (cs.map (He.ga (He.frG g [mainGlobals])))) ++ stepA g (stepA g (stepA g (cs.map (He.ga (He.frG g [mainGlobals]))))))))))
def hookL (as : (Addr → Option Obj) → List Addr) (fa : List He.Fa) (fn : List He.FnD) (ex : PySem.W.Frag → Bool) : PySem.W.Hook where
  α := He.Al × Bool
  obs := fun s => (He.obsE fa fn (He.frG s.heap.get? (as s.heap.get?)), ex (He.frG s.heap.get? (as s.heap.get?)))
  val := fun _ => (He.valE fn, true)
  says := fun _ h => ∃ K : PySem.W.Frag, K.In h ∧ (He.SaysE fa fn K ∧ ex K = true)
  of := fun _ _ e => ⟨_, He.frG_in, congrArg (fun z : He.Al × Bool => z.1) e, congrArg (fun z : He.Al × Bool => z.2) e⟩
  keeps := fun _ _ _ ⟨K, hK, c⟩ k => ⟨K, PySem.W.Frag.In.keeps hK k, c⟩
def obL (as : (Addr → Option Obj) → List Addr) (fa : List He.Fa) (fn : List He.FnD) (ex : PySem.W.Frag → Bool) (g : Addr → Option Obj) : He.Al × Bool := (He.obsE fa fn (He.frG g (as g)), ex (He.frG g (as g)))
theorem obL_eq {as : (Addr → Option Obj) → List Addr} {fa : List He.Fa} {fn : List He.FnD} {ex : PySem.W.Frag → Bool} {g : Addr → Option Obj} {s : Shared} (h : ∀ a, g a = s.heap.get? a) : obL as fa fn ex g = (hookL as fa fn ex).obs s := by
  have e : g = s.heap.get? := funext h
  rw [e] <;> rfl
/-- an error class -/
def clsB (K : PySem.W.Frag) (C : Addr) : Bool := match K.lookup C with
  | some ⟨.type t, _, .cls cd, sl⟩ => (match cd.mro, sl.toList with
    | .ref C' :: bm, [_, _, _, _, some (.builtin n), _] => decide (t = "type") && (decide (C' = C) && (decide (n = "ValueError.__new__") && (cd.hasDict && (!cd.hasDel && HandSPX.refsVE bm))))
    | _, _ => false)
  | _ => false
theorem clsB_ok {K : PySem.W.Frag} {C : Addr} (h : clsB K C = true) : ∃ nm q N bs bm sn sub ab col dd k0 k1 k2 k3 k5, K.lookup C = some (excClassObj nm q C N bs bm true sn sub ab col dd k0 k1 k2 k3 k5 "ValueError.__new__") ∧ HandSPX.refsVE bm = true := by
  unfold clsB at h
  split at h
  · rename_i t dd cd sl hl
    split at h
    · rename_i C' bm k0 k1 k2 k3 n k5 hm hs
      obtain ⟨h1, h⟩ := He.ba h
      obtain ⟨h2, h⟩ := He.ba h
      obtain ⟨h3, h⟩ := He.ba h
      obtain ⟨h4, h⟩ := He.ba h
      obtain ⟨h5, h6⟩ := He.ba h
      have e1 := of_decide_eq_true h1
      have e2 := of_decide_eq_true h2
      have e3 := of_decide_eq_true h3
      obtain ⟨nm, bs, mro, ns, qn, hd, sn, sub, ab, col, del⟩ := cd
      obtain ⟨sl⟩ := sl
      simp only at hm hs h4 h5
      subst hm hs e1 e2 e3
      subst h4
      cases del with
      | true => cases h5
      | false => exact ⟨_, _, _, _, _, _, _, _, _, _, _, _, _, _, _, hl, h6⟩
    · cases h
  · cases h
def errB (K : PySem.W.Frag) (x f1 f2 : Str) : Bool :=
  let C := He.ga K x
  clsB K C && (He.eqO (PySem.W.findIn K (.ref C) "__setattr__") (some (some (.builtin "object.__setattr__"))) && (He.eqO (PySem.W.findIn K (.ref C) "__getattribute__") (some (some (.builtin "BaseException.__getattribute__"))) && (He.eqO (PySem.W.findIn K (.ref C) "__getattr__") (some none) &&
  (He.eqO (PySem.W.findIn K (.ref C) f1) (some none) && (He.eqO (PySem.W.findIn K (.ref C) f2) (some none) && (He.eqO (PySem.W.findIn K (.ref C) "__init__") (some (some (.ref (He.ma K C "__init__")))) && (decide (PySem.W.typeIn K (.ref (He.ma K C "__init__")) = some (.type "function")) &&
  (PySem.W.keepIn K (.ref C) && (decide (PySem.W.subIn K (.ref C) (.type "BaseException") = some true) && (decide (PySem.W.typeIn K (.ref C) = some (.type "type")) && (PySem.W.hasDictIn K C && (decide (PySem.W.subIn K (.ref C) (.ref C) = some true) && PySem.W.keepIn K (.ref (He.ma K C "__init__"))))))))))))))
theorem errB_ok {K : PySem.W.Frag} {mg : Str → Option Value} {x f1 f2 : Str} (h : errB K x f1 f2 = true) (gC : mg x = some (.ref (He.ga K x))) : ErrC K mg x f1 f2 (He.ga K x) (He.ma K (He.ga K x) "__init__") ∧ PySem.W.keepIn K (.ref (He.ma K (He.ga K x) "__init__")) = true := by
  unfold errB at h
  obtain ⟨h1, h⟩ := He.ba h
  obtain ⟨h2, h⟩ := He.ba h
  obtain ⟨h3, h⟩ := He.ba h
  obtain ⟨h4, h⟩ := He.ba h
  obtain ⟨h5, h⟩ := He.ba h
  obtain ⟨h6, h⟩ := He.ba h
  obtain ⟨h7, h⟩ := He.ba h
  obtain ⟨h8, h⟩ := He.ba h
  obtain ⟨h9, h⟩ := He.ba h
  obtain ⟨h10, h⟩ := He.ba h
  obtain ⟨h11, h⟩ := He.ba h
  obtain ⟨h12, h⟩ := He.ba h
  obtain ⟨h13, h14⟩ := He.ba h
  obtain ⟨nm, q, N, bs, bm, sn, sub, ab, col, dd, k0, k1, k2, k3, k5, xL, hb⟩ := clsB_ok h1
  exact ⟨err_mk gC xL hb (He.eqO_ok h2) (He.eqO_ok h3) (He.eqO_ok h4) (He.eqO_ok h5) (He.eqO_ok h6) (He.eqO_ok h7) (of_decide_eq_true h8) h9 (of_decide_eq_true h10) (of_decide_eq_true h11) h12 (of_decide_eq_true h13), h14⟩
end Lt

set_option autoImplicit false
/-! ## objects of the program's own classes; errors without fields -/
namespace Lt
open PySem PySem.Spec PyProof.Rows L2 TL
/-- what the text says of an error class without fields, whose base is S -/
structure Err0 (K : PySem.W.Frag) (mg : Str → Option Value) (x : Str) (C S : Addr) : Prop where
  gC : mg x = some (.ref C)
  xP : PySem.W.excIn K C He.veBase "ValueError.__new__" = true
  kP : PySem.W.keepIn K (.ref C) = true
  bP : PySem.W.subIn K (.ref C) (.type "BaseException") = some true
  tP : PySem.W.typeIn K (.ref C) = some (.type "type")
  te : PySem.W.exmOne K (.ref C) (.ref C) = some true
  is : ExcC K C ∧ PySem.W.kitOne K (.ref C) (.ref S) = some true
  g_StoreError : mg "StoreError" = some (.ref S)
def err0B (K : PySem.W.Frag) (x s : Str) : Bool :=
  let C := He.ga K x
  PySem.W.excIn K C He.veBase "ValueError.__new__" && (PySem.W.keepIn K (.ref C) && (decide (PySem.W.subIn K (.ref C) (.type "BaseException") = some true) && (decide (PySem.W.typeIn K (.ref C) = some (.type "type")) && (decide (PySem.W.exmOne K (.ref C) (.ref C) = some true) &&
  (He.eqO (PySem.W.findIn K (.ref C) "__getattribute__") (some (some (.builtin "BaseException.__getattribute__"))) && (He.eqO (PySem.W.findIn K (.ref C) "__getattr__") (some none) && (PySem.W.hasDictIn K C && (He.eqO (PySem.W.findIn K (.ref C) "__class__") (some (some (.builtin "object.__class__"))) &&
  (He.eqO (PySem.W.specialIn K (.builtin "object.__class__") "__get__") (some (some (.builtin "getset_descriptor.__get__"))) && (decide (PySem.W.takesIn K (.builtin "object.__class__") = some true) && (decide (PySem.W.mroIn K C (.type "object") = some true) && decide (PySem.W.kitOne K (.ref C) (.ref (He.ga K s)) = some true))))))))))))
theorem err0B_ok {K : PySem.W.Frag} {mg : Str → Option Value} {x s : Str} (h : err0B K x s = true) (gC : mg x = some (.ref (He.ga K x))) (gS : mg "StoreError" = some (.ref (He.ga K s))) : Err0 K mg x (He.ga K x) (He.ga K s) := by
  unfold err0B at h
  obtain ⟨h1, h⟩ := He.ba h
  obtain ⟨h2, h⟩ := He.ba h
  obtain ⟨h3, h⟩ := He.ba h
  obtain ⟨h4, h⟩ := He.ba h
  obtain ⟨h5, h⟩ := He.ba h
  obtain ⟨h6, h⟩ := He.ba h
  obtain ⟨h7, h⟩ := He.ba h
  obtain ⟨h8, h⟩ := He.ba h
  obtain ⟨h9, h⟩ := He.ba h
  obtain ⟨h10, h⟩ := He.ba h
  obtain ⟨h11, h⟩ := He.ba h
  obtain ⟨h12, h13⟩ := He.ba h
  exact ⟨gC, h1, h2, of_decide_eq_true h3, of_decide_eq_true h4, of_decide_eq_true h5, ⟨⟨He.eqO_ok h6, He.eqO_ok h7, of_decide_eq_true h3, h8, He.eqO_ok h9, He.eqO_ok h10, of_decide_eq_true h11, of_decide_eq_true h12⟩, of_decide_eq_true h13⟩, gS⟩
/-- C(), C an own exception class without own __init__ -/
theorem pmk_own0 {X : Cx} {C : Addr} {bmB : List Value} {B newId initId : String} {x : Str} {p pos : Pos} (F : ExcBaseFacts B newId initId bmB) (q : PySem.W.excIn X.K C bmB newId = true) (gC : X.mg x = some (.ref C)) (kC : PySem.W.keepIn X.K (.ref C) = true) (r : Raises X (.ref C)) (hg : Gl X x)
    (hdb : (x == ("__debug__" : Str)) = false := by decide) : L2N.PMk X (.Call (.Name x p) [] [] pos) (fun _ H Q => Q (.ref C) none H) := by
  intro pins s σ H Q I h
  refine wpAny_Call_Name_kw (ld_glob I hg gC ?_ hdb)
  refine PySem.W.callWith_K0 I.kIn kC ?_
  show wpAny _ _ (call (.ref C) []) _ _ _
  obtain ⟨bm, N, nm, qn, bs, hdct, sn, sub, ab, col, dd, k0, k1, k2, k3, k5, mN, hC, hN, hni, T⟩ := exc_obj I.kIn q
  refine wpAny_call_exc_subT F T hC hN hni (fun h' e hm => ?_) (by show 0 ≤ sizeLine; rw [sizeLine_eq]; omega)
  exact L2N.mk_of I hm r h (I.hok.gone hm.new)
/-- isinstance(e, S) of a caught error without fields -/
theorem call_isS {X : Cx} {a C S : Addr} {oe : Obj} {pn : List (Addr × Obj)} {cls : Value} {d : Option Addr} (c : ExcC X.K C ∧ PySem.W.kitOne X.K (.ref C) (.ref S) = some true) (hz : Zc cls d oe) (hf : ∃ vs, oe.data = .fields vs) :
    CallR (X.suite a ((a, oe) :: pn)) (.builtin "isinstance") (fun xs H Q => cls = .ref C ∧ d = none ∧ xs = [.ref a, .ref S] ∧ Q (.bl true) H) := fun pins s σ H xs us Q I r h => by
  obtain ⟨rfl, rfl, e, q⟩ := h
  exact call_isE c.1 hz hf pins s σ H xs us Q I r ⟨.ref S, .ref S, true, e, fun u h => h, c.2, q⟩
/-! ### methods -/
section
variable {P : Program} {w : World} {K : PySem.W.Frag} {mg : Str → Option Value} {base : Heap}
structure KnM (K : PySem.W.Frag) (m qual : Str) (st : Stmt) (ps : List Str) (C g : Addr) (gd : FuncData) : Prop where
  F : Fun K m qual st g gd
  b : Binds K gd ps []
  mt : Meth K C m g
structure KnI (K : PySem.W.Frag) (qual : Str) (st : Stmt) (ps : List Str) (C g : Addr) (gd : FuncData) : Prop where
  F : Fun K "__init__" qual st g gd
  b : Binds K gd ps []
  mkr : Mk K C g
structure CalM (CX : CXT) (P : Program) (w : World) (K : PySem.W.Frag) (mg : Str → Option Value) (base : Heap) (n : Nat) (m : Str) (ps : List Str) (sp : Sp) (C g : Addr) (gd : FuncData) : Prop where
  G : FnOk P w K mg base CX n g gd ps sp
  mt : Meth K C m g
  b : Binds K gd ps []
structure CalI (CX : CXT) (P : Program) (w : World) (K : PySem.W.Frag) (mg : Str → Option Value) (base : Heap) (n : Nat) (ps : List Str) (sp : Sp) (C g : Addr) (gd : FuncData) : Prop where
  G : FnOk P w K mg base CX n g gd ps sp
  mkr : Mk K C g
  b : Binds K gd ps []
theorem KnM.cal {CX : CXT} {n : Nat} {m qual : Str} {st : Stmt} {ps : List Str} {sp : Sp} {C g : Addr} {gd : FuncData} (k : KnM K m qual st ps C g gd) (G : FnOk P w K mg base CX n g gd ps sp) : CalM CX P w K mg base n m ps sp C g gd := ⟨G, k.mt, k.b⟩
theorem KnI.cal {CX : CXT} {n : Nat} {qual : Str} {st : Stmt} {ps : List Str} {sp : Sp} {C g : Addr} {gd : FuncData} (k : KnI K qual st ps C g gd) (G : FnOk P w K mg base CX n g gd ps sp) : CalI CX P w K mg base n ps sp C g gd := ⟨G, k.mkr, k.b⟩
end
section
variable {X : Cx} {CX : CXT} {k : Nat} {f C : Addr} {fd : FuncData} {ps : List Str} {sp : Sp} {E : L2.St → XK} {m : Str} {pos apos : Pos} {e o : Expr} {es : List Expr} {ta : TE} {t : TA}
def tMethE (C : Addr) (m : Str) (sp : Sp) (E : L2.St → XK) (ta : TE) (t : TA) : TE := fun σ H Q => ta σ H fun x H1 => ∃ a dx fs, x = .ref a ∧ H1 a = some (.ins C dx fs) ∧ fs.lookup m = none ∧ t σ H1 fun vs H2 => sp (x :: vs) H2 Q (E σ)
/-- o.m(e, ..), where what is raised is wished for at the caller's slots -/
theorem pe_methE {pl : Sem Bool} (he : PE X o ta) (c : Cls X.K C) (hm : Meth X.K C m f) (F : FnOk X.prog X.w X.K X.mg X.base CX k f fd ps sp) (hr : Room k X.A) (hb : Binds X.K fd ps []) (hx : ∀ σ, PassesAt CX X σ (E σ)) (ha : PA X (e :: es) t)
    (hst : starEach (e :: es) X.env = (false, eval e X.env) :: starEach es X.env := by rfl) (hpl : (backTo pos (starEach es X.env)).any (·.1) = false := by rfl)
    (ht : eval (.Call (.Attribute o m apos) (e :: es) [] pos) X.env = (do
      let ov ← eval o X.env
      standAt apos.atName
      let (f, first) ← holding [ov] (getMethod ov m pl)
      callWith pos f first (backTo pos (starEach (e :: es) X.env)) (backToKw pos (keywordEach [] X.env))) := by rfl) :
    PE X (.Call (.Attribute o m apos) (e :: es) [] pos) (tMethE C m sp E ta t) := by
  refine ⟨fun pins s σ H Q I h => ?_⟩
  refine PySem.W.methodCall_KW (pl := pl) (thn (he.run pins s σ H _ I h) fun u s1 ⟨x, H1, I1, rx, a, dx, fs, ex, ea, l, q⟩ => ?_) ht
  subst ex
  obtain rfl : u = Value.ref a := rx
  refine getmeth_ok I1 ea c hm l ?_
  refine PySem.W.callWith_K (first := [.ref a]) (h₀ := X.base) I.ok.mod.kin hm.kp (thn (ha.run pos pins s1 σ H1 _ I1 q) fun us s2 ⟨vs, H2, I2, r, q2⟩ => ⟨I2.kIn, ?_⟩) hst hpl
  exact run_fnS (us := .ref a :: us) (vs := .ref a :: vs) F hr hb (hx σ) I2 (.cons rfl r) q2
end
theorem passN0 {X : Cx} (σ : L2.St) : PassesAt (L2N.CX X.prog X.w) X σ (fun _ _ _ => False) := L2N.passAt (W := fun _ _ _ _ => False) takes0N σ
end Lt

set_option autoImplicit false
/-! ## the disk -/
namespace Lt
open PySem PySem.Spec PyProof.Rows L2 TL
theorem cut_take (xs : List V) (k : Nat) : cutV xs none (some (k : Int)) = xs.take k := by
  unfold cutV
  rw [HT.sIx_none, HT.sIx_nat, List.drop_zero, Nat.sub_zero]
  by_cases h : k ≤ xs.length
  · rw [Nat.min_eq_left h]
  · rw [Nat.min_eq_right (by omega), List.take_of_length_le (by omega), List.take_of_length_le (by omega)]
/-- the state of a disk -/
structure DS where
  ar : Bool → List Int
  su : Bool → Nat
  pw : Option Nat
  dn : Bool
def setB {α : Type} (f : Bool → α) (b : Bool) (v : α) : Bool → α := fun x => if x = b then v else f x
def DS.new : DS := ⟨fun _ => [], fun _ => 0, none, false⟩
def pwV : Option Nat → V
  | none => .non
  | some n => .int n
/-- how many of n units are left -/
def DS.left (S : DS) (n : Nat) : Nat := match S.pw with
  | none => n
  | some p => min n p
def DS.spend (S : DS) (n : Nat) : DS := match S.pw with
  | none => S
  | some p => ⟨S.ar, S.su, some (p - min n p), decide (min n p < n)⟩
inductive Op where
  | app (b : Bool) (xs : List Int)
  | syn (b : Bool)
  | wip (b : Bool)
def Op.at_ : Op → Bool
  | .app b _ => b
  | .syn b => b
  | .wip b => b
def Op.need : Op → Nat
  | .app _ xs => xs.length
  | _ => 1
def DS.done (S : DS) (k : Nat) : Op → DS
  | .app b xs => ⟨setB S.ar b (S.ar b ++ xs.take k), S.su, S.pw, S.dn⟩
  | .syn b => if S.dn = true then S else ⟨S.ar, setB S.su b (S.ar b).length, S.pw, S.dn⟩
  | .wip b => if S.dn = true then S else ⟨setB S.ar b [], setB S.su b 0, S.pw, S.dn⟩
/-- the disk behind an act -/
def DS.go (S : DS) (o : Op) : DS := if S.dn = true then S else (S.spend o.need).done (S.left o.need) o
theorem DS.spend_ar (S : DS) (n : Nat) : (S.spend n).ar = S.ar := by unfold DS.spend; cases S.pw <;> rfl
theorem DS.spend_su (S : DS) (n : Nat) : (S.spend n).su = S.su := by unfold DS.spend; cases S.pw <;> rfl
theorem DS.done_dn (S : DS) (k : Nat) (o : Op) : (S.done k o).dn = S.dn := by
  cases o with
  | app b xs => rfl
  | syn b => show (if S.dn = true then S else _ : DS).dn = S.dn; split <;> rfl
  | wip b => show (if S.dn = true then S else _ : DS).dn = S.dn; split <;> rfl
theorem DS.left_le (S : DS) (n : Nat) : S.left n ≤ n := by
  unfold DS.left
  split
  · exact Nat.le_refl _
  · exact Nat.min_le_left _ _
def bi (b : Bool) : Int := if b = true then 1 else 0
theorem bi_cases (b : Bool) : bi b = 0 ∧ b = false ∨ bi b = 1 ∧ b = true := by cases b; exact .inl ⟨rfl, rfl⟩; exact .inr ⟨rfl, rfl⟩
/-- a dict of the two areas -/
def bd (f : Bool → V) : List (Key × V) := [(Sum.inl 0, f false), (Sum.inl 1, f true)]
theorem n01 : ¬ ((Sum.inl 0 : Key) = Sum.inl 1) := fun e => by cases e
theorem n10 : ¬ ((Sum.inl 1 : Key) = Sum.inl 0) := fun e => by cases e
theorem bd_get (f : Bool → V) (b : Bool) : valV (bd f) (Sum.inl (bi b) : Key) = some (f b) := by
  cases b
  · exact valV_pos rfl
  · show valV (bd f) (Sum.inl 1 : Key) = _
    unfold bd; rw [valV_neg n01, valV_pos rfl]
theorem bd_put (f : Bool → V) (b : Bool) (v : V) : putK (bd f) (Sum.inl (bi b) : Key) v = bd (setB f b v) := by
  cases b
  · show putK (bd f) (Sum.inl 0 : Key) v = _
    simp [putK, bd, setB]
  · show putK (bd f) (Sum.inl 1 : Key) v = _
    simp [putK, bd, setB]
theorem bd_dget {H : Hp} {a : Addr} {f : Bool → V} (h : H a = some (.dK (bd f))) (b : Bool) : DGet H a (.int (bi b)) (some (f b)) := by
  have g := DGet.k (k := (Sum.inl (bi b) : Key)) h; rw [bd_get] at g; exact g
theorem bd_dput {H : Hp} {a : Addr} {f : Bool → V} (h : H a = some (.dK (bd f))) (b : Bool) (v : V) : DPut H a (.int (bi b)) v (upd H a (.dK (bd (setB f b v)))) := by
  have g := DPut.k (k := (Sum.inl (bi b) : Key)) (v := v) h (by show 2 < sizeLine; decide); rw [bd_put] at g; exact g
/-! ### the object -/
def dfs (A D : Addr) (S : DS) : List (Str × V) := [("_areas", .ref A), ("_durables", .ref D), ("_power", pwV S.pw), ("_is_down", .bl S.dn)]
theorem q_ad : (("_areas" : Str) == ("_durables" : Str)) = false := by decide +kernel
theorem q_ap : (("_areas" : Str) == ("_power" : Str)) = false := by decide +kernel
theorem q_ai : (("_areas" : Str) == ("_is_down" : Str)) = false := by decide +kernel
theorem q_dp : (("_durables" : Str) == ("_power" : Str)) = false := by decide +kernel
theorem q_di : (("_durables" : Str) == ("_is_down" : Str)) = false := by decide +kernel
theorem q_pi : (("_power" : Str) == ("_is_down" : Str)) = false := by decide +kernel
theorem ne_of_q {a b : Str} (h : (a == b) = false) : ¬ a = b := fun e => by rw [beq_iff_eq.mpr e] at h; cases h
theorem ne_of_q' {a b : Str} (h : (a == b) = false) : ¬ b = a := fun e => ne_of_q h e.symm
theorem q_sym {a b : Str} (h : (a == b) = false) : (b == a) = false := beq_false_of_ne (ne_of_q' h)
section
variable (A D : Addr) (S : DS)
theorem dfs_a : (dfs A D S).lookup ("_areas" : Str) = some (.ref A) := by simp [dfs, List.lookup]
theorem dfs_d : (dfs A D S).lookup ("_durables" : Str) = some (.ref D) := by simp [dfs, List.lookup, q_sym q_ad]
theorem dfs_p : (dfs A D S).lookup ("_power" : Str) = some (pwV S.pw) := by simp [dfs, List.lookup, q_sym q_ap, q_sym q_dp]
theorem dfs_i : (dfs A D S).lookup ("_is_down" : Str) = some (.bl S.dn) := by simp [dfs, List.lookup, q_sym q_ai, q_sym q_di, q_sym q_pi]
theorem dfs_no {m : Str} (h1 : (m == ("_areas" : Str)) = false) (h2 : (m == ("_durables" : Str)) = false) (h3 : (m == ("_power" : Str)) = false) (h4 : (m == ("_is_down" : Str)) = false) : (dfs A D S).lookup m = none := by simp [dfs, List.lookup, h1, h2, h3, h4]
theorem dfs_len : (dfs A D S).length < 1000 := by show 4 < 1000; decide
theorem dfs_putp (p : Option Nat) : putF "_power" (pwV p) (dfs A D S) = dfs A D ⟨S.ar, S.su, p, S.dn⟩ := by simp [putF, dfs, ne_of_q q_ap, ne_of_q q_dp]
theorem dfs_puti (b : Bool) : putF "_is_down" (.bl b) (dfs A D S) = dfs A D ⟨S.ar, S.su, S.pw, b⟩ := by simp [putF, dfs, ne_of_q q_ai, ne_of_q q_di, ne_of_q q_pi]
theorem dfs_new : putF "_is_down" (.bl false) (putF "_power" .non (putF "_durables" (.ref D) (putF "_areas" (.ref A) []))) = dfs A D DS.new := by simp [putF, dfs, DS.new, pwV, ne_of_q q_ai, ne_of_q q_di, ne_of_q q_pi, ne_of_q q_ap, ne_of_q q_dp, ne_of_q q_ad]
end
/-- a disk in the state S stands at p; what it owns -/
structure DiskP (C : Addr) (H : Hp) (p A D : Addr) (l : Bool → Addr) (S : DS) : Prop where
  o : ∃ dx, H p = some (.ins C dx (dfs A D S))
  a : H A = some (.dK (bd fun b => .ref (l b)))
  d : H D = some (.dK (bd fun b => .int (S.su b)))
  ls : ∀ b, H (l b) = some (.lst ((S.ar b).map V.int))
  ne : l false ≠ l true
def ownD (p A D : Addr) (l : Bool → Addr) : List Addr := [p, A, D, l false, l true]
def DiskAt (C : Addr) (H : Hp) (p : Addr) (own : List Addr) (S : DS) : Prop := ∃ A D l, DiskP C H p A D l S ∧ own = ownD p A D l
/-- all but these stand as they stood -/
def Fr (own : List Addr) (H H' : Hp) : Prop := ∀ b o, H b = some o → b ∉ own → H' b = some o
theorem Fr.refl (own : List Addr) (H : Hp) : Fr own H H := fun _ _ h _ => h
theorem Fr.trans {own own' : List Addr} {H H1 H2 : Hp} (a : Fr own H H1) (b : Fr own' H1 H2) (c : ∀ x ∈ own', x ∈ own ∨ H x = none) : Fr own H H2 := fun x o h n => by
  refine b x o (a x o h n) fun hx => ?_
  rcases c x hx with k | k
  · exact n k
  · rw [h] at k; cases k
theorem Fr.of {own : List Addr} {H H1 : Hp} (a : Same H H1) : Fr own H H1 := fun x o h _ => a x o h
theorem Fr.upd {own : List Addr} {H H1 : Hp} (a : Fr own H H1) {x : Addr} {o : HO} (h : x ∈ own ∨ H x = none) : Fr own H (L2.upd H1 x o) := fun b u e n => by
  have ne : b ≠ x := fun z => by
    subst z
    rcases h with h | h
    · exact n h
    · rw [h] at e; cases e
  rw [upd_ne ne]; exact a _ _ e n
theorem Fr.free {own : List Addr} {H H' : Hp} (f : Fr own H H') (i : ∀ b ∈ own, H' b ≠ none) {w : Addr} (h : H' w = none) : H w = none := by
  cases e : H w with
  | none => rfl
  | some o =>
    by_cases hm : w ∈ own
    · exact absurd h (i w hm)
    · rw [f w o e hm] at h; cases h
theorem DiskP.in_ {C : Addr} {H : Hp} {p A D : Addr} {l : Bool → Addr} {S : DS} (h : DiskP C H p A D l S) {b : Addr} (hb : b ∈ ownD p A D l) : H b ≠ none := by
  obtain ⟨dx, ho⟩ := h.o
  intro z
  simp only [ownD, List.mem_cons, List.mem_nil_iff, or_false] at hb
  rcases hb with rfl | rfl | rfl | rfl | rfl
  · rw [ho] at z; cases z
  · rw [h.a] at z; cases z
  · rw [h.d] at z; cases z
  · rw [h.ls false] at z; cases z
  · rw [h.ls true] at z; cases z
theorem DiskP.mono {C : Addr} {H H' : Hp} {p A D : Addr} {l : Bool → Addr} {S : DS} (h : DiskP C H p A D l S) (s : ∀ b ∈ ownD p A D l, H' b = H b) : DiskP C H' p A D l S := by
  obtain ⟨dx, ho⟩ := h.o
  refine ⟨⟨dx, ?_⟩, ?_, ?_, ?_, h.ne⟩
  · rw [s p (by simp [ownD])]; exact ho
  · rw [s A (by simp [ownD])]; exact h.a
  · rw [s D (by simp [ownD])]; exact h.d
  · intro b
    rw [s (l b) (by cases b <;> simp [ownD])]; exact h.ls b
theorem DiskP.same {C : Addr} {H H' : Hp} {p A D : Addr} {l : Bool → Addr} {S : DS} (h : DiskP C H p A D l S) (s : ∀ b o, H b = some o → b ∈ ownD p A D l → H' b = some o) : DiskP C H' p A D l S := h.mono fun b hb => by
  cases e : H b with
  | none => exact absurd e (h.in_ hb)
  | some o => exact s b o e hb
theorem DiskAt.same {C : Addr} {H H' : Hp} {p : Addr} {own : List Addr} {S : DS} (h : DiskAt C H p own S) (s : ∀ b o, H b = some o → b ∈ own → H' b = some o) : DiskAt C H' p own S := by
  obtain ⟨A, D, l, h, rfl⟩ := h
  exact ⟨A, D, l, h.same s, rfl⟩
theorem DiskAt.in_ {C : Addr} {H : Hp} {p : Addr} {own : List Addr} {S : DS} (h : DiskAt C H p own S) {b : Addr} (hb : b ∈ own) : H b ≠ none := by
  obtain ⟨A, D, l, h, rfl⟩ := h
  exact h.in_ hb
section
variable {C : Addr} {H : Hp} {p A D : Addr} {l : Bool → Addr} {S : DS} (h : DiskP C H p A D l S)
theorem DiskP.pA (h : DiskP C H p A D l S) : p ≠ A := by obtain ⟨dx, ho⟩ := h.o; exact ne_of ho h.a (by intro z; cases z)
theorem DiskP.pD (h : DiskP C H p A D l S) : p ≠ D := by obtain ⟨dx, ho⟩ := h.o; exact ne_of ho h.d (by intro z; cases z)
theorem DiskP.pl (h : DiskP C H p A D l S) (b : Bool) : p ≠ l b := by obtain ⟨dx, ho⟩ := h.o; exact ne_of ho (h.ls b) (by intro z; cases z)
theorem DiskP.AD (h : DiskP C H p A D l S) : A ≠ D := ne_of h.a h.d (by intro z; simp [bd] at z)
theorem DiskP.Al (h : DiskP C H p A D l S) (b : Bool) : A ≠ l b := ne_of h.a (h.ls b) (by intro z; cases z)
theorem DiskP.Dl (h : DiskP C H p A D l S) (b : Bool) : D ≠ l b := ne_of h.d (h.ls b) (by intro z; cases z)
/-- the object changes -/
theorem DiskP.obj (h : DiskP C H p A D l S) {dx : Addr} {S' : DS} (e1 : S'.ar = S.ar) (e2 : S'.su = S.su) : DiskP C (upd H p (.ins C dx (dfs A D S'))) p A D l S' := by
  refine ⟨⟨dx, upd_same⟩, ?_, ?_, ?_, h.ne⟩
  · rw [upd_ne h.pA.symm]; exact h.a
  · rw [upd_ne h.pD.symm, e2]; exact h.d
  · intro b; rw [upd_ne (h.pl b).symm, e1]; exact h.ls b
/-- an area's list changes -/
theorem DiskP.lst (h : DiskP C H p A D l S) (b : Bool) (xs : List Int) : DiskP C (upd H (l b) (.lst (xs.map V.int))) p A D l ⟨setB S.ar b xs, S.su, S.pw, S.dn⟩ := by
  obtain ⟨dx, ho⟩ := h.o
  refine ⟨⟨dx, ?_⟩, ?_, ?_, ?_, h.ne⟩
  · rw [upd_ne (h.pl b)]; exact ho
  · rw [upd_ne (h.Al b)]; exact h.a
  · rw [upd_ne (h.Dl b)]; exact h.d
  · intro x
    by_cases e : x = b
    · subst e; rw [upd_same]; simp [setB]
    · have ne : l x ≠ l b := by
        cases x <;> cases b
        · exact absurd rfl e
        · exact h.ne
        · exact h.ne.symm
        · exact absurd rfl e
      rw [upd_ne ne]; simp only [setB, if_neg e]; exact h.ls x
/-- the durables change -/
theorem DiskP.dur (h : DiskP C H p A D l S) (b : Bool) (n : Nat) : DiskP C (upd H D (.dK (bd (setB (fun b => V.int (S.su b)) b (.int n))))) p A D l ⟨S.ar, setB S.su b n, S.pw, S.dn⟩ := by
  obtain ⟨dx, ho⟩ := h.o
  refine ⟨⟨dx, ?_⟩, ?_, ?_, ?_, h.ne⟩
  · rw [upd_ne h.pD]; exact ho
  · rw [upd_ne h.AD]; exact h.a
  · rw [upd_same]
    congr 2
    simp only [bd, setB]
    cases b <;> rfl
  · intro x; rw [upd_ne (h.Dl x).symm]; exact h.ls x
/-- an area gets a new list -/
theorem DiskP.area (h : DiskP C H p A D l S) (b : Bool) {q : Addr} (hq : H q = none) : DiskP C (upd (upd H q (.lst [])) A (.dK (bd (setB (fun b => V.ref (l b)) b (.ref q))))) p A D (setB l b q) ⟨setB S.ar b [], S.su, S.pw, S.dn⟩ := by
  obtain ⟨dx, ho⟩ := h.o
  have qA : A ≠ q := ne_of_none h.a hq
  have qp : p ≠ q := ne_of_none ho hq
  have qD : D ≠ q := ne_of_none h.d hq
  have ql : ∀ x, l x ≠ q := fun x => ne_of_none (h.ls x) hq
  refine ⟨⟨dx, ?_⟩, ?_, ?_, ?_, ?_⟩
  · rw [upd_ne h.pA, upd_ne qp]; exact ho
  · rw [upd_same]
    congr 2
    simp only [bd, setB]
    cases b <;> rfl
  · rw [upd_ne h.AD.symm, upd_ne qD]; exact h.d
  · intro x
    by_cases e : x = b
    · simp only [setB, if_pos e]; rw [upd_ne qA.symm, upd_same]; rfl
    · simp only [setB, if_neg e]; rw [upd_ne (h.Al x).symm, upd_ne (ql x)]; exact h.ls x
  · cases b
    · exact (ql true).symm
    · exact ql false
end
/-! ### promises -/
def spDInit (C : Addr) : Sp := fun vs H Q _ => ∃ p dx, vs = [.ref p] ∧ H p = some (.ins C dx []) ∧ ∀ H' own, DiskAt C H' p own DS.new → Fr [p] H H' → (∀ b ∈ own, b = p ∨ H b = none) → Q .non H'
def spSpend (C PE : Addr) : Sp := fun vs H Q E => ∃ p own S, ∃ n : Nat, vs = [.ref p, .int n] ∧ DiskAt C H p own S ∧
  (S.dn = true → E (.ref PE) none H) ∧ (S.dn = false → ∀ H', DiskAt C H' p own (S.spend n) → Fr own H H' → Q (.int (S.left n)) H')
def spRefuse (C PE : Addr) : Sp := fun vs H Q E => ∃ p own S, vs = [.ref p] ∧ DiskAt C H p own S ∧ (S.dn = true → E (.ref PE) none H) ∧ (S.dn = false → Q .non H)
/-- the act o is done at p -/
def Acts (C PE : Addr) (p : Addr) (o : Op) (own : List Addr) (S : DS) (H : Hp) (Q : VK) (E : XK) : Prop :=
  ∀ H' own', DiskAt C H' p own' (S.go o) → Fr own H H' → (∀ b ∈ own', b ∈ own ∨ H b = none) → ((S.go o).dn = true → E (.ref PE) none H') ∧ ((S.go o).dn = false → Q .non H')
def spAppend (C PE : Addr) : Sp := fun vs H Q E => ∃ p own S b xs a, vs = [.ref p, .int (bi b), .ref a] ∧ DiskAt C H p own S ∧ H a = some (.lst (xs.map V.int)) ∧ a ∉ own ∧ (S.ar b).length + xs.length ≤ 1000 ∧ Acts C PE p (.app b xs) own S H Q E
def spSync (C PE : Addr) : Sp := fun vs H Q E => ∃ p own S b, vs = [.ref p, .int (bi b)] ∧ DiskAt C H p own S ∧ (S.ar b).length ≤ 1000 ∧ Acts C PE p (.syn b) own S H Q E
def spWipe (C PE : Addr) : Sp := fun vs H Q E => ∃ p own S b, vs = [.ref p, .int (bi b)] ∧ DiskAt C H p own S ∧ Acts C PE p (.wip b) own S H Q E
def spLimit (C : Addr) : Sp := fun vs H Q _ => ∃ p own S, ∃ n : Nat, vs = [.ref p, .int n] ∧ DiskAt C H p own S ∧ ∀ H', DiskAt C H' p own ⟨S.ar, S.su, some n, S.dn⟩ → Fr own H H' → Q .non H'
def spContents (C : Addr) : Sp := fun vs H Q _ => ∃ p own S b, vs = [.ref p, .int (bi b)] ∧ DiskAt C H p own S ∧ ∀ q, H q = none → Q (.ref q) (upd H q (.lst ((S.ar b).map V.int)))
def spDurable (C : Addr) : Sp := fun vs H Q _ => ∃ p own S b, vs = [.ref p, .int (bi b)] ∧ DiskAt C H p own S ∧ Q (.int (S.su b)) H
def DS.restart (S : DS) (k : Nat) : DS := ⟨fun b => (S.ar b).take (S.su b + k), fun b => ((S.ar b).take (S.su b + k)).length, none, false⟩
def spRestarted (C : Addr) : Sp := fun vs H Q _ => ∃ p own S, ∃ k : Nat, vs = [.ref p, .int k] ∧ DiskAt C H p own S ∧ (∀ b, (S.ar b).length ≤ 900) ∧
  ∀ H' p' own', DiskAt C H' p' own' (S.restart k) → Same H H' → (∀ b ∈ own', H b = none) → Q (.ref p') H'
/-! ### what the law keeps -/
def kfs (a s : Addr) (S : DS) : List (Key × V) := [(Sum.inr "areas", .ref a), (Sum.inr "safe", .ref s), (Sum.inr "units", pwV S.pw), (Sum.inr "down", .bl S.dn)]
theorem w_as : ¬ ("areas" : Str) = ("safe" : Str) := by decide +kernel
theorem w_au : ¬ ("areas" : Str) = ("units" : Str) := by decide +kernel
theorem w_ad : ¬ ("areas" : Str) = ("down" : Str) := by decide +kernel
theorem w_su : ¬ ("safe" : Str) = ("units" : Str) := by decide +kernel
theorem w_sd : ¬ ("safe" : Str) = ("down" : Str) := by decide +kernel
theorem w_ud : ¬ ("units" : Str) = ("down" : Str) := by decide +kernel
theorem w_sa : ¬ ("safe" : Str) = ("areas" : Str) := by decide +kernel
theorem w_ua : ¬ ("units" : Str) = ("areas" : Str) := by decide +kernel
theorem w_da : ¬ ("down" : Str) = ("areas" : Str) := by decide +kernel
theorem w_us : ¬ ("units" : Str) = ("safe" : Str) := by decide +kernel
theorem w_ds : ¬ ("down" : Str) = ("safe" : Str) := by decide +kernel
theorem w_du : ¬ ("down" : Str) = ("units" : Str) := by decide +kernel
theorem k_as : ¬ (Sum.inr ("areas" : Str) : Key) = Sum.inr ("safe" : Str) := fun e => absurd (Sum.inr.inj e) (by decide +kernel)
theorem k_au : ¬ (Sum.inr ("areas" : Str) : Key) = Sum.inr ("units" : Str) := fun e => absurd (Sum.inr.inj e) (by decide +kernel)
theorem k_ad : ¬ (Sum.inr ("areas" : Str) : Key) = Sum.inr ("down" : Str) := fun e => absurd (Sum.inr.inj e) (by decide +kernel)
theorem k_su : ¬ (Sum.inr ("safe" : Str) : Key) = Sum.inr ("units" : Str) := fun e => absurd (Sum.inr.inj e) (by decide +kernel)
theorem k_sd : ¬ (Sum.inr ("safe" : Str) : Key) = Sum.inr ("down" : Str) := fun e => absurd (Sum.inr.inj e) (by decide +kernel)
theorem k_ud : ¬ (Sum.inr ("units" : Str) : Key) = Sum.inr ("down" : Str) := fun e => absurd (Sum.inr.inj e) (by decide +kernel)
section
variable {H : Hp} {k a s : Addr} {S : DS}
theorem kg_a (h : H k = some (.dK (kfs a s S))) : DGet H k (.str "areas") (some (.ref a)) := by have g := DGet.k (k := (Sum.inr ("areas" : Str) : Key)) h; rw [kfs, valV_pos rfl] at g; exact g
theorem kg_s (h : H k = some (.dK (kfs a s S))) : DGet H k (.str "safe") (some (.ref s)) := by have g := DGet.k (k := (Sum.inr ("safe" : Str) : Key)) h; rw [kfs, valV_neg k_as, valV_pos rfl] at g; exact g
theorem kg_u (h : H k = some (.dK (kfs a s S))) : DGet H k (.str "units") (some (pwV S.pw)) := by have g := DGet.k (k := (Sum.inr ("units" : Str) : Key)) h; rw [kfs, valV_neg k_au, valV_neg k_su, valV_pos rfl] at g; exact g
theorem kg_d (h : H k = some (.dK (kfs a s S))) : DGet H k (.str "down") (some (.bl S.dn)) := by have g := DGet.k (k := (Sum.inr ("down" : Str) : Key)) h; rw [kfs, valV_neg k_ad, valV_neg k_sd, valV_neg k_ud, valV_pos rfl] at g; exact g
theorem kp_u (h : H k = some (.dK (kfs a s S))) (p : Option Nat) : DPut H k (.str "units") (pwV p) (upd H k (.dK (kfs a s ⟨S.ar, S.su, p, S.dn⟩))) := by
  have g := DPut.k (k := (Sum.inr ("units" : Str) : Key)) (v := pwV p) h (by show 4 < sizeLine; decide)
  have e : putK (kfs a s S) (Sum.inr ("units" : Str) : Key) (pwV p) = kfs a s ⟨S.ar, S.su, p, S.dn⟩ := by simp [putK, kfs, w_au, w_ua, w_su, w_us, w_ud, w_du]
  rw [e] at g; exact g
theorem kp_d (h : H k = some (.dK (kfs a s S))) (b : Bool) : DPut H k (.str "down") (.bl b) (upd H k (.dK (kfs a s ⟨S.ar, S.su, S.pw, b⟩))) := by
  have g := DPut.k (k := (Sum.inr ("down" : Str) : Key)) (v := .bl b) h (by show 4 < sizeLine; decide)
  have e : putK (kfs a s S) (Sum.inr ("down" : Str) : Key) (.bl b) = kfs a s ⟨S.ar, S.su, S.pw, b⟩ := by simp [putK, kfs, w_ad, w_da, w_sd, w_ds, w_ud, w_du]
  rw [e] at g; exact g
theorem kfs_merge : mergeK [] (kfs a s S) = kfs a s S := by
  simp [mergeK, putK, kfs, w_as, w_au, w_ad, w_su, w_sd, w_ud]
end
structure KnownP (H : Hp) (k a s : Addr) (m : Bool → Addr) (S : DS) : Prop where
  hk : H k = some (.dK (kfs a s S))
  ha : H a = some (.lst [.ref (m false), .ref (m true)])
  hs : H s = some (.lst [.int (S.su false), .int (S.su true)])
  ms : ∀ b, H (m b) = some (.lst ((S.ar b).map V.int))
  ne : ∀ b, m b ≠ s
def ownK (k a s : Addr) (m : Bool → Addr) : List Addr := [k, a, s, m false, m true]
def KnownAt (H : Hp) (k : Addr) (own : List Addr) (S : DS) : Prop := ∃ a s m, KnownP H k a s m S ∧ own = ownK k a s m
theorem KnownAt.in_ {H : Hp} {k : Addr} {own : List Addr} {S : DS} (h : KnownAt H k own S) {b : Addr} (hb : b ∈ own) : H b ≠ none := by
  obtain ⟨a, s, m, h, rfl⟩ := h
  intro z
  simp only [ownK, List.mem_cons, List.mem_nil_iff, or_false] at hb
  rcases hb with rfl | rfl | rfl | rfl | rfl
  · rw [h.hk] at z; cases z
  · rw [h.ha] at z; cases z
  · rw [h.hs] at z; cases z
  · rw [h.ms false] at z; cases z
  · rw [h.ms true] at z; cases z
theorem KnownAt.same {H H' : Hp} {k : Addr} {own : List Addr} {S : DS} (h : KnownAt H k own S) (s : ∀ b o, H b = some o → b ∈ own → H' b = some o) : KnownAt H' k own S := by
  obtain ⟨a, t, m, h, rfl⟩ := h
  refine ⟨a, t, m, ⟨s _ _ h.hk (by simp [ownK]), s _ _ h.ha (by simp [ownK]), s _ _ h.hs (by simp [ownK]), fun b => s _ _ (h.ms b) (by cases b <;> simp [ownK]), h.ne⟩, rfl⟩
theorem two_at {H : Hp} {K : PySem.W.Frag} (f : Bool → V) (b : Bool) : atI [f false, f true] (bi b) = some (f b) := by cases b <;> rfl
/-- an act as the law writes it: (name, area, numbers) -/
def opName : Op → Str
  | .app _ _ => "append"
  | .syn _ => "sync"
  | .wip _ => "wipe"
/-- the act stands at a -/
def ActAt (H : Hp) (a n : Addr) (o : Op) (xs : List Int) : Prop := H a = some (.tup [.str (opName o), .int (bi o.at_), .ref n]) ∧ H n = some (.lst (xs.map V.int)) ∧ (∀ b ys, o = .app b ys → ys = xs)
def spCallAct (C : Addr) : Sp := fun vs H Q _ => ∃ p own S a n o xs, vs = [.ref p, .ref a] ∧ DiskAt C H p own S ∧ ActAt H a n o xs ∧ n ∉ own ∧ (∀ b, (S.ar b).length + xs.length ≤ 1000) ∧
  ∀ H' own', DiskAt C H' p own' (S.go o) → Fr own H H' → (∀ b ∈ own', b ∈ own ∨ H b = none) → Q (.bl (!(S.go o).dn)) H'
def spDoAct : Sp := fun vs H Q _ => ∃ k own S a n o xs, vs = [.ref k, .ref a] ∧ KnownAt H k own S ∧ ActAt H a n o xs ∧ n ∉ own ∧ a ∉ own ∧ (∀ b, (S.ar b).length + xs.length ≤ 1000) ∧
  ∀ H' own', KnownAt H' k own' (S.go o) → Fr own H H' → (∀ b ∈ own', b ∈ own ∨ H b = none) → Q (.bl (!(S.go o).dn)) H'
def spAgrees (K : PySem.W.Frag) (C : Addr) : Sp := fun vs H Q _ => ∃ (p : Addr) (own : List Addr) (S : DS) (a s : Addr) (m : Bool → Addr), vs = [.ref p, .ref a, .ref s] ∧ DiskAt C H p own S ∧ H a = some (.lst [.ref (m false), .ref (m true)]) ∧ H s = some (.lst [.int (S.su false), .int (S.su true)]) ∧ (∀ b : Bool, H (m b) = some (.lst ((S.ar b).map V.int))) ∧
  (∀ b, (S.ar b).length ≤ 1000) ∧ ∀ H', Same H H' → Q (.bl true) H'
def spRestartLaw (C : Addr) : Sp := fun vs H Q _ => ∃ p own S k kown, ∃ c : Nat, vs = [.ref p, .ref k, .int c] ∧ DiskAt C H p own S ∧ KnownAt H k kown S ∧ (∀ b, (S.ar b).length ≤ 900) ∧ ∀ H', Same H H' → Q (.bl true) H'
end Lt
namespace Lt
open PySem PySem.Spec PyProof.Rows L2 TL
theorem go_app {S : DS} (b : Bool) (xs : List Int) (h1 : S.pw = none) (h2 : S.dn = false) : S.go (.app b xs) = ⟨setB S.ar b (S.ar b ++ xs), S.su, none, false⟩ := by
  obtain ⟨ar, su, pw, dn⟩ := S
  cases h1; cases h2
  unfold DS.go
  rw [if_neg (fun z => Bool.noConfusion z)]
  show (⟨setB ar b (ar b ++ xs.take xs.length), su, none, false⟩ : DS) = _
  rw [List.take_length]
theorem go_syn {S : DS} (b : Bool) (h1 : S.pw = none) (h2 : S.dn = false) : S.go (.syn b) = ⟨S.ar, setB S.su b (S.ar b).length, none, false⟩ := by
  obtain ⟨ar, su, pw, dn⟩ := S
  cases h1; cases h2
  unfold DS.go
  rw [if_neg (fun z => Bool.noConfusion z)]
  rfl
theorem Fr.same {own : List Addr} {H H1 H2 : Hp} (f : Fr own H1 H2) (s : Same H H1) (n : ∀ b ∈ own, H b = none) : Same H H2 := fun b o e => f b o (s b o e) fun hb => by rw [n b hb] at e; cases e
/-- the state of a disk that is being restarted: so many areas are there -/
def DS.half (S : DS) (k i : Nat) : DS := ⟨fun b => if bi b < i then (S.ar b).take (S.su b + k) else [], fun b => if bi b < i then ((S.ar b).take (S.su b + k)).length else 0, none, false⟩
theorem DS.half_two (S : DS) (k : Nat) : S.half k 2 = S.restart k := by
  unfold DS.half DS.restart
  congr 1
  · funext b; cases b <;> rfl
  · funext b; cases b <;> rfl
theorem DS.half_zero (S : DS) (k : Nat) : S.half k 0 = DS.new := by
  unfold DS.half DS.new
  congr 1
  · funext b; cases b <;> rfl
  · funext b; cases b <;> rfl
def bOf (i : Nat) : Bool := decide (i = 1)
theorem bi_bOf {i : Nat} (h : i < 2) : bi (bOf i) = (i : Int) := by
  match i, h with
  | 0, _ => rfl
  | 1, _ => rfl
theorem DS.half_step (S : DS) (k : Nat) {i : Nat} (h : i < 2) : ((S.half k i).go (.app (bOf i) ((S.ar (bOf i)).take (S.su (bOf i) + k)))).go (.syn (bOf i)) = S.half k (i + 1) := by
  rw [go_app _ _ rfl rfl, go_syn _ rfl rfl]
  match i, h with
  | 0, _ =>
    unfold DS.half
    congr 1
    · funext b; cases b <;> rfl
    · funext b; cases b <;> rfl
  | 1, _ =>
    unfold DS.half
    congr 1
    · funext b; cases b <;> rfl
    · funext b; cases b <;> rfl
/-- what the law's turn stands on -/
structure LawSt (C : Addr) (H : Hp) (t c : Addr) (cs : List Int) (p : Addr) (own : List Addr) (k : Addr) (kown : List Addr) (S S2 : DS) : Prop where
  T : TapeAt H t c cs
  D : DiskAt C H p own S
  N : KnownAt H k kown S2
  dj : ∀ x ∈ own, x ∉ kown
  td : t ∉ own
  cd : c ∉ own
  tk : t ∉ kown
  ck : c ∉ kown
section
variable {C : Addr} {H H' : Hp} {t c : Addr} {cs : List Int} {p : Addr} {own own' : List Addr} {k : Addr} {kown kown' : List Addr} {S S' S2 : DS}
theorem LawSt.same (L : LawSt C H t c cs p own k kown S S2) (s : Same H H') : LawSt C H' t c cs p own k kown S S2 := ⟨L.T.mono s, L.D.same fun b o e _ => s b o e, L.N.same fun b o e _ => s b o e, L.dj, L.td, L.cd, L.tk, L.ck⟩
theorem LawSt.tape (L : LawSt C H t c cs p own k kown S S2) (T : TapeAt H' t c cs) (s : SameX t H H') : LawSt C H' t c cs p own k kown S S2 :=
  ⟨T, L.D.same fun b o e hb => s b o e (fun z => L.td (z ▸ hb)), L.N.same fun b o e hb => s b o e (fun z => L.tk (z ▸ hb)), L.dj, L.td, L.cd, L.tk, L.ck⟩
theorem LawSt.ht (L : LawSt C H t c cs p own k kown S S2) : H t ≠ none := by obtain ⟨_, _, _, _, e, _⟩ := L.T.dk; rw [e]; intro z; cases z
theorem LawSt.hc (L : LawSt C H t c cs p own k kown S S2) : H c ≠ none := by rw [L.T.ls]; intro z; cases z
theorem LawSt.tapeFr (L : LawSt C H t c cs p own k kown S S2) {ow : List Addr} (f : Fr ow H H') (h1 : t ∉ ow) (h2 : c ∉ ow) : TapeAt H' t c cs := by
  obtain ⟨a, l, s, m, e, k1, k2⟩ := L.T.dk
  exact ⟨⟨a, l, s, m, f _ _ e h1, k1, k2⟩, f _ _ L.T.ls h2, L.T.nn⟩
theorem LawSt.disk (L : LawSt C H t c cs p own k kown S S2) (D : DiskAt C H' p own' S') (f : Fr own H H') (n : ∀ b ∈ own', b ∈ own ∨ H b = none) : LawSt C H' t c cs p own' k kown S' S2 := by
  refine ⟨L.tapeFr f L.td L.cd, D, L.N.same fun b o e hb => f b o e fun hx => L.dj b hx hb, fun x hx hk => ?_, fun hx => ?_, fun hx => ?_, L.tk, L.ck⟩
  · rcases n x hx with h | h
    · exact L.dj x h hk
    · exact L.N.in_ hk h
  · rcases n t hx with h | h
    · exact L.td h
    · exact L.ht h
  · rcases n c hx with h | h
    · exact L.cd h
    · exact L.hc h
theorem LawSt.known (L : LawSt C H t c cs p own k kown S S2) (N : KnownAt H' k kown' S') (f : Fr kown H H') (n : ∀ b ∈ kown', b ∈ kown ∨ H b = none) : LawSt C H' t c cs p own k kown' S S' := by
  refine ⟨L.tapeFr f L.tk L.ck, L.D.same fun b o e hb => f b o e (L.dj b hb), N, fun x hx hk => ?_, L.td, L.cd, fun hx => ?_, fun hx => ?_⟩
  · rcases n x hk with h | h
    · exact L.dj x hx h
    · exact L.D.in_ hx h
  · rcases n t hx with h | h
    · exact L.tk h
    · exact L.ht h
  · rcases n c hx with h | h
    · exact L.ck h
    · exact L.hc h
end
theorem DS.go_len (S : DS) (o : Op) (xs : List Int) (h : ∀ b ys, o = .app b ys → ys = xs) (b : Bool) : ((S.go o).ar b).length ≤ (S.ar b).length + xs.length := by
  unfold DS.go
  split
  · omega
  · cases o with
    | app b' ys =>
      have e := h b' ys rfl
      subst e
      show (setB (S.spend _).ar b' _ b).length ≤ _
      unfold setB
      split
      · rename_i e; subst e
        rw [List.length_append, List.length_take, S.spend_ar]
        omega
      · rw [S.spend_ar]; omega
    | syn b' =>
      show (DS.ar (if _ then _ else _) b).length ≤ _
      split
      · rw [S.spend_ar]; omega
      · show ((S.spend _).ar b).length ≤ _
        rw [S.spend_ar]; omega
    | wip b' =>
      show (DS.ar (if _ then _ else _) b).length ≤ _
      split
      · rw [S.spend_ar]; omega
      · show (setB (S.spend _).ar b' [] b).length ≤ _
        unfold setB
        split
        · exact Nat.zero_le _
        · rw [S.spend_ar]; omega
/-- two lists of the same ints are the same data -/
theorem SameV.ints {K : PySem.W.Frag} {H : Hp} {n : Nat} {a b : Addr} {xs : List Int} (ha : H a = some (.lst (xs.map V.int))) (hb : H b = some (.lst (xs.map V.int))) (hl : xs.length ≤ 1000) : SameV K H (n + 2) (.ref a) (.ref b) := by
  refine .inr (.inl ⟨a, b, _, _, rfl, rfl, ha, hb, rfl, by rw [List.length_map]; exact hl, fun i u v e1 e2 => ?_⟩)
  rw [e1] at e2
  cases e2
  obtain ⟨z, rfl, _⟩ := int_at e1
  exact SameV.sc rfl
theorem KnownP.same {H H' : Hp} {k a s : Addr} {m : Bool → Addr} {S : DS} (h : KnownP H k a s m S) (f : Same H H') : KnownP H' k a s m S := ⟨f _ _ h.hk, f _ _ h.ha, f _ _ h.hs, fun b => f _ _ (h.ms b), h.ne⟩
section
variable {H : Hp} {k a s : Addr} {m : Bool → Addr} {S S' : DS}
theorem KnownP.key (h : KnownP H k a s m S) (e1 : S'.ar = S.ar) (e2 : S'.su = S.su) : KnownP (upd H k (.dK (kfs a s S'))) k a s m S' := by
  refine ⟨upd_same, ?_, ?_, fun b => ?_, h.ne⟩
  · rw [upd_ne (ne_of h.ha h.hk (by intro z; cases z))]; exact h.ha
  · rw [upd_ne (ne_of h.hs h.hk (by intro z; cases z)), e2]; exact h.hs
  · rw [upd_ne (ne_of (h.ms b) h.hk (by intro z; cases z)), e1]; exact h.ms b
theorem ints_refs {xs : List Int} {a b : Addr} : ¬ (xs.map V.int = [V.ref a, V.ref b]) := fun z => by
  cases xs with
  | nil => cases z
  | cons x r => cases z
theorem KnownP.area (h : KnownP H k a s m S) (b : Bool) {q : Addr} {xs : List Int} (hq : H q = some (.lst (xs.map V.int))) (qs : q ≠ s) : KnownP (upd H a (.lst [.ref (setB m b q false), .ref (setB m b q true)])) k a s (setB m b q) ⟨setB S.ar b xs, S.su, S.pw, S.dn⟩ := by
  refine ⟨?_, upd_same, ?_, fun x => ?_, fun x => ?_⟩
  · rw [upd_ne (ne_of h.hk h.ha (by intro z; cases z))]; exact h.hk
  · rw [upd_ne (ne_of h.hs h.ha (by intro z; injection z with z; injection z with z; cases z))]; exact h.hs
  · by_cases e : x = b
    · simp only [setB, if_pos e]
      rw [upd_ne (ne_of hq h.ha (by intro z; injection z with z; exact ints_refs z))]; exact hq
    · simp only [setB, if_neg e]
      rw [upd_ne (ne_of (h.ms x) h.ha (by intro z; injection z with z; exact ints_refs z))]; exact h.ms x
  · by_cases e : x = b
    · simp only [setB, if_pos e]; exact qs
    · simp only [setB, if_neg e]; exact h.ne x
theorem KnownP.safe (h : KnownP H k a s m S) (b : Bool) (n : Nat) : KnownP (upd H s (.lst [.int ((setB S.su b n false : Nat) : Int), .int ((setB S.su b n true : Nat) : Int)])) k a s m ⟨S.ar, setB S.su b n, S.pw, S.dn⟩ := by
  refine ⟨?_, ?_, upd_same, fun x => ?_, h.ne⟩
  · rw [upd_ne (ne_of h.hk h.hs (by intro z; cases z))]; exact h.hk
  · rw [upd_ne (ne_of h.ha h.hs (by intro z; injection z with z; injection z with z; cases z))]; exact h.ha
  · rw [upd_ne (h.ne x)]; exact h.ms x
theorem ix_two (b : Bool) {x y : V} : ∃ j, ixN [x, y].length (bi b) = some j ∧ ∀ v, [x, y].set j v = [setB (fun b => if b = true then y else x) b v false, setB (fun b => if b = true then y else x) b v true] := by
  cases b
  · exact ⟨0, rfl, fun v => rfl⟩
  · exact ⟨1, rfl, fun v => rfl⟩
end
theorem KnownP.in_ {H : Hp} {k a s : Addr} {m : Bool → Addr} {S : DS} (h : KnownP H k a s m S) {b : Addr} (hb : b ∈ ownK k a s m) : H b ≠ none := KnownAt.in_ (own := ownK k a s m) ⟨a, s, m, h, rfl⟩ hb
theorem setB_ref {m : Bool → Addr} {b : Bool} {v : Addr} (x : Bool) : (setB (fun b => if b = true then V.ref (m true) else V.ref (m false)) b (V.ref v)) x = V.ref (setB m b v x) := by
  unfold setB
  by_cases e : x = b
  · rw [if_pos e, if_pos e]
  · rw [if_neg e, if_neg e]; cases x <;> rfl
theorem setB_int {m : Bool → Nat} {b : Bool} {v : Nat} (x : Bool) : (setB (fun b => if b = true then V.int ((m true : Nat) : Int) else V.int ((m false : Nat) : Int)) b (V.int ((v : Nat) : Int))) x = V.int ((setB m b v x : Nat) : Int) := by
  unfold setB
  by_cases e : x = b
  · rw [if_pos e, if_pos e]
  · rw [if_neg e, if_neg e]; cases x <;> rfl
theorem ownK_set {k a s v : Addr} {m : Bool → Addr} {b : Bool} {x : Addr} (h : x ∈ ownK k a s (setB m b v)) : x ∈ ownK k a s m ∨ x = v := by
  simp only [ownK, List.mem_cons, List.mem_nil_iff, or_false, setB] at h ⊢
  cases b
  · rcases h with rfl | rfl | rfl | rfl | rfl
    · exact .inl (.inl rfl)
    · exact .inl (.inr (.inl rfl))
    · exact .inl (.inr (.inr (.inl rfl)))
    · exact .inr rfl
    · exact .inl (.inr (.inr (.inr (.inr rfl))))
  · rcases h with rfl | rfl | rfl | rfl | rfl
    · exact .inl (.inl rfl)
    · exact .inl (.inr (.inl rfl))
    · exact .inl (.inr (.inr (.inl rfl)))
    · exact .inl (.inr (.inr (.inr (.inl rfl))))
    · exact .inr rfl
/-- a list of ints as data -/
theorem ints_all {K : PySem.W.Frag} {H : Hp} : ∀ xs : List Int, DpAll K H (xs.map V.int) (xs.map PyData.int)
  | [] => .nil
  | x :: r => .cons (.int x) (ints_all r)
theorem ints_lay : ∀ xs : List Int, PyData.canLayAll0 (xs.map PyData.int) = true
  | [] => rfl
  | x :: r => by simp only [List.map_cons, PyData.canLayAll0, Bool.and_eq_true]; exact ⟨rfl, ints_lay r⟩
theorem ints_depth : ∀ xs : List Int, PyData.depthAll (xs.map PyData.int) ≤ 1
  | [] => by decide
  | x :: r => by
    have := ints_depth r
    simp only [List.map_cons, PyData.depthAll, PyData.depth]
    omega
theorem ints_shaped (xs : List Int) : SeqAt.shaped (.list (xs.map PyData.int)) = true := by
  have := ints_depth xs
  unfold SeqAt.shaped
  simp only [PyData.canLay0, PyData.depth]
  rw [ints_lay xs, Bool.true_and]
  exact decide_eq_true (by omega)
theorem ints_eqv (xs : List Int) : PyData.eqv (.list (xs.map PyData.int)) (.list (xs.map PyData.int)) = true := by
  refine SeqAt.eqv_refl _ ?_
  simp only [PyData.canLay0]
  exact ints_lay xs
theorem thirty : (List.replicate (30 : Int).toNat [V.int 1]).flatten = (List.replicate 30 (1 : Int)).map V.int := by decide +kernel
theorem re_end (S : DS) (c : Nat) (t : List Int) : ((S.restart c).go (.app false t)).go (.syn true) = ⟨fun b => if b = true then (S.restart c).ar true else (S.restart c).ar false ++ t, (S.restart c).su, none, false⟩ := by
  rw [go_app _ _ rfl rfl, go_syn _ rfl rfl]
  congr 1
  · funext b; cases b <;> rfl
  · funext b; cases b <;> rfl
theorem LawSt.put {C : Addr} {H : Hp} {t c : Addr} {cs : List Int} {p : Addr} {own : List Addr} {k : Addr} {kown : List Addr} {S S2 : DS} (L : LawSt C H t c cs p own k kown S S2) {x : Addr} {o : HO} (h1 : x ∉ own) (h2 : x ∉ kown) (h3 : x ≠ t) (h4 : x ≠ c) : LawSt C (upd H x o) t c cs p own k kown S S2 := by
  refine ⟨L.T.upd h3 h4.symm, L.D.same fun b u e hb => ?_, L.N.same fun b u e hb => ?_, L.dj, L.td, L.cd, L.tk, L.ck⟩
  · have ne : b ≠ x := fun z => h1 (by rw [← z]; exact hb)
    rw [upd_ne ne]; exact e
  · have ne : b ≠ x := fun z => h2 (by rw [← z]; exact hb)
    rw [upd_ne ne]; exact e
theorem op_of {d : Int} (h0 : 0 ≤ d) (h1 : d < 4) (b : Bool) (xs : List Int) : ∃ o : Op, atI [V.str "append", V.str "append", V.str "sync", V.str "wipe"] d = some (.str (opName o)) ∧ o.at_ = b ∧ ∀ b' ys, o = .app b' ys → ys = xs := by
  have e : d = 0 ∨ d = 1 ∨ d = 2 ∨ d = 3 := by omega
  rcases e with rfl | rfl | rfl | rfl
  · exact ⟨.app b xs, rfl, rfl, fun b' ys e => by cases e; rfl⟩
  · exact ⟨.app b xs, rfl, rfl, fun b' ys e => by cases e; rfl⟩
  · exact ⟨.syn b, rfl, rfl, fun b' ys e => by cases e⟩
  · exact ⟨.wip b, rfl, rfl, fun b' ys e => by cases e⟩
theorem bi_of {d : Int} (h0 : 0 ≤ d) (h1 : d < 2) : ∃ b, d = bi b := by
  have e : d = 0 ∨ d = 1 := by omega
  rcases e with rfl | rfl
  · exact ⟨false, rfl⟩
  · exact ⟨true, rfl⟩
end Lt
namespace Lt
open PySem L2 TL
open C8 (pss_cut)
def topS (i : Nat) : Stmt := PySem.Challenge.pw_lenstree_k41_disk_keeps_its_promise.main.body.getD i (.Pass ⟨0, 0, 0, 0⟩)
structure Z (K : PySem.W.Frag) (mg : Str → Option Value) : Prop where
  abs : mg "abs" = none
  int : mg "int" = none
  len : mg "len" = none
  min : mg "min" = none
  isinstance : mg "isinstance" = none
  bool : mg "bool" = none
  range : mg "range" = none
  str : mg "str" = none
  tuple : mg "tuple" = none
  list : mg "list" = none
  dict : mg "dict" = none
  c_AREAS : ∃ a : Addr, mg "AREAS" = some (.ref a) ∧ ∀ H : Hp, SqT K H a [V.int (0), V.int (1)]
structure T_Disk (K : PySem.W.Frag) (mg : Str → Option Value) (C : Addr) : Prop where
  cl : Cls K C
  gC : mg "Disk" = some (.ref C)
  n__areas : NoAttr K C "_areas"
  n__durables : NoAttr K C "_durables"
  n__power : NoAttr K C "_power"
  n__is_down : NoAttr K C "_is_down"
abbrev s_law_tape : Stmt := topS 7
theorem sc_law_tape : FnScope ["script", "cell", "cells", "seed"] ["script"] (defScope s_law_tape) := ⟨rfl, rfl, rfl, by decide +kernel, rfl, by decide +kernel, by decide +kernel⟩
abbrev s_Disk___init__ : Stmt := inClass (topS 5) 0
theorem sc_Disk___init__ : FnScope ["self", "area"] ["self"] (defScope s_Disk___init__) := ⟨rfl, rfl, rfl, by decide +kernel, rfl, by decide +kernel, by decide +kernel⟩
abbrev s_law_take : Stmt := topS 8
theorem sc_law_take : FnScope ["tape", "many", "drawn", "mixed"] ["tape", "many"] (defScope s_law_take) := ⟨rfl, rfl, rfl, by decide +kernel, rfl, by decide +kernel, by decide +kernel⟩
abbrev s_Disk_limit_power : Stmt := inClass (topS 5) 6
theorem sc_Disk_limit_power : FnScope ["self", "units"] ["self", "units"] (defScope s_Disk_limit_power) := ⟨rfl, rfl, rfl, by decide +kernel, rfl, by decide +kernel, by decide +kernel⟩
abbrev s_Disk__spend : Stmt := inClass (topS 5) 1
theorem sc_Disk__spend : FnScope ["self", "units", "spent"] ["self", "units"] (defScope s_Disk__spend) := ⟨rfl, rfl, rfl, by decide +kernel, rfl, by decide +kernel, by decide +kernel⟩
abbrev s_Disk__refuse_when_down : Stmt := inClass (topS 5) 2
theorem sc_Disk__refuse_when_down : FnScope ["self"] ["self"] (defScope s_Disk__refuse_when_down) := ⟨rfl, rfl, rfl, by decide +kernel, rfl, by decide +kernel, by decide +kernel⟩
abbrev s_Disk_append : Stmt := inClass (topS 5) 3
theorem sc_Disk_append : FnScope ["self", "area", "numbers", "spent"] ["self", "area", "numbers"] (defScope s_Disk_append) := ⟨rfl, rfl, rfl, by decide +kernel, rfl, by decide +kernel, by decide +kernel⟩
abbrev s_Disk_sync : Stmt := inClass (topS 5) 4
theorem sc_Disk_sync : FnScope ["self", "area"] ["self", "area"] (defScope s_Disk_sync) := ⟨rfl, rfl, rfl, by decide +kernel, rfl, by decide +kernel, by decide +kernel⟩
abbrev s_Disk_wipe : Stmt := inClass (topS 5) 5
theorem sc_Disk_wipe : FnScope ["self", "area"] ["self", "area"] (defScope s_Disk_wipe) := ⟨rfl, rfl, rfl, by decide +kernel, rfl, by decide +kernel, by decide +kernel⟩
abbrev s_law_call : Stmt := topS 13
theorem sc_law_call : FnScope ["disk", "act", "e"] ["disk", "act"] (defScope s_law_call) := ⟨rfl, rfl, rfl, by decide +kernel, rfl, by decide +kernel, by decide +kernel⟩
abbrev s_law_do : Stmt := topS 14
theorem sc_law_do : FnScope ["known", "act", "need", "fits"] ["known", "act"] (defScope s_law_do) := ⟨rfl, rfl, rfl, by decide +kernel, rfl, by decide +kernel, by decide +kernel⟩
abbrev s_law_is_integer : Stmt := topS 9
theorem sc_law_is_integer : FnScope ["actual"] ["actual"] (defScope s_law_is_integer) := ⟨rfl, rfl, rfl, by decide +kernel, rfl, by decide +kernel, by decide +kernel⟩
abbrev s_law_same_items : Stmt := topS 10
theorem sc_law_same_items : FnScope ["actual", "expected", "k"] ["actual", "expected"] (defScope s_law_same_items) := ⟨rfl, rfl, rfl, by decide +kernel, rfl, by decide +kernel, by decide +kernel⟩
abbrev s_law_same : Stmt := topS 11
theorem sc_law_same : FnScope ["actual", "expected", "key"] ["actual", "expected"] (defScope s_law_same) := ⟨rfl, rfl, rfl, by decide +kernel, rfl, by decide +kernel, by decide +kernel⟩
abbrev s_Disk_durable : Stmt := inClass (topS 5) 8
theorem sc_Disk_durable : FnScope ["self", "area"] ["self", "area"] (defScope s_Disk_durable) := ⟨rfl, rfl, rfl, by decide +kernel, rfl, by decide +kernel, by decide +kernel⟩
abbrev s_Disk_contents : Stmt := inClass (topS 5) 7
theorem sc_Disk_contents : FnScope ["self", "area"] ["self", "area"] (defScope s_Disk_contents) := ⟨rfl, rfl, rfl, by decide +kernel, rfl, by decide +kernel, by decide +kernel⟩
abbrev s_law_agrees : Stmt := topS 15
theorem sc_law_agrees : FnScope ["disk", "areas", "safe", "area"] ["disk", "areas", "safe"] (defScope s_law_agrees) := ⟨rfl, rfl, rfl, by decide +kernel, rfl, by decide +kernel, by decide +kernel⟩
abbrev s_Disk_restarted : Stmt := inClass (topS 5) 9
theorem sc_Disk_restarted : FnScope ["self", "count", "result", "area"] ["self", "count"] (defScope s_Disk_restarted) := ⟨rfl, rfl, rfl, by decide +kernel, rfl, by decide +kernel, by decide +kernel⟩
abbrev s_law_restart : Stmt := topS 16
theorem sc_law_restart : FnScope ["disk", "known", "count", "twin", "areas", "area"] ["disk", "known", "count"] (defScope s_law_restart) := ⟨rfl, rfl, rfl, by decide +kernel, rfl, by decide +kernel, by decide +kernel⟩
abbrev s_law : Stmt := topS 17
theorem sc_law : FnScope ["script", "tape", "disk", "known", "moment", "k", "numbers", "act", "before", "j"] ["script"] (defScope s_law) := ⟨rfl, rfl, rfl, by decide +kernel, rfl, by decide +kernel, by decide +kernel⟩
end Lt
namespace Lt
open PySem L2 TL
open C8 (pss_cut)
def dF_law_tape : He.FnD := ⟨("_law_tape", none), "_law_tape", "_law_tape", defArgs s_law_tape, defBody s_law_tape, defScope s_law_tape⟩
def dF_Disk___init__ : He.FnD := ⟨("Disk", some "__init__"), "__init__", "Disk.__init__", defArgs s_Disk___init__, defBody s_Disk___init__, defScope s_Disk___init__⟩
def dF_law_take : He.FnD := ⟨("_law_take", none), "_law_take", "_law_take", defArgs s_law_take, defBody s_law_take, defScope s_law_take⟩
def dF_Disk_limit_power : He.FnD := ⟨("Disk", some "limit_power"), "limit_power", "Disk.limit_power", defArgs s_Disk_limit_power, defBody s_Disk_limit_power, defScope s_Disk_limit_power⟩
def dF_Disk__spend : He.FnD := ⟨("Disk", some "_spend"), "_spend", "Disk._spend", defArgs s_Disk__spend, defBody s_Disk__spend, defScope s_Disk__spend⟩
def dF_Disk__refuse_when_down : He.FnD := ⟨("Disk", some "_refuse_when_down"), "_refuse_when_down", "Disk._refuse_when_down", defArgs s_Disk__refuse_when_down, defBody s_Disk__refuse_when_down, defScope s_Disk__refuse_when_down⟩
def dF_Disk_append : He.FnD := ⟨("Disk", some "append"), "append", "Disk.append", defArgs s_Disk_append, defBody s_Disk_append, defScope s_Disk_append⟩
def dF_Disk_sync : He.FnD := ⟨("Disk", some "sync"), "sync", "Disk.sync", defArgs s_Disk_sync, defBody s_Disk_sync, defScope s_Disk_sync⟩
def dF_Disk_wipe : He.FnD := ⟨("Disk", some "wipe"), "wipe", "Disk.wipe", defArgs s_Disk_wipe, defBody s_Disk_wipe, defScope s_Disk_wipe⟩
def dF_law_call : He.FnD := ⟨("_law_call", none), "_law_call", "_law_call", defArgs s_law_call, defBody s_law_call, defScope s_law_call⟩
def dF_law_do : He.FnD := ⟨("_law_do", none), "_law_do", "_law_do", defArgs s_law_do, defBody s_law_do, defScope s_law_do⟩
def dF_law_is_integer : He.FnD := ⟨("_law_is_integer", none), "_law_is_integer", "_law_is_integer", defArgs s_law_is_integer, defBody s_law_is_integer, defScope s_law_is_integer⟩
def dF_law_same_items : He.FnD := ⟨("_law_same_items", none), "_law_same_items", "_law_same_items", defArgs s_law_same_items, defBody s_law_same_items, defScope s_law_same_items⟩
def dF_law_same : He.FnD := ⟨("_law_same", none), "_law_same", "_law_same", defArgs s_law_same, defBody s_law_same, defScope s_law_same⟩
def dF_Disk_durable : He.FnD := ⟨("Disk", some "durable"), "durable", "Disk.durable", defArgs s_Disk_durable, defBody s_Disk_durable, defScope s_Disk_durable⟩
def dF_Disk_contents : He.FnD := ⟨("Disk", some "contents"), "contents", "Disk.contents", defArgs s_Disk_contents, defBody s_Disk_contents, defScope s_Disk_contents⟩
def dF_law_agrees : He.FnD := ⟨("_law_agrees", none), "_law_agrees", "_law_agrees", defArgs s_law_agrees, defBody s_law_agrees, defScope s_law_agrees⟩
def dF_Disk_restarted : He.FnD := ⟨("Disk", some "restarted"), "restarted", "Disk.restarted", defArgs s_Disk_restarted, defBody s_Disk_restarted, defScope s_Disk_restarted⟩
def dF_law_restart : He.FnD := ⟨("_law_restart", none), "_law_restart", "_law_restart", defArgs s_law_restart, defBody s_law_restart, defScope s_law_restart⟩
def dF_law : He.FnD := ⟨("law", none), "law", "law", defArgs s_law, defBody s_law, defScope s_law⟩
def fnL : List He.FnD := [dF_law_tape, dF_Disk___init__, dF_law_take, dF_Disk_limit_power, dF_Disk__spend, dF_Disk__refuse_when_down, dF_Disk_append, dF_Disk_sync, dF_Disk_wipe, dF_law_call, dF_law_do, dF_law_is_integer, dF_law_same_items, dF_law_same, dF_Disk_durable, dF_Disk_contents, dF_law_agrees, dF_Disk_restarted, dF_law_restart, dF_law]
def faL0 : List He.Fa := [.glo "_law_tape", .glo "_law_take", .glo "_law_call", .glo "_law_do", .glo "_law_is_integer", .glo "_law_same_items", .glo "_law_same", .glo "_law_agrees", .glo "_law_restart", .glo "law", .glo "PowerError", .glo "StoreError", .glo "Disk", .glo "AREAS", .keep "_law_tape", .keep "_law_take", .keep "_law_call", .keep "_law_do", .keep "_law_is_integer", .keep "_law_same_items", .keep "_law_same", .keep "_law_agrees", .keep "_law_restart", .keep "law", .free "abs", .free "int", .free "len", .free "min", .free "isinstance", .free "bool", .free "range", .free "str", .free "tuple", .free "list", .free "dict", .cls "Disk", .mkr "Disk", .noat "Disk" "_areas", .noat "Disk" "_durables", .noat "Disk" "_power"]
def faL1 : List He.Fa := [.noat "Disk" "_is_down", .meth "Disk" "__init__", .meth "Disk" "limit_power", .meth "Disk" "_spend", .meth "Disk" "_refuse_when_down", .meth "Disk" "append", .meth "Disk" "sync", .meth "Disk" "wipe", .meth "Disk" "durable", .meth "Disk" "contents", .meth "Disk" "restarted"]
def faL : List He.Fa := faL0 ++ (faL1
)
def exL (K : PySem.W.Frag) : Bool := err0B K "PowerError" "StoreError" && (He.tupB K "AREAS" [.int (0), .int (1)] && (true))
abbrev RR : PySem.W.OpenRow := PySem.W.OpenLaw.row PySem.Challenge.rw_lenstree_k41_disk_keeps_its_promise
def namesL0 : List PySem.Str := [PySem.Str.ofString "_law_tape", PySem.Str.ofString "_law_take", PySem.Str.ofString "_law_call", PySem.Str.ofString "_law_do", PySem.Str.ofString "_law_is_integer", PySem.Str.ofString "_law_same_items", PySem.Str.ofString "_law_same", PySem.Str.ofString "_law_agrees", PySem.Str.ofString "_law_restart", PySem.Str.ofString "law", PySem.Str.ofString "AREAS"]
def adsL : (Addr → Option Obj) → List Addr := asL (namesL0) [PySem.Str.ofString "PowerError", PySem.Str.ofString "StoreError", PySem.Str.ofString "Disk"]
abbrev hkL : PySem.W.Hook := hookL adsL faL fnL exL
def obN (s : PySem.W.SharedT) : He.Al × Bool := obL adsL faL fnL exL (HandSHeadRun.getT s)
theorem obN_eq (s : PySem.W.SharedT) : obN s = hkL.obs s.abs := obL_eq (HandSHeadRun.getT_eq s)
def looseL0 : List PySem.Str := [PySem.Str.ofString "StoreError", PySem.Str.ofString "PowerError", PySem.Str.ofString "AREAS", PySem.Str.ofString "Disk", PySem.Str.ofString "_law_tape", PySem.Str.ofString "_law_take", PySem.Str.ofString "_law_is_integer", PySem.Str.ofString "_law_same_items", PySem.Str.ofString "_law_same", PySem.Str.ofString "_law_copy", PySem.Str.ofString "_law_call", PySem.Str.ofString "_law_do", PySem.Str.ofString "_law_agrees", PySem.Str.ofString "_law_restart"]
def looseL : List PySem.Str := looseL0
theorem run_false (w : World) : HandSHeadRun.RunEq RR (PySem.W.view RR.prog [17]) hkL obN 20000 looseL (w.withFollow "special-get-raises" false) := by
  intro os
  kernel_rfl
theorem run_true (w : World) : HandSHeadRun.RunEq RR (PySem.W.view RR.prog [17]) hkL obN 20000 looseL (w.withFollow "special-get-raises" true) := by
  intro os
  kernel_rfl
theorem runL (w : World) : HandSHeadRun.RunEq RR (PySem.W.view RR.prog [17]) hkL obN 20000 looseL w := PySem.W.byRow2 "special-get-raises" (P := fun w => HandSHeadRun.RunEq RR (PySem.W.view RR.prog [17]) hkL obN 20000 looseL w) run_false run_true w
end Lt
namespace Lt
open PySem L2 TL
open C8 (pss_cut)
section
variable {P : Program} {w : World} {K : PySem.W.Frag} {mg : Str → Option Value} {base : Heap}
theorem ok_law_tape {f : Addr} {fd : FuncData} (k : Kn K mg "_law_tape" s_law_tape ["script"] f fd) (z : Z K mg) :
    Cal P w K mg base 1 "_law_tape" ["script"] (spTape K) f fd := k.cal (by
  refine k.F.ok sc_law_tape (fun vs H Q E h => ?_) (fun cdv A outer s H vs Q E hr h => ?_)
  · obtain ⟨a, ns, rfl, _⟩ := h; rfl
  · obtain ⟨a, ns, rfl, hS, h63, q⟩ := h
    have hu := hu_of hr
    refine ⟨_, (pss_cons (ps_setLc (i := 2) (own := [("cell", 1)]) (g := gName 1) (tt := tYes) (by rfl) sc_law_tape.nd rfl rfl (sw_true rfl rfl rfl (by decide +kernel)) (pi_list (pv 0)) (blkOk_by (own := [("cell", 1)]) (N := ["script", "cell", "cells", "seed"]) (sc := defScope s_law_tape) (by decide +kernel)) (fun _ _ _ _ _ => pg_name (i := 1) sc_law_tape.nd rfl (Or.inl rfl)) (fun _ _ _ _ _ => pts_nil) (fun _ _ _ _ _ => (pe_callB call_abs (by rfl) z.abs (by decide +kernel) (pa_cons (pe_callTy call_int1 (by rfl) z.int (by decide +kernel) (pa_cons (pv 1) pa_nil)) pa_nil))))
        (pss_cons (ps_set (i := 3) sc_law_tape.nd rfl (Or.inl rfl) pe_int)
        (pss_cons (ps_for PassesOwn.never rfl (pi_list (pv 2)) (pg_name (i := 1) sc_law_tape.nd rfl (Or.inl rfl))
        (pss_one (ps_set (i := 3) sc_law_tape.nd rfl (Or.inl rfl) (pe_op op_mod (pe_callTy call_int1 (by rfl) z.int (by decide +kernel) (pa_cons (pe_op op_add (pe_op op_mul (pv 3) pe_int) (pv 1)) pa_nil)) pe_int))))
        (pss_one (ps_ret (pe_disp (pps_cons pe_str (pv 2) (pps_cons pe_str pe_int (pps_cons pe_str pe_int (pps_cons pe_str (pv 3) (pps_cons pe_str pe_int pps_nil))))) (by rfl) (by rfl) (fun z => by cases z) (by decide))))))), ?_⟩
    refine ⟨_, rfl, a, rfl, ⟨_, hS⟩, fun D hD => lc_list (K := K) (a := a) (xs := ns.map V.int) (fun i H' => ∃ cs : List Int, H' D = some (.lst (cs.map V.int)) ∧ cs.length = i ∧ (∀ x ∈ cs, (0 : Int) ≤ x) ∧ Same H H') ⟨[], upd_same, rfl, (by intro x hx; cases hx), same_new hD _⟩ (fun i H' _ ⟨_, _, _, _, s1⟩ => s1.seq hS) ?_ ?_⟩
    · rintro i x H1 hi ⟨cs, hc, hl, hn, s1⟩
      obtain ⟨z, rfl, hz⟩ := int_at hi
      have hi63 : i < ns.length := (List.getElem?_eq_some_iff.mp hz).1
      refine ⟨rfl, _, rfl, .inl ⟨z, rfl, z, rfl, _, hc, (by rw [List.length_map]; exact small1000 (by omega)), cs ++ [if z < 0 then -z else z], ?_, by simp [hl], ?_, same_upd hD _ s1⟩⟩
      · rw [upd_same, List.map_append]; rfl
      · intro y hy
        rcases List.mem_append.mp hy with hy | hy
        · exact hn y hy
        · rw [List.mem_singleton.mp hy]
          by_cases h0 : z < 0
          · rw [if_pos h0]; omega
          · rw [if_neg h0]; omega
    · rintro H1 ⟨cs, hc, hl, hn, s1⟩
      refine ⟨_, rfl, D, rfl, ⟨_, SqL.of hc⟩, for_list (K := K) (a := D) (xs := cs.map V.int) (fun i σ H2 => ∃ v s, σ = [some (.ref a), v, some (.ref D), some (.int s)] ∧ H2 = H1) ⟨none, 7, rfl, rfl⟩ (fun i σ H2 _ ⟨_, _, _, e⟩ => by rw [e]; exact SqL.of hc) ?_ ?_⟩
      · rintro i x σ H2 hi ⟨v, s, rfl, rfl⟩
        obtain ⟨z, rfl, hz⟩ := int_at hi
        refine ⟨_, rfl, _, _, rfl, rfl, .inr ⟨by decide, by decide⟩, _, rfl, _, _, rfl, rfl, .inl ⟨_, rfl, _, _, rfl, rfl, (by show (0 : Int) < 2147483647; decide), ?_⟩⟩
        exact ⟨_, _, rfl, rfl⟩
      · rintro σ H2 ⟨v, s, rfl, rfl⟩
        refine fun p hp => ⟨_, rfl, _, rfl, upd_same, tk D 0 0 s 0, rfl, (by show 5 ≤ 15; decide), ?_⟩
        have hp0 : H p = none := s1.free hp
        refine q p D cs _ ⟨⟨0, 0, s, 0, by rw [upd_same, merge_tk], Int.le_refl _, Int.le_refl _⟩, ?_, hn⟩ (same_upd hp0 _ (same_upd hp0 _ s1)) hp0
        rw [upd_ne (ne_of_none hc hp), upd_ne (ne_of_none hc hp)]
        exact hc)
theorem ok_Disk___init__ {C_Disk : Addr} {f : Addr} {fd : FuncData} (k : KnI K "Disk.__init__" s_Disk___init__ ["self"] C_Disk f fd) (z : Z K mg)
    (t_Disk : T_Disk K mg C_Disk) :
    CalI CX0 P w K mg base 1 ["self"] (spDInit C_Disk) C_Disk f fd := k.cal (by
  obtain ⟨a_AREAS, k_AREAS, q_AREAS⟩ := z.c_AREAS
  refine k.F.ok sc_Disk___init__ (fun vs H Q E h => ?_) (fun cdv A outer s H vs Q E hr h => ?_)
  · obtain ⟨p, dx, rfl, _⟩ := h; rfl
  · obtain ⟨p, dx, rfl, hp, q⟩ := h
    have hu := hu_of hr
    refine ⟨_, (pss_cons (ps_fld (pv 0) (pe_dc (own := [("area", 1)]) (g := gName 1) (tt := tYes) (by rfl) sc_Disk___init__.nd (pi_tup (pe_glob (v := .ref a_AREAS) rfl k_AREAS rfl)) (blkOk_by (own := [("area", 1)]) (N := ["self", "area"]) (sc := defScope s_Disk___init__) (by decide +kernel)) (fun _ _ _ _ _ => pg_name (i := 1) sc_Disk___init__.nd rfl (Or.inl rfl)) (fun _ _ _ _ _ => pts_nil) (fun _ _ _ _ _ => (pv 1)) (fun _ _ _ _ _ => (pe_lst pa_nil))) rfl)
        (pss_cons (ps_fld (pv 0) (pe_dc (own := [("area", 1)]) (g := gName 1) (tt := tYes) (by rfl) sc_Disk___init__.nd (pi_tup (pe_glob (v := .ref a_AREAS) rfl k_AREAS rfl)) (blkOk_by (own := [("area", 1)]) (N := ["self", "area"]) (sc := defScope s_Disk___init__) (by decide +kernel)) (fun _ _ _ _ _ => pg_name (i := 1) sc_Disk___init__.nd rfl (Or.inl rfl)) (fun _ _ _ _ _ => pts_nil) (fun _ _ _ _ _ => (pv 1)) (fun _ _ _ _ _ => pe_int)) rfl)
        (pss_cons (ps_fld (pv 0) pe_non rfl)
        (pss_one (ps_fld (pv 0) pe_bl rfl))))), ?_⟩
    refine ⟨a_AREAS, rfl, ⟨_, q_AREAS _⟩, fun A hA => dc_tup (K := K) (a := a_AREAS) (xs := [V.int 0, V.int 1]) (fun i H' => Same H H' ∧ match i with
      | 0 => H' A = some (.dK [])
      | 1 => ∃ l0, H' A = some (.dK [(Sum.inl 0, .ref l0)]) ∧ H' l0 = some (.lst []) ∧ H l0 = none ∧ l0 ≠ A
      | _ => ∃ l0 l1, H' A = some (.dK [(Sum.inl 0, .ref l0), (Sum.inl 1, .ref l1)]) ∧ H' l0 = some (.lst []) ∧ H' l1 = some (.lst []) ∧ H l0 = none ∧ H l1 = none ∧ l0 ≠ A ∧ l1 ≠ A ∧ l0 ≠ l1) ⟨same_new hA _, upd_same⟩ (fun i H' _ _ => q_AREAS _) ?_ ?_⟩
    · rintro i x H1 hi ⟨s1, h1⟩
      match i, hi, h1 with
      | 0, hi, h1 =>
        cases hi
        refine ⟨rfl, _, rfl, Nat.zero_le _, fun l hl => ⟨[], Sum.inl 0, rfl, ?_, (by show 0 < sizeLine; decide), ?_, l, ?_, ?_, s1.free hl, ?_⟩⟩
        · rw [upd_ne (ne_of_none h1 hl)]; exact h1
        · exact same_upd hA _ (same_upd (s1.free hl) _ s1)
        · rw [upd_same]; rfl
        · rw [upd_ne (ne_of_none h1 hl).symm]; exact upd_same
        · exact (ne_of_none h1 hl).symm
      | 1, hi, h1 =>
        cases hi
        obtain ⟨l0, h2, h3, h4, h5⟩ := h1
        refine ⟨rfl, _, rfl, Nat.zero_le _, fun l hl => ⟨[(Sum.inl 0, .ref l0)], Sum.inl 1, rfl, ?_, (by show 1 < sizeLine; decide), ?_, l0, l, ?_, ?_, ?_, h4, s1.free hl, h5, ?_, ?_⟩⟩
        · rw [upd_ne (ne_of_none h2 hl)]; exact h2
        · exact same_upd hA _ (same_upd (s1.free hl) _ s1)
        · rw [upd_same]; rfl
        · rw [upd_ne h5, upd_ne (ne_of_none h3 hl)]; exact h3
        · rw [upd_ne (ne_of_none h2 hl).symm]; exact upd_same
        · exact (ne_of_none h2 hl).symm
        · exact ne_of_none h3 hl
      | i + 2, hi, h1 => cases i <;> cases hi
    · rintro H1 ⟨s1, l0, l1, h1, h2, h3, n0, n1, m0, m1, m2⟩
      have hp1 := s1 _ _ hp
      have pA : p ≠ A := ne_of hp1 h1 (by intro z; cases z)
      have pl0 : p ≠ l0 := ne_of hp1 h2 (by intro z; cases z)
      have pl1 : p ≠ l1 := ne_of hp1 h3 (by intro z; cases z)
      refine ⟨_, rfl, p, C_Disk, dx, [], rfl, hp1, t_Disk.cl, t_Disk.n__areas, (by show 0 < 1000; decide), ?_⟩
      refine ⟨a_AREAS, rfl, ⟨_, q_AREAS _⟩, fun D hD => ?_⟩
      have pD : p ≠ D := fun z => by rw [← z, upd_same] at hD; cases hD
      have hD1 : H1 D = none := by rw [upd_ne pD.symm] at hD; exact hD
      refine dc_tup (K := K) (a := a_AREAS) (xs := [V.int 0, V.int 1]) (fun i H' => Same (upd H1 p (.ins C_Disk dx (putF "_areas" (.ref A) []))) H' ∧ match i with
        | 0 => H' D = some (.dK [])
        | 1 => H' D = some (.dK [(Sum.inl 0, .int 0)])
        | _ => H' D = some (.dK [(Sum.inl 0, .int 0), (Sum.inl 1, .int 0)])) ⟨same_new hD _, upd_same⟩ (fun i H' _ _ => q_AREAS _) ?_ ?_
      · rintro i x H2 hi ⟨s2, h4⟩
        match i, hi, h4 with
        | 0, hi, h4 =>
          cases hi
          exact ⟨rfl, _, rfl, _, Sum.inl 0, rfl, h4, (by show 0 < sizeLine; decide), same_upd hD _ s2, upd_same⟩
        | 1, hi, h4 =>
          cases hi
          exact ⟨rfl, _, rfl, _, Sum.inl 1, rfl, h4, (by show 1 < sizeLine; decide), same_upd hD _ s2, upd_same⟩
        | i + 2, hi, h4 => cases i <;> cases hi
      · rintro H2 ⟨s2, h4⟩
        have hp2 := s2 _ _ upd_same
        refine ⟨_, rfl, p, C_Disk, dx, _, rfl, hp2, t_Disk.cl, t_Disk.n__durables, (by show 1 < 1000; decide), ?_⟩
        refine ⟨_, rfl, p, C_Disk, dx, _, rfl, upd_same, t_Disk.cl, t_Disk.n__power, (by show 2 < 1000; decide), ?_⟩
        refine ⟨_, rfl, p, C_Disk, dx, _, rfl, upd_same, t_Disk.cl, t_Disk.n__is_down, (by show 3 < 1000; decide), ?_⟩
        have k1 : ∀ b o, b ≠ p → H1 b = some o → H2 b = some o := fun b o n e => s2 _ _ (by rw [upd_ne n]; exact e)
        refine q _ (ownD p A D (fun b => if b = true then l1 else l0)) ⟨A, D, _, ⟨⟨dx, ?_⟩, ?_, ?_, ?_, m2⟩, rfl⟩ ?_ ?_
        · rw [upd_same, dfs_new]
        · rw [upd_ne pA.symm, upd_ne pA.symm, upd_ne pA.symm]; exact k1 _ _ pA.symm h1
        · rw [upd_ne pD.symm, upd_ne pD.symm, upd_ne pD.symm]; exact h4
        · intro b
          cases b
          · show upd _ _ _ l0 = _
            rw [upd_ne pl0.symm, upd_ne pl0.symm, upd_ne pl0.symm]; exact k1 _ _ pl0.symm h2
          · show upd _ _ _ l1 = _
            rw [upd_ne pl1.symm, upd_ne pl1.symm, upd_ne pl1.symm]; exact k1 _ _ pl1.symm h3
        · intro b o e n
          have np : b ≠ p := fun z => n (by simp [z])
          rw [upd_ne np, upd_ne np, upd_ne np]; exact k1 _ _ np (s1 _ _ e)
        · intro b hb
          simp only [ownD, List.mem_cons, List.mem_nil_iff, or_false] at hb
          rcases hb with rfl | rfl | rfl | rfl | rfl
          · exact .inl rfl
          · exact .inr hA
          · exact .inr (s1.free hD1)
          · exact .inr n0
          · exact .inr n1)
theorem ok_law_take {f : Addr} {fd : FuncData} (k : Kn K mg "_law_take" s_law_take ["tape", "many"] f fd) (z : Z K mg) :
    Cal P w K mg base 1 "_law_take" ["tape", "many"] (spTake) f fd := k.cal (by
  refine k.F.ok sc_law_take (fun vs H Q E h => ?_) (fun cdv A outer s H vs Q E hr h => ?_)
  · obtain ⟨t, c, cs, many, rfl, _⟩ := h; rfl
  · obtain ⟨t, c, cs, many, rfl, T, h0, h9, q⟩ := h
    have hu := hu_of hr
    have cne : c ≠ t := T.ne
    obtain ⟨⟨a, l, s0, m, hd, ha, hl⟩, hc, hn⟩ := id T
    refine ⟨_, (pss_cut (ps_if (PW.pt (pw_and (pt_cmpR op_eq (pe_dget hu (pv 0) pe_str (fun _ _ => rfl)) pe_int (nomark _)) (pw_and1 (pt_cmpR op_lt (pe_dget hu (pv 0) pe_str (fun _ _ => rfl)) (pe_callB call_len_seq (by rfl) z.len (by decide +kernel) (pa_cons (pe_dget hu (pv 0) pe_str (fun _ _ => rfl)) pa_nil)) (nomark _))))) (pss_cons (ps_dput hu (pv 0) pe_str (pe_ix ix_list (pe_dget hu (pv 0) pe_str (fun _ _ => rfl)) (pe_dget hu (pv 0) pe_str (fun _ _ => rfl)) (fun _ _ => rfl)) rfl)
        (pss_one (ps_dput hu (pv 0) pe_str (pe_op op_add (pe_dget hu (pv 0) pe_str (fun _ _ => rfl)) pe_int) rfl))) pss_nil)
        (pss_cons (ps_if (pt_cmpR op_gt (pe_dget hu (pv 0) pe_str (fun _ _ => rfl)) pe_int (nomark _)) (pss_cons (ps_set (i := 2) sc_law_take.nd rfl (Or.inl rfl) (pe_op op_mod (pe_callTy call_int1 (by rfl) z.int (by decide +kernel) (pa_cons (pe_dget hu (pv 0) pe_str (fun _ _ => rfl)) pa_nil)) (pv 1)))
        (pss_cons (ps_dput hu (pv 0) pe_str (pe_op op_fdivW (pe_dget hu (pv 0) pe_str (fun _ _ => rfl)) (pv 1)) rfl)
        (pss_one (ps_ret (pv 2))))) pss_nil)
        (pss_cons (ps_dput hu (pv 0) pe_str (pe_op op_add (pe_dget hu (pv 0) pe_str (fun _ _ => rfl)) pe_int) rfl)
        (pss_cons (ps_set (i := 3) sc_law_take.nd rfl (Or.inl rfl) (pe_op op_mod (pe_callTy call_int1 (by rfl) z.int (by decide +kernel) (pa_cons (pe_op op_add (pe_op op_mul (pe_dget hu (pv 0) pe_str (fun _ _ => rfl)) pe_int) (pe_op op_mul (pe_dget hu (pv 0) pe_str (fun _ _ => rfl)) pe_int)) pa_nil)) pe_int))
        (pss_cons (ps_set (i := 3) sc_law_take.nd rfl (Or.inl rfl) (pe_op op_mod (pe_callTy call_int1 (by rfl) z.int (by decide +kernel) (pa_cons (pe_op op_add (pe_op op_add (pe_op op_mul (pv 3) (pv 3)) (pe_op op_mul (pe_dget hu (pv 0) pe_str (fun _ _ => rfl)) pe_int)) pe_int) pa_nil)) pe_int))
        (pss_one (ps_ret (pe_op op_mod (pe_callTy call_int1 (by rfl) z.int (by decide +kernel) (pa_cons (pv 3) pa_nil)) (pv 1))))))))), ?_⟩
    refine ⟨fun σ' H' => ∃ a l m : Int, σ' = [some (.ref t), some (.int many), none, none] ∧ H' t = some (.dK (tk c a l s0 m)) ∧ 0 ≤ a ∧ 0 ≤ l ∧ SameX t H H', ?_, ?_⟩
    · refine ⟨_, rfl, t, .int l, rfl, d_left hd, rfl, _, rfl, ?_⟩
      refine ite2 (fun e0 => ?_) (fun e0 => ?_)
      · refine ⟨_, rfl, t, .int a, rfl, d_at hd, _, rfl, t, .ref c, rfl, d_cells hd, c, _, rfl, .inl (SqL.of hc), _, _, rfl, rfl, _, rfl, ?_⟩
        refine ite2 (fun e1 => ?_) (fun e1 => ?_)
        · have e2 : a < (((cs.map V.int).length : Nat) : Int) := of_decide_eq_true e1
          rw [List.length_map] at e2
          have hk : a.toNat < cs.length := by omega
          have hat : atI (cs.map V.int) a = some (.int cs[a.toNat]) := at_of (j := a.toNat) (by omega) (by rw [List.getElem?_map, List.getElem?_eq_getElem hk]; rfl)
          have hx : 0 ≤ cs[a.toNat] := hn _ (List.getElem_mem hk)
          refine ⟨_, rfl, t, .ref c, rfl, d_cells hd, _, rfl, t, .int a, rfl, d_at hd, c, _, a, _, rfl, rfl, SqL.of hc, hat, _, rfl, t, _, rfl, p_left hd _, ?_⟩
          refine ⟨_, rfl, t, .int a, rfl, d_at upd_same, _, _, rfl, rfl, _, rfl, t, _, rfl, p_at upd_same _, ?_⟩
          exact ⟨a + 1, _, m, rfl, upd_same, by omega, hx, (SameX.upd _).trans (SameX.upd _)⟩
        · exact ⟨a, l, m, rfl, hd, ha, hl, SameX.refl _ _⟩
      · exact ⟨a, l, m, rfl, hd, ha, hl, SameX.refl _ _⟩
    · rintro σ1 H1 ⟨a, l, m, rfl, hd, ha, hl, S1⟩
      have hc1 : H1 c = some (.lst (cs.map V.int)) := S1 _ _ hc cne
      refine ⟨_, rfl, t, .int l, rfl, d_left hd, _, _, rfl, rfl, _, rfl, ?_⟩
      refine ite2 (fun e0 => ?_) (fun e0 => ?_)
      · refine ⟨_, rfl, t, .int l, rfl, d_left hd, .inl ⟨_, rfl, _, rfl, _, _, rfl, rfl, h0, ?_⟩⟩
        refine ⟨_, rfl, t, .int l, rfl, d_left hd, _, rfl, _, _, rfl, rfl, wide_div h0 h9 (by decide) (by decide), _, rfl, t, _, rfl, p_left hd _, ?_⟩
        refine ⟨_, rfl, ?_⟩
        refine q _ _ (Int.emod_nonneg _ (by omega)) (Int.emod_lt_of_pos _ h0) ⟨⟨a, _, s0, m, upd_same, ha, Int.ediv_nonneg hl (by omega)⟩, by rw [upd_ne cne]; exact hc1, hn⟩ (S1.trans (SameX.upd _))
      · refine ⟨_, rfl, t, .int m, rfl, d_salt hd, _, _, rfl, rfl, _, rfl, t, _, rfl, p_salt hd _, ?_⟩
        have hd2 : upd H1 t (.dK (tk c a l s0 (m + 1))) t = some (.dK (tk c a l s0 (m + 1))) := upd_same
        refine ⟨_, rfl, t, .int s0, rfl, d_seed hd2, _, _, rfl, rfl, .inr ⟨by decide, by decide⟩, _, rfl, t, .int _, rfl, d_salt hd2, _, _, rfl, rfl, .inr ⟨by decide, by decide⟩, _, _, rfl, rfl, .inl ⟨_, rfl, _, _, rfl, rfl, (by show (0 : Int) < 2147483647; decide), ?_⟩⟩
        generalize hmx : (s0 * 48271 + (m + 1) * 69621) % 2147483647 = mx
        have b1 : 0 ≤ mx := by rw [← hmx]; exact Int.emod_nonneg _ (by decide)
        have b2 : mx < 2147483647 := by rw [← hmx]; exact Int.emod_lt_of_pos _ (by decide)
        refine ⟨_, rfl, _, rfl, _, _, rfl, rfl, .inl ⟨by omega, by omega⟩, _, rfl, t, .int _, rfl, d_salt hd2, _, _, rfl, rfl, .inr ⟨by decide, by decide⟩, _, _, rfl, rfl, _, _, rfl, rfl, .inl ⟨_, rfl, _, _, rfl, rfl, (by show (0 : Int) < 2147483399; decide), ?_⟩⟩
        refine ⟨_, rfl, .inl ⟨_, rfl, _, rfl, _, _, rfl, rfl, h0, ?_⟩⟩
        exact q _ _ (Int.emod_nonneg _ (by omega)) (Int.emod_lt_of_pos _ h0) ⟨⟨a, l, s0, m + 1, hd2, ha, hl⟩, by rw [upd_ne cne]; exact hc1, hn⟩ (S1.trans (SameX.upd _)))
theorem ok_Disk_limit_power {C_Disk : Addr} {f : Addr} {fd : FuncData} (k : KnM K "limit_power" "Disk.limit_power" s_Disk_limit_power ["self", "units"] C_Disk f fd) (z : Z K mg)
    (t_Disk : T_Disk K mg C_Disk) :
    CalM CX0 P w K mg base 1 "limit_power" ["self", "units"] (spLimit C_Disk) C_Disk f fd := k.cal (by
  refine k.F.ok sc_Disk_limit_power (fun vs H Q E h => ?_) (fun cdv A outer s H vs Q E hr h => ?_)
  · obtain ⟨p, own, S, n, rfl, _⟩ := h; rfl
  · obtain ⟨p, own, S, n, rfl, ⟨A, D, l, h, rfl⟩, q⟩ := h
    obtain ⟨dx, ho⟩ := h.o
    refine ⟨_, (pss_one (ps_fld (pv 0) (pv 1) rfl)), ?_⟩
    refine ⟨_, rfl, _, rfl, p, C_Disk, dx, _, rfl, ho, t_Disk.cl, t_Disk.n__power, dfs_len _ _ _, ?_⟩
    have e' : putF "_power" (.int (n : Int)) (dfs A D S) = dfs A D ⟨S.ar, S.su, some n, S.dn⟩ := dfs_putp A D S (some n)
    rw [e']
    exact q _ ⟨A, D, l, h.obj rfl rfl, rfl⟩ ((Fr.refl _ _).upd (.inl (by simp [ownD]))))
theorem ok_Disk__spend {C_Disk : Addr} {f : Addr} {fd : FuncData} (k : KnM K "_spend" "Disk._spend" s_Disk__spend ["self", "units"] C_Disk f fd) (z : Z K mg)
    (t_Disk : T_Disk K mg C_Disk)
    {C_PowerError S_PowerError : Addr} (e_PowerError : Err0 K mg "PowerError" C_PowerError S_PowerError) :
    CalM (L2N.CX P w) P w K mg base 3 "_spend" ["self", "units"] (spSpend C_Disk C_PowerError) C_Disk f fd := k.cal (by
  refine okN k.F sc_Disk__spend (fun vs H Q E h => ?_) (fun cdv A outer s H vs Q E hr h => ?_)
  · obtain ⟨p, own, S, n, rfl, _⟩ := h; rfl
  · obtain ⟨p, own, S, n, rfl, ⟨A, D, l, h, rfl⟩, q1, q2⟩ := h
    obtain ⟨dx, ho⟩ := h.o
    refine ⟨_, (pss_cons (ps_if (pt_val (pe_fld (pv 0) rfl)) (pss_one (L2N.ps_raise rfl (L2N.takes_of rfl rfl rfl rfl) (pmk_own0 PySem.F.excBase_ValueError e_PowerError.xP e_PowerError.gC e_PowerError.kP (raises_own e_PowerError.bP e_PowerError.tP) rfl))) pss_nil)
        (pss_cons (ps_if (pt_cmpR op_isN (pe_fld (pv 0) rfl) pe_non (nomark _)) (pss_one (ps_ret (pv 1))) pss_nil)
        (pss_cons (ps_set (i := 2) sc_Disk__spend.nd rfl (Or.inl rfl) (pe_callB (call_min2 rfl) (by rfl) z.min (by decide +kernel) (pa_cons (pv 1) (pa_cons (pe_fld (pv 0) rfl) pa_nil))))
        (pss_cons (ps_fld (pv 0) (pe_op op_sub (pe_fld (pv 0) rfl) (pv 2)) rfl)
        (pss_cons (ps_fld (pv 0) (pe_cmpR op_lt (pv 2) (pv 1) (nomark _)) rfl)
        (pss_one (ps_ret (pv 2)))))))), ?_⟩
    refine ⟨_, rfl, p, C_Disk, dx, _, _, rfl, ho, t_Disk.cl, t_Disk.n__is_down, dfs_i _ _ _, _, rfl, ?_⟩
    refine ite2 (fun hd => q1 hd) (fun hd => ?_)
    have hd' : S.dn = false := by cases e : S.dn with
      | true => exact absurd e hd
      | false => rfl
    refine ⟨_, rfl, p, C_Disk, dx, _, _, rfl, ho, t_Disk.cl, t_Disk.n__power, dfs_p _ _ _, rfl, _, rfl, ?_⟩
    cases ep : S.pw with
    | none =>
      have e1 : S.spend n = S := by unfold DS.spend; rw [ep]
      have e2 : S.left n = n := by unfold DS.left; rw [ep]
      refine iteDT rfl ⟨_, rfl, ?_⟩
      have := q2 hd' H (by rw [e1]; exact ⟨A, D, l, h, rfl⟩) (Fr.refl _ _)
      rw [e2] at this; exact this
    | some m =>
      have e1 : S.spend n = ⟨S.ar, S.su, some (m - min n m), decide (min n m < n)⟩ := by unfold DS.spend; rw [ep]
      have e2 : S.left n = min n m := by unfold DS.left; rw [ep]
      refine iteDF (fun e => nomatch e) ?_
      refine ⟨_, rfl, _, rfl, p, C_Disk, dx, _, .int m, rfl, ho, t_Disk.cl, t_Disk.n__power, (by rw [dfs_p, ep]; rfl), _, _, rfl, ?_⟩
      have es : (if (m : Int) < (n : Int) then (m : Int) else n) = ((min n m : Nat) : Int) := by split <;> omega
      rw [es]
      refine ⟨_, rfl, p, C_Disk, dx, _, .int m, rfl, ho, t_Disk.cl, t_Disk.n__power, (by rw [dfs_p, ep]; rfl), _, rfl, _, _, rfl, rfl, ?_⟩
      have ed : (m : Int) - ((min n m : Nat) : Int) = ((m - min n m : Nat) : Int) := by omega
      have e' : putF "_power" (.int ((m : Int) - ((min n m : Nat) : Int))) (dfs A D S) = dfs A D ⟨S.ar, S.su, some (m - min n m), S.dn⟩ := by
        rw [ed]; exact dfs_putp A D S (some (m - min n m))
      refine ⟨_, rfl, p, C_Disk, dx, _, rfl, ho, t_Disk.cl, t_Disk.n__power, dfs_len _ _ _, ?_⟩
      have h1 : DiskP C_Disk (upd H p (.ins C_Disk dx (putF "_power" (.int ((m : Int) - ((min n m : Nat) : Int))) (dfs A D S)))) p A D l ⟨S.ar, S.su, some (m - min n m), S.dn⟩ := by
        rw [e']
        exact h.obj rfl rfl
      refine ⟨_, rfl, _, rfl, _, _, rfl, rfl, _, rfl, p, C_Disk, dx, _, rfl, upd_same, t_Disk.cl, t_Disk.n__is_down, (by rw [e']; exact dfs_len _ _ _), ?_⟩
      refine ⟨_, rfl, ?_⟩
      have eb : decide (((min n m : Nat) : Int) < (n : Int)) = decide (min n m < n) := by
        by_cases c : min n m < n
        · rw [decide_eq_true c, decide_eq_true (by omega)]
        · rw [decide_eq_false c, decide_eq_false (by omega)]
      have h2 : DiskP C_Disk (upd (upd H p (.ins C_Disk dx (putF "_power" (.int ((m : Int) - ((min n m : Nat) : Int))) (dfs A D S)))) p (.ins C_Disk dx (putF "_is_down" (.bl (decide (((min n m : Nat) : Int) < (n : Int)))) (putF "_power" (.int ((m : Int) - ((min n m : Nat) : Int))) (dfs A D S))))) p A D l (S.spend n) := by
        rw [e1, eb, e', dfs_puti]
        rw [e'] at h1
        exact h1.obj rfl rfl
      have f2 : Fr (ownD p A D l) H (upd (upd H p (.ins C_Disk dx (putF "_power" (.int ((m : Int) - ((min n m : Nat) : Int))) (dfs A D S)))) p (.ins C_Disk dx (putF "_is_down" (.bl (decide (((min n m : Nat) : Int) < (n : Int)))) (putF "_power" (.int ((m : Int) - ((min n m : Nat) : Int))) (dfs A D S))))) := ((Fr.refl _ _).upd (.inl (by simp [ownD]))).upd (.inl (by simp [ownD]))
      have := q2 hd' _ ⟨A, D, l, h2, rfl⟩ f2
      rw [e2] at this
      exact this)
theorem ok_Disk__refuse_when_down {C_Disk : Addr} {f : Addr} {fd : FuncData} (k : KnM K "_refuse_when_down" "Disk._refuse_when_down" s_Disk__refuse_when_down ["self"] C_Disk f fd) (z : Z K mg)
    (t_Disk : T_Disk K mg C_Disk)
    {C_PowerError S_PowerError : Addr} (e_PowerError : Err0 K mg "PowerError" C_PowerError S_PowerError) :
    CalM (L2N.CX P w) P w K mg base 3 "_refuse_when_down" ["self"] (spRefuse C_Disk C_PowerError) C_Disk f fd := k.cal (by
  refine okN k.F sc_Disk__refuse_when_down (fun vs H Q E h => ?_) (fun cdv A outer s H vs Q E hr h => ?_)
  · obtain ⟨p, own, S, rfl, _⟩ := h; rfl
  · obtain ⟨p, own, S, rfl, ⟨A, D, l, h, rfl⟩, q1, q2⟩ := h
    obtain ⟨dx, ho⟩ := h.o
    refine ⟨_, (pss_one (ps_if (pt_val (pe_fld (pv 0) rfl)) (pss_one (L2N.ps_raise rfl (L2N.takes_of rfl rfl rfl rfl) (pmk_own0 PySem.F.excBase_ValueError e_PowerError.xP e_PowerError.gC e_PowerError.kP (raises_own e_PowerError.bP e_PowerError.tP) rfl))) pss_nil)), ?_⟩
    refine ⟨_, rfl, p, C_Disk, dx, _, _, rfl, ho, t_Disk.cl, t_Disk.n__is_down, dfs_i _ _ _, _, rfl, ?_⟩
    refine ite2 (fun hd => q1 hd) (fun hd => ?_)
    refine q2 ?_
    cases e : S.dn with
    | true => exact absurd e hd
    | false => rfl)
theorem ok_Disk_append {C_Disk : Addr} {f : Addr} {fd : FuncData} (k : KnM K "append" "Disk.append" s_Disk_append ["self", "area", "numbers"] C_Disk f fd) (z : Z K mg)
    (t_Disk : T_Disk K mg C_Disk)
    {C_PowerError S_PowerError : Addr} (e_PowerError : Err0 K mg "PowerError" C_PowerError S_PowerError)
    {g_Disk__spend : Addr} {gd_Disk__spend : FuncData} (c_Disk__spend : CalM (L2N.CX P w) P w K mg base 3 "_spend" ["self", "units"] (spSpend C_Disk C_PowerError) C_Disk g_Disk__spend gd_Disk__spend)
    {g_Disk__refuse_when_down : Addr} {gd_Disk__refuse_when_down : FuncData} (c_Disk__refuse_when_down : CalM (L2N.CX P w) P w K mg base 3 "_refuse_when_down" ["self"] (spRefuse C_Disk C_PowerError) C_Disk g_Disk__refuse_when_down gd_Disk__refuse_when_down) :
    CalM (L2N.CX P w) P w K mg base 4 "append" ["self", "area", "numbers"] (spAppend C_Disk C_PowerError) C_Disk f fd := k.cal (by
  refine okN k.F sc_Disk_append (fun vs H Q E h => ?_) (fun cdv A outer s H vs Q E hr h => ?_)
  · obtain ⟨p, own, S, b, xs, a, rfl, _⟩ := h; rfl
  · obtain ⟨p, own, S, b, xs, a, rfl, ⟨A, D, l, h, rfl⟩, ha, na, hl, q⟩ := h
    have hu := hu_of hr
    obtain ⟨dx, ho⟩ := h.o
    refine ⟨_, (pss_cons (ps_set (i := 3) sc_Disk_append.nd rfl (Or.inl rfl) (pe_meth (pv 0) t_Disk.cl c_Disk__spend.mt c_Disk__spend.G (hr.mono (by decide)) c_Disk__spend.b .nil (L2N.passes_call (L2N.takes_of rfl rfl rfl rfl) (fun _ _ _ _ h => h)) (pa_cons (pe_callB call_len_seq (by rfl) z.len (by decide +kernel) (pa_cons (pv 2) pa_nil)) pa_nil)))
        (pss_cons (ps_expr (pe_bm PySem.F.plainAttrs_list PySem.F.slot_list_extend PySem.F.type_list_extend mt_extend (pe_dget hu (pe_fld (pv 0) rfl) (pv 1) (fun _ _ => rfl)) (pa_cons (pe_slice sl_list (pv 2) po_none (po_some (pv 3))) pa_nil)))
        (pss_one (ps_expr (pe_meth0 (pv 0) t_Disk.cl c_Disk__refuse_when_down.mt c_Disk__refuse_when_down.G (hr.mono (by decide)) c_Disk__refuse_when_down.b .nil (L2N.passes_call (L2N.takes_of rfl rfl rfl rfl) (fun _ _ _ _ h => h))))))), ?_⟩
    refine ⟨_, rfl, p, dx, _, rfl, ho, dfs_no _ _ _ (by decide +kernel) (by decide +kernel) (by decide +kernel) (by decide +kernel), _, rfl, a, _, rfl, .inl (SqL.of ha), ?_⟩
    rw [List.length_map]
    refine ⟨p, _, S, xs.length, rfl, ⟨A, D, l, h, rfl⟩, fun hd => ?_, fun hd H1 h1 f1 => ?_⟩
    · have e : S.go (.app b xs) = S := by unfold DS.go; rw [if_pos hd]
      exact (q H _ (by rw [e]; exact ⟨A, D, l, h, rfl⟩) (Fr.refl _ _) (fun _ hb => .inl hb)).1 (by rw [e]; exact hd)
    obtain ⟨A', D', l', h1, eo⟩ := h1
    have eA : A' = A ∧ D' = D ∧ l' false = l false ∧ l' true = l true := by
      simp only [ownD, List.cons.injEq] at eo
      exact ⟨eo.2.1.symm, eo.2.2.1.symm, eo.2.2.2.1.symm, eo.2.2.2.2.1.symm⟩
    obtain ⟨e1, e2, e3, e4⟩ := eA
    have e5 : l' = l := by funext x; cases x <;> assumption
    subst e1 e2 e5
    have ha1 : H1 a = some (.lst (xs.map V.int)) := f1 _ _ ha na
    obtain ⟨dx1, ho1⟩ := h1.o
    refine ⟨_, rfl, p, C_Disk, dx1, _, _, rfl, ho1, t_Disk.cl, t_Disk.n__areas, dfs_a _ _ _, _, rfl, A', _, rfl, bd_dget h1.a b, .inl ⟨rfl, _, SqL.of (h1.ls b)⟩, ?_⟩
    refine ⟨_, rfl, _, rfl, _, rfl, a, _, rfl, SqL.of ha1, fun w hw => ?_⟩
    have hw1 := same_new hw (.lst (cutV (xs.map V.int) none (some ((S.left xs.length : Nat) : Int))))
    refine ⟨l' b, w, _, _, rfl, rfl, hw1 _ _ (h1.ls b), upd_same, ?_, ?_⟩
    · have k1 := cutV_length (xs.map V.int) none (some ((S.left xs.length : Nat) : Int))
      rw [List.length_map] at k1
      rw [List.length_map, S.spend_ar]
      exact Nat.le_of_lt (small1000 (by omega))
    rw [cut_take, ← List.map_take, ← List.map_append]
    have h2 : DiskP C_Disk (upd H1 w (.lst (cutV (xs.map V.int) none (some ((S.left xs.length : Nat) : Int))))) p A' D' l' (S.spend xs.length) := h1.same fun b o e _ => hw1 b o e
    have h3 := h2.lst b ((S.spend xs.length).ar b ++ xs.take (S.left xs.length))
    rw [cut_take] at h3
    have eg : S.go (.app b xs) = ⟨setB (S.spend xs.length).ar b ((S.spend xs.length).ar b ++ xs.take (S.left xs.length)), (S.spend xs.length).su, (S.spend xs.length).pw, (S.spend xs.length).dn⟩ := by unfold DS.go; rw [if_neg (by rw [hd]; decide)]; rfl
    rw [← eg] at h3
    rw [← List.map_take] at h3
    have f3 := (Fr.trans (own := ownD p A' D' l') (own' := ownD p A' D' l') f1 (Fr.of hw1) (fun _ hx => .inl hx)).upd (x := l' b) (o := .lst (((S.spend xs.length).ar b ++ xs.take (S.left xs.length)).map V.int)) (.inl (by cases b <;> simp [ownD]))
    rw [cut_take, ← List.map_take] at f3
    obtain ⟨dx3, ho3⟩ := h3.o
    have Q3 := q _ _ ⟨A', D', l', h3, rfl⟩ f3 (fun _ hb => .inl hb)
    exact ⟨_, rfl, p, dx3, _, rfl, ho3, dfs_no _ _ _ (by decide +kernel) (by decide +kernel) (by decide +kernel) (by decide +kernel), p, _, _, rfl, ⟨A', D', l', h3, rfl⟩, Q3.1, Q3.2⟩)
theorem ok_Disk_sync {C_Disk : Addr} {f : Addr} {fd : FuncData} (k : KnM K "sync" "Disk.sync" s_Disk_sync ["self", "area"] C_Disk f fd) (z : Z K mg)
    (t_Disk : T_Disk K mg C_Disk)
    {C_PowerError S_PowerError : Addr} (e_PowerError : Err0 K mg "PowerError" C_PowerError S_PowerError)
    {g_Disk__spend : Addr} {gd_Disk__spend : FuncData} (c_Disk__spend : CalM (L2N.CX P w) P w K mg base 3 "_spend" ["self", "units"] (spSpend C_Disk C_PowerError) C_Disk g_Disk__spend gd_Disk__spend)
    {g_Disk__refuse_when_down : Addr} {gd_Disk__refuse_when_down : FuncData} (c_Disk__refuse_when_down : CalM (L2N.CX P w) P w K mg base 3 "_refuse_when_down" ["self"] (spRefuse C_Disk C_PowerError) C_Disk g_Disk__refuse_when_down gd_Disk__refuse_when_down) :
    CalM (L2N.CX P w) P w K mg base 4 "sync" ["self", "area"] (spSync C_Disk C_PowerError) C_Disk f fd := k.cal (by
  refine okN k.F sc_Disk_sync (fun vs H Q E h => ?_) (fun cdv A outer s H vs Q E hr h => ?_)
  · obtain ⟨p, own, S, b, rfl, _⟩ := h; rfl
  · obtain ⟨p, own, S, b, rfl, ⟨A, D, l, h, rfl⟩, hl, q⟩ := h
    have hu := hu_of hr
    obtain ⟨dx, ho⟩ := h.o
    refine ⟨_, (pss_cons (ps_expr (pe_meth (pv 0) t_Disk.cl c_Disk__spend.mt c_Disk__spend.G (hr.mono (by decide)) c_Disk__spend.b .nil (L2N.passes_call (L2N.takes_of rfl rfl rfl rfl) (fun _ _ _ _ h => h)) (pa_cons pe_int pa_nil)))
        (pss_cons (ps_expr (pe_meth0 (pv 0) t_Disk.cl c_Disk__refuse_when_down.mt c_Disk__refuse_when_down.G (hr.mono (by decide)) c_Disk__refuse_when_down.b .nil (L2N.passes_call (L2N.takes_of rfl rfl rfl rfl) (fun _ _ _ _ h => h))))
        (pss_one (ps_dput hu (pe_fld (pv 0) rfl) (pv 1) (pe_callB call_len_seq (by rfl) z.len (by decide +kernel) (pa_cons (pe_dget hu (pe_fld (pv 0) rfl) (pv 1) (fun _ _ => rfl)) pa_nil)) rfl)))), ?_⟩
    refine ⟨_, rfl, p, dx, _, rfl, ho, dfs_no _ _ _ (by decide +kernel) (by decide +kernel) (by decide +kernel) (by decide +kernel), ?_⟩
    refine ⟨p, _, S, 1, rfl, ⟨A, D, l, h, rfl⟩, fun hd => ?_, fun hd H1 h1 f1 => ?_⟩
    · have e : S.go (.syn b) = S := by unfold DS.go; rw [if_pos hd]
      exact (q H _ (by rw [e]; exact ⟨A, D, l, h, rfl⟩) (Fr.refl _ _) (fun _ hb => .inl hb)).1 (by rw [e]; exact hd)
    obtain ⟨A', D', l', h1, eo⟩ := h1
    have eA : A' = A ∧ D' = D ∧ l' false = l false ∧ l' true = l true := by
      simp only [ownD, List.cons.injEq] at eo
      exact ⟨eo.2.1.symm, eo.2.2.1.symm, eo.2.2.2.1.symm, eo.2.2.2.2.1.symm⟩
    obtain ⟨e1, e2, e3, e4⟩ := eA
    have e5 : l' = l := by funext x; cases x <;> assumption
    subst e1 e2 e5
    obtain ⟨dx1, ho1⟩ := h1.o
    have eg : S.go (.syn b) = if (S.spend 1).dn = true then S.spend 1 else ⟨(S.spend 1).ar, setB (S.spend 1).su b ((S.spend 1).ar b).length, (S.spend 1).pw, (S.spend 1).dn⟩ := by unfold DS.go; rw [if_neg (by rw [hd]; decide)]; rfl
    refine ⟨_, rfl, p, dx1, _, rfl, ho1, dfs_no _ _ _ (by decide +kernel) (by decide +kernel) (by decide +kernel) (by decide +kernel), p, _, _, rfl, ⟨A', D', l', h1, rfl⟩, fun hd1 => ?_, fun hd1 => ?_⟩
    · rw [if_pos hd1] at eg
      exact (q H1 _ (by rw [eg]; exact ⟨A', D', l', h1, rfl⟩) f1 (fun _ hb => .inl hb)).1 (by rw [eg]; exact hd1)
    · rw [if_neg (by rw [hd1]; decide)] at eg
      refine ⟨_, rfl, p, C_Disk, dx1, _, _, rfl, ho1, t_Disk.cl, t_Disk.n__areas, dfs_a _ _ _, _, rfl, A', _, rfl, bd_dget h1.a b, l' b, _, rfl, .inl (SqL.of (h1.ls b)), ?_⟩
      refine ⟨_, rfl, p, C_Disk, dx1, _, _, rfl, ho1, t_Disk.cl, t_Disk.n__durables, dfs_d _ _ _, _, rfl, D', _, rfl, bd_dput h1.d b _, ?_⟩
      rw [List.length_map]
      exact (q _ _ (by rw [eg]; exact ⟨A', D', l', h1.dur b _, rfl⟩) (f1.upd (.inl (by simp [ownD]))) (fun _ hb => .inl hb)).2 (by rw [eg]; exact hd1))
theorem ok_Disk_wipe {C_Disk : Addr} {f : Addr} {fd : FuncData} (k : KnM K "wipe" "Disk.wipe" s_Disk_wipe ["self", "area"] C_Disk f fd) (z : Z K mg)
    (t_Disk : T_Disk K mg C_Disk)
    {C_PowerError S_PowerError : Addr} (e_PowerError : Err0 K mg "PowerError" C_PowerError S_PowerError)
    {g_Disk__spend : Addr} {gd_Disk__spend : FuncData} (c_Disk__spend : CalM (L2N.CX P w) P w K mg base 3 "_spend" ["self", "units"] (spSpend C_Disk C_PowerError) C_Disk g_Disk__spend gd_Disk__spend)
    {g_Disk__refuse_when_down : Addr} {gd_Disk__refuse_when_down : FuncData} (c_Disk__refuse_when_down : CalM (L2N.CX P w) P w K mg base 3 "_refuse_when_down" ["self"] (spRefuse C_Disk C_PowerError) C_Disk g_Disk__refuse_when_down gd_Disk__refuse_when_down) :
    CalM (L2N.CX P w) P w K mg base 4 "wipe" ["self", "area"] (spWipe C_Disk C_PowerError) C_Disk f fd := k.cal (by
  refine okN k.F sc_Disk_wipe (fun vs H Q E h => ?_) (fun cdv A outer s H vs Q E hr h => ?_)
  · obtain ⟨p, own, S, b, rfl, _⟩ := h; rfl
  · obtain ⟨p, own, S, b, rfl, ⟨A, D, l, h, rfl⟩, q⟩ := h
    have hu := hu_of hr
    obtain ⟨dx, ho⟩ := h.o
    refine ⟨_, (pss_cons (ps_expr (pe_meth (pv 0) t_Disk.cl c_Disk__spend.mt c_Disk__spend.G (hr.mono (by decide)) c_Disk__spend.b .nil (L2N.passes_call (L2N.takes_of rfl rfl rfl rfl) (fun _ _ _ _ h => h)) (pa_cons pe_int pa_nil)))
        (pss_cons (ps_expr (pe_meth0 (pv 0) t_Disk.cl c_Disk__refuse_when_down.mt c_Disk__refuse_when_down.G (hr.mono (by decide)) c_Disk__refuse_when_down.b .nil (L2N.passes_call (L2N.takes_of rfl rfl rfl rfl) (fun _ _ _ _ h => h))))
        (pss_cons (ps_dput hu (pe_fld (pv 0) rfl) (pv 1) (pe_lst pa_nil) rfl)
        (pss_one (ps_dput hu (pe_fld (pv 0) rfl) (pv 1) pe_int rfl))))), ?_⟩
    refine ⟨_, rfl, p, dx, _, rfl, ho, dfs_no _ _ _ (by decide +kernel) (by decide +kernel) (by decide +kernel) (by decide +kernel), ?_⟩
    refine ⟨p, _, S, 1, rfl, ⟨A, D, l, h, rfl⟩, fun hd => ?_, fun hd H1 h1 f1 => ?_⟩
    · have e : S.go (.wip b) = S := by unfold DS.go; rw [if_pos hd]
      exact (q H _ (by rw [e]; exact ⟨A, D, l, h, rfl⟩) (Fr.refl _ _) (fun _ hb => .inl hb)).1 (by rw [e]; exact hd)
    obtain ⟨A', D', l', h1, eo⟩ := h1
    have eA : A' = A ∧ D' = D ∧ l' false = l false ∧ l' true = l true := by
      simp only [ownD, List.cons.injEq] at eo
      exact ⟨eo.2.1.symm, eo.2.2.1.symm, eo.2.2.2.1.symm, eo.2.2.2.2.1.symm⟩
    obtain ⟨e1, e2, e3, e4⟩ := eA
    have e5 : l' = l := by funext x; cases x <;> assumption
    subst e1 e2 e5
    obtain ⟨dx1, ho1⟩ := h1.o
    have eg : S.go (.wip b) = if (S.spend 1).dn = true then S.spend 1 else ⟨setB (S.spend 1).ar b [], setB (S.spend 1).su b 0, (S.spend 1).pw, (S.spend 1).dn⟩ := by unfold DS.go; rw [if_neg (by rw [hd]; decide)]; rfl
    refine ⟨_, rfl, p, dx1, _, rfl, ho1, dfs_no _ _ _ (by decide +kernel) (by decide +kernel) (by decide +kernel) (by decide +kernel), p, _, _, rfl, ⟨A', D', l', h1, rfl⟩, fun hd1 => ?_, fun hd1 => ?_⟩
    · rw [if_pos hd1] at eg
      exact (q H1 _ (by rw [eg]; exact ⟨A', D', l', h1, rfl⟩) f1 (fun _ hb => .inl hb)).1 (by rw [eg]; exact hd1)
    · rw [if_neg (by rw [hd1]; decide)] at eg
      refine ⟨Nat.zero_le _, fun w hw => ?_⟩
      have s1 := same_new hw (.lst [])
      refine ⟨_, rfl, p, C_Disk, dx1, _, _, rfl, s1 _ _ ho1, t_Disk.cl, t_Disk.n__areas, dfs_a _ _ _, _, rfl, A', _, rfl, bd_dput (s1 _ _ h1.a) b _, ?_⟩
      have h2 := h1.area b hw
      obtain ⟨dx2, ho2⟩ := h2.o
      refine ⟨_, rfl, p, C_Disk, dx2, _, _, rfl, ho2, t_Disk.cl, t_Disk.n__durables, dfs_d _ _ _, _, rfl, D', _, rfl, bd_dput h2.d b _, ?_⟩
      refine (q _ _ (by rw [eg]; exact ⟨A', D', setB l' b w, h2.dur b 0, rfl⟩) (((f1.upd (.inr ?_)).upd (.inl (by simp [ownD]))).upd (.inl (by simp [ownD]))) ?_).2 (by rw [eg]; exact hd1)
      · cases e : H w with
        | none => rfl
        | some o => exact absurd hw (by
            by_cases hm : w ∈ ownD p A' D' l'
            · exact h1.in_ hm
            · rw [f1 _ _ e hm]; intro z; cases z)
      · intro x hx
        have hw0 : H w = none := by
          cases e : H w with
          | none => rfl
          | some o => exact absurd hw (by
              by_cases hm : w ∈ ownD p A' D' l'
              · exact h1.in_ hm
              · rw [f1 _ _ e hm]; intro z; cases z)
        simp only [ownD, List.mem_cons, List.mem_nil_iff, or_false, setB] at hx ⊢
        cases b
        · rcases hx with rfl | rfl | rfl | rfl | rfl
          · exact .inl (.inl rfl)
          · exact .inl (.inr (.inl rfl))
          · exact .inl (.inr (.inr (.inl rfl)))
          · exact .inr hw0
          · exact .inl (.inr (.inr (.inr (.inr rfl))))
        · rcases hx with rfl | rfl | rfl | rfl | rfl
          · exact .inl (.inl rfl)
          · exact .inl (.inr (.inl rfl))
          · exact .inl (.inr (.inr (.inl rfl)))
          · exact .inl (.inr (.inr (.inr (.inl rfl))))
          · exact .inr hw0)
theorem ok_law_call {f : Addr} {fd : FuncData} (k : Kn K mg "_law_call" s_law_call ["disk", "act"] f fd) (z : Z K mg)
    {C_Disk : Addr} (t_Disk : T_Disk K mg C_Disk)
    {C_PowerError S_PowerError : Addr} (e_PowerError : Err0 K mg "PowerError" C_PowerError S_PowerError)
    {g_Disk_append : Addr} {gd_Disk_append : FuncData} (c_Disk_append : CalM (L2N.CX P w) P w K mg base 4 "append" ["self", "area", "numbers"] (spAppend C_Disk C_PowerError) C_Disk g_Disk_append gd_Disk_append)
    {g_Disk_sync : Addr} {gd_Disk_sync : FuncData} (c_Disk_sync : CalM (L2N.CX P w) P w K mg base 4 "sync" ["self", "area"] (spSync C_Disk C_PowerError) C_Disk g_Disk_sync gd_Disk_sync)
    {g_Disk_wipe : Addr} {gd_Disk_wipe : FuncData} (c_Disk_wipe : CalM (L2N.CX P w) P w K mg base 4 "wipe" ["self", "area"] (spWipe C_Disk C_PowerError) C_Disk g_Disk_wipe gd_Disk_wipe) :
    Cal P w K mg base 5 "_law_call" ["disk", "act"] (spCallAct C_Disk) f fd := k.cal (by
  refine k.F.ok sc_law_call (fun vs H Q E h => ?_) (fun cdv A outer s H vs Q E hr h => ?_)
  · obtain ⟨p, own, S, a, n, o, xs, rfl, _⟩ := h; rfl
  · obtain ⟨p, own, S, a, n, o, xs, rfl, hD, ⟨ha, hn, ho⟩, nn, hl, q⟩ := h
    obtain ⟨A, D, l, h, rfl⟩ := id hD
    obtain ⟨dx, hp⟩ := h.o
    have nos : ∀ {m : Str}, (m == ("_areas" : Str)) = false → (m == ("_durables" : Str)) = false → (m == ("_power" : Str)) = false → (m == ("_is_down" : Str)) = false → (dfs A D S).lookup m = none := fun h1 h2 h3 h4 => dfs_no _ _ _ h1 h2 h3 h4
    refine ⟨_, (pss_cons (L2N.ps_try_as (i := 2) (Wout := fun _ _ _ _ => False) rfl rfl sc_law_call.nd rfl rfl ⟨rfl, by decide, Or.inl e_PowerError.gC⟩ takes0N (fun W pn xe tk _ => (pss_one (ps_if (pt_cmpR op_eq (pe_ix (r := rIxT K) ix_tup (pv 1) pe_int (fun _ _ => rfl)) pe_str (nomark _)) (pss_one (ps_expr (pe_methE (E := WE W) (pv 0) t_Disk.cl c_Disk_append.mt c_Disk_append.G (hr.mono (by decide)) c_Disk_append.b (fun σ => L2N.passAt tk σ) (pa_cons (pe_ix (r := rIxT K) ix_tup (pv 1) pe_int (fun _ _ => rfl)) (pa_cons (pe_ix (r := rIxT K) ix_tup (pv 1) pe_int (fun _ _ => rfl)) pa_nil))))) (pss_one (ps_if (pt_cmpR op_eq (pe_ix (r := rIxT K) ix_tup (pv 1) pe_int (fun _ _ => rfl)) pe_str (nomark _)) (pss_one (ps_expr (pe_methE (E := WE W) (pv 0) t_Disk.cl c_Disk_sync.mt c_Disk_sync.G (hr.mono (by decide)) c_Disk_sync.b (fun σ => L2N.passAt tk σ) (pa_cons (pe_ix (r := rIxT K) ix_tup (pv 1) pe_int (fun _ _ => rfl)) pa_nil)))) (pss_one (ps_expr (pe_methE (E := WE W) (pv 0) t_Disk.cl c_Disk_wipe.mt c_Disk_wipe.G (hr.mono (by decide)) c_Disk_wipe.b (fun σ => L2N.passAt tk σ) (pa_cons (pe_ix (r := rIxT K) ix_tup (pv 1) pe_int (fun _ _ => rfl)) pa_nil)))))))))
        (fun a oe cls d pn hz hf => (pss_one (ps_ret (pe_not (pe_callB (call_isS e_PowerError.is hz.zc hf) (by rfl) z.isinstance (by decide +kernel) (pa_cons (pv 2) (pa_cons (pe_glob (v := V.ref S_PowerError) rfl e_PowerError.g_StoreError rfl) pa_nil))))))))
        (pss_one (ps_ret pe_bl))), ?_⟩
    have fin : ∀ (σ : L2.St) (H' : Hp) (own' : List Addr), DiskAt C_Disk H' p own' (S.go o) → Fr (ownD p A D l) H H' → (∀ b ∈ own', b ∈ ownD p A D l ∨ H b = none) → True := fun _ _ _ _ _ _ => True.intro
    cases o with
    | app b ys =>
      have ey := ho b ys rfl
      subst ey
      refine ⟨_, rfl, a, _, 0, _, rfl, rfl, SqT.of ha, atI_nat (j := 0) rfl, rfl, _, rfl, iteDT rfl ?_⟩
      refine ⟨_, rfl, p, dx, _, rfl, hp, nos (by decide +kernel) (by decide +kernel) (by decide +kernel) (by decide +kernel), _, rfl, a, _, 1, _, rfl, rfl, SqT.of ha, atI_nat (j := 1) rfl, _, rfl, a, _, 2, _, rfl, rfl, SqT.of ha, atI_nat (j := 2) rfl, ?_⟩
      refine ⟨p, _, S, b, ys, n, rfl, hD, hn, nn, hl b, fun H' own' D' f' n' => ⟨fun hd => ?_, fun hd => ?_⟩⟩
      · refine ⟨true, e_PowerError.te, fun _ ea hea => ?_, fun z => nomatch z⟩
        have Q' := q H' own' D' f' n'
        rw [hd] at Q'
        exact ⟨_, rfl, rfl, rfl, rfl, _, rfl, Q'⟩
      · have Q' := q H' own' D' f' n'
        rw [hd] at Q'
        exact Q'
    | syn b =>
      refine ⟨_, rfl, a, _, 0, _, rfl, rfl, SqT.of ha, atI_nat (j := 0) rfl, rfl, _, rfl, iteDF (by show ¬ V.str "sync" = V.str "append"; decide +kernel) ?_⟩
      refine ⟨_, rfl, a, _, 0, _, rfl, rfl, SqT.of ha, atI_nat (j := 0) rfl, rfl, _, rfl, iteDT rfl ?_⟩
      refine ⟨_, rfl, p, dx, _, rfl, hp, nos (by decide +kernel) (by decide +kernel) (by decide +kernel) (by decide +kernel), _, rfl, a, _, 1, _, rfl, rfl, SqT.of ha, atI_nat (j := 1) rfl, ?_⟩
      refine ⟨p, _, S, b, rfl, hD, by have := hl b; omega, fun H' own' D' f' n' => ⟨fun hd => ?_, fun hd => ?_⟩⟩
      · refine ⟨true, e_PowerError.te, fun _ ea hea => ?_, fun z => nomatch z⟩
        have Q' := q H' own' D' f' n'
        rw [hd] at Q'
        exact ⟨_, rfl, rfl, rfl, rfl, _, rfl, Q'⟩
      · have Q' := q H' own' D' f' n'
        rw [hd] at Q'
        exact Q'
    | wip b =>
      refine ⟨_, rfl, a, _, 0, _, rfl, rfl, SqT.of ha, atI_nat (j := 0) rfl, rfl, _, rfl, iteDF (by show ¬ V.str "wipe" = V.str "append"; decide +kernel) ?_⟩
      refine ⟨_, rfl, a, _, 0, _, rfl, rfl, SqT.of ha, atI_nat (j := 0) rfl, rfl, _, rfl, iteDF (by show ¬ V.str "wipe" = V.str "sync"; decide +kernel) ?_⟩
      refine ⟨_, rfl, p, dx, _, rfl, hp, nos (by decide +kernel) (by decide +kernel) (by decide +kernel) (by decide +kernel), _, rfl, a, _, 1, _, rfl, rfl, SqT.of ha, atI_nat (j := 1) rfl, ?_⟩
      refine ⟨p, _, S, b, rfl, hD, fun H' own' D' f' n' => ⟨fun hd => ?_, fun hd => ?_⟩⟩
      · refine ⟨true, e_PowerError.te, fun _ ea hea => ?_, fun z => nomatch z⟩
        have Q' := q H' own' D' f' n'
        rw [hd] at Q'
        exact ⟨_, rfl, rfl, rfl, rfl, _, rfl, Q'⟩
      · have Q' := q H' own' D' f' n'
        rw [hd] at Q'
        exact Q')
theorem ok_law_do {f : Addr} {fd : FuncData} (k : Kn K mg "_law_do" s_law_do ["known", "act"] f fd) (z : Z K mg) :
    Cal P w K mg base 1 "_law_do" ["known", "act"] (spDoAct) f fd := k.cal (by
  refine k.F.ok sc_law_do (fun vs H Q E h => ?_) (fun cdv A outer s H vs Q E hr h => ?_)
  · obtain ⟨k, own, S, a, n, o, xs, rfl, _⟩ := h; rfl
  · obtain ⟨k, own, S, a, n, o, xs, rfl, hN, ⟨ha, hn, ho⟩, nn, na, hl, q⟩ := h
    have hu := hu_of hr
    obtain ⟨ka, ks, m, h, rfl⟩ := id hN
    have dec : ∀ {H' : Hp} {R : Bool → Prop}, H' a = some (.tup [.str (opName o), .int (bi o.at_), .ref n]) → True := fun _ => True.intro
    refine ⟨_, (pss_cons (ps_if (pt_val (pe_dget hu (pv 0) pe_str (fun _ _ => rfl))) (pss_one (ps_ret pe_bl)) pss_nil)
        (pss_cons (ps_set (i := 2) sc_law_do.nd rfl (Or.inl rfl) pe_int)
        (pss_cut (ps_if (pt_cmpR op_eq (pe_ix ix_tup (pv 1) pe_int (fun _ _ => rfl)) pe_str (nomark _)) (pss_one (ps_set (i := 2) sc_law_do.nd rfl (Or.inl rfl) (pe_callB call_len_seq (by rfl) z.len (by decide +kernel) (pa_cons (pe_ix ix_tup (pv 1) pe_int (fun _ _ => rfl)) pa_nil)))) pss_nil)
        (pss_cut (ps_set (i := 3) sc_law_do.nd rfl (Or.inl rfl) (pe_ifExp (PW.pt (pw_or (pt_cmpR op_isN (pe_dget hu (pv 0) pe_str (fun _ _ => rfl)) pe_non (nomark _)) (pw_or1 (pt_cmpR op_ge (pe_dget hu (pv 0) pe_str (fun _ _ => rfl)) (pv 2) (nomark _))))) (pv 2) (pe_dget hu (pv 0) pe_str (fun _ _ => rfl))))
        (pss_cut (ps_if (pt_cmpR op_notN (pe_dget hu (pv 0) pe_str (fun _ _ => rfl)) pe_non (nomark _)) (pss_one (ps_dput hu (pv 0) pe_str (pe_op op_sub (pe_dget hu (pv 0) pe_str (fun _ _ => rfl)) (pv 3)) rfl)) pss_nil)
        (pss_cons (ps_dput hu (pv 0) pe_str (pe_cmpR op_lt (pv 3) (pv 2) (nomark _)) rfl)
        (pss_cut (ps_if (pt_cmpR op_eq (pe_ix ix_tup (pv 1) pe_int (fun _ _ => rfl)) pe_str (nomark _)) (pss_one (ps_asg (pe_op op_cat (pe_ix ix_list (pe_dget hu (pv 0) pe_str (fun _ _ => rfl)) (pe_ix ix_tup (pv 1) pe_int (fun _ _ => rfl)) (fun _ _ => rfl)) (pe_slice sl_list (pe_ix ix_tup (pv 1) pe_int (fun _ _ => rfl)) po_none (po_some (pv 3)))) (pg_sub (pe_dget hu (pv 0) pe_str (fun _ _ => rfl)) (pe_ix ix_tup (pv 1) pe_int (fun _ _ => rfl)) set_list))) (pss_one (ps_if (pt_not (pt_val (pe_dget hu (pv 0) pe_str (fun _ _ => rfl)))) (pss_cut (ps_if (pt_cmpR op_eq (pe_ix ix_tup (pv 1) pe_int (fun _ _ => rfl)) pe_str (nomark _)) (pss_one (ps_asg (pe_lst pa_nil) (pg_sub (pe_dget hu (pv 0) pe_str (fun _ _ => rfl)) (pe_ix ix_tup (pv 1) pe_int (fun _ _ => rfl)) set_list))) pss_nil)
        (pss_one (ps_asg (pe_callB call_len_seq (by rfl) z.len (by decide +kernel) (pa_cons (pe_ix ix_list (pe_dget hu (pv 0) pe_str (fun _ _ => rfl)) (pe_ix ix_tup (pv 1) pe_int (fun _ _ => rfl)) (fun _ _ => rfl)) pa_nil)) (pg_sub (pe_dget hu (pv 0) pe_str (fun _ _ => rfl)) (pe_ix ix_tup (pv 1) pe_int (fun _ _ => rfl)) set_list)))) pss_nil)))
        (pss_one (ps_ret (pe_not (pe_dget hu (pv 0) pe_str (fun _ _ => rfl)))))))))))), ?_⟩
    refine ⟨_, rfl, k, .bl S.dn, rfl, kg_d h.hk, _, rfl, ?_⟩
    refine ite2 (fun hd => ?_) (fun hd => ?_)
    · have e : S.go o = S := by unfold DS.go; rw [if_pos hd]
      have Q' := q H _ (by rw [e]; exact hN) (Fr.refl _ _) (fun _ hb => .inl hb)
      rw [e, hd] at Q'
      exact Q'
    have hd' : S.dn = false := by cases e : S.dn with
      | true => exact absurd e hd
      | false => rfl
    have eg : S.go o = (S.spend o.need).done (S.left o.need) o := by unfold DS.go; rw [if_neg hd]
    have hnl : o.need ≤ 1000 ∧ (o.need = xs.length ∨ o.need = 1) := by
      cases o with
      | app b ys => have := ho b ys rfl; subst this; have := hl b; exact ⟨by show ys.length ≤ 1000; omega, .inl rfl⟩
      | syn b => exact ⟨by show 1 ≤ 1000; decide, .inr rfl⟩
      | wip b => exact ⟨by show 1 ≤ 1000; decide, .inr rfl⟩
    refine ⟨fun σ H' => σ = [some (.ref k), some (.ref a), some (.int (o.need : Nat)), none] ∧ H' = H, ?_, ?_⟩
    · refine ⟨_, rfl, a, _, 0, _, rfl, rfl, SqT.of ha, atI_nat (j := 0) rfl, rfl, _, rfl, ?_⟩
      cases o with
      | app b ys =>
        have := ho b ys rfl; subst this
        refine iteDT rfl ⟨_, rfl, a, _, 2, _, rfl, rfl, SqT.of ha, atI_nat (j := 2) rfl, n, _, rfl, .inl (SqL.of hn), ?_⟩
        rw [List.length_map]
        exact ⟨rfl, rfl⟩
      | syn b => exact iteDF (by show ¬ V.str "sync" = V.str "append"; decide +kernel) ⟨rfl, rfl⟩
      | wip b => exact iteDF (by show ¬ V.str "wipe" = V.str "append"; decide +kernel) ⟨rfl, rfl⟩
    rintro σ H' ⟨rfl, rfl⟩
    obtain ⟨nd, end_⟩ : ∃ x : Nat, x = o.need := ⟨_, rfl⟩
    rw [← end_] at hnl eg ⊢
    refine ⟨fun σ H1 => σ = [some (.ref k), some (.ref a), some (.int nd), some (.int (S.left nd : Nat))] ∧ H1 = H', ?_, ?_⟩
    · cases ep : S.pw with
      | none =>
        have e2 : S.left nd = nd := by unfold DS.left; rw [ep]
        have kgu := kg_u h.hk
        rw [ep] at kgu
        refine ⟨_, rfl, k, .non, rfl, kgu, rfl, _, rfl, ?_⟩
        refine iteDT rfl ?_
        refine iteT ⟨_, rfl, ?_⟩
        rw [e2]
        exact ⟨rfl, rfl⟩
      | some p =>
        have e2 : S.left nd = min nd p := by unfold DS.left; rw [ep]
        have kgu : DGet H' k (.str "units") (some (.int p)) := by have := kg_u h.hk; rw [ep] at this; exact this
        refine ⟨_, rfl, k, .int p, rfl, kgu, rfl, _, rfl, ?_⟩
        refine iteDF (fun z => nomatch z) ?_
        refine ⟨_, rfl, k, .int p, rfl, kgu, _, rfl, _, _, rfl, rfl, _, rfl, ?_⟩
        refine ifD (fun h1 => ?_) (fun h1 => ?_)
        · refine ⟨_, rfl, ?_⟩
          have e3 : min nd p = nd := by omega
          rw [e2, e3]
          exact ⟨rfl, rfl⟩
        · refine ⟨_, rfl, k, .int p, rfl, kgu, ?_⟩
          have e3 : min nd p = p := by omega
          rw [e2, e3]
          exact ⟨rfl, rfl⟩
    rintro σ H1 ⟨rfl, rfl⟩
    refine ⟨fun σ H2 => σ = [some (.ref k), some (.ref a), some (.int nd), some (.int (S.left nd : Nat))] ∧ KnownP H2 k ka ks m ⟨S.ar, S.su, (S.spend nd).pw, S.dn⟩ ∧ Fr (ownK k ka ks m) H1 H2, ?_, ?_⟩
    · cases ep : S.pw with
      | none =>
        have e1 : S.spend nd = S := by unfold DS.spend; rw [ep]
        have kgu := kg_u h.hk
        rw [ep] at kgu
        refine ⟨_, rfl, k, .non, rfl, kgu, rfl, _, rfl, ?_⟩
        refine iteNS rfl ?_
        rw [e1]
        exact ⟨rfl, h, Fr.refl _ _⟩
      | some p =>
        have e1 : (S.spend nd).pw = some (p - min nd p) := by unfold DS.spend; rw [ep]
        have e2 : S.left nd = min nd p := by unfold DS.left; rw [ep]
        have kgu : DGet H1 k (.str "units") (some (.int p)) := by have := kg_u h.hk; rw [ep] at this; exact this
        refine ⟨_, rfl, k, .int p, rfl, kgu, rfl, _, rfl, ?_⟩
        refine iteNF (fun z => nomatch z) ?_
        have kpu := kp_u h.hk (some (p - min nd p))
        have ev : pwV (some (p - min nd p)) = .int ((p : Int) - ((S.left nd : Nat) : Int)) := by
          rw [e2]
          show V.int _ = V.int _
          congr 1
          omega
        rw [ev] at kpu
        refine ⟨_, rfl, k, .int p, rfl, kgu, _, rfl, _, _, rfl, rfl, _, rfl, k, _, rfl, kpu, ?_⟩
        rw [e1]
        exact ⟨rfl, h.key rfl rfl, (Fr.refl _ _).upd (.inl (by simp [ownK]))⟩
    rintro σ H2 ⟨rfl, h2, f2⟩
    refine ⟨_, rfl, _, rfl, _, _, rfl, rfl, _, rfl, k, _, rfl, kp_d h2.hk _, ?_⟩
    have es : (⟨S.ar, S.su, (S.spend nd).pw, decide (((S.left nd : Nat) : Int) < (nd : Int))⟩ : DS) = S.spend nd := by
      have eb : decide (((S.left nd : Nat) : Int) < (nd : Int)) = decide (S.left nd < nd) := by
        by_cases c : S.left nd < nd
        · rw [decide_eq_true c, decide_eq_true (by omega)]
        · rw [decide_eq_false c, decide_eq_false (by omega)]
      rw [eb]
      unfold DS.spend DS.left
      cases ep : S.pw with
      | none =>
        show (⟨S.ar, S.su, S.pw, decide (nd < nd)⟩ : DS) = S
        rw [decide_eq_false (Nat.lt_irrefl _), ← hd']
      | some p => rfl
    rw [es]
    have h3 : KnownP (upd H2 k (.dK (kfs ka ks (S.spend nd)))) k ka ks m (S.spend nd) := h2.key (S.spend_ar nd) (S.spend_su nd)
    have f3 : Fr (ownK k ka ks m) H1 (upd H2 k (.dK (kfs ka ks (S.spend nd)))) := f2.upd (.inl (by simp [ownK]))
    generalize upd H2 k (.dK (kfs ka ks (S.spend nd))) = H3 at h3 f3 ⊢
    have ha3 := f3 _ _ ha na
    have hn3 := f3 _ _ hn nn
    refine ⟨fun σ H4 => ∃ own4, σ = [some (.ref k), some (.ref a), some (.int nd), some (.int (S.left nd : Nat))] ∧ KnownAt H4 k own4 (S.go o) ∧ Fr (ownK k ka ks m) H1 H4 ∧ (∀ b ∈ own4, b ∈ ownK k ka ks m ∨ H1 b = none), ?_, ?_⟩
    · refine ⟨_, rfl, a, _, 0, _, rfl, rfl, SqT.of ha3, atI_nat (j := 0) rfl, rfl, _, rfl, ?_⟩
      cases o with
      | app b ys =>
        have := ho b ys rfl; subst this
        refine iteDT rfl ?_
        refine ⟨_, rfl, k, .ref ka, rfl, kg_a h3.hk, _, rfl, a, _, 1, _, rfl, rfl, SqT.of ha3, atI_nat (j := 1) rfl, ka, _, _, _, rfl, rfl, SqL.of h3.ha, two_at (H := H3) (K := K) (fun b => V.ref (m b)) b, ?_⟩
        refine ⟨_, rfl, a, _, 2, _, rfl, rfl, SqT.of ha3, atI_nat (j := 2) rfl, _, rfl, _, rfl, n, _, rfl, SqL.of hn3, fun w hw => ?_⟩
        rw [cut_take, ← List.map_take]
        have s4 := same_new hw (.lst ((ys.take (S.left nd)).map V.int))
        refine ⟨_, _, _, _, rfl, rfl, s4 _ _ (h3.ms b), upd_same, ?_, fun v hv => ?_⟩
        · have := hl b
          rw [List.length_map, List.length_map, List.length_take, S.spend_ar]
          exact Nat.le_of_lt (small1000 (by omega))
        rw [← List.map_append]
        have s5 := s4.trans (same_new hv (.lst (((S.spend nd).ar b ++ ys.take (S.left nd)).map V.int)))
        have h5 := h3.same s5
        obtain ⟨j, j1, j2⟩ := ix_two b (x := .ref (m false)) (y := .ref (m true))
        refine ⟨_, rfl, k, .ref ka, rfl, kg_a h5.hk, _, rfl, a, _, 1, _, rfl, rfl, SqT.of (s5 _ _ ha3), atI_nat (j := 1) rfl, ka, _, _, j, rfl, rfl, h5.ha, j1, ?_⟩
        rw [j2]
        have ws : v ≠ ks := (ne_of_none (s4 _ _ h3.hs) hv).symm
        have h6 := h5.area b (q := v) (xs := (S.spend nd).ar b ++ ys.take (S.left nd)) upd_same ws
        rw [setB_ref, setB_ref]
        have hw0 : H1 w = none := f3.free (fun _ hb => h3.in_ hb) hw
        have hv0 : H1 v = none := f3.free (fun _ hb => h3.in_ hb) (s4.free hv)
        have f5 := ((f3.upd (x := w) (o := .lst ((ys.take (S.left nd)).map V.int)) (.inr hw0)).upd (x := v) (o := .lst (((S.spend nd).ar b ++ ys.take (S.left nd)).map V.int)) (.inr hv0)).upd (x := ka) (o := .lst [.ref (setB m b v false), .ref (setB m b v true)]) (.inl (by simp [ownK]))
        refine ⟨ownK k ka ks (setB m b v), rfl, ⟨ka, ks, _, ?_, rfl⟩, f5, fun x hx => ?_⟩
        · rw [eg]; exact h6
        · rcases ownK_set hx with h | rfl
          · exact .inl h
          · exact .inr hv0
      | syn b =>
        refine iteDF (by show ¬ V.str "sync" = V.str "append"; decide +kernel) ?_
        refine ⟨_, rfl, k, .bl (S.spend nd).dn, rfl, kg_d h3.hk, _, rfl, ?_⟩
        have eg2 : S.go (.syn b) = if (S.spend nd).dn = true then S.spend nd else ⟨(S.spend nd).ar, setB (S.spend nd).su b ((S.spend nd).ar b).length, (S.spend nd).pw, (S.spend nd).dn⟩ := eg
        cases hd3 : (S.spend nd).dn with
        | true =>
          rw [hd3, if_pos rfl] at eg2
          exact iteF ⟨_, rfl, ⟨ka, ks, m, by rw [eg2]; exact h3, rfl⟩, f3, fun x hx => .inl hx⟩
        | false =>
          rw [hd3, if_neg (fun z => Bool.noConfusion z)] at eg2
          refine iteT ?_
          refine ⟨fun σ H4 => σ = [some (.ref k), some (.ref a), some (.int nd), some (.int (S.left nd : Nat))] ∧ H4 = H3, ?_, ?_⟩
          · refine ⟨_, rfl, a, _, 0, _, rfl, rfl, SqT.of ha3, atI_nat (j := 0) rfl, rfl, _, rfl, ?_⟩
            exact iteDF (by show ¬ V.str "sync" = V.str "wipe"; decide +kernel) ⟨rfl, rfl⟩
          rintro σ H4 ⟨rfl, rfl⟩
          refine ⟨_, rfl, k, .ref ka, rfl, kg_a h3.hk, _, rfl, a, _, 1, _, rfl, rfl, SqT.of ha3, atI_nat (j := 1) rfl, ka, _, _, _, rfl, rfl, SqL.of h3.ha, two_at (H := H4) (K := K) (fun b => V.ref (m b)) b, m b, _, rfl, .inl (SqL.of (h3.ms b)), ?_⟩
          rw [List.length_map]
          obtain ⟨j, j1, j2⟩ := ix_two b (x := .int ((S.spend nd).su false : Nat)) (y := .int ((S.spend nd).su true : Nat))
          refine ⟨_, rfl, k, .ref ks, rfl, kg_s h3.hk, _, rfl, a, _, 1, _, rfl, rfl, SqT.of ha3, atI_nat (j := 1) rfl, ks, _, _, j, rfl, rfl, h3.hs, j1, ?_⟩
          rw [j2, setB_int, setB_int]
          have h6 := h3.safe b ((S.spend nd).ar b).length
          rw [hd3] at h6
          exact ⟨_, rfl, ⟨ka, ks, m, by rw [eg2]; exact h6, rfl⟩, f3.upd (.inl (by simp [ownK])), fun x hx => .inl hx⟩
      | wip b =>
        refine iteDF (by show ¬ V.str "wipe" = V.str "append"; decide +kernel) ?_
        refine ⟨_, rfl, k, .bl (S.spend nd).dn, rfl, kg_d h3.hk, _, rfl, ?_⟩
        have eg2 : S.go (.wip b) = if (S.spend nd).dn = true then S.spend nd else ⟨setB (S.spend nd).ar b [], setB (S.spend nd).su b 0, (S.spend nd).pw, (S.spend nd).dn⟩ := eg
        cases hd3 : (S.spend nd).dn with
        | true =>
          rw [hd3, if_pos rfl] at eg2
          exact iteF ⟨_, rfl, ⟨ka, ks, m, by rw [eg2]; exact h3, rfl⟩, f3, fun x hx => .inl hx⟩
        | false =>
          rw [hd3, if_neg (fun z => Bool.noConfusion z)] at eg2
          refine iteT ?_
          refine ⟨fun σ H4 => ∃ v, H1 v = none ∧ v ≠ ks ∧ σ = [some (.ref k), some (.ref a), some (.int nd), some (.int (S.left nd : Nat))] ∧ KnownP H4 k ka ks (setB m b v) ⟨setB (S.spend nd).ar b [], (S.spend nd).su, (S.spend nd).pw, false⟩ ∧ Fr (ownK k ka ks m) H1 H4 ∧ H4 a = H3 a, ?_, ?_⟩
          · refine ⟨_, rfl, a, _, 0, _, rfl, rfl, SqT.of ha3, atI_nat (j := 0) rfl, rfl, _, rfl, ?_⟩
            refine iteDT rfl ?_
            refine ⟨Nat.zero_le _, fun v hv => ?_⟩
            have s5 := same_new hv (.lst [])
            have h5 := h3.same s5
            have hv0 : H1 v = none := f3.free (fun _ hb => h3.in_ hb) hv
            obtain ⟨j, j1, j2⟩ := ix_two b (x := .ref (m false)) (y := .ref (m true))
            refine ⟨_, rfl, k, .ref ka, rfl, kg_a h5.hk, _, rfl, a, _, 1, _, rfl, rfl, SqT.of (s5 _ _ ha3), atI_nat (j := 1) rfl, ka, _, _, j, rfl, rfl, h5.ha, j1, ?_⟩
            rw [j2, setB_ref, setB_ref]
            have ws : v ≠ ks := (ne_of_none h3.hs hv).symm
            have h6 := h5.area b (q := v) (xs := []) upd_same ws
            rw [hd3] at h6
            refine ⟨v, hv0, ws, rfl, h6, (f3.upd (.inr hv0)).upd (.inl (by simp [ownK])), ?_⟩
            rw [upd_ne (fun z => na (by rw [z]; simp [ownK])), upd_ne (ne_of_none ha3 hv)]
          rintro σ H4 ⟨v, hv0, ws, rfl, h4, f4, ea⟩
          have ha4 : H4 a = some (.tup [.str (opName (.wip b)), .int (bi (Op.wip b).at_), .ref n]) := by rw [ea]; exact ha3
          refine ⟨_, rfl, k, .ref ka, rfl, kg_a h4.hk, _, rfl, a, _, 1, _, rfl, rfl, SqT.of ha4, atI_nat (j := 1) rfl, ka, _, _, _, rfl, rfl, SqL.of h4.ha, two_at (H := H4) (K := K) (fun x => V.ref (setB m b v x)) b, setB m b v b, _, rfl, .inl (SqL.of (h4.ms b)), ?_⟩
          have e0 : (((⟨setB (S.spend nd).ar b [], (S.spend nd).su, (S.spend nd).pw, false⟩ : DS).ar b).map V.int).length = 0 := by
            show ((setB (S.spend nd).ar b [] b).map V.int).length = 0
            unfold setB
            rw [if_pos rfl]; rfl
          rw [e0]
          obtain ⟨j, j1, j2⟩ := ix_two b (x := .int ((S.spend nd).su false : Nat)) (y := .int ((S.spend nd).su true : Nat))
          refine ⟨_, rfl, k, .ref ks, rfl, kg_s h4.hk, _, rfl, a, _, 1, _, rfl, rfl, SqT.of ha4, atI_nat (j := 1) rfl, ks, _, _, j, rfl, rfl, h4.hs, j1, ?_⟩
          rw [j2, setB_int, setB_int]
          have h6 := h4.safe b 0
          refine ⟨ownK k ka ks (setB m b v), rfl, ⟨ka, ks, _, by rw [eg2]; exact h6, rfl⟩, f4.upd (.inl (by simp [ownK])), fun x hx => ?_⟩
          rcases ownK_set hx with h | rfl
          · exact .inl h
          · exact .inr hv0
    rintro σ H4 ⟨own4, rfl, ⟨a4, s4, m4, h4, rfl⟩, f4, n4⟩
    exact ⟨_, rfl, k, .bl (S.go o).dn, rfl, kg_d h4.hk, _, rfl, q H4 _ ⟨a4, s4, m4, h4, rfl⟩ f4 n4⟩)
theorem ok_law_is_integer {f : Addr} {fd : FuncData} (k : Kn K mg "_law_is_integer" s_law_is_integer ["actual"] f fd) (z : Z K mg) :
    Cal P w K mg base 1 "_law_is_integer" ["actual"] (spIsInt) f fd := k.cal (by
  refine k.F.ok sc_law_is_integer (fun vs H Q E h => ?_) (fun cdv A outer s H vs Q E hr h => ?_)
  · obtain ⟨x, rfl, _⟩ := h; rfl
  · obtain ⟨x, rfl, hx, q⟩ := h
    refine ⟨_, (pss_one (ps_ret (pe_and (pe_callB call_isi (by rfl) z.isinstance (by decide +kernel) (pa_cons (pv 0) (pa_cons (pe_bltn (v := .ty "int") (u := .type "int") (by rfl) z.int (by decide +kernel) rfl) pa_nil))) (pe_one (pe_not (pe_callB call_isi (by rfl) z.isinstance (by decide +kernel) (pa_cons (pv 0) (pa_cons (pe_bltn (v := .ty "bool") (u := .type "bool") (by rfl) z.bool (by decide +kernel) rfl) pa_nil)))))))), ?_⟩
    obtain ⟨t, hT, c⟩ := ty_scal (K := K) (H := H) hx
    rcases c with ⟨rfl, rfl⟩ | ⟨⟨b, rfl⟩, rfl⟩ | ⟨⟨i, rfl⟩, rfl⟩ | ⟨⟨y, rfl⟩, rfl⟩
    · exact ⟨_, rfl, _, _, _, _, false, rfl, .ty _, hT, kit_ty (by decide +kernel), ⟨_, rfl, q⟩⟩
    · exact ⟨_, rfl, _, _, _, _, true, rfl, .ty _, hT, kit_ty (by decide +kernel), ⟨_, rfl, ⟨_, rfl, _, _, _, _, true, rfl, .ty _, hT, kit_ty (by decide +kernel), ⟨_, rfl, q⟩⟩⟩⟩
    · exact ⟨_, rfl, _, _, _, _, true, rfl, .ty _, hT, kit_ty (by decide +kernel), ⟨_, rfl, ⟨_, rfl, _, _, _, _, false, rfl, .ty _, hT, kit_ty (by decide +kernel), ⟨_, rfl, q⟩⟩⟩⟩
    · exact ⟨_, rfl, _, _, _, _, false, rfl, .ty _, hT, kit_ty (by decide +kernel), ⟨_, rfl, q⟩⟩)

theorem no_same {f : Addr} {fd : FuncData} : FnOk P w K mg base CX0 0 f fd ["actual", "expected"] (spSame K 0) := by
  have no : ∀ vs H Q E, ¬ spSame K 0 vs H Q E := fun vs H Q E h => by
    obtain ⟨x, y, _, h1, _⟩ := h
    exact h1
  exact ⟨fun vs H Q E h => absurd h (no vs H Q E), fun A outer s H args us vs Q E _ _ _ _ h => absurd h (no vs H Q E)⟩
theorem ok_items {n : Nat} {f g : Addr} {fd gd : FuncData} (k : Kn K mg "_law_same_items" s_law_same_items ["actual", "expected"] f fd) (z : Z K mg)
    (c_law_same : Cal P w K mg base (2 * n) "_law_same" ["actual", "expected"] (spSame K n) g gd) : Cal P w K mg base (2 * n + 1) "_law_same_items" ["actual", "expected"] (spItems K n) f fd := k.cal (by
  refine k.F.ok sc_law_same_items (fun vs H Q E h => ?_) (fun cdv A outer s H vs Q E hr h => ?_)
  · obtain ⟨a, b, xs, ys, rfl, _⟩ := h; rfl
  · obtain ⟨a, b, xs, ys, rfl, hk, hl, h1, hs, q⟩ := h
    have A1 : SqL K H a xs ∨ SqT K H a xs := by rcases hk with hk | hk; exact .inl (SqL.of hk.1); exact .inr (SqT.of hk.1)
    have B1 : SqL K H b ys ∨ SqT K H b ys := by rcases hk with hk | hk; exact .inl (SqL.of hk.2); exact .inr (SqT.of hk.2)
    refine ⟨_, (pss_cons (ps_if (pt_cmpR op_ne (pe_callB call_len_seq (by rfl) z.len (by decide +kernel) (pa_cons (pv 0) pa_nil)) (pe_callB call_len_seq (by rfl) z.len (by decide +kernel) (pa_cons (pv 1) pa_nil)) (nomark _)) (pss_one (ps_ret pe_bl)) pss_nil)
    (pss_cons (ps_for PassesOwn.never rfl (pi_range1 (by rfl) z.range (pa_cons (pe_callB call_len_seq (by rfl) z.len (by decide +kernel) (pa_cons (pv 1) pa_nil)) pa_nil)) (pg_name (i := 2) sc_law_same_items.nd rfl (Or.inl rfl))
    (pss_one (ps_if (pt_not (pt_val (pe_call c_law_same.G (hr.mono (by omega)) (by rfl) c_law_same.m c_law_same.kp c_law_same.b .nil pass0 (pa_cons (pe_ix ix_seq (pv 0) (pv 2) (fun _ _ => rfl)) (pa_cons (pe_ix ix_seq (pv 1) (pv 2) (fun _ _ => rfl)) pa_nil))))) (pss_one (ps_ret pe_bl)) pss_nil)))
    (pss_one (ps_ret pe_bl)))), ?_⟩
    refine ⟨_, rfl, a, _, rfl, A1, _, rfl, b, _, rfl, B1, rfl, _, rfl, ?_⟩
    refine iteNS (by rw [hl]) ?_
    refine ⟨_, rfl, b, _, rfl, B1, _, rfl, (by omega), (by omega), for_range (lo := 0) (n := ys.length) (fun i σ H2 => (∃ v, σ = [some (.ref a), some (.ref b), v]) ∧ H2 = H) ⟨⟨none, rfl⟩, rfl⟩ ?_ ?_⟩
    · rintro i σ H2 hi ⟨⟨v, rfl⟩, rfl⟩
      have hx : xs[i]? = some xs[i] := List.getElem?_eq_getElem (by omega)
      have hy : ys[i]? = some ys[i] := List.getElem?_eq_getElem hi
      refine ⟨_, rfl, _, rfl, ixq A1 (at_of (by omega) hx) ⟨_, rfl, _, rfl, ixq B1 (at_of (by omega) hy) ⟨_, _, rfl, hs i _ _ hx hy, ⟨_, rfl, ?_⟩⟩⟩⟩
      exact iteF ⟨⟨_, rfl⟩, rfl⟩
    · rintro σ H2 ⟨⟨v, rfl⟩, rfl⟩
      exact q)
theorem ok_same {n : Nat} {f g i : Addr} {fd gd ii : FuncData} (k : Kn K mg "_law_same" s_law_same ["actual", "expected"] f fd) (z : Z K mg)
    (c_law_same : Cal P w K mg base (2 * n) "_law_same" ["actual", "expected"] (spSame K n) f fd)
    (c_law_is_integer : Cal P w K mg base 1 "_law_is_integer" ["actual"] spIsInt i ii)
    (c_law_same_items : Cal P w K mg base (2 * n + 1) "_law_same_items" ["actual", "expected"] (spItems K n) g gd) : Cal P w K mg base (2 * n + 2) "_law_same" ["actual", "expected"] (spSame K (n + 1)) f fd := k.cal (by
  refine k.F.ok sc_law_same (fun vs H Q E h => ?_) (fun cdv A outer s H vs Q E hr h => ?_)
  · obtain ⟨x, y, rfl, _⟩ := h; rfl
  · obtain ⟨x, y, rfl, hs, q⟩ := h
    refine ⟨_, (pss_cons (ps_if (pt_cmpR op_isN (pv 1) pe_non (nomark _)) (pss_one (ps_ret (pe_cmpR op_isN (pv 0) pe_non (nomark _)))) pss_nil)
    (pss_cons (ps_if (pt_val (pe_callB call_isi (by rfl) z.isinstance (by decide +kernel) (pa_cons (pv 1) (pa_cons (pe_bltn (v := .ty "bool") (u := .type "bool") (by rfl) z.bool (by decide +kernel) rfl) pa_nil)))) (pss_one (ps_ret (pe_and (pe_callB call_isi (by rfl) z.isinstance (by decide +kernel) (pa_cons (pv 0) (pa_cons (pe_bltn (v := .ty "bool") (u := .type "bool") (by rfl) z.bool (by decide +kernel) rfl) pa_nil))) (pe_one (pe_cmpR op_eq (pv 0) (pv 1) (nomark _)))))) pss_nil)
    (pss_cons (ps_if (pt_val (pe_callB call_isi (by rfl) z.isinstance (by decide +kernel) (pa_cons (pv 1) (pa_cons (pe_bltn (v := .ty "int") (u := .type "int") (by rfl) z.int (by decide +kernel) rfl) pa_nil)))) (pss_one (ps_ret (pe_and (pe_call c_law_is_integer.G (hr.mono (by omega)) (by rfl) c_law_is_integer.m c_law_is_integer.kp c_law_is_integer.b .nil pass0 (pa_cons (pv 0) pa_nil)) (pe_one (pe_cmpR op_eq (pv 0) (pv 1) (nomark _)))))) pss_nil)
    (pss_cons (ps_if (pt_val (pe_callB call_isi (by rfl) z.isinstance (by decide +kernel) (pa_cons (pv 1) (pa_cons (pe_bltn (v := .ty "str") (u := .type "str") (by rfl) z.str (by decide +kernel) rfl) pa_nil)))) (pss_one (ps_ret (pe_and (pe_callB call_isi (by rfl) z.isinstance (by decide +kernel) (pa_cons (pv 0) (pa_cons (pe_bltn (v := .ty "str") (u := .type "str") (by rfl) z.str (by decide +kernel) rfl) pa_nil))) (pe_one (pe_cmpR op_eq (pv 0) (pv 1) (nomark _)))))) pss_nil)
    (pss_cons (ps_if (pt_val (pe_callB call_isi (by rfl) z.isinstance (by decide +kernel) (pa_cons (pv 1) (pa_cons (pe_bltn (v := .ty "tuple") (u := .type "tuple") (by rfl) z.tuple (by decide +kernel) rfl) pa_nil)))) (pss_one (ps_ret (pe_and (pe_callB call_isi (by rfl) z.isinstance (by decide +kernel) (pa_cons (pv 0) (pa_cons (pe_bltn (v := .ty "tuple") (u := .type "tuple") (by rfl) z.tuple (by decide +kernel) rfl) pa_nil))) (pe_one (pe_call c_law_same_items.G (hr.mono (by omega)) (by rfl) c_law_same_items.m c_law_same_items.kp c_law_same_items.b .nil pass0 (pa_cons (pv 0) (pa_cons (pv 1) pa_nil))))))) pss_nil)
    (pss_cons (ps_if (pt_val (pe_callB call_isi (by rfl) z.isinstance (by decide +kernel) (pa_cons (pv 1) (pa_cons (pe_bltn (v := .ty "list") (u := .type "list") (by rfl) z.list (by decide +kernel) rfl) pa_nil)))) (pss_one (ps_ret (pe_and (pe_callB call_isi (by rfl) z.isinstance (by decide +kernel) (pa_cons (pv 0) (pa_cons (pe_bltn (v := .ty "list") (u := .type "list") (by rfl) z.list (by decide +kernel) rfl) pa_nil))) (pe_one (pe_call c_law_same_items.G (hr.mono (by omega)) (by rfl) c_law_same_items.m c_law_same_items.kp c_law_same_items.b .nil pass0 (pa_cons (pv 0) (pa_cons (pv 1) pa_nil))))))) pss_nil)
    (pss_cons (ps_if (PW.pt (pw_or (pt_not (pt_val (pe_callB call_isi (by rfl) z.isinstance (by decide +kernel) (pa_cons (pv 0) (pa_cons (pe_bltn (v := .ty "dict") (u := .type "dict") (by rfl) z.dict (by decide +kernel) rfl) pa_nil))))) (pw_or1 (pt_cmpR op_ne (pe_callB call_len_seq (by rfl) z.len (by decide +kernel) (pa_cons (pv 0) pa_nil)) (pe_callB call_len_seq (by rfl) z.len (by decide +kernel) (pa_cons (pv 1) pa_nil)) (nomark _))))) (pss_one (ps_ret pe_bl)) pss_nil)
    (pss_cons ps_never
    (pss_cons ps_never
    (pss_one (ps_ret pe_bl))))))))))), ?_⟩
    rcases hs with ⟨rfl, hx⟩ | ⟨a, b, xs, ys, rfl, rfl, ha, hb, hl, h1, he⟩ | ⟨a, b, xs, ys, rfl, rfl, ha, hb, hl, h1, he⟩
    · obtain ⟨t, hT, c⟩ := ty_scal (K := K) (H := H) hx
      rcases c with ⟨rfl, rfl⟩ | ⟨⟨b, rfl⟩, rfl⟩ | ⟨⟨i, rfl⟩, rfl⟩ | ⟨⟨y, rfl⟩, rfl⟩
      · exact ⟨_, rfl, rfl, _, rfl, iteDT rfl ⟨_, rfl, rfl, bl_T rfl q⟩⟩
      · refine ⟨_, rfl, rfl, _, rfl, iteDF (fun e => nomatch e) ⟨_, rfl, _, _, _, _, true, rfl, .ty _, hT, kit_ty (by decide +kernel), ⟨_, rfl, ?_⟩⟩⟩
        exact ⟨_, rfl, _, _, _, _, true, rfl, .ty _, hT, kit_ty (by decide +kernel), ⟨_, rfl, ⟨_, rfl, _, rfl, rfl, bl_T rfl q⟩⟩⟩
      · refine ⟨_, rfl, rfl, _, rfl, iteDF (fun e => nomatch e) ⟨_, rfl, _, _, _, _, false, rfl, .ty _, hT, kit_ty (by decide +kernel), ⟨_, rfl, ?_⟩⟩⟩
        refine ⟨_, rfl, _, _, _, _, true, rfl, .ty _, hT, kit_ty (by decide +kernel), ⟨_, rfl, ?_⟩⟩
        exact ⟨_, rfl, _, rfl, rfl, ⟨_, rfl, ⟨_, rfl, _, rfl, rfl, bl_T rfl q⟩⟩⟩
      · refine ⟨_, rfl, rfl, _, rfl, iteDF (fun e => nomatch e) ⟨_, rfl, _, _, _, _, false, rfl, .ty _, hT, kit_ty (by decide +kernel), ⟨_, rfl, ?_⟩⟩⟩
        refine ⟨_, rfl, _, _, _, _, false, rfl, .ty _, hT, kit_ty (by decide +kernel), ⟨_, rfl, ?_⟩⟩
        refine ⟨_, rfl, _, _, _, _, true, rfl, .ty _, hT, kit_ty (by decide +kernel), ⟨_, rfl, ?_⟩⟩
        exact ⟨_, rfl, _, _, _, _, true, rfl, .ty _, hT, kit_ty (by decide +kernel), ⟨_, rfl, ⟨_, rfl, _, rfl, rfl, bl_T rfl q⟩⟩⟩
    · have hA : TyX K H (.ref a) (.type "list") := .base (.lst ha)
      have hB : TyX K H (.ref b) (.type "list") := .base (.lst hb)
      refine ⟨_, rfl, rfl, _, rfl, iteDF (fun e => nomatch e) ⟨_, rfl, _, _, _, _, false, rfl, .ty _, hB, kit_ty (by decide +kernel), ⟨_, rfl, ?_⟩⟩⟩
      refine ⟨_, rfl, _, _, _, _, false, rfl, .ty _, hB, kit_ty (by decide +kernel), ⟨_, rfl, ?_⟩⟩
      refine ⟨_, rfl, _, _, _, _, false, rfl, .ty _, hB, kit_ty (by decide +kernel), ⟨_, rfl, ?_⟩⟩
      refine ⟨_, rfl, _, _, _, _, false, rfl, .ty _, hB, kit_ty (by decide +kernel), ⟨_, rfl, ?_⟩⟩
      refine ⟨_, rfl, _, _, _, _, true, rfl, .ty _, hB, kit_ty (by decide +kernel), ⟨_, rfl, ?_⟩⟩
      exact ⟨_, rfl, _, _, _, _, true, rfl, .ty _, hA, kit_ty (by decide +kernel), ⟨_, rfl, ⟨_, rfl, _, rfl, a, b, xs, ys, rfl, .inl ⟨ha, hb⟩, hl, h1, he, q⟩⟩⟩
    · have hA : TyX K H (.ref a) (.type "tuple") := .base (.tup ha)
      have hB : TyX K H (.ref b) (.type "tuple") := .base (.tup hb)
      refine ⟨_, rfl, rfl, _, rfl, iteDF (fun e => nomatch e) ⟨_, rfl, _, _, _, _, false, rfl, .ty _, hB, kit_ty (by decide +kernel), ⟨_, rfl, ?_⟩⟩⟩
      refine ⟨_, rfl, _, _, _, _, false, rfl, .ty _, hB, kit_ty (by decide +kernel), ⟨_, rfl, ?_⟩⟩
      refine ⟨_, rfl, _, _, _, _, false, rfl, .ty _, hB, kit_ty (by decide +kernel), ⟨_, rfl, ?_⟩⟩
      refine ⟨_, rfl, _, _, _, _, true, rfl, .ty _, hB, kit_ty (by decide +kernel), ⟨_, rfl, ?_⟩⟩
      exact ⟨_, rfl, _, _, _, _, true, rfl, .ty _, hA, kit_ty (by decide +kernel), ⟨_, rfl, ⟨_, rfl, _, rfl, a, b, xs, ys, rfl, .inr ⟨ha, hb⟩, hl, h1, he, q⟩⟩⟩)
theorem ok_law_same {f g i : Addr} {fd gd ii : FuncData} (k : Kn K mg "_law_same" s_law_same ["actual", "expected"] f fd) (kI : Kn K mg "_law_same_items" s_law_same_items ["actual", "expected"] g gd) (z : Z K mg)
    (c_law_is_integer : Cal P w K mg base 1 "_law_is_integer" ["actual"] spIsInt i ii) : ∀ n : Nat, Cal P w K mg base (2 * n) "_law_same" ["actual", "expected"] (spSame K n) f fd
  | 0 => k.cal no_same
  | n + 1 => by
    have h := ok_law_same k kI z c_law_is_integer n
    exact ok_same k z h c_law_is_integer (ok_items kI z h)
theorem ok_Disk_durable {C_Disk : Addr} {f : Addr} {fd : FuncData} (k : KnM K "durable" "Disk.durable" s_Disk_durable ["self", "area"] C_Disk f fd) (z : Z K mg)
    (t_Disk : T_Disk K mg C_Disk) :
    CalM CX0 P w K mg base 1 "durable" ["self", "area"] (spDurable C_Disk) C_Disk f fd := k.cal (by
  refine k.F.ok sc_Disk_durable (fun vs H Q E h => ?_) (fun cdv A outer s H vs Q E hr h => ?_)
  · obtain ⟨p, own, S, b, rfl, _⟩ := h; rfl
  · obtain ⟨p, own, S, b, rfl, ⟨A, D, l, h, rfl⟩, q⟩ := h
    have hu := hu_of hr
    obtain ⟨dx, ho⟩ := h.o
    refine ⟨_, (pss_one (ps_ret (pe_dget hu (pe_fld (pv 0) rfl) (pv 1) (fun _ _ => rfl)))), ?_⟩
    exact ⟨_, rfl, p, C_Disk, dx, _, _, rfl, ho, t_Disk.cl, t_Disk.n__durables, dfs_d _ _ _, _, rfl, D, _, rfl, bd_dget h.d b, q⟩)
theorem ok_Disk_contents {C_Disk : Addr} {f : Addr} {fd : FuncData} (k : KnM K "contents" "Disk.contents" s_Disk_contents ["self", "area"] C_Disk f fd) (z : Z K mg)
    (t_Disk : T_Disk K mg C_Disk) :
    CalM CX0 P w K mg base 1 "contents" ["self", "area"] (spContents C_Disk) C_Disk f fd := k.cal (by
  refine k.F.ok sc_Disk_contents (fun vs H Q E h => ?_) (fun cdv A outer s H vs Q E hr h => ?_)
  · obtain ⟨p, own, S, b, rfl, _⟩ := h; rfl
  · obtain ⟨p, own, S, b, rfl, ⟨A, D, l, h, rfl⟩, q⟩ := h
    have hu := hu_of hr
    obtain ⟨dx, ho⟩ := h.o
    refine ⟨_, (pss_one (ps_ret (pe_callTy call_list_of (by rfl) z.list (by decide +kernel) (pa_cons (pe_dget hu (pe_fld (pv 0) rfl) (pv 1) (fun _ _ => rfl)) pa_nil)))), ?_⟩
    exact ⟨_, rfl, p, C_Disk, dx, _, _, rfl, ho, t_Disk.cl, t_Disk.n__areas, dfs_a _ _ _, _, rfl, A, _, rfl, bd_dget h.a b, l b, _, rfl, .inl (SqL.of (h.ls b)), fun w hw => q w hw⟩)
theorem ok_law_agrees {f : Addr} {fd : FuncData} (k : Kn K mg "_law_agrees" s_law_agrees ["disk", "areas", "safe"] f fd) (z : Z K mg)
    {C_Disk : Addr} (t_Disk : T_Disk K mg C_Disk)
    {g_law_same : Addr} {gd_law_same : FuncData} (c_law_same : Cal P w K mg base 12 "_law_same" ["actual", "expected"] (spSame K 6) g_law_same gd_law_same)
    {g_Disk_durable : Addr} {gd_Disk_durable : FuncData} (c_Disk_durable : CalM CX0 P w K mg base 1 "durable" ["self", "area"] (spDurable C_Disk) C_Disk g_Disk_durable gd_Disk_durable)
    {g_Disk_contents : Addr} {gd_Disk_contents : FuncData} (c_Disk_contents : CalM CX0 P w K mg base 1 "contents" ["self", "area"] (spContents C_Disk) C_Disk g_Disk_contents gd_Disk_contents) :
    Cal P w K mg base 13 "_law_agrees" ["disk", "areas", "safe"] (spAgrees K C_Disk) f fd := k.cal (by
  refine k.F.ok sc_law_agrees (fun vs H Q E h => ?_) (fun cdv A outer s H vs Q E hr h => ?_)
  · obtain ⟨p, own, S, a, s, m, rfl, _⟩ := h; rfl
  · obtain ⟨p, own, S, a, t, m, rfl, hD, ha, ht, hm, hl, q⟩ := h
    refine ⟨_, (pss_cons (ps_for PassesOwn.never rfl (pi_range1 (by rfl) z.range (pa_cons pe_int pa_nil)) (pg_name (i := 3) sc_law_agrees.nd rfl (Or.inl rfl))
        (pss_one (ps_if (PW.pt (pw_or (pt_not (pt_val (pe_call c_law_same.G (hr.mono (by decide)) (by rfl) c_law_same.m c_law_same.kp c_law_same.b .nil pass0 (pa_cons (pe_meth (pv 0) t_Disk.cl c_Disk_contents.mt c_Disk_contents.G (hr.mono (by decide)) c_Disk_contents.b .nil pass0 (pa_cons (pv 3) pa_nil)) (pa_cons (pe_ix ix_list (pv 1) (pv 3) (fun _ _ => rfl)) pa_nil))))) (pw_or1 (pt_not (pt_val (pe_call c_law_same.G (hr.mono (by decide)) (by rfl) c_law_same.m c_law_same.kp c_law_same.b .nil pass0 (pa_cons (pe_meth (pv 0) t_Disk.cl c_Disk_durable.mt c_Disk_durable.G (hr.mono (by decide)) c_Disk_durable.b .nil pass0 (pa_cons (pv 3) pa_nil)) (pa_cons (pe_ix ix_list (pv 2) (pv 3) (fun _ _ => rfl)) pa_nil)))))))) (pss_one (ps_ret pe_bl)) pss_nil)))
        (pss_one (ps_ret pe_bl))), ?_⟩
    refine ⟨2, rfl, by decide, by decide, for_range (lo := 0) (n := 2) (fun i σ H' => (∃ v, σ = [some (.ref p), some (.ref a), some (.ref t), v]) ∧ Same H H') ⟨⟨none, rfl⟩, Same.refl _⟩ ?_ ?_⟩
    · rintro i σ H1 hi ⟨⟨v, rfl⟩, s1⟩
      have eb : (0 : Int) + (i : Int) = bi (bOf i) := by rw [bi_bOf hi]; omega
      rw [eb]
      have hD1 := hD.same (H' := H1) fun b o e _ => s1 b o e
      obtain ⟨A, D, l, h, rfl⟩ := id hD1
      obtain ⟨dx, hp⟩ := h.o
      refine ⟨_, rfl, p, dx, _, rfl, hp, dfs_no _ _ _ (by decide +kernel) (by decide +kernel) (by decide +kernel) (by decide +kernel), _, rfl, p, _, S, bOf i, rfl, hD1, fun w hw => ?_⟩
      have sw := same_new hw (.lst ((S.ar (bOf i)).map V.int))
      have s2 := s1.trans sw
      refine ⟨_, rfl, _, rfl, a, _, _, _, rfl, rfl, SqL.of (s2 _ _ ha), two_at (H := H) (K := K) (fun b => V.ref (m b)) (bOf i), ?_⟩
      refine ⟨_, _, rfl, SameV.ints (n := 4) upd_same (s2 _ _ (hm (bOf i))) (hl _), _, rfl, ?_⟩
      refine iteF ?_
      have hD2 := hD.same (H' := upd H1 w (.lst ((S.ar (bOf i)).map V.int))) fun b o e _ => s2 b o e
      obtain ⟨A2, D2, l2, h2, e2⟩ := id hD2
      obtain ⟨dx2, hp2⟩ := h2.o
      refine ⟨_, rfl, p, dx2, _, rfl, hp2, dfs_no _ _ _ (by decide +kernel) (by decide +kernel) (by decide +kernel) (by decide +kernel), _, rfl, p, _, S, bOf i, rfl, hD2, ?_⟩
      refine ⟨_, rfl, _, rfl, t, _, _, _, rfl, rfl, SqL.of (s2 _ _ ht), two_at (H := H) (K := K) (fun b => V.int (S.su b)) (bOf i), ?_⟩
      refine ⟨_, _, rfl, SameV.sc (n := 5) rfl, _, rfl, ?_⟩
      exact iteF ⟨⟨_, rfl⟩, s2⟩
    · rintro σ H1 ⟨⟨v, rfl⟩, s1⟩
      exact q H1 s1)
theorem ok_Disk_restarted {C_Disk : Addr} {f : Addr} {fd : FuncData} (k : KnM K "restarted" "Disk.restarted" s_Disk_restarted ["self", "count"] C_Disk f fd) (z : Z K mg)
    (t_Disk : T_Disk K mg C_Disk)
    {C_PowerError S_PowerError : Addr} (e_PowerError : Err0 K mg "PowerError" C_PowerError S_PowerError)
    {g_Disk___init__ : Addr} {gd_Disk___init__ : FuncData} (c_Disk___init__ : CalI CX0 P w K mg base 1 ["self"] (spDInit C_Disk) C_Disk g_Disk___init__ gd_Disk___init__)
    {g_Disk_append : Addr} {gd_Disk_append : FuncData} (c_Disk_append : CalM (L2N.CX P w) P w K mg base 4 "append" ["self", "area", "numbers"] (spAppend C_Disk C_PowerError) C_Disk g_Disk_append gd_Disk_append)
    {g_Disk_sync : Addr} {gd_Disk_sync : FuncData} (c_Disk_sync : CalM (L2N.CX P w) P w K mg base 4 "sync" ["self", "area"] (spSync C_Disk C_PowerError) C_Disk g_Disk_sync gd_Disk_sync) :
    CalM CX0 P w K mg base 5 "restarted" ["self", "count"] (spRestarted C_Disk) C_Disk f fd := k.cal (by
  obtain ⟨a_AREAS, k_AREAS, q_AREAS⟩ := z.c_AREAS
  refine k.F.ok sc_Disk_restarted (fun vs H Q E h => ?_) (fun cdv A outer s H vs Q E hr h => ?_)
  · obtain ⟨p, own, S, n, rfl, _⟩ := h; rfl
  · obtain ⟨p, own, S, k, rfl, hD, hl, q⟩ := h
    have hu := hu_of hr
    refine ⟨_, (pss_cons (ps_set (i := 2) sc_Disk_restarted.nd rfl (Or.inl rfl) (pe_make0 c_Disk___init__.mkr c_Disk___init__.G (hr.mono (by decide)) rfl t_Disk.gC c_Disk___init__.b .nil pass0))
        (pss_cons (ps_for PassesOwn.never rfl (pi_tup (pe_glob (v := .ref a_AREAS) rfl k_AREAS rfl)) (pg_name (i := 3) sc_Disk_restarted.nd rfl (Or.inl rfl))
        (pss_cons (ps_expr (pe_meth (E := fun _ _ _ => False) (pv 2) t_Disk.cl c_Disk_append.mt c_Disk_append.G (hr.mono (by decide)) c_Disk_append.b .nil (L2N.passes_call takes0N (fun _ _ _ _ h => h)) (pa_cons (pv 3) (pa_cons (pe_slice sl_list (pe_dget hu (pe_fld (pv 0) rfl) (pv 3) (fun _ _ => rfl)) po_none (po_some (pe_op op_add (pe_dget hu (pe_fld (pv 0) rfl) (pv 3) (fun _ _ => rfl)) (pv 1)))) pa_nil))))
        (pss_one (ps_expr (pe_meth (E := fun _ _ _ => False) (pv 2) t_Disk.cl c_Disk_sync.mt c_Disk_sync.G (hr.mono (by decide)) c_Disk_sync.b .nil (L2N.passes_call takes0N (fun _ _ _ _ h => h)) (pa_cons (pv 3) pa_nil))))))
        (pss_one (ps_ret (pv 2))))), ?_⟩
    refine fun r dx nr ndx nex => ?_
    refine ⟨r, dx, rfl, upd_same, fun H1 own1 D1 f1 n1 => ⟨rfl, ?_⟩⟩
    have ow1 : ∀ b ∈ own1, H b = none := fun b hb => by
      rcases n1 b hb with rfl | h
      · exact nr
      · by_cases e1 : b = r
        · rw [e1]; exact nr
        · by_cases e2 : b = dx
          · rw [e2]; exact ndx
          · rw [upd_ne e1, upd_ne e2] at h; exact h
    have s1 : Same H H1 := fun b o e => by
      have e1 : b ≠ r := ne_of_none e nr
      have e2 : b ≠ dx := ne_of_none e ndx
      exact f1 b o (by rw [upd_ne e1, upd_ne e2]; exact e) (by simpa using e1)
    refine ⟨a_AREAS, rfl, ⟨_, q_AREAS _⟩, for_tup (K := K) (a := a_AREAS) (xs := [V.int 0, V.int 1]) (fun i σ H' => ∃ own', (∃ v, σ = [some (.ref p), some (.int k), some (.ref r), v]) ∧ DiskAt C_Disk H' r own' (S.half k i) ∧ Same H H' ∧ ∀ b ∈ own', H b = none) ?_ (fun i σ H' _ _ => q_AREAS _) ?_ ?_⟩
    · exact ⟨own1, ⟨none, rfl⟩, by rw [S.half_zero]; exact D1, s1, ow1⟩
    · rintro i x σ H2 hi ⟨own2, ⟨v, rfl⟩, D2, s2, ow2⟩
      have hi2 : i < 2 := by
        have := (List.getElem?_eq_some_iff.mp hi).1
        simpa using this
      have ex : x = .int (bi (bOf i)) := by
        match i, hi2, hi with
        | 0, _, hi => cases hi; rfl
        | 1, _, hi => cases hi; rfl
      subst ex
      have hD2 : DiskAt C_Disk H2 p own S := hD.same fun b o e _ => s2 b o e
      obtain ⟨A, D, l, h, rfl⟩ := hD2
      obtain ⟨dx0, ho⟩ := h.o
      obtain ⟨A2, D2', l2, h2, rfl⟩ := id D2
      obtain ⟨dx2, ho2⟩ := h2.o
      refine ⟨_, rfl, r, dx2, _, rfl, ho2, dfs_no _ _ _ (by decide +kernel) (by decide +kernel) (by decide +kernel) (by decide +kernel), _, rfl, ?_⟩
      refine ⟨_, rfl, p, C_Disk, dx0, _, _, rfl, ho, t_Disk.cl, t_Disk.n__areas, dfs_a _ _ _, _, rfl, A, _, rfl, bd_dget h.a (bOf i), ?_⟩
      refine ⟨_, rfl, p, C_Disk, dx0, _, _, rfl, ho, t_Disk.cl, t_Disk.n__durables, dfs_d _ _ _, _, rfl, D, _, rfl, bd_dget h.d (bOf i), _, rfl, _, _, rfl, rfl, ?_⟩
      refine ⟨_, rfl, l (bOf i), _, rfl, SqL.of (h.ls (bOf i)), fun w hw => ?_⟩
      have ec : cutV ((S.ar (bOf i)).map V.int) none (some (((S.su (bOf i) : Nat) : Int) + (k : Int))) = ((S.ar (bOf i)).take (S.su (bOf i) + k)).map V.int := by
        have e : ((S.su (bOf i) : Nat) : Int) + (k : Int) = ((S.su (bOf i) + k : Nat) : Int) := by omega
        rw [e, cut_take, List.map_take]
      have sw := same_new hw (.lst (cutV ((S.ar (bOf i)).map V.int) none (some (((S.su (bOf i) : Nat) : Int) + (k : Int)))))
      have h1len := hl (bOf i)
      have D3 := D2.same (H' := upd H2 w (.lst (cutV ((S.ar (bOf i)).map V.int) none (some (((S.su (bOf i) : Nat) : Int) + (k : Int)))))) fun b o e _ => sw b o e
      have ht : ((S.ar (bOf i)).take (S.su (bOf i) + k)).length ≤ 900 := by rw [List.length_take]; omega
      have h0 : ((S.half k i).ar (bOf i)).length = 0 := by
        unfold DS.half
        show (if bi (bOf i) < (i : Int) then _ else _ : List Int).length = 0
        rw [if_neg (by rw [bi_bOf hi2]; omega)]; rfl
      refine ⟨r, _, _, bOf i, (S.ar (bOf i)).take (S.su (bOf i) + k), w, rfl, D3, by rw [upd_same, ec], fun hm => h2.in_ hm hw, by omega, fun H4 own4 D4 f4 n4 => ⟨fun z => ?_, fun _ => ?_⟩⟩
      · rw [go_app _ _ rfl rfl] at z; cases z
      have s4 : Same H H4 := f4.same (same_upd (s2.free hw) _ s2) ow2
      have ow4 : ∀ b ∈ own4, H b = none := fun b hb => by
        rcases n4 b hb with hx | hx
        · exact ow2 b hx
        · have : H2 b = none := by
            by_cases e : b = w
            · rw [e]; exact hw
            · rw [upd_ne e] at hx; exact hx
          exact s2.free this
      obtain ⟨A4, D4', l4, h4, rfl⟩ := id D4
      obtain ⟨dx4, ho4⟩ := h4.o
      refine ⟨_, rfl, r, dx4, _, rfl, ho4, dfs_no _ _ _ (by decide +kernel) (by decide +kernel) (by decide +kernel) (by decide +kernel), _, rfl, ?_⟩
      refine ⟨r, _, _, bOf i, rfl, D4, ?_, fun H5 own5 D5 f5 n5 => ⟨fun z => ?_, fun _ => ?_⟩⟩
      · have := DS.go_len (S.half k i) (.app (bOf i) ((S.ar (bOf i)).take (S.su (bOf i) + k))) _ (fun b ys e => by cases e; rfl) (bOf i)
        omega
      · rw [S.half_step k hi2] at z; cases z
      rw [S.half_step k hi2] at D5
      refine ⟨own5, ⟨_, rfl⟩, D5, f5.same s4 ow4, fun b hb => ?_⟩
      rcases n5 b hb with hx | hx
      · exact ow4 b hx
      · exact s4.free hx
    · rintro σ H2 ⟨own2, ⟨v, rfl⟩, D2, s2, ow2⟩
      refine ⟨_, rfl, q H2 r own2 ?_ s2 ow2⟩
      rw [← S.half_two]; exact D2)
theorem ok_law_restart {f : Addr} {fd : FuncData} (k : Kn K mg "_law_restart" s_law_restart ["disk", "known", "count"] f fd) (z : Z K mg)
    {C_Disk : Addr} (t_Disk : T_Disk K mg C_Disk)
    {C_PowerError S_PowerError : Addr} (e_PowerError : Err0 K mg "PowerError" C_PowerError S_PowerError)
    {g_Disk_restarted : Addr} {gd_Disk_restarted : FuncData} (c_Disk_restarted : CalM CX0 P w K mg base 5 "restarted" ["self", "count"] (spRestarted C_Disk) C_Disk g_Disk_restarted gd_Disk_restarted)
    {g_law_agrees : Addr} {gd_law_agrees : FuncData} (c_law_agrees : Cal P w K mg base 13 "_law_agrees" ["disk", "areas", "safe"] (spAgrees K C_Disk) g_law_agrees gd_law_agrees)
    {g_Disk_append : Addr} {gd_Disk_append : FuncData} (c_Disk_append : CalM (L2N.CX P w) P w K mg base 4 "append" ["self", "area", "numbers"] (spAppend C_Disk C_PowerError) C_Disk g_Disk_append gd_Disk_append)
    {g_Disk_sync : Addr} {gd_Disk_sync : FuncData} (c_Disk_sync : CalM (L2N.CX P w) P w K mg base 4 "sync" ["self", "area"] (spSync C_Disk C_PowerError) C_Disk g_Disk_sync gd_Disk_sync) :
    Cal P w K mg base 14 "_law_restart" ["disk", "known", "count"] (spRestartLaw C_Disk) f fd := k.cal (by
  refine k.F.ok sc_law_restart (fun vs H Q E h => ?_) (fun cdv A outer s H vs Q E hr h => ?_)
  · obtain ⟨p, own, S, k, kown, c, rfl, _⟩ := h; rfl
  · obtain ⟨p, own, S, k, kown, c, rfl, hD, hN, hl, q⟩ := h
    have hu := hu_of hr
    obtain ⟨A, D, l, h, rfl⟩ := id hD
    obtain ⟨dx, hp⟩ := h.o
    obtain ⟨ka, ks, m, n, rfl⟩ := id hN
    refine ⟨_, (pss_cons (ps_set (i := 3) sc_law_restart.nd rfl (Or.inl rfl) (pe_meth (pv 0) t_Disk.cl c_Disk_restarted.mt c_Disk_restarted.G (hr.mono (by decide)) c_Disk_restarted.b .nil pass0 (pa_cons (pv 2) pa_nil)))
        (pss_cons (ps_setLc (i := 4) (own := [("area", 5)]) (g := gName 5) (tt := tYes) (by rfl) sc_law_restart.nd rfl rfl (sw_true rfl rfl rfl (by decide +kernel)) (pi_range1 (by rfl) z.range (pa_cons pe_int pa_nil)) (blkOk_by (own := [("area", 5)]) (N := ["disk", "known", "count", "twin", "areas", "area"]) (sc := defScope s_law_restart) (by decide +kernel)) (fun _ _ _ _ _ => pg_name (i := 5) sc_law_restart.nd rfl (Or.inl rfl)) (fun _ _ _ _ _ => pts_nil) (fun _ _ _ _ _ => (pe_slice (r := rSlL K) sl_list (pe_ix (r := rIxL K) ix_list (pe_dget hu (pv 1) pe_str (fun _ _ => rfl)) (pv 5) (fun _ _ => rfl)) po_none (po_some (pe_op op_add (pe_ix (r := rIxL K) ix_list (pe_dget hu (pv 1) pe_str (fun _ _ => rfl)) (pv 5) (fun _ _ => rfl)) (pv 2))))))
        (pss_cons (ps_if (pt_not (pt_val (pe_call c_law_agrees.G (hr.mono (by decide)) (by rfl) c_law_agrees.m c_law_agrees.kp c_law_agrees.b .nil pass0 (pa_cons (pv 3) (pa_cons (pv 4) (pa_cons (pe_lst (pa_cons (pe_callB call_len_seq (by rfl) z.len (by decide +kernel) (pa_cons (pe_ix ix_list (pv 4) pe_int (fun _ _ => rfl)) pa_nil)) (pa_cons (pe_callB call_len_seq (by rfl) z.len (by decide +kernel) (pa_cons (pe_ix ix_list (pv 4) pe_int (fun _ _ => rfl)) pa_nil)) pa_nil))) pa_nil)))))) (pss_one (ps_ret pe_bl)) pss_nil)
        (pss_cons (ps_expr (pe_meth (E := fun _ _ _ => False) (pv 3) t_Disk.cl c_Disk_append.mt c_Disk_append.G (hr.mono (by decide)) c_Disk_append.b .nil (L2N.passes_call takes0N (fun _ _ _ _ h => h)) (pa_cons pe_int (pa_cons (pe_op op_rep (pe_lst (pa_cons pe_int pa_nil)) pe_int) pa_nil))))
        (pss_cons (ps_expr (pe_meth (E := fun _ _ _ => False) (pv 3) t_Disk.cl c_Disk_sync.mt c_Disk_sync.G (hr.mono (by decide)) c_Disk_sync.b .nil (L2N.passes_call takes0N (fun _ _ _ _ h => h)) (pa_cons pe_int pa_nil)))
        (pss_cons (ps_asg (pe_op op_cat (pe_ix ix_list (pv 4) pe_int (fun _ _ => rfl)) (pe_op op_rep (pe_lst (pa_cons pe_int pa_nil)) pe_int)) (pg_sub (pv 4) pe_int set_list))
        (pss_one (ps_ret (pe_call c_law_agrees.G (hr.mono (by decide)) (by rfl) c_law_agrees.m c_law_agrees.kp c_law_agrees.b .nil pass0 (pa_cons (pv 3) (pa_cons (pv 4) (pa_cons (pe_lst (pa_cons (pe_op op_sub (pe_callB call_len_seq (by rfl) z.len (by decide +kernel) (pa_cons (pe_ix ix_list (pv 4) pe_int (fun _ _ => rfl)) pa_nil)) pe_int) (pa_cons (pe_callB call_len_seq (by rfl) z.len (by decide +kernel) (pa_cons (pe_ix ix_list (pv 4) pe_int (fun _ _ => rfl)) pa_nil)) pa_nil))) pa_nil)))))))))))), ?_⟩
    refine ⟨_, rfl, p, dx, _, rfl, hp, dfs_no _ _ _ (by decide +kernel) (by decide +kernel) (by decide +kernel) (by decide +kernel), _, rfl, p, _, S, c, rfl, hD, hl, fun H1 r own1 D1 s1 n1 => ?_⟩
    have N1 := n.same s1
    refine ⟨2, rfl, by decide, by decide, fun L hL => lc_range (lo := 0) (n := 2) (fun i H' => ∃ w : Bool → Addr, H' L = some (.lst ([V.ref (w false), V.ref (w true)].take i)) ∧ (∀ b, bi b < i → H' (w b) = some (.lst (((S.restart c).ar b).map V.int)) ∧ H1 (w b) = none) ∧ Same H1 H') ⟨fun _ => 0, upd_same, fun b hb => (by cases b <;> cases hb), same_new hL _⟩ ?_ ?_⟩
    · rintro i H2 hi ⟨w, h2, h3, s2⟩
      have eb : (0 : Int) + (i : Int) = bi (bOf i) := by rw [bi_bOf hi]; omega
      rw [eb]
      have N2 := N1.same s2
      refine ⟨rfl, _, rfl, k, .ref ka, rfl, kg_a N2.hk, _, rfl, ka, _, _, _, rfl, rfl, SqL.of N2.ha, two_at (H := H2) (K := K) (fun b => V.ref (m b)) (bOf i), ?_⟩
      refine ⟨_, rfl, k, .ref ks, rfl, kg_s N2.hk, _, rfl, ks, _, _, _, rfl, rfl, SqL.of N2.hs, two_at (H := H2) (K := K) (fun b => V.int (S.su b)) (bOf i), _, rfl, _, _, rfl, rfl, ?_⟩
      refine ⟨_, rfl, m (bOf i), _, rfl, SqL.of (N2.ms (bOf i)), fun x hx => ?_⟩
      have ec : cutV ((S.ar (bOf i)).map V.int) none (some (((S.su (bOf i) : Nat) : Int) + (c : Int))) = ((S.restart c).ar (bOf i)).map V.int := by
        have e : ((S.su (bOf i) : Nat) : Int) + (c : Int) = ((S.su (bOf i) + c : Nat) : Int) := by omega
        rw [e, cut_take]
        show _ = ((S.ar (bOf i)).take (S.su (bOf i) + c)).map V.int
        rw [List.map_take]
      have sx := same_new hx (.lst (cutV ((S.ar (bOf i)).map V.int) none (some (((S.su (bOf i) : Nat) : Int) + (c : Int)))))
      have Lx : L ≠ x := ne_of_none h2 hx
      refine ⟨_, by rw [upd_ne Lx]; exact h2, (by rw [List.length_take]; exact small1000 (by omega)), setB w (bOf i) x, ?_, fun b hb => ?_, same_upd hL _ (s2.trans sx)⟩
      · rw [upd_same]
        match i, hi with
        | 0, _ => rfl
        | 1, _ => rfl
      · by_cases e : b = bOf i
        · subst e
          simp only [setB, if_pos]
          rw [upd_ne Lx.symm, upd_same, ec]
          exact ⟨rfl, s2.free hx⟩
        · simp only [setB, if_neg e]
          have hb' : bi b < (i : Int) := by
            match i, hi with
            | 0, _ => cases b
                      · exact absurd rfl e
                      · have : bi true = 1 := rfl
                        omega
            | 1, _ => cases b
                      · decide
                      · exact absurd rfl e
          obtain ⟨h4, h5⟩ := h3 b hb'
          refine ⟨?_, h5⟩
          rw [upd_ne (ne_of h4 h2 (by
            intro z
            injection z with z
            match i, hi with
            | 0, _ => exact absurd hb' (by cases b <;> decide)
            | 1, _ =>
              cases e2 : (S.restart c).ar b with
              | nil => rw [e2] at z; cases z
              | cons y ys => rw [e2] at z; cases z)), upd_ne (ne_of_none h4 hx)]
          exact h4
    rintro H2 ⟨w, h2, h3, s2⟩
    have h2' : H2 L = some (.lst [V.ref (w false), V.ref (w true)]) := h2
    have h3' : ∀ b, H2 (w b) = some (.lst (((S.restart c).ar b).map V.int)) := fun b => (h3 b (by cases b <;> decide)).1
    have h3n : ∀ b, H1 (w b) = none := fun b => (h3 b (by cases b <;> decide)).2
    have len1 : ∀ b, ((S.restart c).ar b).length ≤ 900 := fun b => by
      show ((S.ar b).take (S.su b + c)).length ≤ 900
      have := hl b
      rw [List.length_take]; omega
    have D2 := D1.same (H' := H2) fun b o e _ => s2 b o e
    refine ⟨_, rfl, _, rfl, _, rfl, L, _, 0, _, rfl, rfl, SqL.of h2', atI_nat (j := 0) rfl, w false, _, rfl, .inl (SqL.of (h3' false)), ?_⟩
    refine ⟨_, rfl, L, _, 1, _, rfl, rfl, SqL.of h2', atI_nat (j := 1) rfl, w true, _, rfl, .inl (SqL.of (h3' true)), ?_⟩
    rw [List.length_map, List.length_map]
    refine ⟨(by show 2 ≤ sizeLine; decide), fun M hM => ?_⟩
    have s3 := same_new hM (.lst [V.int ((((S.restart c).ar false).length : Nat) : Int), V.int ((((S.restart c).ar true).length : Nat) : Int)])
    refine ⟨r, own1, S.restart c, L, M, w, rfl, D2.same fun b o e _ => s3 b o e, s3 _ _ h2', upd_same, fun b => s3 _ _ (h3' b), fun b => Nat.le_trans (len1 b) (by decide), fun H4 s4 => ⟨_, rfl, iteF ?_⟩⟩
    have S4 := s2.trans (s3.trans s4)
    have D4 := D1.same (H' := H4) fun b o e _ => S4 b o e
    obtain ⟨A4, E4, l4, k4, eo4⟩ := id D4
    obtain ⟨dx4, hp4⟩ := k4.o
    refine ⟨_, rfl, r, dx4, _, rfl, hp4, dfs_no _ _ _ (by decide +kernel) (by decide +kernel) (by decide +kernel) (by decide +kernel), ?_⟩
    refine ⟨(by show 1 ≤ sizeLine; decide), fun u hu1 => ?_⟩
    refine ⟨u, 30, _, rfl, rfl, upd_same, by decide, by decide, (by show 1 * 30 ≤ sizeLine; decide), fun v hv => ?_⟩
    rw [thirty]
    have s5 := (same_new hu1 (.lst [V.int 1])).trans (same_new hv (.lst ((List.replicate 30 (1 : Int)).map V.int)))
    have D5 := D4.same (H' := upd (upd H4 u (.lst [V.int 1])) v (.lst ((List.replicate 30 (1 : Int)).map V.int))) fun b o e _ => s5 b o e
    have vn : v ∉ own1 := fun hm => by
      have h0 := (same_new hu1 (.lst [V.int 1])).free hv
      exact D4.in_ hm h0
    refine ⟨r, own1, S.restart c, false, List.replicate 30 1, v, rfl, D5, upd_same, vn, (by have := len1 false; rw [List.length_replicate]; omega), fun H6 own6 D6 f6 n6 => ⟨fun z => ?_, fun _ => ?_⟩⟩
    · rw [go_app _ _ rfl rfl] at z; cases z
    have hL5 : (upd (upd H4 u (.lst [V.int 1])) v (.lst ((List.replicate 30 (1 : Int)).map V.int))) L = some (.lst [V.ref (w false), V.ref (w true)]) := s5 _ _ (s4 _ _ (s3 _ _ h2'))
    have hw5 : ∀ b, (upd (upd H4 u (.lst [V.int 1])) v (.lst ((List.replicate 30 (1 : Int)).map V.int))) (w b) = some (.lst (((S.restart c).ar b).map V.int)) := fun b => s5 _ _ (s4 _ _ (s3 _ _ (h3' b)))
    have o1L : L ∉ own1 := fun hm => D1.in_ hm hL
    have o1w : ∀ b, w b ∉ own1 := fun b hm => D1.in_ hm (h3n b)
    have hL6 := f6 _ _ hL5 o1L
    have hw6 : ∀ b, H6 (w b) = some (.lst (((S.restart c).ar b).map V.int)) := fun b => f6 _ _ (hw5 b) (o1w b)
    have o6 : ∀ (x : Addr) (o : HO), (upd (upd H4 u (.lst [V.int 1])) v (.lst ((List.replicate 30 (1 : Int)).map V.int))) x = some o → x ∉ own1 → x ∉ own6 := fun x o e hx hm => by
      rcases n6 x hm with h | h
      · exact hx h
      · rw [e] at h; cases h
    obtain ⟨A6, E6, l6, k6, eo6⟩ := id D6
    obtain ⟨dx6, hp6⟩ := k6.o
    refine ⟨_, rfl, r, dx6, _, rfl, hp6, dfs_no _ _ _ (by decide +kernel) (by decide +kernel) (by decide +kernel) (by decide +kernel), ?_⟩
    refine ⟨r, own6, _, true, rfl, D6, ?_, fun H7 own7 D7 f7 n7 => ⟨fun z => ?_, fun _ => ?_⟩⟩
    · rw [go_app _ _ rfl rfl]
      have := len1 true
      show ((S.restart c).ar true).length ≤ 1000
      omega
    · rw [re_end] at z; cases z
    rw [re_end] at D7
    have hL7 := f7 _ _ hL6 (o6 _ _ hL5 o1L)
    have hw7 : ∀ b, H7 (w b) = some (.lst (((S.restart c).ar b).map V.int)) := fun b => f7 _ _ (hw6 b) (o6 _ _ (hw5 b) (o1w b))
    refine ⟨_, rfl, L, _, 0, _, rfl, rfl, SqL.of hL7, atI_nat (j := 0) rfl, (by show 1 ≤ sizeLine; decide), fun u2 hu2 => ?_⟩
    refine ⟨u2, 30, _, rfl, rfl, upd_same, by decide, by decide, (by show 1 * 30 ≤ sizeLine; decide), fun v2 hv2 => ?_⟩
    rw [thirty]
    have s8 := (same_new hu2 (.lst [V.int 1])).trans (same_new hv2 (.lst ((List.replicate 30 (1 : Int)).map V.int)))
    refine ⟨_, _, _, _, rfl, rfl, s8 _ _ (hw7 false), upd_same, ?_, fun x hx => ?_⟩
    · have := len1 false
      rw [List.length_map, List.length_map, List.length_replicate]
      exact Nat.le_of_lt (small1000 (by omega))
    rw [← List.map_append]
    have s9 := s8.trans (same_new hx (.lst (((S.restart c).ar false ++ List.replicate 30 1).map V.int)))
    refine ⟨_, rfl, L, _, _, 0, rfl, rfl, s9 _ _ hL7, rfl, ?_⟩
    have D9 := D7.same (H' := upd (upd (upd (upd H7 u2 (.lst [V.int 1])) v2 (.lst ((List.replicate 30 (1 : Int)).map V.int))) x (.lst (((S.restart c).ar false ++ List.replicate 30 1).map V.int))) L (.lst ([V.ref (w false), V.ref (w true)].set 0 (.ref x)))) fun b o e hb => by
      rw [upd_ne (fun z => ?_)]
      · exact s9 _ _ e
      · subst z
        rcases n7 _ hb with h | h
        · exact o6 _ _ hL5 o1L h
        · rw [hL6] at h; cases h
    have Lx : L ≠ x := ne_of_none (s8 _ _ hL7) hx
    have hx9 : upd (upd (upd (upd H7 u2 (.lst [V.int 1])) v2 (.lst ((List.replicate 30 (1 : Int)).map V.int))) x (.lst (((S.restart c).ar false ++ List.replicate 30 1).map V.int))) L (.lst ([V.ref (w false), V.ref (w true)].set 0 (.ref x))) x = some (.lst (((S.restart c).ar false ++ List.replicate 30 1).map V.int)) := by rw [upd_ne Lx.symm]; exact upd_same
    have Lw : w true ≠ L := fun z => by
      have h1 := hw7 true
      rw [z, hL7] at h1
      injection h1 with h1
      injection h1 with h1
      exact ints_refs h1.symm
    have hw9 : upd (upd (upd (upd H7 u2 (.lst [V.int 1])) v2 (.lst ((List.replicate 30 (1 : Int)).map V.int))) x (.lst (((S.restart c).ar false ++ List.replicate 30 1).map V.int))) L (.lst ([V.ref (w false), V.ref (w true)].set 0 (.ref x))) (w true) = some (.lst (((S.restart c).ar true).map V.int)) := by rw [upd_ne Lw]; exact s9 _ _ (hw7 true)
    have hS9 : Same H (upd (upd (upd (upd H7 u2 (.lst [V.int 1])) v2 (.lst ((List.replicate 30 (1 : Int)).map V.int))) x (.lst (((S.restart c).ar false ++ List.replicate 30 1).map V.int))) L (.lst ([V.ref (w false), V.ref (w true)].set 0 (.ref x)))) := fun b o e => by
      have b1 : b ∉ own1 := fun hm => by have := n1 b hm; rw [e] at this; cases this
      have e5 := s5 _ _ (S4 _ _ (s1 _ _ e))
      have bL : b ≠ L := ne_of_none (s1 _ _ e) hL
      rw [upd_ne bL]
      exact s9 _ _ (f7 _ _ (f6 _ _ e5 b1) (o6 _ _ e5 b1))
    have hL9 : upd (upd (upd (upd H7 u2 (.lst [V.int 1])) v2 (.lst ((List.replicate 30 (1 : Int)).map V.int))) x (.lst (((S.restart c).ar false ++ List.replicate 30 1).map V.int))) L (.lst ([V.ref (w false), V.ref (w true)].set 0 (.ref x))) L = some (.lst [.ref x, .ref (w true)]) := upd_same
    generalize upd (upd (upd (upd H7 u2 (.lst [V.int 1])) v2 (.lst ((List.replicate 30 (1 : Int)).map V.int))) x (.lst (((S.restart c).ar false ++ List.replicate 30 1).map V.int))) L (.lst ([V.ref (w false), V.ref (w true)].set 0 (.ref x))) = H9 at D9 hx9 hw9 hS9 hL9
    refine ⟨_, rfl, _, rfl, _, rfl, L, _, 0, _, rfl, rfl, SqL.of hL9, atI_nat (j := 0) rfl, x, _, rfl, .inl (SqL.of hx9), _, _, rfl, rfl, ?_⟩
    refine ⟨_, rfl, L, _, 1, _, rfl, rfl, SqL.of hL9, atI_nat (j := 1) rfl, w true, _, rfl, .inl (SqL.of hw9), ?_⟩
    refine ⟨(by show 2 ≤ sizeLine; decide), fun M2 hM2 => ?_⟩
    have e1 : ((((((S.restart c).ar false ++ List.replicate 30 1).map V.int).length : Nat) : Int) - 30) = (((S.restart c).su false : Nat) : Int) := by
      rw [List.length_map, List.length_append, List.length_replicate]
      show _ = ((((S.restart c).ar false).length : Nat) : Int)
      omega
    have e2 : (((((S.restart c).ar true).map V.int).length : Nat) : Int) = (((S.restart c).su true : Nat) : Int) := by
      rw [List.length_map]; rfl
    refine ⟨r, own7, _, L, M2, fun b => if b = true then w true else x, rfl, D9.same fun b o e _ => same_new hM2 _ b o e, same_new hM2 _ _ _ hL9, by rw [← e1, ← e2]; exact upd_same, fun b => ?_, fun b => ?_, fun H' s' => q H' (hS9.trans ((same_new hM2 _).trans s'))⟩
    · cases b
      · exact same_new hM2 _ _ _ hx9
      · exact same_new hM2 _ _ _ hw9
    · have h1 := len1 true
      have h0 := len1 false
      cases b
      · show ((S.restart c).ar false ++ List.replicate 30 1).length ≤ 1000
        rw [List.length_append, List.length_replicate]; omega
      · show ((S.restart c).ar true).length ≤ 1000
        omega)
theorem ok_law {f : Addr} {fd : FuncData} (k : Kn K mg "law" s_law ["script"] f fd) (z : Z K mg)
    {C_Disk : Addr} (t_Disk : T_Disk K mg C_Disk)
    {C_PowerError S_PowerError : Addr} (e_PowerError : Err0 K mg "PowerError" C_PowerError S_PowerError)
    {g_law_tape : Addr} {gd_law_tape : FuncData} (c_law_tape : Cal P w K mg base 1 "_law_tape" ["script"] (spTape K) g_law_tape gd_law_tape)
    {g_Disk___init__ : Addr} {gd_Disk___init__ : FuncData} (c_Disk___init__ : CalI CX0 P w K mg base 1 ["self"] (spDInit C_Disk) C_Disk g_Disk___init__ gd_Disk___init__)
    {g_law_take : Addr} {gd_law_take : FuncData} (c_law_take : Cal P w K mg base 1 "_law_take" ["tape", "many"] (spTake) g_law_take gd_law_take)
    {g_Disk_limit_power : Addr} {gd_Disk_limit_power : FuncData} (c_Disk_limit_power : CalM CX0 P w K mg base 1 "limit_power" ["self", "units"] (spLimit C_Disk) C_Disk g_Disk_limit_power gd_Disk_limit_power)
    {g_law_call : Addr} {gd_law_call : FuncData} (c_law_call : Cal P w K mg base 5 "_law_call" ["disk", "act"] (spCallAct C_Disk) g_law_call gd_law_call)
    {g_law_do : Addr} {gd_law_do : FuncData} (c_law_do : Cal P w K mg base 1 "_law_do" ["known", "act"] (spDoAct) g_law_do gd_law_do)
    {g_law_agrees : Addr} {gd_law_agrees : FuncData} (c_law_agrees : Cal P w K mg base 13 "_law_agrees" ["disk", "areas", "safe"] (spAgrees K C_Disk) g_law_agrees gd_law_agrees)
    {g_law_restart : Addr} {gd_law_restart : FuncData} (c_law_restart : Cal P w K mg base 14 "_law_restart" ["disk", "known", "count"] (spRestartLaw C_Disk) g_law_restart gd_law_restart) :
    Cal P w K mg base 15 "law" ["script"] (spLaw K) f fd := k.cal (by
  refine k.F.ok sc_law (fun vs H Q E h => ?_) (fun cdv A outer s H vs Q E hr h => ?_)
  · obtain ⟨a, ns, rfl, _⟩ := h; rfl
  · obtain ⟨a, ns, rfl, hS, h63, q⟩ := h
    have hu := hu_of hr
    refine ⟨_, (pss_cons (ps_set (i := 1) sc_law.nd rfl (Or.inr rfl) (pe_call c_law_tape.G (hr.mono (by decide)) (by rfl) c_law_tape.m c_law_tape.kp c_law_tape.b .nil pass0 (pa_cons (pv 0) pa_nil)))
        (pss_cons (ps_set (i := 2) sc_law.nd rfl (Or.inl rfl) (pe_make0 c_Disk___init__.mkr c_Disk___init__.G (hr.mono (by decide)) rfl t_Disk.gC c_Disk___init__.b .nil pass0))
        (pss_cons (ps_set (i := 3) sc_law.nd rfl (Or.inl rfl) (pe_disp (pps_cons pe_str (pe_lst (pa_cons (pe_lst pa_nil) (pa_cons (pe_lst pa_nil) pa_nil))) (pps_cons pe_str (pe_lst (pa_cons pe_int (pa_cons pe_int pa_nil))) (pps_cons pe_str pe_non (pps_cons pe_str pe_bl pps_nil)))) (by rfl) (by rfl) (fun z => by cases z) (by decide)))
        (pss_cons (ps_set (i := 4) sc_law.nd rfl (Or.inl rfl) (pe_call c_law_take.G (hr.mono (by decide)) (by rfl) c_law_take.m c_law_take.kp c_law_take.b .nil pass0 (pa_cons (pv 1) (pa_cons pe_int pa_nil))))
        (pss_cons (ps_for PassesOwn.never rfl (pi_range1 (by rfl) z.range (pa_cons (pe_op op_add pe_int (pe_call c_law_take.G (hr.mono (by decide)) (by rfl) c_law_take.m c_law_take.kp c_law_take.b .nil pass0 (pa_cons (pv 1) (pa_cons pe_int pa_nil)))) pa_nil)) (pg_name (i := 5) sc_law.nd rfl (Or.inl rfl))
        (pss_cut (ps_if (pt_cmpR op_eq (pv 5) (pv 4) (nomark _)) (pss_cons (ps_dput hu (pv 3) pe_str (pe_call c_law_take.G (hr.mono (by decide)) (by rfl) c_law_take.m c_law_take.kp c_law_take.b .nil pass0 (pa_cons (pv 1) (pa_cons pe_int pa_nil))) rfl)
        (pss_one (ps_expr (pe_meth (pv 2) t_Disk.cl c_Disk_limit_power.mt c_Disk_limit_power.G (hr.mono (by decide)) c_Disk_limit_power.b .nil pass0 (pa_cons (pe_dget hu (pv 3) pe_str (fun _ _ => rfl)) pa_nil))))) pss_nil)
        (pss_cons (ps_setLc (i := 6) (own := [("j", 9)]) (g := gName 9) (tt := tYes) (by rfl) sc_law.nd rfl rfl (sw_true rfl rfl rfl (by decide +kernel)) (pi_range1 (by rfl) z.range (pa_cons (pe_call c_law_take.G (hr.mono (by decide)) (by rfl) c_law_take.m c_law_take.kp c_law_take.b .nil pass0 (pa_cons (pv 1) (pa_cons pe_int pa_nil))) pa_nil)) (blkOk_by (own := [("j", 9)]) (N := ["script", "tape", "disk", "known", "moment", "k", "numbers", "act", "before", "j"]) (sc := defScope s_law) (by decide +kernel)) (fun _ _ _ _ _ => pg_name (i := 9) sc_law.nd rfl (Or.inl rfl)) (fun _ _ _ _ _ => pts_nil) (fun _ _ _ _ _ => (pe_call c_law_take.G (hr.mono (by decide)) (by rfl) c_law_take.m c_law_take.kp c_law_take.b .nil pass0 (pa_cons (pv 1) (pa_cons pe_int pa_nil)))))
        (pss_cons (ps_set (i := 7) sc_law.nd rfl (Or.inl rfl) (pe_tup (pa_cons (pe_ix ix_list (pe_lst (pa_cons pe_str (pa_cons pe_str (pa_cons pe_str (pa_cons pe_str pa_nil))))) (pe_call c_law_take.G (hr.mono (by decide)) (by rfl) c_law_take.m c_law_take.kp c_law_take.b .nil pass0 (pa_cons (pv 1) (pa_cons pe_int pa_nil))) (fun _ _ => rfl)) (pa_cons (pe_call c_law_take.G (hr.mono (by decide)) (by rfl) c_law_take.m c_law_take.kp c_law_take.b .nil pass0 (pa_cons (pv 1) (pa_cons pe_int pa_nil))) (pa_cons (pv 6) pa_nil)))))
        (pss_cons (ps_set (i := 8) sc_law.nd rfl (Or.inl rfl) (pe_callTy call_list_of (by rfl) z.list (by decide +kernel) (pa_cons (pv 6) pa_nil)))
        (pss_cons (ps_if (PW.pt (pw_or (pt_cmpR op_ne (pe_call c_law_call.G (hr.mono (by decide)) (by rfl) c_law_call.m c_law_call.kp c_law_call.b .nil pass0 (pa_cons (pv 2) (pa_cons (pv 7) pa_nil))) (pe_call c_law_do.G (hr.mono (by decide)) (by rfl) c_law_do.m c_law_do.kp c_law_do.b .nil pass0 (pa_cons (pv 3) (pa_cons (pv 7) pa_nil))) (nomark _)) (pw_or1 (pt_cmpR (op_neD hr.units) (pv 6) (pv 8) (nomark _))))) (pss_one (ps_ret pe_bl)) pss_nil)
        (pss_cons (ps_expr (pe_bm PySem.F.plainAttrs_list PySem.F.slot_list_append PySem.F.type_list_append mt_append (pv 6) (pa_cons pe_int pa_nil)))
        (pss_cons (ps_if (pt_not (pt_val (pe_call c_law_agrees.G (hr.mono (by decide)) (by rfl) c_law_agrees.m c_law_agrees.kp c_law_agrees.b .nil pass0 (pa_cons (pv 2) (pa_cons (pe_dget hu (pv 3) pe_str (fun _ _ => rfl)) (pa_cons (pe_dget hu (pv 3) pe_str (fun _ _ => rfl)) pa_nil)))))) (pss_one (ps_ret pe_bl)) pss_nil)
        (pss_one (ps_if (pt_not (pt_val (pe_call c_law_restart.G (hr.mono (by decide)) (by rfl) c_law_restart.m c_law_restart.kp c_law_restart.b .nil pass0 (pa_cons (pv 2) (pa_cons (pv 3) (pa_cons (pe_call c_law_take.G (hr.mono (by decide)) (by rfl) c_law_take.m c_law_take.kp c_law_take.b .nil pass0 (pa_cons (pv 1) (pa_cons pe_int pa_nil))) pa_nil)))))) (pss_one (ps_ret pe_bl)) pss_nil))))))))))
        (pss_one (ps_ret (pe_call c_law_agrees.G (hr.mono (by decide)) (by rfl) c_law_agrees.m c_law_agrees.kp c_law_agrees.b .nil pass0 (pa_cons (pv 2) (pa_cons (pe_dget hu (pv 3) pe_str (fun _ _ => rfl)) (pa_cons (pe_dget hu (pv 3) pe_str (fun _ _ => rfl)) pa_nil))))))))))), ?_⟩
    refine ⟨_, rfl, a, ns, rfl, hS, h63, fun t c cs H1 T1 s1 _ => ?_⟩
    refine fun p dx np ndx nex => ⟨p, dx, rfl, upd_same, fun H2 own D2 f2 n2 => ⟨rfl, ?_⟩⟩
    have s2 : Same H1 H2 := fun b o e => by
      have e1 : b ≠ p := ne_of_none e np
      have e2 : b ≠ dx := ne_of_none e ndx
      exact f2 b o (by rw [upd_ne e1, upd_ne e2]; exact e) (by simpa using e1)
    have ow2 : ∀ b ∈ own, H1 b = none := fun b hb => by
      rcases n2 b hb with rfl | h
      · exact np
      · by_cases e1 : b = p
        · rw [e1]; exact np
        · by_cases e2 : b = dx
          · rw [e2]; exact ndx
          · rw [upd_ne e1, upd_ne e2] at h; exact h
    refine fun kk hkk => ?_
    have e3 := same_new hkk (.dK [])
    refine ⟨Nat.zero_le _, fun m0 hm0 => ?_⟩
    have e4 := same_new hm0 (.lst [])
    refine ⟨Nat.zero_le _, fun m1 hm1 => ?_⟩
    have e5 := same_new hm1 (.lst [])
    refine ⟨(by show 2 ≤ sizeLine; decide), fun ar har => ?_⟩
    have e6 := same_new har (.lst [V.ref m0, V.ref m1])
    refine ⟨(by show 2 ≤ sizeLine; decide), fun sf hsf => ?_⟩
    have e7 := same_new hsf (.lst [V.int 0, V.int 0])
    have s3 := e3.trans (e4.trans (e5.trans (e6.trans e7)))
    have hk0 := e7 _ _ (e6 _ _ (e5 _ _ (e4 _ _ (upd_same (H := H2) (a := kk) (o := .dK [])))))
    refine ⟨hk0, kfs ar sf DS.new, rfl, (by show 4 ≤ 15; decide), ?_⟩
    rw [kfs_merge]
    have c0 := e7 _ _ (e6 _ _ (e5 _ _ (upd_same (a := m0) (o := .lst []))))
    have c1 := e7 _ _ (e6 _ _ (upd_same (a := m1) (o := .lst [])))
    have ca := e7 _ _ (upd_same (a := ar) (o := .lst [V.ref m0, V.ref m1]))
    have nk : ∀ {x : Addr} {o : HO}, (∀ kvs, o ≠ .dK kvs) → (upd (upd (upd (upd (upd H2 kk (.dK [])) m0 (.lst [])) m1 (.lst [])) ar (.lst [V.ref m0, V.ref m1])) sf (.lst [V.int 0, V.int 0])) x = some o → x ≠ kk := fun hn e z => by
      rw [z, hk0] at e
      injection e with e
      exact hn _ e.symm
    have m0s : m0 ≠ sf := ne_of_none (e6 _ _ (e5 _ _ upd_same)) hsf
    have m1s : m1 ≠ sf := ne_of_none (e6 _ _ upd_same) hsf
    have N3 : KnownP (upd (upd (upd (upd (upd (upd H2 kk (.dK [])) m0 (.lst [])) m1 (.lst [])) ar (.lst [V.ref m0, V.ref m1])) sf (.lst [V.int 0, V.int 0])) kk (.dK (kfs ar sf DS.new))) kk ar sf (fun b => if b = true then m1 else m0) DS.new := by
      refine ⟨upd_same, ?_, ?_, fun b => ?_, fun b => ?_⟩
      · rw [upd_ne (nk (by intro _ z; cases z) ca)]; exact ca
      · rw [upd_ne (nk (o := .lst [V.int 0, V.int 0]) (by intro _ z; cases z) upd_same)]; exact upd_same
      · cases b
        · show upd _ _ _ m0 = _
          rw [upd_ne (nk (by intro _ z; cases z) c0)]; exact c0
        · show upd _ _ _ m1 = _
          rw [upd_ne (nk (by intro _ z; cases z) c1)]; exact c1
      · cases b
        · exact m0s
        · exact m1s
    have s4 : Same H2 (upd (upd (upd (upd (upd (upd H2 kk (.dK [])) m0 (.lst [])) m1 (.lst [])) ar (.lst [V.ref m0, V.ref m1])) sf (.lst [V.int 0, V.int 0])) kk (.dK (kfs ar sf DS.new))) := same_upd hkk _ s3
    have fk : ∀ x ∈ ownK kk ar sf (fun b => if b = true then m1 else m0), H2 x = none := fun x hx => by
      simp only [ownK, List.mem_cons, List.mem_nil_iff, or_false] at hx
      rcases hx with rfl | rfl | rfl | rfl | rfl
      · exact hkk
      · exact (e3.trans (e4.trans e5)).free har
      · exact (e3.trans (e4.trans (e5.trans e6))).free hsf
      · exact e3.free hm0
      · exact (e3.trans e4).free hm1
    generalize upd (upd (upd (upd (upd (upd H2 kk (.dK [])) m0 (.lst [])) m1 (.lst [])) ar (.lst [V.ref m0, V.ref m1])) sf (.lst [V.int 0, V.int 0])) kk (.dK (kfs ar sf DS.new)) = H3 at N3 s4 ⊢
    have T3 := (T1.mono s2).mono s4
    have L3 : LawSt C_Disk H3 t c cs p own kk (ownK kk ar sf (fun b => if b = true then m1 else m0)) DS.new DS.new := by
      obtain ⟨_, _, _, _, et, _⟩ := T1.dk
      refine ⟨T3, D2.same fun b o e _ => s4 b o e, ⟨_, _, _, N3, rfl⟩, fun x hx hk => D2.in_ hx (fk x hk), fun hx => ?_, fun hx => ?_, fun hx => ?_, fun hx => ?_⟩
      · have := ow2 t hx; rw [et] at this; cases this
      · have := ow2 c hx; rw [T1.ls] at this; cases this
      · have := fk t hx; rw [s2 _ _ et] at this; cases this
      · have := fk c hx; rw [s2 _ _ T1.ls] at this; cases this
    refine ⟨_, rfl, t, c, cs, 14, rfl, T3, by decide, by decide +kernel, fun mo H4 mo0 mo1 T4 x4 => ?_⟩
    have L4 := L3.tape T4 x4
    refine ⟨_, rfl, t, c, cs, 12, rfl, T4, by decide, by decide +kernel, fun n H5 n0 n1 T5 x5 => ?_⟩
    have L5 := L4.tape T5 x5
    refine ⟨_, _, rfl, rfl, _, rfl, by omega, by omega, for_range (lo := 0) (n := (1 + n).toNat) (fun i σ H' => ∃ own kown S vk vn va vb vj, σ = [some (.ref a), some (.ref t), some (.ref p), some (.ref kk), some (.int mo), vk, vn, va, vb, vj] ∧ LawSt C_Disk H' t c cs p own kk kown S S ∧ ∀ b, (S.ar b).length ≤ 5 * i) ⟨own, _, DS.new, none, none, none, none, none, rfl, L5, fun b => Nat.zero_le _⟩ ?_ ?_⟩
    · rintro i σ H6 hi ⟨own6, kown6, S, vk, vn, va, vb, vj, rfl, L6, len6⟩
      have hi12 : i ≤ 12 := by omega
      refine ⟨fun σ H7 => ∃ own7 kown7 S7, σ = [some (.ref a), some (.ref t), some (.ref p), some (.ref kk), some (.int mo), some (.int (0 + i)), vn, va, vb, vj] ∧ LawSt C_Disk H7 t c cs p own7 kk kown7 S7 S7 ∧ ∀ b, (S7.ar b).length ≤ 5 * i, ?_, ?_⟩
      · refine ⟨_, rfl, _, rfl, rfl, _, rfl, ?_⟩
        refine ite2 (fun _ => ?_) (fun _ => ⟨own6, kown6, S, rfl, L6, len6⟩)
        refine ⟨_, rfl, t, c, cs, 21, rfl, L6.T, by decide, by decide +kernel, fun u H7 u0 u1 T7 x7 => ?_⟩
        have L7 := L6.tape T7 x7
        obtain ⟨ka, ks, m, N7, ek⟩ := id L7.N
        obtain ⟨u', rfl⟩ : ∃ u' : Nat, u = u' := ⟨u.toNat, by omega⟩
        have N8 := N7.key (S' := ⟨S.ar, S.su, some u', S.dn⟩) rfl rfl
        refine ⟨_, rfl, kk, _, rfl, kp_u N7.hk (some u'), ?_⟩
        have L8 := L7.known (H' := upd H7 kk (.dK (kfs ka ks ⟨S.ar, S.su, some u', S.dn⟩))) (S' := ⟨S.ar, S.su, some u', S.dn⟩) ⟨ka, ks, m, N8, rfl⟩ (by rw [ek]; exact (Fr.refl _ _).upd (.inl (by simp [ownK]))) (fun b hb => .inl (by rw [ek]; exact hb))
        obtain ⟨A8, E8, l8, k8, eo8⟩ := id L8.D
        obtain ⟨dx8, hp8⟩ := k8.o
        refine ⟨_, rfl, p, dx8, _, rfl, hp8, dfs_no _ _ _ (by decide +kernel) (by decide +kernel) (by decide +kernel) (by decide +kernel), _, rfl, kk, .int u', rfl, kg_u (S := ⟨S.ar, S.su, some u', S.dn⟩) N8.hk, ?_⟩
        refine ⟨p, _, S, u', rfl, L8.D, fun H9 D9 f9 => ?_⟩
        have L9 := L8.disk D9 f9 (fun b hb => .inl hb)
        exact ⟨_, _, _, rfl, L9, len6⟩
      rintro σ H7 ⟨own7, kown7, S7, rfl, L7, len7⟩
      refine ⟨_, rfl, t, c, cs, 6, rfl, L7.T, by decide, by decide +kernel, fun nn H8 nn0 nn1 T8 x8 => ?_⟩
      have L8 := L7.tape T8 x8
      refine ⟨_, rfl, by omega, by omega, fun N hN => ?_⟩
      have No : N ∉ own7 := fun hm => L8.D.in_ hm hN
      have Nk : N ∉ kown7 := fun hm => L8.N.in_ hm hN
      have Nt : N ≠ t := fun z => L8.ht (z ▸ hN)
      have Nc : N ≠ c := fun z => L8.hc (z ▸ hN)
      refine lc_range (lo := 0) (n := nn.toNat) (fun j H' => ∃ xs : List Int, H' N = some (.lst (xs.map V.int)) ∧ xs.length = j ∧ LawSt C_Disk H' t c cs p own7 kk kown7 S7 S7) ⟨[], upd_same, rfl, L8.same (same_new hN _)⟩ ?_ ?_
      · rintro j H9 hj ⟨xs, h1, h2, L9⟩
        refine ⟨rfl, _, rfl, t, c, cs, 256, rfl, L9.T, by decide, by decide +kernel, fun d H10 d0 d1 T10 x10 => ?_⟩
        have L10 := L9.tape T10 x10
        have h3 := x10 _ _ h1 Nt
        refine ⟨_, h3, (by rw [List.length_map]; exact small1000 (by omega)), xs ++ [d], ?_, by simp [h2], L10.put No Nk Nt Nc⟩
        rw [upd_same, List.map_append]; rfl
      rintro H9 ⟨xs, h1, h2, L9⟩
      have hx5 : xs.length ≤ 5 := by omega
      refine ⟨(by show 4 ≤ sizeLine; decide), fun l hl => ?_⟩
      have e9 := same_new hl (.lst [V.str "append", V.str "append", V.str "sync", V.str "wipe"])
      have L10 := L9.same e9
      have lt : l ≠ t := fun z => L9.ht (z ▸ hl)
      refine ⟨_, rfl, t, c, cs, 4, rfl, L10.T, by decide, by decide +kernel, fun d4 H11 d40 d41 T11 x11 => ?_⟩
      have L11 := L10.tape T11 x11
      have hl11 := x11 _ _ (upd_same (H := H9) (a := l) (o := .lst [V.str "append", V.str "append", V.str "sync", V.str "wipe"])) lt
      obtain ⟨v4, hv4, _⟩ := at_in (xs := [V.str "append", V.str "append", V.str "sync", V.str "wipe"]) d40 d41
      refine ⟨l, _, d4, v4, rfl, rfl, SqL.of hl11, hv4, ?_⟩
      refine ⟨_, rfl, t, c, cs, 2, rfl, T11, by decide, by decide +kernel, fun d2 H12 d20 d21 T12 x12 => ?_⟩
      have L12 := L11.tape T12 x12
      obtain ⟨b, rfl⟩ := bi_of d20 d21
      obtain ⟨o, o1, o2, o3⟩ := op_of d40 d41 b xs
      rw [hv4] at o1
      cases o1
      refine ⟨_, rfl, (by show 3 ≤ sizeLine; decide), fun ac hac => ?_⟩
      have e13 := same_new hac (.tup [.str (opName o), .int (bi b), .ref N])
      have L13 := L12.same e13
      have hN13 := e13 _ _ (x12 _ _ (x11 _ _ (e9 _ _ h1) Nt) Nt)
      refine ⟨_, rfl, N, _, rfl, .inl (SqL.of hN13), fun Bf hBf => ?_⟩
      have e14 := same_new hBf (.lst (xs.map V.int))
      have L14 := L13.same e14
      have hN14 := e14 _ _ hN13
      have ha14 := e14 _ _ (upd_same (H := H12) (a := ac) (o := .tup [.str (opName o), .int (bi b), .ref N]))
      have hB14 : (upd (upd H12 ac (.tup [.str (opName o), .int (bi b), .ref N])) Bf (.lst (xs.map V.int))) Bf = some (.lst (xs.map V.int)) := upd_same
      have Bo : Bf ∉ own7 := fun hm => L13.D.in_ hm hBf
      have Bk : Bf ∉ kown7 := fun hm => L13.N.in_ hm hBf
      have ao : ac ∉ own7 := fun hm => L12.D.in_ hm hac
      have ak : ac ∉ kown7 := fun hm => L12.N.in_ hm hac
      generalize upd (upd H12 ac (.tup [.str (opName o), .int (bi b), .ref N])) Bf (.lst (xs.map V.int)) = H14 at L14 hN14 ha14 hB14 ⊢
      refine ⟨_, rfl, _, rfl, p, own7, S7, ac, N, o, xs, rfl, L14.D, ⟨by rw [o2]; exact ha14, hN14, o3⟩, No, fun b => by have := len7 b; omega, fun H15 own15 D15 f15 n15 => ?_⟩
      have L15 := L14.disk D15 f15 n15
      have hN15 := f15 _ _ hN14 No
      have ha15 := f15 _ _ ha14 ao
      have hB15 := f15 _ _ hB14 Bo
      have no15 : ∀ {x : Addr} {u : HO}, H14 x = some u → x ∉ own7 → x ∉ own15 := fun e hx hm => by
        rcases n15 _ hm with h | h
        · exact hx h
        · rw [e] at h; cases h
      refine ⟨_, rfl, _, rfl, kk, kown7, S7, ac, N, o, xs, rfl, L15.N, ⟨by rw [o2]; exact ha15, hN15, o3⟩, Nk, ak, fun b => by have := len7 b; omega, fun H16 own16 D16 f16 n16 => ?_⟩
      have L16 := L15.known D16 f16 n16
      have hN16 := f16 _ _ hN15 Nk
      have hB16 := f16 _ _ hB15 Bk
      have no16 : ∀ {x : Addr} {u : HO}, H15 x = some u → x ∉ kown7 → x ∉ own16 := fun e hx hm => by
        rcases n16 _ hm with h | h
        · exact hx h
        · rw [e] at h; cases h
      refine ⟨rfl, _, rfl, iteNS rfl ?_⟩
      refine ⟨_, rfl, _, rfl, _, _, .lst (SqL.of hN16) (ints_all xs), .lst (SqL.of hB16) (ints_all xs), ints_shaped xs, ints_shaped xs, _, rfl, ?_⟩
      rw [ints_eqv]
      refine iteF ?_
      refine ⟨_, rfl, .inl ⟨rfl, _, SqL.of hN16⟩, N, _, _, rfl, rfl, hN16, (by rw [List.length_map]; exact small1000 (by omega)), ?_⟩
      have L17 := L16.put (x := N) (o := .lst (xs.map V.int ++ [.int 7])) (no15 hN14 No) (no16 hN15 Nk) Nt Nc
      generalize upd H16 N (.lst (xs.map V.int ++ [.int 7])) = H17 at L17 ⊢
      have len17 : ∀ b, ((S7.go o).ar b).length ≤ 5 * (i + 1) := fun b => by
        have := DS.go_len S7 o xs o3 b
        have := len7 b
        omega
      obtain ⟨ka, ks, m, N17, ek⟩ := id L17.N
      refine ⟨_, rfl, _, rfl, kk, .ref ka, rfl, kg_a N17.hk, _, rfl, kk, .ref ks, rfl, kg_s N17.hk, ?_⟩
      refine ⟨p, own15, S7.go o, ka, ks, m, rfl, L17.D, N17.ha, N17.hs, N17.ms, fun b => by have := len17 b; omega, fun H18 s18 => ⟨_, rfl, iteF ?_⟩⟩
      have L18 := L17.same s18
      refine ⟨_, rfl, _, rfl, _, rfl, t, c, cs, 10, rfl, L18.T, by decide, by decide +kernel, fun r H19 r0 r1 T19 x19 => ?_⟩
      have L19 := L18.tape T19 x19
      obtain ⟨r', rfl⟩ : ∃ r' : Nat, r = r' := ⟨r.toNat, by omega⟩
      refine ⟨p, own15, S7.go o, kk, own16, r', rfl, L19.D, L19.N, fun b => by have := len17 b; omega, fun H20 s20 => ⟨_, rfl, iteF ?_⟩⟩
      exact ⟨own15, own16, S7.go o, _, _, _, _, _, rfl, L19.same s20, len17⟩
    · rintro σ H6 ⟨own6, kown6, S, vk, vn, va, vb, vj, rfl, L6, len6⟩
      obtain ⟨ka, ks, m, N6, ek⟩ := id L6.N
      refine ⟨_, rfl, _, rfl, kk, .ref ka, rfl, kg_a N6.hk, _, rfl, kk, .ref ks, rfl, kg_s N6.hk, ?_⟩
      exact ⟨p, own6, S, ka, ks, m, rfl, L6.D, N6.ha, N6.hs, N6.ms, fun b => by have := len6 b; omega, fun H' s' => q H'⟩)
end
end Lt
namespace Lt
open PySem L2 TL
open C8 (pss_cut)
theorem all_mkF {l : PySem.W.OpenLaw} {w : World} {K : PySem.W.Frag} {h : Heap} {mg : Str → Option Value} {fa : Addr} (X : K.In h) (G : h.Ns mainGlobals mg) (hfa : mg "law" = some (.ref fa)) (c : He.SaysE faL fnL K) (ex : exL K = true)
    : ∃ fd : FuncData, (∀ (s : Shared) (v : Value), BindsTo s fd ⟨[v], []⟩ [("script", v)]) ∧ ∀ base : Heap, K.In base → base.Ns mainGlobals mg → FnOk l.prog w K mg base CX0 15 fa fd ["script"] (spLaw K) := by
  have a_law_tape := He.glo_ok X G (c.fact 0 (f := .glo "_law_tape") (by rfl))
  have a_law_take := He.glo_ok X G (c.fact 1 (f := .glo "_law_take") (by rfl))
  have a_law_call := He.glo_ok X G (c.fact 2 (f := .glo "_law_call") (by rfl))
  have a_law_do := He.glo_ok X G (c.fact 3 (f := .glo "_law_do") (by rfl))
  have a_law_is_integer := He.glo_ok X G (c.fact 4 (f := .glo "_law_is_integer") (by rfl))
  have a_law_same_items := He.glo_ok X G (c.fact 5 (f := .glo "_law_same_items") (by rfl))
  have a_law_same := He.glo_ok X G (c.fact 6 (f := .glo "_law_same") (by rfl))
  have a_law_agrees := He.glo_ok X G (c.fact 7 (f := .glo "_law_agrees") (by rfl))
  have a_law_restart := He.glo_ok X G (c.fact 8 (f := .glo "_law_restart") (by rfl))
  have a_law := He.glo_ok X G (c.fact 9 (f := .glo "law") (by rfl))
  have e := hfa.symm.trans a_law
  cases e
  have t_Disk : T_Disk K mg (He.ga K "Disk") := ⟨He.cls_ok (c.fact 35 (f := .cls "Disk") (by rfl)), He.glo_ok X G (c.fact 12 (f := .glo "Disk") (by rfl)), He.noat_ok (c.fact 37 (f := .noat "Disk" "_areas") (by rfl)), He.noat_ok (c.fact 38 (f := .noat "Disk" "_durables") (by rfl)), He.noat_ok (c.fact 39 (f := .noat "Disk" "_power") (by rfl)), He.noat_ok (c.fact 40 (f := .noat "Disk" "_is_down") (by rfl))⟩
  obtain ⟨oc_law_tape, od_law_tape, sl_law_tape, kV_law_tape, dc_law_tape, pm_law_tape, an_law_tape, cd_law_tape, ct_law_tape, l_law_tape, c_law_tape⟩ := c.def_ 0 (d := dF_law_tape) (by rfl)
  have F_law_tape := fun_mk (st := s_law_tape) (x := "_law_tape") (qual := "_law_tape") (f := He.ga K "_law_tape") l_law_tape c_law_tape (He.keep_ok (c.fact 14 (f := .keep "_law_tape") (by rfl)))
  have b_law_tape := F_law_tape.binds (ps := ["script"]) fun _ _ _ _ _ _ us hl => match us, hl with | [_], _ => rfl
  have n_law_tape : Kn K mg "_law_tape" s_law_tape ["script"] (He.ga K "_law_tape") _ := ⟨F_law_tape, b_law_tape, a_law_tape⟩
  obtain ⟨oc_Disk___init__, od_Disk___init__, sl_Disk___init__, kV_Disk___init__, dc_Disk___init__, pm_Disk___init__, an_Disk___init__, cd_Disk___init__, ct_Disk___init__, l_Disk___init__, c_Disk___init__⟩ := c.def_ 1 (d := dF_Disk___init__) (by rfl)
  have m_Disk___init__ := He.meth_ok (c.fact 41 (f := .meth "Disk" "__init__") (by rfl))
  have F_Disk___init__ := fun_mk (st := s_Disk___init__) (x := "__init__") (qual := "Disk.__init__") (f := He.ma K (He.ga K "Disk") "__init__") l_Disk___init__ c_Disk___init__ m_Disk___init__.kp
  have b_Disk___init__ := F_Disk___init__.binds (ps := ["self"]) fun _ _ _ _ _ _ us hl => match us, hl with | [_], _ => rfl
  have n_Disk___init__ : KnI K "Disk.__init__" s_Disk___init__ ["self"] (He.ga K "Disk") (He.ma K (He.ga K "Disk") "__init__") _ := ⟨F_Disk___init__, b_Disk___init__, He.mkr_ok (c.fact 36 (f := .mkr "Disk") (by rfl))⟩
  obtain ⟨oc_law_take, od_law_take, sl_law_take, kV_law_take, dc_law_take, pm_law_take, an_law_take, cd_law_take, ct_law_take, l_law_take, c_law_take⟩ := c.def_ 2 (d := dF_law_take) (by rfl)
  have F_law_take := fun_mk (st := s_law_take) (x := "_law_take") (qual := "_law_take") (f := He.ga K "_law_take") l_law_take c_law_take (He.keep_ok (c.fact 15 (f := .keep "_law_take") (by rfl)))
  have b_law_take := F_law_take.binds (ps := ["tape", "many"]) fun _ _ _ _ _ _ us hl => match us, hl with | [_, _], _ => rfl
  have n_law_take : Kn K mg "_law_take" s_law_take ["tape", "many"] (He.ga K "_law_take") _ := ⟨F_law_take, b_law_take, a_law_take⟩
  obtain ⟨oc_Disk_limit_power, od_Disk_limit_power, sl_Disk_limit_power, kV_Disk_limit_power, dc_Disk_limit_power, pm_Disk_limit_power, an_Disk_limit_power, cd_Disk_limit_power, ct_Disk_limit_power, l_Disk_limit_power, c_Disk_limit_power⟩ := c.def_ 3 (d := dF_Disk_limit_power) (by rfl)
  have m_Disk_limit_power := He.meth_ok (c.fact 42 (f := .meth "Disk" "limit_power") (by rfl))
  have F_Disk_limit_power := fun_mk (st := s_Disk_limit_power) (x := "limit_power") (qual := "Disk.limit_power") (f := He.ma K (He.ga K "Disk") "limit_power") l_Disk_limit_power c_Disk_limit_power m_Disk_limit_power.kp
  have b_Disk_limit_power := F_Disk_limit_power.binds (ps := ["self", "units"]) fun _ _ _ _ _ _ us hl => match us, hl with | [_, _], _ => rfl
  have n_Disk_limit_power : KnM K "limit_power" "Disk.limit_power" s_Disk_limit_power ["self", "units"] (He.ga K "Disk") (He.ma K (He.ga K "Disk") "limit_power") _ := ⟨F_Disk_limit_power, b_Disk_limit_power, m_Disk_limit_power⟩
  obtain ⟨oc_Disk__spend, od_Disk__spend, sl_Disk__spend, kV_Disk__spend, dc_Disk__spend, pm_Disk__spend, an_Disk__spend, cd_Disk__spend, ct_Disk__spend, l_Disk__spend, c_Disk__spend⟩ := c.def_ 4 (d := dF_Disk__spend) (by rfl)
  have m_Disk__spend := He.meth_ok (c.fact 43 (f := .meth "Disk" "_spend") (by rfl))
  have F_Disk__spend := fun_mk (st := s_Disk__spend) (x := "_spend") (qual := "Disk._spend") (f := He.ma K (He.ga K "Disk") "_spend") l_Disk__spend c_Disk__spend m_Disk__spend.kp
  have b_Disk__spend := F_Disk__spend.binds (ps := ["self", "units"]) fun _ _ _ _ _ _ us hl => match us, hl with | [_, _], _ => rfl
  have n_Disk__spend : KnM K "_spend" "Disk._spend" s_Disk__spend ["self", "units"] (He.ga K "Disk") (He.ma K (He.ga K "Disk") "_spend") _ := ⟨F_Disk__spend, b_Disk__spend, m_Disk__spend⟩
  obtain ⟨oc_Disk__refuse_when_down, od_Disk__refuse_when_down, sl_Disk__refuse_when_down, kV_Disk__refuse_when_down, dc_Disk__refuse_when_down, pm_Disk__refuse_when_down, an_Disk__refuse_when_down, cd_Disk__refuse_when_down, ct_Disk__refuse_when_down, l_Disk__refuse_when_down, c_Disk__refuse_when_down⟩ := c.def_ 5 (d := dF_Disk__refuse_when_down) (by rfl)
  have m_Disk__refuse_when_down := He.meth_ok (c.fact 44 (f := .meth "Disk" "_refuse_when_down") (by rfl))
  have F_Disk__refuse_when_down := fun_mk (st := s_Disk__refuse_when_down) (x := "_refuse_when_down") (qual := "Disk._refuse_when_down") (f := He.ma K (He.ga K "Disk") "_refuse_when_down") l_Disk__refuse_when_down c_Disk__refuse_when_down m_Disk__refuse_when_down.kp
  have b_Disk__refuse_when_down := F_Disk__refuse_when_down.binds (ps := ["self"]) fun _ _ _ _ _ _ us hl => match us, hl with | [_], _ => rfl
  have n_Disk__refuse_when_down : KnM K "_refuse_when_down" "Disk._refuse_when_down" s_Disk__refuse_when_down ["self"] (He.ga K "Disk") (He.ma K (He.ga K "Disk") "_refuse_when_down") _ := ⟨F_Disk__refuse_when_down, b_Disk__refuse_when_down, m_Disk__refuse_when_down⟩
  obtain ⟨oc_Disk_append, od_Disk_append, sl_Disk_append, kV_Disk_append, dc_Disk_append, pm_Disk_append, an_Disk_append, cd_Disk_append, ct_Disk_append, l_Disk_append, c_Disk_append⟩ := c.def_ 6 (d := dF_Disk_append) (by rfl)
  have m_Disk_append := He.meth_ok (c.fact 45 (f := .meth "Disk" "append") (by rfl))
  have F_Disk_append := fun_mk (st := s_Disk_append) (x := "append") (qual := "Disk.append") (f := He.ma K (He.ga K "Disk") "append") l_Disk_append c_Disk_append m_Disk_append.kp
  have b_Disk_append := F_Disk_append.binds (ps := ["self", "area", "numbers"]) fun _ _ _ _ _ _ us hl => match us, hl with | [_, _, _], _ => rfl
  have n_Disk_append : KnM K "append" "Disk.append" s_Disk_append ["self", "area", "numbers"] (He.ga K "Disk") (He.ma K (He.ga K "Disk") "append") _ := ⟨F_Disk_append, b_Disk_append, m_Disk_append⟩
  obtain ⟨oc_Disk_sync, od_Disk_sync, sl_Disk_sync, kV_Disk_sync, dc_Disk_sync, pm_Disk_sync, an_Disk_sync, cd_Disk_sync, ct_Disk_sync, l_Disk_sync, c_Disk_sync⟩ := c.def_ 7 (d := dF_Disk_sync) (by rfl)
  have m_Disk_sync := He.meth_ok (c.fact 46 (f := .meth "Disk" "sync") (by rfl))
  have F_Disk_sync := fun_mk (st := s_Disk_sync) (x := "sync") (qual := "Disk.sync") (f := He.ma K (He.ga K "Disk") "sync") l_Disk_sync c_Disk_sync m_Disk_sync.kp
  have b_Disk_sync := F_Disk_sync.binds (ps := ["self", "area"]) fun _ _ _ _ _ _ us hl => match us, hl with | [_, _], _ => rfl
  have n_Disk_sync : KnM K "sync" "Disk.sync" s_Disk_sync ["self", "area"] (He.ga K "Disk") (He.ma K (He.ga K "Disk") "sync") _ := ⟨F_Disk_sync, b_Disk_sync, m_Disk_sync⟩
  obtain ⟨oc_Disk_wipe, od_Disk_wipe, sl_Disk_wipe, kV_Disk_wipe, dc_Disk_wipe, pm_Disk_wipe, an_Disk_wipe, cd_Disk_wipe, ct_Disk_wipe, l_Disk_wipe, c_Disk_wipe⟩ := c.def_ 8 (d := dF_Disk_wipe) (by rfl)
  have m_Disk_wipe := He.meth_ok (c.fact 47 (f := .meth "Disk" "wipe") (by rfl))
  have F_Disk_wipe := fun_mk (st := s_Disk_wipe) (x := "wipe") (qual := "Disk.wipe") (f := He.ma K (He.ga K "Disk") "wipe") l_Disk_wipe c_Disk_wipe m_Disk_wipe.kp
  have b_Disk_wipe := F_Disk_wipe.binds (ps := ["self", "area"]) fun _ _ _ _ _ _ us hl => match us, hl with | [_, _], _ => rfl
  have n_Disk_wipe : KnM K "wipe" "Disk.wipe" s_Disk_wipe ["self", "area"] (He.ga K "Disk") (He.ma K (He.ga K "Disk") "wipe") _ := ⟨F_Disk_wipe, b_Disk_wipe, m_Disk_wipe⟩
  obtain ⟨oc_law_call, od_law_call, sl_law_call, kV_law_call, dc_law_call, pm_law_call, an_law_call, cd_law_call, ct_law_call, l_law_call, c_law_call⟩ := c.def_ 9 (d := dF_law_call) (by rfl)
  have F_law_call := fun_mk (st := s_law_call) (x := "_law_call") (qual := "_law_call") (f := He.ga K "_law_call") l_law_call c_law_call (He.keep_ok (c.fact 16 (f := .keep "_law_call") (by rfl)))
  have b_law_call := F_law_call.binds (ps := ["disk", "act"]) fun _ _ _ _ _ _ us hl => match us, hl with | [_, _], _ => rfl
  have n_law_call : Kn K mg "_law_call" s_law_call ["disk", "act"] (He.ga K "_law_call") _ := ⟨F_law_call, b_law_call, a_law_call⟩
  obtain ⟨oc_law_do, od_law_do, sl_law_do, kV_law_do, dc_law_do, pm_law_do, an_law_do, cd_law_do, ct_law_do, l_law_do, c_law_do⟩ := c.def_ 10 (d := dF_law_do) (by rfl)
  have F_law_do := fun_mk (st := s_law_do) (x := "_law_do") (qual := "_law_do") (f := He.ga K "_law_do") l_law_do c_law_do (He.keep_ok (c.fact 17 (f := .keep "_law_do") (by rfl)))
  have b_law_do := F_law_do.binds (ps := ["known", "act"]) fun _ _ _ _ _ _ us hl => match us, hl with | [_, _], _ => rfl
  have n_law_do : Kn K mg "_law_do" s_law_do ["known", "act"] (He.ga K "_law_do") _ := ⟨F_law_do, b_law_do, a_law_do⟩
  obtain ⟨oc_law_is_integer, od_law_is_integer, sl_law_is_integer, kV_law_is_integer, dc_law_is_integer, pm_law_is_integer, an_law_is_integer, cd_law_is_integer, ct_law_is_integer, l_law_is_integer, c_law_is_integer⟩ := c.def_ 11 (d := dF_law_is_integer) (by rfl)
  have F_law_is_integer := fun_mk (st := s_law_is_integer) (x := "_law_is_integer") (qual := "_law_is_integer") (f := He.ga K "_law_is_integer") l_law_is_integer c_law_is_integer (He.keep_ok (c.fact 18 (f := .keep "_law_is_integer") (by rfl)))
  have b_law_is_integer := F_law_is_integer.binds (ps := ["actual"]) fun _ _ _ _ _ _ us hl => match us, hl with | [_], _ => rfl
  have n_law_is_integer : Kn K mg "_law_is_integer" s_law_is_integer ["actual"] (He.ga K "_law_is_integer") _ := ⟨F_law_is_integer, b_law_is_integer, a_law_is_integer⟩
  obtain ⟨oc_law_same_items, od_law_same_items, sl_law_same_items, kV_law_same_items, dc_law_same_items, pm_law_same_items, an_law_same_items, cd_law_same_items, ct_law_same_items, l_law_same_items, c_law_same_items⟩ := c.def_ 12 (d := dF_law_same_items) (by rfl)
  have F_law_same_items := fun_mk (st := s_law_same_items) (x := "_law_same_items") (qual := "_law_same_items") (f := He.ga K "_law_same_items") l_law_same_items c_law_same_items (He.keep_ok (c.fact 19 (f := .keep "_law_same_items") (by rfl)))
  have b_law_same_items := F_law_same_items.binds (ps := ["actual", "expected"]) fun _ _ _ _ _ _ us hl => match us, hl with | [_, _], _ => rfl
  have n_law_same_items : Kn K mg "_law_same_items" s_law_same_items ["actual", "expected"] (He.ga K "_law_same_items") _ := ⟨F_law_same_items, b_law_same_items, a_law_same_items⟩
  obtain ⟨oc_law_same, od_law_same, sl_law_same, kV_law_same, dc_law_same, pm_law_same, an_law_same, cd_law_same, ct_law_same, l_law_same, c_law_same⟩ := c.def_ 13 (d := dF_law_same) (by rfl)
  have F_law_same := fun_mk (st := s_law_same) (x := "_law_same") (qual := "_law_same") (f := He.ga K "_law_same") l_law_same c_law_same (He.keep_ok (c.fact 20 (f := .keep "_law_same") (by rfl)))
  have b_law_same := F_law_same.binds (ps := ["actual", "expected"]) fun _ _ _ _ _ _ us hl => match us, hl with | [_, _], _ => rfl
  have n_law_same : Kn K mg "_law_same" s_law_same ["actual", "expected"] (He.ga K "_law_same") _ := ⟨F_law_same, b_law_same, a_law_same⟩
  obtain ⟨oc_Disk_durable, od_Disk_durable, sl_Disk_durable, kV_Disk_durable, dc_Disk_durable, pm_Disk_durable, an_Disk_durable, cd_Disk_durable, ct_Disk_durable, l_Disk_durable, c_Disk_durable⟩ := c.def_ 14 (d := dF_Disk_durable) (by rfl)
  have m_Disk_durable := He.meth_ok (c.fact 48 (f := .meth "Disk" "durable") (by rfl))
  have F_Disk_durable := fun_mk (st := s_Disk_durable) (x := "durable") (qual := "Disk.durable") (f := He.ma K (He.ga K "Disk") "durable") l_Disk_durable c_Disk_durable m_Disk_durable.kp
  have b_Disk_durable := F_Disk_durable.binds (ps := ["self", "area"]) fun _ _ _ _ _ _ us hl => match us, hl with | [_, _], _ => rfl
  have n_Disk_durable : KnM K "durable" "Disk.durable" s_Disk_durable ["self", "area"] (He.ga K "Disk") (He.ma K (He.ga K "Disk") "durable") _ := ⟨F_Disk_durable, b_Disk_durable, m_Disk_durable⟩
  obtain ⟨oc_Disk_contents, od_Disk_contents, sl_Disk_contents, kV_Disk_contents, dc_Disk_contents, pm_Disk_contents, an_Disk_contents, cd_Disk_contents, ct_Disk_contents, l_Disk_contents, c_Disk_contents⟩ := c.def_ 15 (d := dF_Disk_contents) (by rfl)
  have m_Disk_contents := He.meth_ok (c.fact 49 (f := .meth "Disk" "contents") (by rfl))
  have F_Disk_contents := fun_mk (st := s_Disk_contents) (x := "contents") (qual := "Disk.contents") (f := He.ma K (He.ga K "Disk") "contents") l_Disk_contents c_Disk_contents m_Disk_contents.kp
  have b_Disk_contents := F_Disk_contents.binds (ps := ["self", "area"]) fun _ _ _ _ _ _ us hl => match us, hl with | [_, _], _ => rfl
  have n_Disk_contents : KnM K "contents" "Disk.contents" s_Disk_contents ["self", "area"] (He.ga K "Disk") (He.ma K (He.ga K "Disk") "contents") _ := ⟨F_Disk_contents, b_Disk_contents, m_Disk_contents⟩
  obtain ⟨oc_law_agrees, od_law_agrees, sl_law_agrees, kV_law_agrees, dc_law_agrees, pm_law_agrees, an_law_agrees, cd_law_agrees, ct_law_agrees, l_law_agrees, c_law_agrees⟩ := c.def_ 16 (d := dF_law_agrees) (by rfl)
  have F_law_agrees := fun_mk (st := s_law_agrees) (x := "_law_agrees") (qual := "_law_agrees") (f := He.ga K "_law_agrees") l_law_agrees c_law_agrees (He.keep_ok (c.fact 21 (f := .keep "_law_agrees") (by rfl)))
  have b_law_agrees := F_law_agrees.binds (ps := ["disk", "areas", "safe"]) fun _ _ _ _ _ _ us hl => match us, hl with | [_, _, _], _ => rfl
  have n_law_agrees : Kn K mg "_law_agrees" s_law_agrees ["disk", "areas", "safe"] (He.ga K "_law_agrees") _ := ⟨F_law_agrees, b_law_agrees, a_law_agrees⟩
  obtain ⟨oc_Disk_restarted, od_Disk_restarted, sl_Disk_restarted, kV_Disk_restarted, dc_Disk_restarted, pm_Disk_restarted, an_Disk_restarted, cd_Disk_restarted, ct_Disk_restarted, l_Disk_restarted, c_Disk_restarted⟩ := c.def_ 17 (d := dF_Disk_restarted) (by rfl)
  have m_Disk_restarted := He.meth_ok (c.fact 50 (f := .meth "Disk" "restarted") (by rfl))
  have F_Disk_restarted := fun_mk (st := s_Disk_restarted) (x := "restarted") (qual := "Disk.restarted") (f := He.ma K (He.ga K "Disk") "restarted") l_Disk_restarted c_Disk_restarted m_Disk_restarted.kp
  have b_Disk_restarted := F_Disk_restarted.binds (ps := ["self", "count"]) fun _ _ _ _ _ _ us hl => match us, hl with | [_, _], _ => rfl
  have n_Disk_restarted : KnM K "restarted" "Disk.restarted" s_Disk_restarted ["self", "count"] (He.ga K "Disk") (He.ma K (He.ga K "Disk") "restarted") _ := ⟨F_Disk_restarted, b_Disk_restarted, m_Disk_restarted⟩
  obtain ⟨oc_law_restart, od_law_restart, sl_law_restart, kV_law_restart, dc_law_restart, pm_law_restart, an_law_restart, cd_law_restart, ct_law_restart, l_law_restart, c_law_restart⟩ := c.def_ 18 (d := dF_law_restart) (by rfl)
  have F_law_restart := fun_mk (st := s_law_restart) (x := "_law_restart") (qual := "_law_restart") (f := He.ga K "_law_restart") l_law_restart c_law_restart (He.keep_ok (c.fact 22 (f := .keep "_law_restart") (by rfl)))
  have b_law_restart := F_law_restart.binds (ps := ["disk", "known", "count"]) fun _ _ _ _ _ _ us hl => match us, hl with | [_, _, _], _ => rfl
  have n_law_restart : Kn K mg "_law_restart" s_law_restart ["disk", "known", "count"] (He.ga K "_law_restart") _ := ⟨F_law_restart, b_law_restart, a_law_restart⟩
  obtain ⟨oc_law, od_law, sl_law, kV_law, dc_law, pm_law, an_law, cd_law, ct_law, l_law, c_law⟩ := c.def_ 19 (d := dF_law) (by rfl)
  have F_law := fun_mk (st := s_law) (x := "law") (qual := "law") (f := He.ga K "law") l_law c_law (He.keep_ok (c.fact 23 (f := .keep "law") (by rfl)))
  have b_law := F_law.binds (ps := ["script"]) fun _ _ _ _ _ _ us hl => match us, hl with | [_], _ => rfl
  have n_law : Kn K mg "law" s_law ["script"] (He.ga K "law") _ := ⟨F_law, b_law, a_law⟩
  unfold exL at ex
  obtain ⟨x0, ex⟩ := He.ba ex
  obtain ⟨x1, ex⟩ := He.ba ex
  have z : Z K mg := ⟨He.free_ok X G (c.fact 24 (f := .free "abs") (by rfl)), He.free_ok X G (c.fact 25 (f := .free "int") (by rfl)), He.free_ok X G (c.fact 26 (f := .free "len") (by rfl)), He.free_ok X G (c.fact 27 (f := .free "min") (by rfl)), He.free_ok X G (c.fact 28 (f := .free "isinstance") (by rfl)), He.free_ok X G (c.fact 29 (f := .free "bool") (by rfl)), He.free_ok X G (c.fact 30 (f := .free "range") (by rfl)), He.free_ok X G (c.fact 31 (f := .free "str") (by rfl)), He.free_ok X G (c.fact 32 (f := .free "tuple") (by rfl)), He.free_ok X G (c.fact 33 (f := .free "list") (by rfl)), He.free_ok X G (c.fact 34 (f := .free "dict") (by rfl)), ⟨_, He.glo_ok X G (c.fact 13 (f := .glo "AREAS") (by rfl)), fun H => He.tupB_ok x1 H⟩⟩
  have e_PowerError := err0B_ok x0 (He.glo_ok X G (c.fact 10 (f := .glo "PowerError") (by rfl))) (He.glo_ok X G (c.fact 11 (f := .glo "StoreError") (by rfl)))
  refine ⟨PySem.W.fnOf "law" "law" (defArgs s_law) (defBody s_law) (defScope s_law) .none kV_law dc_law pm_law an_law cd_law ct_law, fun s v => .of_eq rfl, fun base _ _ => ?_⟩
  have o_law_tape := ok_law_tape (P := l.prog) (w := w) (base := base) n_law_tape z 
  have o_Disk___init__ := ok_Disk___init__ (P := l.prog) (w := w) (base := base) n_Disk___init__ z t_Disk
  have o_law_take := ok_law_take (P := l.prog) (w := w) (base := base) n_law_take z 
  have o_Disk_limit_power := ok_Disk_limit_power (P := l.prog) (w := w) (base := base) n_Disk_limit_power z t_Disk
  have o_Disk__spend := ok_Disk__spend (P := l.prog) (w := w) (base := base) n_Disk__spend z t_Disk e_PowerError
  have o_Disk__refuse_when_down := ok_Disk__refuse_when_down (P := l.prog) (w := w) (base := base) n_Disk__refuse_when_down z t_Disk e_PowerError
  have o_Disk_append := ok_Disk_append (P := l.prog) (w := w) (base := base) n_Disk_append z t_Disk e_PowerError o_Disk__spend o_Disk__refuse_when_down
  have o_Disk_sync := ok_Disk_sync (P := l.prog) (w := w) (base := base) n_Disk_sync z t_Disk e_PowerError o_Disk__spend o_Disk__refuse_when_down
  have o_Disk_wipe := ok_Disk_wipe (P := l.prog) (w := w) (base := base) n_Disk_wipe z t_Disk e_PowerError o_Disk__spend o_Disk__refuse_when_down
  have o_law_call := ok_law_call (P := l.prog) (w := w) (base := base) n_law_call z t_Disk e_PowerError o_Disk_append o_Disk_sync o_Disk_wipe
  have o_law_do := ok_law_do (P := l.prog) (w := w) (base := base) n_law_do z 
  have o_law_is_integer := ok_law_is_integer (P := l.prog) (w := w) (base := base) n_law_is_integer z 
  have _ := True.intro
  have o_law_same := ok_law_same (P := l.prog) (w := w) (base := base) n_law_same n_law_same_items z o_law_is_integer 6
  have o_Disk_durable := ok_Disk_durable (P := l.prog) (w := w) (base := base) n_Disk_durable z t_Disk
  have o_Disk_contents := ok_Disk_contents (P := l.prog) (w := w) (base := base) n_Disk_contents z t_Disk
  have o_law_agrees := ok_law_agrees (P := l.prog) (w := w) (base := base) n_law_agrees z t_Disk o_law_same o_Disk_durable o_Disk_contents
  have o_Disk_restarted := ok_Disk_restarted (P := l.prog) (w := w) (base := base) n_Disk_restarted z t_Disk e_PowerError o_Disk___init__ o_Disk_append o_Disk_sync
  have o_law_restart := ok_law_restart (P := l.prog) (w := w) (base := base) n_law_restart z t_Disk e_PowerError o_Disk_restarted o_law_agrees o_Disk_append o_Disk_sync
  have o_law := ok_law (P := l.prog) (w := w) (base := base) n_law z t_Disk e_PowerError o_law_tape o_Disk___init__ o_law_take o_Disk_limit_power o_law_call o_law_do o_law_agrees o_law_restart
  exact o_law.G
end Lt
open PySem PySem.W PySem.Calls PyProof.Rows
set_option maxRecDepth 100000 in
set_option maxHeartbeats 0 in
theorem PySem.Challenge.cw_lenstree_k41_disk_keeps_its_promise_holds : PySem.Challenge.rw_lenstree_k41_disk_keeps_its_promise.Holds := by
  w_on; o_law
  refine HandSHeadRun.head_any (r := OpenLaw.row PySem.Challenge.rw_lenstree_k41_disk_keeps_its_promise) (q := view (OpenLaw.row PySem.Challenge.rw_lenstree_k41_disk_keeps_its_promise).prog [17]) (H := Lt.hkL) (ob := Lt.obN) (M := 20000) (loose := Lt.looseL) (d := HandSHeadRun.topDef (OpenLaw.row PySem.Challenge.rw_lenstree_k41_disk_keeps_its_promise).prog 17) (kwd := []) Lt.obN_eq (by kernel_rfl) (fun s => by kernel_rfl) Lt.runL (by kernel_rfl) (by kernel_rfl) (by kernel_rfl) (by rfl) (by first | assumption | decide +kernel) (by decide +kernel) ⟨rfl, rfl, rfl, rfl, rfl, by decide +kernel⟩ ?hw ?hc
  case hw => w_witness2
  case hc =>
    refine L2.walk_ofE (l := PySem.Challenge.rw_lenstree_k41_disk_keeps_its_promise) (n := 63) (k := 15) (x := "script") (CX := L2.CX0) rfl (by decide) (by kernel_rfl) ⟨rfl, by decide, by decide⟩ ?F (fun _ _ _ _ z => z)
    intro w mg fa h Y G hmg0
    obtain ⟨K, KX, c, ex⟩ := Y
    have hmg : mg ("law" : PySem.Str) = some (.ref fa) := by
      have e : (HandSHeadRun.topDef (OpenLaw.row PySem.Challenge.rw_lenstree_k41_disk_keeps_its_promise).prog 17).name = ("law" : PySem.Str) := by kernel_rfl
      rw [← e]
      exact hmg0
    obtain ⟨fd, hb, hF⟩ := Lt.all_mkF (l := PySem.Challenge.rw_lenstree_k41_disk_keeps_its_promise) (w := w) KX G hmg c ex
    exact ⟨K, fd, Lt.spLaw K, KX, hb, fun H a ns hl _ hS => ⟨a, ns, rfl, hS, hl, fun _ => rfl⟩, hF⟩
#print axioms PySem.Challenge.cw_lenstree_k41_disk_keeps_its_promise_holds
