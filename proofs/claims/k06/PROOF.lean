import PyProof.Rows.All
import Wide.All
import OpenK.AllK
import Wide.FinOn
import HandS.ForMost
import HandS.IsInst
import HandS.Zip
import HandS.TupAny
import HandS.Style
import HandS.More
import HandS.Defaults
import HandS.Walk
import HandS.ExcInit
import KE.KExcInit
import PyProof.ExcBaseAll.LookupError
import KE.GoesMore
import HandS.Deep
import HandS.Conv
import KE.KDictCopyH
import KE.KDictWalk
import HandS.SetBool
import HandS.Strs
import HandS.SortInts
import HandS.Lambda
import HandS.SortKw
import HandS.Wide
import KE.SortKeyHeap
import KE.KDictZip
import HandS.Dict
import HandS.Zip0
import HandS.Rev
import HandS.DictComp
import HandS.ListItems
import HandS.StrMore
import HandS.TupLe
import HandS.Gcd
import HandS.WordsExc
import HandS.ExcField
import HandS.FStr
import HandS.Text
import KE.KExcIs
import HandS.TupLen
import KE.KDictList
import HandS.HeadHook4
import HandS.HeadWalk
import HandS.Head2
import HandS.Head3
import KE.KLam
import KE.KNestM
import PySem.Challenge.RW_lookingnets_k06_means_and_rows
set_option Elab.async false
set_option linter.all false
set_option maxRecDepth 100000
namespace LK
open PySem PySem.Spec PyProof.Rows L2
/-! ### heaps but for one object -/
def hb (H : Hp) (b : Addr) : Hp := fun a => if a = b then none else H a
theorem hb_ne {H : Hp} {a b : Addr} (h : a ≠ b) : hb H b a = H a := if_neg h
theorem hb_same {H : Hp} {b : Addr} : hb H b b = none := if_pos rfl
theorem hb_some {H : Hp} {a b : Addr} {o : HO} (h : hb H b a = some o) : a ≠ b ∧ H a = some o := by
  unfold hb at h
  split at h
  · cases h
  · exact ⟨by assumption, h⟩
theorem hb_le (H : Hp) (b : Addr) : Same (hb H b) H := fun _ _ h => (hb_some h).2
/-- all but b stays -/
abbrev Kp (b : Addr) (H H' : Hp) : Prop := Same (hb H b) (hb H' b)
theorem Kp.of {b : Addr} {H H' : Hp} (s : Same H H') : Kp b H H' := fun a o h => by
  obtain ⟨h1, h2⟩ := hb_some h
  rw [hb_ne h1]
  exact s _ _ h2
theorem Kp.refl (b : Addr) (H : Hp) : Kp b H H := Same.refl _
theorem Kp.upd {b : Addr} {H : Hp} {o : HO} : Kp b H (upd H b o) := fun a u h => by
  obtain ⟨h1, h2⟩ := hb_some h
  rw [hb_ne h1, upd_ne h1]
  exact h2
theorem Kp.hd {b a : Addr} {H H' : Hp} {o : HO} (k : Kp b H H') (h : H a = some o) (n : a ≠ b) : H' a = some o := (hb_some (k a o (by rw [hb_ne n]; exact h))).2
/-- a new object -/
theorem al {H : Hp} {R : Addr → Hp → Prop} {o : HO} (h : ∀ p H1, Same H H1 → H1 p = some o → H p = none → R p H1) : ∀ p, H p = none → R p (upd H p o) := fun p hp =>
  h p _ (fun a u e => by rw [upd_ne (ne_of_none e hp)]; exact e) upd_same hp
theorem same_upd {H : Hp} {p : Addr} {o : HO} (hp : H p = none) : Same H (upd H p o) := fun a u e => by rw [upd_ne (ne_of_none e hp)]; exact e
theorem at_ofN {α : Type} {xs : List α} {z : Int} {j : Nat} {v : α} (e : z = (j : Int)) (h : xs[j]? = some v) : atI xs z = some v := by
  subst e
  exact atI_nat h
/-! ### the bag of a law -/
def Bag (H : Hp) (b c : Addr) : Prop := ∃ (cells : List Int) (i g m n : Int), H b = some (.lst [.ref c, .int i, .int g, .int m, .int n]) ∧ H c = some (.lst (cells.map V.int)) ∧ c ≠ b ∧ 0 ≤ i ∧ 0 ≤ m ∧ m < 2147483579
theorem Bag.same {H H' : Hp} {b c : Addr} (B : Bag H b c) (s : Same H H') : Bag H' b c := by
  obtain ⟨cells, i, g, m, n, h1, h2, h3⟩ := B
  exact ⟨cells, i, g, m, n, s _ _ h1, s _ _ h2, h3⟩
theorem Bag.at {H : Hp} {b c : Addr} (B : Bag H b c) : ∃ xs, H b = some (.lst xs) := by
  obtain ⟨cells, i, g, m, n, h1, _⟩ := B
  exact ⟨_, h1⟩
theorem Bag.at2 {H : Hp} {b c : Addr} (B : Bag H b c) : ∃ xs, H c = some (.lst xs) := by
  obtain ⟨cells, i, g, m, n, h1, h2, _⟩ := B
  exact ⟨_, h2⟩
/-- another object is stored -/
theorem Bag.upd {H : Hp} {b c p : Addr} {o : HO} (B : Bag H b c) (n1 : b ≠ p) (n2 : c ≠ p) : Bag (upd H p o) b c := by
  obtain ⟨cells, i, g, m, n, h1, h2, h3⟩ := B
  exact ⟨cells, i, g, m, n, by rw [upd_ne n1]; exact h1, by rw [upd_ne n2]; exact h2, h3⟩
/-- a new object beside a bag -/
theorem alB {H : Hp} {R : Addr → Hp → Prop} {o : HO} {b c : Addr} (B : Bag H b c) (h : ∀ p H1, Kp b H H1 → Bag H1 b c → hb H1 b p = some o → Same H H1 → H p = none → R p H1) : ∀ p, H p = none → R p (upd H p o) :=
  al fun p H1 s h1 h0 => h p H1 (Kp.of s) (B.same s) (by
    have n : p ≠ b := fun e => by
      obtain ⟨xs, q⟩ := B.at
      rw [e, q] at h0; cases h0
    rw [hb_ne n]; exact h1) s h0
/-! ### data -/
theorem Same.seqT {K : PySem.W.Frag} {H H' : Hp} {a : Addr} {xs : List V} (e : Same H H') (h : SqT K H a xs) : SqT K H' a xs := by
  rcases h with (h | ⟨o, h⟩) | h
  · exact .inl (.inl (e _ _ h))
  · exact .inl (.inr ⟨o, e _ _ h⟩)
  · exact .inr h
mutual
theorem dp_same {K : PySem.W.Frag} {H H' : Hp} (e : Same H H') : ∀ {d : PyData} {v : V}, Dp K H v d → Dp K H' v d
  | .none, _, h => by cases h; exact .non
  | .bool _, _, h => by cases h; exact .bl _
  | .int _, _, h => by cases h; exact .int _
  | .str _, _, h => by cases h; exact .str _
  | .list ds, _, h => by cases h with | lst a b => exact .lst (L2.Same.seq e a) (dpa_same e b)
  | .tuple ds, _, h => by cases h with | tup a b => exact .tup (Same.seqT e a) (dpa_same e b)
  | .dict _, _, h => by cases h
theorem dpa_same {K : PySem.W.Frag} {H H' : Hp} (e : Same H H') : ∀ {ds : List PyData} {vs : List V}, DpAll K H vs ds → DpAll K H' vs ds
  | [], _, h => by cases h; exact .nil
  | _ :: _, _, h => by cases h with | cons a b => exact .cons (dp_same e a) (dpa_same e b)
end
end LK
namespace LK
open PySem PySem.Spec PyProof.Rows L2
section
variable {CX : CXT} {P : Program} {w : World} {K : PySem.W.Frag} {mg : Str → Option Value} {base : Heap} {N : List Str} {q : Str} {sc : Scope} {f : Addr} {cd : Value} {A : Around} {outer : List Env} {s : Shared} {H : Hp} {E : XK}
theorem cxK : (cxOf CX P w K mg base N q sc f cd A outer s H E).K = K := rfl
theorem cxNK : (cxOf CX P w K mg base N q sc f cd A outer s H E).nox.K = K := rfl
theorem cxW : (cxOf CX P w K mg base N q sc f cd A outer s H E).w = w := rfl
end
theorem cut_seq {t u : TS} {D : Ends} {σ : L2.St} {H : Hp} (Mid : L2.St → Hp → Prop) (h1 : ∀ N : L2.St → Hp → Prop, (∀ σ' H', Mid σ' H' → N σ' H') → t { D with nx := N } σ H) (h2 : ∀ σ' H', Mid σ' H' → u D σ' H') : tSeq t u D σ H := h1 _ h2
end LK
namespace LK
open PySem PySem.Spec PyProof.Rows L2
theorem seq_op {t u : TS} {D : Ends} {σ : L2.St} {H : Hp} (h : ∀ N : L2.St → Hp → Prop, (∀ σ' H', u D σ' H' → N σ' H') → t { D with nx := N } σ H) : tSeq t u D σ H := h _ fun _ _ z => z
end LK
namespace LK
open PySem PySem.Spec PyProof.Rows L2
section
variable {X : Cx}
theorem opr_imp {f : Value → Value → Sem Value} {r r' : R2} (h : OpR X f r) (i : ∀ x y H Q, r' x y H Q → r x y H Q) : OpR X f r' := fun pins s σ H x y v u Q I rx ry q => h pins s σ H x y v u Q I rx ry (i _ _ _ _ q)
theorem cr_imp {f : Value} {r r' : List V → Hp → VK → Prop} (h : CallR X f r) (i : ∀ x H Q, r' x H Q → r x H Q) : CallR X f r' := fun pins s σ H xs us Q I rx q => h pins s σ H xs us Q I rx (i _ _ _ q)
theorem op_eqI : OpR X (compareOp .Eq) (rI0 fun i j => .bl (decide (i = j))) := opr_imp op_eq fun x y H Q h => by
  obtain ⟨i, j, rfl, rfl, q⟩ := h
  refine ⟨rfl, ?_⟩
  rw [L2.dec_int, Bool.beq_eq_decide_eq]; exact q
theorem op_neI : OpR X (compareOp .NotEq) (rI0 fun i j => .bl (!decide (i = j))) := opr_imp op_ne fun x y H Q h => by
  obtain ⟨i, j, rfl, rfl, q⟩ := h
  refine ⟨rfl, ?_⟩
  rw [L2.dec_int, Bool.beq_eq_decide_eq]; exact q
def rS0 (g : Str → Str → V) : R2 := fun x y H Q => ∃ i j, x = .str i ∧ y = .str j ∧ Q (g i j) H
theorem op_eqS : OpR X (compareOp .Eq) (rS0 fun i j => .bl (decide (i = j))) := opr_imp op_eq fun x y H Q h => by
  obtain ⟨i, j, rfl, rfl, q⟩ := h
  refine ⟨rfl, ?_⟩
  have e : decide (V.str i = V.str j) = decide (i = j) := by
    by_cases c : i = j
    · subst c; simp
    · rw [decide_eq_false c, decide_eq_false (fun z => c (V.str.inj z))]
  rw [e]; exact q
theorem op_neS : OpR X (compareOp .NotEq) (rS0 fun i j => .bl (!decide (i = j))) := opr_imp op_ne fun x y H Q h => by
  obtain ⟨i, j, rfl, rfl, q⟩ := h
  refine ⟨rfl, ?_⟩
  have e : decide (V.str i = V.str j) = decide (i = j) := by
    by_cases c : i = j
    · subst c; simp
    · rw [decide_eq_false c, decide_eq_false (fun z => c (V.str.inj z))]
  rw [e]; exact q
def rB0 (g : Bool → Bool → V) : R2 := fun x y H Q => ∃ i j, x = .bl i ∧ y = .bl j ∧ Q (g i j) H
theorem op_eqB : OpR X (compareOp .Eq) (rB0 fun i j => .bl (i == j)) := opr_imp op_eq fun x y H Q h => by
  obtain ⟨i, j, rfl, rfl, q⟩ := h
  refine ⟨rfl, ?_⟩
  rw [L2.dec_bl]; exact q
theorem op_neB : OpR X (compareOp .NotEq) (rB0 fun i j => .bl (!(i == j))) := opr_imp op_ne fun x y H Q h => by
  obtain ⟨i, j, rfl, rfl, q⟩ := h
  refine ⟨rfl, ?_⟩
  rw [L2.dec_bl]; exact q
/-- int(n) of an int -/
theorem call_intI : CallR X (.type "int") (fun xs H Q => ∃ i, xs = [.int i] ∧ Q (.int i) H) := cr_imp call_int1 fun xs H Q h => .inl h
end
end LK
namespace LK
open PySem PySem.Spec PyProof.Rows L2
/-! ### isinstance of data -/
def tyN : PyData → String
  | .none => "NoneType" | .bool _ => "bool" | .int _ => "int" | .str _ => "str" | .list _ => "list" | .tuple _ => "tuple" | .dict _ => "dict"
def isTy (T : String) : PyData → Bool
  | .none => false | .bool _ => T == "bool" || T == "int" | .int _ => T == "int" | .str _ => T == "str" | .list _ => T == "list" | .tuple _ => T == "tuple" | .dict _ => false
theorem dp_ty {K : PySem.W.Frag} {H : Hp} {v : V} {d : PyData} (h : Dp K H v d) : TyX K H v (.type (tyN d)) := by
  cases h with
  | non => exact .base .non
  | bl b => exact .base (.bl b)
  | int i => exact .base (.int i)
  | str x => exact .base (.str x)
  | lst hs _ =>
    rcases hs with (h | ⟨o, h⟩) | ⟨o, its, n, h1, h2, _⟩
    · exact .base (.lst h)
    · exact .base (.frz h)
    · exact .kList h1 h2
  | tup hs _ =>
    rcases hs with (h | ⟨o, h⟩) | ⟨o, its, n, h1, h2, _⟩
    · exact .base (.tup h)
    · exact .fTuple h
    · exact .kTuple h1 h2
theorem dp_kit {K : PySem.W.Frag} {H : Hp} {v : V} {d : PyData} (h : Dp K H v d) {T : String} (hT : T ∈ ["str", "int", "bool", "list", "tuple"]) : PySem.W.kitOne K (.type (tyN d)) (.type T) = some (isTy T d) := by
  refine kit_ty ?_
  simp only [List.mem_cons, List.mem_nil_iff, or_false] at hT
  cases h <;> rcases hT with rfl | rfl | rfl | rfl | rfl <;> (simp only [tyN, isTy]; decide +kernel)
section
variable {X : Cx}
theorem call_isiD : CallR X (.builtin "isinstance") (fun xs H Q => ∃ x T d, xs = [x, .ty T] ∧ Dp X.K H x d ∧ T ∈ ["str", "int", "bool", "list", "tuple"] ∧ Q (.bl (isTy T d)) H) := cr_imp call_isi fun xs H Q h => by
  obtain ⟨x, T, d, rfl, hd, hT, q⟩ := h
  exact ⟨x, .ty T, _, _, _, rfl, .ty T, dp_ty hd, dp_kit hd hT, q⟩
theorem call_isiDT : CallR X (.builtin "isinstance") (fun xs H Q => ∃ x tp d, xs = [x, .ref tp] ∧ H tp = some (.tup [.ty "list", .ty "tuple"]) ∧ Dp X.K H x d ∧ Q (.bl (isTy "list" d || isTy "tuple" d)) H) := cr_imp call_isiT fun xs H Q h => by
  obtain ⟨x, tp, d, rfl, ht, hd, q⟩ := h
  refine ⟨x, tp, _, .type (tyN d), [.type "list", .type "tuple"], _, rfl, ht, .cons (.ty _) (.cons (.ty _) .nil), dp_ty hd, ?_, q⟩
  have h1 := dp_kit hd (T := "list") (by simp)
  have h2 := dp_kit hd (T := "tuple") (by simp)
  unfold PySem.W.kitAny PySem.W.kitAny PySem.W.kitAny
  rw [h1, h2]
  cases isTy "list" d <;> cases isTy "tuple" d <;> rfl
/-- len of data -/
theorem call_lenD : CallR X (.builtin "len") (fun xs H Q => ∃ x d, xs = [x] ∧ Dp X.K H x d ∧ ((∃ ds, (d = .list ds ∨ d = .tuple ds) ∧ Q (.int ds.length) H) ∨ ∃ z, d = .str z ∧ z.length ≤ sizeLine ∧ Q (.int z.length) H)) := cr_imp call_len fun xs H Q h => by
  obtain ⟨x, d, rfl, hd, ⟨ds, e, q⟩ | ⟨z, rfl, hz, q⟩⟩ := h
  · have ln : ∀ {vs : List V} {es : List PyData}, DpAll X.K H vs es → vs.length = es.length := by
      intro vs es h
      induction es generalizing vs with
      | nil => cases h; rfl
      | cons a r ih => cases h with | cons _ h2 => simp [ih h2]
    rcases e with rfl | rfl
    · cases hd with
      | lst hs ha => exact ⟨_, ds.length, rfl, .inl ⟨_, hs, (ln ha).symm⟩, q⟩
    · cases hd with
      | tup hs ha => exact ⟨_, ds.length, rfl, .inr ⟨_, hs, (ln ha).symm⟩, q⟩
  · cases hd
    exact ⟨_, z.length, rfl, ⟨hz, rfl⟩, q⟩
/-- t[lo:hi] of a tuple: some tuple of that content -/
def rSlU (K : PySem.W.Frag) : V → Option Int → Option Int → Hp → VK → Prop := fun x lo hi H Q => ∃ a xs, x = .ref a ∧ SqT K H a xs ∧ ∀ q H', Same H H' → SqT K H' q (cutV xs lo hi) → Q (.ref q) H'
theorem sl_tupU : SlR X (rSlU X.K) := by
  intro pins s σ H x v vl vu lo hi sl Q I rx hs pl pu h
  obtain ⟨a, xs, rfl, hx, q⟩ := h
  refine sl_tupA pins s σ H _ v vl vu lo hi sl Q I rx hs pl pu ⟨a, xs, rfl, hx, fun hw => q a H (Same.refl H) ?_, fun hw p hp => q p _ (fun b o e => ?_) (.inl (.inl upd_same))⟩
  · have e : cutV xs lo hi = xs := by
      unfold cutV
      rw [hw.1, hw.2]
      simp
    rw [e]; exact hx
  · rw [upd_ne (ne_of_none e hp)]; exact e
def rCatU (K : PySem.W.Frag) : R2 := fun x y H Q => ∃ a b xs ys, x = .ref a ∧ y = .ref b ∧ SqT K H a xs ∧ SqT K H b ys ∧ xs.length + ys.length ≤ sizeLine ∧ ∀ q H', Same H H' → SqT K H' q (xs ++ ys) → Q (.ref q) H'
theorem op_catU : OpR X (binaryOp .Add) (rCatU X.K) := opr_imp op_catA fun x y H Q h => by
  obtain ⟨a, b, xs, ys, rfl, rfl, ha, hb, hz, q⟩ := h
  refine ⟨a, b, xs, ys, rfl, rfl, ha, hb, hz, fun e => q b H (Same.refl H) ?_, fun _ e => q a H (Same.refl H) ?_, fun _ _ p hp => q p _ (fun c o e => ?_) (.inl (.inl upd_same))⟩
  · subst e; exact hb
  · subst e; rw [List.append_nil]; exact ha
  · rw [upd_ne (ne_of_none e hp)]; exact e
/-- tuple(x) of a list or tuple -/
theorem call_tupleU : CallR X (.type "tuple") (fun xs H Q => ∃ p ys, xs = [.ref p] ∧ (SqL X.K H p ys ∨ SqT X.K H p ys) ∧ ∀ q H', Same H H' → SqT X.K H' q ys → Q (.ref q) H') := cr_imp call_tuple_of fun xs H Q h => by
  obtain ⟨p, ys, rfl, h, q⟩ := h
  refine ⟨p, ys, rfl, ?_⟩
  rcases h with h | h
  · exact .inl ⟨h, fun l hl => q l _ (fun c o e => by rw [upd_ne (ne_of_none e hl)]; exact e) (.inl (.inl upd_same))⟩
  · exact .inr ⟨h, q p H (Same.refl H) h⟩
end
/-! ### calls by keywords alone -/
def tCallZ (m : Nat) (sp : Sp) (gV : List V → List V) (E : XK) (tk : TA) : TE := fun σ H Q => tk σ H fun zs H2 => zs.length = m ∧ sp (gV zs) H2 Q E
section
variable {X : Cx} {CX : CXT} {k : Nat} {f : Addr} {fd : FuncData} {ps ks : List Str} {sp : Sp} {E : XK} {x : Str} {p pos : Pos} {kws : List Keyword} {tk : TA} {g : List Value → List Value} {gV : List V → List V}
/-- f(k = v, ..) -/
theorem pe_callZ (F : FnOk X.prog X.w X.K X.mg X.base CX k f fd ps sp) (hr : Room k X.A) (hg : Gl X x) (hm : X.mg x = some (.ref f)) (hk : PySem.W.keepIn X.K (.ref f) = true) (hb : KBn X.K fd ps 0 ks (fun _ ws => g ws) (fun _ zs => gV zs)) (hx : Passes CX X E)
    (hkw : PK X kws tk) (hall : (backToKw pos (keywordEach kws X.env)).all (·.1.isSome) = true := by rfl) (hks : (backToKw pos (keywordEach kws X.env)).filterMap (·.1) = ks := by rfl)
    (hdb : (x == ("__debug__" : Str)) = false := by decide)
    (hpl : ((backTo pos (starEach [] X.env)).any (·.1) || (backToKw pos (keywordEach kws X.env)).any (·.1.isNone)) = false := by rfl) :
    PE X (.Call (.Name x p) [] kws pos) (tCallZ ks.length sp gV E tk) := by
  refine ⟨fun pins s σ H Q I h => ?_⟩
  refine wpAny_Call_Name_kw (ld_glob I hg hm ?_ hdb)
  refine PySem.W.callWith_KW0 (h₀ := X.base) I.ok.mod.kin hk hall (thn (hkw.run pos pins s σ H _ I h) fun ws s2 ⟨zs, H2, I2, rz, l2, q2⟩ => ⟨I2.kIn, ?_⟩) hpl
  rw [hks]
  exact run_fnN F hr hb hx I2 .nil rz rfl l2 q2
end
theorem kb_of {K : PySem.W.Frag} {x qual : Str} {st : Stmt} {f : Addr} {fd : FuncData} {ps : List Str} (F : Fun K x qual st f fd) {n : Nat} {ks : List Str} (g : {α : Type} → List α → List α → List α)
    (hrel : ∀ {vs zs : List V} {us ws : List Value}, Vals vs us → Vals zs ws → Vals (g vs zs) (g us ws))
    (h : ∀ (kV doc pm : Value) (an : Option Addr) (cdv ct : Value) (us ws : List Value), us.length = n → ws.length = ks.length → bindArgs (PySem.W.fnOf x qual (defArgs st) (defBody st) (defScope st) .none kV doc pm an cdv ct) ⟨us, ks.zip ws⟩ = pure (ps.zip (g us ws))) : KBn K fd ps n ks (fun us ws => g us ws) (fun vs zs => g vs zs) := by
  obtain ⟨oc, od, kV, doc, pm, an, cdv, ct, osl, rfl, lk, hcd⟩ := F.ex
  exact ⟨fun s us ws _ l1 l2 => .of_eq (h kV doc pm an cdv ct us ws l1 l2), hrel⟩
end LK

namespace LK
open PySem PySem.Spec PyProof.Rows L2
/-! ### t[::-1] of a tuple -/
theorem fm_map {α β : Type} {f : α → Option β} {g : α → β} : ∀ {l : List α}, (∀ m ∈ l, f m = some (g m)) → l.filterMap f = l.map g
  | [], _ => rfl
  | a :: l, h => by
    rw [List.filterMap_cons, h a List.mem_cons_self]
    exact congrArg (g a :: ·) (fm_map fun m hm => h m (List.mem_cons_of_mem _ hm))
theorem rev_pick (xs : Array Value) : ((List.range xs.size).filterMap fun (m : Nat) => xs[(((xs.size : Int) - 1) + (m : Int) * (-1)).toNat]?).toArray = xs.toList.reverse.toArray := by
  have e : ((List.range xs.size).filterMap fun (m : Nat) => xs[(((xs.size : Int) - 1) + (m : Int) * (-1)).toNat]?) = xs.toList.reverse := by
    have h : ∀ m ∈ List.range xs.size, (xs[(((xs.size : Int) - 1) + (m : Int) * (-1)).toNat]?) = some (xs.toList.reverse.getD m .none) := by
      intro m hm
      have hm := List.mem_range.mp hm
      have e1 : (((xs.size : Int) - 1) + (m : Int) * (-1)).toNat = xs.size - 1 - m := by omega
      rw [e1, List.getD_eq_getElem?_getD, List.getElem?_reverse (by simpa using hm)]
      rw [Array.getElem?_eq_getElem (by omega), Array.length_toList, List.getElem?_eq_getElem (by rw [Array.length_toList]; omega)]
      rfl
    rw [fm_map h]
    refine List.ext_getElem? fun i => ?_
    rw [List.getElem?_map]
    by_cases hi : i < xs.size
    · rw [List.getElem?_range hi, List.getElem?_eq_getElem (by simpa using hi)]
      simp [List.getElem?_eq_getElem, hi]
    · rw [List.getElem?_eq_none (by simpa using hi), List.getElem?_eq_none (by simpa using hi)]
      rfl
  rw [e]
section
variable {prog : Program} {w : World} {A : Around} {E : Value → Shared → Prop} {s : Shared}
theorem sliceApplied_rev {sl : Addr} {vl vu vs : Value} {n : Nat} {Q : Int × Int × Nat → Shared → Prop} (hs : s.heap.IsSliceOf sl vl vu vs) (pl : IsPart vl none) (pu : IsPart vu none) (ps : IsPart vs (some (-1)))
    (h : Q ((n : Int) - 1, -1, n) s) : wpAny (model prog w) A (Builtin.Slice.sliceApplied (.ref sl) (pure (n : Int))) Q E s := by
  obtain ⟨os, hos, hcs, hds⟩ := id hs
  unfold Builtin.Slice.sliceApplied Builtin.Slice.sliceFields
  refine wpAny_bind (wpAny_bind (wpAny_field hos hds (x := vl) rfl (wpAny_bind (wpAny_field hos hds (x := vu) rfl (wpAny_bind (wpAny_field hos hds (x := vs) rfl (wpAny_pure ?_)))))))
  refine wpAny_bind (HT.slicePart_ ps ?_)
  show wpAny _ _ (if ((-1 : Int) == 0) = true then _ else _) _ _ s
  rw [if_neg (by decide)]
  refine wpAny_bind (HT.slicePart_ pl (wpAny_bind (HT.slicePart_ pu (wpAny_bind (wpAny_pure ?_)))))
  show wpAny _ _ (match Builtin.Slice.sliceAdjust none none (-1) (n : Int) with | (lo, hi) => pure (lo, (-1 : Int), Builtin.Slice.slicePlaces lo hi (-1))) _ _ s
  have e1 : Builtin.Slice.sliceAdjust none none (-1) (n : Int) = ((n : Int) - 1, -1) := rfl
  rw [e1]
  show wpAny _ _ (pure ((n : Int) - 1, (-1 : Int), Builtin.Slice.slicePlaces ((n : Int) - 1) (-1) (-1))) _ _ s
  have e2 : Builtin.Slice.slicePlaces ((n : Int) - 1) (-1) (-1) = n := by
    unfold Builtin.Slice.slicePlaces
    rw [if_neg (by decide)]
    by_cases c : n = 0
    · subst c; rfl
    · rw [if_pos (by omega)]
      show (((n : Int) - 1 - -1 - 1) / 1 + 1).toNat = n
      rw [Int.ediv_one]; omega
  rw [e2]
  exact wpAny_pure h
theorem getItem_tuple_rev {t sl : Addr} {items : Array Value} {vl vu vs : Value} {Q : Value → Shared → Prop} (ht : IsTup s.heap t items) (hs : s.heap.IsSliceOf sl vl vu vs) (pl : IsPart vl none) (pu : IsPart vu none) (ps : IsPart vs (some (-1)))
    (h : Q (.ref s.heap.objs.size) { s with heap := s.heap.push { cls := .type "tuple", data := .seq items.toList.reverse.toArray } })
    (hsz : items.size ≤ sizeLine) : wpAny (model prog w) A (getItem (.ref t) (.ref sl)) Q E s := by
  have htake : sizeOk (.seq items.toList.reverse.toArray) := by
    show items.toList.reverse.toArray.size ≤ sizeLine
    simpa using hsz
  obtain ⟨os, hos, hcs, hds⟩ := id hs
  have hTs : s.TypeIs (.ref sl) "slice" := ⟨os, hos, hcs⟩
  unfold getItem
  try with_reducible refine wpAny_holding ?_
  first | refine wpAny_bind (wpAny_pure ?_) | skip
  refine wpAny_bind (wpAny_sequenceKey ht.typeIs (by decide) ?_)
  refine wpAny_bind (wpAny_callSpecial?_slot (name := Str.ofString "__getitem__") ht.typeIs PyProof.Rows.slot_tuple_getitem
    (wpAny_call_entry PyProof.Rows.slot_tuple_getitem ht.typeIs PyProof.Rows.entry_tuple_getitem ?_ (PyProof.Rows.args_tuple_getitem _ _)))
  show wpAny _ _ (Builtin.Tuple.tupleItemsOf (.ref t) >>= _) _ _ s
  refine wpAny_bind (PyProof.Rows.tupleItemsOf_ ht ?_)
  refine wpAny_bind (wpAny_typeOf hTs ?_)
  rw [if_pos (by decide)]
  refine wpAny_bind (sliceApplied_rev hs pl pu ps ?_)
  have hno : ¬ ((((items.size : Int) - 1) == 0 && (-1 : Int) == 1 && items.size == items.size) = true) := by
    intro q
    rw [Bool.and_eq_true, Bool.and_eq_true] at q
    exact absurd (eq_of_beq q.1.2) (by decide)
  show wpAny _ _ (if (((items.size : Int) - 1) == 0 && (-1 : Int) == 1 && items.size == items.size) = true then _ else _) _ _ s
  rw [if_neg hno, rev_pick]
  first
    | exact wpAny_bind (m := Builtin.Tuple.tupleExact _) (wpAny_newObj_type (wpAny_pure ⟨_, rfl, wpAny_pure h⟩) htake)
    | exact wpAny_bind (m := Builtin.Tuple.tupleExact _) (wpAny_newObj_type (wpAny_bind (wpAny_pure (wpAny_pure ⟨_, rfl, wpAny_pure h⟩))) htake)
    | exact wpAny_bind (wpAny_bind (m := Builtin.Tuple.tupleExact _) (wpAny_newObj_type (wpAny_pure (wpAny_pure ⟨_, rfl, wpAny_pure h⟩)) htake))
    | exact wpAny_bind (wpAny_bind (m := Builtin.Tuple.tupleExact _) (wpAny_newObj_type (wpAny_pure ⟨_, rfl, wpAny_pure h⟩) htake))
end
section
variable {X : Cx}
def tRevT (K : PySem.W.Frag) (te : TE) : TE := fun σ H Q => te σ H fun x H1 => ∃ a xs, x = .ref a ∧ SqT K H1 a xs ∧ ∀ p H2, Same H1 H2 → H1 p = none → H2 p = some (.tup xs.reverse) → Q (.ref p) H2
theorem pe_revT {e : Expr} {te : TE} {k : Nat} {p1 p2 p3 pos : Pos} (he : PE X e te) : PE X (.Subscript e (.Slice none none (some (.UnaryOp .USub (.Constant (.int 1) k p1) p2)) p3) pos) (tRevT X.K te) := by
  refine ⟨fun pins s σ H Q I h => ?_⟩
  refine Subscript_ (thn (he.run pins s σ H _ I h) fun v s1 ⟨x, H1, I1, r1, q1⟩ => ?_)
  obtain ⟨a, xs, ex, hx, q⟩ := q1
  subst ex
  cases r1
  have hst : PO X (some (.UnaryOp .USub (.Constant (.int 1) k p1) p2)) (tPart (tUn (rU fun i => .int (-i)) (tC (.int 1)))) := po_some (pe_un un_neg pe_int)
  refine wpAny_Slice (thn (po_none.run pins s1 σ H1 (fun o H2 => o = none ∧ H2 = H1) I1 ⟨rfl, rfl⟩) fun vl s2 ⟨l, H2, I2, pl, el, e2⟩ => ?_)
  subst el e2
  refine thn (po_none.run pins s2 σ H2 (fun o H3 => o = none ∧ H3 = H2) I2 ⟨rfl, rfl⟩) fun vu s3 ⟨u, H3, I3, pu, eu, e3⟩ => ?_
  subst eu e3
  refine thn (hst.run pins s3 σ H3 (fun o H4 => o = some (-1) ∧ H4 = H3) I3 ⟨1, rfl, -1, rfl, rfl, rfl⟩) fun vs s4 ⟨o, H4, I4, ps, eo, e4⟩ => ?_
  subst eo e4
  have I5 : Inv X pins σ H4 { s4 with heap := s4.heap.push { cls := .type "slice", data := .fields #[vl, vu, vs] } } := I4.kept (t' := s4.toks) fun b ob q => Heap.get?_push_of_some _ q
  obtain ⟨its, r, ht, hz⟩ := I5.tuple hx
  have hlen := r.length
  show wpAny (model X.prog X.w) X.A (subscriptTail e (.Slice none none (some (.UnaryOp .USub (.Constant (.int 1) k p1) p2)) p3) (.ref a) (.ref s4.heap.objs.size)) (EP X pins σ Q) X.xe { s4 with heap := s4.heap.push { cls := .type "slice", data := .fields #[vl, vu, vs] } }
  refine tail_any (ops := [.ref a, .ref s4.heap.objs.size]) ht.typeIs (PyProof.Rows.slot_tuple_getitem.lookup) ?_ (by with_unfolding_all rfl)
  refine getItem_tuple_rev ht (Heap.IsSliceOf.new _ vl vu vs) pl pu ps ?_ (by rw [List.size_toArray]; omega)
  refine ⟨.ref _, _, I5.laid (t' := s4.toks) (o := .tup xs.reverse) (fun b ob q => Heap.get?_push_of_some _ q) (Nat.le_refl _) ?_, rfl, q _ _ (same_upd (I5.hok.fresh (Nat.le_refl _))) (I5.hok.fresh (Nat.le_refl _)) upd_same⟩
  exact ⟨by rw [List.length_reverse]; exact hz, _, r.reverse, IsTup.new _ _⟩
end
end LK
namespace LK
open PySem PySem.Spec PyProof.Rows L2
/-! ### d.get(k) of a written dict with text keys -/
section
variable {X : Cx} {d : Addr} {es : Array DictEntry} {n : Nat} {o e : Expr} {apos cpos : Pos} {td ty : TE}
def tWget (K : PySem.W.Frag) (d : Addr) (td ty : TE) : TE := fun σ H Q => td σ H fun x H1 => x = .ref d ∧ ty σ H1 fun y H2 => ∃ (z : Str) (r : Option Value) (v : V), y = .str z ∧ PySem.W.nsIn K d z = some r ∧ RelV v (r.getD .none) ∧ Q v H2
theorem pe_wget (D : KDict X.K X.w d es n) (ho : PE X o td) (he : PE X e ty) (hbase : attributeBase o "get" X.env (eval o X.env) = eval o X.env := by rfl)
    (hfew : ((backTo cpos (starEach [e] X.env)).all (fun x => !x.1) && (backToKw cpos (keywordEach [] X.env)).all (fun x => x.1.isSome)
    && decide (([e] : List Expr).length + ([] : List Keyword).length + (if ([] : List Keyword).isEmpty then 0 else 1) < 30)) = true := by rfl)
    (hline : (apos.endLine == cpos.line) = true := by rfl) (htr : backTo cpos (starEach [e] X.env) = [(false, eval e X.env)] := by rfl) : PE X (.Call (.Attribute o "get" apos) [e] [] cpos) (tWget X.K d td ty) := by
  refine ⟨fun pins s σ H Q I h => ?_⟩
  refine wpAny_Call_method hbase hfew hline PySem.F.plainAttrs_dict PySem.F.slot_dict_get PySem.F.type_dict_get (thn (ho.run pins s σ H _ I h) fun u s1 ⟨x, H1, I1, rx, ex, q1⟩ => ?_)
  subst ex
  obtain rfl : u = Value.ref d := rx
  have ob := I1.kIn _ _ D.at_
  refine ⟨kd_type D I1, fun b q => ?_, ?_⟩
  · cases q
    exact ⟨_, ob, rfl⟩
  rw [htr]
  refine Calls.callWith_builtin rfl (Calls.evalArgs_plain (Calls.spliced_cons (thn (he.run pins s1 σ H1 _ I1 q1) fun iv s2 ⟨y, H2, I2, ry, z, r, v, ey, hn, rv, q2⟩ => Calls.spliced_nil ?_)))
  subst ey
  obtain ⟨t, rfl⟩ := ry
  refine call_meetsIn PySem.F.slot_dict_get (kd_type D I2) PySem.F.entry_dict_get (PySem.F.args_dict_get_2 _ _) (meets_dict_get (strKind X.prog X.w) d (PySem.strKind_is X.prog X.w z t) D.low)
    ⟨_, PySem.W.mapOf_K (prog := X.prog) I2.kIn D.at_ D.lit, v, H2, I2.tok _, ?_, q2⟩
  rw [PySem.W.find_K D.at_ hn]
  exact rv
end
end LK
namespace LK
open PySem PySem.Spec PyProof.Rows L2
/-! ### comprehensions without tests -/
/-- what is new since H -/
def nw (H H' : Hp) : Hp := fun a => if H a = none then H' a else none
theorem nw_some {H H' : Hp} {a : Addr} {o : HO} (h : nw H H' a = some o) : H a = none ∧ H' a = some o := by
  unfold nw at h
  split at h
  · exact ⟨by assumption, h⟩
  · cases h
theorem nw_of {H H' : Hp} {a : Addr} {o : HO} (h0 : H a = none) (h : H' a = some o) : nw H H' a = some o := by
  unfold nw
  rw [if_pos h0]; exact h
theorem nw_le (H H' : Hp) : Same (nw H H') H' := fun _ _ h => (nw_some h).2
theorem nw_hb {H H' : Hp} {b : Addr} {o : HO} (h : H b = some o) : Same (nw H H') (hb H' b) := fun a u e => by
  obtain ⟨h1, h2⟩ := nw_some e
  have n : a ≠ b := fun q => by rw [q, h] at h1; cases h1
  rw [hb_ne n]; exact h2
/-- new since a later heap is new since an earlier one -/
theorem nw_anti {H0 H H' : Hp} (d : ∀ a, H a = none → H0 a = none) : Same (nw H H') (nw H0 H') := fun a u e => by
  obtain ⟨h1, h2⟩ := nw_some e
  exact nw_of (d a h1) h2
theorem nw_same {H H' H'' : Hp} (s : ∀ a o, H a = none → H' a = some o → H'' a = some o) : Same (nw H H') (nw H H'') := fun a u e => by
  obtain ⟨h1, h2⟩ := nw_some e
  exact nw_of h1 (s _ _ h1 h2)
theorem Kp.dom {b : Addr} {H H' : Hp} {o : HO} (k : Kp b H H') (hb' : H' b = some o) : ∀ a, H' a = none → H a = none := fun a h => by
  cases q : H a with
  | none => rfl
  | some u =>
    by_cases e : a = b
    · subst e; rw [hb'] at h; cases h
    · rw [k.hd q e] at h; cases h
theorem Same.dom {H H' : Hp} (k : Same H H') : ∀ a, H' a = none → H a = none := fun a h => k.free h

/-- a pure one -/
theorem lc_pure {J : It} {n : Nat} {G : Hp → Prop} {Y : Nat → Hp → V → Hp → Prop} (w : Walk J n G Y) {g : TG} {te : TE} {vs : List Nat} {σ : L2.St} {H1 : Hp} {D : Addr} {Qd : Hp → Prop} (hD : H1 D = none) (hn : n ≤ 1000000) (y : Nat → V)
    (hG : ∀ H, Same H1 H → G H)
    (hs : ∀ i x H H', i < n → Same H1 H → Y i H x H' → g x (wipe σ vs) H' fun σ2 H2 => Same H H2 ∧ wipe σ2 vs = wipe σ vs ∧ ∀ Q2 : V → Hp → Prop, (∀ H3, Same H2 H3 → Q2 (y i) H3) → te σ2 H2 Q2)
    (gm : ∀ x σ0 H0 Q0 Q1, (∀ σ2 H2, Q0 σ2 H2 → Q1 σ2 H2) → g x σ0 H0 Q0 → g x σ0 H0 Q1)
    (hq : ∀ H', Same H1 H' → H' D = some (.lst ((List.range n).map y)) → Qd H') :
    ∃ W : Nat → Nat → Hp → Prop, (∃ m, W 0 m (upd H1 D (.lst []))) ∧ ∀ i m H, W i m H →
      (J.stop i H ∧ Qd H) ∨ (J.go i H ∧ ∃ Nx : Hp → Prop, (∀ H', Nx H' → ∃ m', m' < m ∧ W (i + 1) m' H') ∧ ∀ x H', J.yld i H x H' → g x (wipe σ vs) H' fun σ2 H2 => wipe σ2 vs = wipe σ vs ∧ tYes σ2 H2 fun b H3 =>
        if b = true then te σ2 H3 fun y H4 => ∃ acc, H4 D = some (.lst acc) ∧ acc.length < sizeLine ∧ Nx (upd H4 D (.lst (acc ++ [y]))) else Nx H3) := by
  have up : ∀ {H : Hp} {o : HO}, Same H1 H → Same H1 (upd H D o) := fun s a u e => by
    rw [upd_ne (ne_of_none e hD)]; exact s _ _ e
  refine lc_it w (fun i H => Same H1 H ∧ H D = some (.lst ((List.range i).map y))) ⟨up (Same.refl _), upd_same⟩ (fun i H _ h => hG H h.1) (fun i x H H' hi ⟨s1, h1⟩ hY => ?_) (fun H h => hq H h.1 h.2)
  refine gm _ _ _ _ _ (fun σ2 H2 ⟨s2, e2, k⟩ => ⟨e2, ?_⟩) (hs i x H H' hi s1 hY)
  simp only [tYes, eq_self, ite_true]
  refine k _ fun H3 s3 => ⟨_, s3 _ _ (s2 _ _ h1), ?_, up (Same.trans (Same.trans s1 s2) s3), ?_⟩
  · rw [List.length_map, List.length_range]
    exact Nat.lt_of_lt_of_le (Nat.lt_of_lt_of_le hi hn) (by decide)
  · rw [upd_same, List.range_succ, List.map_append]
    rfl
/-- one that draws from a bag -/
theorem lc_bag {J : It} {n : Nat} {G : Hp → Prop} {Y : Nat → Hp → V → Hp → Prop} (w : Walk J n G Y) {g : TG} {te : TE} {vs : List Nat} {σ : L2.St} {H1 : Hp} {D b c : Addr} {Qd : Hp → Prop} (hD : H1 D = none) (hB : Bag H1 b c) (hn : n ≤ 1000000) (Φ : Hp → V → Prop) (mono : ∀ G G' v, Same G G' → Φ G v → Φ G' v)
    (hG : ∀ H, Kp b H1 H → G H)
    (hs : ∀ i x H H', i < n → Kp b H1 H → Bag H b c → Y i H x H' → g x (wipe σ vs) H' fun σ2 H2 => Same H H2 ∧ wipe σ2 vs = wipe σ vs ∧ ∀ Q2 : V → Hp → Prop, (∀ v H3, Bag H3 b c → Kp b H2 H3 → Φ (nw H2 H3) v → Q2 v H3) → te σ2 H2 Q2)
    (gm : ∀ x σ0 H0 Q0 Q1, (∀ σ2 H2, Q0 σ2 H2 → Q1 σ2 H2) → g x σ0 H0 Q0 → g x σ0 H0 Q1)
    (hq : ∀ H' ys, Bag H' b c → Kp b H1 H' → H' D = some (.lst ys) → ys.length = n → (∀ v ∈ ys, Φ (nw (upd H1 D (.lst [])) H') v) → Qd H') :
    ∃ W : Nat → Nat → Hp → Prop, (∃ m, W 0 m (upd H1 D (.lst []))) ∧ ∀ i m H, W i m H →
      (J.stop i H ∧ Qd H) ∨ (J.go i H ∧ ∃ Nx : Hp → Prop, (∀ H', Nx H' → ∃ m', m' < m ∧ W (i + 1) m' H') ∧ ∀ x H', J.yld i H x H' → g x (wipe σ vs) H' fun σ2 H2 => wipe σ2 vs = wipe σ vs ∧ tYes σ2 H2 fun b H3 =>
        if b = true then te σ2 H3 fun y H4 => ∃ acc, H4 D = some (.lst acc) ∧ acc.length < sizeLine ∧ Nx (upd H4 D (.lst (acc ++ [y]))) else Nx H3) := by
  obtain ⟨xb, eb⟩ := hB.at
  obtain ⟨xc, ec⟩ := hB.at2
  have nbD : b ≠ D := fun e => by rw [← e, eb] at hD; cases hD
  have ncD : c ≠ D := fun e => by rw [← e, ec] at hD; cases hD
  have up : ∀ {H : Hp} {o : HO}, Kp b H1 H → Kp b H1 (upd H D o) := fun s a u e => by
    obtain ⟨h1, h2⟩ := hb_some e
    rw [hb_ne h1, upd_ne (ne_of_none h2 hD)]
    exact s.hd h2 h1
  refine lc_it w (fun i H => Kp b H1 H ∧ Bag H b c ∧ ∃ ys, H D = some (.lst ys) ∧ ys.length = i ∧ ∀ v ∈ ys, Φ (nw (upd H1 D (.lst [])) H) v) ⟨up (Kp.refl _ _), hB.upd nbD ncD, [], upd_same, rfl, fun v hv => absurd hv (by simp)⟩ (fun i H _ h => hG H h.1) (fun i x H H' hi ⟨s1, B1, ys, h1, hl, hp⟩ hY => ?_) (fun H ⟨s1, B1, ys, h1, hl, hp⟩ => hq H ys B1 s1 h1 hl hp)
  refine gm _ _ _ _ _ (fun σ2 H2 ⟨s2, e2, k⟩ => ⟨e2, ?_⟩) (hs i x H H' hi s1 B1 hY)
  simp only [tYes, eq_self, ite_true]
  have B2 := B1.same s2
  refine k _ fun v H3 B3 k3 hv => ⟨ys, k3.hd (s2 _ _ h1) nbD.symm, ?_, up (Same.trans (Same.trans s1 (Kp.of s2)) k3), B3.upd nbD ncD, ys ++ [v], upd_same, by rw [List.length_append, hl]; rfl, fun u hu => ?_⟩
  · rw [hl]
    exact Nat.lt_of_lt_of_le (Nat.lt_of_lt_of_le hi hn) (by decide)
  · have kk : ∀ a o, upd H1 D (.lst []) a = none → H3 a = some o → upd H3 D (.lst (ys ++ [v])) a = some o := fun a o q e => by
      have n : a ≠ D := fun z => by rw [z, upd_same] at q; cases q
      rw [upd_ne n]; exact e
    rcases List.mem_append.mp hu with hu | hu
    · refine mono _ _ _ (fun a o e => ?_) (hp u hu)
      obtain ⟨q1, q2⟩ := nw_some e
      have n : a ≠ b := fun z => by rw [z, upd_ne nbD, eb] at q1; cases q1
      exact nw_of q1 (kk _ _ q1 (k3.hd (s2 _ _ q2) n))
    · obtain rfl : u = v := by simpa using hu
      refine mono _ _ _ (fun a o e => ?_) hv
      obtain ⟨q1, q2⟩ := nw_some e
      have d1 : upd H1 D (.lst []) a = none := by
        by_cases n : a = D
        · rw [n, s2 _ _ h1] at q1; cases q1
        · rw [upd_ne n]
          exact Kp.dom (Same.trans s1 (Kp.of s2)) (B2.at.choose_spec) a q1
      exact nw_of d1 (kk _ _ d1 q2)
end LK
namespace LK
open PySem PySem.Spec PyProof.Rows L2
theorem cutV_take (xs : List V) (k : Nat) : cutV xs none (some (k : Int)) = xs.take k := by
  unfold cutV HT.sIx
  simp only [List.drop_zero, Nat.sub_zero]
  by_cases h : (k : Int) < 0
  · omega
  · rw [if_neg h]
    have e : ((k : Int)).toNat = k := Int.toNat_natCast k
    by_cases c : k ≤ xs.length
    · congr 1
      omega
    · rw [List.take_of_length_le (by omega), List.take_of_length_le (by omega)]
theorem cutV_drop (xs : List V) (k : Nat) : cutV xs (some (k : Int)) none = xs.drop k := by
  unfold cutV
  rw [HT.sIx_nat, HT.sIx_none]
  by_cases c : k ≤ xs.length
  · rw [Nat.min_eq_left c, List.take_of_length_le (by simp)]
  · rw [Nat.min_eq_right (by omega), List.drop_eq_nil_of_le (by omega), List.drop_eq_nil_of_le (by omega)]
    simp
end LK
namespace LK
open PySem PySem.Spec PyProof.Rows L2
/-! ### new objects, the heap behind them by a name -/
section
variable {X : Cx} {es : List Expr} {t : TA} {pos : Pos}
def tTupU (t : TA) : TE := fun σ H Q => t σ H fun xs H1 => xs.length ≤ sizeLine ∧ ∀ p H2, Same H1 H2 → H1 p = none → H2 p = some (.tup xs) → Q (.ref p) H2
def tLstU (t : TA) : TE := fun σ H Q => t σ H fun xs H1 => xs.length ≤ sizeLine ∧ ∀ p H2, Same H1 H2 → H1 p = none → H2 p = some (.lst xs) → Q (.ref p) H2
theorem pe_tupU {x1} (h : PA X es t) : PE X (.Tuple es x1 pos) (tTupU t) := by
  refine ⟨fun pins s σ H Q I hq => ?_⟩
  refine wpAny_Tuple_spliced (thn (h.run pos pins s σ H _ I hq) fun us s1 ⟨xs, H1, I1, r, z, q⟩ => ⟨by rw [← r.length]; exact z, ?_⟩)
  have hf : H1 s1.heap.objs.size = none := I1.hok.fresh (Nat.le_refl _)
  refine ⟨.ref s1.heap.objs.size, L2.upd H1 s1.heap.objs.size (.tup xs), I1.laid (t' := s1.toks) (fun b u e => Heap.get?_push_of_some _ e) (Nat.le_refl _) ?_, rfl, q _ _ (same_upd hf) hf upd_same⟩
  exact ⟨z, us, r, ⟨_, Heap.get?_push_size _ rfl, rfl, _, rfl⟩⟩
theorem pe_lstU (h : PA X es t) : PE X (.List es pos) (tLstU t) := by
  refine ⟨fun pins s σ H Q I hq => ?_⟩
  refine wpAny_List_spliced (thn (h.run pos pins s σ H _ I hq) fun us s1 ⟨xs, H1, I1, r, z, q⟩ => ⟨by rw [← r.length]; exact z, ?_⟩)
  have hf : H1 s1.heap.objs.size = none := I1.hok.fresh (Nat.le_refl _)
  refine ⟨.ref s1.heap.objs.size, L2.upd H1 s1.heap.objs.size (.lst xs), I1.laid (t' := s1.toks) (fun b u e => Heap.get?_push_of_some _ e) (Nat.le_refl _) ?_, rfl, q _ _ (same_upd hf) hf upd_same⟩
  exact ⟨z, us, 0, r, Heap.get?_push_size _ rfl⟩
def rSlLU (K : PySem.W.Frag) : V → Option Int → Option Int → Hp → VK → Prop := fun x lo hi H Q => ∃ a xs, x = .ref a ∧ SqL K H a xs ∧ ∀ p H2, Same H H2 → H p = none → H2 p = some (.lst (cutV xs lo hi)) → Q (.ref p) H2
theorem sl_listU : SlR X (rSlLU X.K) := by
  intro pins s σ H x v vl vu lo hi sl Q I rx hs pl pu h
  obtain ⟨a, xs, rfl, hx, q⟩ := h
  exact sl_list pins s σ H _ v vl vu lo hi sl Q I rx hs pl pu ⟨a, xs, rfl, hx, fun p hp => q p _ (same_upd hp) hp upd_same⟩
theorem call_listU : CallR X (.type "list") (fun xs H Q => ∃ p ys, xs = [.ref p] ∧ (SqL X.K H p ys ∨ SqT X.K H p ys) ∧ ∀ l H2, Same H H2 → H l = none → H2 l = some (.lst ys) → Q (.ref l) H2) := cr_imp call_list_of fun xs H Q h => by
  obtain ⟨p, ys, rfl, h, q⟩ := h
  exact ⟨p, ys, rfl, h, fun l hl => q l _ (same_upd hl) hl upd_same⟩
def rCatL : R2 := fun x y H Q => ∃ l b xs zs, x = .ref l ∧ y = .ref b ∧ H l = some (.lst xs) ∧ H b = some (.lst zs) ∧ xs.length + zs.length ≤ sizeLine ∧ ∀ p H2, Same H H2 → H p = none → H2 p = some (.lst (xs ++ zs)) → Q (.ref p) H2
theorem op_catL : OpR X (binaryOp .Add) rCatL := opr_imp op_cat fun x y H Q h => by
  obtain ⟨l, b, xs, zs, rfl, rfl, h1, h2, hz, q⟩ := h
  exact ⟨l, b, xs, zs, rfl, rfl, h1, h2, hz, fun p hp => q p _ (same_upd hp) hp upd_same⟩
def rRepL : R2 := fun x y H Q => ∃ l k xs, x = .ref l ∧ y = .int k ∧ H l = some (.lst xs) ∧ -(2 ^ 63) ≤ k ∧ k < 2 ^ 63 ∧ xs.length * k.toNat ≤ sizeLine ∧ ∀ p H2, Same H H2 → H p = none → H2 p = some (.lst (List.replicate k.toNat xs).flatten) → Q (.ref p) H2
theorem op_repL : OpR X (binaryOp .Mult) rRepL := opr_imp op_rep fun x y H Q h => by
  obtain ⟨l, k, xs, rfl, rfl, h1, h2, h3, hz, q⟩ := h
  exact ⟨l, k, xs, rfl, rfl, h1, h2, h3, hz, fun p hp => q p _ (same_upd hp) hp upd_same⟩
end
end LK
namespace LK
open PySem PySem.Spec PyProof.Rows L2
/-- [f(x) for x in ..], the items known -/
theorem lc_map {J : It} {n : Nat} {G : Hp → Prop} {Y : Nat → Hp → V → Hp → Prop} (w : Walk J n G Y) {te : TE} {i : Nat} {σ : L2.St} {H1 : Hp} {D : Addr} {Qd : Hp → Prop} (xs : List V) (f : V → V) (hD : H1 D = none) (hn : n ≤ 1000000) (hx : xs.length = n)
    (hY : ∀ k H x H', k < n → Y k H x H' → H' = H ∧ xs[k]? = some x) (hG : ∀ H, Same H1 H → G H)
    (hs : ∀ x H, x ∈ xs → Same H1 H → ∀ Q2 : V → Hp → Prop, (∀ H3, Same H H3 → Q2 (f x) H3) → te ((wipe σ [i]).set i (some x)) H Q2)
    (hq : ∀ H', Same H1 H' → H' D = some (.lst (xs.map f)) → Qd H') :
    ∃ W : Nat → Nat → Hp → Prop, (∃ m, W 0 m (L2.upd H1 D (.lst []))) ∧ ∀ i' m H, W i' m H →
      (J.stop i' H ∧ Qd H) ∨ (J.go i' H ∧ ∃ Nx : Hp → Prop, (∀ H', Nx H' → ∃ m', m' < m ∧ W (i' + 1) m' H') ∧ ∀ x H', J.yld i' H x H' → gName i x (wipe σ [i]) H' fun σ2 H2 => wipe σ2 [i] = wipe σ [i] ∧ tYes σ2 H2 fun b H3 =>
        if b = true then te σ2 H3 fun y H4 => ∃ acc, H4 D = some (.lst acc) ∧ acc.length < sizeLine ∧ Nx (L2.upd H4 D (.lst (acc ++ [y]))) else Nx H3) := by
  have e : (List.range n).map (fun k => f (xs.getD k .non)) = xs.map f := by
    refine List.ext_getElem? fun k => ?_
    rw [List.getElem?_map, List.getElem?_map]
    by_cases hk : k < n
    · rw [List.getElem?_range hk, List.getElem?_eq_getElem (by omega)]
      simp [List.getD_eq_getElem?_getD, List.getElem?_eq_getElem (show k < xs.length by omega)]
    · rw [List.getElem?_eq_none (by simpa using hk), List.getElem?_eq_none (by omega)]
      rfl
  refine lc_pure w hD hn (fun k => f (xs.getD k .non)) hG (fun k x H H' hk s1 y => ?_) (fun x σ0 H0 Q0 Q1 h q => h _ _ q) (fun H' s h => hq H' s (by rw [← e]; exact h))
  obtain ⟨rfl, hx2⟩ := hY _ _ _ _ hk y
  refine ⟨Same.refl _, ?_, fun Q2 h2 => hs x H' (List.mem_of_getElem? hx2) s1 Q2 fun H3 s3 => ?_⟩
  · show ((σ.set i none).set i (some x)).set i none = σ.set i none
    rw [List.set_set, List.set_set]
  · have e2 : xs.getD k .non = x := by rw [List.getD_eq_getElem?_getD, hx2]; rfl
    have := h2 H3 s3
    rw [e2] at this
    exact this
/-- the same, drawing from a bag -/
theorem lc_draw {J : It} {n : Nat} {G : Hp → Prop} {Y : Nat → Hp → V → Hp → Prop} (w : Walk J n G Y) {te : TE} {i : Nat} {σ : L2.St} {H1 : Hp} {D b c : Addr} {Qd : Hp → Prop} (Φ : Hp → V → Prop) (mono : ∀ G G' v, Same G G' → Φ G v → Φ G' v) (hD : H1 D = none) (hB : Bag H1 b c) (hn : n ≤ 1000000)
    (hY : ∀ k H x H', Y k H x H' → H' = H) (hG : ∀ H, Kp b H1 H → G H)
    (hs : ∀ x H, Kp b H1 H → Bag H b c → ∀ Q2 : V → Hp → Prop, (∀ v H3, Bag H3 b c → Kp b H H3 → Φ (nw H H3) v → Q2 v H3) → te ((wipe σ [i]).set i (some x)) H Q2)
    (hq : ∀ H' ys, Bag H' b c → Kp b H1 H' → H' D = some (.lst ys) → ys.length = n → (∀ v ∈ ys, Φ (nw (L2.upd H1 D (.lst [])) H') v) → Qd H') :
    ∃ W : Nat → Nat → Hp → Prop, (∃ m, W 0 m (L2.upd H1 D (.lst []))) ∧ ∀ i' m H, W i' m H →
      (J.stop i' H ∧ Qd H) ∨ (J.go i' H ∧ ∃ Nx : Hp → Prop, (∀ H', Nx H' → ∃ m', m' < m ∧ W (i' + 1) m' H') ∧ ∀ x H', J.yld i' H x H' → gName i x (wipe σ [i]) H' fun σ2 H2 => wipe σ2 [i] = wipe σ [i] ∧ tYes σ2 H2 fun b H3 =>
        if b = true then te σ2 H3 fun y H4 => ∃ acc, H4 D = some (.lst acc) ∧ acc.length < sizeLine ∧ Nx (L2.upd H4 D (.lst (acc ++ [y]))) else Nx H3) := by
  refine lc_bag w hD hB hn Φ mono hG (fun k x H H' hk s1 B1 y => ?_) (fun x σ0 H0 Q0 Q1 h q => h _ _ q) hq
  have e := hY _ _ _ _ y
  subst e
  refine ⟨Same.refl _, ?_, fun Q2 h2 => hs x H' s1 B1 Q2 h2⟩
  show ((σ.set i none).set i (some x)).set i none = σ.set i none
  rw [List.set_set, List.set_set]
def signsV (z : Str) : List V := z.cps.toList.map fun c => V.str ⟨#[c]⟩
theorem signsV_at {z : Str} : ∀ (k : Nat) (H : Hp) (x : V) (H' : Hp), (H' = H ∧ ∃ c, z.cps[k]? = some c ∧ x = V.str ⟨#[c]⟩) → H' = H ∧ (signsV z)[k]? = some x := by
  rintro k H x H' ⟨rfl, c, h, rfl⟩
  refine ⟨rfl, ?_⟩
  unfold signsV
  rw [List.getElem?_map, Array.getElem?_toList, h]
  rfl
theorem signsV_length (z : Str) : (signsV z).length = z.cps.size := by simp [signsV]
theorem all_map_id {α : Type} (p : α → Bool) (l : List α) : (l.map p).all id = l.all p := by
  rw [List.all_map]; rfl
end LK
namespace LK
open PySem PySem.Spec PyProof.Rows L2
/-- [p(c) for c in z], z a text -/
theorem lc_signs {z : Str} {te : TE} {i : Nat} {σ : L2.St} {H1 : Hp} {D : Addr} {Qd : Hp → Prop} (p : Nat → Bool) (hD : H1 D = none) (hz : z.length ≤ 1000000)
    (hs : ∀ c H, c ∈ z.cps.toList → Same H1 H → ∀ Q2 : V → Hp → Prop, (∀ H3, Same H H3 → Q2 (.bl (p c)) H3) → te ((wipe σ [i]).set i (some (.str ⟨#[c]⟩))) H Q2)
    (hq : ∀ H', Same H1 H' → H' D = some (.lst ((z.cps.toList.map p).map V.bl)) → Qd H') :
    ∃ W : Nat → Nat → Hp → Prop, (∃ m, W 0 m (L2.upd H1 D (.lst []))) ∧ ∀ i' m H, W i' m H →
      ((Its z).stop i' H ∧ Qd H) ∨ ((Its z).go i' H ∧ ∃ Nx : Hp → Prop, (∀ H', Nx H' → ∃ m', m' < m ∧ W (i' + 1) m' H') ∧ ∀ x H', (Its z).yld i' H x H' → gName i x (wipe σ [i]) H' fun σ2 H2 => wipe σ2 [i] = wipe σ [i] ∧ tYes σ2 H2 fun b H3 =>
        if b = true then te σ2 H3 fun y H4 => ∃ acc, H4 D = some (.lst acc) ∧ acc.length < sizeLine ∧ Nx (L2.upd H4 D (.lst (acc ++ [y]))) else Nx H3) := by
  refine lc_map walk_str (signsV z) (fun v => match v with | .str y => .bl (p (y.cps.toList.headD 0)) | _ => .non) hD hz (signsV_length z) (fun k H x H' _ y => signsV_at k H x H' y) (fun _ _ => trivial) (fun x H hx s1 Q2 h2 => ?_) (fun H' s h => hq H' s ?_)
  · obtain ⟨c, hc, rfl⟩ := List.mem_map.mp hx
    exact hs c H hc s1 Q2 h2
  · rw [h]
    unfold signsV
    rw [List.map_map, List.map_map]
    rfl
theorem starts_minus {z : Str} (h : Txt.startswith z "-" = true) : ∃ r, z.cps.toList = 45 :: r := by
  have h2 : PySem.StrLaws.At z "-" z.length 0 := by
    unfold Txt.startswith at h
    rw [Bool.and_eq_true] at h
    exact ⟨of_decide_eq_true h.1, h.2⟩
  have e : TL.tl "-" = [45] := by decide +kernel
  have q := (TL.at_iff (by rw [e]; simp) 0).mp h2
  rw [e, List.drop_zero] at q
  unfold TL.pre at q
  have q2 : z.cps.toList.take 1 = [45] := eq_of_beq q
  cases hz : z.cps.toList with
  | nil => rw [hz] at q2; simp at q2
  | cons c r => rw [hz] at q2; simp at q2; rw [q2]; exact ⟨r, rfl⟩
theorem cutS_tail (z : Str) : (cutS z (some 1) none).cps.toList = z.cps.toList.drop 1 := by
  unfold cutS
  have e1 := HT.sIx_nat z.length 0 1
  have l : z.length = z.cps.toList.length := by rw [Array.length_toList]; rfl
  show ((z.cps.toList.drop (HT.sIx z.length 0 (some ((1 : Nat) : Int)))).take (HT.sIx z.length z.length none - HT.sIx z.length 0 (some ((1 : Nat) : Int)))) = _
  rw [e1, HT.sIx_none]
  by_cases c : 1 ≤ z.length
  · rw [Nat.min_eq_left c, List.take_of_length_le (by rw [List.length_drop]; omega)]
  · rw [List.drop_eq_nil_of_le (by omega), List.drop_eq_nil_of_le (by omega)]
    simp
theorem len_cps (z : Str) : z.cps.toList.length = z.length := by rw [Array.length_toList]; rfl
end LK
namespace LK
theorem iteTT {c A B : Prop} [Decidable c] (hc : c) (h : A) : if c then A else B := by rw [if_pos hc]; exact h
theorem iteFF {c A B : Prop} [Decidable c] (hc : ¬ c) (h : B) : if c then A else B := by rw [if_neg hc]; exact h
end LK
namespace LK
open PySem PySem.Spec PyProof.Rows L2
theorem str_append (a b : Str) : (a ++ b).cps.toList = a.cps.toList ++ b.cps.toList := by
  show (a.cps ++ b.cps).toList = _
  exact Array.toList_append
theorem str_append_len (a b : Str) : (a ++ b).length = a.length + b.length := by
  rw [← len_cps, str_append, List.length_append, len_cps, len_cps]
theorem cutS_tail_len (z : Str) : (cutS z (some 1) none).length = z.length - 1 := by
  rw [← len_cps, cutS_tail, List.length_drop, len_cps]
theorem cutS_len (z : Str) (lo hi : Option Int) : (cutS z lo hi).length ≤ z.length := by
  rw [← len_cps, ← len_cps z]
  unfold cutS
  show (List.take _ (List.drop _ _)).length ≤ _
  rw [List.length_take, List.length_drop]
  omega
end LK
namespace LK
open PySem PySem.Spec PyProof.Rows L2
/-- [f(k) for k in range(n)] -/
theorem lc_rng {lo : Int} {n : Nat} {te : TE} {i : Nat} {σ : L2.St} {H1 : Hp} {D : Addr} {Qd : Hp → Prop} (f : Int → V) (hD : H1 D = none) (hn : n ≤ 1000000)
    (hs : ∀ (k : Nat) H, k < n → Same H1 H → ∀ Q2 : V → Hp → Prop, (∀ H3, Same H H3 → Q2 (f (lo + (k : Int))) H3) → te ((wipe σ [i]).set i (some (.int (lo + (k : Int))))) H Q2)
    (hq : ∀ H', Same H1 H' → H' D = some (.lst ((List.range n).map fun (k : Nat) => f (lo + (k : Int)))) → Qd H') :
    ∃ W : Nat → Nat → Hp → Prop, (∃ m, W 0 m (L2.upd H1 D (.lst []))) ∧ ∀ i' m H, W i' m H →
      ((Itr lo n).stop i' H ∧ Qd H) ∨ ((Itr lo n).go i' H ∧ ∃ Nx : Hp → Prop, (∀ H', Nx H' → ∃ m', m' < m ∧ W (i' + 1) m' H') ∧ ∀ x H', (Itr lo n).yld i' H x H' → gName i x (wipe σ [i]) H' fun σ2 H2 => wipe σ2 [i] = wipe σ [i] ∧ tYes σ2 H2 fun b H3 =>
        if b = true then te σ2 H3 fun y H4 => ∃ acc, H4 D = some (.lst acc) ∧ acc.length < sizeLine ∧ Nx (L2.upd H4 D (.lst (acc ++ [y]))) else Nx H3) := by
  refine lc_map walk_range ((List.range n).map fun (k : Nat) => V.int (lo + (k : Int))) (fun v => match v with | .int j => f j | _ => .non) hD hn (by rw [List.length_map, List.length_range]) (fun k H x H' hk y => ?_) (fun _ _ => trivial) (fun x H hx s1 Q2 h2 => ?_) (fun H' s h => hq H' s ?_)
  · refine ⟨y.1, ?_⟩
    rw [List.getElem?_map, List.getElem?_range hk, y.2]
    rfl
  · obtain ⟨k, hk, rfl⟩ := List.mem_map.mp hx
    exact hs k H (List.mem_range.mp hk) s1 Q2 h2
  · rw [h, List.map_map]
    rfl
end LK
namespace LK
open PySem PySem.Spec PyProof.Rows L2
section
variable {X : Cx} {K : PySem.W.Frag}
theorem call_isiDK (hK : X.K = K) : CallR X (.builtin "isinstance") (fun xs H Q => ∃ x T d, xs = [x, .ty T] ∧ Dp K H x d ∧ T ∈ ["str", "int", "bool", "list", "tuple"] ∧ Q (.bl (isTy T d)) H) := by
  subst hK
  exact call_isiD
end
end LK
namespace LK
open PySem PySem.Spec PyProof.Rows L2
section
variable {X : Cx}
/-- tuple(x) of a list: a new tuple -/
theorem call_tupleN : CallR X (.type "tuple") (fun xs H Q => ∃ p ys, xs = [.ref p] ∧ SqL X.K H p ys ∧ ∀ q H', Same H H' → H q = none → H' q = some (.tup ys) → Q (.ref q) H') := cr_imp call_tuple_of fun xs H Q h => by
  obtain ⟨p, ys, rfl, h, q⟩ := h
  exact ⟨p, ys, rfl, .inl ⟨h, fun l hl => q l _ (same_upd hl) hl upd_same⟩⟩
end
theorem strs_of {m : Nat} : ∀ {l : List V}, (∀ v ∈ l, ∃ z, v = V.str z ∧ z.length ≤ m) → ∃ zs : List Str, l = zs.map V.str ∧ ∀ z ∈ zs, z.length ≤ m
  | [], _ => ⟨[], rfl, fun z h => absurd h (by simp)⟩
  | v :: l, h => by
    obtain ⟨z, rfl, hz⟩ := h v List.mem_cons_self
    obtain ⟨zs, rfl, hzs⟩ := strs_of (l := l) fun v hv => h v (List.mem_cons_of_mem _ hv)
    refine ⟨z :: zs, rfl, fun y hy => ?_⟩
    rcases List.mem_cons.mp hy with rfl | hy
    · exact hz
    · exact hzs y hy
theorem sum_le {m : Nat} : ∀ {zs : List Str}, (∀ z ∈ zs, z.length ≤ m) → (zs.map (·.length)).sum ≤ zs.length * m
  | [], _ => by simp
  | z :: zs, h => by
    rw [List.map_cons, List.sum_cons, List.length_cons, Nat.succ_mul]
    have h1 := h z List.mem_cons_self
    have h2 := sum_le (zs := zs) fun y hy => h y (List.mem_cons_of_mem _ hy)
    omega
end LK
namespace LK
open PySem PySem.Spec PyProof.Rows L2
theorem joinL_len (S : List Nat) : ∀ ps : List (List Nat), (TL.joinL S ps).length ≤ (ps.map List.length).sum + ps.length * S.length
  | [] => by simp [TL.joinL]
  | [p] => by simp [TL.joinL]
  | p :: q :: r => by
    have ih := joinL_len S (q :: r)
    show (p ++ (S ++ TL.joinL S (q :: r))).length ≤ _
    rw [List.length_append, List.length_append, List.map_cons, List.sum_cons, List.length_cons, Nat.succ_mul]
    omega
theorem join_len (y : Str) (zs : List Str) : (Txt.join y zs).length ≤ (zs.map (·.length)).sum + zs.length * y.length := by
  rw [TL.join_eq, ← len_cps]
  have e := TL.tl_join y zs
  show (TL.tl (Str.join y zs)).length ≤ _
  rw [e]
  refine Nat.le_trans (joinL_len _ _) ?_
  rw [List.map_map, List.length_map]
  have e1 : ((zs.map (List.length ∘ TL.tl))) = zs.map (·.length) := List.map_congr_left fun z _ => len_cps z
  rw [e1]
  show _ + zs.length * (y.cps.toList).length ≤ _
  rw [len_cps]
  exact Nat.le_refl _
/-- the list that lc_draw has made, as texts -/
theorem kp_new {b c : Addr} {H H1 : Hp} (B : Bag H b c) (s : Same H H1) : Kp b H H1 ∧ Bag H1 b c := ⟨Kp.of s, B.same s⟩
theorem hb_new {b c p : Addr} {H H1 : Hp} {o : HO} (B : Bag H b c) (h0 : H p = none) (h1 : H1 p = some o) : hb H1 b p = some o := by
  have n : p ≠ b := fun e => by
    obtain ⟨xs, q⟩ := B.at
    rw [e, q] at h0; cases h0
  rw [hb_ne n]; exact h1
end LK
namespace LK
open PySem PySem.Spec PyProof.Rows L2
def isIntV : V → Bool
  | .int _ => true
  | _ => false
theorem ints_of {l : List V} (h : l.all isIntV = true) : ∀ y ∈ l, ∃ i, y = V.int i := fun y hy => by
  have q := List.all_eq_true.mp h y hy
  cases y <;> first | exact ⟨_, rfl⟩ | simp [isIntV] at q
end LK
namespace LK
open PySem PySem.Spec PyProof.Rows L2
theorem nx_op {t : TS} {D : Ends} {σ : L2.St} {H : Hp} (h : ∀ N : L2.St → Hp → Prop, (∀ σ' H', D.nx σ' H' → N σ' H') → t { D with nx := N } σ H) : t D σ H := h D.nx fun _ _ z => z
/-- a test that changes nothing and whose answer does not matter -/
theorem if_any {c : TT} {t u : TS} {D : Ends} {σ : L2.St} {H : Hp} (hc : ∀ K : Bool → Hp → Prop, (∀ b, K b H) → c σ H K) (hA : t D σ H) (hB : u D σ H) : tIfS c t u D σ H := hc _ fun b => by
  cases b
  · exact iteFF (by decide) hB
  · exact iteTT rfl hA
end LK
namespace LK
open PySem PySem.Spec PyProof.Rows L2
theorem if_anyS {c : TT} {t u : TS} {D : Ends} {σ : L2.St} {H : Hp} (hc : ∀ K : Bool → Hp → Prop, (∀ b H1, Same H H1 → K b H1) → c σ H K) (hA : ∀ H1, Same H H1 → t D σ H1) (hB : ∀ H1, Same H H1 → u D σ H1) : tIfS c t u D σ H := hc _ fun b H1 s => by
  cases b
  · exact iteFF (by decide) (hB H1 s)
  · exact iteTT rfl (hA H1 s)
end LK
namespace LK
open PySem PySem.Spec PyProof.Rows L2
theorem if_of {c : TT} {t u : TS} {D : Ends} {σ : L2.St} {H : Hp} (R : Bool → Prop) (hc : ∀ K : Bool → Hp → Prop, (∀ b H1, R b → Same H H1 → K b H1) → c σ H K) (hA : ∀ H1, R true → Same H H1 → t D σ H1) (hB : ∀ H1, R false → Same H H1 → u D σ H1) : tIfS c t u D σ H := hc _ fun b H1 r s => by
  cases b
  · exact iteFF (by decide) (hB H1 r s)
  · exact iteTT rfl (hA H1 r s)
end LK

set_option Elab.async false
set_option linter.all false
set_option maxRecDepth 100000
set_option maxHeartbeats 4000000
/-! ### fields of an own exception whose row of bases ends in tl -/
namespace LK
open PySem PySem.W PySem.Calls PyProof.Rows PySem.HandSPX Builtin Builtin.ObjectAttr
/-- own classes, then tl -/
def Refs (tl l : List Value) : Prop := ∃ cs : List Addr, l = cs.map Value.ref ++ tl
theorem Refs.cons {tl l : List Value} (h : Refs tl l) (C : Addr) : Refs tl (.ref C :: l) := by
  obtain ⟨cs, rfl⟩ := h
  exact ⟨C :: cs, rfl⟩
theorem Refs.contains {tl l : List Value} (h : Refs tl l) (X : String) : l.contains (.type X) = tl.contains (.type X) := by
  obtain ⟨cs, rfl⟩ := h
  induction cs with
  | nil => rfl
  | cons c cs ih => simpa [List.contains_cons] using ih
theorem Refs.passes {tl l : List Value} (h : Refs tl l) {self : Value} (p : refuseLoop self "__setattr__" tl = pure ()) : refuseLoop self "__setattr__" l = pure () := by
  obtain ⟨cs, rfl⟩ := h
  induction cs with
  | nil => exact p
  | cons c cs ih => exact (refuseLoop_ref self "__setattr__" c _).trans ih
theorem Refs.full {tl l : List Value} (h : Refs tl l) (n : tl.isEmpty = false) : l.isEmpty = false := by
  obtain ⟨cs, rfl⟩ := h
  cases cs with
  | nil => exact n
  | cons _ _ => rfl
section
variable {prog : Program} {w : World} {A : Around} {R : Result → Shared → Prop} {hp : Heap} {g : Array GenState} {d : Drawn} {t : Nat} {os : OsState}
/-- object.__setattr__ on it comes to the storing in its own dict -/
theorem store_own {B : String} {tl : List Value} (SF : StoreFacts B tl "object.__setattr__" "object") (tn : tl.isEmpty = false) (to : tl.contains (.type "object") = true) {K : W.Frag} {name : Str} {tk : Tok} {v : Value} {x C : Addr} {od : Option Obj} {ox : Obj} {cd : ClassData}
    (X : K.In hp) (I : W.InstAt hp x ox C od) (hcd : W.clsIn K C = some cd) (hm : Refs tl cd.mro) (ha : W.findIn K (.ref C) name = some none)
    (hq : wpAny (model prog w) A.in1 (storeInOwnDict (.ref x) (.ref C) (.str name tk) name v false) (fun fin s' => match fin with | .done f => R (.ok f) s' | .again c' => c'.quiet = true ∧ codeAny (model prog w) A c' R s') (fun e s' => R (.error e) s') ⟨hp, g, d, t, os⟩) :
    codeAny (model prog w) A (.call (.builtin "object.__setattr__") ⟨[.ref x, .str name tk, v], []⟩) R ⟨hp, g, d, t, os⟩ := by
  have Fo := F.store_object
  have inMro : W.mroIn K C (.type "object") = some true := by
    unfold W.mroIn
    rw [hcd, Option.bind_some, if_neg (by rw [hm.full tn]; decide), hm.contains, to]
  have isObj : W.Looks (model prog w) hp (isInstance (.ref x) (.type "object")) true := I.type.andThen (W.looks_mroIn X inMro)
  have look : W.Looks (model prog w) hp (mroOf (.ref C)) cd.mro := (W.looks_clsIn X hcd).andThen .now
  have taker : W.Looks (model prog w) hp (storeTaker? none) none := .now
  refine codeAny_call_builtin Fo.slot.plain Fo.entry (W.check_slot (M := model prog w) (s := ⟨hp, g, d, t, os⟩) (i := "object.__setattr__") (owner := "object") (n := "__setattr__") (self := .ref x) (rest := [.str name tk, v]) (kw := []) Fo.kind Fo.split isObj (Fo.args _ _ _) ?_)
  rw [W.osa_eq, refuse_eq]
  refine wpAny_bind (wpAny_bind (I.type.at (wpAny_bind (look.at ?_))))
  rw [hm.passes (SF.passes _)]
  exact wpAny_pure (wpAny_bind (I.type.at (wpAny_bind ((W.looks_findIn X ha).at (wpAny_bind (taker.at hq))))))
/-- the first field: a new dict -/
theorem put_new {K : W.Frag} {name : Str} {tk : Tok} {v : Value} {x C : Addr} {fv : Array Value} {cd : ClassData} {Q : Fin → Shared → Prop} {E : Value → Shared → Prop} (X : K.In hp) (hx : hp.get? x = some { cls := .ref C, data := .fields fv }) (hcd : W.clsIn K C = some cd) (hh : cd.hasDict = true)
    (hq : ∀ h' tk' dx, (∀ b o, b ≠ x → hp.get? b = some o → h'.get? b = some o) → hp.objs.size ≤ dx → dx ≠ x → h'.get? x = some { cls := .ref C, dict := some dx, data := .fields fv } → h'.Ns1 dx (fun y => if y = name then some v else none) → Q (.done (.ret .none)) ⟨h', g, d, tk', os⟩) :
    wpAny (model prog w) A (storeInOwnDict (.ref x) (.ref C) (.str name tk) name v false) Q E ⟨hp, g, d, t, os⟩ := by
  have far : x ≠ hp.objs.size := Nat.ne_of_lt (Heap.lt_size hx)
  have cls : W.Looks (model prog w) hp (classData C) cd := W.looks_clsIn X hcd
  cases cd with | mk c1 c2 c3 c4 c5 c6 c7 c8 c9 c10 c11 =>
  cases (show c6 = true from hh)
  unfold storeInOwnDict ownDictForStores
  repeat (first | with_reducible refine HandSPX.store_in_new ?_ ?_ | with_reducible refine wpAny_loadPart_at hx ?_ | with_reducible refine cls.at ?_ | wp_step)
  · exact ⟨_, #[], _, Eq.trans (Heap.get?_update_ne _ _ _ _ far.symm) (Heap.get?_push_at rfl rfl), rfl, (fun e he => by simp at he), fun _ => rfl⟩
  · intro h' tk' ns same
    have keepx := Heap.get?_push_of_some { cls := .type "dict", data := .dict #[] } hx
    have kept : ∀ b o, b ≠ x → hp.get? b = some o → h'.get? b = some o := fun b o nb e => by
      rw [same.2 b (Nat.ne_of_lt (Heap.lt_size e)), Heap.get?_update_ne _ _ _ _ nb]
      exact Heap.get?_push_of_some _ e
    exact hq h' tk' hp.objs.size kept (Nat.le_refl _) far.symm ((same.2 x far).trans (Heap.get?_update_self _ keepx rfl)) ns
/-- a further one -/
theorem put_old {K : W.Frag} {name : Str} {tk : Tok} {v : Value} {x C dx : Addr} {fv : Array Value} {cd : ClassData} {m0 : Str → Option Value} {nl : List Str} {Q : Fin → Shared → Prop} {E : Value → Shared → Prop} (X : K.In hp) (hx : hp.get? x = some { cls := .ref C, dict := some dx, data := .fields fv }) (hns : hp.Ns1 dx m0) (hw : Within m0 nl) (hz : nl.length ≤ 1000) (hcd : W.clsIn K C = some cd) (hh : cd.hasDict = true)
    (hq : ∀ h' tk', (∀ b o, b ≠ dx → hp.get? b = some o → h'.get? b = some o) → h'.Ns1 dx (fun y => if y = name then some v else m0 y) → Q (.done (.ret .none)) ⟨h', g, d, tk', os⟩) :
    wpAny (model prog w) A (storeInOwnDict (.ref x) (.ref C) (.str name tk) name v false) Q E ⟨hp, g, d, t, os⟩ := by
  have cls : W.Looks (model prog w) hp (classData C) cd := W.looks_clsIn X hcd
  cases cd with | mk c1 c2 c3 c4 c5 c6 c7 c8 c9 c10 c11 =>
  cases (show c6 = true from hh)
  unfold storeInOwnDict ownDictForStores
  repeat (first | with_reducible refine OEX.store_in_old hns hw hz ?_ | with_reducible refine wpAny_loadPart_at hx ?_ | with_reducible refine cls.at ?_ | wp_step)
  exact fun h' tk' ns same => hq h' tk' (fun b o nb e => (same.2 b nb).trans e) ns
end
end LK

set_option Elab.async false
set_option linter.all false
set_option maxRecDepth 100000
set_option maxHeartbeats 4000000
namespace LK
open PySem PySem.Spec PyProof.Rows L2
/-- what the head tells of an own exception class, its row of bases ending in tl -/
structure OexM (K : PySem.W.Frag) (C : Addr) (newId : String) (tl : List Value) : Prop where
  cls : ∃ nm q N bs bm sn sub ab col dd k0 k1 k2 k3 k5, K.lookup C = some (excClassObj nm q C N bs bm true sn sub ab col dd k0 k1 k2 k3 k5 newId) ∧ Refs tl bm
  sa : PySem.W.findIn K (.ref C) "__setattr__" = some (some (.builtin "object.__setattr__"))
  exC : PySem.W.subIn K (.ref C) (.type "BaseException") = some true
  tyC : PySem.W.typeIn K (.ref C) = some (.type "type")
  kC : PySem.W.keepIn K (.ref C) = true
/-- what a base itself has -/
structure Base (B newId initId : String) (tl : List Value) : Prop where
  ex : ExcBaseFacts B newId initId tl
  st : StoreFacts B tl "object.__setattr__" "object"
  ne : tl.isEmpty = false
  ob : tl.contains (.type "object") = true
abbrev leTail : List Value := [.type "LookupError", .type "Exception", .type "BaseException", .type "object"]
theorem baseLE : Base "LookupError" "LookupError.__new__" "LookupError.__init__" leTail := ⟨PySem.F.excBase_LookupError, PySem.F.store_LookupError, rfl, by decide +kernel⟩
theorem OexM.cdata {K : PySem.W.Frag} {C : Addr} {newId : String} {tl : List Value} (T : OexM K C newId tl) : ∃ cd, PySem.W.clsIn K C = some cd ∧ cd.hasDict = true ∧ Refs tl cd.mro := by
  obtain ⟨nm, q, N, bs, bm, sn, sub, ab, col, dd, k0, k1, k2, k3, k5, hC, hbm⟩ := T.cls
  refine ⟨_, by unfold PySem.W.clsIn; rw [hC] <;> rfl, rfl, hbm.cons C⟩
section
variable {X : Cx} {pins : List (Addr × Obj)} {σ : L2.St} {H : Hp} {s : Shared} {a C dx : Addr} {f : Str} {y : V} {u : Value} {fs : List (Str × V)} {Q : Unit → Shared → Prop} {E : Value → Shared → Prop} {A : Around} {B newId initId : String} {tl : List Value}
theorem set_new (F : Base B newId initId tl) (T : OexM X.K C newId tl) (I : Inv X pins σ H s) (e : H a = some (exo a C none)) (hno : PySem.W.findIn X.K (.ref C) f = some none) (ry : RelV y u)
    (h : ∀ dx s', H dx = none → dx ≠ a → Inv X pins σ (L2.upd (L2.upd H dx (exd dx [(f, y)])) a (exo a C (some dx))) s' → Q () s') : wpAny (model X.prog X.w) A (setAttr (.ref a) f u) Q E s := by
  obtain ⟨cd, hcl, hd, hm⟩ := T.cdata
  obtain ⟨t1, ho⟩ := exo_at I.hok e
  obtain ⟨hp, g, d, t, os⟩ := s
  have J : PySem.W.InstAt hp a { cls := .ref C, dict := none, data := .fields #[.ref t1, .none, .none, .none, .bool false, .none] } C none := ⟨ho, rfl, rfl, trivial⟩
  refine PySem.W.set_plain I.kIn J T.sa (store_own F.st F.ne F.ob I.kIn J hcl hm hno (put_new I.kIn ho hcl hd fun h' tk' dx kept fresh nx at_ ns => ?_))
  have hnd : H dx = none := I.hok.fresh fresh
  have off : ∀ {b : Addr} {o : Obj}, hp.get? b = some o → b ≠ dx := fun {b o} q => Nat.ne_of_lt (Nat.lt_of_lt_of_le (Heap.lt_size q) fresh)
  have nota : ∀ {b : Addr}, H b = none → b ≠ a := fun {b} n z => by rw [z, e] at n; cases n
  have through : ∀ {b : Addr} {o : HO}, H b = some o → o ≠ exo a C none → L2.upd (L2.upd H dx (exd dx [(f, y)])) a (exo a C (some dx)) b = some o := fun {b o} q ne => by
    rw [upd_ne (at_ne e q ne.symm), upd_ne (ne_of_none q hnd)]
    exact q
  have U : Un X.fs [] H (L2.upd (L2.upd H dx (exd dx [(f, y)])) a (exo a C (some dx))) hp h' := {
    keep := fun b o q n _ _ => kept b o (nota n) q
    slot := fun b o q n _ _ => ⟨o.slots, kept b o (nota n) q⟩
    free := fun b o q n _ => (upd_ne (nota n)).trans ((upd_ne (off q)).trans n)
    there := fun b o q _ => if hb : b = a then ⟨_, hb ▸ at_⟩ else ⟨o, kept b o hb q⟩
    tups := fun b xs q => through q fun z => exo_tup z.symm
    frzs := fun b o v q => through q fun z => exo_frz z.symm
    tbls := fun b ps q => ⟨#[], by rw [through q fun z => exo_tbl z.symm]; simp⟩ }
  refine h dx _ hnd nx (I.un (t' := tk') U fun b o q => ?_)
  by_cases hb : b = a
  · rw [hb, upd_same] at q
    rw [hb]
    cases q
    exact exo_ok at_
  · rw [upd_ne hb] at q
    by_cases hx : b = dx
    · rw [hx, upd_same] at q
      rw [hx]
      cases q
      exact exd_ok ns (relO_put (fs := []) ry fun g => True.intro)
    · rw [upd_ne hx] at q
      refine (I.hok b o q).stay (fun c v hc z => kept c v ?_ z) (fun c hc => through hc fun z => exo_own z.symm) (fun c xs hc => through hc fun z => exo_tup z.symm)
      rcases hc with rfl | hc
      · exact hb
      · exact at_ne e hc exo_own
theorem set_old (F : Base B newId initId tl) (T : OexM X.K C newId tl) (I : Inv X pins σ H s) (e : H a = some (exo a C (some dx))) (ed : H dx = some (exd dx fs)) (hl : fs.length ≤ 900) (hno : PySem.W.findIn X.K (.ref C) f = some none) (ry : RelV y u)
    (h : ∀ s', Inv X pins σ (L2.upd H dx (exd dx ((f, y) :: fs))) s' → Q () s') : wpAny (model X.prog X.w) A (setAttr (.ref a) f u) Q E s := by
  obtain ⟨cd, hcl, hd, hm⟩ := T.cdata
  obtain ⟨t1, ho⟩ := exo_at I.hok e
  obtain ⟨mA, hns, rel⟩ := exd_at I.hok ed
  have hw := within_of rel
  obtain ⟨hp, g, d, t, os⟩ := s
  obtain ⟨oD, _, _, hoD, _⟩ := hns.count hw
  have J : PySem.W.InstAt hp a { cls := .ref C, dict := some dx, data := .fields #[.ref t1, .none, .none, .none, .bool false, .none] } C (some oD) := ⟨ho, rfl, rfl, hoD⟩
  refine PySem.W.set_plain I.kIn J T.sa (store_own F.st F.ne F.ob I.kIn J hcl hm hno (put_old I.kIn ho hns hw (by rw [List.length_map]; omega) hcl hd fun h' tk' kept ns => h _ ?_))
  obtain ⟨o2, es, ep, at2, r2⟩ := id ns
  exact I.write (t' := tk') (x := dx) (e := dx) (o := exd dx ((f, y) :: fs)) (by rw [ed]; exact True.intro) (.inl rfl) kept ⟨o2, at2⟩ (exd_ok ns (relO_put ry rel))
end
/-- self.f = e -/
def tOstM (K : PySem.W.Frag) (newId : String) (tl : List Value) (f : Str) (to te : TE) : TS := fun D σ H => te σ H fun y H1 => to σ H1 fun x H2 => ∃ a C : Addr, x = .ref a ∧ OexM K C newId tl ∧ PySem.W.findIn K (.ref C) f = some none ∧
  ((H2 a = some (exo a C none) ∧ ∀ dx, H2 dx = none → dx ≠ a → D.nx σ (L2.upd (L2.upd H2 dx (exd dx [(f, y)])) a (exo a C (some dx)))) ∨
    ∃ (dx : Addr) (fs : List (Str × V)), H2 a = some (exo a C (some dx)) ∧ H2 dx = some (exd dx fs) ∧ fs.length ≤ 900 ∧ D.nx σ (L2.upd H2 dx (exd dx ((f, y) :: fs))))
section
variable {X : Cx} {o e : Expr} {es : List Expr} {to te : TE} {ta : TA} {f : Str} {p p' p1 p2 pos : Pos} {B newId initId : String} {tl : List Value}
theorem ps_ostM (F : Base B newId initId tl) (ho : PE X o to) (he : PE X e te) (hs : swapsWith e (some (.Attribute o f p')) pos.line X.env = pure false := by rfl) : PS X (.Assign [.Attribute o f p'] e pos) (tOstM X.K newId tl f to te) := by
  refine ⟨fun pins s σ H D I h => plainObj_wpAny_Assign_Attribute (thn (he.run pins s σ H _ I h) fun v s1 q => ?_) hs⟩
  obtain ⟨y, H1, I1, r1, q1⟩ := q
  refine thn (ho.run pins s1 σ H1 _ I1 q1) fun u s2 q => ?_
  obtain ⟨x, H2, I2, r2, a, C, rfl, T, hno, q⟩ := q
  cases (show u = Value.ref a from r2)
  rcases q with ⟨ea, q⟩ | ⟨dx, fs, ea, ed, hl, q⟩
  · exact set_new F T I2 ea hno r1 fun dx s' n ne J => ⟨σ, _, J, q dx n ne⟩
  · exact set_old F T I2 ea ed hl hno r1 fun s' J => ⟨σ, _, J, q⟩
/-- C(e, ..) of such a class, C's own __init__ keeping sp -/
theorem pmk_oexM (F : Base B newId initId tl) {CX : CXT} {x : Str} {C fI : Addr} {k : Nat} {fd : FuncData} {ps : List Str} {sp : Sp} {ds : List Value} {dvs : List V} (T : OexM X.K C newId tl) (iC : PySem.W.findIn X.K (.ref C) "__init__" = some (some (.ref fI))) (tI : PySem.W.typeIn X.K (.ref fI) = some (.type "function"))
    (F1 : FnOk X.prog X.w X.K X.mg X.base CX k fI fd ps sp) (hr : Room (k + 1) X.A) (hb : Binds X.K fd ps ds) (hd : Vals dvs ds) (hx : Passes CX X (fun _ _ _ => False)) (hg : Gl X x) (hm : X.mg x = some (.ref C)) (ha : PA X (e :: es) ta)
    (hdb : (x == ("__debug__" : Str)) = false := by decide) (he : starEach (e :: es) X.env = (false, eval e X.env) :: starEach es X.env := by rfl) (hpl : (backTo pos (starEach es X.env)).any (·.1) = false := by rfl) :
    PMk X (.Call (.Name x p) (e :: es) [] pos) (tMkO C sp dvs ta) := by
  intro pins s σ H Q I h
  obtain ⟨nm, q, N, bs, bm, sn, sub, ab, col, dd, k0, k1, k2, k3, k5, hC, hbm⟩ := T.cls
  refine wpAny_Call_Name_kw (ld_glob I hg hm ?_ hdb)
  refine PySem.W.callWith_K (h₀ := X.base) I.ok.mod.kin T.kC (thn (ha.run pos pins s σ H _ I h) fun us s1 q1 => ?_) he hpl
  obtain ⟨vs, H1, I1, r1, hz, q1⟩ := q1
  refine ⟨I1.kIn, ?_⟩
  show wpAny _ _ (call (.ref C) us) _ _ _
  obtain ⟨hp, g, dr, tk, os⟩ := s1
  generalize hA : hp.objs.size + 1 = a at *
  have hsz : hp.objs.size ≤ a := by rw [← hA]; exact Nat.le_succ _
  have hq := q1 a (I1.hok.fresh hsz)
  have at_ : ((hp.push (PySem.W.kdv_tup us)).push (PySem.HandSPX.excO C hp.objs.size)).get? a = some (PySem.HandSPX.excO C hp.objs.size) := by rw [← hA]; heap_get
  have I2 : Inv X pins σ (L2.upd H1 a (exo a C none)) ⟨(hp.push (PySem.W.kdv_tup us)).push (PySem.HandSPX.excO C hp.objs.size), g, dr, tk, os⟩ :=
    I1.laid (t' := tk) (a := a) (o := exo a C none) (fun b o e => Heap.get?_push_of_some _ (Heap.get?_push_of_some _ e)) hsz (exo_ok at_)
  have r2 : Vals (V.ref a :: (vs ++ dvs)) (Value.ref a :: (us ++ ds)) := .cons rfl (r1.append hd)
  have many : us.length ≤ sizeLine := by
    have l := Paired.length r1
    have b : (1000 : Nat) ≤ sizeLine := by decide
    omega
  have run := F1.run _ X.stack _ _ ⟨Value.ref a :: us, []⟩ (Value.ref a :: (us ++ ds)) _ _ (fun _ _ _ => False) (hr.make C us []) (I2.env0.make C us []) (hb _ (Value.ref a :: us) I2.kIn (r2.length.symm.trans (F1.len _ _ _ _ hq))) r2 hq
  subst hA
  refine wpAny_call (PySem.HandSPX.call_own F.ex (fun Y => hbm.contains Y) (I1.kIn _ _ hC) (PySem.W.looks_findIn I1.kIn iC) (fun self => PySem.W.bind_fn I1.kIn self tI) many (codeAny_mono run fun r s' hq' => ?_))
  match r, hq' with
  | .error er, z => exact hx pins σ _ _ er s' I2 z
  | .ok .next, z => exact z.elim
  | .ok .brk, z => exact z.elim
  | .ok .cont, z => exact z.elim
  | .ok (.ret u), ⟨v, H2, os2, bare2, un2, hok2, rv, ev, d, fs, ea, ed, hd1, q2⟩ =>
    subst ev
    exact ⟨rv, mk_end (raises_own T.exC T.tyC) I1 hsz (fun b o e => Heap.get?_push_of_some _ (Heap.get?_push_of_some _ e)) un2 hok2 os2 bare2 ea ed hd1 q2⟩
end
end LK

set_option Elab.async false
set_option linter.all false
set_option maxRecDepth 100000
namespace PySem
open Sem (wp)
open AutoSeq1 (wpAny_loadPart')
/-! ### enumerate of a tuple -/
theorem meets_enumerate_newT (l : Addr) (items : Array Value) (n : Nat) (dct : Option Addr) (sl : Array (Option Value)) :
    Meets (Builtin.«enumerate.__new__» ⟨[.type "enumerate", .ref l], []⟩) (fun _ R s => s.heap.get? l = some { cls := .type "tuple", dict := dct, data := .seq items n, slots := sl } ∧
      R (.ok (.ret (.ref (s.heap.push { cls := .type "tuple_iterator", data := .fields #[.ref l, .int 0 0] }).objs.size)))
        { s with heap := (s.heap.push { cls := .type "tuple_iterator", data := .fields #[.ref l, .int 0 0] }).push { cls := .type "enumerate", data := .fields #[.none, .bool false, .ref s.heap.objs.size, rawInt 0, .none, .none] } }) :=
  .of_wp fun prog w A R s h => by
    obtain ⟨hp, g, d, tk, os⟩ := s; obtain ⟨hl, h⟩ := h
    have hsub := sub_enumerate
    have hL : Heap.IsTuple (Shared.heap ⟨hp, g, d, tk, os⟩) l items := ⟨_, hl, rfl, n, rfl⟩
    wp_walk using wpAny_loadPart' hl
    refine wpAny_stack_any fun st => wpAny_pure ?_
    split
    · rename_i c _ _ _ _ _
      cases (c == Value.type "enumerate")
      · wp_walk using wpAny_loadPart' hl, wpAny_pyIter_tuple hL
        exact ⟨_, rfl, h⟩
      · wp_walk using wpAny_loadPart' hl, wpAny_pyIter_tuple hL
        exact ⟨_, rfl, h⟩
    · wp_walk using wpAny_loadPart' hl, wpAny_pyIter_tuple hL
      exact ⟨_, rfl, h⟩
theorem call_enumerate_tuple {prog : Program} {w : World} {A : Around} {E : Value → Shared → Prop} {s : Shared} {l : Addr} {items : Array Value} {Q : Value → Shared → Prop} (hL : s.heap.IsTuple l items)
    (h : ∀ h', IsEnum h' (s.heap.objs.size + 1) s.heap.objs.size 0 .none → h'.IsTupleIter s.heap.objs.size l 0 → h'.objs.size = s.heap.objs.size + 2 →
      (∀ b o, s.heap.get? b = some o → h'.get? b = some o) → Q (.ref (s.heap.objs.size + 1)) { s with heap := h' }) :
    wpAny (model prog w) A (call (.type "enumerate") [.ref l]) Q E s := by
  obtain ⟨⟨c, dct, dt, sl⟩, hl, hc, n, hd⟩ := hL
  replace hc : c = .type "tuple" := hc
  replace hd : dt = .seq items n := hd
  subst hc hd
  refine callType_new F.called_enumerate (by decide) (F.typeCall_enumerate_1 _) (F.newCall_enumerate_1 _) (fun obj => F.args_object_init_2 obj _) F.entry_enumerate_new
    (meets_enumerate_newT l items n dct sl) ⟨hl, ?_⟩
  have hz : (s.heap.push { cls := .type "tuple_iterator", data := .fields #[.ref l, .int 0 0] }).objs.size = s.heap.objs.size + 1 := Heap.size_push ..
  show _ ∧ _
  rw [hz]
  have he : IsEnum ((s.heap.push { cls := .type "tuple_iterator", data := .fields #[.ref l, .int 0 0] }).push
      { cls := .type "enumerate", data := .fields #[.none, .bool false, .ref s.heap.objs.size, rawInt 0, .none, .none] }) (s.heap.objs.size + 1) s.heap.objs.size 0 .none := by
    have := Heap.get?_push_size (s.heap.push { cls := .type "tuple_iterator", data := .fields #[.ref l, .int 0 0] })
      (o := { cls := .type "enumerate", data := .fields #[.none, .bool false, .ref s.heap.objs.size, rawInt 0, .none, .none] }) rfl
    rw [hz] at this; exact this
  refine ⟨⟨_, he, rfl⟩, h _ he ⟨_, Heap.get?_push_of_some _ (Heap.get?_push_size _ rfl), rfl, rfl⟩ (by rw [Heap.size_push, hz]) fun b o x => Heap.get?_push_of_some _ (Heap.get?_push_of_some _ x)⟩
end PySem
namespace LK
open PySem PySem.Spec PyProof.Rows L2
def Itet (K : PySem.W.Frag) (a : Addr) : It :=
  ⟨fun i H => ∃ (xs : List V) (x : V), SqT K H a xs ∧ xs[i]? = some x, fun i H v H' => ∃ T x, v = .ref T ∧ H T = none ∧ H' = L2.upd H T (.tup [.int (i : Nat), x]) ∧ ∀ xs, SqT K H a xs → xs[i]? = some x, fun i H => ∃ xs : List V, SqT K H a xs ∧ xs.length ≤ i⟩
theorem turn_enumT {P : Program} {w : World} {K : PySem.W.Frag} {elts : List Expr} {kk : Nat} {tpos : Pos} (a e it : Addr) :
    Turn P w K (.Tuple elts kk tpos) (Itet K a) [e, it] e (fun i h => (∃ old, IsEnum h e it ((i : Nat) : Int) old) ∧ h.IsTupleIter it a i ∧ e ≠ it ∧ a ≠ it ∧ a ≠ e) where
  mem := by simp
  obj := fun i h st b hb => by
    obtain ⟨⟨old, he⟩, ⟨o, ho, hc, hd⟩, _⟩ := st
    have e' : b = e ∨ b = it := by simpa using hb
    rcases e' with z | z
    · rw [z]; exact ⟨_, he, fun v q => nomatch q⟩
    · rw [z]; exact ⟨o, ho, fun v q => by rw [hd] at q; cases q⟩
  keep := fun i h h' st k => let ⟨⟨old, he⟩, hi, hne⟩ := st; ⟨⟨old, k e (by simp) _ he⟩, hi.at fun o q => k it (by simp) o q, hne⟩
  item := by
    intro X hP hw hK hc i pins s σ H E I hf st hg
    subst hP hw hK
    obtain ⟨⟨old, he⟩, hit, hne, hai, hae⟩ := st
    obtain ⟨xs, x, hq, hx⟩ := hg
    obtain ⟨its, rv, p, hz⟩ := I.tuple hq
    obtain ⟨u, hu, ru⟩ := rv.get hx
    have hel : e < s.heap.objs.size := Heap.lt_size he
    have hil : it < s.heap.objs.size := by obtain ⟨_, q, _⟩ := hit; exact Heap.lt_size q
    have hil2 : i < its.toArray.size := by
      have := (List.getElem?_eq_some_iff.mp hu).1
      simpa using this
    refine wpAny_pyNext_enum_itemD (Draws.tuple (A := X.A.in1) (I.ok.hd hc) it a hai its.toArray) he ⟨hit, p⟩ hil2 hne (by simp [hne, hae.symm]) fun y h' tk hy ho hit' hT hsz hk => ?_
    have hy : its.toArray[i]? = some y := hy
    rw [show its.toArray[i]? = some u by simpa using hu] at hy
    cases hy
    obtain ⟨hit1, _⟩ := hit'
    refine ⟨_, rfl, wpAny_letOwnedTupleGo_enum (s := { s with heap := h', toks := tk + 1 }) ho fun h'' he' sb => ?_⟩
    have hT2 : h''.get? s.heap.objs.size = some { cls := .type "tuple", data := .seq #[.int i tk, u] } := (sb.2 _ (Nat.ne_of_gt hel)).trans hT
    have new : ObjOk X.prog X.w (L2.upd H s.heap.objs.size (.tup [.int (i : Nat), x])) h'' s.heap.objs.size (.tup [.int (i : Nat), x]) :=
      ⟨by show 2 ≤ sizeLine; decide, [.int i tk, u], .cons ⟨_, rfl⟩ (.cons ru .nil), ⟨_, hT2, rfl, _, rfl⟩⟩
    have I1 : Inv X pins σ (L2.upd H s.heap.objs.size (.tup [.int (i : Nat), x])) { s with heap := h'', toks := tk + 1 } :=
      I.turnedNew (ch := [e, it]) (fun b ob hb q => (sb.2 b (fun z => hb (by simp [z]))).trans (hk b ob (fun z => hb (by simp [z])) (fun z => hb (by simp [z])) q)) hf (Nat.le_refl _) new
    refine ⟨.ref s.heap.objs.size, _, I1, rfl, ⟨_, x, rfl, I.hok.fresh (Nat.le_refl _), rfl, fun ys hy => by rw [I.tuple_inj hy hq]; exact hx⟩, ⟨⟨u, ?_⟩, hit1.at fun o q => (sb.2 it (Ne.symm hne)).trans q, hne, hai, hae⟩, fun b hb => ?_⟩
    · have e1 : ((i + 1 : Nat) : Int) = (i : Int) + 1 := by omega
      rw [e1]; exact he'
    · have hb' : b < s.heap.objs.size := by
        have e' : b = e ∨ b = it := by simpa using hb
        rcases e' with z | z
        · rw [z]; exact hel
        · rw [z]; exact hil
      rw [upd_ne (Nat.ne_of_lt hb')]
      exact (hf b hb).1
  done := by
    intro X hP hw hK hc i pins s σ H E I hf st hg
    subst hP hw hK
    obtain ⟨⟨old, he⟩, hit, hne, hai, hae⟩ := st
    obtain ⟨xs, hq, hx⟩ := hg
    obtain ⟨its, rv, p, hz⟩ := I.tuple hq
    obtain ⟨f0, f1, f2, f3, f4, f5⟩ := hf it (by simp)
    have hl := rv.length
    have hn : its.toArray[i]? = none := by simp; omega
    have hT : s.TypeIs (.ref e) "enumerate" := ⟨_, he, rfl⟩
    unfold pyNext
    refine wpAny_bind (wpAny_attempt (wpAny_callSpecial?_slot (name := Str.ofString "__next__") hT PySem.F.slot_enumerate_next
      (wpAny_call_entry PySem.F.slot_enumerate_next hT PySem.F.entry_enumerate_next ?_ (PySem.F.args_enumerate_next_1 _))))
    show wpAny _ _ (field (.ref e) 2 >>= _) _ _ _
    refine wpAny_bind (wpAny_field he rfl (x := .ref it) rfl ?_)
    refine wpAny_bind (RZ.nextOf_tuple_end (I.ok.hd hc) hit p hn fun h' x eb hx' => ?_)
    obtain ⟨o, ho, hc'⟩ := hx'
    refine wpAny_bind (wpAny_isInstance (T := "StopIteration") (b := true) ⟨o, ho, hc'⟩ isSubtype_stop ?_)
    exact wpAny_pure ⟨rfl, I.turned (t' := s.toks) (fun b o hb q => eb b o hb q) f0 f1 f3 f4 f5⟩
  self := fun A i s Q E st h => let ⟨⟨_, he⟩, _⟩ := st; wpAny_pyIter_enum he h
def iEnumT (K : PySem.W.Frag) (ta : TA) : TI := fun σ H R => ta σ H fun vs H1 => ∃ a xs, vs = [.ref a] ∧ SqT K H1 a xs ∧ R (Itet K a) H1
theorem pi_enumT {X : Cx} {e : Expr} {ta : TA} {p pos tpos : Pos} {elts : List Expr} {kk : Nat} (hg : Gl X "enumerate") (hm : X.mg "enumerate" = none) (ha : PA X [e] ta) (hs : starEach [e] X.env = [(false, eval e X.env)] := by rfl) :
    PI X (.Tuple elts kk tpos) (.Call (.Name "enumerate" p) [e] [] pos) (iEnumT X.K ta) := by
  refine ⟨fun pins s σ H R I h => ?_⟩
  refine Call_ (ld_blt I hg hm boot_enumerate (PyProof.Rows.callWith_type1 (thn (ha.run pos pins s σ H _ I h) fun us s1 ⟨vs, H1, I1, r1, q1⟩ => ?_) hs rfl))
  obtain ⟨a, xs, ex, hq, q⟩ := q1
  subst ex
  cases r1 with
  | cons r rr =>
    cases rr
    cases r
    obtain ⟨its, rv, p', hz⟩ := I1.tuple hq
    have al : a < s1.heap.objs.size := by obtain ⟨_, q, _⟩ := id p'; exact Heap.lt_size q
    refine call_enumerate_tuple p' fun h' he hit hsz hk => wpAny_pyIter_enum he ?_
    have I2 : Inv X pins σ H1 { s1 with heap := h' } := I1.kept (t' := s1.toks) hk
    refine ⟨s1.heap.objs.size + 1, [s1.heap.objs.size + 1, s1.heap.objs.size], _, _, H1, rfl, I2, turn_enumT a (s1.heap.objs.size + 1) s1.heap.objs.size, ⟨⟨.none, he⟩, hit, Nat.succ_ne_self _, Nat.ne_of_lt al, Nat.ne_of_lt (Nat.lt_succ_of_lt al)⟩, fun b hb => ?_, q⟩
    have e' : b = s1.heap.objs.size + 1 ∨ b = s1.heap.objs.size := by simpa using hb
    have hle : s1.heap.objs.size ≤ b := by
      rcases e' with z | z
      · rw [z]; exact Nat.le_add_right _ _
      · rw [z]; exact Nat.le_refl _
    exact I1.fpOk hle (I1.hok.fresh hle)
/-- of a list or a tuple -/
def iEnumLT (K : PySem.W.Frag) (ta : TA) : TI := fun σ H R => iEnum K ta σ H R ∨ iEnumT K ta σ H R
theorem pi_enumLT {X : Cx} {e : Expr} {ta : TA} {p pos tpos : Pos} {elts : List Expr} {kk : Nat} (hg : Gl X "enumerate") (hm : X.mg "enumerate" = none) (ha : PA X [e] ta) (hs : starEach [e] X.env = [(false, eval e X.env)] := by rfl) :
    PI X (.Tuple elts kk tpos) (.Call (.Name "enumerate" p) [e] [] pos) (iEnumLT X.K ta) :=
  ⟨fun pins s σ H R I h => h.elim ((pi_enum hg hm ha hs).run pins s σ H R I) ((pi_enumT hg hm ha hs).run pins s σ H R I)⟩
theorem pi_enumK {X : Cx} {K : PySem.W.Frag} (hK : X.K = K) {e : Expr} {ta : TA} {p pos tpos : Pos} {elts : List Expr} {kk : Nat} (hg : Gl X "enumerate") (hm : X.mg "enumerate" = none) (ha : PA X [e] ta) (hs : starEach [e] X.env = [(false, eval e X.env)] := by rfl) :
    PI X (.Tuple elts kk tpos) (.Call (.Name "enumerate" p) [e] [] pos) (iEnum K ta) := by subst hK; exact pi_enum hg hm ha hs
theorem walk_enumT {K : PySem.W.Frag} {a : Addr} {xs : List V} : Walk (Itet K a) xs.length (fun H => SqT K H a xs) (YPair (fun i => some (.int (i : Nat))) (fun i => xs[i]?)) := by
  refine ⟨fun i _ hi q => ⟨xs, xs[i], q, by simp [hi]⟩, fun _ q => ⟨xs, q, Nat.le_refl _⟩, fun i H v H' _ q y => ?_⟩
  obtain ⟨T, x, h1, h2, h3, h4⟩ := y
  exact ⟨T, _, x, h1, h2, h3, rfl, h4 xs q⟩
end LK

set_option Elab.async false
set_option linter.all false
set_option maxRecDepth 100000
namespace LK
open PySem PySem.Spec PyProof.Rows L2
/-! ### zip of a tuple and a list: two sources of any kind -/
structure Src (p : Program) (w : World) (it l : Addr) (It : Nat → Heap → Prop) (Con : Array Value → Heap → Prop) : Prop where
  mvI : ∀ {i : Nat} {h g : Heap}, It i h → (∀ o, h.get? it = some o → g.get? it = some o) → It i g
  mvC : ∀ {xs : Array Value} {h g : Heap}, Con xs h → (∀ o, h.get? l = some o → g.get? l = some o) → Con xs g
  fld : ∀ {i : Nat} {h : Heap}, It i h → ∃ o fs, h.get? it = some o ∧ o.data = .fields fs
  more : ∀ {A : Around} {E : Value → Shared → Prop} {s : Shared} {i : Nat} {xs : Array Value} {x : Value} {Q : Value → Shared → Prop}, It i s.heap → Con xs s.heap → xs[i]? = some x →
    (∀ g, It (i + 1) g → Heap.SameBut it s.heap g → Q x { s with heap := g }) → wpAny (model p w) A (Builtin.SmallTypes.nextOf (.ref it)) Q E s
  over : ∀ {A : Around} {E : Value → Shared → Prop} {s : Shared} {i : Nat} {xs : Array Value} {Q : Value → Shared → Prop}, A.handled = none → It i s.heap → Con xs s.heap → xs[i]? = none →
    (∀ g e, Heap.ExtBut it s.heap g → (∃ o, g.get? e = some o ∧ o.cls = .type "StopIteration") → E (.ref e) { s with heap := g }) → wpAny (model p w) A (Builtin.SmallTypes.nextOf (.ref it)) Q E s
theorem src_tup (p : Program) (w : World) (it l : Addr) : Src p w it l (fun i h => h.IsTupleIter it l i) (fun xs h => h.IsTuple l xs) where
  mvI := fun a b => a.at b
  mvC := fun a b => a.at b
  fld := fun ⟨o, e, _, d⟩ => ⟨o, _, e, d⟩
  more := fun a b c k => RZ.nextOf_tuple_item a b c k
  over := fun a b c d k => RZ.nextOf_tuple_end a b c d k
theorem src_lst (p : Program) (w : World) (it l : Addr) : Src p w it l (fun i h => h.IsListIter it l i) (fun xs h => h.IsList l xs) where
  mvI := fun a b => a.at b
  mvC := fun a b => a.at b
  fld := fun ⟨o, e, _, d⟩ => ⟨o, _, e, d⟩
  more := fun a b c k => wpAny_nextOf_list_item a b c k
  over := fun a b c d k => wpAny_nextOf_list_end a b c d k
/-- all that a zip holds, at one point of time -/
structure ZS (z TI TO i1 i2 : Addr) (I1 I2 : Nat → Heap → Prop) (C1 C2 : Array Value → Heap → Prop) (xs ys : Array Value) (h : Heap) (f a b : Value) (k1 k2 : Nat) : Prop where
  oz : IsZip h z TI TO f
  ti : IsPair h TI (.ref i1) (.ref i2)
  tt : IsPair h TO a b
  j1 : I1 k1 h
  j2 : I2 k2 h
  c1 : C1 xs h
  c2 : C2 ys h
section
variable {prog : Program} {w : World} {A : Around} {E : Value → Shared → Prop} {s : Shared} {z TI TO i1 i2 l1 l2 : Addr} {I1 I2 : Nat → Heap → Prop} {C1 C2 : Array Value → Heap → Prop} {xs ys : Array Value} {f a b : Value} {k1 k2 : Nat} {h g : Heap}
theorem ZS.atZ (D : ZipApart z TI TO i1 i2 l1 l2) (S1 : Src prog w i1 l1 I1 C1) (S2 : Src prog w i2 l2 I2 C2) (q : ZS z TI TO i1 i2 I1 I2 C1 C2 xs ys h f a b k1 k2) (e : Heap.ExtBut z h g) {f' : Value} (n : IsZip g z TI TO f') : ZS z TI TO i1 i2 I1 I2 C1 C2 xs ys g f' a b k1 k2 :=
  ⟨n, e _ _ D.TIz q.ti, e _ _ D.TOz q.tt, S1.mvI q.j1 fun o => e _ o D.i1z, S2.mvI q.j2 fun o => e _ o D.i2z, S1.mvC q.c1 fun o => e _ o D.l1z, S2.mvC q.c2 fun o => e _ o D.l2z⟩
theorem ZS.atO (D : ZipApart z TI TO i1 i2 l1 l2) (S1 : Src prog w i1 l1 I1 C1) (S2 : Src prog w i2 l2 I2 C2) (q : ZS z TI TO i1 i2 I1 I2 C1 C2 xs ys h f a b k1 k2) (e : Heap.ExtBut TO h g) {a' b' : Value} (n : IsPair g TO a' b') : ZS z TI TO i1 i2 I1 I2 C1 C2 xs ys g f a' b' k1 k2 :=
  ⟨e _ _ D.TOz.symm q.oz, e _ _ D.TITO q.ti, n, S1.mvI q.j1 fun o => e _ o D.TOi1.symm, S2.mvI q.j2 fun o => e _ o D.TOi2.symm, S1.mvC q.c1 fun o => e _ o D.l1TO, S2.mvC q.c2 fun o => e _ o D.l2TO⟩
theorem ZS.at1 (D : ZipApart z TI TO i1 i2 l1 l2) (S1 : Src prog w i1 l1 I1 C1) (S2 : Src prog w i2 l2 I2 C2) (q : ZS z TI TO i1 i2 I1 I2 C1 C2 xs ys h f a b k1 k2) (e : Heap.ExtBut i1 h g) {k : Nat} (n : I1 k g) : ZS z TI TO i1 i2 I1 I2 C1 C2 xs ys g f a b k k2 :=
  ⟨e _ _ D.i1z.symm q.oz, e _ _ D.TIi1 q.ti, e _ _ D.TOi1 q.tt, n, S2.mvI q.j2 fun o => e _ o D.i12.symm, S1.mvC q.c1 fun o => e _ o D.l1i1, S2.mvC q.c2 fun o => e _ o D.l2i1⟩
theorem ZS.at2 (D : ZipApart z TI TO i1 i2 l1 l2) (S1 : Src prog w i1 l1 I1 C1) (S2 : Src prog w i2 l2 I2 C2) (q : ZS z TI TO i1 i2 I1 I2 C1 C2 xs ys h f a b k1 k2) (e : Heap.ExtBut i2 h g) {k : Nat} (n : I2 k g) : ZS z TI TO i1 i2 I1 I2 C1 C2 xs ys g f a b k1 k :=
  ⟨e _ _ D.i2z.symm q.oz, e _ _ D.TIi2 q.ti, e _ _ D.TOi2 q.tt, S1.mvI q.j1 fun o => e _ o D.i12, n, S1.mvC q.c1 fun o => e _ o D.l1i2, S2.mvC q.c2 fun o => e _ o D.l2i2⟩
/-- what lies beside the zip stays -/
def Stay (z TO i1 i2 : Addr) (h g : Heap) : Prop := ∀ c o, c ≠ z → c ≠ TO → c ≠ i1 → c ≠ i2 → h.get? c = some o → g.get? c = some o
theorem Stay.tr {h1 h2 h3 : Heap} (p : Stay z TO i1 i2 h1 h2) (q : Stay z TO i1 i2 h2 h3) : Stay z TO i1 i2 h1 h3 := fun c o n1 n2 n3 n4 e => q c o n1 n2 n3 n4 (p c o n1 n2 n3 n4 e)
theorem Stay.zz (e : Heap.ExtBut z h g) : Stay z TO i1 i2 h g := fun c o n1 _ _ _ => e c o n1
theorem Stay.o (e : Heap.ExtBut TO h g) : Stay z TO i1 i2 h g := fun c o _ n2 _ _ => e c o n2
theorem Stay.i (e : Heap.ExtBut i1 h g) : Stay z TO i1 i2 h g := fun c o _ _ n3 _ => e c o n3
theorem Stay.j (e : Heap.ExtBut i2 h g) : Stay z TO i1 i2 h g := fun c o _ _ _ n4 => e c o n4
theorem zm_item {x y : Value} {Q : Value → Shared → Prop} (D : ZipApart z TI TO i1 i2 l1 l2) (S1 : Src prog w i1 l1 I1 C1) (S2 : Src prog w i2 l2 I2 C2) (q0 : ZS z TI TO i1 i2 I1 I2 C1 C2 xs ys s.heap .none a b k1 k2) (hx : xs[k1]? = some x) (hy : ys[k2]? = some y)
    (k : ∀ g, ZS z TI TO i1 i2 I1 I2 C1 C2 xs ys g (rawInt s.heap.objs.size) x y (k1 + 1) (k2 + 1) → IsPair g s.heap.objs.size x y → g.objs.size = s.heap.objs.size + 1 → Stay z TO i1 i2 s.heap g → Q (.ref s.heap.objs.size) { s with heap := g }) :
    wpAny (model prog w) A (Builtin.«zip.__next__» ⟨[.ref z], []⟩) (fun r s' => ∃ v, r = .done (.ret v) ∧ Q v s') E s := by
  have oz := q0.oz
  show wpAny (model prog w) _ (field (.ref z) 2 >>= _) _ E _
  refine wpAny_bind (wpAny_field oz rfl (x := .bool false) rfl ?_)
  show wpAny (model prog w) _ (field (.ref z) 3 >>= _) _ E _
  refine wpAny_bind (wpAny_field oz rfl (x := .ref TI) rfl (wpAny_bind (wpAny_seqItems q0.ti rfl ?_)))
  show wpAny (model prog w) _ (Builtin.SmallTypes.ownedTupleIsFree (.ref z) >>= _) _ E _; unfold Builtin.SmallTypes.ownedTupleIsFree
  refine wpAny_bind (wpAny_bind (wpAny_field oz rfl (x := .none) rfl (wpAny_pure ?_)))
  simp only [if_true]
  refine wpAny_bind (wpAny_rule (wpAny_bind (wpAny_field oz rfl (x := .ref TO) rfl (wpAny_bind (wpAny_setField_rec oz (by simp) fun g1 z1 e1 => ?_)))))
  have q1 := q0.atZ D S1 S2 e1.extBut (f' := .ellipsis) z1
  have t1 : Stay z TO i1 i2 s.heap g1 := .zz e1.extBut
  simp only [List.forIn_cons, List.forIn_nil, List.zipIdx_cons, List.zipIdx_nil]
  refine wpAny_bind (wpAny_bind (wpAny_bind (wpAny_onRaise ?_)))
  show wpAny (model prog w) _ (Builtin.SmallTypes.nextOf (.ref i1) >>= _) _ _ _
  refine wpAny_bind (S1.more q1.j1 q1.c1 hx fun g2 n2 e2 => wpAny_pure ?_)
  have q2 := q1.at1 D S1 S2 e2.extBut n2
  have t2 := t1.tr (.i e2.extBut)
  refine wpAny_bind (wpAny_seqItems q2.tt rfl (wpAny_bind (wpAny_updateSeq_pair q2.tt fun g3 n3 e3 => ?_)))
  have q3 := q2.atO D S1 S2 e3.extBut (a' := x) (b' := b) n3
  have t3 := t2.tr (.o e3.extBut)
  refine wpAny_bind (wpAny_letGo (wpAny_pure (wpAny_bind (wpAny_bind (wpAny_onRaise ?_)))))
  show wpAny (model prog w) _ (Builtin.SmallTypes.nextOf (.ref i2) >>= _) _ _ _
  refine wpAny_bind (S2.more q3.j2 q3.c2 hy fun g4 n4 e4 => wpAny_pure ?_)
  have q4 := q3.at2 D S1 S2 e4.extBut n4
  have t4 := t3.tr (.j e4.extBut)
  refine wpAny_bind (wpAny_seqItems q4.tt rfl (wpAny_bind (wpAny_updateSeq_pair q4.tt fun g5 n5 e5 => ?_)))
  have q5 := q4.atO D S1 S2 e5.extBut (a' := x) (b' := y) n5
  have t5 := t4.tr (.o e5.extBut)
  have sz : g5.objs.size = s.heap.objs.size := by rw [e5.1, e4.1, e3.1, e2.1, e1.1]
  refine wpAny_bind (wpAny_letGo (wpAny_pure (wpAny_pure (wpAny_bind (wpAny_seqItems q5.tt rfl (wpAny_bind (wpAny_newTuple ?_)))))))
  show wpAny (model prog w) _ (Builtin.SmallTypes.ownedTupleHandOut (.ref z) (.ref g5.objs.size) >>= _) _ E _; unfold Builtin.SmallTypes.ownedTupleHandOut
  have pz : IsZip (g5.push { cls := .type "tuple", data := .seq #[x, y] }) z TI TO .ellipsis := Heap.get?_push_of_some _ q5.oz
  refine wpAny_bind (wpAny_bind (wpAny_setField_rec pz (by simp) fun g7 z7 e7 => ?_))
  have z7' : IsZip g7 z TI TO (rawInt g5.objs.size) := z7
  refine wpAny_setField_rec z7' (by simp) fun g8 z8 e8 => ?_
  have z8' : IsZip g8 z TI TO (rawInt g5.objs.size) := z8
  have e58 : Heap.ExtBut z g5 g8 := fun c o n e => e8.extBut _ _ n (e7.extBut _ _ n (Heap.get?_push_of_some _ e))
  have q8 := q5.atZ D S1 S2 e58 z8'
  have nz : g5.objs.size ≠ z := Nat.ne_of_gt (Heap.lt_size q5.oz)
  have p8 : IsPair g8 g5.objs.size x y := e8.extBut _ _ nz (e7.extBut _ _ nz (Heap.get?_push_size _ rfl))
  have s8 : g8.objs.size = g5.objs.size + 1 := by rw [e8.1, e7.1, Heap.size_push]
  refine wpAny_pure ⟨.ref g5.objs.size, rfl, ?_⟩
  rw [sz] at q8 p8 s8 ⊢
  exact k g8 q8 p8 s8 (t5.tr (.zz e58))
/-- the last turn: one of the two has no more -/
theorem zm_end {Q : Fin → Shared → Prop} (hh : A.handled = none) (D : ZipApart z TI TO i1 i2 l1 l2) (S1 : Src prog w i1 l1 I1 C1) (S2 : Src prog w i2 l2 I2 C2) (q0 : ZS z TI TO i1 i2 I1 I2 C1 C2 xs ys s.heap .none a b k1 k2) (he : xs[k1]? = none ∨ ys[k2]? = none)
    (k : ∀ g e, Stay z TO i1 i2 s.heap g → (∃ o, g.get? e = some o ∧ o.cls = .type "StopIteration") → E (.ref e) { s with heap := g }) : wpAny (model prog w) A (Builtin.«zip.__next__» ⟨[.ref z], []⟩) Q E s := by
  have oz := q0.oz
  show wpAny (model prog w) _ (field (.ref z) 2 >>= _) _ E _
  refine wpAny_bind (wpAny_field oz rfl (x := .bool false) rfl ?_)
  show wpAny (model prog w) _ (field (.ref z) 3 >>= _) _ E _
  refine wpAny_bind (wpAny_field oz rfl (x := .ref TI) rfl (wpAny_bind (wpAny_seqItems q0.ti rfl ?_)))
  show wpAny (model prog w) _ (Builtin.SmallTypes.ownedTupleIsFree (.ref z) >>= _) _ E _; unfold Builtin.SmallTypes.ownedTupleIsFree
  refine wpAny_bind (wpAny_bind (wpAny_field oz rfl (x := .none) rfl (wpAny_pure ?_)))
  simp only [if_true]
  refine wpAny_bind (wpAny_rule (wpAny_bind (wpAny_field oz rfl (x := .ref TO) rfl (wpAny_bind (wpAny_setField_rec oz (by simp) fun g1 z1 e1 => ?_)))))
  have q1 := q0.atZ D S1 S2 e1.extBut (f' := .ellipsis) z1
  have t1 : Stay z TO i1 i2 s.heap g1 := .zz e1.extBut
  have fin : ∀ {g2 : Heap} {e : Addr}, IsZip g2 z TI TO .ellipsis → Stay z TO i1 i2 s.heap g2 → (∃ o, g2.get? e = some o ∧ o.cls = .type "StopIteration") → ∀ g3, Heap.SameBut z g2 g3 → E (.ref e) { s with heap := g3 } := fun z2 t2 ⟨o, h1, h2⟩ g3 e3 =>
    k _ _ (t2.tr (.zz e3.extBut)) ⟨o, e3.extBut _ _ (fun n => by subst n; rw [z2] at h1; cases h1; simp at h2) h1, h2⟩
  simp only [List.forIn_cons, List.forIn_nil, List.zipIdx_cons, List.zipIdx_nil]
  refine wpAny_bind (wpAny_bind (wpAny_bind (wpAny_onRaise ?_)))
  show wpAny (model prog w) _ (Builtin.SmallTypes.nextOf (.ref i1) >>= _) _ _ _
  by_cases hx : xs[k1]? = none
  · refine wpAny_bind (S1.over hh q1.j1 q1.c1 hx fun g2 e e2 so => ?_)
    have z2 := e2 _ _ D.i1z.symm q1.oz
    exact wpAny_setField_rec z2 (by simp) fun g3 _ e3 => fin z2 (t1.tr (.i e2)) so g3 e3
  · obtain ⟨x, hx1⟩ := Option.ne_none_iff_exists'.mp hx
    have hy := he.resolve_left hx
    refine wpAny_bind (S1.more q1.j1 q1.c1 hx1 fun g2 n2 e2 => wpAny_pure ?_)
    have q2 := q1.at1 D S1 S2 e2.extBut n2
    refine wpAny_bind (wpAny_seqItems q2.tt rfl (wpAny_bind (wpAny_updateSeq_pair q2.tt fun g3 n3 e3 => ?_)))
    have q3 := q2.atO D S1 S2 e3.extBut (a' := x) (b' := b) n3
    refine wpAny_bind (wpAny_letGo (wpAny_pure (wpAny_bind (wpAny_bind (wpAny_onRaise ?_)))))
    show wpAny (model prog w) _ (Builtin.SmallTypes.nextOf (.ref i2) >>= _) _ _ _
    refine wpAny_bind (S2.over hh q3.j2 q3.c2 hy fun g4 e e4 so => ?_)
    have z4 := e4 _ _ D.i2z.symm q3.oz
    exact wpAny_setField_rec z4 (by simp) fun g5 _ e5 => fin z4 (((t1.tr (.i e2.extBut)).tr (.o e3.extBut)).tr (.j e4)) so g5 e5
theorem zm_next {x y : Value} {Q : Option Value → Shared → Prop} (D : ZipApart z TI TO i1 i2 l1 l2) (S1 : Src prog w i1 l1 I1 C1) (S2 : Src prog w i2 l2 I2 C2) (q0 : ZS z TI TO i1 i2 I1 I2 C1 C2 xs ys s.heap .none a b k1 k2) (hx : xs[k1]? = some x) (hy : ys[k2]? = some y)
    (k : ∀ g, ZS z TI TO i1 i2 I1 I2 C1 C2 xs ys g (rawInt s.heap.objs.size) x y (k1 + 1) (k2 + 1) → IsPair g s.heap.objs.size x y → g.objs.size = s.heap.objs.size + 1 → Stay z TO i1 i2 s.heap g → Q (some (.ref s.heap.objs.size)) { s with heap := g }) : wpAny (model prog w) A (pyNext (.ref z)) Q E s := by
  have ty : s.TypeIs (.ref z) "zip" := ⟨_, q0.oz, rfl⟩
  unfold pyNext
  exact wpAny_bind (wpAny_attempt (wpAny_callSpecial?_slot (name := Str.ofString "__next__") ty F.slot_zip_next (wpAny_call_entry F.slot_zip_next ty F.entry_zip_next (zm_item D S1 S2 q0 hx hy fun g p1 p2 p3 p4 => wpAny_pure (k g p1 p2 p3 p4)) (F.args_zip_next_1 _))))
theorem zm_stop {Q : Option Value → Shared → Prop} (hh : A.handled = none) (D : ZipApart z TI TO i1 i2 l1 l2) (S1 : Src prog w i1 l1 I1 C1) (S2 : Src prog w i2 l2 I2 C2) (q0 : ZS z TI TO i1 i2 I1 I2 C1 C2 xs ys s.heap .none a b k1 k2) (he : xs[k1]? = none ∨ ys[k2]? = none)
    (k : ∀ g, Stay z TO i1 i2 s.heap g → Q none { s with heap := g }) : wpAny (model prog w) A (pyNext (.ref z)) Q E s := by
  have ty : s.TypeIs (.ref z) "zip" := ⟨_, q0.oz, rfl⟩
  unfold pyNext
  refine wpAny_bind (wpAny_attempt (wpAny_callSpecial?_slot (name := Str.ofString "__next__") ty F.slot_zip_next (wpAny_call_entry F.slot_zip_next ty F.entry_zip_next (zm_end hh D S1 S2 q0 he fun g e st so => ?_) (F.args_zip_next_1 _))))
  obtain ⟨o, h1, h2⟩ := so
  exact wpAny_bind (wpAny_isInstance (T := "StopIteration") (b := true) ⟨o, h1, h2⟩ isSubtype_stop (wpAny_pure (k _ st)))
end
/-- the five new objects of zip(tuple, list) -/
def zp1 (h : Heap) (l1 : Addr) : Heap := h.push { cls := .type "tuple_iterator", data := .fields #[.ref l1, .int 0 0] }
def zp2 (h : Heap) (l1 l2 : Addr) : Heap := (zp1 h l1).push { cls := .type "list_iterator", data := .fields #[.ref l2, .int 0 0] }
def zp3 (h : Heap) (l1 l2 : Addr) : Heap := (zp2 h l1 l2).push { cls := .type "tuple", data := .seq #[.ref h.objs.size, .ref (zp1 h l1).objs.size] }
def zp4 (h : Heap) (l1 l2 : Addr) : Heap := (zp3 h l1 l2).push { cls := .type "tuple", data := .seq #[.none, .none] }
def zp5 (h : Heap) (l1 l2 : Addr) : Heap := (zp4 h l1 l2).push { cls := .type "zip", data := .fields #[.none, .bool false, .bool false, .ref (zp2 h l1 l2).objs.size, .ref (zp3 h l1 l2).objs.size] }
theorem zp_new (l1 l2 : Addr) (xs ys : Array Value) : Meets (Builtin.«zip.__new__» ⟨[.type "zip", .ref l1, .ref l2], []⟩) fun _ R s => s.heap.IsTuple l1 xs ∧ s.heap.IsList l2 ys ∧ R (.ok (.ret (.ref (zp4 s.heap l1 l2).objs.size))) { s with heap := zp5 s.heap l1 l2 } :=
  .of_wp fun pr wd ar R s h => by
    obtain ⟨hp, gl, dd, tk, os⟩ := s
    obtain ⟨h1, h2, h⟩ := h
    have hsub := sub_zip
    have t1 : Heap.IsTuple (Shared.heap ⟨hp, gl, dd, tk, os⟩) l1 xs := h1
    have t2 : Heap.IsList (Shared.heap ⟨hp.push { cls := .type "tuple_iterator", data := .fields #[.ref l1, .int 0 0] }, gl, dd, tk, os⟩) l2 ys := Heap.IsList.push h2 _
    wp_walk using wpAny_pyIter_tuple t1, wpAny_pyIter_list t2
    exact ⟨_, rfl, h⟩
section
variable {prog : Program} {w : World} {s : Shared} {A : Around} {E : Value → Shared → Prop}
theorem call_zipM {l1 l2 : Addr} {xs ys : Array Value} {Q : Value → Shared → Prop} (h1 : s.heap.IsTuple l1 xs) (h2 : s.heap.IsList l2 ys)
    (k : ∀ g, IsZip g (s.heap.objs.size + 4) (s.heap.objs.size + 2) (s.heap.objs.size + 3) .none → IsPair g (s.heap.objs.size + 2) (.ref s.heap.objs.size) (.ref (s.heap.objs.size + 1)) → IsPair g (s.heap.objs.size + 3) .none .none →
      g.IsTupleIter s.heap.objs.size l1 0 → g.IsListIter (s.heap.objs.size + 1) l2 0 → (∀ c o, s.heap.get? c = some o → g.get? c = some o) → Q (.ref (s.heap.objs.size + 4)) { s with heap := g }) : wpAny (model prog w) A (call (.type "zip") [.ref l1, .ref l2]) Q E s := by
  refine callType_new F.called_zip (by decide) (F.typeCall_zip_2 _ _) (F.newCall_zip_2 _ _) (fun obj => F.args_object_init_3 obj _ _) F.entry_zip_new (zp_new l1 l2 xs ys) ⟨h1, h2, ?_⟩
  have n1 : (zp1 s.heap l1).objs.size = s.heap.objs.size + 1 := Heap.size_push _ _
  have n2 : (zp2 s.heap l1 l2).objs.size = s.heap.objs.size + 2 := (Heap.size_push _ _).trans (by rw [n1])
  have n3 : (zp3 s.heap l1 l2).objs.size = s.heap.objs.size + 3 := (Heap.size_push _ _).trans (by rw [n2])
  have n4 : (zp4 s.heap l1 l2).objs.size = s.heap.objs.size + 4 := (Heap.size_push _ _).trans (by rw [n3])
  have m5 : IsZip (zp5 s.heap l1 l2) (zp4 s.heap l1 l2).objs.size (zp2 s.heap l1 l2).objs.size (zp3 s.heap l1 l2).objs.size .none := Heap.get?_push_size _ rfl
  have m4 : IsPair (zp5 s.heap l1 l2) (zp3 s.heap l1 l2).objs.size .none .none := Heap.get?_push_of_some _ (Heap.get?_push_size _ rfl)
  have m3 : IsPair (zp5 s.heap l1 l2) (zp2 s.heap l1 l2).objs.size (.ref s.heap.objs.size) (.ref (zp1 s.heap l1).objs.size) := Heap.get?_push_of_some _ (Heap.get?_push_of_some _ (Heap.get?_push_size _ rfl))
  have m2 : (zp5 s.heap l1 l2).IsListIter (zp1 s.heap l1).objs.size l2 0 := ⟨_, Heap.get?_push_of_some _ (Heap.get?_push_of_some _ (Heap.get?_push_of_some _ (Heap.get?_push_size _ rfl))), rfl, rfl⟩
  have m1 : (zp5 s.heap l1 l2).IsTupleIter s.heap.objs.size l1 0 := ⟨_, Heap.get?_push_of_some _ (Heap.get?_push_of_some _ (Heap.get?_push_of_some _ (Heap.get?_push_of_some _ (Heap.get?_push_size _ rfl)))), rfl, rfl⟩
  have m0 : ∀ c o, s.heap.get? c = some o → (zp5 s.heap l1 l2).get? c = some o := fun c o e => Heap.get?_push_of_some _ (Heap.get?_push_of_some _ (Heap.get?_push_of_some _ (Heap.get?_push_of_some _ (Heap.get?_push_of_some _ e))))
  rw [n2, n3, n4] at m5
  rw [n3] at m4
  rw [n2, n1] at m3
  rw [n1] at m2
  show _ ∧ _
  rw [n4]
  exact ⟨⟨_, m5, rfl⟩, k _ m5 m3 m4 m1 m2 m0⟩
end
def ItzM (K : PySem.W.Frag) (a b : Addr) : It where
  go := fun i H => ∃ (xs ys : List V) (x y : V), SqT K H a xs ∧ SqL K H b ys ∧ xs[i]? = some x ∧ ys[i]? = some y
  yld := fun i H v H' => ∃ T x y, v = .ref T ∧ H T = none ∧ H' = L2.upd H T (.tup [x, y]) ∧ (∀ xs, SqT K H a xs → xs[i]? = some x) ∧ ∀ ys, SqL K H b ys → ys[i]? = some y
  stop := fun i H => ∃ xs ys : List V, SqT K H a xs ∧ SqL K H b ys ∧ (xs.length ≤ i ∨ ys.length ≤ i)
def tnM (z TI TO i1 i2 a b : Addr) (i : Nat) (h : Heap) : Prop := ∃ x y, IsZip h z TI TO .none ∧ IsPair h TI (.ref i1) (.ref i2) ∧ IsPair h TO x y ∧ h.IsTupleIter i1 a i ∧ h.IsListIter i2 b i
theorem turn_zipM {P : Program} {w : World} {K : PySem.W.Frag} {elts : List Expr} {kk : Nat} {tpos : Pos} {a b z TI TO i1 i2 : Addr} (D : ZipApart z TI TO i1 i2 a b) : Turn P w K (.Tuple elts kk tpos) (ItzM K a b) [z, TI, TO, i1, i2] z (tnM z TI TO i1 i2 a b) where
  mem := List.mem_cons_self
  obj := fun i h ⟨x, y, h1, h2, h3, h4, h5⟩ c hc => by
    obtain ⟨o4, f4, e4, d4⟩ := (src_tup P w i1 a).fld h4
    obtain ⟨o5, f5, e5, d5⟩ := (src_lst P w i2 b).fld h5
    simp only [List.mem_cons, List.not_mem_nil, or_false] at hc
    rcases hc with rfl | rfl | rfl | rfl | rfl
    · exact ⟨_, h1, fun v q => nomatch q⟩
    · exact ⟨_, h2, fun v q => nomatch q⟩
    · exact ⟨_, h3, fun v q => nomatch q⟩
    · exact ⟨o4, e4, fun v q => by rw [d4] at q; cases q⟩
    · exact ⟨o5, e5, fun v q => by rw [d5] at q; cases q⟩
  keep := fun i h g ⟨x, y, h1, h2, h3, h4, h5⟩ k => ⟨x, y, k z (by simp) _ h1, k TI (by simp) _ h2, k TO (by simp) _ h3, (src_tup P w i1 a).mvI h4 fun o => k i1 (by simp) o, (src_lst P w i2 b).mvI h5 fun o => k i2 (by simp) o⟩
  item := by
    rintro X rfl rfl rfl hc i pins s σ H E I hf ⟨x0, y0, h1, h2, h3, h4, h5⟩ ⟨xs, ys, x, y, qx, qy, ex, ey⟩
    obtain ⟨its, rv, p, _⟩ := I.tuple qx
    obtain ⟨jts, rw', p', _⟩ := I.list qy
    obtain ⟨u, eu, ru⟩ := rv.get ex
    obtain ⟨v, ev, rvv⟩ := rw'.get ey
    refine zm_next D (src_tup X.prog X.w i1 a) (src_lst X.prog X.w i2 b) ⟨h1, h2, h3, h4, h5, (show s.heap.IsTuple a its.toArray from p), p'.isList⟩ (x := u) (y := v) (by simpa using eu) (by simpa using ev) fun g q pp sz st => ⟨_, rfl, wpAny_letOwnedTupleGo_zip (s := { s with heap := g }) q.oz fun g2 z2 e2 => ?_⟩
    have q2 := q.atZ D (src_tup X.prog X.w i1 a) (src_lst X.prog X.w i2 b) e2.extBut z2
    have nz : s.heap.objs.size ≠ z := Nat.ne_of_gt (Heap.lt_size h1)
    have pp2 : IsPair g2 s.heap.objs.size u v := e2.extBut _ _ nz pp
    have ok : ObjOk X.prog X.w (L2.upd H s.heap.objs.size (.tup [x, y])) g2 s.heap.objs.size (.tup [x, y]) := ⟨by show 2 ≤ sizeLine; decide, [u, v], .cons ru (.cons rvv .nil), ⟨_, pp2, rfl, _, rfl⟩⟩
    have st2 : Stay z TO i1 i2 s.heap g2 := st.tr (.zz e2.extBut)
    have I2 : Inv X pins σ (L2.upd H s.heap.objs.size (.tup [x, y])) { s with heap := g2 } := I.turnedNew (t' := s.toks) (ch := [z, TI, TO, i1, i2]) (fun c o hb e => st2 c o (fun n => hb (by simp [n])) (fun n => hb (by simp [n])) (fun n => hb (by simp [n])) (fun n => hb (by simp [n])) e) hf (Nat.le_refl _) ok
    refine ⟨.ref s.heap.objs.size, _, I2, rfl, ⟨_, x, y, rfl, I.hok.fresh (Nat.le_refl _), rfl, fun l hl => by rw [I.tuple_inj hl qx]; exact ex, fun l hl => by rw [I.list_inj hl qy]; exact ey⟩, ⟨u, v, q2.oz, q2.ti, q2.tt, q2.j1, q2.j2⟩, fun c hcm => ?_⟩
    have lt : c < s.heap.objs.size := by
      obtain ⟨o4, _, e4, _⟩ := (src_tup X.prog X.w i1 a).fld h4
      obtain ⟨o5, _, e5, _⟩ := (src_lst X.prog X.w i2 b).fld h5
      have m := hcm
      simp only [List.mem_cons, List.not_mem_nil, or_false] at m
      rcases m with rfl | rfl | rfl | rfl | rfl
      · exact Heap.lt_size h1
      · exact Heap.lt_size h2
      · exact Heap.lt_size h3
      · exact Heap.lt_size e4
      · exact Heap.lt_size e5
    rw [upd_ne (Nat.ne_of_lt lt)]
    exact (hf c hcm).1
  done := by
    rintro X rfl rfl rfl hc i pins s σ H E I hf ⟨x0, y0, h1, h2, h3, h4, h5⟩ ⟨xs, ys, qx, qy, he⟩
    obtain ⟨its, rv, p, _⟩ := I.tuple qx
    obtain ⟨jts, rw', p', _⟩ := I.list qy
    have l1 := rv.length
    have l2 := rw'.length
    refine zm_stop (I.ok.hd hc) D (src_tup X.prog X.w i1 a) (src_lst X.prog X.w i2 b) ⟨h1, h2, h3, h4, h5, (show s.heap.IsTuple a its.toArray from p), p'.isList⟩ (he.imp (fun l => by simp; omega) fun l => by simp; omega) fun g st => ⟨rfl, I.turnedL (t' := s.toks) (ch := [z, TI, TO, i1, i2]) (fun c o hb e => st c o (fun n => hb (by simp [n])) (fun n => hb (by simp [n])) (fun n => hb (by simp [n])) (fun n => hb (by simp [n])) e) hf⟩
  self := fun A i s Q E ⟨_, _, h1, _⟩ k => wpAny_pyIter_zip h1 k
def iZipM (K : PySem.W.Frag) (ta : TA) : TI := fun σ H R => ta σ H fun vs H1 => ∃ a b xs ys, vs = [.ref a, .ref b] ∧ SqT K H1 a xs ∧ SqL K H1 b ys ∧ R (ItzM K a b) H1
theorem pi_zipM {X : Cx} {e e2 : Expr} {ta : TA} {p pos tpos : Pos} {elts : List Expr} {kk : Nat} (hg : Gl X "zip") (hm : X.mg "zip" = none) (ha : PA X [e, e2] ta) (hs : starEach [e, e2] X.env = (false, eval e X.env) :: starEach [e2] X.env := by rfl) (hpl : (backTo pos (starEach [e2] X.env)).any (·.1) = false := by rfl) :
    PI X (.Tuple elts kk tpos) (.Call (.Name "zip" p) [e, e2] [] pos) (iZipM X.K ta) := by
  refine ⟨fun pins s σ H R I h => Call_ (ld_blt I hg hm PyProof.Rows.boot_zip (PyProof.Rows.callWith_type1 (thn (ha.run pos pins s σ H _ I h) fun us s1 ⟨vs, H1, I1, r1, a, b, xs, ys, ex, qx, qy, q⟩ => ?_) hs hpl))⟩
  subst ex
  obtain _ | ⟨r, r'⟩ := r1
  obtain _ | ⟨r2, r''⟩ := r'
  cases r''
  cases r
  cases r2
  obtain ⟨its, rv, p1, _⟩ := I1.tuple qx
  obtain ⟨jts, rw', p2, _⟩ := I1.list qy
  obtain ⟨o1, ho1, _⟩ := id p1
  refine call_zipM (show s1.heap.IsTuple a its.toArray from p1) p2.isList fun g z1 z2 z3 z4 z5 k => wpAny_pyIter_zip z1 ?_
  have I2 : Inv X pins σ H1 { s1 with heap := g } := I1.kept (t' := s1.toks) k
  refine ⟨s1.heap.objs.size + 4, [s1.heap.objs.size + 4, s1.heap.objs.size + 2, s1.heap.objs.size + 3, s1.heap.objs.size, s1.heap.objs.size + 1], _, _, H1, rfl, I2, turn_zipM (PySem.W.ktu_apart s1.heap.objs.size a b (Heap.lt_size ho1) p2.lt), ⟨_, _, z1, z2, z3, z4, z5⟩, fun c hc => ?_, q⟩
  have le : s1.heap.objs.size ≤ c := by
    simp only [List.mem_cons, List.not_mem_nil, or_false] at hc
    rcases hc with rfl | rfl | rfl | rfl | rfl
    · exact Nat.le_add_right _ _
    · exact Nat.le_add_right _ _
    · exact Nat.le_add_right _ _
    · exact Nat.le_refl _
    · exact Nat.le_add_right _ _
  exact I1.fpOk le (I1.hok.fresh le)
theorem walk_zipM {K : PySem.W.Frag} {a b : Addr} {xs ys : List V} {n : Nat} (hx : xs.length = n) (hy : ys.length = n) : Walk (ItzM K a b) n (fun H => SqT K H a xs ∧ SqL K H b ys) (YPair (fun i => xs[i]?) fun i => ys[i]?) where
  goes := fun i _ hi q => ⟨xs, ys, xs[i]'(by omega), ys[i]'(by omega), q.1, q.2, List.getElem?_eq_getElem _, List.getElem?_eq_getElem _⟩
  stops := fun _ q => ⟨xs, ys, q.1, q.2, .inl (by omega)⟩
  yields := fun i H v H' _ q ⟨T, x, y, h1, h2, h3, h4, h5⟩ => ⟨T, x, y, h1, h2, h3, h4 xs q.1, h5 ys q.2⟩
end LK

set_option Elab.async false
set_option linter.all false
set_option maxRecDepth 100000
namespace LK
open PySem PySem.Spec PyProof.Rows L2
/-! ### rules with K in the place of X.K -/
section
variable {X : Cx} {K : PySem.W.Frag}
/-- of a list or a tuple -/
def rIxLT (K : PySem.W.Frag) : R2 := fun x y H Q => ∃ p xs i z, x = .ref p ∧ y = .int i ∧ (SqL K H p xs ∨ SqT K H p xs) ∧ atI xs i = some z ∧ Q z H
theorem ix_lt : IxR X (rIxLT X.K) := by
  intro value slice pins s σ H x y v u Q I rx ry h hs
  obtain ⟨p, xs, i, z, e1, e2, hq | hq, he, q⟩ := h
  · exact ix_list value slice pins s σ H x y v u Q I rx ry ⟨p, xs, i, z, e1, e2, hq, he, q⟩ hs
  · exact ix_tup value slice pins s σ H x y v u Q I rx ry ⟨p, xs, i, z, e1, e2, hq, he, q⟩ hs
theorem ix_ltK (hK : X.K = K) : IxR X (rIxLT K) := by subst hK; exact ix_lt
theorem ix_listK (hK : X.K = K) : IxR X (rIxL K) := by subst hK; exact ix_list
theorem ix_tupK (hK : X.K = K) : IxR X (rIxT K) := by subst hK; exact ix_tup
theorem sl_tupUK (hK : X.K = K) : SlR X (rSlU K) := by subst hK; exact sl_tupU
theorem sl_listUK (hK : X.K = K) : SlR X (rSlLU K) := by subst hK; exact sl_listU
theorem op_catUK (hK : X.K = K) : OpR X (binaryOp .Add) (rCatU K) := by subst hK; exact op_catU
theorem op_eqDK (hK : X.K = K) (hu : X.A.units + 64 < cLine) : OpR X (compareOp .Eq) (rEqD K) := by subst hK; exact op_eqD hu
theorem op_neDK (hK : X.K = K) (hu : X.A.units + 64 < cLine) : OpR X (compareOp .NotEq) (rNeD K) := by subst hK; exact op_neD hu
theorem call_tupleNK (hK : X.K = K) : CallR X (.type "tuple") (fun xs H Q => ∃ p ys, xs = [.ref p] ∧ SqL K H p ys ∧ ∀ q H', Same H H' → H q = none → H' q = some (.tup ys) → Q (.ref q) H') := by subst hK; exact call_tupleN
theorem call_tupleUK (hK : X.K = K) : CallR X (.type "tuple") (fun xs H Q => ∃ p ys, xs = [.ref p] ∧ (SqL K H p ys ∨ SqT K H p ys) ∧ ∀ q H', Same H H' → SqT K H' q ys → Q (.ref q) H') := by subst hK; exact call_tupleU
theorem call_listUK (hK : X.K = K) : CallR X (.type "list") (fun xs H Q => ∃ p ys, xs = [.ref p] ∧ (SqL K H p ys ∨ SqT K H p ys) ∧ ∀ l H2, Same H H2 → H l = none → H2 l = some (.lst ys) → Q (.ref l) H2) := by subst hK; exact call_listU
theorem call_len_seqK (hK : X.K = K) : CallR X (.builtin "len") (fun xs H Q => ∃ p ys, xs = [.ref p] ∧ (SqL K H p ys ∨ SqT K H p ys) ∧ Q (.int ys.length) H) := by subst hK; exact call_len_seq
theorem cr_sumK (hK : X.K = K) (hc : X.calm = true) : CallR X (.builtin "sum") (rSum K) := by subst hK; exact cr_sum hc
theorem cr_maxK (hK : X.K = K) (hc : X.calm = true) : CallR X (.builtin "max") (rMax K) := by subst hK; exact cr_max hc
theorem cr_allK (hK : X.K = K) (hc : X.calm = true) : CallR X (.builtin "all") (rAll K) := by subst hK; exact cr_all hc
theorem pi_listK (hK : X.K = K) {tg l : Expr} {tl : TE} (hl : PE X l tl) : PI X tg l (iList K tl) := by subst hK; exact pi_list hl
theorem pi_tupK (hK : X.K = K) {tg l : Expr} {tl : TE} (hl : PE X l tl) : PI X tg l (iTup K tl) := by subst hK; exact pi_tup hl
def iLT (K : PySem.W.Frag) (tl : TE) : TI := fun σ H R => iList K tl σ H R ∨ iTup K tl σ H R
theorem pi_lt {tg l : Expr} {tl : TE} (hl : PE X l tl) : PI X tg l (iLT X.K tl) :=
  ⟨fun pins s σ H R I h => h.elim ((pi_list hl).run pins s σ H R I) ((pi_tup hl).run pins s σ H R I)⟩
theorem pi_ltK (hK : X.K = K) {tg l : Expr} {tl : TE} (hl : PE X l tl) : PI X tg l (iLT K tl) := by subst hK; exact pi_lt hl
end
end LK

set_option Elab.async false
set_option linter.all false
set_option maxRecDepth 100000
namespace LK
open PySem PySem.Spec PyProof.Rows L2
/-! ### list(d.keys()), the keys tuples -/
section
variable {X : Cx} {e : Expr} {te : TE} {p apos cpos pos : Pos}
def tListKeys (te : TE) : TE := fun σ H Q => te σ H fun x H1 => ∃ (d : Addr) (kvs : List (List L2.Key × V)), x = .ref d ∧ Rd H1 d (.dT kvs) ∧ ∀ (l : Addr) (bs : List Addr), H1 l = none → IsKeys H1 kvs bs → Q (.ref l) (L2.upd H1 l (.lst (bs.map V.ref)))
theorem pe_listKeys (hc : X.calm = true) (he : PE X e te) (hg : Gl X "list") (hm : X.mg "list" = none) (hv : bootBuiltins "list" = some (.type "list")) (hbase : attributeBase e "keys" X.env (eval e X.env) = eval e X.env := by rfl) (hline : (apos.endLine == cpos.line) = true := by rfl)
    (hs : starEach [.Call (.Attribute e "keys" apos) [] [] cpos] X.env = (false, eval (.Call (.Attribute e "keys" apos) [] [] cpos) X.env) :: starEach [] X.env := by rfl) :
    PE X (.Call (.Name "list" p) [.Call (.Attribute e "keys" apos) [] [] cpos] [] pos) (tListKeys te) := by
  refine ⟨fun pins s σ H Q I hq => ?_⟩
  refine wpAny_Call_Name_kw (ld_blt I hg hm hv (PyProof.Rows.callWith_type1 ?_ hs rfl))
  rw [hs]
  change wpAny _ _ (spliced ((false, eval (.Call (.Attribute e "keys" apos) [] [] cpos) X.env) :: backTo pos (starEach [] X.env))) _ _ s
  refine Calls.spliced_cons (wpAny_Call_method (T := "dict") (id := "dict.keys") hbase rfl hline F.plainAttrs_dict F.slot_dict_keys F.type_dict_keys (thn (he.run pins s σ H _ I hq) fun u s1 ⟨x, H1, I1, rx, d, kvs, ex, hd, q⟩ => ?_))
  subst ex
  obtain rfl : u = Value.ref d := rx
  obtain ⟨z, ns, ks, pr, o, es, ep, ho, hx, hdt, en, hn⟩ := (show ObjOk X.prog X.w H1 s1.heap d (.dT kvs) from hd.ok I1.hok)
  have l1 : es.size = ks.length := size_of_entries en
  have l2 : kvs.length = ks.length := Paired.length pr
  have ty : s1.TypeIs (.ref d) "dict" := ⟨o, ho, hx.1⟩
  have raw : s1.heap.DictRaw d es ep := ⟨o, ho, hx, hdt⟩
  have nd := hx.2.1
  have I2 : Inv X pins σ H1 { s1 with heap := s1.heap.push { cls := .type "dict_keys", data := .fields #[.ref d] } } := I1.kept (t' := s1.toks) fun b ob q => Heap.get?_push_of_some _ q
  refine ⟨ty, (fun a e => by cases e; exact ⟨o, ho, nd⟩), ?_⟩
  change wpAny _ _ (callWith cpos (.builtin "dict.keys") [.ref d] [] []) _ X.xe s1
  refine method_meetsIn F.slot_dict_keys F.entry_dict_keys rfl (PySem.evalArgs_none ⟨rfl, ty, F.args_dict_keys_1 _, _, meets_dict_keys_raw d ns, ⟨⟨es, ep, raw⟩, ?_⟩⟩)
  refine Calls.spliced_nil (PySem.W.kdl_call (KdlSrc.rawKeys (es := es) (ep := ep)) (I1.ok.hd hc) ⟨⟨_, Heap.get?_push_size _ rfl, rfl, rfl⟩, raw.push _⟩ (by omega) fun h' tk acc c kp ha it => ?_)
  have ea : acc.toList = (ks.map fun x => x.2.1).map Value.ref := by
    rw [List.map_map]
    refine List.ext_getElem (by rw [Array.length_toList, it.1, l1, List.length_map]) fun j h1 h2 => ?_
    rw [List.length_map] at h2
    obtain ⟨hj, ev⟩ := it.2 j acc.toList[j] (by rw [← Array.getElem?_toList]; exact List.getElem?_eq_getElem h1)
    have e1 := entry_at en j
    rw [Array.getElem?_eq_getElem hj, List.getElem?_eq_getElem h2] at e1
    have e2 : es[j] = entryOfKey (tupleKind (mixKind X.prog X.w)) ks[j] := Option.some.inj e1
    rw [ev, e2, List.getElem_map]
    rfl
  have hz : ((ks.map fun x => x.2.1).map V.ref).length ≤ sizeLine := by rw [List.length_map, List.length_map]; omega
  have nw := I2.hok.fresh (Nat.le_refl _)
  refine ⟨.ref _, _, I2.laid (t' := tk) (o := .lst ((ks.map fun x => x.2.1).map V.ref)) kp (Nat.le_refl _) ⟨hz, acc.toList, c, by rw [ea]; exact vals_refs _, by rw [Array.toArray_toList]; exact ha⟩, rfl, q _ _ nw (isKeys_of pr)⟩
end
end LK

set_option Elab.async false
set_option linter.all false
set_option maxRecDepth 100000
set_option maxHeartbeats 2000000
/-! {e for a in xs for b in ys}, e a whole number; sorted(s) of a set of whole numbers with any number of members -/
namespace SC2
open PySem PySem.Spec PyProof.Rows L2

/-- the comprehension -/
abbrev sc2 (elt ta ia tb ib : Expr) (scope : Scope) (pos : Pos) : Expr := .SetComp elt [⟨ta, ia, [], 0⟩, ⟨tb, ib, [], 0⟩] scope pos
section
variable {prog : Program} {w : World} {A : Around} {R : Result → Shared → Prop} {s : Shared} {elt ta ia tb ib : Expr} {scope : Scope} {pos : Pos} {it acc : Value} {env : Env}
theorem turn0 (elt ta ia tb ib : Expr) (scope : Scope) (pos : Pos) (it acc : Value) (env : Env) : compTurn (sc2 elt ta ia tb ib scope pos) 0 it acc env =
    (standAt ia.pos >>= fun _ => pyNext it >>= fun r => match r with
      | none => pure (.done .next)
      | some v => letOwnedTupleGo ta it v >>= fun _ => assign ta env v >>= fun _ => eval ib env >>= fun x => standAt ib.pos >>= fun _ => foldedSetIterable ib env x >>= fun y =>
          (holding [y] (pyIter y)) >>= fun j => runOwn (.compStart (sc2 elt ta ia tb ib scope pos) 1 j acc env) env >>= fun _ => again (.compLoop (sc2 elt ta ia tb ib scope pos) 0 it acc env)) := by rfl
theorem turn1 (elt ta ia tb ib : Expr) (scope : Scope) (pos : Pos) (it acc : Value) (env : Env) : compTurn (sc2 elt ta ia tb ib scope pos) 1 it acc env =
    (standAt ib.pos >>= fun _ => pyNext it >>= fun r => match r with
      | none => pure (.done .next)
      | some v => letOwnedTupleGo tb it v >>= fun _ => assign tb env v >>= fun _ => (eval elt env >>= fun y => standAt elt.pos >>= fun _ => call (.builtin "set.add") [acc, y] >>= fun _ => pure ()) >>= fun _ =>
          again (.compLoop (sc2 elt ta ia tb ib scope pos) 1 it acc env)) := by rfl

/-- the outer loop: what a turn must bring, all else apart -/
theorem loop0 (hs : ∀ x, foldedSetIterable ib env x = pure x) (I : Nat → Shared → Prop) {F : Value → Shared → Prop} (hF : ∀ e s, ¬ F e s)
    (turn : ∀ n s, I n s → wpAny (model prog w) A (pyNext it) (fun r s1 => match r with
      | none => R (.ok .next) s1
      | some v => wpAny (model prog w) A (letOwnedTupleGo ta it v) (fun _ s2 => wpAny (model prog w) A (assign ta env v) (fun _ s3 => wpAny (model prog w) A (eval ib env) (fun x s4 => wpAny (model prog w) A (pyIter x) (fun j s5 =>
          codeAny (model prog w) A (.compStart (sc2 elt ta ia tb ib scope pos) 1 j acc env) (fun r s' => (∃ f, r = .ok f) ∧ ∃ m, m < n ∧ I m s') s5) F s4) F s3) F s2) F s1) F s) (n : Nat) (h : I n s) :
    codeAny (model prog w) A (.compLoop (sc2 elt ta ia tb ib scope pos) 0 it acc env) R s := by
  have no : ∀ {B : Value → Shared → Prop} e s, F e s → B e s := fun e s x => (hF e s x).elim
  refine codeAny_loop rfl I (fun n s hI => ?_) n h
  show wpAny _ A ((compTurn (sc2 elt ta ia tb ib scope pos) 0 it acc env).onRaise (fun x => do noteFrame x env; theTreesLotGoes x)) _ _ s
  refine wpAny_noted ?_
  rw [turn0]
  refine wpAny_bind (wpAny_standAt (wpAny_bind (wpAny_mono (turn n s hI) (fun r s1 h1 => ?_) no)))
  match r, h1 with
  | none, h1 => exact wpAny_pure h1
  | some v, h1 =>
    refine wpAny_bind (wpAny_mono h1 (fun _ s2 h2 => wpAny_bind (wpAny_mono h2 (fun _ s3 h3 => wpAny_bind (wpAny_mono h3 (fun x s4 h4 => ?_) no)) no)) no)
    refine wpAny_bind (wpAny_standAt (wpAny_bind (wpAny_of_eq (hs x) (wpAny_bind (wpAny_holding (wpAny_mono h4 (fun j s5 h5 => wpAny_bind (wpAny_runOwn ?_)) no))))))
    rw [Around.mark_none]
    refine codeAny_mono h5 fun r s' hr => ?_
    obtain ⟨⟨f, rfl⟩, hr⟩ := hr
    exact wpAny_pure ⟨rfl, hr⟩
/-- the inner one -/
theorem loop1 (I : Nat → Shared → Prop) {F : Value → Shared → Prop} (hF : ∀ e s, ¬ F e s)
    (turn : ∀ n s, I n s → wpAny (model prog w) A (pyNext it) (fun r s1 => match r with
      | none => R (.ok .next) s1
      | some v => wpAny (model prog w) A (letOwnedTupleGo tb it v) (fun _ s2 => wpAny (model prog w) A (assign tb env v) (fun _ s3 => wpAny (model prog w) A (eval elt env) (fun y s4 =>
          wpAny (model prog w) A (call (.builtin "set.add") [acc, y]) (fun _ s5 => ∃ m, m < n ∧ I m s5) F s4) F s3) F s2) F s1) F s) (n : Nat) (h : I n s) :
    codeAny (model prog w) A (.compLoop (sc2 elt ta ia tb ib scope pos) 1 it acc env) R s := by
  have no : ∀ {B : Value → Shared → Prop} e s, F e s → B e s := fun e s x => (hF e s x).elim
  refine codeAny_loop rfl I (fun n s hI => ?_) n h
  show wpAny _ A ((compTurn (sc2 elt ta ia tb ib scope pos) 1 it acc env).onRaise (fun x => do noteFrame x env; theTreesLotGoes x)) _ _ s
  refine wpAny_noted ?_
  rw [turn1]
  refine wpAny_bind (wpAny_standAt (wpAny_bind (wpAny_mono (turn n s hI) (fun r s1 h1 => ?_) no)))
  match r, h1 with
  | none, h1 => exact wpAny_pure h1
  | some v, h1 =>
    refine wpAny_bind (wpAny_mono h1 (fun _ s2 h2 => wpAny_bind (wpAny_mono h2 (fun _ s3 h3 => ?_) no)) no)
    exact wpAny_bind (wpAny_bind (wpAny_mono h3 (fun y s4 h4 => wpAny_bind (wpAny_standAt (wpAny_bind (wpAny_mono h4 (fun _ s5 h5 => wpAny_pure (wpAny_pure ⟨rfl, h5⟩)) no)))) no))
/-- the second clause begins -/
theorem start1 (hi : wpAny (model prog w) A (pyIter it) (fun j s' => codeAny (model prog w) A (.compLoop (sc2 elt ta ia tb ib scope pos) 1 j acc env) R s') (fun _ _ => False) s)
    (h0 : codeAny (model prog w) A (.compLoop (sc2 elt ta ia tb ib scope pos) 1 it acc env) R s) : codeAny (model prog w) A (.compStart (sc2 elt ta ia tb ib scope pos) 1 it acc env) R s := by
  refine codeAny_of_tree ?_
  show wpAny _ _ ((compStart (sc2 elt ta ia tb ib scope pos) 1 it acc env).onRaise (fun x => do noteFrame x env; standAt theWindowsPlace)) _ _ s
  refine wpAny_notedAt ?_
  show wpAny _ _ (ask >>= _) _ _ s
  refine wpAny_bind (wpAny_askSetting (wpAny_ite ?_))
  split
  · first | exact wpAny_bind (wpAny_pure (wpAny_pure ⟨rfl, h0⟩)) | exact wpAny_pure ⟨rfl, h0⟩
  · refine wpAny_bind (wpAny_rule ?_)
    show wpAny _ _ (standAt ib.pos >>= _) _ _ s
    exact wpAny_bind (wpAny_standAt (wpAny_bind (wpAny_mono hi (fun j s' h' => wpAny_pure ⟨rfl, h'⟩) fun _ _ x => x.elim)))
end
section
variable {X : Cx}
/-- one more number into the set at D -/
theorem put {pins : List (Addr × Obj)} {σ : L2.St} {H : Hp} {s : Shared} {E : Value → Shared → Prop} {D : Addr} {S : Int → Bool} {n : Nat} {c : Int} {tk : Tok} {Q : Value → Shared → Prop} (I : Inv X pins σ H s) (hD : H D = some (SetO X.w D S n)) (room : n + 1 < scanBound)
    (k : ∀ s', Inv X pins σ (upd H D (SetO X.w D (fun j => S j || decide (j = c)) (if S c = true then n else n + 1))) s' → Q .none s') : wpAny (model X.prog X.w) X.A (call (.builtin "set.add") [.ref D, .int c tk]) Q E s :=
  setR_add (setO_get I hD) room fun h' sb R' => k _ (I.write (e := D) (t' := s.toks + 1) (by rw [hD]; trivial) (.inl rfl) (fun b u hb hu => (sb.2 b hb).trans hu) (R'.elim fun o q => q.elim fun _ q => q.elim fun _ q => q.elim fun _ q => ⟨o, q.1⟩) (setO_new R'))
/-- {e for a in xs for b in ys}: D the new set; the inner walk's way leads to Nx -/
def tSc2 (w : World) (wi : TI) (g : TG) (wj : TI) (gj : TG) (te : TE) (vs us : List Nat) : TE := fun σ H Q => wi σ H fun J H1 => ∀ D, H1 D = none → ∃ W : Nat → Nat → Hp → Prop, (∃ m, W 0 m (upd H1 D (SetO w D (fun _ => false) 0))) ∧ ∀ i m G, W i m G →
  (J.stop i G ∧ Q (.ref D) G) ∨ (J.go i G ∧ ∃ Nx : Hp → Prop, (∀ G', Nx G' → ∃ k, k < m ∧ W (i + 1) k G') ∧ ∀ x G1, J.yld i G x G1 → g x (wipe σ vs) G1 fun σ2 G2 => wipe σ2 vs = wipe σ vs ∧ wj σ2 G2 fun J2 G3 => ∃ V : Nat → Nat → Hp → Prop, (∃ m, V 0 m G3) ∧ ∀ j k G4, V j k G4 →
    (J2.stop j G4 ∧ Nx G4) ∨ (J2.go j G4 ∧ ∃ Ny : Hp → Prop, (∀ G', Ny G' → ∃ l, l < k ∧ V (j + 1) l G') ∧ ∀ y G5, J2.yld j G4 y G5 → gj y (wipe σ2 us) G5 fun σ3 G6 => wipe σ3 us = wipe σ2 us ∧ te σ3 G6 fun z G7 =>
      ∃ (c : Int) (S : Int → Bool) (n : Nat), z = .int c ∧ G7 D = some (SetO w D S n) ∧ n + 1 < scanBound ∧ Ny (upd G7 D (SetO w D (fun k => S k || decide (k = c)) (if S c = true then n else n + 1)))))
theorem pe_sc2 {elt ta ia tb ib : Expr} {scope : Scope} {own : List (Str × Nat)} {us : List Nat} {pos : Pos} {wi wj : TI} {g gj : TG} {te : TE} (hc : X.calm = true) (hN : X.N.Nodup) (hi : PI X ta ia wi) (ok : BlkOk X.N X.env.scope scope own) (hu : ∀ i ∈ us, i ∈ own.map (·.2))
    (hg : ∀ (s : Shared) (H : Hp) (C : Addr) (cl : List (Str × Addr)) (fp : List Addr), PG (X.blk s H scope (compEnvC scope cl C X.env) fp) ta g)
    (hj : ∀ (s : Shared) (H : Hp) (C : Addr) (cl : List (Str × Addr)) (fp : List Addr), PI (X.blk s H scope (compEnvC scope cl C X.env) fp) tb ib wj)
    (hgj : ∀ (s : Shared) (H : Hp) (C : Addr) (cl : List (Str × Addr)) (fp : List Addr), PG (X.blk s H scope (compEnvC scope cl C X.env) fp) tb gj)
    (he : ∀ (s : Shared) (H : Hp) (C : Addr) (cl : List (Str × Addr)) (fp : List Addr), PE (X.blk s H scope (compEnvC scope cl C X.env) fp) elt te)
    (fa : ∀ x, foldedSetIterable ia X.env x = pure x := by intro _; rfl) (fb : ∀ env x, foldedSetIterable ib env x = pure x := by intro _ _; rfl) :
    PE X (sc2 elt ta ia tb ib scope pos) (tSc2 X.w wi g wj gj te (own.map (·.2)) us) := by
  refine ⟨fun pins s σ H Q I h => ?_⟩
  rw [PpSet.eval_SetComp]
  have frees : ∀ y ∈ scope.names, y.2 = .free → ∃ c, X.env.cells.lookup y.1 = some c := fun y hy e => (ok.free y hy e).elim (fun k => I.ok.has _ (.inl k)) (fun k => I.ok.has _ (.inr k))
  refine wpAny_comprehension_free rfl fa (closure_ok frees) ok.kind (fun y hy e => by rw [ok.uniq y hy, e]) (thn (hi.run pins s σ H _ I h) fun xv s1 hx => thn hx fun itv s2 ⟨it, fp, tn, J, H2, e, I2, T, st2, f2, q⟩ => ?_)
  subst e
  refine PpSet.newSet_ok (newEnv_comp ?_)
  generalize hD : s2.heap.objs.size = D
  obtain ⟨W, ⟨m0, w0⟩, turn⟩ := q D (I2.hok.fresh (Nat.le_of_eq hD))
  generalize hZ : ({ cls := .type "set", dict := none, data := .set #[] 0 (.fresh 0 0 (!X.w.params.followText "set-order")) } : Obj) = Z
  have rz : SetR X.w (s2.heap.push Z) D (fun _ => false) 0 := by rw [← hZ, ← hD]; exact setR_fresh X.w
  generalize hs3 : ({ s2 with heap := s2.heap.push Z } : Shared) = s3
  have h3 : s3.heap = s2.heap.push Z := by rw [← hs3]
  have I3 : Inv X pins σ (upd H2 D (SetO X.w D (fun _ => false) 0)) s3 := hs3 ▸ I2.laid (t' := s2.toks) (fun b o e => Heap.get?_push_of_some _ e) (Nat.le_of_eq hD) (setO_new rz)
  have f3 : ∀ b ∈ fp, FpOk X pins (upd H2 D (SetO X.w D (fun _ => false) 0)) b ∧ b < s3.heap.objs.size := fun b hb => by
    obtain ⟨o, e, _⟩ := T.obj _ _ st2 b hb
    have lt := Heap.lt_size e
    exact ⟨⟨(upd_ne (hD ▸ Nat.ne_of_lt lt)).trans (f2 b hb).1, (f2 b hb).2⟩, by rw [h3, Heap.size_push]; exact Nat.lt_succ_of_lt lt⟩
  have st3 : tn 0 s3.heap := T.keep _ _ _ st2 fun b _ o e => by rw [h3]; exact Heap.get?_push_of_some _ e
  have I4 := block_start I3 ok hN f3
  have nfp : ∀ b ∈ fp, (upd H2 D (SetO X.w D (fun _ => false) 0)) b = none := fun b hb => (f3 b hb).1.1
  generalize hH3 : upd H2 D (SetO X.w D (fun _ => false) 0) = H3 at I3 I4 w0 nfp f3
  have pg := hg s3 H3 s3.heap.objs.size (cellsFrom (s3.heap.objs.size + 1) scope.names (cloFrom X.env.cells scope.names [])) fp
  have pj := hj s3 H3 s3.heap.objs.size (cellsFrom (s3.heap.objs.size + 1) scope.names (cloFrom X.env.cells scope.names [])) fp
  have pgj := hgj s3 H3 s3.heap.objs.size (cellsFrom (s3.heap.objs.size + 1) scope.names (cloFrom X.env.cells scope.names [])) fp
  have pe := he s3 H3 s3.heap.objs.size (cellsFrom (s3.heap.objs.size + 1) scope.names (cloFrom X.env.cells scope.names [])) fp
  show codeAny _ _ (.compStart (sc2 elt ta ia tb ib scope pos) 0 (.ref it) (.ref D) (compEnvC scope (cellsFrom (s3.heap.objs.size + 1) scope.names (cloFrom X.env.cells scope.names [])) s3.heap.objs.size X.env)) _ { s3 with heap := pushCells (s3.heap.push { cls := .type "dict", data := .dict #[] }) scope.names }
  generalize hce : compEnvC scope (cellsFrom (s3.heap.objs.size + 1) scope.names (cloFrom X.env.cells scope.names [])) s3.heap.objs.size X.env = ce at I4 pg pj pgj pe ⊢
  have cL : ce.locals = s3.heap.objs.size := by subst hce; rfl
  generalize hs4 : ({ s3 with heap := pushCells (s3.heap.push { cls := .type "dict", data := .dict #[] }) scope.names } : Shared) = s4 at I4 ⊢
  have st4 : tn 0 s4.heap := T.keep _ _ _ st3 fun b _ o e => by rw [← hs4]; exact pushCells_keeps _ _ _ _ (Heap.get?_push_of_some _ e)
  have stays : ∀ {σ' : L2.St} {G : Hp} {s' : Shared}, Inv (X.blk s3 H3 scope ce fp) [] σ' G s' → (∀ b ∈ fp, G b = none) → ∀ b ∈ fp, FpOk (X.blk s3 H3 scope ce fp) [] G b := fun {σ' G s'} K hn b hb =>
    ⟨hn b hb, (K.ok.exf b hb).1, K.ok.exfs b hb, .inl hb, fun x c e => (K.ok.exf b hb).2 x c e, fun p hp => by cases hp⟩
  -- what holds ahead of each turn of the outer walk
  generalize hIo : (fun (n : Nat) (s' : Shared) => ∃ i G, Inv (X.blk s3 H3 scope ce fp) [] (wipe σ (own.map (·.2))) G s' ∧ tn i s'.heap ∧ (∀ b ∈ fp, G b = none) ∧ W i n G) = Io
  have out : ∀ n s', Io n s' ↔ ∃ i G, Inv (X.blk s3 H3 scope ce fp) [] (wipe σ (own.map (·.2))) G s' ∧ tn i s'.heap ∧ (∀ b ∈ fp, G b = none) ∧ W i n G := fun n s' => by rw [← hIo]
  clear hIo
  have whole : codeAny (model X.prog X.w) X.A (.compLoop (sc2 elt ta ia tb ib scope pos) 0 (.ref it) (.ref D) ce) (compPost (model X.prog X.w) X.A X.xe none (EP X pins σ Q) (.ref D) s3.heap.objs.size) s4 := by
    refine loop0 (fb ce) Io (F := fun _ _ => False) (fun _ _ x => x) (fun n s5 h5 => ?_) m0 ((out _ _).mpr ⟨0, H3, I4, st4, nfp, w0⟩)
    obtain ⟨i, G, I5, st5, n5, w5⟩ := (out _ _).mp h5
    rcases turn i n G w5 with ⟨stop, done⟩ | ⟨go, Nx, nxt, step⟩
    · refine thnF (T.done (X.blk s3 H3 scope ce fp) rfl rfl rfl hc i [] s5 _ G (fun _ _ => False) I5 (stays I5 n5) st5 stop) fun r s6 ⟨hr, I6⟩ => ?_
      subst hr
      have I7 : Inv X pins σ G s6 := I3.call' (ch := fp) I6.os I6.base I6.hok I6.bare fun b hb => have ⟨_, a1, a2, a3, a4, a5⟩ := (f3 b hb).1; ⟨a3, a1, a4, a5⟩
      have nC : G s3.heap.objs.size = none := cL ▸ (show G ce.locals = none from I6.free)
      obtain ⟨m, hm, _⟩ := I6.loc
      have hm : s6.heap.Ns s3.heap.objs.size m := cL ▸ (show s6.heap.Ns ce.locals m from hm)
      obtain ⟨f0, f1, f2, f3, f4, f5⟩ := I3.fpOk (Nat.le_refl _) nC
      exact ⟨m, hm, fun h'' sb => ⟨.ref D, G, I7.turned (t' := s6.toks) (fun b o hb e => (sb.2 b hb).trans e) f0 f1 f3 f4 f5, rfl, done⟩⟩
    refine thnF (T.item (X.blk s3 H3 scope ce fp) rfl rfl rfl hc i [] s5 _ G (fun _ _ => False) I5 (stays I5 n5) st5 go) fun r s6 ⟨u, hr, h6⟩ => ?_
    subst hr
    refine thnF h6 fun _ s7 ⟨x, G7, I7, r7, y7, st7, n7⟩ => ?_
    have P7 := I7.pinned (stays I7 n7) (T.obj _ _ st7)
    refine thnF (pg.run _ s7 _ G7 x u _ P7 r7 (step x G7 y7)) fun _ s8 ⟨σ8, G8, I8, e8, q8⟩ => ?_
    have len8 : (wipe σ (own.map (·.2))).length = σ8.length := by rw [← e8, wipe_length]
    have slot8 : ∀ (j : Nat) v, (wipe σ (own.map (·.2)))[j]? = some (some v) → (wipe σ8 us)[j]? = some (some v) := fun j v e => by
      rw [← e8] at e
      obtain ⟨a, b⟩ := wipe_some e
      rw [wipe_out fun z => b (hu j z)]; exact a
    refine thnF (pj.run _ s8 σ8 G8 _ I8 q8) fun xv s10 hx => thnF hx fun itv s11 ⟨it1, fp1, tn1, J1, G11, e1, I11, T1, st11, f11, V, ⟨m1, v1⟩, turn1⟩ => ?_
    subst e1
    have stays1 : ∀ {G' : Hp}, (∀ b ∈ fp1, G' b = none) → ∀ b ∈ fp1, FpOk (X.blk s3 H3 scope ce fp) ([] ++ pinsAt fp s7.heap) G' b := fun hn b hb => ⟨hn b hb, (f11 b hb).2⟩
    have inner : codeAny (model X.prog X.w) X.A (.compLoop (sc2 elt ta ia tb ib scope pos) 1 (.ref it1) (.ref D) ce) (fun r s' => (∃ f, r = .ok f) ∧ ∃ m, m < n ∧ Io m s') s11 := by
      refine loop1 (fun k s' => ∃ j G, Inv (X.blk s3 H3 scope ce fp) ([] ++ pinsAt fp s7.heap) (wipe σ8 us) G s' ∧ tn1 j s'.heap ∧ (∀ b ∈ fp1, G b = none) ∧ V j k G) (F := fun _ _ => False) (fun _ _ x => x) ?_ m1
        ⟨0, G11, I11.weak (wipe_length _ _) (fun j v e => (wipe_some e).1), st11, fun b hb => (f11 b hb).1, v1⟩
      rintro k s12 ⟨j, G12, I12, st12, n12, v12⟩
      rcases turn1 j k G12 v12 with ⟨stop1, nx⟩ | ⟨go1, Ny, nyt, step1⟩
      · refine thnF (T1.done (X.blk s3 H3 scope ce fp) rfl rfl rfl hc j _ s12 (wipe σ8 us) G12 (fun _ _ => False) I12 (stays1 n12) st12 stop1) fun r s13 ⟨hr, I13⟩ => ?_
        subst hr
        obtain ⟨m', lt, w'⟩ := nxt G12 nx
        have pin : ∀ b ∈ fp, ∀ o, s7.heap.get? b = some o → s13.heap.get? b = some o ∧ G12 b = none := fun b hb o e =>
          have z := I13.pin (b, o) (List.mem_append_right _ (List.mem_append_right _ (mem_pinsAt hb e)))
          ⟨z.1, z.2.1⟩
        exact ⟨⟨_, rfl⟩, m', lt, (out _ _).mpr ⟨i + 1, G12, (I13.unpinned (pins := [])).weak (len8.trans (wipe_length σ8 us).symm) slot8, T.keep _ _ _ st7 fun b hb o e => (pin b hb o e).1,
          fun b hb => (T.obj _ _ st7 b hb).elim fun o z => (pin b hb o z.1).2, w'⟩⟩
      refine thnF (T1.item (X.blk s3 H3 scope ce fp) rfl rfl rfl hc j _ s12 (wipe σ8 us) G12 (fun _ _ => False) I12 (stays1 n12) st12 go1) fun r s13 ⟨u1, hr, h13⟩ => ?_
      subst hr
      refine thnF h13 fun _ s14 ⟨y, G14, I14, r14, y14, st14, n14⟩ => ?_
      have P14 := I14.pinned (stays1 n14) (T1.obj _ _ st14)
      refine thnF (pgj.run _ s14 (wipe σ8 us) G14 y u1 _ P14 r14 (step1 y G14 y14)) fun _ s15 ⟨σ15, G15, I15, e15, q15⟩ => ?_
      refine thnF (pe.run _ s15 σ15 G15 _ I15 q15) fun z s16 ⟨yv, G16, I16, r16, c, S, cnt, ez, hset, room, ny⟩ => ?_
      subst ez
      obtain ⟨tk, rfl⟩ := r16
      refine put (X := X.blk s3 H3 scope ce fp) I16 hset room fun s17 I17 => ?_
      obtain ⟨l, lt, v'⟩ := nyt _ ny
      have pin : ∀ b ∈ fp1, ∀ o, s14.heap.get? b = some o → s17.heap.get? b = some o ∧ (upd G16 D (SetO X.w D (fun j => S j || decide (j = c)) (if S c = true then cnt else cnt + 1))) b = none := fun b hb o e =>
        have z := I17.pin (b, o) (List.mem_append_right _ (List.mem_append_right _ (mem_pinsAt hb e)))
        ⟨z.1, z.2.1⟩
      exact ⟨l, lt, j + 1, _, I17.unpinned.weak (by rw [← e15, wipe_length]) (fun j v e => by rw [← e15] at e; exact (wipe_some e).1), T1.keep _ _ _ st14 fun b hb o e => (pin b hb o e).1,
        fun b hb => (T1.obj _ _ st14 b hb).elim fun o z => (pin b hb o z.1).2, v'⟩
    exact start1 (T1.self X.A 0 _ _ _ st11 inner) inner
  exact PpSet.codeAny_compStart_set whole (T.self X.A 0 _ _ _ st4 whole)
/-- sorted(s), s a set of whole numbers -/
def rSortS (w : World) : List V → Hp → VK → Prop := fun vs H Q => ∃ (a : Addr) (S : Int → Bool) (n : Nat), vs = [V.ref a] ∧ H a = some (SetO w a S n) ∧
  ∀ (ns : List Int) (p : Addr), ns.Pairwise (· < ·) → (∀ k : Int, k ∈ ns ↔ S k = true) → ns.length = n → H p = none → Q (.ref p) (upd H p (.lst (ns.map V.int)))
theorem cr_sortS (hc : X.calm = true) : CallR X (.builtin "sorted") (rSortS X.w) := by
  intro pins s σ H vs us Q I r h
  obtain ⟨a, S, n, rfl, ha, q⟩ := h
  rw [Vals.ref1 r]
  obtain ⟨o, es, ep, t, ho, hex, hd, good, nd, mem, hb, fits, cnt, ris, led⟩ := setO_get I ha
  refine Calls.call_function_entry kind_sorted plain_sorted entry_sorted (args_sorted1 _) ?_
  show wpAny _ _ (checkCount "sorted" 1 1 _ >>= _) _ _ s
  refine wpAny_bind (wpAny_pure (wpAny_bind (collect_set (A := X.A.in1) (I.ok.hd hc) ⟨o, ho, hex.1, hd⟩ fits hb ris led fun s1 vs old up g1 o1 pm => ?_)))
  have len : vs.length = n := by rw [pm.length_eq, List.length_map, Array.length_toList]; exact cnt
  have small : vs.length ≤ sizeLine := by rw [len, ← cnt]; exact fits_of_scanBound hb
  have hI : IntsAre vs (vs.map SrtO.iv) := SrtO.ints_iv fun v hv => by
    obtain ⟨e, he, rfl⟩ := List.mem_map.mp (pm.mem_iff.mp hv)
    obtain ⟨k, tk, h1, _⟩ := good e he
    exact ⟨k, tk, h1⟩
  have keys : (vs.map SrtO.iv).Perm (es.toList.map keyOf) := by
    have z := pm.map SrtO.iv
    rwa [List.map_map] at z
  refine wpAny_bind (wpAny_newList ?_ small)
  have hl : (s1.heap.push (seqObj "list" vs.toArray 0)).get? s1.heap.objs.size = some (seqObj "list" vs.toArray 0) := Heap.get?_push_size _ rfl
  refine wpAny_bind (wpAny_holding (wpAny_call_entry slot_list_sort ⟨_, hl, rfl⟩ entry_list_sort (SrtO.list_sort_ord SrtO.swo_int hl small (fun h2 => SrtO.ints_sortable hI h2) fun out a1 a2 => ⟨_, rfl, ?_⟩) (args_list_sort _)))
  obtain ⟨k1, k2, k3⟩ := SrtO.ints_out hI a1 a2
  obtain ⟨c, hc'⟩ := sortedHeap_at (vs := vs) (out := out.toArray) hl
  have pn := k2.trans keys
  have keep : ∀ b u, s.heap.get? b = some u → (sortedHeap (s1.heap.push (seqObj "list" vs.toArray 0)) s1.heap.objs.size vs out.toArray).get? b = some u := fun b u e => by
    have lt := Heap.lt_size (old b u e)
    rw [sortedHeap_old (Nat.ne_of_lt lt) (by rw [size_push']; exact Nat.lt_succ_of_lt lt)]
    exact Heap.get?_push_of_some _ (old b u e)
  have none : H s1.heap.objs.size = none := I.hok.fresh up
  have J : Inv X pins σ (upd H s1.heap.objs.size (.lst ((out.map SrtO.iv).map V.int))) { s1 with heap := sortedHeap (s1.heap.push (seqObj "list" vs.toArray 0)) s1.heap.objs.size vs out.toArray } :=
    I.call' (ch := []) o1 (Un.laid keep up none) (I.hok.laid keep up ⟨by rw [List.length_map, k2.length_eq, List.length_map]; exact small, out, c, vals_of_ints k1, hc'⟩) (show AllBare s1.gens from g1 ▸ I.bare) (fun _ z => nomatch z)
  exact wpAny_pure ⟨_, rfl, .ref s1.heap.objs.size, _, J, rfl, q _ _ (lt_of_le_nodup _ k3 (pn.nodup_iff.mpr nd)) (fun k => (pn.mem_iff.trans (mem k).symm)) (by rw [pn.length_eq, List.length_map, Array.length_toList]; exact cnt) none⟩
end
end SC2

set_option Elab.async false
set_option linter.all false
set_option maxRecDepth 100000
set_option maxHeartbeats 2000000
/-! sorted(e, key=lambda x: x[0] * n // x[1]): e a list of pairs of whole numbers, n a captured whole number -/
namespace KY
open PySem PySem.Spec PyProof.Rows L2 LamX

/-- the function object that a lambda made -/
def FunO (f : Addr) (o : Obj) : HO := .ext fun h => h.get? f = some o
theorem funO_ok {w : World} {P : Program} {H : Hp} {h : Heap} {f : Addr} {o : Obj} (e : h.get? f = some o) : ObjOk P w H h f (FunO f o) := ⟨e, ⟨o, e⟩, fun h1 h2 z k => k o z⟩
/-- the body -/
abbrev body2 (one n : Str) (p1 p2 p3 p4 p5 p6 p7 p8 p9 : Pos) (k1 k2 : Nat) : Expr :=
  .BinOp (.BinOp (.Subscript (.Name one p1) (.Constant (.int 0) k1 p2) p3) .Mult (.Name n p4) p5) .FloorDiv (.Subscript (.Name one p6) (.Constant (.int 1) k2 p7) p8) p9
section
variable {prog : Program} {w : World} {A : Around} {s : Shared}
theorem turn {one n : Str} {p1 p2 p3 p4 p5 p6 p7 p8 p9 : Pos} {k1 k2 : Nat} {name qual : Str} {params : Arguments} {scope : Scope} {cl : List (Str × Addr)} {pm ctv : Value} {c' f cw t : Addr} {p q N : Int} {tp tq tN : Tok} {oc : Obj} {vs : Array Value} {tc : Tok}
    (hf : s.heap.get? f = some (PySem.W.kla_obj name qual params (body2 one n p1 p2 p3 p4 p5 p6 p7 p8 p9 k1 k2) scope cl pm c' ctv)) (hoc : s.heap.get? c' = some oc) (hdc : oc.data = .fields vs) (hvc : vs[1]? = some (.str qual tc))
    (hcl : cl.lookup n = some cw) (hcell : s.heap.IsCell cw (some (.int N tN))) (ht : IsTup s.heap t #[.int p tp, .int q tq]) (hd : A.depth < recursionLimit) (hlim : s.heap.NoLimit)
    (hco : scope.isCoroutine = false) (hgen : scope.isGenerator = false) (hk : scope.kind = .function) (hone : scope.names.lookup one = some .local) (hn : scope.names.lookup n = some .free) (hnc : ∀ y ∈ scope.names, y.2 ≠ .cell)
    (hbind : ∀ v, bindArgs (PySem.W.kla_fn name qual params (body2 one n p1 p2 p3 p4 p5 p6 p7 p8 p9 k1 k2) scope cl pm (.ref c') ctv) ⟨[v], []⟩ = pure [(one, v)])
    (d1 : (one == ("__debug__" : Str)) = false) (d2 : (n == ("__debug__" : Str)) = false) (d3 : (n == ("__classdict__" : Str)) = false) (hm : IntMulOk p N) (hq : q ≠ 0) (hqs : q.natAbs.log2 < 9000) :
    wpAny (model prog w) A (call (.ref f) [.ref t]) (PySem.W.KeyPure (.int ((p * N).fdiv q)) s) (fun _ _ => False) s := by
  refine wpAny_call (PySem.W.kla_callFunE hd hf rfl hco hgen rfl ⟨c', oc, vs, tc, rfl, hoc, hdc, hvc⟩ ?_)
  rw [hbind]
  refine wpAny_pure (wpAny_newFunctionEnv hnc (fun x hx => by rw [List.mem_singleton.mp hx]; exact hone) (fun h₁ hns hsb => ⟨hlim.fresh _ hsb, ?_⟩) hk)
  have keep : ∀ b o, s.heap.get? b = some o → h₁.get? b = some o := fun b o e => hsb.extBut b o (Nat.ne_of_lt (Heap.lt_size e)) (Heap.get?_push_of_some _ e)
  have t1 : IsTup h₁ t #[.int p tp, .int q tq] := by
    obtain ⟨o, a, b⟩ := ht
    exact ⟨o, keep _ _ a, b⟩
  have c1 : h₁.IsCell cw (some (.int N tN)) := by
    obtain ⟨o, a, b⟩ := hcell
    exact ⟨o, keep _ _ a, b⟩
  refine PySem.W.kla_codeExpr (wpAny_BinOp (wpAny_BinOp (Subscript_ (wpAny_Name (wpAny_loadName_local (v := .ref t) hk hone hns (by simp) ?_) d1))))
  refine wpAny_Constant_int (item_tuple t1 (by decide) (by decide) (j := 0) (x := .int p tp) rfl rfl (wpAny_Name (wpAny_loadName_free hk hn hcl c1 (mul_int ?_ hm) d3) d2))
  refine Subscript_ (wpAny_Name (wpAny_loadName_local (v := .ref t) hk hone hns (by simp) ?_) d1)
  refine wpAny_Constant_int (item_tuple t1 (by decide) (by decide) (j := 1) (x := .int q tq) rfl rfl (floordiv_int hq ?_ (.inl (PyProof.noPylong_of_log2 hqs))))
  exact ⟨h₁, _, rfl, keep, .int _ _⟩
end
section
variable {X : Cx} {pins : List (Addr × Obj)} {σ : L2.St} {H : Hp} {s : Shared}
theorem ext_seqT {K : PySem.W.Frag} {G G' : Hp} {a : Addr} {xs : List V} (k : ExtN G G') (h : SqT K G a xs) : SqT K G' a xs := by
  rcases h with (h | ⟨o, h⟩) | h
  · exact .inl (.inl (k a _ h fun _ z => by cases z))
  · exact .inl (.inr ⟨o, k a _ h fun _ z => by cases z⟩)
  · exact .inr h
theorem ext_seqL {K : PySem.W.Frag} {G G' : Hp} {a : Addr} {xs : List V} (k : ExtN G G') (h : SqL K G a xs) : SqL K G' a xs := by
  rcases h with (h | ⟨o, h⟩) | h
  · exact .inl (.inl (k a _ h fun _ z => by cases z))
  · exact .inl (.inr ⟨o, k a _ h fun _ z => by cases z⟩)
  · exact .inr h
theorem each_of : ∀ {fs : List (Addr × Int × Int)} {us : List Value}, Vals (fs.map fun e => V.ref e.1) us → PySem.W.EachIs (fun v (e : Addr × Int × Int) => v = Value.ref e.1) us fs
  | [], _, .nil => .nil
  | e :: fs, _, .cons r rest => .cons r (each_of rest)
theorem of_each : ∀ {fs : List (Addr × Int × Int)} {us : List Value}, PySem.W.EachIs (fun v (e : Addr × Int × Int) => v = Value.ref e.1) us fs → Vals (fs.map fun e => V.ref e.1) us
  | _, _, .nil => .nil
  | _, _, .cons r rest => .cons r (of_each rest)
/-- by the key -/
def keyI (N : Int) (e : Addr × Int × Int) : Int := (e.2.1 * N).fdiv e.2.2
def byKey (N : Int) (fs : List (Addr × Int × Int)) : List (Addr × Int × Int) := fs.mergeSort fun a b => decide (keyI N a ≤ keyI N b)
def tSortLam (K : PySem.W.Frag) (TL : List (Addr × Str)) (iw : Nat) (ta : TA) : TE := fun σ H Q => ta σ H fun vs H1 => Tabs TL H1 ∧ ∃ (l : Addr) (fs : List (Addr × Int × Int)) (N : Int), vs = [.ref l] ∧ SqL K H1 l (fs.map fun e => V.ref e.1) ∧ σ[iw]? = some (some (.int N)) ∧
  (∀ e ∈ fs, SqT K H1 e.1 [.int e.2.1, .int e.2.2] ∧ IntMulOk e.2.1 N ∧ e.2.2 ≠ 0 ∧ e.2.2.natAbs.log2 < 9000) ∧
  ∀ D Hm H2, ExtN H1 Hm → Tabs TL Hm → (∀ b o, Hm b = some o → H2 b = some o) → Hm D = none → H2 D = some (.lst ((byKey N fs).map fun e => V.ref e.1)) → Q (.ref D) H2
theorem pe_sortLam {TL : List (Addr × Str)} {c P : Addr} {e : Expr} {ta : TA} {one n : Str} {p1 p2 p3 p4 p5 p6 p7 p8 p9 : Pos} {k1 k2 : Nat} {params : Arguments} {scope : Scope} {p pos lpos kpos : Pos} {iw : Nat} (hc : X.calm = true)
    (hg : Gl X "sorted") (hm : X.mg "sorted" = none) (TB : TabB X.base X.mg c P) (hcode : X.env.code = .ref c) (hmT : (P, X.env.qual ++ "<lambda>") ∈ TL) (hu : ∀ p ∈ TL, p.1 = P → p.2 = X.env.qual ++ "<lambda>") (hr : Room 3 X.A) (ha : PA X [e] ta)
    (hiw : X.N[iw]? = some n) (hvis : X.env.scope.names.lookup n = some .cell)
    (hco : scope.isCoroutine = false) (hgen : scope.isGenerator = false) (hk : scope.kind = .function) (hone : scope.names.lookup one = some .local) (hn : scope.names.lookup n = some .free) (hnc : ∀ y ∈ scope.names, y.2 ≠ .cell) (hfr : ∀ y ∈ scope.names, y.2 = .free → y.1 = n)
    (hdef : defaultsOf params X.env = ([], []))
    (hbind : ∀ (v : Value) (q : Str) (cl : List (Str × Addr)) (pm cv ctv : Value), bindArgs (PySem.W.kla_fn "<lambda>" q params (body2 one n p1 p2 p3 p4 p5 p6 p7 p8 p9 k1 k2) scope cl pm cv ctv) ⟨[v], []⟩ = pure [(one, v)])
    (d1 : (one == ("__debug__" : Str)) = false) (d2 : (n == ("__debug__" : Str)) = false) (d3 : (n == ("__classdict__" : Str)) = false)
    (he : backTo pos (starEach [e] X.env) = (false, eval e X.env) :: backTo pos (starEach [] X.env) := by rfl) (hpl : (backTo pos (starEach [e] X.env)).any (·.1) = false := by rfl) :
    PE X (.Call (.Name "sorted" p) [e] [⟨some "key", .Lambda params (body2 one n p1 p2 p3 p4 p5 p6 p7 p8 p9 k1 k2) scope lpos, kpos⟩] pos) (tSortLam X.K TL iw ta) := by
  refine ⟨fun pins s σ H Q I h => ?_⟩
  refine wpAny_Call_Name_kw (ld_blt I hg hm (by decide +kernel : bootBuiltins "sorted" = some (.builtin "sorted")) ?_ (by decide) (by decide))
  have hfree : ∀ y ∈ scope.names, y.2 = .free → ∃ c, X.env.cells.lookup y.1 = some c := fun y hy e => by rw [hfr y hy e]; exact I.ok.has _ (.inl hvis)
  refine PyProof.Rows.callWith_kw (thn (ha.run pos pins s σ H _ I h) fun us s1 ⟨vs, H1, I1, r1, T1, l, fs, N, ev, hl, hN, hfs, q⟩ => ?_) he hpl (by rfl) (by rfl)
  subst ev
  show wpAny _ _ (evalAll [do let v ← eval (.Lambda params (body2 one n p1 p2 p3 p4 p5 p6 p7 p8 p9 k1 k2) scope lpos) X.env; standAt pos; pure v]) _ _ s1
  refine wpAny_evalAll_cons (wpAny_bind (lam_make2 I1 TB hcode hmT hu T1 hdef hfree fun f c' pm ctv H2 s2 I2 x2 T2 of nf _ hco' => wpAny_bind (wpAny_standAt (wpAny_pure (wpAny_evalAll_nil ?_)))))
  rw [Vals.ref1 r1]
  obtain ⟨its, rv, hlist, hz⟩ := I2.list (ext_seqL x2 hl)
  obtain ⟨m, hns, look⟩ := I2.loc
  obtain ⟨u, ru, qu⟩ := look iw n _ hiw hN (.inr (.inl hvis))
  obtain ⟨tN, rfl⟩ := ru
  rcases qu with ⟨k', _⟩ | ⟨_, cw, ecw, hcw⟩
  · have k' : X.env.scope.names.lookup n = some .local := k'
    rw [hvis] at k'; cases k'
  have mem : (n, NameKind.free) ∈ scope.names := PySem.mem_of_lookup hn
  have hcl : (cloFrom X.env.cells scope.names []).lookup n = some cw := by
    obtain ⟨c2, h2⟩ := mem_lookup (cloFrom_has (cells := X.env.cells) (acc := []) mem)
    rcases cloFrom_mem (PySem.mem_of_lookup h2) with z | ⟨_, z⟩
    · cases z
    · have ecw : X.env.cells.lookup n = some cw := ecw
      rw [ecw] at z
      rw [h2, z]; rfl
  have obj : ∀ e ∈ fs, ∃ tp tq, IsTup s2.heap e.1 #[.int e.2.1 tp, .int e.2.2 tq] := fun e he => by
    obtain ⟨us, ru, hu, _⟩ := I2.tuple (ext_seqT x2 (hfs e he).1)
    obtain ⟨w1, w2, rfl, ⟨t1, rfl⟩, ⟨t2, rfl⟩⟩ := vals2 ru
    exact ⟨t1, t2, hu⟩
  have cr : ∃ (oc : Obj) (vs : Array Value) (t : Tok), s2.heap.get? c' = some oc ∧ oc.data = .fields vs ∧ vs[1]? = some (.str (X.env.qual ++ "<lambda>") t) := (I2.hok c' _ hco').1
  obtain ⟨oc, vc, tc, hoc, hdc, hvc⟩ := cr
  have small : fs.length ≤ sizeLine := by rw [List.length_map] at hz; exact hz
  refine PySem.W.sorted_key_data (b := false) (fun e : Addr × Int × Int => PyData.int (keyI N e)) hlist.isList (each_of rv) (PySem.W.AllAlike.of (enc := fun e : Addr × Int × Int => PyData.int (keyI N e)) fun _ _ => rfl) (PySem.W.Sortable.others (enc := fun e : Addr × Int × Int => PyData.int (keyI N e)) fun _ => ⟨fun z => PyData.noConfusion z, fun _ z => PyData.noConfusion z⟩) small
    (fun x _ => Nat.lt_of_le_of_lt (Nat.add_le_add_left (show 2 ≤ 64 by decide) _) hr.units) (ksk_s1 _ _) (fun _ => ksk_l1 _ _) (fun _ => ksk_t1 _ _) (fun v x hv hx h tk keep => ?_) fun out k3 h' tk keep fresh hD lo eo => ?_
  · rw [hv]
    obtain ⟨tp, tq, o, ho, hrest⟩ := obj x hx
    obtain ⟨o2, hc2, hd2⟩ := hcw
    obtain ⟨_, okm, nz, sm⟩ := hfs x hx
    exact turn (s := { s2 with heap := h, toks := tk }) (keep _ _ of) (keep _ _ hoc) hdc hvc hcl ⟨o2, keep _ _ hc2, hd2⟩ ⟨o, keep _ _ ho, hrest⟩ hr.depth (I2.nolimit.keeps keep) hco hgen hk hone hn hnc (fun v => hbind v _ _ _ _ _) d1 d2 d3 okm nz sm
  · have eo : PySem.W.EachIs (fun v (e : Addr × Int × Int) => v = Value.ref e.1) out (byKey N fs) := by
      rw [show PySem.W.dataLe false (fun e : Addr × Int × Int => PyData.int (keyI N e)) = _ from PySem.W.dataLe_int (keyI N)] at eo
      exact eo
    have len : (byKey N fs).length = fs.length := List.length_mergeSort ..
    refine ⟨.ref (s2.heap.objs.size + 1), upd H2 (s2.heap.objs.size + 1) (.lst ((byKey N fs).map fun e => V.ref e.1)), I2.laid (t' := tk) keep (Nat.le_succ _) ⟨by rw [List.length_map, len]; exact small, out, k3, of_each eo, hD⟩, rfl, ?_⟩
    have n2 : H2 (s2.heap.objs.size + 1) = none := I2.hok.fresh (Nat.le_succ _)
    exact q _ H2 _ x2 T2 (fun b o e => by rw [upd_ne (ne_of_none e n2)]; exact e) n2 upd_same
end
end KY

set_option Elab.async false
set_option linter.all false
set_option maxRecDepth 100000
set_option maxHeartbeats 2000000
/-! dict(zip(a, b)): a a list or a tuple of texts, b a tuple -/
namespace LK
open PySem PySem.Spec PyProof.Rows L2
/-- a zip whose tuple is still out, at one point of time -/
structure ZD (z TI TO i1 i2 : Addr) (I1 I2 : Nat → Heap → Prop) (C1 C2 : Array Value → Heap → Prop) (xs ys : Array Value) (h : Heap) (T : Addr) (f : Bool) (k : Nat) : Prop where
  oz : IsZipHeld h z TI TO T f
  ti : IsPair h TI (.ref i1) (.ref i2)
  j1 : I1 k h
  j2 : I2 k h
  c1 : C1 xs h
  c2 : C2 ys h
section
variable {prog : Program} {w : World} {A : Around} {E : Value → Shared → Prop} {s : Shared} {z TI TO i1 i2 l1 l2 T : Addr} {I1 I2 : Nat → Heap → Prop} {C1 C2 : Array Value → Heap → Prop} {xs ys : Array Value} {f : Bool} {k : Nat} {h g : Heap} {oT : Obj}
theorem ZD.onZ (D : ZipApart z TI TO i1 i2 l1 l2) (S1 : Src prog w i1 l1 I1 C1) (S2 : Src prog w i2 l2 I2 C2) (q : ZD z TI TO i1 i2 I1 I2 C1 C2 xs ys h T f k) (e : Heap.ExtBut z h g) {f' : Bool} (n : IsZipHeld g z TI TO T f') : ZD z TI TO i1 i2 I1 I2 C1 C2 xs ys g T f' k :=
  ⟨n, e _ _ D.TIz q.ti, S1.mvI q.j1 fun o => e _ o D.i1z, S2.mvI q.j2 fun o => e _ o D.i2z, S1.mvC q.c1 fun o => e _ o D.l1z, S2.mvC q.c2 fun o => e _ o D.l2z⟩
theorem zd_turn {x y : Value} {Q : Option Value → Shared → Prop} (D : ZipApart z TI TO i1 i2 l1 l2) (S1 : Src prog w i1 l1 I1 C1) (S2 : Src prog w i2 l2 I2 C2) (q0 : ZD z TI TO i1 i2 I1 I2 C1 C2 xs ys s.heap T f k) (hT : s.heap.get? T = some oT) (hx : xs[k]? = some x) (hy : ys[k]? = some y)
    (K : ∀ g, ZD z TI TO i1 i2 I1 I2 C1 C2 xs ys g T true (k + 1) → IsPair g s.heap.objs.size x y → (∀ c o, c ≠ z → c ≠ i1 → c ≠ i2 → s.heap.get? c = some o → g.get? c = some o) → Q (some (.ref s.heap.objs.size)) { s with heap := g }) :
    wpAny (model prog w) A (pyNext (.ref z)) Q E s := by
  have ty : s.TypeIs (.ref z) "zip" := ⟨_, q0.oz, rfl⟩
  unfold pyNext
  refine wpAny_bind (wpAny_attempt (wpAny_callSpecial?_slot (name := Str.ofString "__next__") ty F.slot_zip_next (wpAny_call_entry F.slot_zip_next ty F.entry_zip_next ?_ (F.args_zip_next_1 _))))
  show wpAny (model prog w) _ (field (.ref z) 2 >>= _) _ _ _
  refine wpAny_bind (wpAny_field q0.oz rfl (x := .bool false) rfl ?_)
  show wpAny (model prog w) _ (field (.ref z) 3 >>= _) _ _ _
  refine wpAny_bind (wpAny_field q0.oz rfl (x := .ref TI) rfl (wpAny_bind (wpAny_seqItems q0.ti rfl ?_)))
  show wpAny (model prog w) _ (Builtin.SmallTypes.ownedTupleIsFree (.ref z) >>= _) _ _ _
  refine wpAny_bind (wpAny_tupleHeld_zip q0.oz hT fun g1 z1 e1 => ?_)
  have q1 := q0.onZ D S1 S2 e1.extBut z1
  simp only [Bool.false_eq_true, if_false]
  refine wpAny_bind ?_
  rw [← Array.forIn_toList]
  simp only [List.forIn_cons, List.forIn_nil]
  refine wpAny_bind (wpAny_bind (wpAny_holding ?_))
  show wpAny (model prog w) _ (Builtin.SmallTypes.nextOf (.ref i1) >>= _) _ _ _
  refine wpAny_bind (S1.more q1.j1 q1.c1 hx fun g2 n2 e2 => wpAny_pure (wpAny_pure (wpAny_bind (wpAny_bind (wpAny_holding ?_)))))
  have j2 := S2.mvI q1.j2 fun o => e2.extBut _ o D.i12.symm
  have c2 := S2.mvC q1.c2 fun o => e2.extBut _ o D.l2i1
  show wpAny (model prog w) _ (Builtin.SmallTypes.nextOf (.ref i2) >>= _) _ _ _
  refine wpAny_bind (S2.more j2 c2 hy fun g3 n3 e3 => wpAny_pure (wpAny_pure (wpAny_pure ?_)))
  show wpAny (model prog w) _ (newTuple [x, y] >>= _) _ _ _
  refine wpAny_bind (wpAny_newTuple (wpAny_pure ⟨_, rfl, ?_⟩))
  have sz : g3.objs.size = s.heap.objs.size := by rw [e3.1, e2.1, e1.1]
  have up : ∀ c o, g3.get? c = some o → (g3.push { cls := .type "tuple", data := .seq #[x, y] }).get? c = some o := fun c o e => Heap.get?_push_of_some _ e
  have q3 : ZD z TI TO i1 i2 I1 I2 C1 C2 xs ys (g3.push { cls := .type "tuple", data := .seq #[x, y] }) T true (k + 1) :=
    ⟨up _ _ (e3.extBut _ _ D.i2z.symm (e2.extBut _ _ D.i1z.symm q1.oz)), up _ _ (e3.extBut _ _ D.TIi2 (e2.extBut _ _ D.TIi1 q1.ti)), S1.mvI n2 fun o e => up _ o (e3.extBut _ o D.i12 e), S2.mvI n3 fun o e => up _ o e,
      S1.mvC q1.c1 fun o e => up _ o (e3.extBut _ o D.l1i2 (e2.extBut _ o D.l1i1 e)), S2.mvC c2 fun o e => up _ o (e3.extBut _ o D.l2i2 e)⟩
  have pr : IsPair (g3.push { cls := .type "tuple", data := .seq #[x, y] }) g3.objs.size x y := Heap.get?_push_size _ rfl
  rw [sz] at pr
  show wpAny _ _ _ _ _ _
  have := K _ q3 pr fun c o n1 n2 n3 e => up _ _ (e3.extBut _ _ n3 (e2.extBut _ _ n2 (e1.extBut _ _ n1 e)))
  rw [← sz] at this
  exact wpAny_pure this
theorem zd_stop {Q : Option Value → Shared → Prop} (hh : A.handled = none) (D : ZipApart z TI TO i1 i2 l1 l2) (S1 : Src prog w i1 l1 I1 C1) (S2 : Src prog w i2 l2 I2 C2) (q0 : ZD z TI TO i1 i2 I1 I2 C1 C2 xs ys s.heap T f k) (hT : s.heap.get? T = some oT) (he : xs[k]? = none ∨ ys[k]? = none)
    (K : ∀ g, (∀ c o, c ≠ z → c ≠ i1 → c ≠ i2 → s.heap.get? c = some o → g.get? c = some o) → Q none { s with heap := g }) : wpAny (model prog w) A (pyNext (.ref z)) Q E s := by
  have ty : s.TypeIs (.ref z) "zip" := ⟨_, q0.oz, rfl⟩
  have fin : ∀ (g : Heap) (e : Addr), (∀ c o, c ≠ z → c ≠ i1 → c ≠ i2 → s.heap.get? c = some o → g.get? c = some o) → (∃ o, g.get? e = some o ∧ o.cls = .type "StopIteration") →
      wpAny (model prog w) A (isInstance (.ref e) (.type "StopIteration") >>= fun b => if b = true then pure none else throw (Value.ref e)) Q E { s with heap := g } := fun g e k ⟨o, h1, h2⟩ =>
    wpAny_bind (wpAny_isInstance (T := "StopIteration") (b := true) ⟨o, h1, h2⟩ isSubtype_stop (wpAny_pure (K g k)))
  unfold pyNext
  refine wpAny_bind (wpAny_attempt (wpAny_callSpecial?_slot (name := Str.ofString "__next__") ty F.slot_zip_next (wpAny_call_entry F.slot_zip_next ty F.entry_zip_next ?_ (F.args_zip_next_1 _))))
  show wpAny (model prog w) _ (field (.ref z) 2 >>= _) _ _ _
  refine wpAny_bind (wpAny_field q0.oz rfl (x := .bool false) rfl ?_)
  show wpAny (model prog w) _ (field (.ref z) 3 >>= _) _ _ _
  refine wpAny_bind (wpAny_field q0.oz rfl (x := .ref TI) rfl (wpAny_bind (wpAny_seqItems q0.ti rfl ?_)))
  show wpAny (model prog w) _ (Builtin.SmallTypes.ownedTupleIsFree (.ref z) >>= _) _ _ _
  refine wpAny_bind (wpAny_tupleHeld_zip q0.oz hT fun g1 z1 e1 => ?_)
  have q1 := q0.onZ D S1 S2 e1.extBut z1
  simp only [Bool.false_eq_true, if_false]
  refine wpAny_bind ?_
  rw [← Array.forIn_toList]
  simp only [List.forIn_cons, List.forIn_nil]
  refine wpAny_bind (wpAny_bind (wpAny_holding ?_))
  show wpAny (model prog w) _ (Builtin.SmallTypes.nextOf (.ref i1) >>= _) _ _ _
  by_cases hx : xs[k]? = none
  · refine wpAny_bind (S1.over hh q1.j1 q1.c1 hx fun g2 e e2 so => ?_)
    exact fin g2 e (fun c o n1 n2 _ h => e2 _ _ n2 (e1.extBut _ _ n1 h)) so
  · obtain ⟨x, hx1⟩ := Option.ne_none_iff_exists'.mp hx
    refine wpAny_bind (S1.more q1.j1 q1.c1 hx1 fun g2 n2 e2 => wpAny_pure (wpAny_pure (wpAny_bind (wpAny_bind (wpAny_holding ?_)))))
    show wpAny (model prog w) _ (Builtin.SmallTypes.nextOf (.ref i2) >>= _) _ _ _
    refine wpAny_bind (S2.over hh (S2.mvI q1.j2 fun o => e2.extBut _ o D.i12.symm) (S2.mvC q1.c2 fun o => e2.extBut _ o D.l2i1) (he.resolve_left hx) fun g3 e e3 so => ?_)
    exact fin g3 e (fun c o n1 n2 n3 h => e3 _ _ n3 (e2.extBut _ _ n2 (e1.extBut _ _ n1 h))) so
/-- what the sources need beside: that their things stand -/
theorem pairs_zip (D : ZipApart z TI TO i1 i2 l1 l2) (S1 : Src prog w i1 l1 I1 C1) (S2 : Src prog w i2 l2 I2 C2) (t1 : ∀ h, C1 xs h → ∃ o, h.get? l1 = some o) (t2 : ∀ h, C2 ys h → ∃ o, h.get? l2 = some o) :
    PairArg prog w "zip" z [z, TI, TO, i1, i2, l1, l2] [z, TO, i1, i2] (min xs.size ys.size) (fun i k v => xs[i]? = some k ∧ ys[i]? = some v) (fun h => ∃ a b, ZS z TI TO i1 i2 I1 I2 C1 C2 xs ys h .none a b 0 0) where
  type := fun s ⟨_, _, q⟩ => ⟨_, q.oz, rfl⟩
  notDict := by decide
  keep := fun h h' ⟨a, b, q⟩ hk => ⟨a, b, hk _ _ q.oz, hk _ _ q.ti, hk _ _ q.tt, S1.mvI q.j1 (hk _), S2.mvI q.j2 (hk _), S1.mvC q.c1 (hk _), S2.mvC q.c2 (hk _)⟩
  there := fun h ⟨a, b, q⟩ c hc => by
    obtain ⟨o1, _, e1, _⟩ := S1.fld q.j1
    obtain ⟨o2, _, e2, _⟩ := S2.fld q.j2
    obtain ⟨o3, e3⟩ := t1 h q.c1
    obtain ⟨o4, e4⟩ := t2 h q.c2
    simp only [List.mem_cons, List.not_mem_nil, or_false] at hc
    rcases hc with rfl | rfl | rfl | rfl | rfl | rfl | rfl
    · exact ⟨_, q.oz⟩
    · exact ⟨_, q.ti⟩
    · exact ⟨_, q.tt⟩
    · exact ⟨_, e1⟩
    · exact ⟨_, e2⟩
    · exact ⟨_, e3⟩
    · exact ⟨_, e4⟩
  sub := fun c hc => by
    simp only [List.mem_cons, List.not_mem_nil, or_false] at hc ⊢
    rcases hc with rfl | rfl | rfl | rfl <;> simp
  noKeys := fun A s Q E hA ⟨_, _, q⟩ h => getAttrOr_miss_zip q.oz rfl rfl rfl zip_no_keys (by decide +kernel) hA h
  iter := fun A s d Q E hA ⟨a, b, q⟩ hd hdf h => by
    simp only [List.mem_cons, List.not_mem_nil, or_false, not_or] at hdf
    obtain ⟨dz, dTI, dTO, di1, di2, dl1, dl2⟩ := hdf
    refine wpAny_pyIter_zip q.oz (h z [z, TO, i1, i2] (fun i h => (∃ a b, ZS z TI TO i1 i2 I1 I2 C1 C2 xs ys h .none a b i i) ∨ ∃ T f oT, ZD z TI TO i1 i2 I1 I2 C1 C2 xs ys h T f i ∧ h.get? T = some oT ∧ T ≠ z ∧ T ≠ i1 ∧ T ≠ i2 ∧ T ≠ d) s.heap s.toks
      { off := fun hm => ?_, frame := fun i h1 h2 st hk => ?_, item := fun i s1 Q1 E1 hi st hds hQ => ?_, done := fun s1 Q1 E1 st hQ => ?_ } (.inl ⟨a, b, q⟩) (fun _ _ e => e) fun c hc => .inl hc)
    · simp only [List.mem_cons, List.not_mem_nil, or_false] at hm
      rcases hm with e | e | e | e
      · exact dz e
      · exact dTO e
      · exact di1 e
      · exact di2 e
    · rcases st with ⟨a, b, q⟩ | ⟨T, f, oT, q, hT, r1, r2, r3, r4⟩
      · exact .inl ⟨a, b, hk _ _ (Ne.symm dz) q.oz, hk _ _ (Ne.symm dTI) q.ti, hk _ _ (Ne.symm dTO) q.tt, S1.mvI q.j1 fun o => hk _ o (Ne.symm di1), S2.mvI q.j2 fun o => hk _ o (Ne.symm di2), S1.mvC q.c1 fun o => hk _ o (Ne.symm dl1), S2.mvC q.c2 fun o => hk _ o (Ne.symm dl2)⟩
      · exact .inr ⟨T, f, oT, ⟨hk _ _ (Ne.symm dz) q.oz, hk _ _ (Ne.symm dTI) q.ti, S1.mvI q.j1 fun o => hk _ o (Ne.symm di1), S2.mvI q.j2 fun o => hk _ o (Ne.symm di2), S1.mvC q.c1 fun o => hk _ o (Ne.symm dl1), S2.mvC q.c2 fun o => hk _ o (Ne.symm dl2)⟩, hk _ _ r4 hT, r1, r2, r3, r4⟩
    · have ex := Array.getElem?_eq_getElem (Nat.lt_of_lt_of_le hi (Nat.min_le_left _ _))
      have ey := Array.getElem?_eq_getElem (Nat.lt_of_lt_of_le hi (Nat.min_le_right _ _))
      have far : ∀ {c o}, s1.heap.get? c = some o → s1.heap.objs.size ≠ c := fun e => Nat.ne_of_gt (Heap.lt_size e)
      rcases st with ⟨a, b, q⟩ | ⟨T, f, oT, q, hT, r1, r2, r3, r4⟩
      · obtain ⟨o1, _, e1, _⟩ := S1.fld q.j1
        obtain ⟨o2, _, e2, _⟩ := S2.fld q.j2
        refine zm_next D S1 S2 q ex ey fun g n pr sz stay => hQ s1.heap.objs.size _ _ g s1.toks ⟨ex, ey⟩ (.inl ⟨_, pr, rfl, _, rfl⟩) (.inr ⟨s1.heap.objs.size, false, _, ⟨n.oz, n.ti, n.j1, n.j2, n.c1, n.c2⟩, pr, far q.oz, far e1, far e2, Nat.ne_of_gt hds⟩) fun c o hc e => ?_
        exact stay c o (fun x => hc (by simp [x])) (fun x => hc (by simp [x])) (fun x => hc (by simp [x])) (fun x => hc (by simp [x])) e
      · refine zd_turn D S1 S2 q hT ex ey fun g n pr stay => hQ s1.heap.objs.size _ _ g s1.toks ⟨ex, ey⟩ (.inl ⟨_, pr, rfl, _, rfl⟩) (.inr ⟨T, true, oT, n, stay _ _ r1 r2 r3 hT, r1, r2, r3, r4⟩) fun c o hc e => ?_
        exact stay c o (fun x => hc (by simp [x])) (fun x => hc (by simp [x])) (fun x => hc (by simp [x])) e
    · have over : xs[min xs.size ys.size]? = none ∨ ys[min xs.size ys.size]? = none := by
        rcases Nat.le_total xs.size ys.size with h | h
        · exact .inl (Array.getElem?_eq_none (by omega))
        · exact .inr (Array.getElem?_eq_none (by omega))
      rcases st with ⟨a, b, q⟩ | ⟨T, f, oT, q, hT, r1, r2, r3, r4⟩
      · exact zm_stop hA D S1 S2 q over fun g stay => hQ g s1.toks fun c o hc e => stay c o (fun x => hc (by simp [x])) (fun x => hc (by simp [x])) (fun x => hc (by simp [x])) (fun x => hc (by simp [x])) e
      · exact zd_stop hA D S1 S2 q hT over fun g stay => hQ g s1.toks fun c o hc e => stay c o (fun x => hc (by simp [x])) (fun x => hc (by simp [x])) (fun x => hc (by simp [x])) e
end
/-! zip(list, tuple) made -/
def zl1 (h : Heap) (l1 : Addr) : Heap := h.push { cls := .type "list_iterator", data := .fields #[.ref l1, .int 0 0] }
def zl2 (h : Heap) (l1 l2 : Addr) : Heap := (zl1 h l1).push { cls := .type "tuple_iterator", data := .fields #[.ref l2, .int 0 0] }
def zl3 (h : Heap) (l1 l2 : Addr) : Heap := (zl2 h l1 l2).push { cls := .type "tuple", data := .seq #[.ref h.objs.size, .ref (zl1 h l1).objs.size] }
def zl4 (h : Heap) (l1 l2 : Addr) : Heap := (zl3 h l1 l2).push { cls := .type "tuple", data := .seq #[.none, .none] }
def zl5 (h : Heap) (l1 l2 : Addr) : Heap := (zl4 h l1 l2).push { cls := .type "zip", data := .fields #[.none, .bool false, .bool false, .ref (zl2 h l1 l2).objs.size, .ref (zl3 h l1 l2).objs.size] }
theorem zl_new (l1 l2 : Addr) (xs ys : Array Value) : Meets (Builtin.«zip.__new__» ⟨[.type "zip", .ref l1, .ref l2], []⟩) fun _ R s => s.heap.IsList l1 xs ∧ s.heap.IsTuple l2 ys ∧ R (.ok (.ret (.ref (zl4 s.heap l1 l2).objs.size))) { s with heap := zl5 s.heap l1 l2 } :=
  .of_wp fun pr wd ar R s h => by
    obtain ⟨hp, gl, dd, tk, os⟩ := s
    obtain ⟨h1, h2, h⟩ := h
    have hsub := sub_zip
    have t1 : Heap.IsList (Shared.heap ⟨hp, gl, dd, tk, os⟩) l1 xs := h1
    have t2 : Heap.IsTuple (Shared.heap ⟨hp.push { cls := .type "list_iterator", data := .fields #[.ref l1, .int 0 0] }, gl, dd, tk, os⟩) l2 ys := h2.at fun o e => Heap.get?_push_of_some _ e
    wp_walk using wpAny_pyIter_list t1, wpAny_pyIter_tuple t2
    exact ⟨_, rfl, h⟩
section
variable {prog : Program} {w : World} {s : Shared} {A : Around} {E : Value → Shared → Prop}
theorem call_zipLT {l1 l2 : Addr} {xs ys : Array Value} {Q : Value → Shared → Prop} (h1 : s.heap.IsList l1 xs) (h2 : s.heap.IsTuple l2 ys)
    (k : ∀ g, IsZip g (s.heap.objs.size + 4) (s.heap.objs.size + 2) (s.heap.objs.size + 3) .none → IsPair g (s.heap.objs.size + 2) (.ref s.heap.objs.size) (.ref (s.heap.objs.size + 1)) → IsPair g (s.heap.objs.size + 3) .none .none →
      g.IsListIter s.heap.objs.size l1 0 → g.IsTupleIter (s.heap.objs.size + 1) l2 0 → g.objs.size = s.heap.objs.size + 5 → (∀ c o, s.heap.get? c = some o → g.get? c = some o) → Q (.ref (s.heap.objs.size + 4)) { s with heap := g }) : wpAny (model prog w) A (call (.type "zip") [.ref l1, .ref l2]) Q E s := by
  refine callType_new F.called_zip (by decide) (F.typeCall_zip_2 _ _) (F.newCall_zip_2 _ _) (fun obj => F.args_object_init_3 obj _ _) F.entry_zip_new (zl_new l1 l2 xs ys) ⟨h1, h2, ?_⟩
  have n1 : (zl1 s.heap l1).objs.size = s.heap.objs.size + 1 := Heap.size_push _ _
  have n2 : (zl2 s.heap l1 l2).objs.size = s.heap.objs.size + 2 := (Heap.size_push _ _).trans (by rw [n1])
  have n3 : (zl3 s.heap l1 l2).objs.size = s.heap.objs.size + 3 := (Heap.size_push _ _).trans (by rw [n2])
  have n4 : (zl4 s.heap l1 l2).objs.size = s.heap.objs.size + 4 := (Heap.size_push _ _).trans (by rw [n3])
  have n5 : (zl5 s.heap l1 l2).objs.size = s.heap.objs.size + 5 := (Heap.size_push _ _).trans (by rw [n4])
  have m5 : IsZip (zl5 s.heap l1 l2) (zl4 s.heap l1 l2).objs.size (zl2 s.heap l1 l2).objs.size (zl3 s.heap l1 l2).objs.size .none := Heap.get?_push_size _ rfl
  have m4 : IsPair (zl5 s.heap l1 l2) (zl3 s.heap l1 l2).objs.size .none .none := Heap.get?_push_of_some _ (Heap.get?_push_size _ rfl)
  have m3 : IsPair (zl5 s.heap l1 l2) (zl2 s.heap l1 l2).objs.size (.ref s.heap.objs.size) (.ref (zl1 s.heap l1).objs.size) := Heap.get?_push_of_some _ (Heap.get?_push_of_some _ (Heap.get?_push_size _ rfl))
  have m2 : (zl5 s.heap l1 l2).IsTupleIter (zl1 s.heap l1).objs.size l2 0 := ⟨_, Heap.get?_push_of_some _ (Heap.get?_push_of_some _ (Heap.get?_push_of_some _ (Heap.get?_push_size _ rfl))), rfl, rfl⟩
  have m1 : (zl5 s.heap l1 l2).IsListIter s.heap.objs.size l1 0 := ⟨_, Heap.get?_push_of_some _ (Heap.get?_push_of_some _ (Heap.get?_push_of_some _ (Heap.get?_push_of_some _ (Heap.get?_push_size _ rfl)))), rfl, rfl⟩
  have m0 : ∀ c o, s.heap.get? c = some o → (zl5 s.heap l1 l2).get? c = some o := fun c o e => Heap.get?_push_of_some _ (Heap.get?_push_of_some _ (Heap.get?_push_of_some _ (Heap.get?_push_of_some _ (Heap.get?_push_of_some _ e))))
  rw [n2, n3, n4] at m5
  rw [n3] at m4
  rw [n2, n1] at m3
  rw [n1] at m2
  show _ ∧ _
  rw [n4]
  exact ⟨⟨_, m5, rfl⟩, k _ m5 m3 m4 m1 m2 n5 m0⟩
end
/-! the dict -/
def entZ (zs : List Str) (ys : List V) : List (Key × V) := (zs.zip ys).map fun p => (.inr p.1, p.2)
def tDZ (K : PySem.W.Frag) (ta : TA) : TE := fun σ H Q => ta σ H fun vs H1 => ∃ (a b : Addr) (zs : List Str) (ys : List V), vs = [.ref a, .ref b] ∧ (SqL K H1 a (zs.map V.str) ∨ SqT K H1 a (zs.map V.str)) ∧ SqT K H1 b ys ∧ zs.length = ys.length ∧ zs.Nodup ∧ zs.length ≤ 1000 ∧
  ∀ d H2, Same H1 H2 → H1 d = none → H2 d = some (.dK (entZ zs ys)) → Q (.ref d) H2
theorem zip_kv {P : Program} {w : World} : ∀ {zs : List Str} {ys : List V} {us vs : List Value}, Vals (zs.map V.str) us → Vals ys vs → zs.length = ys.length → ∃ rs : List (Key × Value), KV (entZ zs ys) rs ∧ rs.length = zs.length ∧ rs.map (·.1) = zs.map Sum.inr ∧
    ∀ (i : Nat) (k v : Value), us[i]? = some k → vs[i]? = some v → ∃ x, rs[i]? = some (x, v) ∧ (mixKind P w).is x k = true
  | [], [], _, _, .nil, .nil, _ => ⟨[], .nil, rfl, rfl, fun i k v h => by simp at h⟩
  | z :: zs, y :: ys, _, _, .cons r1 t1, .cons r2 t2, hl => by
    obtain ⟨rs, a, b, c, d⟩ := zip_kv (P := P) (w := w) t1 t2 (by simpa using hl)
    rename_i u _ u2 _
    refine ⟨(.inr z, u2) :: rs, .cons ⟨rfl, r2⟩ a, by simp [b], by simp [c], fun i k v hk hv => ?_⟩
    cases i with
    | zero =>
      simp only [List.getElem?_cons_zero, Option.some.injEq] at hk hv
      subst hk hv
      obtain ⟨t, rfl⟩ := r1
      exact ⟨.inr z, rfl, mixKind_str P w z t⟩
    | succ i => exact d i k v (by simpa using hk) (by simpa using hv)
theorem call_dictZ {X : Cx} {pins : List (Addr × Obj)} {σ : L2.St} {H : Hp} {s : Shared} {g : Heap} {zs : List Str} {ys : List V} {its jts : List Value} {i1 i2 l1 l2 : Addr} {I1 I2 : Nat → Heap → Prop} {C1 C2 : Array Value → Heap → Prop} {Q : VK} (hc : X.calm = true) (I : Inv X pins σ H s)
    (rz : Vals (zs.map V.str) its) (ry : Vals ys jts) (hl : zs.length = ys.length) (nd : zs.Nodup) (h1000 : zs.length ≤ 1000) (S1 : Src X.prog X.w i1 l1 I1 C1) (S2 : Src X.prog X.w i2 l2 I2 C2) (t1 : ∀ h, C1 its.toArray h → ∃ o, h.get? l1 = some o) (t2 : ∀ h, C2 jts.toArray h → ∃ o, h.get? l2 = some o)
    (D : ZipApart (s.heap.objs.size + 4) (s.heap.objs.size + 2) (s.heap.objs.size + 3) i1 i2 l1 l2) (e1 : i1 = s.heap.objs.size) (e2 : i2 = s.heap.objs.size + 1) (st : ZS (s.heap.objs.size + 4) (s.heap.objs.size + 2) (s.heap.objs.size + 3) i1 i2 I1 I2 C1 C2 its.toArray jts.toArray g .none .none .none 0 0)
    (sz : g.objs.size = s.heap.objs.size + 5) (keep : ∀ c o, s.heap.get? c = some o → g.get? c = some o) (q : ∀ d H2, Same H H2 → H d = none → H2 d = some (.dK (entZ zs ys)) → Q (.ref d) H2) :
    wpAny (model X.prog X.w) X.A (call (.type "dict") [.ref (s.heap.objs.size + 4)]) (EP X pins σ Q) X.xe { s with heap := g } := by
  obtain ⟨rs, a1, a2, a3, a4⟩ := zip_kv (P := X.prog) (w := X.w) rz ry hl
  have lz := rz.length
  have ly := ry.length
  rw [List.length_map] at lz
  have mn : min its.toArray.size jts.toArray.size = zs.length := by simp only [List.size_toArray]; omega
  refine call_dict_pairs (knd := mixKind X.prog X.w) (kvs := rs) (pairs_zip D S1 S2 t1 t2) (I.ok.hd hc) ⟨_, _, st⟩ ⟨by rw [mn]; exact a2, fun i k v ⟨h1, h2⟩ => a4 i k v (by simpa using h1) (by simpa using h2)⟩ (by rw [mn]; exact Nat.le_trans h1000 (by decide)) fun h' tk hd hk => ?_
  have ndr : (rs.map (·.1)).Nodup := by
    rw [a3]
    exact List.Pairwise.map _ (fun x y n e => n (Sum.inr.inj e)) nd
  rw [merged_nil_of_nodup rs ndr] at hd
  have stay : ∀ b o, s.heap.get? b = some o → h'.get? b = some o := fun b o e => by
    have lt := Heap.lt_size e
    refine hk b o (fun hm => ?_) (keep _ _ e)
    simp only [List.mem_cons, List.not_mem_nil, or_false] at hm
    rcases hm with h | h | h | h
    · exact Nat.lt_irrefl _ (Nat.lt_of_lt_of_le lt (h ▸ Nat.le_add_right _ _))
    · exact Nat.lt_irrefl _ (Nat.lt_of_lt_of_le lt (h ▸ Nat.le_add_right _ _))
    · exact Nat.lt_irrefl _ (Nat.lt_of_lt_of_le lt (h ▸ e1 ▸ Nat.le_refl _))
    · exact Nat.lt_irrefl _ (Nat.lt_of_lt_of_le lt (h ▸ e2 ▸ Nat.le_add_right _ _))
  have up : s.heap.objs.size ≤ g.objs.size := by rw [sz]; exact Nat.le_add_right _ _
  have none : H g.objs.size = none := I.hok.fresh up
  have big : (g.objs.size == sysModules) = false := beq_eq_false_iff_ne.mpr (Nat.ne_of_gt (Nat.lt_of_lt_of_le I.big up))
  refine ⟨.ref g.objs.size, L2.upd H g.objs.size (.dK (entZ zs ys)), I.laid (t' := tk) stay up (dk_new (Nat.le_trans (by rw [a1.length, a2]; exact h1000) (by decide : 1000 ≤ sizeLine)) big a1 hd), rfl, q _ _ (fun b o e => ?_) none upd_same⟩
  rw [upd_ne (ne_of_none e none)]; exact e
theorem pe_dictZip {X : Cx} {e e2 : Expr} {ta : TA} {p p2 pos pos2 : Pos} (hc : X.calm = true) (hg : Gl X "dict") (hm : X.mg "dict" = none) (hg2 : Gl X "zip") (hm2 : X.mg "zip" = none) (ha : PA X [e, e2] ta)
    (hs : starEach [e, e2] X.env = (false, eval e X.env) :: starEach [e2] X.env := by rfl) (hpl : (backTo pos2 (starEach [e2] X.env)).any (·.1) = false := by rfl) :
    PE X (.Call (.Name "dict" p) [.Call (.Name "zip" p2) [e, e2] [] pos2] [] pos) (tDZ X.K ta) := by
  refine ⟨fun pins s σ H Q I h => wpAny_Call_Name_kw (ld_blt I hg hm (by decide +kernel : bootBuiltins "dict" = some (.type "dict")) (PyProof.Rows.callWith_type1 ?_ rfl rfl) (by decide) (by decide))⟩
  show wpAny _ _ (spliced ((false, eval (.Call (.Name "zip" p2) [e, e2] [] pos2) X.env) :: backTo pos (starEach [] X.env))) _ _ s
  refine Calls.spliced_cons (wpAny_Call_Name_kw (ld_blt I hg2 hm2 PyProof.Rows.boot_zip (PyProof.Rows.callWith_type1 (thn (ha.run pos2 pins s σ H _ I h) fun us s1 ⟨vs, H1, I1, r1, a, b, zs, ys, ev, qa, qb, hl, nd, h1000, q⟩ => ?_) hs hpl) (by decide) (by decide)))
  subst ev
  obtain _ | ⟨r, r'⟩ := r1
  obtain _ | ⟨r2, r''⟩ := r'
  cases r''
  cases r
  cases r2
  obtain ⟨jts, ry, p2', _⟩ := I1.tuple qb
  obtain ⟨o2, ho2, _⟩ := id p2'
  rcases qa with qa | qa
  · obtain ⟨its, rz, p1, _⟩ := I1.list qa
    refine call_zipLT p1.isList (show s1.heap.IsTuple b jts.toArray from p2') fun g z1 z2 z3 z4 z5 sz k => Calls.spliced_nil ?_
    exact call_dictZ hc I1 rz ry hl nd h1000 (src_lst _ _ _ _) (src_tup _ _ _ _) (fun h ⟨o, e, _⟩ => ⟨o, e⟩) (fun h ⟨o, e, _⟩ => ⟨o, e⟩) (PySem.W.ktu_apart s1.heap.objs.size a b p1.lt (Heap.lt_size ho2)) rfl rfl
      ⟨z1, z2, z3, z4, z5, p1.isList.at (k _), (show s1.heap.IsTuple b jts.toArray from p2').at (k _)⟩ sz k q
  · obtain ⟨its, rz, p1, _⟩ := I1.tuple qa
    obtain ⟨o1, ho1, _⟩ := id p1
    refine RZ.call_zipT (show s1.heap.IsTuple a its.toArray from p1) (show s1.heap.IsTuple b jts.toArray from p2') fun g z1 z2 z3 z4 z5 sz k => Calls.spliced_nil ?_
    exact call_dictZ hc I1 rz ry hl nd h1000 (src_tup _ _ _ _) (src_tup _ _ _ _) (fun h ⟨o, e, _⟩ => ⟨o, e⟩) (fun h ⟨o, e, _⟩ => ⟨o, e⟩) (PySem.W.ktu_apart s1.heap.objs.size a b (Heap.lt_size ho1) (Heap.lt_size ho2)) rfl rfl
      ⟨z1, z2, z3, z4, z5, (show s1.heap.IsTuple a its.toArray from p1).at (k _), (show s1.heap.IsTuple b jts.toArray from p2').at (k _)⟩ sz k q
theorem pe_dictZipK {X : Cx} {K : PySem.W.Frag} (hK : X.K = K) {e e2 : Expr} {ta : TA} {p p2 pos pos2 : Pos} (hc : X.calm = true) (hg : Gl X "dict") (hm : X.mg "dict" = none) (hg2 : Gl X "zip") (hm2 : X.mg "zip" = none) (ha : PA X [e, e2] ta)
    (hs : starEach [e, e2] X.env = (false, eval e X.env) :: starEach [e2] X.env := by rfl) (hpl : (backTo pos2 (starEach [e2] X.env)).any (·.1) = false := by rfl) :
    PE X (.Call (.Name "dict" p) [.Call (.Name "zip" p2) [e, e2] [] pos2] [] pos) (tDZ K ta) := by
  subst hK
  exact pe_dictZip hc hg hm hg2 hm2 ha hs hpl
end LK

set_option Elab.async false
set_option linter.all false
set_option maxRecDepth 100000
set_option maxHeartbeats 4000000
/-! ### tuple(d): the keys of a dict -/
namespace LK
open PySem PySem.W PySem.Calls PySem.Spec PyProof.Rows L2
section
variable {prog : Program} {w : World} {A : Around} {E : Value → Shared → Prop} {s : Shared} {T : String} {r d : Addr} {n : Nat} {P : Nat → Value → Prop} {OK : Heap → Prop}
theorem collect_src (K : KdlSrc prog w T r d n P OK) (hh : A.handled = none) (hok : OK s.heap) (hn : n ≤ sizeLine) {Q : List Value → Shared → Prop}
    (hQ : ∀ (h' : Heap) (tk : Nat) (acc : Array Value), (∀ b o, s.heap.get? b = some o → h'.get? b = some o) → ItemsOf P acc n → Q acc.toList { s with heap := h', toks := tk }) : wpAny (model prog w) A (collect (.ref r)) Q E s := by
  have there := K.there _ hok
  have okp : OK (s.heap.push { cls := .type "list", data := .seq ([] : List Value).toArray }) := K.keep _ _ hok fun b _ o e => Heap.get?_push_of_some _ e
  have newL : (s.heap.push { cls := .type "list", data := .seq ([] : List Value).toArray }).get? s.heap.objs.size = some { cls := .type "list", data := .seq #[] 0 } := Heap.get?_push_size _ rfl
  let Done : Result → Shared → Prop := fun rr s' => rr = .ok (.ret (.ref s.heap.objs.size)) ∧ ∃ (h' : Heap) (tk : Nat) (acc : Array Value) (c' : Nat), s' = { s with heap := h', toks := tk } ∧ (∀ b o, s.heap.get? b = some o → h'.get? b = some o) ∧
    h'.get? s.heap.objs.size = some { cls := .type "list", dict := none, data := .seq acc c', slots := #[] } ∧ ItemsOf P acc n
  have ext := kdl_extend (A := A) (R := Done) (s := { s with heap := s.heap.push { cls := .type "list", data := .seq ([] : List Value).toArray } }) K hh okp s.heap.objs.size (Nat.ne_of_gt there.1) (Nat.ne_of_gt there.2) (.ref s.heap.objs.size) 0 newL
    (fun h' tk acc c' hk at_ its => ⟨rfl, h', tk, acc, c', rfl, fun b o q => hk b o (Nat.ne_of_lt (Heap.lt_size q)) (Heap.get?_push_of_some _ q), at_, its⟩) hn
  have fin : ∀ s', Done (.ok (.ret (.ref s.heap.objs.size))) s' → wpAny (model prog w) A (load s.heap.objs.size >>= fun o => match o.data with | Data.seq xs _ => pure xs.toList | _ => unsupported "internal:collect") Q E s' := by
    rintro s' ⟨_, h', tk, acc, c', rfl, hk, at_, its⟩
    exact wpAny_bind (wpAny_load at_ (wpAny_pure (hQ h' tk acc hk its)))
  unfold collect
  refine wpAny_bind (wpAny_runValue (codeAny_builtin F.entry_proto_collect ?_))
  rw [Around.under_plainId F.plain_proto_collect _]
  refine wpAny_bind (wpAny_newObj_type (wpAny_pure ⟨plainId_quiet F.plain_list_iadd _, codeAny_builtin F.entry_list_iadd ?_⟩))
  rw [Around.under_plainId F.plain_list_iadd _]
  refine wpAny_mono ext (fun f s' h => ?_) (fun e s' h => absurd h.1 (by simp))
  cases f with
  | done f =>
    have e := h.1
    cases e
    exact fin s' h
  | again c' => exact ⟨h.1, codeAny_mono h.2 fun rr s'' hr => by
      have e := hr.1
      subst e
      exact fin s'' hr⟩
theorem tuple_src (K : KdlSrc prog w "dict" r d n P OK) (hh : A.handled = none) (hok : OK s.heap) (hn : n ≤ sizeLine) {Q : Value → Shared → Prop}
    (hQ : ∀ (h' : Heap) (tk : Nat) (acc : Array Value), (∀ b o, s.heap.get? b = some o → h'.get? b = some o) → ItemsOf P acc n → Q (.ref h'.objs.size) { s with heap := h'.push { cls := .type "tuple", data := .seq acc }, toks := tk }) :
    wpAny (model prog w) A (call (.type "tuple") [.ref r]) Q E s := by
  refine callType_codes (Q₁ := fun obj s₁ => s₁.TypeIs obj "tuple" ∧ Q obj s₁) F.called_tuple (F.typeCall_tuple_1 _) F.entry_object_init (codeAny_of_tree ?_) fun obj s₁ h₁ =>
    ⟨h₁.1, F.args_object_init_2 obj _, object_init_meets F.called_tuple.init.lookup F.called_tuple.made (by decide) prog w A.in1 _ s₁ ⟨h₁.1, rfl, h₁.2⟩⟩
  show wpAny _ (A.in1).in1 (do checkBuiltinCall "tuple.__new__" ⟨[.type "tuple", .ref r], []⟩; again (.builtin "tuple.__new__" ⟨[.type "tuple", .ref r], []⟩)) _ _ s
  refine wpAny_bind (wpAny_of_eq (F.newCall_tuple_1 _) (wpAny_pure ⟨plainId_quiet F.plain_tuple_new _, codeAny_builtin F.entry_tuple_new ?_⟩))
  rw [Around.under_plainId F.plain_tuple_new _]
  have s1 := sub_tuple_self
  have s2 := init_tuple_lookup
  have s3 := madeHere_tuple
  have ty : s.TypeIs (.ref r) "dict" := K.type s hok
  have hh2 : A.in1.in1.handled = none := hh
  wp_walk using wpAny_typeOf ty, collect_src (A := A.in1.in1) K hh2 hok hn
  intro h' tk acc hk its
  show wpAny _ _ (Builtin.Tuple.tupleExact acc.toList.toArray >>= fun v => ret v) _ _ _
  rw [Array.toArray_toList]
  unfold Builtin.Tuple.tupleExact
  exact wpAny_bind (wpAny_newObj_type (wpAny_pure ⟨⟨_, Heap.get?_push_size _ rfl, rfl⟩, hQ h' tk acc hk its⟩) (by show acc.size ≤ sizeLine; rw [its.1]; exact hn))
end
/-- tuple(d): a new tuple of its keys -/
theorem call_tupleD {X : Cx} (hcalm : X.calm = true) : CallR X (.type "tuple") (fun xs H Q => ∃ (a : Addr) (kvs : List (Key × V)), xs = [.ref a] ∧ Rd H a (.dK kvs) ∧ ∀ p H', Same H H' → H p = none → H' p = some (.tup (kvs.map fun kv => kV kv.1)) → Q (.ref p) H') := by
  intro pins s σ H xs us Q I r q
  obtain ⟨a, kvs, rfl, hd, q⟩ := q
  obtain ⟨u, rfl, rx⟩ := vals1 r
  cases rx
  obtain ⟨z, lo, vs, rel, dd⟩ := dk_rd I.hok hd
  obtain ⟨ep, hat⟩ := dd.dictAt
  have ek : (kvs.map fun kv => kV kv.1) = vs.map fun p => kV p.1 := by
    have e := congrArg (List.map kV) rel.keys
    rwa [List.map_map, List.map_map] at e
  refine tuple_src (PySem.W.kdl_dict (knd := mixKind X.prog X.w) (kvs := vs) (ep := ep) lo) (I.ok.hd hcalm) hat (by rw [← rel.length]; exact z) fun h' tk acc hk its => ?_
  have hv : Vals (vs.map fun p => kV p.1) acc.toList := keys_at (by rw [Array.length_toList]; exact its.1) fun j v e => its.2 j v (by rw [← Array.getElem?_toList]; exact e)
  have I1 : Inv X pins σ H { s with heap := h', toks := tk } := I.kept (t' := tk) hk
  have hf := I1.hok.fresh (Nat.le_refl h'.objs.size)
  refine ⟨.ref h'.objs.size, L2.upd H h'.objs.size (.tup (kvs.map fun kv => kV kv.1)), I1.laid (t' := tk) (fun b o e => Heap.get?_push_of_some _ e) (Nat.le_refl _) ⟨by rw [List.length_map]; exact z, acc.toList, by rw [ek]; exact hv, ?_⟩, rfl, q _ _ (same_upd hf) hf upd_same⟩
  rw [Array.toArray_toList]
  exact IsTup.new _ _
end LK

set_option Elab.async false
set_option linter.all false
set_option maxRecDepth 100000
/-! ### d.get(k, v) of a written dict with text keys -/
namespace LK
open PySem PySem.Spec PyProof.Rows L2
section
variable {X : Cx} {d : Addr} {es : Array DictEntry} {n : Nat} {o e f : Expr} {apos cpos : Pos} {td ty tx : TE}
def tWget2 (K : PySem.W.Frag) (d : Addr) (td ty tx : TE) : TE := fun σ H Q => td σ H fun x H1 => x = .ref d ∧ ty σ H1 fun y H2 => tx σ H2 fun z H3 => ∃ (k : Str) (r : Option Value), y = .str k ∧ PySem.W.nsIn K d k = some r ∧ (match r with
  | none => Q z H3
  | some u => ∃ v, RelV v u ∧ Q v H3)
theorem pe_wget2 (D : KDict X.K X.w d es n) (ho : PE X o td) (he : PE X e ty) (hf : PE X f tx) (m : M2 X o "get" apos e f cpos) : PE X (.Call (.Attribute o "get" apos) [e, f] [] cpos) (tWget2 X.K d td ty tx) := by
  refine ⟨fun pins s σ H Q I h => ?_⟩
  refine wpAny_Call_method m.base m.few m.line PySem.F.plainAttrs_dict PySem.F.slot_dict_get PySem.F.type_dict_get (thn (ho.run pins s σ H _ I h) fun u s1 q1 => ?_)
  obtain ⟨x, H1, I1, rx, rfl, q1⟩ := q1
  cases (show u = Value.ref d from rx)
  have ob := I1.kIn _ _ D.at_
  refine ⟨kd_type D I1, fun b q => by cases q; exact ⟨_, ob, rfl⟩, ?_⟩
  rw [m.trees]
  refine Calls.callWith_builtin rfl (Calls.evalArgs_plain (Calls.spliced_cons (thn (he.run pins s1 σ H1 _ I1 q1) fun iv s2 q2 => ?_)))
  obtain ⟨y, H2, I2, ry, q2⟩ := q2
  refine Calls.spliced_cons (thn (hf.run pins s2 σ H2 _ I2 q2) fun fv s3 q3 => ?_)
  obtain ⟨z, H3, I3, rz, k, r, rfl, hn, q3⟩ := q3
  refine Calls.spliced_nil ?_
  obtain ⟨t, rfl⟩ := ry
  refine call_meetsIn PySem.F.slot_dict_get (kd_type D I3) PySem.F.entry_dict_get (PySem.F.args_dict_get_3 _ _ _) (meets_dict_get_default (strKind X.prog X.w) d (PySem.strKind_is X.prog X.w k t) D.low fv)
    ⟨_, PySem.W.mapOf_K (prog := X.prog) I3.kIn D.at_ D.lit, ?_⟩
  rw [PySem.W.find_K D.at_ hn]
  cases r with
  | none => exact ⟨z, H3, I3.tok _, rz, q3⟩
  | some u =>
    obtain ⟨v, rv, q⟩ := q3
    exact ⟨v, H3, I3.tok _, rv, q⟩
end
end LK

set_option Elab.async false
set_option linter.all false
set_option maxRecDepth 100000
namespace LK
open PySem PySem.Spec PyProof.Rows L2
def top (i : Nat) : Stmt := PySem.Challenge.pw_lookingnets_k06_means_and_rows.main.body.getD i (.Pass ⟨0, 0, 0, 0⟩)
local macro_rules | `(tactic| walk_at "rs") => `(tactic| simp only [cxK, cxNK, tCallZ, tAsg, tOp, rI0, rS0, rB0, rI, rU, tUn, rEq, rNe, rIxL, rIxT, rIxS, rSetL, rSlLU, rSlS, rSlU, rCatL, rCatU, rRepL, rIn, tVar, tC, gName, gSub, tIfS, tTest, tB, tAnd, tOr, tNot, tNotV, tAndV, tOrV, tIf, tCall, tCons, tNil, tCB, tDrop, tRet, tRetN, tNext, tLstU, tTupU, tM0, tM1, tPar, tPar3, tAug, ipI, tBM, tBM0, rAppend, rPop, tBreak, tCont, tChain, tSl, tPart, tNoPart, L2.start, List.map, List.length_cons, List.length_nil, List.replicate, List.cons_append, List.nil_append, List.append_nil, List.getElem?_cons_zero, List.getElem?_cons_succ, List.set_cons_zero, List.set_cons_succ, Option.some.injEq, V.int.injEq, V.ref.injEq, V.str.injEq, V.bl.injEq, exists_eq_left', exists_eq_left, exists_and_left, decide_eq_true_eq, List.cons.injEq, and_true, true_and, scal, Bool.not_eq_true', decide_eq_false_iff_not, Nat.zero_add, Nat.reduceAdd, Nat.reduceSub, reduceCtorEq, false_and, exists_false, false_or, or_false, CPow, CMul, CDiv, Int.reduceToNat, ↓reduceIte, wipe, sw, List.nil_append, List.singleton_append])
local macro_rules | `(tactic| walk_at "st") => `(tactic| (refine seq_op fun N hN => ?_; walk_at "rs"))
local macro_rules | `(tactic| walk_at "sd") => `(tactic| first | assumption | decide | omega)
local macro_rules | `(tactic| walk_at "rd") => `(tactic| repeat (first
  | refine ⟨_, SqL.of (by assumption), ?_⟩ | refine ⟨_, SqL.of upd_same, ?_⟩ | refine ⟨_, .inl (SqL.of (by assumption)), ?_⟩ | refine ⟨_, (by assumption : _ = some (HO.lst _)), ?_⟩ | refine ⟨_, upd_same, ?_⟩
  | refine ⟨_, rfl, ?_⟩ | refine And.intro (by walk_at "sd") ?_))

abbrev s_BadValue : Stmt := inClass (top 4) 0
abbrev s_NoName : Stmt := inClass (top 5) 0
abbrev N_NoName : List Str := ["self", "name"]
theorem sc_NoName : FnScope N_NoName ["self", "name"] (defScope s_NoName) := ⟨rfl, rfl, rfl, by decide +kernel, rfl, by decide +kernel, by decide +kernel⟩
abbrev N_BadValue : List Str := ["self", "value"]
theorem sc_BadValue : FnScope N_BadValue ["self", "value"] (defScope s_BadValue) := ⟨rfl, rfl, rfl, by decide +kernel, rfl, by decide +kernel, by decide +kernel⟩
abbrev s_is_number : Stmt := top 10
abbrev N_is_number : List Str := ["value"]
theorem sc_is_number : FnScope N_is_number ["value"] (defScope s_is_number) := ⟨rfl, rfl, rfl, by decide +kernel, rfl, by decide +kernel, by decide +kernel⟩

abbrev s_is_fraction : Stmt := top 11
abbrev N_is_fraction : List Str := ["value", "p", "q"]
theorem sc_is_fraction : FnScope N_is_fraction ["value"] (defScope s_is_fraction) := ⟨rfl, rfl, rfl, by decide +kernel, rfl, by decide +kernel, by decide +kernel⟩

abbrev s_fraction : Stmt := top 12
abbrev N_fraction : List Str := ["p", "q", "divisor"]
theorem sc_fraction : FnScope N_fraction ["p", "q"] (defScope s_fraction) := ⟨rfl, rfl, rfl, by decide +kernel, rfl, by decide +kernel, by decide +kernel⟩

abbrev s_plus : Stmt := top 13
abbrev N_plus : List Str := ["a", "b"]
theorem sc_plus : FnScope N_plus ["a", "b"] (defScope s_plus) := ⟨rfl, rfl, rfl, by decide +kernel, rfl, by decide +kernel, by decide +kernel⟩

abbrev s_minus : Stmt := top 14
abbrev N_minus : List Str := ["a", "b"]
theorem sc_minus : FnScope N_minus ["a", "b"] (defScope s_minus) := ⟨rfl, rfl, rfl, by decide +kernel, rfl, by decide +kernel, by decide +kernel⟩

abbrev s_times : Stmt := top 15
abbrev N_times : List Str := ["a", "b"]
theorem sc_times : FnScope N_times ["a", "b"] (defScope s_times) := ⟨rfl, rfl, rfl, by decide +kernel, rfl, by decide +kernel, by decide +kernel⟩

abbrev s_quotient : Stmt := top 16
abbrev N_quotient : List Str := ["a", "b"]
theorem sc_quotient : FnScope N_quotient ["a", "b"] (defScope s_quotient) := ⟨rfl, rfl, rfl, by decide +kernel, rfl, by decide +kernel, by decide +kernel⟩

abbrev s_below : Stmt := top 17
abbrev N_below : List Str := ["a", "b"]
theorem sc_below : FnScope N_below ["a", "b"] (defScope s_below) := ⟨rfl, rfl, rfl, by decide +kernel, rfl, by decide +kernel, by decide +kernel⟩

abbrev s_floor_of : Stmt := top 18
abbrev N_floor_of : List Str := ["a"]
theorem sc_floor_of : FnScope N_floor_of ["a"] (defScope s_floor_of) := ⟨rfl, rfl, rfl, by decide +kernel, rfl, by decide +kernel, by decide +kernel⟩

abbrev s_merged : Stmt := top 19
abbrev N_merged : List Str := ["low", "high", "out", "i", "j"]
theorem sc_merged : FnScope N_merged ["low", "high"] (defScope s_merged) := ⟨rfl, rfl, rfl, by decide +kernel, rfl, by decide +kernel, by decide +kernel⟩

abbrev s_ascending : Stmt := top 20
abbrev N_ascending : List Str := ["values", "half"]
theorem sc_ascending : FnScope N_ascending ["values"] (defScope s_ascending) := ⟨rfl, rfl, rfl, by decide +kernel, rfl, by decide +kernel, by decide +kernel⟩

abbrev s_is_word_name : Stmt := top 27
abbrev N_is_word_name : List Str := ["value", "sign"]
theorem sc_is_word_name : FnScope N_is_word_name ["value"] (defScope s_is_word_name) := ⟨rfl, rfl, rfl, by decide +kernel, rfl, by decide +kernel, by decide +kernel⟩

abbrev s_is_own_name : Stmt := top 28
abbrev N_is_own_name : List Str := ["value"]
theorem sc_is_own_name : FnScope N_is_own_name ["value"] (defScope s_is_own_name) := ⟨rfl, rfl, rfl, by decide +kernel, rfl, by decide +kernel, by decide +kernel⟩

abbrev s_is_name : Stmt := top 29
abbrev N_is_name : List Str := ["value"]
theorem sc_is_name : FnScope N_is_name ["value"] (defScope s_is_name) := ⟨rfl, rfl, rfl, by decide +kernel, rfl, by decide +kernel, by decide +kernel⟩

abbrev s_names_in : Stmt := top 30
abbrev N_names_in : List Str := ["words", "word"]
theorem sc_names_in : FnScope N_names_in ["words"] (defScope s_names_in) := ⟨rfl, rfl, rfl, by decide +kernel, rfl, by decide +kernel, by decide +kernel⟩

abbrev s_truth : Stmt := top 31
abbrev N_truth : List Str := ["holds"]
theorem sc_truth : FnScope N_truth ["holds"] (defScope s_truth) := ⟨rfl, rfl, rfl, by decide +kernel, rfl, by decide +kernel, by decide +kernel⟩

abbrev s_compared : Stmt := top 32
abbrev N_compared : List Str := ["relation", "a", "b"]
theorem sc_compared : FnScope N_compared ["relation", "a", "b"] (defScope s_compared) := ⟨rfl, rfl, rfl, by decide +kernel, rfl, by decide +kernel, by decide +kernel⟩

abbrev s_whole_quotient : Stmt := top 33
abbrev N_whole_quotient : List Str := ["a", "b"]
theorem sc_whole_quotient : FnScope N_whole_quotient ["a", "b"] (defScope s_whole_quotient) := ⟨rfl, rfl, rfl, by decide +kernel, rfl, by decide +kernel, by decide +kernel⟩

abbrev s_value_of_two : Stmt := top 34
abbrev N_value_of_two : List Str := ["word", "a", "b"]
theorem sc_value_of_two : FnScope N_value_of_two ["word", "a", "b"] (defScope s_value_of_two) := ⟨rfl, rfl, rfl, by decide +kernel, rfl, by decide +kernel, by decide +kernel⟩

abbrev s_value_of_word : Stmt := top 35
abbrev N_value_of_word : List Str := ["word", "operands", "values"]
theorem sc_value_of_word : FnScope N_value_of_word ["word", "operands", "values"] (defScope s_value_of_word) := ⟨rfl, rfl, rfl, by decide +kernel, rfl, by decide +kernel, by decide +kernel⟩

abbrev s_evaluate : Stmt := top 36
abbrev N_evaluate : List Str := ["words", "values", "name", "waiting", "word", "many"]
theorem sc_evaluate : FnScope N_evaluate ["words", "values"] (defScope s_evaluate) := ⟨rfl, rfl, rfl, by decide +kernel, rfl, by decide +kernel, by decide +kernel⟩

abbrev s_is_look : Stmt := top 38
abbrev N_is_look : List Str := ["line"]
theorem sc_is_look : FnScope N_is_look ["line"] (defScope s_is_look) := ⟨rfl, rfl, rfl, by decide +kernel, rfl, by decide +kernel, by decide +kernel⟩

abbrev s_asked : Stmt := top 39
abbrev N_asked : List Str := ["line"]
theorem sc_asked : FnScope N_asked ["line"] (defScope s_asked) := ⟨rfl, rfl, rfl, by decide +kernel, rfl, by decide +kernel, by decide +kernel⟩

abbrev s_line_names : Stmt := top 40
abbrev N_line_names : List Str := ["line", "key", "_", "query", "names", "name"]
theorem sc_line_names : FnScope N_line_names ["line"] (defScope s_line_names) := ⟨rfl, rfl, rfl, by decide +kernel, rfl, by decide +kernel, by decide +kernel⟩

abbrev s_means : Stmt := top 42
abbrev N_means : List Str := ["values", "n", "found", "sums", "many", "total", "value"]
theorem sc_means : FnScope N_means ["values", "n"] (defScope s_means) := ⟨rfl, rfl, rfl, by decide +kernel, rfl, by decide +kernel, by decide +kernel⟩

abbrev s_rows_of_values : Stmt := top 43
abbrev N_rows_of_values : List Str := ["ranges", "rows", "values", "row", "value"]
theorem sc_rows_of_values : FnScope N_rows_of_values ["ranges"] (defScope s_rows_of_values) := ⟨rfl, rfl, rfl, by decide +kernel, rfl, by decide +kernel, by decide +kernel⟩

abbrev s_line_rows : Stmt := top 44
abbrev N_line_rows : List Str := ["line", "ranges", "name"]
theorem sc_line_rows : FnScope N_line_rows ["line", "ranges"] (defScope s_line_rows) := ⟨rfl, rfl, rfl, by decide +kernel, rfl, by decide +kernel, by decide +kernel⟩

abbrev s_results : Stmt := top 45
abbrev N_results : List Str := ["line", "ranges", "names", "row"]
theorem sc_results : FnScope N_results ["line", "ranges"] (defScope s_results) := ⟨rfl, rfl, rfl, by decide +kernel, rfl, by decide +kernel, by decide +kernel⟩

abbrev s_line_range : Stmt := top 46
abbrev N_line_range : List Str := ["line", "ranges", "n", "values", "many"]
theorem sc_line_range : FnScope N_line_range ["line", "ranges", "n"] (defScope s_line_range) := ⟨rfl, rfl, rfl, by decide +kernel, rfl, by decide +kernel, by decide +kernel⟩

abbrev s__law_bag : Stmt := top 48
abbrev N__law_bag : List Str := ["script", "mixed", "cell"]
theorem sc__law_bag : FnScope N__law_bag ["script"] (defScope s__law_bag) := ⟨rfl, rfl, rfl, by decide +kernel, rfl, by decide +kernel, by decide +kernel⟩

abbrev s__law_draw : Stmt := top 49
abbrev N__law_draw : List Str := ["bag", "size", "cell", "digit"]
theorem sc__law_draw : FnScope N__law_draw ["bag", "size"] (defScope s__law_draw) := ⟨rfl, rfl, rfl, by decide +kernel, rfl, by decide +kernel, by decide +kernel⟩

abbrev s__law_of : Stmt := top 50
abbrev N__law_of : List Str := ["bag", "things"]
theorem sc__law_of : FnScope N__law_of ["bag", "things"] (defScope s__law_of) := ⟨rfl, rfl, rfl, by decide +kernel, rfl, by decide +kernel, by decide +kernel⟩

abbrev s__law_like : Stmt := top 51
abbrev N__law_like : List Str := ["got", "due", "one", "two"]
theorem sc__law_like : FnScope N__law_like ["got", "due"] (defScope s__law_like) := ⟨rfl, rfl, rfl, by decide +kernel, rfl, by decide +kernel, by decide +kernel⟩

abbrev s__law_low : Stmt := top 52
abbrev N__law_low : List Str := ["top", "low", "one", "two"]
theorem sc__law_low : FnScope N__law_low ["top", "low"] (defScope s__law_low) := ⟨rfl, rfl, rfl, by decide +kernel, rfl, by decide +kernel, by decide +kernel⟩

abbrev s__law_order : Stmt := top 53
abbrev N__law_order : List Str := ["one", "two", "gap"]
theorem sc__law_order : FnScope N__law_order ["one", "two"] (defScope s__law_order) := ⟨rfl, rfl, rfl, by decide +kernel, rfl, by decide +kernel, by decide +kernel⟩

abbrev s__law_holds : Stmt := top 54
abbrev N__law_holds : List Str := ["mark", "one", "two", "gap"]
theorem sc__law_holds : FnScope N__law_holds ["mark", "one", "two"] (defScope s__law_holds) := ⟨rfl, rfl, rfl, by decide +kernel, rfl, by decide +kernel, by decide +kernel⟩

abbrev s__law_two : Stmt := top 55
abbrev N__law_two : List Str := ["sign", "one", "two", "by"]
theorem sc__law_two : FnScope N__law_two ["sign", "one", "two"] (defScope s__law_two) := ⟨rfl, rfl, rfl, by decide +kernel, rfl, by decide +kernel, by decide +kernel⟩

abbrev s__law_worth : Stmt := top 56
abbrev N__law_worth : List Str := ["prefix", "table", "stack", "part", "one", "two", "three"]
theorem sc__law_worth : FnScope N__law_worth ["prefix", "table"] (defScope s__law_worth) := ⟨rfl, rfl, rfl, by decide +kernel, rfl, by decide +kernel, by decide +kernel⟩

abbrev s__law_prefix : Stmt := top 57
abbrev N__law_prefix : List Str := ["bag", "parts", "size", "owed", "made", "step", "kind", "room", "way"]
theorem sc__law_prefix : FnScope N__law_prefix ["bag", "parts", "size"] (defScope s__law_prefix) := ⟨rfl, rfl, rfl, by decide +kernel, rfl, by decide +kernel, by decide +kernel⟩

abbrev s__law_once : Stmt := top 58
abbrev N__law_once : List Str := ["things", "found", "one"]
theorem sc__law_once : FnScope N__law_once ["things"] (defScope s__law_once) := ⟨rfl, rfl, rfl, by decide +kernel, rfl, by decide +kernel, by decide +kernel⟩

abbrev s__law_named : Stmt := top 59
abbrev N__law_named : List Str := ["prefix", "signs_of_words", "part"]
theorem sc__law_named : FnScope N__law_named ["prefix"] (defScope s__law_named) := ⟨rfl, rfl, rfl, by decide +kernel, rfl, by decide +kernel, by decide +kernel⟩

abbrev s__law_trio : Stmt := top 60
abbrev N__law_trio : List Str := ["row"]
theorem sc__law_trio : FnScope N__law_trio ["row"] (defScope s__law_trio) := ⟨rfl, rfl, rfl, by decide +kernel, rfl, by decide +kernel, by decide +kernel⟩

abbrev s__law_uses : Stmt := top 61
abbrev N__law_uses : List Str := ["row", "trio"]
theorem sc__law_uses : FnScope N__law_uses ["row"] (defScope s__law_uses) := ⟨rfl, rfl, rfl, by decide +kernel, rfl, by decide +kernel, by decide +kernel⟩

abbrev s__law_rising : Stmt := top 62
abbrev N__law_rising : List Str := ["things", "kept", "whole", "one"]
theorem sc__law_rising : FnScope N__law_rising ["things"] (defScope s__law_rising) := ⟨rfl, rfl, rfl, by decide +kernel, rfl, by decide +kernel, by decide +kernel⟩

abbrev s__law_every_mean : Stmt := top 63
abbrev N__law_every_mean : List Str := ["span", "many", "sums", "one", "further", "pair", "k"]
theorem sc__law_every_mean : FnScope N__law_every_mean ["span", "many"] (defScope s__law_every_mean) := ⟨rfl, rfl, rfl, by decide +kernel, rfl, by decide +kernel, by decide +kernel⟩

abbrev s__law_every_row : Stmt := top 64
abbrev N__law_every_row : List Str := ["some", "grown", "span", "longer", "row", "one"]
theorem sc__law_every_row : FnScope N__law_every_row ["some"] (defScope s__law_every_row) := ⟨rfl, rfl, rfl, by decide +kernel, rfl, by decide +kernel, by decide +kernel⟩

abbrev s__law_span : Stmt := top 65
abbrev N__law_span : List Str := ["row", "spans", "many", "parts", "every", "part", "one", "k"]
theorem sc__law_span : FnScope N__law_span ["row", "spans", "many"] (defScope s__law_span) := ⟨rfl, rfl, rfl, by decide +kernel, rfl, by decide +kernel, by decide +kernel⟩

abbrev s__law_wholes : Stmt := top 66
abbrev N__law_wholes : List Str := ["bag", "far", "some", "k"]
theorem sc__law_wholes : FnScope N__law_wholes ["bag"] (defScope s__law_wholes) := ⟨rfl, rfl, rfl, by decide +kernel, rfl, by decide +kernel, by decide +kernel⟩

abbrev s__law_range : Stmt := top 67
abbrev N__law_range : List Str := ["bag", "size", "low", "step", "under", "some", "extra", "k"]
theorem sc__law_range : FnScope N__law_range ["bag", "size"] (defScope s__law_range) := ⟨rfl, rfl, rfl, by decide +kernel, rfl, by decide +kernel, by decide +kernel⟩

abbrev s__law_like_fractions : Stmt := top 68
abbrev N__law_like_fractions : List Str := ["got", "due", "one", "two"]
theorem sc__law_like_fractions : FnScope N__law_like_fractions ["got", "due"] (defScope s__law_like_fractions) := ⟨rfl, rfl, rfl, by decide +kernel, rfl, by decide +kernel, by decide +kernel⟩

abbrev s__law_means_right : Stmt := top 69
abbrev N__law_means_right : List Str := ["bag", "some", "many", "passed", "kept", "one", "turn", "got"]
theorem sc__law_means_right : FnScope N__law_means_right ["bag"] (defScope s__law_means_right) := ⟨rfl, rfl, rfl, by decide +kernel, rfl, by decide +kernel, by decide +kernel⟩

abbrev s__law_rows_right : Stmt := top 70
abbrev N__law_rows_right : List Str := ["bag", "some", "room", "k", "passed", "size", "span", "turn", "got", "due", "rest"]
theorem sc__law_rows_right : FnScope N__law_rows_right ["bag"] (defScope s__law_rows_right) := ⟨rfl, rfl, rfl, by decide +kernel, rfl, by decide +kernel, by decide +kernel⟩

abbrev s__law_row : Stmt := top 71
abbrev N__law_row : List Str := ["bag", "spans", "many", "known", "way", "trio", "other", "parts", "size", "part", "pool", "start", "mark", "kind", "k", "one"]
theorem sc__law_row : FnScope N__law_row ["bag", "spans", "many"] (defScope s__law_row) := ⟨rfl, rfl, rfl, by decide +kernel, rfl, by decide +kernel, by decide +kernel⟩

abbrev s__law_ranges_right : Stmt := top 72
abbrev N__law_ranges_right : List Str := ["bag", "many", "pool", "own", "row", "parts", "wide", "part", "spans", "due", "turn", "got", "k", "one"]
theorem sc__law_ranges_right : FnScope N__law_ranges_right ["bag"] (defScope s__law_ranges_right) := ⟨rfl, rfl, rfl, by decide +kernel, rfl, by decide +kernel, by decide +kernel⟩

abbrev s_law : Stmt := top 73
abbrev N_law : List Str := ["script", "bag", "turn"]
theorem sc_law : FnScope N_law ["script"] (defScope s_law) := ⟨rfl, rfl, rfl, by decide +kernel, rfl, by decide +kernel, by decide +kernel⟩

mutual
def okD : PyData → Bool
  | .none => true | .bool _ => true | .int i => decide (i.natAbs < 2 ^ 4000)
  | .str z => decide (z.length ≤ 100000)
  | .list ds => decide (ds.length ≤ 100000) && okAll ds
  | .tuple ds => decide (ds.length ≤ 100000) && okAll ds
  | .dict _ => false
def okAll : List PyData → Bool
  | [] => true
  | d :: ds => okD d && okAll ds
end
theorem okD_tup {ds : List PyData} : okD (.tuple ds) = true ↔ ds.length ≤ 100000 ∧ okAll ds = true := by
  show (decide (ds.length ≤ 100000) && okAll ds) = true ↔ _
  rw [Bool.and_eq_true, decide_eq_true_iff]
theorem okD_lst {ds : List PyData} : okD (.list ds) = true ↔ ds.length ≤ 100000 ∧ okAll ds = true := by
  show (decide (ds.length ≤ 100000) && okAll ds) = true ↔ _
  rw [Bool.and_eq_true, decide_eq_true_iff]
mutual
def dep : PyData → Nat
  | .none => 0 | .bool _ => 0 | .int _ => 0 | .str _ => 0
  | .list ds => depAll ds + 1
  | .tuple ds => depAll ds + 1
  | .dict _ => 0
def depAll : List PyData → Nat
  | [] => 0
  | d :: ds => max (dep d) (depAll ds)
end
def spP (K : PySem.W.Frag) (F : PyData → V) : Sp := fun vs H Q _ => ∃ v d, vs = [v] ∧ Dp K H v d ∧ okD d = true ∧ ∀ H', Same H H' → Q (F d) H'
def SeqV (K : PySem.W.Frag) (G : Hp) (x : V) (ys : List V) : Prop := (∃ p, x = .ref p ∧ SqL K G p ys) ∨ (∃ p, x = .ref p ∧ SqT K G p ys) ∨ ∃ z, x = .str z ∧ z.length ≤ 100000 ∧ ys = z.cps.toList.map fun c => V.str ⟨#[c]⟩
def sp__law_bag (K : PySem.W.Frag) : Sp := fun vs H Q _ => ∃ (a : Addr) (ns : List Int), vs = [.ref a] ∧ SqL K H a (ns.map V.int) ∧ ns.length ≤ 63 ∧ ∀ b c H', Same H H' → Bag H' b c → H b = none → Q (.ref b) H'
def sp__law_draw : Sp := fun vs H Q _ => ∃ (b c : Addr) (n : Int), vs = [.ref b, .int n] ∧ Bag H b c ∧ 0 < n ∧ n < 1073741824 ∧ ∀ (r : Int) H', 0 ≤ r → r < n → Bag H' b c → Kp b H H' → Q (.int r) H'
def sp__law_of (K : PySem.W.Frag) : Sp := fun vs H Q _ => ∃ (b c : Addr) (x : V) (ys : List V), vs = [.ref b, x] ∧ Bag H b c ∧ SeqV K H x ys ∧ SeqV K (hb H b) x ys ∧ ys ≠ [] ∧ ys.length ≤ 1000000 ∧ ∀ y H', y ∈ ys → Bag H' b c → Kp b H H' → Q y H'
def sp__law_like (K : PySem.W.Frag) (n : Nat) : Sp := fun vs H Q _ => ∃ v u d, vs = [v, u] ∧ Dp K H v d ∧ Dp K H u d ∧ okD d = true ∧ dep d ≤ n ∧ ∀ H', Same H H' → Q (.bl true) H'
def sp__law_any (K : PySem.W.Frag) (n : Nat) : Sp := fun vs H Q _ => ∃ (b c : Addr) (k : Int), vs = [.ref b, .int k] ∧ Bag H b c ∧ k ≤ n ∧ ∀ v d H', Bag H' b c → Kp b H H' → Dp K (nw H H') v d → okD d = true → dep d ≤ n → Q v H'
/-! ### mirrors -/
def LETs : Str := "abcdefghijklmnopqrstuvwxyz"
def FIGs : Str := "0123456789"
def inS (c : Nat) (z : Str) : Bool := decide (c ∈ z.cps.toList)
def keptL : List Str := ["program", "let", "tell", "be", "table", "first", "last", "count", "mean", "where", "pairs", "else", "sign", "place", "min", "max", "mod", "div", "and", "or", "not", "if"]
def keptV : List V := keptL.map V.str
def givenV : List V := [.str "sign", .str "place"]
def opsTab : List (Str × Str) := [("+", "ee"), ("-", "ee"), ("*", "ee"), ("min", "ee"), ("max", "ee"), ("=", "ee"), ("/=", "ee"), ("<", "ee"), ("<=", "ee"), (">", "ee"), (">=", "ee"), ("and", "ee"), ("or", "ee"), ("mod", "ek"), ("div", "ek"), ("not", "e"), ("if", "eee")]
def opsOf (z : Str) : Option Str := opsTab.lookup z
def optS : Option Str → V
  | none => .non
  | some s => .str s
def optI : Option Int → V
  | none => .non
  | some i => .int i
def isWordS (z : Str) : Bool := match z.cps.toList with
  | [] => false
  | c :: r => decide (z.length ≤ 6) && (inS c LETs && (c :: r).all fun c => inS c LETs || inS c FIGs)
def isWordD : PyData → Bool
  | .str z => isWordS z
  | _ => false
def isOwnD : PyData → Bool
  | .str z => isWordS z && !inV (.str z) keptV
  | _ => false
def isNameD : PyData → Bool
  | .str z => isOwnD (.str z) || inV (.str z) givenV
  | _ => false
def figures (z : Str) : Str := if Txt.startswith z "-" then cutS z (some 1) none else z
def readNum (z : Str) : Option Int :=
  if (1 ≤ (figures z).length ∧ (figures z).length ≤ 60) ∧ ((figures z).cps.toList.all fun c => inS c FIGs) = true then
    (match intText? z with
      | some n => if Str.ofString (toString n) = z then some n else none
      | none => none)
  else none
def isInt (z : Str) (a b : Int) : Bool := match readNum z with
  | some n => decide (a ≤ n) && decide (n ≤ b)
  | none => false
def opsBehind (d : PyData) (k : Str) : Option Str := match d with
  | .str z => if k = "k" then (if isInt z 1 9 = true then some "" else none) else if (isNameD (.str z) || isInt z (-9) 9) = true then some "" else opsOf z
  | _ => none
def head1 (w : Str) : Str := ⟨#[w.cps.toList.headD 0]⟩
def walkE : Str → List PyData → Bool
  | w, [] => decide (w = "")
  | w, d :: r => if w = "" then false else match opsBehind d (head1 w) with
    | none => false
    | some o => walkE (o ++ cutS w (some 1) none) r
def isExpr : PyData → Bool
  | .tuple ds => decide (1 ≤ ds.length) && decide (ds.length ≤ 30) && walkE "e" ds
  | _ => false
def isNum : PyData → Bool
  | .int _ => true
  | _ => false
def isFrac : PyData → Bool
  | .tuple [.int p, .int q] => decide (1 ≤ q) && decide (Nat.gcd p.natAbs q.natAbs = 1)
  | _ => false
def relL : List Str := ["=", "/=", "<", "<=", ">", ">="]
def relV : List V := relL.map V.str
/-! ### promises -/
def sp_read_number : Sp := fun vs H Q _ => ∃ z, vs = [.str z] ∧ z.length ≤ 100000 ∧ ∀ H', Same H H' → Q (optI (readNum z)) H'
def sp_is_integer_word : Sp := fun vs H Q _ => ∃ z a b, vs = [.str z, .int a, .int b] ∧ z.length ≤ 100000 ∧ ∀ H', Same H H' → Q (.bl (isInt z a b)) H'
def sp_operands_behind (K : PySem.W.Frag) : Sp := fun vs H Q _ => ∃ v d k, vs = [v, .str k] ∧ Dp K H v d ∧ okD d = true ∧ ∀ H', Same H H' → Q (optS (opsBehind d k)) H'
/-! ### an exception's class, as isinstance asks for it -/
structure IsxC (K : PySem.W.Frag) (C : Addr) : Prop where
  cl : (PySem.W.clsIn K C).isSome = true
  ga : PySem.W.findIn K (.ref C) "__getattribute__" = some (some (.builtin "BaseException.__getattribute__"))
  gt : PySem.W.findIn K (.ref C) "__getattr__" = some none
  sub : PySem.W.subIn K (.ref C) (.type "BaseException") = some true
  ha : PySem.W.findIn K (.ref C) "__class__" = some (some (.builtin "object.__class__"))
  hn : PySem.W.specialIn K (.builtin "object.__class__") "__get__" = some (some (.builtin "getset_descriptor.__get__"))
  tk : PySem.W.takesIn K (.builtin "object.__class__") = some true
  hm : PySem.W.mroIn K C (.type "object") = some true
/-- two keywords in the other order -/
def sw {α : Type} : List α → List α
  | [x, y] => [y, x]
  | l => l
theorem sw_rel : ∀ {zs : List V} {ws : List Value}, Vals zs ws → Vals (sw zs) (sw ws)
  | _, _, .nil => .nil
  | _, _, .cons a .nil => .cons a .nil
  | _, _, .cons a (.cons b .nil) => .cons b (.cons a .nil)
  | _, _, .cons a (.cons b (.cons c r)) => .cons a (.cons b (.cons c r))
/-! ### wide whole numbers -/
def CDivF (_ j : Int) : Prop := j ≠ 0 ∧ j.natAbs.log2 < 9000
theorem op_fdivF {X : Cx} : OpR X (binaryOp .FloorDiv) (rI CDivF fun i j => .int (i.fdiv j)) := opI fun _ _ _ _ _ _ _ hc q => floordiv_int hc.1 q (.inl (PyProof.noPylong_of_log2 hc.2))
/-- three keywords, turned about -/
def rot3 {α : Type} : List α → List α
  | [x, y, z] => [z, y, x]
  | l => l
theorem rot3_rel : ∀ {zs : List V} {ws : List Value}, Vals zs ws → Vals (rot3 zs) (rot3 ws)
  | _, _, .nil => .nil
  | _, _, .cons a .nil => .cons a .nil
  | _, _, .cons a (.cons b .nil) => .cons a (.cons b .nil)
  | _, _, .cons a (.cons b (.cons c .nil)) => .cons c (.cons b (.cons a .nil))
  | _, _, .cons a (.cons b (.cons c (.cons d r))) => .cons a (.cons b (.cons c (.cons d r)))
set_option maxHeartbeats 0 in
structure Txt (w : World) (K : PySem.W.Frag) (mg : Str → Option Value) where
  n_len : mg "len" = none
  n_int : mg "int" = none
  n_str : mg "str" = none
  n_list : mg "list" = none
  n_tuple : mg "tuple" = none
  n_bool : mg "bool" = none
  n_dict : mg "dict" = none
  n_isinstance : mg "isinstance" = none
  n_all : mg "all" = none
  n_range : mg "range" = none
  n_zip : mg "zip" = none
  n_abs : mg "abs" = none
  n_reversed : mg "reversed" = none
  n_sorted : mg "sorted" = none
  n_max : mg "max" = none
  n_min : mg "min" = none
  m_gcd : mg "gcd" = some (.builtin "math.gcd")
  a_ZERO : Addr
  m_ZERO : mg "ZERO" = some (.ref a_ZERO)
  s_ZERO : ∀ H, SqT K H a_ZERO [.int 0, .int 1]
  a_ONE : Addr
  m_ONE : mg "ONE" = some (.ref a_ONE)
  s_ONE : ∀ H, SqT K H a_ONE [.int 1, .int 1]
  t_FIGURES : Tok
  m_FIGURES : mg "FIGURES" = some (.str FIGs t_FIGURES)
  t_LETTERS : Tok
  m_LETTERS : mg "LETTERS" = some (.str LETs t_LETTERS)
  a_RESERVED : Addr
  m_RESERVED : mg "RESERVED" = some (.ref a_RESERVED)
  s_RESERVED : ∀ H, SqT K H a_RESERVED keptV
  a_GIVEN : Addr
  m_GIVEN : mg "GIVEN" = some (.ref a_GIVEN)
  s_GIVEN : ∀ H, SqT K H a_GIVEN givenV
  a_RELATIONS : Addr
  m_RELATIONS : mg "RELATIONS" = some (.ref a_RELATIONS)
  s_RELATIONS : ∀ H, SqT K H a_RELATIONS relV
  a_OPERANDS : Addr
  m_OPERANDS : mg "OPERANDS" = some (.ref a_OPERANDS)
  es_OPERANDS : Array DictEntry
  n_es_OPERANDS : Nat
  D_OPERANDS : KDict K w a_OPERANDS es_OPERANDS n_es_OPERANDS
  g_OPERANDS : ∀ z, ∃ r, PySem.W.nsIn K a_OPERANDS z = some r ∧ (match r with | none => opsOf z = none | some u => ∃ y, opsOf z = some y ∧ RelV (.str y) u)
  C_BadValue : Addr
  f_BadValue : Addr
  d_BadValue : FuncData
  m_BadValue : mg "BadValue" = some (.ref C_BadValue)
  X_BadValue : OexC K C_BadValue
  i_BadValue : PySem.W.findIn K (.ref C_BadValue) "__init__" = some (some (.ref f_BadValue))
  t_BadValue : PySem.W.typeIn K (.ref f_BadValue) = some (.type "function")
  F_BadValue : Fun K "__init__" "BadValue.__init__" s_BadValue f_BadValue d_BadValue
  B_BadValue__init : Binds K d_BadValue ["self", "value"] []
  v_BadValue : PySem.W.findIn K (.ref C_BadValue) "value" = some none
  c_BadValue : PySem.W.findIn K (.ref C_BadValue) "code" = some none
  C_NoName : Addr
  f_NoName : Addr
  d_NoName : FuncData
  m_NoName : mg "NoName" = some (.ref C_NoName)
  X_NoName : OexM K C_NoName "LookupError.__new__" leTail
  i_NoName : PySem.W.findIn K (.ref C_NoName) "__init__" = some (some (.ref f_NoName))
  t_NoName : PySem.W.typeIn K (.ref f_NoName) = some (.type "function")
  F_NoName : Fun K "__init__" "NoName.__init__" s_NoName f_NoName d_NoName
  B_NoName__init : Binds K d_NoName ["self", "name"] []
  v_NoName : PySem.W.findIn K (.ref C_NoName) "name" = some none
  c_NoName : PySem.W.findIn K (.ref C_NoName) "code" = some none
  C_Missing : Addr
  m_Missing : mg "Missing" = some (.ref C_Missing)
  e_NoName : PySem.W.exmOne K (.ref C_NoName) (.ref C_Missing) = some true
  x_NoName : XfC K C_NoName
  y_NoName : IsxC K C_NoName
  k_NoName : PySem.W.kitOne K (.ref C_NoName) (.ref C_NoName) = some true
  a_is_number : Addr
  d_is_number : FuncData
  F_is_number : Fun K "is_number" "is_number" s_is_number a_is_number d_is_number
  m_is_number : mg "is_number" = some (.ref a_is_number)
  B_is_number : Binds K d_is_number ["value"] []
  a_is_fraction : Addr
  d_is_fraction : FuncData
  F_is_fraction : Fun K "is_fraction" "is_fraction" s_is_fraction a_is_fraction d_is_fraction
  m_is_fraction : mg "is_fraction" = some (.ref a_is_fraction)
  B_is_fraction : Binds K d_is_fraction ["value"] []
  a_fraction : Addr
  d_fraction : FuncData
  F_fraction : FunD K "fraction" "fraction" (defArgs s_fraction) (defBody s_fraction) (defScope s_fraction) [.int 1] [] a_fraction d_fraction
  D_fraction : ∃ ds, Vals [.int 1] ds ∧ Binds K d_fraction ["p", "q"] ds
  m_fraction : mg "fraction" = some (.ref a_fraction)
  B_fraction : Binds K d_fraction ["p", "q"] []
  a_plus : Addr
  d_plus : FuncData
  F_plus : Fun K "plus" "plus" s_plus a_plus d_plus
  m_plus : mg "plus" = some (.ref a_plus)
  B_plus : Binds K d_plus ["a", "b"] []
  a_minus : Addr
  d_minus : FuncData
  F_minus : Fun K "minus" "minus" s_minus a_minus d_minus
  m_minus : mg "minus" = some (.ref a_minus)
  B_minus : Binds K d_minus ["a", "b"] []
  a_times : Addr
  d_times : FuncData
  F_times : Fun K "times" "times" s_times a_times d_times
  m_times : mg "times" = some (.ref a_times)
  B_times : Binds K d_times ["a", "b"] []
  a_quotient : Addr
  d_quotient : FuncData
  F_quotient : Fun K "quotient" "quotient" s_quotient a_quotient d_quotient
  m_quotient : mg "quotient" = some (.ref a_quotient)
  B_quotient : Binds K d_quotient ["a", "b"] []
  a_below : Addr
  d_below : FuncData
  F_below : Fun K "below" "below" s_below a_below d_below
  m_below : mg "below" = some (.ref a_below)
  B_below : Binds K d_below ["a", "b"] []
  a_floor_of : Addr
  d_floor_of : FuncData
  F_floor_of : Fun K "floor_of" "floor_of" s_floor_of a_floor_of d_floor_of
  m_floor_of : mg "floor_of" = some (.ref a_floor_of)
  B_floor_of : Binds K d_floor_of ["a"] []
  a_merged : Addr
  d_merged : FuncData
  F_merged : Fun K "merged" "merged" s_merged a_merged d_merged
  m_merged : mg "merged" = some (.ref a_merged)
  B_merged : Binds K d_merged ["low", "high"] []
  a_ascending : Addr
  d_ascending : FuncData
  F_ascending : Fun K "ascending" "ascending" s_ascending a_ascending d_ascending
  m_ascending : mg "ascending" = some (.ref a_ascending)
  B_ascending : Binds K d_ascending ["values"] []
  a_is_word_name : Addr
  d_is_word_name : FuncData
  F_is_word_name : Fun K "is_word_name" "is_word_name" s_is_word_name a_is_word_name d_is_word_name
  m_is_word_name : mg "is_word_name" = some (.ref a_is_word_name)
  B_is_word_name : Binds K d_is_word_name ["value"] []
  a_is_own_name : Addr
  d_is_own_name : FuncData
  F_is_own_name : Fun K "is_own_name" "is_own_name" s_is_own_name a_is_own_name d_is_own_name
  m_is_own_name : mg "is_own_name" = some (.ref a_is_own_name)
  B_is_own_name : Binds K d_is_own_name ["value"] []
  a_is_name : Addr
  d_is_name : FuncData
  F_is_name : Fun K "is_name" "is_name" s_is_name a_is_name d_is_name
  m_is_name : mg "is_name" = some (.ref a_is_name)
  B_is_name : Binds K d_is_name ["value"] []
  a_names_in : Addr
  d_names_in : FuncData
  F_names_in : Fun K "names_in" "names_in" s_names_in a_names_in d_names_in
  m_names_in : mg "names_in" = some (.ref a_names_in)
  B_names_in : Binds K d_names_in ["words"] []
  a_truth : Addr
  d_truth : FuncData
  F_truth : Fun K "truth" "truth" s_truth a_truth d_truth
  m_truth : mg "truth" = some (.ref a_truth)
  B_truth : Binds K d_truth ["holds"] []
  a_compared : Addr
  d_compared : FuncData
  F_compared : Fun K "compared" "compared" s_compared a_compared d_compared
  m_compared : mg "compared" = some (.ref a_compared)
  B_compared : Binds K d_compared ["relation", "a", "b"] []
  a_whole_quotient : Addr
  d_whole_quotient : FuncData
  F_whole_quotient : Fun K "whole_quotient" "whole_quotient" s_whole_quotient a_whole_quotient d_whole_quotient
  m_whole_quotient : mg "whole_quotient" = some (.ref a_whole_quotient)
  B_whole_quotient : Binds K d_whole_quotient ["a", "b"] []
  a_value_of_two : Addr
  d_value_of_two : FuncData
  F_value_of_two : Fun K "value_of_two" "value_of_two" s_value_of_two a_value_of_two d_value_of_two
  m_value_of_two : mg "value_of_two" = some (.ref a_value_of_two)
  B_value_of_two : Binds K d_value_of_two ["word", "a", "b"] []
  a_value_of_word : Addr
  d_value_of_word : FuncData
  F_value_of_word : Fun K "value_of_word" "value_of_word" s_value_of_word a_value_of_word d_value_of_word
  m_value_of_word : mg "value_of_word" = some (.ref a_value_of_word)
  B_value_of_word : Binds K d_value_of_word ["word", "operands", "values"] []
  a_evaluate : Addr
  d_evaluate : FuncData
  F_evaluate : Fun K "evaluate" "evaluate" s_evaluate a_evaluate d_evaluate
  m_evaluate : mg "evaluate" = some (.ref a_evaluate)
  B_evaluate : Binds K d_evaluate ["words", "values"] []
  a_is_look : Addr
  d_is_look : FuncData
  F_is_look : Fun K "is_look" "is_look" s_is_look a_is_look d_is_look
  m_is_look : mg "is_look" = some (.ref a_is_look)
  B_is_look : Binds K d_is_look ["line"] []
  a_asked : Addr
  d_asked : FuncData
  F_asked : Fun K "asked" "asked" s_asked a_asked d_asked
  m_asked : mg "asked" = some (.ref a_asked)
  B_asked : Binds K d_asked ["line"] []
  a_line_names : Addr
  d_line_names : FuncData
  F_line_names : Fun K "line_names" "line_names" s_line_names a_line_names d_line_names
  m_line_names : mg "line_names" = some (.ref a_line_names)
  B_line_names : Binds K d_line_names ["line"] []
  a_means : Addr
  d_means : FuncData
  F_means : Fun K "means" "means" s_means a_means d_means
  m_means : mg "means" = some (.ref a_means)
  B_means : Binds K d_means ["values", "n"] []
  a_rows_of_values : Addr
  d_rows_of_values : FuncData
  F_rows_of_values : Fun K "rows_of_values" "rows_of_values" s_rows_of_values a_rows_of_values d_rows_of_values
  m_rows_of_values : mg "rows_of_values" = some (.ref a_rows_of_values)
  B_rows_of_values : Binds K d_rows_of_values ["ranges"] []
  a_line_rows : Addr
  d_line_rows : FuncData
  F_line_rows : Fun K "line_rows" "line_rows" s_line_rows a_line_rows d_line_rows
  m_line_rows : mg "line_rows" = some (.ref a_line_rows)
  B_line_rows : Binds K d_line_rows ["line", "ranges"] []
  a_results : Addr
  d_results : FuncData
  F_results : Fun K "results" "results" s_results a_results d_results
  m_results : mg "results" = some (.ref a_results)
  B_results : Binds K d_results ["line", "ranges"] []
  a_line_range : Addr
  d_line_range : FuncData
  F_line_range : Fun K "line_range" "line_range" s_line_range a_line_range d_line_range
  m_line_range : mg "line_range" = some (.ref a_line_range)
  B_line_range : Binds K d_line_range ["line", "ranges", "n"] []
  a__law_bag : Addr
  d__law_bag : FuncData
  F__law_bag : Fun K "_law_bag" "_law_bag" s__law_bag a__law_bag d__law_bag
  m__law_bag : mg "_law_bag" = some (.ref a__law_bag)
  B__law_bag : Binds K d__law_bag ["script"] []
  a__law_draw : Addr
  d__law_draw : FuncData
  F__law_draw : Fun K "_law_draw" "_law_draw" s__law_draw a__law_draw d__law_draw
  m__law_draw : mg "_law_draw" = some (.ref a__law_draw)
  B__law_draw : Binds K d__law_draw ["bag", "size"] []
  a__law_of : Addr
  d__law_of : FuncData
  F__law_of : Fun K "_law_of" "_law_of" s__law_of a__law_of d__law_of
  m__law_of : mg "_law_of" = some (.ref a__law_of)
  B__law_of : Binds K d__law_of ["bag", "things"] []
  a__law_like : Addr
  d__law_like : FuncData
  F__law_like : Fun K "_law_like" "_law_like" s__law_like a__law_like d__law_like
  m__law_like : mg "_law_like" = some (.ref a__law_like)
  B__law_like : Binds K d__law_like ["got", "due"] []
  a__law_low : Addr
  d__law_low : FuncData
  F__law_low : Fun K "_law_low" "_law_low" s__law_low a__law_low d__law_low
  m__law_low : mg "_law_low" = some (.ref a__law_low)
  B__law_low : Binds K d__law_low ["top", "low"] []
  a__law_order : Addr
  d__law_order : FuncData
  F__law_order : Fun K "_law_order" "_law_order" s__law_order a__law_order d__law_order
  m__law_order : mg "_law_order" = some (.ref a__law_order)
  B__law_order : Binds K d__law_order ["one", "two"] []
  a__law_holds : Addr
  d__law_holds : FuncData
  F__law_holds : Fun K "_law_holds" "_law_holds" s__law_holds a__law_holds d__law_holds
  m__law_holds : mg "_law_holds" = some (.ref a__law_holds)
  B__law_holds : Binds K d__law_holds ["mark", "one", "two"] []
  a__law_two : Addr
  d__law_two : FuncData
  F__law_two : Fun K "_law_two" "_law_two" s__law_two a__law_two d__law_two
  m__law_two : mg "_law_two" = some (.ref a__law_two)
  B__law_two : Binds K d__law_two ["sign", "one", "two"] []
  a__law_worth : Addr
  d__law_worth : FuncData
  F__law_worth : Fun K "_law_worth" "_law_worth" s__law_worth a__law_worth d__law_worth
  m__law_worth : mg "_law_worth" = some (.ref a__law_worth)
  B__law_worth : Binds K d__law_worth ["prefix", "table"] []
  a__law_prefix : Addr
  d__law_prefix : FuncData
  F__law_prefix : Fun K "_law_prefix" "_law_prefix" s__law_prefix a__law_prefix d__law_prefix
  m__law_prefix : mg "_law_prefix" = some (.ref a__law_prefix)
  B__law_prefix : Binds K d__law_prefix ["bag", "parts", "size"] []
  a__law_once : Addr
  d__law_once : FuncData
  F__law_once : Fun K "_law_once" "_law_once" s__law_once a__law_once d__law_once
  m__law_once : mg "_law_once" = some (.ref a__law_once)
  B__law_once : Binds K d__law_once ["things"] []
  a__law_named : Addr
  d__law_named : FuncData
  F__law_named : Fun K "_law_named" "_law_named" s__law_named a__law_named d__law_named
  m__law_named : mg "_law_named" = some (.ref a__law_named)
  B__law_named : Binds K d__law_named ["prefix"] []
  a__law_trio : Addr
  d__law_trio : FuncData
  F__law_trio : Fun K "_law_trio" "_law_trio" s__law_trio a__law_trio d__law_trio
  m__law_trio : mg "_law_trio" = some (.ref a__law_trio)
  B__law_trio : Binds K d__law_trio ["row"] []
  a__law_uses : Addr
  d__law_uses : FuncData
  F__law_uses : Fun K "_law_uses" "_law_uses" s__law_uses a__law_uses d__law_uses
  m__law_uses : mg "_law_uses" = some (.ref a__law_uses)
  B__law_uses : Binds K d__law_uses ["row"] []
  a__law_rising : Addr
  d__law_rising : FuncData
  F__law_rising : Fun K "_law_rising" "_law_rising" s__law_rising a__law_rising d__law_rising
  m__law_rising : mg "_law_rising" = some (.ref a__law_rising)
  B__law_rising : Binds K d__law_rising ["things"] []
  a__law_every_mean : Addr
  d__law_every_mean : FuncData
  F__law_every_mean : Fun K "_law_every_mean" "_law_every_mean" s__law_every_mean a__law_every_mean d__law_every_mean
  m__law_every_mean : mg "_law_every_mean" = some (.ref a__law_every_mean)
  B__law_every_mean : Binds K d__law_every_mean ["span", "many"] []
  a__law_every_row : Addr
  d__law_every_row : FuncData
  F__law_every_row : Fun K "_law_every_row" "_law_every_row" s__law_every_row a__law_every_row d__law_every_row
  m__law_every_row : mg "_law_every_row" = some (.ref a__law_every_row)
  B__law_every_row : Binds K d__law_every_row ["some"] []
  a__law_span : Addr
  d__law_span : FuncData
  F__law_span : Fun K "_law_span" "_law_span" s__law_span a__law_span d__law_span
  m__law_span : mg "_law_span" = some (.ref a__law_span)
  B__law_span : Binds K d__law_span ["row", "spans", "many"] []
  a__law_wholes : Addr
  d__law_wholes : FuncData
  F__law_wholes : Fun K "_law_wholes" "_law_wholes" s__law_wholes a__law_wholes d__law_wholes
  m__law_wholes : mg "_law_wholes" = some (.ref a__law_wholes)
  B__law_wholes : Binds K d__law_wholes ["bag"] []
  a__law_range : Addr
  d__law_range : FuncData
  F__law_range : Fun K "_law_range" "_law_range" s__law_range a__law_range d__law_range
  m__law_range : mg "_law_range" = some (.ref a__law_range)
  B__law_range : Binds K d__law_range ["bag", "size"] []
  a__law_like_fractions : Addr
  d__law_like_fractions : FuncData
  F__law_like_fractions : Fun K "_law_like_fractions" "_law_like_fractions" s__law_like_fractions a__law_like_fractions d__law_like_fractions
  m__law_like_fractions : mg "_law_like_fractions" = some (.ref a__law_like_fractions)
  B__law_like_fractions : Binds K d__law_like_fractions ["got", "due"] []
  a__law_means_right : Addr
  d__law_means_right : FuncData
  F__law_means_right : Fun K "_law_means_right" "_law_means_right" s__law_means_right a__law_means_right d__law_means_right
  m__law_means_right : mg "_law_means_right" = some (.ref a__law_means_right)
  B__law_means_right : Binds K d__law_means_right ["bag"] []
  a__law_rows_right : Addr
  d__law_rows_right : FuncData
  F__law_rows_right : Fun K "_law_rows_right" "_law_rows_right" s__law_rows_right a__law_rows_right d__law_rows_right
  m__law_rows_right : mg "_law_rows_right" = some (.ref a__law_rows_right)
  B__law_rows_right : Binds K d__law_rows_right ["bag"] []
  a__law_row : Addr
  d__law_row : FuncData
  F__law_row : Fun K "_law_row" "_law_row" s__law_row a__law_row d__law_row
  m__law_row : mg "_law_row" = some (.ref a__law_row)
  B__law_row : Binds K d__law_row ["bag", "spans", "many"] []
  a__law_ranges_right : Addr
  d__law_ranges_right : FuncData
  F__law_ranges_right : Fun K "_law_ranges_right" "_law_ranges_right" s__law_ranges_right a__law_ranges_right d__law_ranges_right
  m__law_ranges_right : mg "_law_ranges_right" = some (.ref a__law_ranges_right)
  B__law_ranges_right : Binds K d__law_ranges_right ["bag"] []
  a_law : Addr
  d_law : FuncData
  F_law : Fun K "law" "law" s_law a_law d_law
  m_law : mg "law" = some (.ref a_law)
  B_law : Binds K d_law ["script"] []
  c__law_rising : Addr
  P__law_rising : Addr
  k__law_rising : d__law_rising.code = .ref c__law_rising
  Z_means : KBn K d_means ["values", "n"] 0 ["n", "values"] (fun _ ws => sw ws) (fun _ zs => sw zs)
  Z_rows_of_values : KBn K d_rows_of_values ["ranges"] 0 ["ranges"] (fun _ ws => ws) (fun _ zs => zs)
  Z_line_range : KBn K d_line_range ["line", "ranges", "n"] 0 ["n", "ranges", "line"] (fun _ ws => rot3 ws) (fun _ zs => rot3 zs)

end LK

set_option Elab.async false
set_option linter.all false
set_option maxRecDepth 100000
namespace LK
open PySem PySem.Spec PyProof.Rows L2
local macro_rules | `(tactic| walk_at "rs") => `(tactic| simp only [cxK, cxNK, tCallZ, tAsg, tOp, rI0, rS0, rB0, rI, rU, tUn, rEq, rNe, rIxL, rIxT, rIxS, rSetL, rSlLU, rSlS, rSlU, rCatL, rCatU, rRepL, rIn, tVar, tC, gName, gSub, tIfS, tTest, tB, tAnd, tOr, tNot, tNotV, tAndV, tOrV, tIf, tCall, tCons, tNil, tCB, tDrop, tRet, tRetN, tNext, tLstU, tTupU, tM0, tM1, tPar, tPar3, tAug, ipI, tBM, tBM0, rAppend, rPop, tBreak, tCont, tChain, tSl, tPart, tNoPart, L2.start, List.map, List.length_cons, List.length_nil, List.replicate, List.cons_append, List.nil_append, List.append_nil, List.getElem?_cons_zero, List.getElem?_cons_succ, List.set_cons_zero, List.set_cons_succ, Option.some.injEq, V.int.injEq, V.ref.injEq, V.str.injEq, V.bl.injEq, exists_eq_left', exists_eq_left, exists_and_left, decide_eq_true_eq, List.cons.injEq, and_true, true_and, scal, Bool.not_eq_true', decide_eq_false_iff_not, Nat.zero_add, Nat.reduceAdd, Nat.reduceSub, reduceCtorEq, false_and, exists_false, false_or, or_false, CPow, CMul, CDiv, Int.reduceToNat, ↓reduceIte, wipe, sw, List.nil_append, List.singleton_append])
local macro_rules | `(tactic| walk_at "st") => `(tactic| (refine seq_op fun N hN => ?_; walk_at "rs"))
local macro_rules | `(tactic| walk_at "sd") => `(tactic| first | assumption | decide | omega)
local macro_rules | `(tactic| walk_at "rd") => `(tactic| repeat (first
  | refine ⟨_, SqL.of (by assumption), ?_⟩ | refine ⟨_, SqL.of upd_same, ?_⟩ | refine ⟨_, .inl (SqL.of (by assumption)), ?_⟩ | refine ⟨_, (by assumption : _ = some (HO.lst _)), ?_⟩ | refine ⟨_, upd_same, ?_⟩
  | refine ⟨_, rfl, ?_⟩ | refine And.intro (by walk_at "sd") ?_))

section
variable {P : Program} {w : World} {K : PySem.W.Frag} {mg : Str → Option Value} {base : Heap}
theorem ok__law_draw (T : Txt w K mg) : FnOk P w K mg base CX0 1 T.a__law_draw T.d__law_draw ["bag", "size"] sp__law_draw := by
  refine T.F__law_draw.ok sc__law_draw (fun vs H Q E h => ?_) (fun cdv A outer s H vs Q E hr h => ?_)
  · obtain ⟨b, c, n, rfl, _⟩ := h
    rfl
  · obtain ⟨b, c, n, rfl, ⟨cells, i, g, m, d, hB, hC, ncb, hi, hm, hm2⟩, n0, n1, k⟩ := h
    refine ⟨_, (pss_cons (ps_asg (pe_op op_add (pe_ix ix_list (pv 0) pe_int (fun _ _ => rfl)) pe_int) (pg_sub (pv 0) pe_int set_list))
      (pss_cons (ps_if (PW.pt (pw_and (pt_cmpR op_eqI (pe_ix ix_list (pv 0) pe_int (fun _ _ => rfl)) pe_int (nomark _)) (pw_and1 (pt_cmpR op_lt (pe_ix ix_list (pv 0) pe_int (fun _ _ => rfl)) (pe_callB call_len_seq (by rfl) T.n_len (by decide +kernel) (pa_cons (pe_ix ix_list (pv 0) pe_int (fun _ _ => rfl)) pa_nil)) (nomark _))))) (pss_cons (ps_set (i := 2) sc__law_draw.nd rfl (Or.inl rfl) (pe_ix ix_list (pe_ix ix_list (pv 0) pe_int (fun _ _ => rfl)) (pe_ix ix_list (pv 0) pe_int (fun _ _ => rfl)) (fun _ _ => rfl)))
      (pss_cons (ps_asg (pe_op op_add (pe_ix ix_list (pv 0) pe_int (fun _ _ => rfl)) pe_int) (pg_sub (pv 0) pe_int set_list))
      (pss_one (ps_if (pt_cmpR op_ge (pv 2) (pe_op op_pow pe_int pe_int) (nomark _)) (pss_one (ps_asg (pv 2) (pg_sub (pv 0) pe_int set_list))) (pss_one (ps_asg (pe_op op_mod (pe_callTy call_intI (by rfl) T.n_int (by decide +kernel) (pa_cons (pe_op op_add (pe_op op_add (pe_op op_mul (pe_ix ix_list (pv 0) pe_int (fun _ _ => rfl)) pe_int) (pe_op op_mul (pe_op op_mod (pe_callTy call_intI (by rfl) T.n_int (by decide +kernel) (pa_cons (pv 2) pa_nil)) pe_int) pe_int)) pe_int) pa_nil)) pe_int) (pg_sub (pv 0) pe_int set_list))))))) pss_nil)
      (pss_cons (ps_if (pt_cmpR op_gt (pe_ix ix_list (pv 0) pe_int (fun _ _ => rfl)) pe_int (nomark _)) (pss_cons (ps_set (i := 3) sc__law_draw.nd rfl (Or.inl rfl) (pe_op op_mod (pe_callTy call_intI (by rfl) T.n_int (by decide +kernel) (pa_cons (pe_ix ix_list (pv 0) pe_int (fun _ _ => rfl)) pa_nil)) (pv 1)))
      (pss_cons (ps_asg (pe_op op_fdiv (pe_ix ix_list (pv 0) pe_int (fun _ _ => rfl)) (pv 1)) (pg_sub (pv 0) pe_int set_list))
      (pss_one (ps_ret (pv 3))))) pss_nil)
      (pss_cons (ps_asg (pe_op op_mod (pe_callTy call_intI (by rfl) T.n_int (by decide +kernel) (pa_cons (pe_op op_add (pe_op op_add (pe_op op_pow (pe_ix ix_list (pv 0) pe_int (fun _ _ => rfl)) pe_int) (pe_op op_mul (pe_ix ix_list (pv 0) pe_int (fun _ _ => rfl)) pe_int)) pe_int) pa_nil)) pe_int) (pg_sub (pv 0) pe_int set_list))
      (pss_one (ps_ret (pe_op op_mod (pe_callTy call_intI (by rfl) T.n_int (by decide +kernel) (pa_cons (pe_op op_add (pe_op op_fdiv (pe_ix ix_list (pv 0) pe_int (fun _ _ => rfl)) pe_int) (pe_op op_mul (pe_op op_mod (pe_callTy call_intI (by rfl) T.n_int (by decide +kernel) (pa_cons (pe_ix ix_list (pv 0) pe_int (fun _ _ => rfl)) pa_nil)) pe_int) pe_int)) pa_nil)) (pv 1)))))))), ?_⟩
    -- bag[4] = bag[4] + 1
    refine seq_op fun N hN => ?_
    walk_at "rs"
    refine ⟨_, SqL.of hB, _, rfl, _, rfl, _, hB, _, rfl, ?_⟩
    refine hN _ _ ?_
    clear hN N
    -- if bag[2] == 0 and bag[1] < len(bag[0]): ..
    have B1 : Bag (upd H b (.lst [.ref c, .int i, .int g, .int m, .int (d + 1)])) b c := ⟨cells, i, g, m, d + 1, upd_same, by rw [upd_ne ncb]; exact hC, ncb, hi, hm, hm2⟩
    have K1 : Kp b H (upd H b (.lst [.ref c, .int i, .int g, .int m, .int (d + 1)])) := Kp.upd
    show tSeq _ _ _ _ (upd H b (.lst [.ref c, .int i, .int g, .int m, .int (d + 1)]))
    generalize upd H b (.lst [.ref c, .int i, .int g, .int m, .int (d + 1)]) = H1 at B1 K1 ⊢
    clear hB hC ncb hi hm hm2 i g m d cells
    refine cut_seq (fun σ H2 => ∃ x, σ = [some (.ref b), some (.int n), x, none] ∧ Bag H2 b c ∧ Kp b H H2) (fun N hN => ?_) ?_
    · obtain ⟨cells, i, g, m, d, hB, hC, ncb, hi, hm, hm2⟩ := id B1
      walk_at "rs"
      refine ⟨_, SqL.of hB, _, rfl, _, rfl, ite2 (fun z => ?_) (fun _ => hN _ _ ⟨_, rfl, B1, K1⟩)⟩
      refine ⟨_, SqL.of hB, _, rfl, _, SqL.of hB, _, rfl, _, rfl, _, .inl (SqL.of hC), _, rfl, ite2 (fun zl => ?_) (fun _ => hN _ _ ⟨_, rfl, B1, K1⟩)⟩
      -- cell = bag[0][bag[1]]
      rw [List.length_map] at zl
      obtain ⟨cl, hcl⟩ : ∃ cl, cells[i.toNat]? = some cl := ⟨cells[i.toNat]'(by omega), List.getElem?_eq_getElem _⟩
      refine seq_op fun N2 hN2 => ?_
      walk_at "rs"
      walk_at "rd"
      refine ⟨_, _, rfl, SqL.of hC, _, at_of (j := i.toNat) (v := .int cl) (by omega) (by rw [List.getElem?_map, hcl] <;> rfl), hN2 _ _ ?_⟩
      clear hN2 N2
      -- bag[1] = bag[1] + 1
      refine seq_op fun N2 hN2 => ?_
      walk_at "rs"
      walk_at "rd"
      refine hN2 _ _ ?_
      clear hN2 N2
      -- if cell >= 10 ** 18: bag[2] = cell else: ..
      walk_at "rs"
      refine ⟨by decide, ite2 (fun _ => ?_) (fun _ => ?_)⟩
      · refine ⟨_, upd_same, _, rfl, hN _ _ ⟨_, rfl, ?_, ?_⟩⟩
        · exact ⟨cells, i + 1, cl, m, d, upd_same, by rw [upd_ne ncb, upd_ne ncb]; exact hC, ncb, by omega, hm, hm2⟩
        · exact K1.trans (Kp.upd.trans Kp.upd)
      · walk_at "rd"
        refine hN _ _ ⟨_, rfl, ?_, ?_⟩
        · exact ⟨cells, i + 1, g, _, d, upd_same, by rw [upd_ne ncb, upd_ne ncb]; exact hC, ncb, by omega, Int.emod_nonneg _ (by decide), Int.emod_lt_of_pos _ (by decide)⟩
        · exact K1.trans (Kp.upd.trans Kp.upd)
    · rintro σ H2 ⟨x, rfl, B2, K2⟩
      obtain ⟨cells, i, g, m, d, hB, hC, ncb, hi, hm, hm2⟩ := id B2
      -- if bag[2] > 0: ..
      refine seq_op fun N hN => ?_
      walk_at "rs"
      refine ⟨_, SqL.of hB, _, rfl, _, rfl, ite2 (fun _ => ?_) (fun _ => hN _ _ ?_)⟩
      · refine seq_op fun N2 hN2 => ?_
        walk_at "rs"
        walk_at "rd"
        refine hN2 _ _ ?_
        clear hN2 N2
        refine seq_op fun N2 hN2 => ?_
        walk_at "rs"
        refine ⟨_, SqL.of hB, _, rfl, _, rfl, ⟨n0, n1⟩, ?_⟩
        walk_at "rd"
        refine hN2 _ _ ?_
        walk_at "rs"
        exact k _ _ (Int.emod_nonneg _ (by omega)) (Int.emod_lt_of_pos _ n0) ⟨cells, i, _, m, d, upd_same, by rw [upd_ne ncb]; exact hC, ncb, hi, hm, hm2⟩ (K2.trans Kp.upd)
      · clear hN N
        refine seq_op fun N hN => ?_
        walk_at "rs"
        refine ⟨_, SqL.of hB, _, rfl, _, rfl, ⟨by decide, by decide, by omega⟩, _, SqL.of hB, _, rfl, _, rfl, .inr (by decide), by decide, ?_⟩
        walk_at "rd"
        refine hN _ _ ?_
        clear hN N
        walk_at "rs"
        walk_at "rd"
        exact k _ _ (Int.emod_nonneg _ (by omega)) (Int.emod_lt_of_pos _ n0) ⟨cells, i, g, _, d, upd_same, by rw [upd_ne ncb]; exact hC, ncb, hi, Int.emod_nonneg _ (by decide), Int.emod_lt_of_pos _ (by decide)⟩ (K2.trans Kp.upd)

theorem ok__law_of (T : Txt w K mg) : FnOk P w K mg base CX0 2 T.a__law_of T.d__law_of ["bag", "things"] (sp__law_of K) := by
  refine T.F__law_of.ok sc__law_of (fun vs H Q E h => ?_) (fun cdv A outer s H vs Q E hr h => ?_)
  · obtain ⟨b, c, x, ys, rfl, _⟩ := h
    rfl
  · obtain ⟨b, c, x, ys, rfl, B, sq, sqb, ne, hl, k⟩ := h
    have hr__law_draw : Room 1 _ := hr.mono (by decide)
    have G__law_draw := ok__law_draw (P := P) (base := base) T
    refine ⟨_, (pss_one (ps_ret (pe_ix ix_seq (pv 1) (pe_call G__law_draw hr__law_draw (by rfl) T.m__law_draw T.F__law_draw.kp T.B__law_draw .nil pass0 (pa_cons (pv 0) (pa_cons (pe_callB call_len (by rfl) T.n_len (by decide +kernel) (pa_cons (pv 1) pa_nil)) pa_nil))) (fun _ _ => rfl)))), ?_⟩
    walk_at "rs"
    have ln : 0 < ys.length := by cases ys with | nil => exact absurd rfl ne | cons => exact Nat.succ_pos _
    have pick : ∀ (r : Int), 0 ≤ r → r < (ys.length : Int) → ∃ y, atI ys r = some y ∧ y ∈ ys := fun r r0 r1 => by
      have h1 : r.toNat < ys.length := by omega
      exact ⟨ys[r.toNat], at_of (j := r.toNat) (by omega) (List.getElem?_eq_getElem h1), List.getElem_mem h1⟩
    refine ⟨ys.length, ?_, b, c, _, rfl, B, by omega, by omega, fun r H' r0 r1 B' K' => ?_⟩
    · rcases sq with ⟨p, rfl, h⟩ | ⟨p, rfl, h⟩ | ⟨z, rfl, hz, rfl⟩
      · exact .inl ⟨_, h, rfl⟩
      · exact .inr ⟨_, h, rfl⟩
      · refine ⟨Nat.le_trans hz (by decide), ?_⟩
        rw [List.length_map, Array.length_toList] <;> rfl
    · obtain ⟨y, e, hy⟩ := pick r r0 r1
      rcases sqb with ⟨p, rfl, h⟩ | ⟨p, rfl, h⟩ | ⟨z, rfl, hz, rfl⟩
      · exact .inl ⟨p, ys, r, y, rfl, rfl, Same.seq (hb_le _ _) (Same.seq K' h), e, k y H' hy B' K'⟩
      · exact .inr (.inl ⟨p, ys, r, y, rfl, rfl, Same.seqT (hb_le _ _) (Same.seqT K' h), e, k y H' hy B' K'⟩)
      · refine .inr (.inr ?_)
        have h1 : r.toNat < z.cps.toList.length := by rw [List.length_map] at r1; omega
        have e2 : atI z.cps.toList r = some z.cps.toList[r.toNat] := at_ofN (j := r.toNat) (by omega) (List.getElem?_eq_getElem h1)
        refine ⟨z, r, _, rfl, rfl, Nat.le_trans hz (by decide), e2, k _ H' ?_ B' K'⟩
        exact List.mem_map.mpr ⟨_, List.getElem_mem h1, rfl⟩
theorem ok__law_bag (T : Txt w K mg) : FnOk P w K mg base CX0 1 T.a__law_bag T.d__law_bag ["script"] (sp__law_bag K) := by
  refine T.F__law_bag.ok sc__law_bag (fun vs H Q E h => ?_) (fun cdv A outer s H vs Q E hr h => ?_)
  · obtain ⟨a, ns, rfl, _⟩ := h
    rfl
  · obtain ⟨a, ns, rfl, hS, hl, k⟩ := h
    refine ⟨_, (pss_cons (ps_set (i := 1) sc__law_bag.nd rfl (Or.inl rfl) pe_int)
      (pss_cons (ps_for PassesOwn.never rfl (pi_list (pe_slice sl_listU (pv 0) po_none (po_some pe_int))) (pg_name (i := 2) sc__law_bag.nd rfl (Or.inl rfl)) (pss_one (ps_set (i := 1) sc__law_bag.nd rfl (Or.inl rfl) (pe_op op_mod (pe_callTy call_intI (by rfl) T.n_int (by decide +kernel) (pa_cons (pe_op op_add (pe_op op_add (pe_op op_mul (pv 1) pe_int) (pe_op op_mod (pe_callTy call_intI (by rfl) T.n_int (by decide +kernel) (pa_cons (pv 2) pa_nil)) pe_int)) pe_int) pa_nil)) pe_int))))
      (pss_one (ps_ret (pe_lstU (pa_cons (pe_callTy call_listU (by rfl) T.n_list (by decide +kernel) (pa_cons (pe_slice sl_listU (pv 0) po_none (po_some pe_int)) pa_nil)) (pa_cons pe_int (pa_cons pe_int (pa_cons (pv 1) (pa_cons pe_int pa_nil)))))))))), ?_⟩
    refine seq_op fun N hN => ?_
    walk_at "rs"
    refine hN _ _ ?_
    clear hN N
    refine cut_seq (fun σ H2 => ∃ m x, σ = [some (.ref a), some (.int m), x] ∧ 0 ≤ m ∧ m < 2147483579 ∧ Same H H2) (fun N hN => ?_) ?_
    · refine ⟨_, rfl, _, rfl, a, _, rfl, hS, fun p H1 s1 h0 h1 => ?_⟩
      refine ⟨p, rfl, ⟨_, SqL.of h1⟩, for_list (K := K) (a := p) (xs := cutV (ns.map V.int) none (some 63)) (fun i σ H2 => ∃ m x, σ = [some (.ref a), some (.int m), x] ∧ 0 ≤ m ∧ m < 2147483579 ∧ Same H1 H2) ⟨_, _, rfl, by decide, by decide, Same.refl _⟩ (fun i σ H2 _ ⟨_, _, _, _, _, s2⟩ => SqL.of (s2 _ _ h1)) ?_ ?_⟩
      · rintro i y σ H2 hi ⟨m, x, rfl, m0, m1, s2⟩
        obtain ⟨u, rfl⟩ : ∃ u, y = V.int u := by
          have q := List.mem_of_getElem? hi
          have q2 : y ∈ (ns.map V.int).take 63 := (cutV_take (ns.map V.int) 63) ▸ q
          obtain ⟨u, _, rfl⟩ := List.mem_map.mp (List.mem_of_mem_take q2)
          exact ⟨u, rfl⟩
        walk_at "rs"
        refine ⟨.inr (by decide), by decide, by decide, _, _, ⟨rfl, rfl⟩, ?_⟩
        exact ⟨Int.emod_nonneg _ (by decide), Int.emod_lt_of_pos _ (by decide), s2⟩
      · rintro σ H2 ⟨m, x, rfl, m0, m1, s2⟩
        exact hN _ _ ⟨m, x, rfl, m0, m1, Same.trans s1 s2⟩
    · rintro σ H2 ⟨m, x, rfl, m0, m1, s2⟩
      walk_at "rs"
      refine ⟨_, Same.seq s2 hS, fun p H3 s3 h30 h3 => ⟨_, .inl (SqL.of h3), fun l H4 s4 h40 h4 => ⟨by decide, fun q H5 s5 h50 h5 => ?_⟩⟩⟩
      have e : cutV (ns.map V.int) none (some 63) = ns.map V.int := by
        refine (cutV_take (ns.map V.int) 63).trans ?_
        rw [List.take_of_length_le (by simpa using hl)]
      rw [e] at h4
      have s25 : Same H2 H5 := Same.trans s3 (Same.trans s4 s5)
      refine k q l H5 (Same.trans s2 s25) ⟨ns, 0, 0, m, 0, h5, s5 _ _ h4, fun z => ?_, Int.le_refl _, m0, m1⟩ ?_
      · rw [z, h50] at h4; cases h4
      · exact Same.dom s2 q (Same.dom s3 q (Same.dom s4 q h50))
end
end LK

set_option Elab.async false
set_option linter.all false
set_option maxRecDepth 100000
namespace LK
open PySem PySem.Spec PyProof.Rows L2
local macro_rules | `(tactic| walk_at "rs") => `(tactic| simp only [cxK, cxNK, tCallZ, tAsg, tOp, rI0, rS0, rB0, rI, rU, tUn, rEq, rNe, rIxL, rIxT, rIxS, rSetL, rSlLU, rSlS, rSlU, rCatL, rCatU, rRepL, rIn, tVar, tC, gName, gSub, tIfS, tTest, tB, tAnd, tOr, tNot, tNotV, tAndV, tOrV, tIf, tCall, tCons, tNil, tCB, tDrop, tRet, tRetN, tNext, tLstU, tTupU, tM0, tM1, tPar, tPar3, tAug, ipI, tBM, tBM0, rAppend, rPop, tBreak, tCont, tChain, tSl, tPart, tNoPart, L2.start, List.map, List.length_cons, List.length_nil, List.replicate, List.cons_append, List.nil_append, List.append_nil, List.getElem?_cons_zero, List.getElem?_cons_succ, List.set_cons_zero, List.set_cons_succ, Option.some.injEq, V.int.injEq, V.ref.injEq, V.str.injEq, V.bl.injEq, exists_eq_left', exists_eq_left, exists_and_left, decide_eq_true_eq, List.cons.injEq, and_true, true_and, scal, Bool.not_eq_true', decide_eq_false_iff_not, Nat.zero_add, Nat.reduceAdd, Nat.reduceSub, reduceCtorEq, false_and, exists_false, false_or, or_false, CPow, CMul, CDiv, Int.reduceToNat, ↓reduceIte, wipe, sw, List.nil_append, List.singleton_append])
local macro_rules | `(tactic| walk_at "st") => `(tactic| (refine seq_op fun N hN => ?_; walk_at "rs"))
local macro_rules | `(tactic| walk_at "sd") => `(tactic| first | assumption | decide | omega)
local macro_rules | `(tactic| walk_at "rd") => `(tactic| repeat (first
  | refine ⟨_, SqL.of (by assumption), ?_⟩ | refine ⟨_, SqL.of upd_same, ?_⟩ | refine ⟨_, .inl (SqL.of (by assumption)), ?_⟩ | refine ⟨_, (by assumption : _ = some (HO.lst _)), ?_⟩ | refine ⟨_, upd_same, ?_⟩
  | refine ⟨_, rfl, ?_⟩ | refine And.intro (by walk_at "sd") ?_))

theorem FIG_digit {c : Nat} (h : inS c FIGs = true) : 48 ≤ c ∧ c ≤ 57 := by
  have q : c ∈ FIGs.cps.toList := of_decide_eq_true h
  have e : FIGs.cps.toList = [48, 49, 50, 51, 52, 53, 54, 55, 56, 57] := by decide +kernel
  rw [e] at q
  simp only [List.mem_cons, List.mem_nil_iff, or_false] at q
  omega
theorem digitsVal_lt : ∀ (cs : List Nat) (a : Nat), NumText.AllDigits cs → cs.foldl (fun acc c => acc * 10 + (c - 48)) a < (a + 1) * 10 ^ cs.length
  | [], a, _ => by simp
  | c :: cs, a, h => by
    have hc := h.head
    have ih := digitsVal_lt cs (a * 10 + (c - 48)) h.tail
    show cs.foldl _ (a * 10 + (c - 48)) < _
    refine Nat.lt_of_lt_of_le ih ?_
    rw [List.length_cons, Nat.pow_succ, ← Nat.mul_assoc, Nat.mul_right_comm]
    exact Nat.mul_le_mul_right _ (by omega)
theorem log_small {n : Nat} (h : n < 10 ^ 60) : n.log2 < 1920 := by
  by_cases c : n = 0
  · subst c; decide
  · exact (Nat.log2_lt c).mpr (Nat.lt_of_lt_of_le h (by decide +kernel))
theorem int_figures {z : Str} (h1 : 1 ≤ (figures z).length ∧ (figures z).length ≤ 60) (h2 : ((figures z).cps.toList.all fun c => inS c FIGs) = true) (hz : z.length ≤ 100000) : ∃ n, intText? z = some n ∧ n.natAbs.log2 < 1920 ∧ z.length ≤ 640 := by
  have ad : NumText.AllDigits (figures z).cps.toList := fun c hc => FIG_digit (List.all_eq_true.mp h2 c hc)
  have ne : (figures z).cps.toList ≠ [] := fun e => by
    have l : (figures z).length = (figures z).cps.toList.length := by rw [Array.length_toList]; rfl
    rw [e] at l
    have := h1.1
    simp at l
    omega
  have lf : (figures z).cps.toList.length ≤ 60 := by rw [Array.length_toList]; exact h1.2
  have vl := digitsVal_lt (figures z).cps.toList 0 ad
  have vs : NumText.digitsVal (figures z).cps.toList < 10 ^ 60 := Nat.lt_of_lt_of_le vl (by rw [Nat.zero_add, Nat.one_mul]; exact Nat.pow_le_pow_right (by decide) lf)
  by_cases c : Txt.startswith z "-" = true
  · have e : figures z = cutS z (some 1) none := if_pos c
    obtain ⟨r, hr⟩ := starts_minus c
    have er : (figures z).cps.toList = r := by rw [e, cutS_tail, hr]; rfl
    rw [er] at ad ne vs lf
    have lz : z.length ≤ 61 := by rw [← len_cps, hr, List.length_cons]; omega
    refine ⟨_, intText_neg hr ad ne (by omega), ?_, by omega⟩
    rw [Int.natAbs_neg, Int.natAbs_natCast]
    exact log_small vs
  · have e : figures z = z := if_neg c
    rw [e] at ad ne vs h1
    refine ⟨_, intText_digits ad ne (by have := h1.2; omega), ?_, by have := h1.2; omega⟩
    rw [Int.natAbs_natCast]
    exact log_small vs
section
variable {P : Program} {w : World} {K : PySem.W.Frag} {mg : Str → Option Value} {base : Heap}
theorem ok_is_word_name (T : Txt w K mg) : FnOk P w K mg base CX0 1 T.a_is_word_name T.d_is_word_name ["value"] (spP K fun d => .bl (isWordD d)) := by
  refine T.F_is_word_name.ok sc_is_word_name (fun vs H Q E h => ?_) (fun cdv A outer s H vs Q E hr h => ?_)
  · obtain ⟨v, d, rfl, _⟩ := h
    rfl
  · obtain ⟨v, d, rfl, hd, hok, k⟩ := h
    replace k : ∀ H', Same H H' → Q (.bl (isWordD d)) H' := k
    refine ⟨_, (pss_cons (ps_if (PW.pt (pw_or (pt_not (pt_val (pe_callB (call_isiDK (K := K) rfl) (by rfl) T.n_isinstance (by decide +kernel) (pa_cons (pv 0) (pa_cons (pe_bltn (v := .ty "str") (u := .type "str") (by rfl) T.n_str (by decide +kernel) rfl) pa_nil))))) (pw_or1 (pt_not (pt_chain op_le op_le pe_int (pe_callB call_len_str (by rfl) T.n_len (by decide +kernel) (pa_cons (pv 0) pa_nil)) pe_int))))) (pss_one (ps_ret pe_bl)) pss_nil)
      (pss_one (ps_ret (pe_and (pe_cmpR op_in_sign (pe_ix ix_str (pv 0) pe_int (fun _ _ => rfl)) (pe_glob (v := .str LETs) (by rfl) T.m_LETTERS ⟨_, rfl⟩) (by rfl)) (pe_one (pe_callB (cr_all rfl) (by rfl) T.n_all (by decide +kernel) (pa_cons (pe_lc (own := [("sign", 1)]) (g := gName 1) (tt := tYes) rfl sc_is_word_name.nd (pi_str (pv 0)) (blkOk_by (own := [("sign", 1)]) (N := N_is_word_name) (sc := defScope s_is_word_name) (by decide +kernel)) (fun _ _ _ _ _ => pg_name (i := 1) sc_is_word_name.nd rfl (Or.inl rfl)) (fun _ _ _ _ _ => pts_nil) (fun _ _ _ _ _ => (pe_or (pe_cmpR op_in_sign (pv 1) (pe_glob (v := .str LETs) (by rfl) T.m_LETTERS ⟨_, rfl⟩) (by rfl)) (pe_one (pe_cmpR op_in_sign (pv 1) (pe_glob (v := .str FIGs) (by rfl) T.m_FIGURES ⟨_, rfl⟩) (by rfl)))))) pa_nil))))))), ?_⟩
    refine seq_op fun N hN => ?_
    walk_at "rs"
    refine ⟨v, "str", ⟨rfl, rfl⟩, d, hd, by simp, ?_⟩
    have k0 := k H (Same.refl _)
    cases hd with
    | str z =>
      have hz : z.length ≤ 100000 := of_decide_eq_true hok
      have lz := len_cps z
      refine iteFF (by simp [isTy]) ⟨z, rfl, Nat.le_trans hz (by decide), ite2 (fun c1 => ite2 (fun c2 => ?_) (fun c2 => ?_)) (fun c1 => ?_)⟩
      · have e : isWordS z = false := by
          unfold isWordS
          split
          · rfl
          · rw [decide_eq_false (by omega), Bool.false_and]
        show Q (.bl false) H
        rw [← e]; exact k0
      · refine hN _ _ ?_
        clear hN N
        obtain ⟨c, r, ec⟩ : ∃ c r, z.cps.toList = c :: r := by
          cases hc : z.cps.toList with
          | nil => rw [hc] at lz; simp at lz; omega
          | cons c r => exact ⟨c, r, rfl⟩
        have e : isWordS z = (inS c LETs && (c :: r).all fun c => inS c LETs || inS c FIGs) := by
          unfold isWordS
          rw [ec]
          show (decide (z.length ≤ 6) && _) = _
          rw [decide_eq_true (by omega), Bool.true_and]
        walk_at "rs"
        refine ⟨Nat.le_trans hz (by decide), c, at_ofN (j := 0) rfl (by rw [ec]; rfl), c, rfl, ite2 (fun e1 => ?_) (fun e1 => ?_)⟩
        · refine ⟨_, rfl, _, rfl, fun D hD => lc_signs (z := z) (fun c => inS c LETs || inS c FIGs) hD (by omega) ?_ ?_⟩
          · intro c H3 hc s3 Q2 h2
            walk_at "rs"
            refine ⟨c, rfl, ite2 (fun e2 => ?_) (fun e2 => ⟨c, rfl, ?_⟩)⟩
            · have := h2 H3 (Same.refl _)
              have q : inS c LETs = true := decide_eq_true e2
              rw [q, Bool.true_or] at this
              exact this
            · have := h2 H3 (Same.refl _)
              have q : inS c LETs = false := decide_eq_false e2
              rw [q, Bool.false_or] at this
              exact this
          · intro H3 s3 hD3
            refine ⟨D, _, rfl, SqL.of hD3, ?_⟩
            rw [all_map_id]
            have := k H3 s3
            have q : isWordD (.str z) = ((c :: r).all fun c => inS c LETs || inS c FIGs) := by
              show isWordS z = _
              rw [e, show inS c LETs = true from decide_eq_true e1, Bool.true_and]
            rw [q, ← ec] at this
            exact this
        · have q : isWordD (.str z) = false := by
            show isWordS z = _
            rw [e, show inS c LETs = false from decide_eq_false e1, Bool.false_and]
          rw [q] at k0
          exact k0
      · have e : isWordS z = false := by
          unfold isWordS
          split
          · rfl
          · rename_i c r ec
            rw [ec] at lz
            simp at lz
            omega
        show Q (.bl false) H
        rw [← e]; exact k0
    | non => exact iteTT (by simp [isTy]) k0
    | bl b => exact iteTT (by simp [isTy]) k0
    | int i => exact iteTT (by simp [isTy]) k0
    | lst hs ha => exact iteTT (by simp [isTy]) k0
    | tup hs ha => exact iteTT (by simp [isTy]) k0
theorem ok_is_own_name (T : Txt w K mg) : FnOk P w K mg base CX0 2 T.a_is_own_name T.d_is_own_name ["value"] (spP K fun d => .bl (isOwnD d)) := by
  refine T.F_is_own_name.ok sc_is_own_name (fun vs H Q E h => ?_) (fun cdv A outer s H vs Q E hr h => ?_)
  · obtain ⟨v, d, rfl, _⟩ := h
    rfl
  · obtain ⟨v, d, rfl, hd, hok, k⟩ := h
    replace k : ∀ H', Same H H' → Q (.bl (isOwnD d)) H' := k
    have hr_is_word_name : Room 1 _ := hr.mono (by decide)
    have G_is_word_name := ok_is_word_name (P := P) (base := base) T
    refine ⟨_, (pss_one (ps_ret (pe_and (pe_call G_is_word_name hr_is_word_name (by rfl) T.m_is_word_name T.F_is_word_name.kp T.B_is_word_name .nil pass0 (pa_cons (pv 0) pa_nil)) (pe_one (pe_cmpR op_notIn_seq (pv 0) (pe_glob (v := .ref T.a_RESERVED) (by rfl) T.m_RESERVED rfl) (by rfl)))))), ?_⟩
    walk_at "rs"
    refine ⟨v, d, rfl, hd, hok, fun H1 s1 => ⟨_, rfl, ite2 (fun e => ?_) (fun e => ?_)⟩⟩
    · obtain ⟨z, rfl⟩ : ∃ z, d = .str z := by cases d <;> first | exact ⟨_, rfl⟩ | simp [isWordD] at e
      cases hd
      refine ⟨keptV, .inr (T.s_RESERVED _), rfl, by decide +kernel, ?_⟩
      have q : isOwnD (.str z) = !inV (.str z) keptV := by
        show (isWordS z && _) = _
        rw [show isWordS z = true from e, Bool.true_and]
      have := k H1 s1
      rw [q] at this
      exact this
    · have q : isOwnD d = false := by
        cases d <;> try rfl
        show (isWordS _ && _) = _
        rw [show isWordS _ = false from by simpa [isWordD] using e, Bool.false_and]
      have := k H1 s1
      rw [q] at this
      exact this
theorem ok_is_name (T : Txt w K mg) : FnOk P w K mg base CX0 3 T.a_is_name T.d_is_name ["value"] (spP K fun d => .bl (isNameD d)) := by
  refine T.F_is_name.ok sc_is_name (fun vs H Q E h => ?_) (fun cdv A outer s H vs Q E hr h => ?_)
  · obtain ⟨v, d, rfl, _⟩ := h
    rfl
  · obtain ⟨v, d, rfl, hd, hok, k⟩ := h
    replace k : ∀ H', Same H H' → Q (.bl (isNameD d)) H' := k
    have hr_is_own_name : Room 2 _ := hr.mono (by decide)
    have G_is_own_name := ok_is_own_name (P := P) (base := base) T
    refine ⟨_, (pss_one (ps_ret (pe_or (pe_call G_is_own_name hr_is_own_name (by rfl) T.m_is_own_name T.F_is_own_name.kp T.B_is_own_name .nil pass0 (pa_cons (pv 0) pa_nil)) (pe_one (pe_and (pe_callB (call_isiDK (K := K) rfl) (by rfl) T.n_isinstance (by decide +kernel) (pa_cons (pv 0) (pa_cons (pe_bltn (v := .ty "str") (u := .type "str") (by rfl) T.n_str (by decide +kernel) rfl) pa_nil))) (pe_one (pe_cmpR op_in_seq (pv 0) (pe_glob (v := .ref T.a_GIVEN) (by rfl) T.m_GIVEN rfl) (by rfl)))))))), ?_⟩
    walk_at "rs"
    refine ⟨v, d, rfl, hd, hok, fun H1 s1 => ⟨_, rfl, ite2 (fun e => ?_) (fun e => ?_)⟩⟩
    · obtain ⟨z, rfl⟩ : ∃ z, d = .str z := by cases d <;> first | exact ⟨_, rfl⟩ | simp [isOwnD] at e
      have := k H1 s1
      rw [show isNameD (.str z) = true from by show (isOwnD (.str z) || _) = true; rw [e, Bool.true_or]] at this
      exact this
    · refine ⟨v, "str", ⟨rfl, rfl⟩, d, dp_same s1 hd, by simp, ?_⟩
      have k1 := k H1 s1
      cases hd with
      | str z =>
        refine iteTT (by simp [isTy]) ⟨givenV, .inr (T.s_GIVEN _), rfl, by decide +kernel, ?_⟩
        rw [show isNameD (.str z) = inV (.str z) givenV from by show (isOwnD (.str z) || _) = _; rw [show isOwnD (.str z) = false from by simpa using e, Bool.false_or]] at k1
        exact k1
      | non => exact iteFF (by simp [isTy]) k1
      | bl b => exact iteFF (by simp [isTy]) k1
      | int i => exact iteFF (by simp [isTy]) k1
      | lst hs ha => exact iteFF (by simp [isTy]) k1
      | tup hs ha => exact iteFF (by simp [isTy]) k1
end
end LK

set_option Elab.async false
set_option linter.all false
set_option maxRecDepth 100000
namespace LK
open PySem PySem.Spec PyProof.Rows L2
local macro_rules | `(tactic| walk_at "rs") => `(tactic| simp only [cxK, cxNK, tCallZ, tAsg, tOp, rI0, rS0, rB0, rI, rU, tUn, rEq, rNe, rIxL, rIxT, rIxS, rSetL, rSlLU, rSlS, rSlU, rCatL, rCatU, rRepL, rIn, tVar, tC, gName, gSub, tIfS, tTest, tB, tAnd, tOr, tNot, tNotV, tAndV, tOrV, tIf, tCall, tCons, tNil, tCB, tDrop, tRet, tRetN, tNext, tLstU, tTupU, tM0, tM1, tPar, tPar3, tAug, ipI, tBM, tBM0, rAppend, rPop, tBreak, tCont, tChain, tSl, tPart, tNoPart, L2.start, List.map, List.length_cons, List.length_nil, List.replicate, List.cons_append, List.nil_append, List.append_nil, List.getElem?_cons_zero, List.getElem?_cons_succ, List.set_cons_zero, List.set_cons_succ, Option.some.injEq, V.int.injEq, V.ref.injEq, V.str.injEq, V.bl.injEq, exists_eq_left', exists_eq_left, exists_and_left, decide_eq_true_eq, List.cons.injEq, and_true, true_and, scal, Bool.not_eq_true', decide_eq_false_iff_not, Nat.zero_add, Nat.reduceAdd, Nat.reduceSub, reduceCtorEq, false_and, exists_false, false_or, or_false, CPow, CMul, CDiv, Int.reduceToNat, ↓reduceIte, wipe, sw, List.nil_append, List.singleton_append])
local macro_rules | `(tactic| walk_at "st") => `(tactic| (refine seq_op fun N hN => ?_; walk_at "rs"))
local macro_rules | `(tactic| walk_at "sd") => `(tactic| first | assumption | decide | omega)
local macro_rules | `(tactic| walk_at "rd") => `(tactic| repeat (first
  | refine ⟨_, SqL.of (by assumption), ?_⟩ | refine ⟨_, SqL.of upd_same, ?_⟩ | refine ⟨_, .inl (SqL.of (by assumption)), ?_⟩ | refine ⟨_, (by assumption : _ = some (HO.lst _)), ?_⟩ | refine ⟨_, upd_same, ?_⟩
  | refine ⟨_, rfl, ?_⟩ | refine And.intro (by walk_at "sd") ?_))

section
variable {P : Program} {w : World} {K : PySem.W.Frag} {mg : Str → Option Value} {base : Heap}
theorem opt_OPERANDS (T : Txt w K mg) (z : Str) : ∃ r, PySem.W.nsIn K T.a_OPERANDS z = some r ∧ RelV (optS (opsOf z)) (r.getD .none) := by
  obtain ⟨r, e1, e2⟩ := T.g_OPERANDS z
  refine ⟨r, e1, ?_⟩
  cases r with
  | none =>
    have e3 : opsOf z = none := e2
    rw [e3]; rfl
  | some u =>
    obtain ⟨y, e3, e4⟩ := e2
    rw [e3]; exact e4
theorem lookup_mem2 {α β : Type} [BEq α] {k : α} {v : β} : ∀ {l : List (α × β)}, l.lookup k = some v → ∃ p ∈ l, p.2 = v
  | [], h => by simp at h
  | (a, b) :: r, h => by
    rw [List.lookup_cons] at h
    split at h
    · cases h; exact ⟨_, List.mem_cons_self, rfl⟩
    · obtain ⟨p, hp, e⟩ := lookup_mem2 h
      exact ⟨p, List.mem_cons_of_mem _ hp, e⟩
theorem isExpr_tup (ds : List PyData) : isExpr (.tuple ds) = (decide (1 ≤ ds.length) && decide (ds.length ≤ 30) && walkE "e" ds) := rfl
theorem walkE_cons (wd : Str) (d : PyData) (r : List PyData) : walkE wd (d :: r) = (if wd = "" then false else match opsBehind d (head1 wd) with
    | none => false
    | some o => walkE (o ++ cutS wd (some 1) none) r) := rfl
theorem opsOf_len {z o : Str} (h : opsOf z = some o) : o.length ≤ 3 := by
  have q : ∀ p ∈ opsTab, p.2.length ≤ 3 := by decide +kernel
  have m : ∃ p ∈ opsTab, p.2 = o := by
    unfold opsOf at h
    exact lookup_mem2 h
  obtain ⟨p, hp, rfl⟩ := m
  exact q p hp
theorem opsBehind_len {d : PyData} {k o : Str} (h : opsBehind d k = some o) : o.length ≤ 3 := by
  unfold opsBehind at h
  split at h
  · split at h
    · split at h
      · cases h; decide
      · cases h
    · split at h
      · cases h; decide
      · exact opsOf_len h
  · cases h
theorem dpa_get {H : Hp} : ∀ {vs : List V} {ds : List PyData} {i : Nat} {v : V}, DpAll K H vs ds → vs[i]? = some v → ∃ d, ds[i]? = some d ∧ Dp K H v d
  | _, _, _, _, .nil, e => by simp at e
  | _, _, 0, _, .cons r _, e => by simp at e; subst e; exact ⟨_, rfl, r⟩
  | _, _, i + 1, _, .cons _ t, e => by
    obtain ⟨d, h1, h2⟩ := dpa_get (i := i) t (by simpa using e)
    exact ⟨d, by simpa using h1, h2⟩
theorem dpa_len {H : Hp} : ∀ {vs : List V} {ds : List PyData}, DpAll K H vs ds → vs.length = ds.length
  | _, _, .nil => rfl
  | _, _, .cons _ t => by simp [dpa_len t]
theorem ok_get : ∀ {ds : List PyData} {i : Nat} {d : PyData}, okAll ds = true → ds[i]? = some d → okD d = true
  | [], _, _, _, e => by simp at e
  | a :: r, 0, _, h, e => by
    simp at e; subst e
    unfold okAll at h; rw [Bool.and_eq_true] at h; exact h.1
  | a :: r, i + 1, _, h, e => by
    unfold okAll at h; rw [Bool.and_eq_true] at h
    exact ok_get (i := i) h.2 (by simpa using e)
end
end LK

set_option Elab.async false
set_option linter.all false
set_option maxRecDepth 100000
namespace LK
open PySem PySem.Spec PyProof.Rows L2
local macro_rules | `(tactic| walk_at "rs") => `(tactic| simp only [cxK, cxNK, tCallZ, tAsg, tOp, rI0, rS0, rB0, rI, rU, tUn, rEq, rNe, rIxL, rIxT, rIxS, rSetL, rSlLU, rSlS, rSlU, rCatL, rCatU, rRepL, rIn, tVar, tC, gName, gSub, tIfS, tTest, tB, tAnd, tOr, tNot, tNotV, tAndV, tOrV, tIf, tCall, tCons, tNil, tCB, tDrop, tRet, tRetN, tNext, tLstU, tTupU, tM0, tM1, tPar, tPar3, tAug, ipI, tBM, tBM0, rAppend, rPop, tBreak, tCont, tChain, tSl, tPart, tNoPart, L2.start, List.map, List.length_cons, List.length_nil, List.replicate, List.cons_append, List.nil_append, List.append_nil, List.getElem?_cons_zero, List.getElem?_cons_succ, List.set_cons_zero, List.set_cons_succ, Option.some.injEq, V.int.injEq, V.ref.injEq, V.str.injEq, V.bl.injEq, exists_eq_left', exists_eq_left, exists_and_left, decide_eq_true_eq, List.cons.injEq, and_true, true_and, scal, Bool.not_eq_true', decide_eq_false_iff_not, Nat.zero_add, Nat.reduceAdd, Nat.reduceSub, reduceCtorEq, false_and, exists_false, false_or, or_false, CPow, CMul, CDiv, Int.reduceToNat, ↓reduceIte, wipe, sw, List.nil_append, List.singleton_append])
local macro_rules | `(tactic| walk_at "st") => `(tactic| (refine seq_op fun N hN => ?_; walk_at "rs"))
local macro_rules | `(tactic| walk_at "sd") => `(tactic| first | assumption | decide | omega)
local macro_rules | `(tactic| walk_at "rd") => `(tactic| repeat (first
  | refine ⟨_, SqL.of (by assumption), ?_⟩ | refine ⟨_, SqL.of upd_same, ?_⟩ | refine ⟨_, .inl (SqL.of (by assumption)), ?_⟩ | refine ⟨_, (by assumption : _ = some (HO.lst _)), ?_⟩ | refine ⟨_, upd_same, ?_⟩
  | refine ⟨_, rfl, ?_⟩ | refine And.intro (by walk_at "sd") ?_))

/-! ### the two ways of judging an expression agree -/
def opsL (d : PyData) (c : Nat) : Option (List Nat) := (opsBehind d ⟨#[c]⟩).map fun o => o.cps.toList
def walkL : List Nat → List PyData → Bool
  | [], [] => true
  | _ :: _, [] => false
  | [], _ :: _ => false
  | c :: w, d :: r => match opsL d c with
    | none => false
    | some o => walkL (o ++ w) r
theorem str_ext {a b : Str} (h : a.cps.toList = b.cps.toList) : a = b := by
  cases a; cases b
  congr 1
  exact Array.toList_inj.mp h
theorem walkE_L : ∀ (ds : List PyData) (w : Str), walkE w ds = walkL w.cps.toList ds
  | [], w => by
    rcases e : w.cps.toList with _ | ⟨c, l⟩
    · have q : w = "" := str_ext (by rw [e]; rfl)
      simp only [walkE, walkL, q, decide_true]
    · have q : w ≠ "" := fun z => by rw [z] at e; cases e
      simp only [walkE, walkL]
      exact decide_eq_false q
  | d :: r, w => by
    rcases e : w.cps.toList with _ | ⟨c, l⟩
    · have q : w = "" := str_ext (by rw [e]; rfl)
      simp only [walkE, walkL, q, if_true]
    · have q : w ≠ "" := fun z => by rw [z] at e; cases e
      have h1 : head1 w = ⟨#[c]⟩ := by unfold head1; rw [e]; rfl
      simp only [walkE, walkL, if_neg q, h1, opsL]
      cases opsBehind d ⟨#[c]⟩ with
      | none => rfl
      | some o =>
        show walkE _ r = walkL _ r
        rw [walkE_L r, str_append, cutS_tail, e]
        rfl
end LK

set_option Elab.async false
set_option linter.all false
set_option maxRecDepth 100000
namespace LK
open PySem PySem.Spec PyProof.Rows L2
local macro_rules | `(tactic| walk_at "rs") => `(tactic| simp only [cxK, cxNK, tCallZ, tAsg, tOp, rI0, rS0, rB0, rI, rU, tUn, rEq, rNe, rIxL, rIxT, rIxS, rSetL, rSlLU, rSlS, rSlU, rCatL, rCatU, rRepL, rIn, tVar, tC, gName, gSub, tIfS, tTest, tB, tAnd, tOr, tNot, tNotV, tAndV, tOrV, tIf, tCall, tCons, tNil, tCB, tDrop, tRet, tRetN, tNext, tLstU, tTupU, tM0, tM1, tPar, tPar3, tAug, ipI, tBM, tBM0, rAppend, rPop, tBreak, tCont, tChain, tSl, tPart, tNoPart, L2.start, List.map, List.length_cons, List.length_nil, List.replicate, List.cons_append, List.nil_append, List.append_nil, List.getElem?_cons_zero, List.getElem?_cons_succ, List.set_cons_zero, List.set_cons_succ, Option.some.injEq, V.int.injEq, V.ref.injEq, V.str.injEq, V.bl.injEq, exists_eq_left', exists_eq_left, exists_and_left, decide_eq_true_eq, List.cons.injEq, and_true, true_and, scal, Bool.not_eq_true', decide_eq_false_iff_not, Nat.zero_add, Nat.reduceAdd, Nat.reduceSub, reduceCtorEq, false_and, exists_false, false_or, or_false, CPow, CMul, CDiv, Int.reduceToNat, ↓reduceIte, wipe, sw, List.nil_append, List.singleton_append])
local macro_rules | `(tactic| walk_at "st") => `(tactic| (refine seq_op fun N hN => ?_; walk_at "rs"))
local macro_rules | `(tactic| walk_at "sd") => `(tactic| first | assumption | decide | omega)
local macro_rules | `(tactic| walk_at "rd") => `(tactic| repeat (first
  | refine ⟨_, SqL.of (by assumption), ?_⟩ | refine ⟨_, SqL.of upd_same, ?_⟩ | refine ⟨_, .inl (SqL.of (by assumption)), ?_⟩ | refine ⟨_, (by assumption : _ = some (HO.lst _)), ?_⟩ | refine ⟨_, upd_same, ?_⟩
  | refine ⟨_, rfl, ?_⟩ | refine And.intro (by walk_at "sd") ?_))

def spV (sp : List V → Hp → VK → Prop) : Sp := fun vs H Q _ => sp vs H Q
/-- the two fields of a BadValue -/
def badF (v : V) : List (Str × V) := [("code", .str "BadValue"), ("value", v)]
def sp_BadValue (C : Addr) : Sp := fun vs H Q _ => ∃ (a : Addr) (v : V), vs = [.ref a, v] ∧ H a = some (exo a C none) ∧
  ∀ dx, H dx = none → dx ≠ a → Q .non (L2.upd (L2.upd (L2.upd H dx (exd dx [("value", v)])) a (exo a C (some dx))) dx (exd dx (badF v)))
def spP1 (K : PySem.W.Frag) (F : PyData → V) : Sp := fun vs H Q _ => ∃ v d, vs = [v] ∧ Dp K H v d ∧ ∀ H', Same H H' → Q (F d) H'
section
variable {P : Program} {w : World} {K : PySem.W.Frag} {mg : Str → Option Value} {base : Heap}
theorem ok_BadValue (T : Txt w K mg) : FnOk P w K mg base CX0 1 T.f_BadValue T.d_BadValue ["self", "value"] (sp_BadValue T.C_BadValue) := by
  refine T.F_BadValue.ok sc_BadValue (fun vs H Q E h => ?_) (fun cdv A outer s H vs Q E hr h => ?_)
  · obtain ⟨a, v, rfl, _⟩ := h
    rfl
  · obtain ⟨a, v, rfl, ha, k⟩ := h
    refine ⟨_, pss_cons (ps_ost (pv 0) (pv 1)) (pss_one (ps_ost (pv 0) pe_str)), ?_⟩
    refine seq_op fun N hN => ?_
    unfold tOst
    walk_at "rs"
    refine ⟨T.C_BadValue, T.X_BadValue, T.v_BadValue, .inl ⟨ha, fun dx hdx ne => hN _ _ ?_⟩⟩
    clear hN N
    unfold tOst
    walk_at "rs"
    refine ⟨T.C_BadValue, T.X_BadValue, T.c_BadValue, .inr ⟨dx, upd_same, [("value", v)], by rw [upd_ne ne]; exact upd_same, by simp, k dx hdx ne⟩⟩
theorem ok_is_number (T : Txt w K mg) : FnOk P w K mg base CX0 1 T.a_is_number T.d_is_number ["value"] (spP1 K fun d => .bl (isNum d)) := by
  refine T.F_is_number.ok sc_is_number (fun vs H Q E h => ?_) (fun cdv A outer s H vs Q E hr h => ?_)
  · obtain ⟨v, d, rfl, _⟩ := h
    rfl
  · obtain ⟨v, d, rfl, hD, k⟩ := h
    refine ⟨_, (pss_one (ps_ret (pe_and (pe_callB (call_isiDK (K := K) rfl) (by rfl) T.n_isinstance (by decide +kernel) (pa_cons (pv 0) (pa_cons (pe_bltn (v := .ty "int") (u := .type "int") (by rfl) T.n_int (by decide +kernel) rfl) pa_nil))) (pe_one (pe_not (pe_callB (call_isiDK (K := K) rfl) (by rfl) T.n_isinstance (by decide +kernel) (pa_cons (pv 0) (pa_cons (pe_bltn (v := .ty "bool") (u := .type "bool") (by rfl) T.n_bool (by decide +kernel) rfl) pa_nil)))))))), ?_⟩
    walk_at "rs"
    refine ⟨v, "int", ⟨rfl, rfl⟩, d, hD, by decide, ite2 (fun h => ⟨v, "bool", ⟨rfl, rfl⟩, d, hD, by decide, ?_⟩) (fun h => ?_)⟩
    · have e : isNum d = !isTy "bool" d := by cases d <;> first | rfl | cases h
      rw [← e]; exact k H (Same.refl _)
    · have e : isNum d = false := by cases d <;> first | rfl | (exact absurd rfl h)
      have q : Q (.bl (isNum d)) H := k H (Same.refl _)
      rw [e] at q; exact q
theorem ok_is_fraction (T : Txt w K mg) : FnOk P w K mg base CX0 2 T.a_is_fraction T.d_is_fraction ["value"] (spP1 K fun d => .bl (isFrac d)) := by
  refine T.F_is_fraction.ok sc_is_fraction (fun vs H Q E h => ?_) (fun cdv A outer s H vs Q E hr h => ?_)
  · obtain ⟨v, d, rfl, _⟩ := h
    rfl
  · obtain ⟨v, d, rfl, hD, k⟩ := h
    have hr_is_number : Room 1 _ := hr.mono (by decide)
    have G_is_number := ok_is_number (P := P) (base := base) T
    refine ⟨_, (pss_cons (ps_if (PW.pt (pw_or (pt_not (pt_val (pe_callB (call_isiDK (K := K) rfl) (by rfl) T.n_isinstance (by decide +kernel) (pa_cons (pv 0) (pa_cons (pe_bltn (v := .ty "tuple") (u := .type "tuple") (by rfl) T.n_tuple (by decide +kernel) rfl) pa_nil))))) (pw_or1 (pt_cmpR op_neI (pe_callB call_lenD (by rfl) T.n_len (by decide +kernel) (pa_cons (pv 0) pa_nil)) pe_int (nomark _))))) (pss_one (ps_ret pe_bl)) pss_nil)
      (pss_cons (ps_asg (pv 0) (pg_tup rfl (pgs_cons (pg_name (i := 1) sc_is_fraction.nd rfl (Or.inl rfl)) (pgs_cons (pg_name (i := 2) sc_is_fraction.nd rfl (Or.inl rfl)) pgs_nil))))
      (pss_one (ps_ret (pe_and (pe_call G_is_number hr_is_number (by rfl) T.m_is_number T.F_is_number.kp T.B_is_number .nil pass0 (pa_cons (pv 1) pa_nil)) (pe_and (pe_call G_is_number hr_is_number (by rfl) T.m_is_number T.F_is_number.kp T.B_is_number .nil pass0 (pa_cons (pv 2) pa_nil)) (pe_and (pe_cmpR op_ge (pv 2) pe_int (nomark _)) (pe_one (pe_cmpR op_eqI (pe_callBfun cr_gcd (by rfl) T.m_gcd (pa_cons (pv 1) (pa_cons (pv 2) pa_nil))) pe_int (nomark _)))))))))), ?_⟩
    refine seq_op fun N hN => ?_
    walk_at "rs"
    refine ⟨v, "tuple", ⟨rfl, rfl⟩, d, hD, by decide, ite2 (fun h => ?_) (fun h => ⟨d, hD, ?_⟩)⟩
    · have e : isFrac d = false := by cases d <;> first | rfl | cases h
      have q : Q (.bl (isFrac d)) H := k H (Same.refl _)
      rw [e] at q; exact q
    obtain ⟨ds, rfl⟩ : ∃ ds, d = .tuple ds := by cases d <;> first | exact ⟨_, rfl⟩ | (exact absurd rfl h)
    clear h
    refine .inl ⟨ds, .inr rfl, ite2 (fun h2 => ?_) (fun h2 => hN _ _ ?_)⟩
    · have e : isFrac (.tuple ds) = false := by
        rcases ds with _ | ⟨x, _ | ⟨y, _ | ⟨z, r⟩⟩⟩
        · rfl
        · cases x <;> rfl
        · exact absurd rfl h2
        · cases x <;> cases y <;> rfl
      have q : Q (.bl (isFrac (.tuple ds))) H := k H (Same.refl _)
      rw [e] at q; exact q
    clear hN N
    obtain ⟨x, y, rfl⟩ : ∃ x y, ds = [x, y] := by
      rcases ds with _ | ⟨x, _ | ⟨y, _ | ⟨z, r⟩⟩⟩
      · exact absurd (by simp) h2
      · exact absurd (by simp) h2
      · exact ⟨x, y, rfl⟩
      · exact absurd (by simp; omega) h2
    cases hD with
    | tup hs ha =>
    cases ha with
    | cons hx ha =>
    cases ha with
    | cons hy ha =>
    cases ha
    refine seq_op fun N hN => ?_
    walk_at "rs"
    refine ⟨_, _, rfl, hs, rfl, ?_⟩
    unfold gCons gNil
    walk_at "rs"
    refine ⟨_, _, ⟨rfl, rfl⟩, _, _, rfl, rfl, hN _ _ ?_⟩
    clear hN N
    walk_at "rs"
    have no : ∀ (H' : Hp), Same H H' → isFrac (.tuple [x, y]) = false → Q (.bl false) H' := fun H' s' e => by
      have q : Q (.bl (isFrac (.tuple [x, y]))) H' := k H' s'
      rw [e] at q; exact q
    refine ⟨_, x, rfl, hx, fun H1 s1 => ⟨isNum x, rfl, ite2 (fun hp => ?_) (fun hp => no H1 s1 (by cases x <;> first | rfl | exact absurd rfl hp))⟩⟩
    refine ⟨_, y, rfl, dp_same s1 hy, fun H2 s2 => ⟨isNum y, rfl, ite2 (fun hq => ?_) (fun hq => no H2 (Same.trans s1 s2) (by cases x <;> cases y <;> first | rfl | exact absurd rfl hq))⟩⟩
    obtain ⟨p, rfl⟩ : ∃ p, x = .int p := by cases x <;> first | exact ⟨_, rfl⟩ | cases hp
    obtain ⟨q, rfl⟩ : ∃ q, y = .int q := by cases y <;> first | exact ⟨_, rfl⟩ | cases hq
    cases hx
    cases hy
    refine ⟨q, rfl, ite2 (fun h1 => ⟨p, q, rfl, _, rfl, ?_⟩) (fun h1 => no H2 (Same.trans s1 s2) (by
      show (decide (1 ≤ q) && _) = false
      rw [decide_eq_false h1]; rfl))⟩
    have e : isFrac (.tuple [.int p, .int q]) = decide ((((Nat.gcd p.natAbs q.natAbs : Nat) : Int)) = 1) := by
      show (decide (1 ≤ q) && _) = _
      rw [decide_eq_true h1, Bool.true_and]
      exact decide_eq_decide.mpr (by omega)
    rw [← e]; exact k H2 (Same.trans s1 s2)
/-! ### lowest terms -/
def frG (p q : Int) : Int := if q < 0 then -((Nat.gcd p.natAbs q.natAbs : Nat) : Int) else ((Nat.gcd p.natAbs q.natAbs : Nat) : Int)
def frP (p q : Int) : Int := p.fdiv (frG p q)
def frQ (p q : Int) : Int := q.fdiv (frG p q)
def sp_fraction (C : Addr) : Sp := fun vs H Q E => ∃ p q : Int, vs = [.int p, .int q] ∧ p.natAbs.log2 < 9000 ∧ q.natAbs.log2 < 9000 ∧
  (q ≠ 0 → ∀ t H', Same H H' → H t = none → H' t = some (.tup [.int (frP p q), .int (frQ p q)]) → Q (.ref t) H') ∧
  (q = 0 → ∀ d H', Same H H' → H d = none → H' d = some (.xd (badF (.int q))) → E (.ref C) (some d) H')
theorem gcd_log {p q : Int} (h : q ≠ 0) : (Nat.gcd p.natAbs q.natAbs).log2 ≤ q.natAbs.log2 := by
  have h0 : q.natAbs ≠ 0 := by omega
  have le : Nat.gcd p.natAbs q.natAbs ≤ q.natAbs := Nat.le_of_dvd (by omega) (Nat.gcd_dvd_right _ _)
  have g0 : Nat.gcd p.natAbs q.natAbs ≠ 0 := fun e => h0 (Nat.eq_zero_of_gcd_eq_zero_right e)
  exact (Nat.le_log2 h0).mpr (Nat.le_trans (Nat.log2_self_le g0) le)
theorem mk_bad {C : Addr} {H1 : Hp} {v : V} {Qx : XK} (k : ∀ d H', Same H1 H' → H1 d = none → H' d = some (.xd (badF v)) → Qx (.ref C) (some d) H') : ∀ a, H1 a = none → sp_BadValue C (.ref a :: ([v] ++ [])) (L2.upd H1 a (exo a C none)) (fun v2 H2 => v2 = .non ∧ ∃ (d : Addr) (fs : List (Str × V)), H2 a = some (exo a C (some d)) ∧ H2 d = some (exd d fs) ∧ H1 d = none ∧ Qx (.ref C) (some d) (L2.upd (del H2 a) d (.xd fs))) E0 := by
  intro a ha
  refine ⟨a, v, rfl, upd_same, fun dx hdx ne => ⟨rfl, dx, badF v, ?_, upd_same, ?_, k dx _ ?_ ?_ upd_same⟩⟩
  · rw [upd_ne (Ne.symm ne), upd_same]
  · rw [upd_ne ne] at hdx; exact hdx
  · intro b o e
    rw [upd_ne ne] at hdx
    have n1 : b ≠ a := fun z => by rw [z, ha] at e; cases e
    have n2 : b ≠ dx := fun z => by rw [z, hdx] at e; cases e
    rw [upd_ne n2, del_ne n1, upd_ne n2, upd_ne n1, upd_ne n2, upd_ne n1]
    exact e
  · rw [upd_ne ne] at hdx; exact hdx
theorem mk_badT {C : Addr} {ta : TA} {σ : L2.St} {H0 H1 : Hp} {v : V} {Qx : XK} (ht : ∀ K : List V → Hp → Prop, K [v] H1 → ta σ H0 K) (k : ∀ d H', Same H1 H' → H1 d = none → H' d = some (.xd (badF v)) → Qx (.ref C) (some d) H') : tMkO C (sp_BadValue C) [] ta σ H0 Qx :=
  ht _ ⟨by simp, mk_bad k⟩
theorem ok_fraction (T : Txt w K mg) : FnOk P w K mg base (L2.CX P w) 3 T.a_fraction T.d_fraction ["p", "q"] (sp_fraction T.C_BadValue) := by
  refine T.F_fraction.ok sc_fraction (fun vs H Q E h => ?_) (fun cdv A outer s H vs Q E hr h => ?_)
  · obtain ⟨p, q, rfl, _⟩ := h
    rfl
  · obtain ⟨p, q, rfl, lp, lq, k, kE⟩ := h
    have hr_is_number : Room 1 _ := hr.mono (by decide)
    have G_is_number := ok_is_number (P := P) (base := base) T
    have hr_BadValue : Room 2 _ := hr.mono (by decide)
    have G_BadValue := ok_BadValue (P := P) (base := base) T
    refine ⟨_, (pss_cons (ps_if (PW.pt (pw_or (pt_not (pt_val (pe_call G_is_number hr_is_number (by rfl) T.m_is_number T.F_is_number.kp T.B_is_number .nil pass0 (pa_cons (pv 1) pa_nil)))) (pw_or1 (pt_cmpR op_eqI (pv 1) pe_int (nomark _))))) (pss_one (ps_raise rfl (takes_of rfl rfl rfl rfl) (pmk_oex T.X_BadValue T.i_BadValue T.t_BadValue G_BadValue hr_BadValue T.B_BadValue__init .nil pass0 (by rfl) T.m_BadValue (pa_cons (pv 1) pa_nil)))) pss_nil)
      (pss_cons (ps_set (i := 2) sc_fraction.nd rfl (Or.inl rfl) (pe_callBfun cr_gcd (by rfl) T.m_gcd (pa_cons (pv 0) (pa_cons (pv 1) pa_nil))))
      (pss_cons (ps_if (pt_cmpR op_lt (pv 1) pe_int (nomark _)) (pss_one (ps_set (i := 2) sc_fraction.nd rfl (Or.inl rfl) (pe_un un_neg (pv 2)))) pss_nil)
      (pss_one (ps_ret (pe_tupU (pa_cons (pe_op op_fdivF (pv 0) (pv 2)) (pa_cons (pe_op op_fdivF (pv 1) (pv 2)) pa_nil)))))))), ?_⟩
    refine seq_op fun N hN => ?_
    walk_at "rs"
    refine ⟨_, .int q, rfl, .int q, fun H1 s1 => ⟨true, rfl, iteFF (by decide) (ite2 (fun e => ?_) (fun e => hN _ _ ?_))⟩⟩
    · subst e
      exact mk_badT (fun K h => by walk_at "rs"; exact h) fun d H2 s2 hd h2 => kE rfl d H2 (Same.trans s1 s2) (Same.dom s1 d hd) h2
    clear hN N
    replace k := k e
    clear kE
    have g0 : (Nat.gcd p.natAbs q.natAbs : Nat) ≠ 0 := fun z => e (by have := Nat.eq_zero_of_gcd_eq_zero_right z; omega)
    have gl := gcd_log (p := p) e
    refine seq_op fun N hN => ?_
    walk_at "rs"
    refine ⟨p, q, rfl, hN _ _ ?_⟩
    clear hN N
    refine cut_seq (fun σ H2 => σ = [some (.int p), some (.int q), some (.int (frG p q))] ∧ H2 = H1) (fun N hN => ?_) ?_
    · walk_at "rs"
      unfold frG at hN
      refine ite2 (fun c => ?_) (fun c => ?_)
      · rw [if_pos c] at hN; exact hN _ _ ⟨rfl, rfl⟩
      · rw [if_neg c] at hN; exact hN _ _ ⟨rfl, rfl⟩
    · rintro σ H2 ⟨rfl, rfl⟩
      have n0 : frG p q ≠ 0 := by unfold frG; split <;> omega
      have nl : (frG p q).natAbs.log2 < 9000 := by
        have : (frG p q).natAbs = Nat.gcd p.natAbs q.natAbs := by unfold frG; split <;> omega
        rw [this]; omega
      walk_at "rs"
      exact ⟨⟨n0, nl⟩, ⟨n0, nl⟩, by decide, fun t H3 s3 h03 h3 => k t H3 (Same.trans s1 s3) (Same.dom s1 t h03) h3⟩
/-! ### the reckoning -/
def FrT (p q : Int) : V × V := (.int (frP p q), .int (frQ p q))
/-- a pair of whole numbers at a -/
def Pr (K : PySem.W.Frag) (H : Hp) (a : Addr) (p q : Int) : Prop := SqT K H a [.int p, .int q]
def sp_two (K : PySem.W.Frag) (f g : Int → Int → Int → Int → Int) : Sp := fun vs H Q _ => ∃ (a b : Addr) (p q r s : Int), vs = [.ref a, .ref b] ∧ Pr K H a p q ∧ Pr K H b r s ∧ p.natAbs < 2 ^ 4000 ∧ q.natAbs < 2 ^ 4000 ∧ r.natAbs < 2 ^ 4000 ∧ s.natAbs < 2 ^ 4000 ∧ g p q r s ≠ 0 ∧
  ∀ t H', Same H H' → H t = none → H' t = some (.tup [.int (frP (f p q r s) (g p q r s)), .int (frQ (f p q r s) (g p q r s))]) → Q (.ref t) H'
theorem two_add {i j : Int} {a : Nat} (hi : i.natAbs < 2 ^ a) (hj : j.natAbs < 2 ^ a) : (i + j).natAbs < 2 ^ (a + 1) := by
  have e : 2 ^ (a + 1) = 2 * 2 ^ a := Nat.pow_succ'
  omega
theorem two_sub {i j : Int} {a : Nat} (hi : i.natAbs < 2 ^ a) (hj : j.natAbs < 2 ^ a) : (i - j).natAbs < 2 ^ (a + 1) := by
  have e : 2 ^ (a + 1) = 2 * 2 ^ a := Nat.pow_succ'
  omega
theorem mulW {i j : Int} (hi : i.natAbs < 2 ^ 4000) (hj : j.natAbs < 2 ^ 4000) : CMulW i j := wide_mul hi hj (by decide) (by decide) (by decide)
theorem mulL {i j : Int} (hi : i.natAbs < 2 ^ 4000) (hj : j.natAbs < 2 ^ 4000) : (i * j).natAbs < 2 ^ 8000 := wide_lt (a := 4000) (b := 4000) hi hj
theorem logL {i : Int} {a : Nat} (h : i.natAbs < 2 ^ a) (h0 : 0 < a) (h9 : a ≤ 9000) : i.natAbs.log2 < 9000 := Nat.lt_of_lt_of_le (PySem.Flt.log2_lt_of h0 h) h9
theorem ok_plus (T : Txt w K mg) : FnOk P w K mg base CX0 4 T.a_plus T.d_plus ["a", "b"] (sp_two K (fun p q r s => p * s + r * q) fun _ q _ s => q * s) := by
  refine T.F_plus.ok sc_plus (fun vs H Q E h => ?_) (fun cdv A outer s H vs Q E hr h => ?_)
  · obtain ⟨a, b, p, q, r, s', rfl, _⟩ := h
    rfl
  · obtain ⟨a, b, p, q, r, s', rfl, ha, hb, lp, lq, lr, ls, n0, k⟩ := h
    have hr_fraction : Room 3 _ := hr.mono (by decide)
    have G_fraction := ok_fraction (P := P) (base := base) T
    refine ⟨_, (pss_one (ps_ret (pe_call G_fraction hr_fraction (by rfl) T.m_fraction T.F_fraction.kp T.B_fraction .nil passL (pa_cons (pe_op op_add (pe_op op_mulW (pe_ix ix_tup (pv 0) pe_int (fun _ _ => rfl)) (pe_ix ix_tup (pv 1) pe_int (fun _ _ => rfl))) (pe_op op_mulW (pe_ix ix_tup (pv 1) pe_int (fun _ _ => rfl)) (pe_ix ix_tup (pv 0) pe_int (fun _ _ => rfl)))) (pa_cons (pe_op op_mulW (pe_ix ix_tup (pv 0) pe_int (fun _ _ => rfl)) (pe_ix ix_tup (pv 1) pe_int (fun _ _ => rfl))) pa_nil))))), ?_⟩
    walk_at "rs"
    refine ⟨_, ha, _, rfl, _, hb, _, rfl, _, rfl, _, rfl, mulW lp ls, _, hb, _, rfl, _, ha, _, rfl, _, rfl, _, rfl, mulW lr lq, _, ha, _, rfl, _, hb, _, rfl, _, rfl, _, rfl, mulW lq ls, ?_⟩
    exact ⟨_, _, rfl, logL (two_add (mulL lp ls) (mulL lr lq)) (by decide) (by decide), logL (mulL lq ls) (by decide) (by decide), fun _ => k, fun e => absurd e n0⟩
theorem ok_minus (T : Txt w K mg) : FnOk P w K mg base CX0 4 T.a_minus T.d_minus ["a", "b"] (sp_two K (fun p q r s => p * s - r * q) (fun _ q _ s => q * s)) := by
  refine T.F_minus.ok sc_minus (fun vs H Q E h => ?_) (fun cdv A outer s H vs Q E hr h => ?_)
  · obtain ⟨a, b, p, q, r, s', rfl, _⟩ := h
    rfl
  · obtain ⟨a, b, p, q, r, s', rfl, ha, hb, lp, lq, lr, ls, n0, k⟩ := h
    have hr_fraction : Room 3 _ := hr.mono (by decide)
    have G_fraction := ok_fraction (P := P) (base := base) T
    refine ⟨_, (pss_one (ps_ret (pe_call G_fraction hr_fraction (by rfl) T.m_fraction T.F_fraction.kp T.B_fraction .nil passL (pa_cons (pe_op op_sub (pe_op op_mulW (pe_ix ix_tup (pv 0) pe_int (fun _ _ => rfl)) (pe_ix ix_tup (pv 1) pe_int (fun _ _ => rfl))) (pe_op op_mulW (pe_ix ix_tup (pv 1) pe_int (fun _ _ => rfl)) (pe_ix ix_tup (pv 0) pe_int (fun _ _ => rfl)))) (pa_cons (pe_op op_mulW (pe_ix ix_tup (pv 0) pe_int (fun _ _ => rfl)) (pe_ix ix_tup (pv 1) pe_int (fun _ _ => rfl))) pa_nil))))), ?_⟩
    walk_at "rs"
    refine ⟨_, ha, _, rfl, _, hb, _, rfl, _, rfl, _, rfl, mulW lp ls, _, hb, _, rfl, _, ha, _, rfl, _, rfl, _, rfl, mulW lr lq, _, ha, _, rfl, _, hb, _, rfl, _, rfl, _, rfl, mulW lq ls, ?_⟩
    exact ⟨_, _, rfl, logL (two_sub (mulL lp ls) (mulL lr lq)) (by decide) (by decide), logL (mulL lq ls) (by decide) (by decide), fun _ => k, fun e => absurd e n0⟩
theorem ok_times (T : Txt w K mg) : FnOk P w K mg base CX0 4 T.a_times T.d_times ["a", "b"] (sp_two K (fun p _ r _ => p * r) (fun _ q _ s => q * s)) := by
  refine T.F_times.ok sc_times (fun vs H Q E h => ?_) (fun cdv A outer s H vs Q E hr h => ?_)
  · obtain ⟨a, b, p, q, r, s', rfl, _⟩ := h
    rfl
  · obtain ⟨a, b, p, q, r, s', rfl, ha, hb, lp, lq, lr, ls, n0, k⟩ := h
    have hr_fraction : Room 3 _ := hr.mono (by decide)
    have G_fraction := ok_fraction (P := P) (base := base) T
    refine ⟨_, (pss_one (ps_ret (pe_call G_fraction hr_fraction (by rfl) T.m_fraction T.F_fraction.kp T.B_fraction .nil passL (pa_cons (pe_op op_mulW (pe_ix ix_tup (pv 0) pe_int (fun _ _ => rfl)) (pe_ix ix_tup (pv 1) pe_int (fun _ _ => rfl))) (pa_cons (pe_op op_mulW (pe_ix ix_tup (pv 0) pe_int (fun _ _ => rfl)) (pe_ix ix_tup (pv 1) pe_int (fun _ _ => rfl))) pa_nil))))), ?_⟩
    walk_at "rs"
    refine ⟨_, ha, _, rfl, _, hb, _, rfl, _, rfl, _, rfl, mulW lp lr, _, ha, _, rfl, _, hb, _, rfl, _, rfl, _, rfl, mulW lq ls, ?_⟩
    exact ⟨_, _, rfl, logL (mulL lp lr) (by decide) (by decide), logL (mulL lq ls) (by decide) (by decide), fun _ => k, fun e => absurd e n0⟩
theorem ok_below (T : Txt w K mg) : FnOk P w K mg base CX0 1 T.a_below T.d_below ["a", "b"] (fun vs H Q _ => ∃ (a b : Addr) (p q r s : Int), vs = [.ref a, .ref b] ∧ Pr K H a p q ∧ Pr K H b r s ∧ p.natAbs < 2 ^ 4000 ∧ q.natAbs < 2 ^ 4000 ∧ r.natAbs < 2 ^ 4000 ∧ s.natAbs < 2 ^ 4000 ∧ Q (.bl (decide (p * s < r * q))) H) := by
  refine T.F_below.ok sc_below (fun vs H Q E h => ?_) (fun cdv A outer s H vs Q E hr h => ?_)
  · obtain ⟨a, b, p, q, r, s', rfl, _⟩ := h
    rfl
  · obtain ⟨a, b, p, q, r, s', rfl, ha, hb, lp, lq, lr, ls, k⟩ := h
    refine ⟨_, (pss_one (ps_ret (pe_cmpR op_lt (pe_op op_mulW (pe_ix ix_tup (pv 0) pe_int (fun _ _ => rfl)) (pe_ix ix_tup (pv 1) pe_int (fun _ _ => rfl))) (pe_op op_mulW (pe_ix ix_tup (pv 1) pe_int (fun _ _ => rfl)) (pe_ix ix_tup (pv 0) pe_int (fun _ _ => rfl))) (nomark _)))), ?_⟩
    walk_at "rs"
    exact ⟨_, ha, _, rfl, _, hb, _, rfl, _, rfl, _, rfl, mulW lp ls, _, hb, _, rfl, _, ha, _, rfl, _, rfl, _, rfl, mulW lr lq, k⟩
theorem ok_floor_of (T : Txt w K mg) : FnOk P w K mg base CX0 1 T.a_floor_of T.d_floor_of ["a"] (fun vs H Q _ => ∃ (a : Addr) (p q : Int), vs = [.ref a] ∧ Pr K H a p q ∧ q ≠ 0 ∧ q.natAbs < 2 ^ 4000 ∧ Q (.int (p.fdiv q)) H) := by
  refine T.F_floor_of.ok sc_floor_of (fun vs H Q E h => ?_) (fun cdv A outer s H vs Q E hr h => ?_)
  · obtain ⟨a, p, q, rfl, _⟩ := h
    rfl
  · obtain ⟨a, p, q, rfl, ha, n0, lq, k⟩ := h
    refine ⟨_, (pss_one (ps_ret (pe_op op_fdivF (pe_ix ix_tup (pv 0) pe_int (fun _ _ => rfl)) (pe_ix ix_tup (pv 0) pe_int (fun _ _ => rfl))))), ?_⟩
    walk_at "rs"
    exact ⟨_, ha, _, rfl, _, ha, _, rfl, _, rfl, _, rfl, ⟨n0, logL lq (by decide) (by decide)⟩, k⟩
theorem ok_NoName (T : Txt w K mg) : FnOk P w K mg base CX0 1 T.f_NoName T.d_NoName ["self", "name"] (fun vs H Q _ => ∃ (a : Addr) (v : V), vs = [.ref a, v] ∧ H a = some (exo a T.C_NoName none) ∧
  ∀ dx, H dx = none → dx ≠ a → Q .non (L2.upd (L2.upd (L2.upd H dx (exd dx [("name", v)])) a (exo a T.C_NoName (some dx))) dx (exd dx [("code", .str "NoName"), ("name", v)]))) := by
  refine T.F_NoName.ok sc_NoName (fun vs H Q E h => ?_) (fun cdv A outer s H vs Q E hr h => ?_)
  · obtain ⟨a, v, rfl, _⟩ := h
    rfl
  · obtain ⟨a, v, rfl, ha, k⟩ := h
    refine ⟨_, pss_cons (ps_ostM baseLE (pv 0) (pv 1)) (pss_one (ps_ostM baseLE (pv 0) pe_str)), ?_⟩
    refine seq_op fun N hN => ?_
    unfold tOstM
    walk_at "rs"
    refine ⟨T.C_NoName, T.X_NoName, T.v_NoName, .inl ⟨ha, fun dx hdx ne => hN _ _ ?_⟩⟩
    clear hN N
    unfold tOstM
    walk_at "rs"
    exact ⟨T.C_NoName, T.X_NoName, T.c_NoName, .inr ⟨dx, upd_same, [("name", v)], by rw [upd_ne ne]; exact upd_same, by simp, k dx hdx ne⟩⟩
end
end LK

set_option Elab.async false
set_option linter.all false
set_option maxRecDepth 100000
namespace LK
open PySem PySem.Spec PyProof.Rows L2
local macro_rules | `(tactic| walk_at "rs") => `(tactic| simp only [cxK, cxNK, tCallZ, tAsg, tOp, rI0, rS0, rB0, rI, rU, tUn, rEq, rNe, rIxL, rIxT, rIxS, rSetL, rSlLU, rSlS, rSlU, rCatL, rCatU, rRepL, rIn, tVar, tC, gName, gSub, tIfS, tTest, tB, tAnd, tOr, tNot, tNotV, tAndV, tOrV, tIf, tCall, tCons, tNil, tCB, tDrop, tRet, tRetN, tNext, tLstU, tTupU, tM0, tM1, tPar, tPar3, tAug, ipI, tBM, tBM0, rAppend, rPop, tBreak, tCont, tChain, tSl, tPart, tNoPart, L2.start, List.map, List.length_cons, List.length_nil, List.replicate, List.cons_append, List.nil_append, List.append_nil, List.getElem?_cons_zero, List.getElem?_cons_succ, List.set_cons_zero, List.set_cons_succ, Option.some.injEq, V.int.injEq, V.ref.injEq, V.str.injEq, V.bl.injEq, exists_eq_left', exists_eq_left, exists_and_left, decide_eq_true_eq, List.cons.injEq, and_true, true_and, scal, Bool.not_eq_true', decide_eq_false_iff_not, Nat.zero_add, Nat.reduceAdd, Nat.reduceSub, reduceCtorEq, false_and, exists_false, false_or, or_false, CPow, CMul, CDiv, Int.reduceToNat, ↓reduceIte, wipe, sw, List.nil_append, List.singleton_append])
local macro_rules | `(tactic| walk_at "st") => `(tactic| (refine seq_op fun N hN => ?_; walk_at "rs"))
local macro_rules | `(tactic| walk_at "sd") => `(tactic| first | assumption | decide | omega)
local macro_rules | `(tactic| walk_at "rd") => `(tactic| repeat (first
  | refine ⟨_, SqL.of (by assumption), ?_⟩ | refine ⟨_, SqL.of upd_same, ?_⟩ | refine ⟨_, .inl (SqL.of (by assumption)), ?_⟩ | refine ⟨_, (by assumption : _ = some (HO.lst _)), ?_⟩ | refine ⟨_, upd_same, ?_⟩
  | refine ⟨_, rfl, ?_⟩ | refine And.intro (by walk_at "sd") ?_))

section
variable {P : Program} {w : World} {K : PySem.W.Frag} {mg : Str → Option Value} {base : Heap}
def sp_quotient (K : PySem.W.Frag) (C : Addr) : Sp := fun vs H Q E => ∃ (a b : Addr) (p q r s : Int), vs = [.ref a, .ref b] ∧ Pr K H a p q ∧ Pr K H b r s ∧ p.natAbs < 2 ^ 4000 ∧ q.natAbs < 2 ^ 4000 ∧ r.natAbs < 2 ^ 4000 ∧ s.natAbs < 2 ^ 4000 ∧ q ≠ 0 ∧ 1 ≤ s ∧ Nat.gcd r.natAbs s.natAbs = 1 ∧
  (r ≠ 0 → ∀ t H', Same H H' → H t = none → H' t = some (.tup [.int (frP (p * s) (q * r)), .int (frQ (p * s) (q * r))]) → Q (.ref t) H') ∧
  (r = 0 → ∀ d H', Same H H' → H d = none → H' d = some (.xd (badF (.ref b))) → E (.ref C) (some d) H')
theorem eqv_zero (r s : Int) : PyData.eqv (.tuple [.int r, .int s]) (.tuple [.int 0, .int 1]) = (decide (r = 0) && decide (s = 1)) := by
  simp [PyData.eqv, PyData.eqvAll]
  rfl
theorem shaped2 (r s : Int) : SeqAt.shaped (.tuple [.int r, .int s]) = true := by rfl
theorem dp_pair {H : Hp} {a : Addr} {p q : Int} (h : Pr K H a p q) : Dp K H (.ref a) (.tuple [.int p, .int q]) := .tup h (.cons (.int p) (.cons (.int q) .nil))
theorem ok_quotient (T : Txt w K mg) : FnOk P w K mg base (L2.CX P w) 4 T.a_quotient T.d_quotient ["a", "b"] (sp_quotient K T.C_BadValue) := by
  refine T.F_quotient.okX sc_quotient (fun vs H Q E h => ?_) (fun cdv A outer s H vs Q E hr h => ?_)
  · obtain ⟨a, b, p, q, r, s', rfl, _⟩ := h
    rfl
  · obtain ⟨a, b, p, q, r, s', rfl, ha, hb, lp, lq, lr, ls, q0, s1, hg, k, kE⟩ := h
    have hr_is_fraction : Room 2 _ := hr.mono (by decide)
    have G_is_fraction := ok_is_fraction (P := P) (base := base) T
    have hr_fraction : Room 3 _ := hr.mono (by decide)
    have G_fraction := ok_fraction (P := P) (base := base) T
    have hr_BadValue : Room 2 _ := hr.mono (by decide)
    have G_BadValue := ok_BadValue (P := P) (base := base) T
    refine ⟨_, (pss_cons (ps_if (PW.pt (pw_or (pt_not (pt_val (pe_call G_is_fraction hr_is_fraction (by rfl) T.m_is_fraction T.F_is_fraction.kp T.B_is_fraction .nil pass0 (pa_cons (pv 1) pa_nil)))) (pw_or1 (pt_cmpR (op_eqD hr.units) (pv 1) (pe_glob (v := .ref T.a_ZERO) (by rfl) T.m_ZERO rfl) (nomark _))))) (pss_one (ps_raise rfl (takes_of rfl rfl rfl rfl) (pmk_oex T.X_BadValue T.i_BadValue T.t_BadValue G_BadValue hr_BadValue T.B_BadValue__init .nil pass0 (by rfl) T.m_BadValue (pa_cons (pv 1) pa_nil)))) pss_nil)
      (pss_one (ps_ret (pe_call G_fraction hr_fraction (by rfl) T.m_fraction T.F_fraction.kp T.B_fraction .nil passL (pa_cons (pe_op op_mulW (pe_ix ix_tup (pv 0) pe_int (fun _ _ => rfl)) (pe_ix ix_tup (pv 1) pe_int (fun _ _ => rfl))) (pa_cons (pe_op op_mulW (pe_ix ix_tup (pv 0) pe_int (fun _ _ => rfl)) (pe_ix ix_tup (pv 1) pe_int (fun _ _ => rfl))) pa_nil)))))), ?_⟩
    refine seq_op fun N hN => ?_
    walk_at "rs"
    have hf : isFrac (.tuple [.int r, .int s']) = true := by
      show (decide (1 ≤ s') && decide (Nat.gcd r.natAbs s'.natAbs = 1)) = true
      rw [decide_eq_true s1, decide_eq_true hg]; rfl
    refine ⟨_, _, rfl, dp_pair hb, fun H1 e1 => ⟨true, (by show V.bl (isFrac _) = V.bl true; rw [hf]), iteFF (by decide) ⟨_, .tuple [.int 0, .int 1], dp_same e1 (dp_pair hb), dp_pair (T.s_ZERO H1), shaped2 _ _, by decide +kernel, _, rfl, ?_⟩⟩⟩
    rw [eqv_zero]
    refine ite2 (fun e => ?_) (fun e => hN _ _ ?_)
    · rw [Bool.and_eq_true] at e
      have r0 : r = 0 := of_decide_eq_true e.1
      exact mk_badT (fun K h => by walk_at "rs"; exact h) fun d H2 s2 hd h2 => kE r0 d H2 (Same.trans e1 s2) (Same.dom e1 d hd) h2
    clear hN N
    have r0 : r ≠ 0 := fun z => e (by
      subst z
      have : s' = 1 := by
        rw [Int.natAbs_zero, Nat.gcd_zero_left] at hg; omega
      subst this; rfl)
    replace ha := Same.seqT e1 ha
    replace hb := Same.seqT e1 hb
    walk_at "rs"
    refine ⟨_, ha, _, rfl, _, hb, _, rfl, _, rfl, _, rfl, mulW lp ls, _, ha, _, rfl, _, hb, _, rfl, _, rfl, _, rfl, mulW lq lr, ?_⟩
    refine ⟨_, _, rfl, logL (mulL lp ls) (by decide) (by decide), logL (mulL lq lr) (by decide) (by decide), fun _ t H' s2 h0 h2 => k r0 t H' (Same.trans e1 s2) (Same.dom e1 t h0) h2, fun e => absurd e (Int.mul_ne_zero q0 r0)⟩
theorem abs_if (p : Int) : (if p < 0 then -p else p) = ((p.natAbs : Nat) : Int) := by split <;> omega
theorem ok__law_low (T : Txt w K mg) : FnOk P w K mg base CX0 1 T.a__law_low T.d__law_low ["top", "low"] (fun vs H Q _ => ∃ p q : Int, vs = [.int p, .int q] ∧ q ≠ 0 ∧ p.natAbs < 2 ^ 8001 ∧ q.natAbs < 2 ^ 8001 ∧
    ∀ t H', Same H H' → H t = none → H' t = some (.tup [.int (frP p q), .int (frQ p q)]) → Q (.ref t) H') := by
  refine T.F__law_low.ok sc__law_low (fun vs H Q E h => ?_) (fun cdv A outer s H vs Q E hr h => ?_)
  · obtain ⟨p, q, rfl, _⟩ := h
    rfl
  · obtain ⟨p, q, rfl, q0, lp, lq, k⟩ := h
    refine ⟨_, (pss_cons (ps_par (i := 2) (j := 3) (by rfl) sc__law_low.nd rfl rfl (by decide) rfl rfl (pa_cons (pe_callB call_abs (by rfl) T.n_abs (by decide +kernel) (pa_cons (pv 0) pa_nil)) (pa_cons (pe_callB call_abs (by rfl) T.n_abs (by decide +kernel) (pa_cons (pv 1) pa_nil)) pa_nil)) (by rfl))
      (pss_cons (ps_while PassesOwn.never (pt_cmpR op_neI (pv 3) pe_int (nomark _)) (pss_one (ps_par (i := 2) (j := 3) (by rfl) sc__law_low.nd rfl rfl (by decide) rfl rfl (pa_cons (pv 3) (pa_cons (pe_op op_mod (pe_callTy call_intI (by rfl) T.n_int (by decide +kernel) (pa_cons (pv 2) pa_nil)) (pv 3)) pa_nil)) (by rfl))))
      (pss_cons (ps_if (pt_cmpR op_lt (pv 1) pe_int (nomark _)) (pss_one (ps_set (i := 2) sc__law_low.nd rfl (Or.inl rfl) (pe_op op_sub pe_int (pv 2)))) pss_nil)
      (pss_one (ps_ret (pe_tupU (pa_cons (pe_op op_fdivF (pv 0) (pv 2)) (pa_cons (pe_op op_fdivF (pv 1) (pv 2)) pa_nil)))))))), ?_⟩
    refine seq_op fun N hN => ?_
    walk_at "rs"
    refine ⟨_, _, ⟨rfl, rfl⟩, hN _ _ ?_⟩
    clear hN N
    refine cut_seq (fun σ H2 => σ = [some (.int p), some (.int q), some (.int ((Nat.gcd p.natAbs q.natAbs : Nat) : Int)), some (.int 0)] ∧ H2 = H) (fun N hN => ?_) ?_
    · refine while_by (fun σ H2 => ∃ a b : Nat, σ = [some (.int p), some (.int q), some (.int (a : Int)), some (.int (b : Int))] ∧ H2 = H ∧ Nat.gcd a b = Nat.gcd p.natAbs q.natAbs) (fun (σ : L2.St) (_ : Hp) => match σ[3]? with
          | some (some (V.int b)) => b.toNat
          | _ => 0) ⟨p.natAbs, q.natAbs, by rw [abs_if, abs_if], rfl, rfl⟩ ?_ ?_
      · rintro σ H2 ⟨a, b, rfl, rfl, hg⟩
        walk_at "rs"
        refine ite2 (fun hb => ?_) (fun hb => ?_)
        · refine ⟨by omega, _, _, ⟨rfl, rfl⟩, ⟨b, a % b, ⟨rfl, rfl⟩, ?_⟩, ?_⟩
          · rw [← hg, Nat.gcd_comm a b, Nat.gcd_rec b a, Nat.gcd_comm]
          · show ((a : Int) % (b : Int)).toNat < (b : Int).toNat
            have := Int.emod_lt_of_pos (a : Int) (show (0 : Int) < (b : Int) by omega)
            have := Int.emod_nonneg (a : Int) hb
            omega
        · have b0 : b = 0 := by omega
          subst b0
          rw [Nat.gcd_zero_right] at hg
          rw [hg]
          exact hN _ _ ⟨rfl, rfl⟩
      · intro σ H2 Q1 Q2 h hq
        revert hq
        walk_at "rs"
        rintro ⟨v, e, i, rfl, hq⟩
        exact ⟨_, e, i, rfl, h _ _ hq⟩
    · rintro σ H2 ⟨rfl, rfl⟩
      have g0 : (Nat.gcd p.natAbs q.natAbs : Nat) ≠ 0 := fun z => q0 (by have := Nat.eq_zero_of_gcd_eq_zero_right z; omega)
      have gl := gcd_log (p := p) q0
      have ql := logL lq (by decide) (by decide)
      have n0 : frG p q ≠ 0 := by unfold frG; split <;> omega
      have nl : (frG p q).natAbs.log2 < 9000 := by
        have : (frG p q).natAbs = Nat.gcd p.natAbs q.natAbs := by unfold frG; split <;> omega
        rw [this]; omega
      refine cut_seq (fun σ H3 => σ = [some (.int p), some (.int q), some (.int (frG p q)), some (.int 0)] ∧ H3 = H2) (fun N hN => ?_) ?_
      · walk_at "rs"
        unfold frG at hN
        refine ite2 (fun c => ?_) (fun c => ?_)
        · rw [if_pos c] at hN
          rw [Int.zero_sub]
          exact hN _ _ ⟨rfl, rfl⟩
        · rw [if_neg c] at hN; exact hN _ _ ⟨rfl, rfl⟩
      · rintro σ H3 ⟨rfl, rfl⟩
        walk_at "rs"
        exact ⟨⟨n0, nl⟩, ⟨n0, nl⟩, by decide, k⟩
end
end LK

set_option Elab.async false
set_option linter.all false
set_option maxRecDepth 100000
namespace LK
open PySem PySem.Spec PyProof.Rows L2
local macro_rules | `(tactic| walk_at "rs") => `(tactic| simp only [cxK, cxNK, tCallZ, tAsg, tOp, rI0, rS0, rB0, rI, rU, tUn, rEq, rNe, rIxL, rIxT, rIxS, rSetL, rSlLU, rSlS, rSlU, rCatL, rCatU, rRepL, rIn, tVar, tC, gName, gSub, tIfS, tTest, tB, tAnd, tOr, tNot, tNotV, tAndV, tOrV, tIf, tCall, tCons, tNil, tCB, tDrop, tRet, tRetN, tNext, tLstU, tTupU, tM0, tM1, tPar, tPar3, tAug, ipI, tBM, tBM0, rAppend, rPop, tBreak, tCont, tChain, tSl, tPart, tNoPart, L2.start, List.map, List.length_cons, List.length_nil, List.replicate, List.cons_append, List.nil_append, List.append_nil, List.getElem?_cons_zero, List.getElem?_cons_succ, List.set_cons_zero, List.set_cons_succ, Option.some.injEq, V.int.injEq, V.ref.injEq, V.str.injEq, V.bl.injEq, exists_eq_left', exists_eq_left, exists_and_left, decide_eq_true_eq, List.cons.injEq, and_true, true_and, scal, Bool.not_eq_true', decide_eq_false_iff_not, Nat.zero_add, Nat.reduceAdd, Nat.reduceSub, reduceCtorEq, false_and, exists_false, false_or, or_false, CPow, CMul, CDiv, Int.reduceToNat, ↓reduceIte, wipe, sw, List.nil_append, List.singleton_append])
local macro_rules | `(tactic| walk_at "st") => `(tactic| (refine seq_op fun N hN => ?_; walk_at "rs"))
local macro_rules | `(tactic| walk_at "sd") => `(tactic| first | assumption | decide | omega)
local macro_rules | `(tactic| walk_at "rd") => `(tactic| repeat (first
  | refine ⟨_, SqL.of (by assumption), ?_⟩ | refine ⟨_, SqL.of upd_same, ?_⟩ | refine ⟨_, .inl (SqL.of (by assumption)), ?_⟩ | refine ⟨_, (by assumption : _ = some (HO.lst _)), ?_⟩ | refine ⟨_, upd_same, ?_⟩
  | refine ⟨_, rfl, ?_⟩ | refine And.intro (by walk_at "sd") ?_))

theorem fr_spec (p : Int) {q : Int} (h : q ≠ 0) : frP p q * frG p q = p ∧ frQ p q * frG p q = q ∧ 1 ≤ frQ p q ∧ Nat.gcd (frP p q).natAbs (frQ p q).natAbs = 1 ∧ (frP p q).natAbs ≤ p.natAbs ∧ (frQ p q).natAbs ≤ q.natAbs ∧ frG p q ≠ 0 := by
  have g0 : Nat.gcd p.natAbs q.natAbs ≠ 0 := fun z => h (by have := Nat.eq_zero_of_gcd_eq_zero_right z; omega)
  have ga : (frG p q).natAbs = Nat.gcd p.natAbs q.natAbs := by unfold frG; split <;> omega
  have gs : (0 < q ∧ 0 < frG p q) ∨ (q < 0 ∧ frG p q < 0) := by unfold frG; split <;> omega
  have gn : frG p q ≠ 0 := by omega
  have d1 : frG p q ∣ p := Int.natAbs_dvd_natAbs.mp (by rw [ga]; exact Nat.gcd_dvd_left _ _)
  have d2 : frG p q ∣ q := Int.natAbs_dvd_natAbs.mp (by rw [ga]; exact Nat.gcd_dvd_right _ _)
  obtain ⟨a, ea⟩ := d1
  obtain ⟨b, eb⟩ := d2
  have pa : frP p q = a := by
    unfold frP
    generalize frG p q = G at ea gn
    rw [ea, Int.mul_comm]
    exact Int.mul_fdiv_cancel _ gn
  have qb : frQ p q = b := by
    unfold frQ
    generalize frG p q = G at eb gn
    rw [eb, Int.mul_comm]
    exact Int.mul_fdiv_cancel _ gn
  rw [pa, qb]
  have na : p.natAbs = a.natAbs * Nat.gcd p.natAbs q.natAbs := by
    rw [← ga, ← Int.natAbs_mul, Int.mul_comm]; exact congrArg Int.natAbs ea
  have nb : q.natAbs = b.natAbs * Nat.gcd p.natAbs q.natAbs := by
    rw [← ga, ← Int.natAbs_mul, Int.mul_comm]; exact congrArg Int.natAbs eb
  have hg : Nat.gcd a.natAbs b.natAbs = 1 := by
    have e : Nat.gcd (a.natAbs * Nat.gcd p.natAbs q.natAbs) (b.natAbs * Nat.gcd p.natAbs q.natAbs) = Nat.gcd p.natAbs q.natAbs := by rw [← na, ← nb]
    rw [Nat.gcd_mul_right] at e
    exact Nat.eq_of_mul_eq_mul_right (Nat.pos_of_ne_zero g0) (by rw [e, Nat.one_mul])
  refine ⟨by rw [Int.mul_comm]; exact ea.symm, by rw [Int.mul_comm]; exact eb.symm, ?_, hg, ?_, ?_, gn⟩
  · generalize frG p q = G at eb gs
    rcases Int.lt_trichotomy b 0 with c | c | c
    · rcases gs with ⟨h1, h2⟩ | ⟨h1, h2⟩
      · have := Int.mul_neg_of_pos_of_neg h2 c; omega
      · have := Int.mul_pos_of_neg_of_neg h2 c; omega
    · rw [c, Int.mul_zero] at eb; omega
    · omega
  · rw [na]; exact Nat.le_mul_of_pos_right _ (Nat.pos_of_ne_zero g0)
  · rw [nb]; exact Nat.le_mul_of_pos_right _ (Nat.pos_of_ne_zero g0)
theorem pow_le {n a b : Nat} (h : n < 2 ^ a) (hab : a ≤ b) : n < 2 ^ b := Nat.lt_of_lt_of_le h (Nat.pow_le_pow_right (by decide) hab)
theorem eqv_pair (p q r s : Int) : PyData.eqv (.tuple [.int p, .int q]) (.tuple [.int r, .int s]) = (decide (p = r) && decide (q = s)) := by
  simp [PyData.eqv, PyData.eqvAll]
  rfl
theorem fr_low {p q : Int} (h : 1 ≤ q) (hg : Nat.gcd p.natAbs q.natAbs = 1) : frP p q = p ∧ frQ p q = q := by
  have e : frG p q = 1 := by unfold frG; rw [hg, if_neg (by omega)]; rfl
  obtain ⟨h1, h2, _⟩ := fr_spec p (q := q) (by omega)
  rw [e, Int.mul_one] at h1 h2
  exact ⟨h1, h2⟩
/-- what the exact test tells -/
theorem okD_two {p q : Int} (h : okD (.tuple [.int p, .int q]) = true) : p.natAbs < 2 ^ 4000 ∧ q.natAbs < 2 ^ 4000 := by
  have a := (okD_tup.mp h).2
  unfold okAll at a
  rw [Bool.and_eq_true] at a
  obtain ⟨a1, a2⟩ := a
  unfold okAll at a2
  rw [Bool.and_eq_true] at a2
  exact ⟨of_decide_eq_true a1, of_decide_eq_true a2.1⟩
theorem okD_of2 {p q : Int} (h1 : p.natAbs < 2 ^ 4000) (h2 : q.natAbs < 2 ^ 4000) : okD (.tuple [.int p, .int q]) = true := by
  refine okD_tup.mpr ⟨(show 2 ≤ 100000 by decide), ?_⟩
  unfold okAll
  rw [Bool.and_eq_true]
  refine ⟨decide_eq_true h1, ?_⟩
  unfold okAll
  rw [Bool.and_eq_true]
  exact ⟨decide_eq_true h2, rfl⟩
theorem isFrac_iff {p q : Int} : isFrac (.tuple [.int p, .int q]) = true ↔ 1 ≤ q ∧ Nat.gcd p.natAbs q.natAbs = 1 := by
  show (decide (1 ≤ q) && decide (Nat.gcd p.natAbs q.natAbs = 1)) = true ↔ _
  rw [Bool.and_eq_true, decide_eq_true_iff, decide_eq_true_iff]
theorem frac_dp {K : PySem.W.Frag} {H : Hp} {v : V} {d : PyData} (hd : Dp K H v d) (e : isFrac d = true) : ∃ a p q, v = .ref a ∧ d = .tuple [.int p, .int q] ∧ SqT K H a [.int p, .int q] ∧ 1 ≤ q ∧ Nat.gcd p.natAbs q.natAbs = 1 := by
  cases hd with
  | @tup a xs ds hs ha =>
    cases ha with
    | nil => cases e
    | cons h1 ha =>
      cases ha with
      | nil => cases h1 <;> cases e
      | cons h2 ha =>
        cases ha with
        | nil =>
          cases h1 with
          | int p =>
            cases h2 with
            | int q => exact ⟨a, p, q, rfl, rfl, hs, isFrac_iff.mp e⟩
            | _ => cases e
          | _ => cases h2 <;> cases e
        | cons h3 ha => cases h1 <;> cases h2 <;> cases e
  | _ => cases e
end LK

set_option Elab.async false
set_option linter.all false
set_option maxRecDepth 100000
namespace LK
open PySem PySem.Spec PyProof.Rows L2
local macro_rules | `(tactic| walk_at "rs") => `(tactic| simp only [cxK, cxNK, tCallZ, tAsg, tOp, rI0, rS0, rB0, rI, rU, tUn, rEq, rNe, rIxL, rIxT, rIxS, rSetL, rSlLU, rSlS, rSlU, rCatL, rCatU, rRepL, rIn, tVar, tC, gName, gSub, tIfS, tTest, tB, tAnd, tOr, tNot, tNotV, tAndV, tOrV, tIf, tCall, tCons, tNil, tCB, tDrop, tRet, tRetN, tNext, tLstU, tTupU, tM0, tM1, tPar, tPar3, tAug, ipI, tBM, tBM0, rAppend, rPop, tBreak, tCont, tChain, tSl, tPart, tNoPart, L2.start, List.map, List.length_cons, List.length_nil, List.replicate, List.cons_append, List.nil_append, List.append_nil, List.getElem?_cons_zero, List.getElem?_cons_succ, List.set_cons_zero, List.set_cons_succ, Option.some.injEq, V.int.injEq, V.ref.injEq, V.str.injEq, V.bl.injEq, exists_eq_left', exists_eq_left, exists_and_left, decide_eq_true_eq, List.cons.injEq, and_true, true_and, scal, Bool.not_eq_true', decide_eq_false_iff_not, Nat.zero_add, Nat.reduceAdd, Nat.reduceSub, reduceCtorEq, false_and, exists_false, false_or, or_false, CPow, CMul, CDiv, Int.reduceToNat, ↓reduceIte, wipe, sw, List.nil_append, List.singleton_append])
local macro_rules | `(tactic| walk_at "st") => `(tactic| (refine seq_op fun N hN => ?_; walk_at "rs"))
local macro_rules | `(tactic| walk_at "sd") => `(tactic| first | assumption | decide | omega)
local macro_rules | `(tactic| walk_at "rd") => `(tactic| repeat (first
  | refine ⟨_, SqL.of (by assumption), ?_⟩ | refine ⟨_, SqL.of upd_same, ?_⟩ | refine ⟨_, .inl (SqL.of (by assumption)), ?_⟩ | refine ⟨_, (by assumption : _ = some (HO.lst _)), ?_⟩ | refine ⟨_, upd_same, ?_⟩
  | refine ⟨_, rfl, ?_⟩ | refine And.intro (by walk_at "sd") ?_))

open TL
/-! ### the words that are drawn -/
def names11 : List Str := ["sign", "place", "a", "b", "z9", "w"]
def ops17 : List Str := opsTab.map (·.1)
def ints19 : List Str := (List.range 19).map fun (k : Nat) => Str.ofString (toString ((k : Int) - 9))
def allW : List Str := names11 ++ ops17 ++ ints19
def nm (z : Str) : Bool := decide (z ∈ names11)
def intOf (z : Str) : Int := (intText? z).getD 0
theorem w_name : ∀ z ∈ allW, isNameD (.str z) = nm z := by decide +kernel
theorem w_len : ∀ z ∈ allW, z.length ≤ 6 ∧ 0 < z.length ∧ PyData.canLay0 (.str z) = true := by decide +kernel
theorem w_e : ∀ z ∈ allW, opsL (.str z) 101 = some (if nm z = true then [] else match opsOf z with | some o => o.cps.toList | none => []) := by decide +kernel
theorem w_k : ∀ z ∈ allW, ∀ o, opsL (.str z) 107 = some o → o = [] ∧ nm z = false ∧ opsOf z = none ∧ 1 ≤ intOf z ∧ intOf z ≤ 9 := by
  have h : (allW.all fun z => match opsL (.str z) 107 with | none => true | some o => decide (o = [] ∧ nm z = false ∧ opsOf z = none ∧ 1 ≤ intOf z ∧ intOf z ≤ 9)) = true := by decide +kernel
  intro z hz o e
  have := List.all_eq_true.mp h z hz
  rw [e] at this
  exact of_decide_eq_true this
theorem w_int : ∀ z ∈ allW, nm z = false → opsOf z = none → intText? z = some (intOf z) ∧ (intOf z).natAbs ≤ 9 := by
  have h : ∀ z ∈ allW, nm z = false → opsOf z = none → decide (intText? z = some (intOf z)) = true ∧ (intOf z).natAbs ≤ 9 := by decide +kernel
  intro z hz a b
  obtain ⟨c, d⟩ := h z hz a b
  exact ⟨of_decide_eq_true c, d⟩
theorem w_ops : ∀ z ∈ allW, nm z = true → opsOf z = none := by decide +kernel
/-! ### what words are worth -/
abbrev Fr := Int × Int
def lowF (p q : Int) : Fr := (frP p q, frQ p q)
def tf (b : Bool) : Fr := if b = true then (1, 1) else (0, 1)
def gapF (a b : Fr) : Int := a.1 * b.2 - b.1 * a.2
def holdsF (z : Str) (a b : Fr) : Bool :=
  if z = "=" then decide (a = b) else if z = "/=" then !decide (a = b) else if z = "<" then decide (gapF a b < 0) else if z = "<=" then !decide (0 < gapF a b)
  else if z = ">" then decide (0 < gapF a b) else !decide (gapF a b < 0)
def opF (z : Str) (a b : Fr) : Fr :=
  if z = "+" then lowF (a.1 * b.2 + b.1 * a.2) (a.2 * b.2)
  else if z = "-" then lowF (a.1 * b.2 - b.1 * a.2) (a.2 * b.2)
  else if z = "*" then lowF (a.1 * b.1) (a.2 * b.2)
  else if z = "min" then (if gapF b a < 0 then b else a)
  else if z = "max" then (if 0 < gapF b a then b else a)
  else if z = "div" then (a.1.fdiv (a.2 * b.1), 1)
  else if z = "mod" then lowF (a.1 - a.1.fdiv (a.2 * b.1) * b.1 * a.2) a.2
  else if z = "and" then tf (decide (a.1 ≠ 0) && decide (b.1 ≠ 0))
  else if z = "or" then tf (decide (a.1 ≠ 0) || decide (b.1 ≠ 0))
  else tf (holdsF z a b)
def stepF (tab : Str → Option Fr) (z : Str) (st : List Fr) : List Fr :=
  if nm z = true then (tab z).getD (0, 1) :: st
  else if z = "not" then (match st with | a :: r => tf (decide (a.1 = 0)) :: r | [] => [])
  else if z = "if" then (match st with | a :: b :: c :: r => (if a.1 = 0 then c else b) :: r | _ => [])
  else if (opsOf z).isSome = true then (match st with | a :: b :: r => opF z a b :: r | _ => [])
  else (intOf z, 1) :: st
def stk (tab : Str → Option Fr) : List Str → List Fr
  | [] => []
  | z :: r => stepF tab z (stk tab r)
/-- lowest terms, at most so many bits -/
def okB (m : Nat) (f : Fr) : Prop := 1 ≤ f.2 ∧ Nat.gcd f.1.natAbs f.2.natAbs = 1 ∧ f.1.natAbs < 2 ^ m ∧ f.2.natAbs < 2 ^ m
theorem okB.le {m n : Nat} {f : Fr} (h : okB m f) (l : m ≤ n) : okB n f := ⟨h.1, h.2.1, pow_le h.2.2.1 l, pow_le h.2.2.2 l⟩
theorem okB_low {m : Nat} {p q : Int} (q0 : q ≠ 0) (hp : p.natAbs < 2 ^ m) (hq : q.natAbs < 2 ^ m) : okB m (lowF p q) := by
  obtain ⟨_, _, e3, e4, e5, e6, _⟩ := fr_spec p q0
  exact ⟨e3, e4, Nat.lt_of_le_of_lt e5 hp, Nat.lt_of_le_of_lt e6 hq⟩
theorem okB_int {m : Nat} {p : Int} (hm : 0 < m) (hp : p.natAbs < 2 ^ m) : okB m (p, 1) := ⟨Int.le_refl 1, by simp, hp, Nat.one_lt_two_pow (by omega)⟩
theorem okB_tf (b : Bool) {m : Nat} (hm : 0 < m) : okB m (tf b) := by
  have h : (1 : Nat) < 2 ^ m := Nat.one_lt_two_pow (by omega)
  cases b
  · exact okB_int hm (show (0 : Nat) < 2 ^ m by omega)
  · exact okB_int hm h
inductive Stk : List Nat → Nat → List Fr → Prop
  | nil : Stk [] 0 []
  | cons {c m n : Nat} {f : Fr} {w : List Nat} {st : List Fr} (h : okB (64 * m) f) (hm : 0 < m) (d : c = 107 → f.2 = 1 ∧ 1 ≤ f.1 ∧ f.1 ≤ 9) (r : Stk w n st) : Stk (c :: w) (m + n) (f :: st)
theorem Stk.top {c n : Nat} {w : List Nat} {st : List Fr} (h : Stk (c :: w) n st) : ∃ f r m k, st = f :: r ∧ n = m + k ∧ okB (64 * m) f ∧ 0 < m ∧ (c = 107 → f.2 = 1 ∧ 1 ≤ f.1 ∧ f.1 ≤ 9) ∧ Stk w k r := by
  cases h with
  | cons h hm d r => exact ⟨_, _, _, _, rfl, rfl, h, hm, d, r⟩
theorem two_plus {i j : Int} {a b : Nat} (hi : i.natAbs < 2 ^ a) (hj : j.natAbs < 2 ^ b) {k : Nat} (ha : a ≤ k) (hb : b ≤ k) : (i + j).natAbs < 2 ^ (k + 1) ∧ (i - j).natAbs < 2 ^ (k + 1) := ⟨two_add (pow_le hi ha) (pow_le hj hb), two_sub (pow_le hi ha) (pow_le hj hb)⟩
theorem op_ok {z : Str} {a b : Fr} {m n : Nat} (hm : 0 < m) (hn : 0 < n) (ha : okB (64 * m) a) (hb : okB (64 * n) b) (hd : z = "div" ∨ z = "mod" → b.2 = 1 ∧ 1 ≤ b.1 ∧ b.1 ≤ 9) : okB (64 * (m + n + 1)) (opF z a b) := by
  obtain ⟨a1, a2, a3, a4⟩ := ha
  obtain ⟨b1, b2, b3, b4⟩ := hb
  have nz : a.2 * b.2 ≠ 0 := Int.mul_ne_zero (by omega) (by omega)
  have w1 : (a.1 * b.2).natAbs < 2 ^ (64 * m + 64 * n) := wide_lt a3 b4
  have w2 : (b.1 * a.2).natAbs < 2 ^ (64 * n + 64 * m) := wide_lt b3 a4
  have w6 : (a.2 * b.2).natAbs < 2 ^ (64 * m + 64 * n) := wide_lt a4 b4
  have w4 : (a.1 * b.1).natAbs < 2 ^ (64 * m + 64 * n) := wide_lt a3 b3
  have ws := two_plus w1 w2 (k := 64 * m + 64 * n) (Nat.le_refl _) (by omega)
  have kk : 64 * m + 64 * n + 1 ≤ 64 * (m + n + 1) := by omega
  unfold opF
  split
  · exact okB_low nz (pow_le ws.1 kk) (pow_le w6 (by omega))
  split
  · exact okB_low nz (pow_le ws.2 kk) (pow_le w6 (by omega))
  split
  · exact okB_low nz (pow_le w4 (by omega)) (pow_le w6 (by omega))
  split
  · split
    · exact okB.le ⟨b1, b2, b3, b4⟩ (by omega)
    · exact okB.le ⟨a1, a2, a3, a4⟩ (by omega)
  split
  · split
    · exact okB.le ⟨b1, b2, b3, b4⟩ (by omega)
    · exact okB.le ⟨a1, a2, a3, a4⟩ (by omega)
  split
  · rename_i e
    obtain ⟨d1, d2, d3⟩ := hd (.inl e)
    have pos : 1 ≤ a.2 * b.1 := by
      have := Int.mul_le_mul a1 d2 (by decide) (by omega)
      omega
    refine okB_int (by omega) (Nat.lt_of_le_of_lt ?_ (pow_le a3 (show 64 * m ≤ 64 * (m + n + 1) by omega)))
    rw [Int.fdiv_eq_ediv_of_nonneg _ (by omega)]
    exact Int.natAbs_ediv_le_natAbs _ _
  split
  · rename_i e
    obtain ⟨d1, d2, d3⟩ := hd (.inr e)
    have pos : 1 ≤ a.2 * b.1 := by
      have := Int.mul_le_mul a1 d2 (by decide) (by omega)
      omega
    have em : a.1 - a.1.fdiv (a.2 * b.1) * b.1 * a.2 = a.1 % (a.2 * b.1) := by
      rw [Int.fdiv_eq_ediv_of_nonneg _ (by omega), Int.emod_def, Int.mul_assoc, Int.mul_comm b.1 a.2, Int.mul_comm (a.2 * b.1)]
    have l0 := Int.emod_nonneg a.1 (show a.2 * b.1 ≠ 0 by omega)
    have l1 := Int.emod_lt_of_pos a.1 (show 0 < a.2 * b.1 by omega)
    refine okB_low (by omega) ?_ (pow_le a4 (by omega))
    rw [em]
    have b9 : b.1.natAbs < 2 ^ 4 := by omega
    have w5 : (a.2 * b.1).natAbs < 2 ^ (64 * m + 4) := wide_lt a4 b9
    refine Nat.lt_of_lt_of_le ?_ (Nat.pow_le_pow_right (by decide) (show 64 * m + 4 ≤ 64 * (m + n + 1) by omega))
    omega
  split
  · exact okB_tf _ (by omega)
  split
  · exact okB_tf _ (by omega)
  · exact okB_tf _ (by omega)
end LK

set_option Elab.async false
set_option linter.all false
set_option maxRecDepth 100000
namespace LK
open PySem PySem.Spec PyProof.Rows L2
local macro_rules | `(tactic| walk_at "rs") => `(tactic| simp only [cxK, cxNK, tCallZ, tAsg, tOp, rI0, rS0, rB0, rI, rU, tUn, rEq, rNe, rIxL, rIxT, rIxS, rSetL, rSlLU, rSlS, rSlU, rCatL, rCatU, rRepL, rIn, tVar, tC, gName, gSub, tIfS, tTest, tB, tAnd, tOr, tNot, tNotV, tAndV, tOrV, tIf, tCall, tCons, tNil, tCB, tDrop, tRet, tRetN, tNext, tLstU, tTupU, tM0, tM1, tPar, tPar3, tAug, ipI, tBM, tBM0, rAppend, rPop, tBreak, tCont, tChain, tSl, tPart, tNoPart, L2.start, List.map, List.length_cons, List.length_nil, List.replicate, List.cons_append, List.nil_append, List.append_nil, List.getElem?_cons_zero, List.getElem?_cons_succ, List.set_cons_zero, List.set_cons_succ, Option.some.injEq, V.int.injEq, V.ref.injEq, V.str.injEq, V.bl.injEq, exists_eq_left', exists_eq_left, exists_and_left, decide_eq_true_eq, List.cons.injEq, and_true, true_and, scal, Bool.not_eq_true', decide_eq_false_iff_not, Nat.zero_add, Nat.reduceAdd, Nat.reduceSub, reduceCtorEq, false_and, exists_false, false_or, or_false, CPow, CMul, CDiv, Int.reduceToNat, ↓reduceIte, wipe, sw, List.nil_append, List.singleton_append])
local macro_rules | `(tactic| walk_at "st") => `(tactic| (refine seq_op fun N hN => ?_; walk_at "rs"))
local macro_rules | `(tactic| walk_at "sd") => `(tactic| first | assumption | decide | omega)
local macro_rules | `(tactic| walk_at "rd") => `(tactic| repeat (first
  | refine ⟨_, SqL.of (by assumption), ?_⟩ | refine ⟨_, SqL.of upd_same, ?_⟩ | refine ⟨_, .inl (SqL.of (by assumption)), ?_⟩ | refine ⟨_, (by assumption : _ = some (HO.lst _)), ?_⟩ | refine ⟨_, upd_same, ?_⟩
  | refine ⟨_, rfl, ?_⟩ | refine And.intro (by walk_at "sd") ?_))

open TL
theorem w_op {z : Str} (hz : z ∈ allW) {o : Str} (h : opsOf z = some o) : nm z = false ∧ ((z = "not" ∧ o.cps.toList = [101]) ∨ (z = "if" ∧ o.cps.toList = [101, 101, 101]) ∨ (z ≠ "not" ∧ z ≠ "if" ∧ (((z = "div" ∨ z = "mod") ∧ o.cps.toList = [101, 107]) ∨ (¬ (z = "div" ∨ z = "mod") ∧ o.cps.toList = [101, 101])))) := by
  have h2 : (allW.all fun z => match opsOf z with | none => true | some o => decide (nm z = false ∧ ((z = "not" ∧ o.cps.toList = [101]) ∨ (z = "if" ∧ o.cps.toList = [101, 101, 101]) ∨ (z ≠ "not" ∧ z ≠ "if" ∧ (((z = "div" ∨ z = "mod") ∧ o.cps.toList = [101, 107]) ∨ (¬ (z = "div" ∨ z = "mod") ∧ o.cps.toList = [101, 101])))))) = true := by decide +kernel
  have := List.all_eq_true.mp h2 z hz
  rw [h] at this
  exact of_decide_eq_true this
theorem op_not : opsOf "not" = some "e" ∧ opsOf "if" = some "eee" := by decide +kernel
theorem step_int {tab : Str → Option Fr} {z : Str} {st : List Fr} (h1 : nm z = false) (h2 : opsOf z = none) : stepF tab z st = (intOf z, 1) :: st := by
  unfold stepF
  rw [if_neg (by rw [h1]; decide), if_neg, if_neg, if_neg]
  · rw [h2]; decide
  · intro e; rw [e, op_not.2] at h2; cases h2
  · intro e; rw [e, op_not.1] at h2; cases h2
theorem step_two {tab : Str → Option Fr} {z : Str} {a b : Fr} {r : List Fr} {o : Str} (h1 : nm z = false) (h2 : opsOf z = some o) (n1 : z ≠ "not") (n2 : z ≠ "if") : stepF tab z (a :: b :: r) = opF z a b :: r := by
  unfold stepF
  rw [if_neg (by rw [h1]; decide), if_neg n1, if_neg n2, if_pos (by rw [h2]; rfl)]
theorem step_name {tab : Str → Option Fr} {z : Str} {f : Fr} {st : List Fr} (h1 : nm z = true) (h : tab z = some f) : stepF tab z st = f :: st := by
  unfold stepF
  rw [if_pos h1, h]; rfl
theorem step_not {tab : Str → Option Fr} {a : Fr} {st : List Fr} : stepF tab "not" (a :: st) = tf (decide (a.1 = 0)) :: st := rfl
theorem step_if {tab : Str → Option Fr} {a b c : Fr} {st : List Fr} : stepF tab "if" (a :: b :: c :: st) = (if a.1 = 0 then c else b) :: st := rfl
theorem stk_ok {tab : Str → Option Fr} : ∀ (ws : List Str) (w : List Nat), (∀ z ∈ ws, z ∈ allW) → (∀ z ∈ ws, nm z = true → ∃ f, tab z = some f ∧ okB 64 f) → (∀ c ∈ w, c = 101 ∨ c = 107) → walkL w (ws.map PyData.str) = true → Stk w ws.length (stk tab ws)
  | [], w, _, _, _, h => by
    cases w with
    | nil => exact .nil
    | cons c w => simp [walkL] at h
  | z :: r, w, hw, ht, hc, h => by
    have hz := hw z List.mem_cons_self
    have ih := fun w' hc' h' => stk_ok (tab := tab) r w' (fun y hy => hw y (List.mem_cons_of_mem _ hy)) (fun y hy => ht y (List.mem_cons_of_mem _ hy)) hc' h'
    cases w with
    | nil => simp [walkL] at h
    | cons c w =>
      have hc' : ∀ x ∈ w, x = 101 ∨ x = 107 := fun x hx => hc x (List.mem_cons_of_mem _ hx)
      have push : ∀ f : Fr, okB 64 f → (c = 107 → f.2 = 1 ∧ 1 ≤ f.1 ∧ f.1 ≤ 9) → Stk w r.length (stk tab r) → Stk (c :: w) (r.length + 1) (f :: stk tab r) := fun f hf hd hs => by
        have := Stk.cons (m := 1) hf (by decide) hd hs
        rw [Nat.add_comm] at this
        exact this
      show Stk (c :: w) (r.length + 1) (stepF tab z (stk tab r))
      rcases hc c List.mem_cons_self with rfl | rfl
      · have e := w_e z hz
        simp only [List.map_cons, walkL, e] at h
        by_cases n : nm z = true
        · rw [if_pos n] at h
          obtain ⟨f, h1, h2⟩ := ht z List.mem_cons_self n
          rw [step_name n h1]
          exact push f h2 (fun z => by cases z) (ih w hc' h)
        · rw [if_neg n] at h
          simp only [Bool.not_eq_true] at n
          cases eo : opsOf z with
          | none =>
            rw [eo] at h
            rw [step_int n eo]
            obtain ⟨_, h2⟩ := w_int z hz n eo
            exact push _ (okB_int (by decide) (Nat.lt_of_le_of_lt h2 (by decide))) (fun z => by cases z) (ih w hc' h)
          | some o =>
            rw [eo] at h
            dsimp only at h
            rcases (w_op hz eo).2 with ⟨rfl, e1⟩ | ⟨rfl, e1⟩ | ⟨n1, n2, ⟨hd, e1⟩ | ⟨hd, e1⟩⟩
            · rw [e1] at h
              obtain ⟨f, st, m, k, e2, e3, hf, hm, _, hs⟩ := (ih (101 :: w) (fun x hx => by rcases List.mem_cons.mp hx with rfl | hx; exact .inl rfl; exact hc' x hx) h).top
              rw [e2, step_not, e3]
              have := Stk.cons (c := 101) (m := m + 1) (okB_tf (decide (f.1 = 0)) (by omega)) (by omega) (fun z => by cases z) hs
              rw [show m + k + 1 = m + 1 + k by omega]
              exact this
            · rw [e1] at h
              have s1 := ih (101 :: 101 :: 101 :: w) (fun x hx => by
                simp only [List.mem_cons] at hx
                rcases hx with rfl | rfl | rfl | hx <;> first | exact .inl rfl | exact hc' x hx) h
              obtain ⟨a, st1, m1, k1, e2, e3, ha, hm1, _, s2⟩ := s1.top
              obtain ⟨b, st2, m2, k2, e4, e5, hb, hm2, _, s3⟩ := s2.top
              obtain ⟨c3, st3, m3, k3, e6, e7, hc3, hm3, _, s4⟩ := s3.top
              rw [e2, e4, e6, step_if, e3, e5, e7]
              have okv : okB (64 * (m1 + m2 + m3 + 1)) (if a.1 = 0 then c3 else b) := by
                split
                · exact hc3.le (by omega)
                · exact hb.le (by omega)
              have := Stk.cons (c := 101) (m := m1 + m2 + m3 + 1) okv (by omega) (fun z => by cases z) s4
              rw [show m1 + (m2 + (m3 + k3)) + 1 = m1 + m2 + m3 + 1 + k3 by omega]
              exact this
            · rw [e1] at h
              have s1 := ih (101 :: 107 :: w) (fun x hx => by
                simp only [List.mem_cons] at hx
                rcases hx with rfl | rfl | hx <;> first | exact .inl rfl | exact .inr rfl | exact hc' x hx) h
              obtain ⟨a, st1, m1, k1, e2, e3, ha, hm1, _, s2⟩ := s1.top
              obtain ⟨b, st2, m2, k2, e4, e5, hb, hm2, dg, s3⟩ := s2.top
              rw [e2, e4, step_two n eo n1 n2, e3, e5]
              have := Stk.cons (c := 101) (f := opF z a b) (op_ok hm1 hm2 ha hb fun _ => dg rfl) (by omega) (fun z => by cases z) s3
              rw [show m1 + (m2 + k2) + 1 = m1 + m2 + 1 + k2 by omega]
              exact this
            · rw [e1] at h
              have s1 := ih (101 :: 101 :: w) (fun x hx => by
                simp only [List.mem_cons] at hx
                rcases hx with rfl | rfl | hx <;> first | exact .inl rfl | exact hc' x hx) h
              obtain ⟨a, st1, m1, k1, e2, e3, ha, hm1, _, s2⟩ := s1.top
              obtain ⟨b, st2, m2, k2, e4, e5, hb, hm2, _, s3⟩ := s2.top
              rw [e2, e4, step_two n eo n1 n2, e3, e5]
              have := Stk.cons (c := 101) (f := opF z a b) (op_ok hm1 hm2 ha hb fun q => absurd q hd) (by omega) (fun z => by cases z) s3
              rw [show m1 + (m2 + k2) + 1 = m1 + m2 + 1 + k2 by omega]
              exact this
      · cases ek : opsL (.str z) 107 with
        | none => simp [walkL, ek] at h
        | some o =>
          obtain ⟨rfl, n, eo, i1, i2⟩ := w_k z hz o ek
          simp only [List.map_cons, walkL, ek] at h
          rw [step_int n eo]
          obtain ⟨_, h2⟩ := w_int z hz n eo
          exact push _ (okB_int (by decide) (Nat.lt_of_le_of_lt h2 (by decide))) (fun _ => ⟨rfl, i1, i2⟩) (ih w hc' h)
end LK

set_option Elab.async false
set_option linter.all false
set_option maxRecDepth 100000
namespace LK
open PySem PySem.Spec PyProof.Rows L2
local macro_rules | `(tactic| walk_at "rs") => `(tactic| simp only [cxK, cxNK, tCallZ, tAsg, tOp, rI0, rS0, rB0, rI, rU, tUn, rEq, rNe, rIxL, rIxT, rIxS, rSetL, rSlLU, rSlS, rSlU, rCatL, rCatU, rRepL, rIn, tVar, tC, gName, gSub, tIfS, tTest, tB, tAnd, tOr, tNot, tNotV, tAndV, tOrV, tIf, tCall, tCons, tNil, tCB, tDrop, tRet, tRetN, tNext, tLstU, tTupU, tM0, tM1, tPar, tPar3, tAug, ipI, tBM, tBM0, rAppend, rPop, tBreak, tCont, tChain, tSl, tPart, tNoPart, L2.start, List.map, List.length_cons, List.length_nil, List.replicate, List.cons_append, List.nil_append, List.append_nil, List.getElem?_cons_zero, List.getElem?_cons_succ, List.set_cons_zero, List.set_cons_succ, Option.some.injEq, V.int.injEq, V.ref.injEq, V.str.injEq, V.bl.injEq, exists_eq_left', exists_eq_left, exists_and_left, decide_eq_true_eq, List.cons.injEq, and_true, true_and, scal, Bool.not_eq_true', decide_eq_false_iff_not, Nat.zero_add, Nat.reduceAdd, Nat.reduceSub, reduceCtorEq, false_and, exists_false, false_or, or_false, CPow, CMul, CDiv, Int.reduceToNat, ↓reduceIte, wipe, sw, List.nil_append, List.singleton_append])
local macro_rules | `(tactic| walk_at "st") => `(tactic| (refine seq_op fun N hN => ?_; walk_at "rs"))
local macro_rules | `(tactic| walk_at "sd") => `(tactic| first | assumption | decide | omega)
local macro_rules | `(tactic| walk_at "rd") => `(tactic| repeat (first
  | refine ⟨_, SqL.of (by assumption), ?_⟩ | refine ⟨_, SqL.of upd_same, ?_⟩ | refine ⟨_, .inl (SqL.of (by assumption)), ?_⟩ | refine ⟨_, (by assumption : _ = some (HO.lst _)), ?_⟩ | refine ⟨_, upd_same, ?_⟩
  | refine ⟨_, rfl, ?_⟩ | refine And.intro (by walk_at "sd") ?_))

theorem okAll_mem {K : PySem.W.Frag} {G : Hp} {m : Nat} : ∀ {ys : List V}, (∀ v ∈ ys, ∃ d, Dp K G v d ∧ okD d = true ∧ dep d ≤ m) → ∃ ds, DpAll K G ys ds ∧ okAll ds = true ∧ depAll ds ≤ m ∧ ds.length = ys.length
  | [], _ => ⟨[], .nil, rfl, Nat.zero_le _, rfl⟩
  | v :: ys, h => by
    obtain ⟨d, h1, h2, h3⟩ := h v List.mem_cons_self
    obtain ⟨ds, q1, q2, q3, q4⟩ := okAll_mem (ys := ys) fun v hv => h v (List.mem_cons_of_mem _ hv)
    refine ⟨d :: ds, .cons h1 q1, ?_, Nat.max_le.mpr ⟨h3, q3⟩, by simp [q4]⟩
    unfold okAll
    rw [h2, q2]; rfl
theorem Kp.bn {b : Addr} {H H' : Hp} (k : Kp b H H') {o : HO} (h : H' b = some o) {p : Addr} (h0 : H' p = none) : H p = none := k.dom h p h0
theorem of_str {K : PySem.W.Frag} {H : Hp} {b c : Addr} (B : Bag H b c) {z : Str} (h0 : 0 < z.length) (h1 : z.length ≤ 100000) {Q : VK} {E : XK} (k : ∀ c0 H', Bag H' b c → Kp b H H' → Q (.str ⟨#[c0]⟩) H') : sp__law_of K [.ref b, .str z] H Q E := by
  have l := len_cps z
  refine ⟨b, c, .str z, _, rfl, B, .inr (.inr ⟨z, rfl, h1, rfl⟩), .inr (.inr ⟨z, rfl, h1, rfl⟩), ?_, ?_, fun y H' hy B' K' => ?_⟩
  · intro e
    have q := congrArg List.length e
    rw [List.length_map, l, List.length_nil] at q
    omega
  · rw [List.length_map]; omega
  · obtain ⟨c0, _, rfl⟩ := List.mem_map.mp hy
    exact k c0 H' B' K'
theorem of_lst {K : PySem.W.Frag} {H : Hp} {b c p : Addr} (B : Bag H b c) {ys : List V} (h : H p = some (.lst ys)) (n : p ≠ b) (ne : ys ≠ []) (hl : ys.length ≤ 1000000) {Q : VK} {E : XK} (k : ∀ y H', y ∈ ys → Bag H' b c → Kp b H H' → Q y H') : sp__law_of K [.ref b, .ref p] H Q E :=
  ⟨b, c, .ref p, ys, rfl, B, .inl ⟨p, rfl, SqL.of h⟩, .inl ⟨p, rfl, SqL.of (by rw [hb_ne n]; exact h)⟩, ne, hl, k⟩
theorem sqT_hb {K : PySem.W.Frag} {H : Hp} {b c q : Addr} {xs : List V} (B : Bag H b c) (h : SqT K H q xs) : SqT K (hb H b) q xs := by
  obtain ⟨yb, eb⟩ := B.at
  rcases h with (h | ⟨o, h⟩) | h
  · refine .inl (.inl ?_)
    rw [hb_ne]; exact h
    intro e; rw [e, eb] at h; cases h
  · refine .inl (.inr ⟨o, ?_⟩)
    rw [hb_ne]; exact h
    intro e; rw [e, eb] at h; cases h
  · exact .inr h
theorem of_new {K : PySem.W.Frag} {H H1 : Hp} {b c p : Addr} (B : Bag H b c) {L : List V} (s1 : Same H H1) (h0 : H p = none) (h1 : H1 p = some (.lst L)) (ne : L ≠ []) (hl : L.length ≤ 1000000) {Q : VK} {E : XK} (k : ∀ y H2, y ∈ L → Bag H2 b c → Kp b H H2 → Q y H2) : sp__law_of K [.ref b, .ref p] H1 Q E :=
  of_lst (B.same s1) h1 (fun e => by
    obtain ⟨xb, eb⟩ := B.at
    rw [e, eb] at h0; cases h0) ne hl fun y H2 hy B2 K2 => k y H2 hy B2 (Same.trans (Kp.of s1) K2)
/-- as before, of words -/
theorem of_newS {K : PySem.W.Frag} {H H1 : Hp} {b c p : Addr} (B : Bag H b c) (L : List Str) (s1 : Same H H1) (h0 : H p = none) (h1 : H1 p = some (.lst (L.map V.str))) (ne : L ≠ []) (hl : L.length ≤ 1000000) {m : Nat} (hm : ∀ z ∈ L, z.length ≤ m) {Q : VK} {E : XK} (k : ∀ z H2, z.length ≤ m → Bag H2 b c → Kp b H H2 → Q (.str z) H2) : sp__law_of K [.ref b, .ref p] H1 Q E :=
  of_new B s1 h0 h1 (by simpa using ne) (by rw [List.length_map]; exact hl) fun y H2 hy B2 K2 => by
    obtain ⟨z, hz, rfl⟩ := List.mem_map.mp hy
    exact k z H2 (hm z hz) B2 K2
theorem of_newR {K : PySem.W.Frag} {H H1 : Hp} {b c p : Addr} (B : Bag H b c) (L : List Str) (s1 : Same H H1) (h0 : H p = none) (h1 : H1 p = some (.lst (L.map V.str))) (ne : L ≠ []) (hl : L.length ≤ 1000000) {R : Str → Prop} (hm : ∀ z ∈ L, R z) {Q : VK} {E : XK} (k : ∀ z H2, R z → Bag H2 b c → Kp b H H2 → Q (.str z) H2) : sp__law_of K [.ref b, .ref p] H1 Q E :=
  of_new B s1 h0 h1 (by simpa using ne) (by rw [List.length_map]; exact hl) fun y H2 hy B2 K2 => by
    obtain ⟨z, hz, rfl⟩ := List.mem_map.mp hy
    exact k z H2 (hm z hz) B2 K2
theorem of_lstS {K : PySem.W.Frag} {H : Hp} {b c p : Addr} (B : Bag H b c) (L : List Str) (h : H p = some (.lst (L.map V.str))) (n : p ≠ b) (ne : L ≠ []) (hl : L.length ≤ 1000000) {m : Nat} (hm : ∀ z ∈ L, z.length ≤ m) {Q : VK} {E : XK} (k : ∀ z H', z.length ≤ m → Bag H' b c → Kp b H H' → Q (.str z) H') : sp__law_of K [.ref b, .ref p] H Q E :=
  of_lst B h n (by simpa using ne) (by rw [List.length_map]; exact hl) fun y H2 hy B2 K2 => by
    obtain ⟨z, hz, rfl⟩ := List.mem_map.mp hy
    exact k z H2 (hm z hz) B2 K2
/-- each thing in xs is a thing that can be told of -/
def Ev (K : PySem.W.Frag) (G : Hp) (xs : List V) : Prop := ∀ v ∈ xs, ∃ d, Dp K G v d ∧ okD d = true
theorem Ev.same {K : PySem.W.Frag} {G G' : Hp} {xs : List V} (s : Same G G') (h : Ev K G xs) : Ev K G' xs := fun v hv => by
  obtain ⟨d, h1, h2⟩ := h v hv
  exact ⟨d, dp_same s h1, h2⟩
theorem Ev.app {K : PySem.W.Frag} {G : Hp} {xs ys : List V} (h : Ev K G xs) (h' : Ev K G ys) : Ev K G (xs ++ ys) := fun v hv => (List.mem_append.mp hv).elim (h v) (h' v)
theorem Ev.cut {K : PySem.W.Frag} {G : Hp} {xs : List V} (h : Ev K G xs) (lo hi : Option Int) : Ev K G (cutV xs lo hi) := fun v hv => h v (List.mem_of_mem_drop (List.mem_of_mem_take hv))
theorem Ev.one {K : PySem.W.Frag} {G : Hp} {v : V} {d : PyData} (h : Dp K G v d) (ok : okD d = true) : Ev K G [v] := fun u hu => by
  obtain rfl := List.mem_singleton.mp hu
  exact ⟨d, h, ok⟩
theorem Ev.strs {K : PySem.W.Frag} {G : Hp} {ws : List Str} (h : ∀ z ∈ ws, z.length ≤ 20) : Ev K G (ws.map V.str) := fun v hv => by
  obtain ⟨z, hz, rfl⟩ := List.mem_map.mp hv
  exact ⟨.str z, .str z, decide_eq_true (Nat.le_trans (h z hz) (by decide))⟩
theorem Ev.all {K : PySem.W.Frag} {G : Hp} : ∀ {xs : List V}, Ev K G xs → ∃ ds, DpAll K G xs ds ∧ okAll ds = true ∧ ds.length = xs.length
  | [], _ => ⟨[], .nil, rfl, rfl⟩
  | v :: xs, h => by
    obtain ⟨d, h1, h2⟩ := h v List.mem_cons_self
    obtain ⟨ds, q1, q2, q3⟩ := Ev.all (xs := xs) fun v hv => h v (List.mem_cons_of_mem _ hv)
    exact ⟨d :: ds, .cons h1 q1, by unfold okAll; rw [h2, q2]; rfl, by simp [q3]⟩
theorem Ev.of {K : PySem.W.Frag} {G : Hp} : ∀ {xs : List V} {ds : List PyData}, DpAll K G xs ds → okAll ds = true → Ev K G xs ∧ xs.length = ds.length
  | _, _, .nil, _ => ⟨fun v hv => absurd hv (by simp), rfl⟩
  | _, _, .cons h q, ok => by
    unfold okAll at ok
    rw [Bool.and_eq_true] at ok
    obtain ⟨e, l⟩ := Ev.of q ok.2
    exact ⟨fun v hv => (List.mem_cons.mp hv).elim (fun z => by rw [z]; exact ⟨_, h, ok.1⟩) (e v), by simp [l]⟩
theorem seqT_kp {K : PySem.W.Frag} {H H' : Hp} {b c q : Addr} {xs : List V} (B : Bag H b c) (k : Kp b H H') (h : SqT K H q xs) : SqT K H' q xs := Same.seqT (hb_le H' b) (Same.seqT k (sqT_hb B h))
theorem cut1_le (xs : List V) {i : Int} (h : 0 ≤ i) : (cutV xs (some i) (some (i + 1))).length ≤ 1 := by
  obtain ⟨j, rfl⟩ := Int.eq_ofNat_of_zero_le h
  unfold cutV
  rw [List.length_take, HT.sIx_nat, show ((j : Int) + 1) = ((j + 1 : Nat) : Int) from rfl, HT.sIx_nat]
  omega
theorem Kp.keep {b p : Addr} {H1 H2 : Hp} {o : HO} (k : Kp b H1 H2) (n : p ≠ b) (h : H1 p = some o) : H2 p = some o := k.hd h n
theorem new_ne {b c p : Addr} {H : Hp} (B : Bag H b c) (h0 : H p = none) : p ≠ b := fun e => by
  obtain ⟨xb, eb⟩ := B.at
  rw [e, eb] at h0; cases h0
theorem rep_strs (n : Nat) (z : Str) : (List.replicate n [V.str z]).flatten = (List.replicate n z).map V.str := by
  induction n with
  | zero => rfl
  | succ n ih => rw [List.replicate_succ, List.flatten_cons, ih, List.replicate_succ]; rfl
theorem rep_short {n m : Nat} {z : Str} (h : z.length ≤ m) : ∀ y ∈ List.replicate n z, y.length ≤ m := fun y hy => by
  rw [(List.mem_replicate.mp hy).2]; exact h
end LK

set_option Elab.async false
set_option linter.all false
set_option maxRecDepth 100000
namespace LK
open PySem PySem.Spec PyProof.Rows L2
local macro_rules | `(tactic| walk_at "rs") => `(tactic| simp only [cxK, cxNK, tCallZ, tAsg, tOp, rI0, rS0, rB0, rI, rU, tUn, rEq, rNe, rIxL, rIxT, rIxS, rSetL, rSlLU, rSlS, rSlU, rCatL, rCatU, rRepL, rIn, tVar, tC, gName, gSub, tIfS, tTest, tB, tAnd, tOr, tNot, tNotV, tAndV, tOrV, tIf, tCall, tCons, tNil, tCB, tDrop, tRet, tRetN, tNext, tLstU, tTupU, tM0, tM1, tPar, tPar3, tAug, ipI, tBM, tBM0, rAppend, rPop, tBreak, tCont, tChain, tSl, tPart, tNoPart, L2.start, List.map, List.length_cons, List.length_nil, List.replicate, List.cons_append, List.nil_append, List.append_nil, List.getElem?_cons_zero, List.getElem?_cons_succ, List.set_cons_zero, List.set_cons_succ, Option.some.injEq, V.int.injEq, V.ref.injEq, V.str.injEq, V.bl.injEq, exists_eq_left', exists_eq_left, exists_and_left, decide_eq_true_eq, List.cons.injEq, and_true, true_and, scal, Bool.not_eq_true', decide_eq_false_iff_not, Nat.zero_add, Nat.reduceAdd, Nat.reduceSub, reduceCtorEq, false_and, exists_false, false_or, or_false, CPow, CMul, CDiv, Int.reduceToNat, ↓reduceIte, wipe, sw, List.nil_append, List.singleton_append])
local macro_rules | `(tactic| walk_at "st") => `(tactic| (refine seq_op fun N hN => ?_; walk_at "rs"))
local macro_rules | `(tactic| walk_at "sd") => `(tactic| first | assumption | decide | omega)
local macro_rules | `(tactic| walk_at "rd") => `(tactic| repeat (first
  | refine ⟨_, SqL.of (by assumption), ?_⟩ | refine ⟨_, SqL.of upd_same, ?_⟩ | refine ⟨_, .inl (SqL.of (by assumption)), ?_⟩ | refine ⟨_, (by assumption : _ = some (HO.lst _)), ?_⟩ | refine ⟨_, upd_same, ?_⟩
  | refine ⟨_, rfl, ?_⟩ | refine And.intro (by walk_at "sd") ?_))

theorem dep_tup (ds : List PyData) : dep (.tuple ds) = depAll ds + 1 := rfl
theorem dep_lst (ds : List PyData) : dep (.list ds) = depAll ds + 1 := rfl
theorem depAll_get : ∀ {ds : List PyData} {i : Nat} {d : PyData}, ds[i]? = some d → dep d ≤ depAll ds
  | [], _, _, e => by simp at e
  | a :: r, 0, _, e => by simp at e; subst e; exact Nat.le_max_left _ _
  | a :: r, i + 1, _, e => Nat.le_trans (depAll_get (ds := r) (i := i) (by simpa using e)) (Nat.le_max_right _ _)
theorem dpa_get4 {K : PySem.W.Frag} {H : Hp} : ∀ {vs : List V} {ds : List PyData} {i : Nat} {v : V}, DpAll K H vs ds → vs[i]? = some v → ∃ d, ds[i]? = some d ∧ Dp K H v d
  | _, _, _, _, .nil, e => by simp at e
  | _, _, 0, _, .cons r _, e => by simp at e; subst e; exact ⟨_, rfl, r⟩
  | _, _, i + 1, _, .cons _ t, e => by
    obtain ⟨d, h1, h2⟩ := dpa_get4 (i := i) t (by simpa using e)
    exact ⟨d, by simpa using h1, h2⟩
theorem dpa_len4 {K : PySem.W.Frag} {H : Hp} : ∀ {vs : List V} {ds : List PyData}, DpAll K H vs ds → vs.length = ds.length
  | _, _, .nil => rfl
  | _, _, .cons _ t => by simp [dpa_len4 t]
theorem ok_get4 : ∀ {ds : List PyData} {i : Nat} {d : PyData}, okAll ds = true → ds[i]? = some d → okD d = true
  | [], _, _, _, e => by simp at e
  | a :: r, 0, _, h, e => by
    simp at e; subst e
    unfold okAll at h; rw [Bool.and_eq_true] at h; exact h.1
  | a :: r, i + 1, _, h, e => by
    unfold okAll at h; rw [Bool.and_eq_true] at h
    exact ok_get4 (i := i) h.2 (by simpa using e)
theorem isTy_leaf {d : PyData} (h1 : ∀ ds, d ≠ .list ds) (h2 : ∀ ds, d ≠ .tuple ds) : isTy "list" d = false ∧ isTy "tuple" d = false := by
  cases d <;> simp [isTy] <;> first | exact absurd rfl (h1 _) | exact absurd rfl (h2 _)
theorem walk_zipT {K : PySem.W.Frag} {a b : Addr} {xs ys : List V} {n : Nat} (hx : xs.length = n) (hy : ys.length = n) : Walk (RZ.ItzT K a b) n (fun H => SqT K H a xs ∧ SqT K H b ys) (YPair (fun i => xs[i]?) (fun i => ys[i]?)) := by
  refine ⟨fun i _ hi q => ?_, fun _ q => ⟨xs, ys, q.1, q.2, by omega⟩, fun i H v H' _ q y => ?_⟩
  · have h1 : i < xs.length := by omega
    have h2 : i < ys.length := by omega
    exact ⟨xs, ys, xs[i], ys[i], q.1, q.2, by simp [h1], by simp [h2]⟩
  · obtain ⟨T, x, z, h1, h2, h3, h4, h5⟩ := y
    exact ⟨T, x, z, h1, h2, h3, h4 xs q.1, h5 ys q.2⟩
section
variable {P : Program} {w : World} {K : PySem.W.Frag} {mg : Str → Option Value} {base : Heap}
theorem like_step (T : Txt w K mg) (n : Nat) (ih : ∀ m, m + 1 = n → FnOk P w K mg base CX0 (m + 1) T.a__law_like T.d__law_like ["got", "due"] (sp__law_like K m)) : FnOk P w K mg base CX0 (n + 1) T.a__law_like T.d__law_like ["got", "due"] (sp__law_like K n) := by
  refine T.F__law_like.ok sc__law_like (fun vs H Q E h => ?_) (fun cdv A outer s H vs Q E hr h => ?_)
  · obtain ⟨v, u, d, rfl, _⟩ := h
    rfl
  · obtain ⟨v, u, d, rfl, hv, hu, hok, hdep, k⟩ := h
    have leaf : isTy "list" d = false ∧ isTy "tuple" d = false ∨ (∃ ds, (d = .list ds ∨ d = .tuple ds)) := by
      cases d <;> first | exact .inr ⟨_, .inl rfl⟩ | exact .inr ⟨_, .inr rfl⟩ | exact .inl ⟨rfl, rfl⟩
    rcases leaf with ⟨el, et⟩ | ⟨ds, hds⟩
    · refine ⟨_, (pss_cons (ps_if (pt_val (pe_callB call_isiDT (by rfl) T.n_isinstance (by decide +kernel) (pa_cons (pv 1) (pa_cons (pe_tupU (pa_cons (pe_bltn (v := .ty "list") (u := .type "list") (by rfl) T.n_list (by decide +kernel) rfl) (pa_cons (pe_bltn (v := .ty "tuple") (u := .type "tuple") (by rfl) T.n_tuple (by decide +kernel) rfl) pa_nil))) pa_nil)))) pss_never pss_nil) (pss_cons (ps_if (PW.pt (pw_or (pt_cmpR op_isN (pv 1) pe_non (nomark _)) (pw_or1 (pt_cmpR op_isN (pv 0) pe_non (nomark _))))) (pss_one (ps_ret (pe_and (pe_cmpR op_isN (pv 1) pe_non (nomark _)) (pe_one (pe_cmpR op_isN (pv 0) pe_non (nomark _)))))) pss_nil)
      (pss_cons (ps_if (PW.pt (pw_or (pt_val (pe_callB call_isiDT (by rfl) T.n_isinstance (by decide +kernel) (pa_cons (pv 0) (pa_cons (pe_tupU (pa_cons (pe_bltn (v := .ty "list") (u := .type "list") (by rfl) T.n_list (by decide +kernel) rfl) (pa_cons (pe_bltn (v := .ty "tuple") (u := .type "tuple") (by rfl) T.n_tuple (by decide +kernel) rfl) pa_nil))) pa_nil)))) (pw_or1 (pt_cmpR op_neB (pe_callB (call_isiDK (K := K) rfl) (by rfl) T.n_isinstance (by decide +kernel) (pa_cons (pv 0) (pa_cons (pe_bltn (v := .ty "bool") (u := .type "bool") (by rfl) T.n_bool (by decide +kernel) rfl) pa_nil))) (pe_callB (call_isiDK (K := K) rfl) (by rfl) T.n_isinstance (by decide +kernel) (pa_cons (pv 1) (pa_cons (pe_bltn (v := .ty "bool") (u := .type "bool") (by rfl) T.n_bool (by decide +kernel) rfl) pa_nil))) (nomark _))))) (pss_one (ps_ret pe_bl)) pss_nil)
      (pss_cons (ps_if (PW.pt (pw_or (pt_cmpR op_neB (pe_callB (call_isiDK (K := K) rfl) (by rfl) T.n_isinstance (by decide +kernel) (pa_cons (pv 0) (pa_cons (pe_bltn (v := .ty "str") (u := .type "str") (by rfl) T.n_str (by decide +kernel) rfl) pa_nil))) (pe_callB (call_isiDK (K := K) rfl) (by rfl) T.n_isinstance (by decide +kernel) (pa_cons (pv 1) (pa_cons (pe_bltn (v := .ty "str") (u := .type "str") (by rfl) T.n_str (by decide +kernel) rfl) pa_nil))) (nomark _)) (pw_or1 (pt_cmpR op_neB (pe_callB (call_isiDK (K := K) rfl) (by rfl) T.n_isinstance (by decide +kernel) (pa_cons (pv 0) (pa_cons (pe_bltn (v := .ty "int") (u := .type "int") (by rfl) T.n_int (by decide +kernel) rfl) pa_nil))) (pe_callB (call_isiDK (K := K) rfl) (by rfl) T.n_isinstance (by decide +kernel) (pa_cons (pv 1) (pa_cons (pe_bltn (v := .ty "int") (u := .type "int") (by rfl) T.n_int (by decide +kernel) rfl) pa_nil))) (nomark _))))) (pss_one (ps_ret pe_bl)) pss_nil)
      (pss_one (ps_ret (pe_cmpR op_eq (pv 0) (pv 1) (nomark _)))))))), ?_⟩
      refine seq_op fun N hN => ?_
      walk_at "rs"
      refine ⟨by decide, fun p H1 s1 h0 h1 => ⟨_, p, ⟨rfl, rfl⟩, h1, _, dp_same s1 hu, iteFF (by rw [el, et]; decide) (hN _ _ ?_)⟩⟩
      clear hN N h1
      have hv1 := dp_same s1 hv
      have hu1 := dp_same s1 hu
      have k1 := fun H' (s : Same H1 H') => k H' (Same.trans s1 s)
      refine seq_op fun N hN => ?_
      walk_at "rs"
      by_cases cn : d = .none
      · subst cn
        cases hu
        cases hv
        exact iteTT rfl (iteTT rfl (k1 H1 (Same.refl _)))
      · have vn : v ≠ .non := fun e => by subst e; cases hv; exact cn rfl
        have un : u ≠ .non := fun e => by subst e; cases hu; exact cn rfl
        refine iteFF un (iteFF vn (hN _ _ ?_))
        clear hN N
        refine seq_op fun N hN => ?_
        walk_at "rs"
        refine ⟨by decide, fun p2 H2 s2 h02 h12 => ⟨_, p2, ⟨rfl, rfl⟩, h12, _, dp_same s2 hv1, iteFF (by rw [el, et]; decide) ?_⟩⟩
        refine ⟨_, "bool", ⟨rfl, rfl⟩, _, dp_same s2 hv1, by simp, _, "bool", ⟨rfl, rfl⟩, _, dp_same s2 hu1, by simp, iteFF (by simp) (hN _ _ ?_)⟩
        clear hN N
        refine seq_op fun N hN => ?_
        walk_at "rs"
        refine ⟨_, "str", ⟨rfl, rfl⟩, _, dp_same s2 hv1, by simp, _, "str", ⟨rfl, rfl⟩, _, dp_same s2 hu1, by simp, iteFF (by simp) ?_⟩
        refine ⟨_, "int", ⟨rfl, rfl⟩, _, dp_same s2 hv1, by simp, _, "int", ⟨rfl, rfl⟩, _, dp_same s2 hu1, by simp, iteFF (by simp) (hN _ _ ?_)⟩
        clear hN N
        walk_at "rs"
        have kk := k1 H2 s2
        have fin : scal v u = true ∧ Q (.bl (decide (v = u))) H2 := by
          cases hv with
          | non => exact absurd rfl cn
          | bl b => cases hu; exact ⟨rfl, by rw [decide_eq_true rfl]; exact kk⟩
          | int b => cases hu; exact ⟨rfl, by rw [decide_eq_true rfl]; exact kk⟩
          | str b => cases hu; exact ⟨rfl, by rw [decide_eq_true rfl]; exact kk⟩
          | lst _ _ => simp [isTy] at el
          | tup _ _ => simp [isTy] at et
        exact fin
    · obtain ⟨m, rfl⟩ : ∃ m, n = m + 1 := by
        rcases hds with rfl | rfl
        · rw [dep_lst] at hdep; exact ⟨n - 1, by omega⟩
        · rw [dep_tup] at hdep; exact ⟨n - 1, by omega⟩
      have hr__law_like : Room (m + 1) _ := hr
      have G__law_like := ih m rfl
      have hdm : depAll ds ≤ m := by
        rcases hds with rfl | rfl
        · rw [dep_lst] at hdep; omega
        · rw [dep_tup] at hdep; omega
      refine ⟨_, (pss_cons (ps_if (pt_val (pe_callB call_isiDT (by rfl) T.n_isinstance (by decide +kernel) (pa_cons (pv 1) (pa_cons (pe_tupU (pa_cons (pe_bltn (v := .ty "list") (u := .type "list") (by rfl) T.n_list (by decide +kernel) rfl) (pa_cons (pe_bltn (v := .ty "tuple") (u := .type "tuple") (by rfl) T.n_tuple (by decide +kernel) rfl) pa_nil))) pa_nil)))) (pss_cons (ps_if (PW.pt (pw_or (pt_cmpR op_neB (pe_callB (call_isiDK (K := K) rfl) (by rfl) T.n_isinstance (by decide +kernel) (pa_cons (pv 0) (pa_cons (pe_bltn (v := .ty "list") (u := .type "list") (by rfl) T.n_list (by decide +kernel) rfl) pa_nil))) (pe_callB (call_isiDK (K := K) rfl) (by rfl) T.n_isinstance (by decide +kernel) (pa_cons (pv 1) (pa_cons (pe_bltn (v := .ty "list") (u := .type "list") (by rfl) T.n_list (by decide +kernel) rfl) pa_nil))) (nomark _)) (pw_or1 (pt_cmpR op_neB (pe_callB (call_isiDK (K := K) rfl) (by rfl) T.n_isinstance (by decide +kernel) (pa_cons (pv 0) (pa_cons (pe_bltn (v := .ty "tuple") (u := .type "tuple") (by rfl) T.n_tuple (by decide +kernel) rfl) pa_nil))) (pe_callB (call_isiDK (K := K) rfl) (by rfl) T.n_isinstance (by decide +kernel) (pa_cons (pv 1) (pa_cons (pe_bltn (v := .ty "tuple") (u := .type "tuple") (by rfl) T.n_tuple (by decide +kernel) rfl) pa_nil))) (nomark _))))) (pss_one (ps_ret pe_bl)) pss_nil)
      (pss_one (ps_ret (pe_and (pe_cmpR op_eqI (pe_callB call_lenD (by rfl) T.n_len (by decide +kernel) (pa_cons (pv 0) pa_nil)) (pe_callB call_lenD (by rfl) T.n_len (by decide +kernel) (pa_cons (pv 1) pa_nil)) (nomark _)) (pe_one (pe_callB (cr_all rfl) (by rfl) T.n_all (by decide +kernel) (pa_cons (pe_lc (own := [("one", 2), ("two", 3)]) (g := gTup K 2 (gCons (gName 2) (gCons (gName 3) (gNil)))) (tt := tYes) rfl sc__law_like.nd (RZ.pi_zipA (by rfl) T.n_zip (pa_cons (pv 0) (pa_cons (pv 1) pa_nil))) (blkOk_by (own := [("one", 2), ("two", 3)]) (N := N__law_like) (sc := defScope s__law_like) (by decide +kernel)) (fun _ _ _ _ _ => by exact (pg_tup rfl (pgs_cons (pg_name (i := 2) sc__law_like.nd rfl (Or.inl rfl)) (pgs_cons (pg_name (i := 3) sc__law_like.nd rfl (Or.inl rfl)) pgs_nil)))) (fun _ _ _ _ _ => pts_nil) (fun _ _ _ _ _ => (pe_call G__law_like hr__law_like (by rfl) T.m__law_like T.F__law_like.kp T.B__law_like .nil pass0 (pa_cons (pv 2) (pa_cons (pv 3) pa_nil))))) pa_nil))))))) pss_nil) pss_never), ?_⟩
      refine seq_op fun N hN => ?_
      clear hN
      walk_at "rs"
      refine ⟨by decide, fun p H1 s1 h0 h1 => ⟨_, p, ⟨rfl, rfl⟩, h1, _, dp_same s1 hu, iteTT (by rcases hds with rfl | rfl <;> simp [isTy]) ?_⟩⟩
      clear h1
      have hv1 := dp_same s1 hv
      have hu1 := dp_same s1 hu
      have k1 := fun H' (s : Same H1 H') => k H' (Same.trans s1 s)
      refine seq_op fun N2 hN2 => ?_
      walk_at "rs"
      refine ⟨_, "list", ⟨rfl, rfl⟩, _, hv1, by simp, _, "list", ⟨rfl, rfl⟩, _, hu1, by simp, iteFF (by simp) ?_⟩
      refine ⟨_, "tuple", ⟨rfl, rfl⟩, _, hv1, by simp, _, "tuple", ⟨rfl, rfl⟩, _, hu1, by simp, iteFF (by simp) (hN2 _ _ ?_)⟩
      clear hN2 N2
      walk_at "rs"
      have gm : ∀ (x : V) (σ0 : L2.St) (H0 : Hp) (Q0 Q1 : L2.St → Hp → Prop), (∀ σ2 H2, Q0 σ2 H2 → Q1 σ2 H2) → gTup K 2 (gCons (gName 2) (gCons (gName 3) gNil)) x σ0 H0 Q0 → gTup K 2 (gCons (gName 2) (gCons (gName 3) gNil)) x σ0 H0 Q1 :=
        fun x σ0 H0 Q0 Q1 h ⟨a, xs, e1, e2, e3, v, r, e4, v2, r2, e5, e6, q⟩ => ⟨a, xs, e1, e2, e3, v, r, e4, v2, r2, e5, e6, h _ _ q⟩
      have turn : ∀ {xs ys : List V} (hx : DpAll K H1 xs ds) (hy : DpAll K H1 ys ds) (i : Nat) (x : V) (H2 H' : Hp), Same H1 H2 → YPair (fun i => xs[i]?) (fun i => ys[i]?) i H2 x H' →
          gTup K 2 (gCons (gName 2) (gCons (gName 3) gNil)) x (wipe [some v, some u, none, none] [2, 3]) H' fun σ2 H3 => Same H2 H3 ∧ wipe σ2 [2, 3] = wipe [some v, some u, none, none] [2, 3] ∧ ∀ Q2 : V → Hp → Prop, (∀ H4, Same H3 H4 → Q2 (.bl true) H4) → tCall (sp__law_like K m) [] E0 (tCons (tVar 2) (tCons (tVar 3) tNil)) σ2 H3 Q2 := by
        rintro xs ys hx hy i x H2 H' s2 ⟨T0, y1, y2, rfl, hT, rfl, h1, h2⟩
        obtain ⟨d1, e1, hd1⟩ := dpa_get4 hx h1
        obtain ⟨d2, e2, hd2⟩ := dpa_get4 hy h2
        rw [e1] at e2
        cases e2
        have s3 := Same.trans s2 (same_upd (o := .tup [y1, y2]) hT)
        refine ⟨T0, [y1, y2], rfl, .inl (.inl upd_same), rfl, y1, [y2], rfl, y2, [], rfl, rfl, same_upd hT, rfl, fun Q2 hq => ?_⟩
        refine ⟨_, rfl, _, rfl, y1, y2, d1, rfl, dp_same s3 hd1, dp_same s3 hd2, ?_, Nat.le_trans (depAll_get e1) hdm, hq⟩
        refine ok_get4 ?_ e1
        rcases hds with rfl | rfl
        · exact (okD_lst.mp hok).2
        · exact (okD_tup.mp hok).2
      have fin : ∀ {D : Addr} {H' : Hp} {n : Nat}, Same H1 H' → H' D = some (.lst ((List.range n).map fun _ => V.bl true)) → rAll K [V.ref D] H' Q := by
        intro D H' n s h
        refine ⟨D, (List.range n).map fun _ => true, rfl, SqL.of (by rw [h, List.map_map]; rfl), ?_⟩
        rw [all_map_id]
        have e : ((List.range n).all fun _ => true) = true := by simp
        rw [e]
        exact k1 H' s
      refine ⟨_, hv1, .inl ⟨ds, hds, _, hu1, .inl ⟨ds, hds, iteTT rfl ?_⟩⟩⟩
      rcases hds with rfl | rfl
      · cases hv1 with
        | @lst a xs _ ha hda =>
          cases hu1 with
          | @lst b ys _ hb hdb =>
            have lx := dpa_len4 hda
            have ly := dpa_len4 hdb
            have small : ds.length ≤ 1000000 := Nat.le_trans (okD_lst.mp hok).1 (by decide)
            exact ⟨_, rfl, _, rfl, a, b, xs, ys, rfl, .inl ⟨ha, hb, fun D hD => lc_pure (walk_zip (n := ds.length) (by omega)) hD small (fun _ => .bl true) (fun H s => ⟨Same.seq s ha, Same.seq s hb⟩) (fun i x H2 H' _ s2 y => turn hda hdb i x H2 H' s2 y) gm fun H' s h => fin s h⟩⟩
      · cases hv1 with
        | @tup a xs _ ha hda =>
          cases hu1 with
          | @tup b ys _ hb hdb =>
            have lx := dpa_len4 hda
            have ly := dpa_len4 hdb
            have small : ds.length ≤ 1000000 := Nat.le_trans (okD_tup.mp hok).1 (by decide)
            exact ⟨_, rfl, _, rfl, a, b, xs, ys, rfl, .inr ⟨ha, hb, fun D hD => lc_pure (walk_zipT (n := ds.length) lx ly) hD small (fun _ => .bl true) (fun H s => ⟨Same.seqT s ha, Same.seqT s hb⟩) (fun i x H2 H' _ s2 y => turn hda hdb i x H2 H' s2 y) gm fun H' s h => fin s h⟩⟩
theorem ok__law_like (T : Txt w K mg) : ∀ n : Nat, FnOk P w K mg base CX0 (n + 1) T.a__law_like T.d__law_like ["got", "due"] (sp__law_like K n) := by
  intro n
  induction n with
  | zero => exact like_step T 0 fun m e => by omega
  | succ n ih =>
    refine like_step T (n + 1) fun m e => ?_
    obtain rfl : m = n := by omega
    exact ih
end
end LK

set_option Elab.async false
set_option linter.all false
set_option maxRecDepth 100000
namespace LK
open PySem PySem.Spec PyProof.Rows L2
local macro_rules | `(tactic| walk_at "rs") => `(tactic| simp only [cxK, cxNK, tCallZ, tAsg, tOp, rI0, rS0, rB0, rI, rU, tUn, rEq, rNe, rIxL, rIxT, rIxS, rSetL, rSlLU, rSlS, rSlU, rCatL, rCatU, rRepL, rIn, tVar, tC, gName, gSub, tIfS, tTest, tB, tAnd, tOr, tNot, tNotV, tAndV, tOrV, tIf, tCall, tCons, tNil, tCB, tDrop, tRet, tRetN, tNext, tLstU, tTupU, tM0, tM1, tPar, tPar3, tAug, ipI, tBM, tBM0, rAppend, rPop, tBreak, tCont, tChain, tSl, tPart, tNoPart, L2.start, List.map, List.length_cons, List.length_nil, List.replicate, List.cons_append, List.nil_append, List.append_nil, List.getElem?_cons_zero, List.getElem?_cons_succ, List.set_cons_zero, List.set_cons_succ, Option.some.injEq, V.int.injEq, V.ref.injEq, V.str.injEq, V.bl.injEq, exists_eq_left', exists_eq_left, exists_and_left, decide_eq_true_eq, List.cons.injEq, and_true, true_and, scal, Bool.not_eq_true', decide_eq_false_iff_not, Nat.zero_add, Nat.reduceAdd, Nat.reduceSub, reduceCtorEq, false_and, exists_false, false_or, or_false, CPow, CMul, CDiv, Int.reduceToNat, ↓reduceIte, wipe, sw, List.nil_append, List.singleton_append])
local macro_rules | `(tactic| walk_at "st") => `(tactic| (refine seq_op fun N hN => ?_; walk_at "rs"))
local macro_rules | `(tactic| walk_at "sd") => `(tactic| first | assumption | decide | omega)
local macro_rules | `(tactic| walk_at "rd") => `(tactic| repeat (first
  | refine ⟨_, SqL.of (by assumption), ?_⟩ | refine ⟨_, SqL.of upd_same, ?_⟩ | refine ⟨_, .inl (SqL.of (by assumption)), ?_⟩ | refine ⟨_, (by assumption : _ = some (HO.lst _)), ?_⟩ | refine ⟨_, upd_same, ?_⟩
  | refine ⟨_, rfl, ?_⟩ | refine And.intro (by walk_at "sd") ?_))

/-- at xs the fractions fs -/
inductive Frs (K : PySem.W.Frag) (H : Hp) : List V → List Fr → Prop
  | nil : Frs K H [] []
  | cons {a : Addr} {f : Fr} {xs : List V} {fs : List Fr} : Pr K H a f.1 f.2 → Frs K H xs fs → Frs K H (.ref a :: xs) (f :: fs)
section
variable {K : PySem.W.Frag} {H H' : Hp}
theorem Frs.same (s : Same H H') : ∀ {xs : List V} {fs : List Fr}, Frs K H xs fs → Frs K H' xs fs
  | _, _, .nil => .nil
  | _, _, .cons h q => .cons (Same.seqT s h) (q.same s)
theorem Frs.len : ∀ {xs : List V} {fs : List Fr}, Frs K H xs fs → xs.length = fs.length
  | _, _, .nil => rfl
  | _, _, .cons _ q => congrArg Nat.succ q.len
theorem Frs.app : ∀ {xs ys : List V} {fs gs : List Fr}, Frs K H xs fs → Frs K H ys gs → Frs K H (xs ++ ys) (fs ++ gs)
  | _, _, _, _, .nil, r => r
  | _, _, _, _, .cons h q, r => .cons h (q.app r)
theorem Frs.drop : ∀ {xs : List V} {fs : List Fr} (n : Nat), Frs K H xs fs → Frs K H (xs.drop n) (fs.drop n)
  | _, _, 0, h => h
  | _, _, _ + 1, .nil => .nil
  | _, _, n + 1, .cons _ q => q.drop n
theorem Frs.take : ∀ {xs : List V} {fs : List Fr} (n : Nat), Frs K H xs fs → Frs K H (xs.take n) (fs.take n)
  | _, _, 0, _ => .nil
  | _, _, _ + 1, .nil => .nil
  | _, _, n + 1, .cons h q => .cons h (q.take n)
theorem Frs.get : ∀ {xs : List V} {fs : List Fr} {n : Nat}, Frs K H xs fs → n < fs.length → ∃ a f, xs[n]? = some (.ref a) ∧ fs[n]? = some f ∧ Pr K H a f.1 f.2
  | _, _, _, .nil, h => absurd h (Nat.not_lt_zero _)
  | _, _, 0, .cons h _, _ => ⟨_, _, rfl, rfl, h⟩
  | _, _, n + 1, .cons _ q, h => by
    obtain ⟨a, f, h1, h2, h3⟩ := q.get (n := n) (Nat.lt_of_succ_lt_succ h)
    exact ⟨a, f, h1, h2, h3⟩
theorem Frs.get' {xs : List V} {fs : List Fr} {n : Nat} {v : V} (q : Frs K H xs fs) (h : xs[n]? = some v) : ∃ a f, v = .ref a ∧ fs[n]? = some f ∧ Pr K H a f.1 f.2 := by
  obtain ⟨a, f, h1, h2, h3⟩ := q.get (n := n) (by rw [← q.len]; exact (List.getElem?_eq_some_iff.mp h).1)
  rw [h] at h1
  exact ⟨a, f, Option.some.inj h1, h2, h3⟩
theorem Frs.one {a : Addr} {f : Fr} (h : Pr K H a f.1 f.2) : Frs K H [.ref a] [f] := .cons h .nil
end
theorem seqT_upd {K : PySem.W.Frag} {H : Hp} {a p : Addr} {xs ys : List V} {o : HO} (hp : H p = some (.lst ys)) (h : SqT K H a xs) : SqT K (L2.upd H p o) a xs := by
  rcases h with (h | ⟨u, h⟩) | h
  · refine .inl (.inl ?_)
    rw [upd_ne]; exact h
    intro e; rw [e, hp] at h; cases h
  · refine .inl (.inr ⟨u, ?_⟩)
    rw [upd_ne]; exact h
    intro e; rw [e, hp] at h; cases h
  · exact .inr h
theorem Frs.upd {K : PySem.W.Frag} {H : Hp} {p : Addr} {ys : List V} {o : HO} (hp : H p = some (.lst ys)) : ∀ {xs : List V} {fs : List Fr}, Frs K H xs fs → Frs K (L2.upd H p o) xs fs
  | _, _, .nil => .nil
  | _, _, .cons h q => .cons (seqT_upd hp h) (q.upd hp)
end LK

set_option Elab.async false
set_option linter.all false
set_option maxRecDepth 100000
namespace LK
open PySem PySem.Spec PyProof.Rows L2
local macro_rules | `(tactic| walk_at "rs") => `(tactic| simp only [cxK, cxNK, tCallZ, tAsg, tOp, rI0, rS0, rB0, rI, rU, tUn, rEq, rNe, rIxL, rIxT, rIxS, rSetL, rSlLU, rSlS, rSlU, rCatL, rCatU, rRepL, rIn, tVar, tC, gName, gSub, tIfS, tTest, tB, tAnd, tOr, tNot, tNotV, tAndV, tOrV, tIf, tCall, tCons, tNil, tCB, tDrop, tRet, tRetN, tNext, tLstU, tTupU, tM0, tM1, tPar, tPar3, tAug, ipI, tBM, tBM0, rAppend, rPop, tBreak, tCont, tChain, tSl, tPart, tNoPart, L2.start, List.map, List.length_cons, List.length_nil, List.replicate, List.cons_append, List.nil_append, List.append_nil, List.getElem?_cons_zero, List.getElem?_cons_succ, List.set_cons_zero, List.set_cons_succ, Option.some.injEq, V.int.injEq, V.ref.injEq, V.str.injEq, V.bl.injEq, exists_eq_left', exists_eq_left, exists_and_left, decide_eq_true_eq, List.cons.injEq, and_true, true_and, scal, Bool.not_eq_true', decide_eq_false_iff_not, Nat.zero_add, Nat.reduceAdd, Nat.reduceSub, reduceCtorEq, false_and, exists_false, false_or, or_false, CPow, CMul, CDiv, Int.reduceToNat, ↓reduceIte, wipe, sw, List.nil_append, List.singleton_append])
local macro_rules | `(tactic| walk_at "st") => `(tactic| (refine seq_op fun N hN => ?_; walk_at "rs"))
local macro_rules | `(tactic| walk_at "sd") => `(tactic| first | assumption | decide | omega)
local macro_rules | `(tactic| walk_at "rd") => `(tactic| repeat (first
  | refine ⟨_, SqL.of (by assumption), ?_⟩ | refine ⟨_, SqL.of upd_same, ?_⟩ | refine ⟨_, .inl (SqL.of (by assumption)), ?_⟩ | refine ⟨_, (by assumption : _ = some (HO.lst _)), ?_⟩ | refine ⟨_, upd_same, ?_⟩
  | refine ⟨_, rfl, ?_⟩ | refine And.intro (by walk_at "sd") ?_))

section
variable {P : Program} {w : World} {K : PySem.W.Frag} {mg : Str → Option Value} {base : Heap}
theorem ok_truth (T : Txt w K mg) : FnOk P w K mg base CX0 1 T.a_truth T.d_truth ["holds"] (fun vs H Q _ => ∃ b, vs = [.bl b] ∧ ∀ t, Pr K H t (tf b).1 (tf b).2 → Q (.ref t) H) := by
  refine T.F_truth.ok sc_truth (fun vs H Q E h => ?_) (fun cdv A outer s H vs Q E hr h => ?_)
  · obtain ⟨b, rfl, _⟩ := h
    rfl
  · obtain ⟨b, rfl, k⟩ := h
    refine ⟨_, (pss_one (ps_ret (pe_ifExp (pt_val (pv 0)) (pe_glob (v := .ref T.a_ONE) (by rfl) T.m_ONE rfl) (pe_glob (v := .ref T.a_ZERO) (by rfl) T.m_ZERO rfl)))), ?_⟩
    walk_at "rs"
    cases b
    · exact iteFF (by decide) (k _ (T.s_ZERO H))
    · exact iteTT (by decide) (k _ (T.s_ONE H))
/-- two fractions at the heap -/
def sp_rel (K : PySem.W.Frag) : Sp := fun vs H Q _ => ∃ (z : Str) (a b : Addr) (f g : Fr), vs = [.str z, .ref a, .ref b] ∧ Pr K H a f.1 f.2 ∧ Pr K H b g.1 g.2 ∧ okB 4000 f ∧ okB 4000 g ∧ ∀ H', Same H H' → Q (.bl (holdsF z f g)) H'
theorem ok_compared (T : Txt w K mg) : FnOk P w K mg base CX0 2 T.a_compared T.d_compared ["relation", "a", "b"] (sp_rel K) := by
  refine T.F_compared.ok sc_compared (fun vs H Q E h => ?_) (fun cdv A outer s H vs Q E hr h => ?_)
  · obtain ⟨z, a, b, f, g, rfl, _⟩ := h
    rfl
  · obtain ⟨z, a, b, f, g, rfl, ha, hb, hf, hg, k⟩ := h
    have hr_below : Room 1 _ := hr.mono (by decide)
    have G_below := ok_below (P := P) (base := base) T
    refine ⟨_, (pss_cons (ps_if (pt_cmpR op_eqS (pv 0) pe_str (nomark _)) (pss_one (ps_ret (pe_cmpR (op_eqD hr.units) (pv 1) (pv 2) (nomark _)))) pss_nil)
      (pss_cons (ps_if (pt_cmpR op_eqS (pv 0) pe_str (nomark _)) (pss_one (ps_ret (pe_cmpR (op_neD hr.units) (pv 1) (pv 2) (nomark _)))) pss_nil)
      (pss_cons (ps_if (pt_cmpR op_eqS (pv 0) pe_str (nomark _)) (pss_one (ps_ret (pe_call G_below hr_below (by rfl) T.m_below T.F_below.kp T.B_below .nil pass0 (pa_cons (pv 1) (pa_cons (pv 2) pa_nil))))) pss_nil)
      (pss_cons (ps_if (pt_cmpR op_eqS (pv 0) pe_str (nomark _)) (pss_one (ps_ret (pe_not (pe_call G_below hr_below (by rfl) T.m_below T.F_below.kp T.B_below .nil pass0 (pa_cons (pv 2) (pa_cons (pv 1) pa_nil)))))) pss_nil)
      (pss_cons (ps_if (pt_cmpR op_eqS (pv 0) pe_str (nomark _)) (pss_one (ps_ret (pe_call G_below hr_below (by rfl) T.m_below T.F_below.kp T.B_below .nil pass0 (pa_cons (pv 2) (pa_cons (pv 1) pa_nil))))) pss_nil)
      (pss_one (ps_ret (pe_not (pe_call G_below hr_below (by rfl) T.m_below T.F_below.kp T.B_below .nil pass0 (pa_cons (pv 1) (pa_cons (pv 2) pa_nil))))))))))), ?_⟩
    obtain ⟨f1, f2, f3, f4⟩ := hf
    obtain ⟨g1, g2, g3, g4⟩ := hg
    replace k := k H (Same.refl _)
    unfold holdsF gapF at k
    have eq : (decide (f.1 = g.1) && decide (f.2 = g.2)) = decide (f = g) := by
      rw [← Bool.decide_and]
      exact decide_eq_decide.mpr ⟨fun h => Prod.ext h.1 h.2, fun h => by rw [h]; exact ⟨rfl, rfl⟩⟩
    refine seq_op fun N hN => ?_
    walk_at "rs"
    refine ite2 (fun c => ?_) (fun c => hN _ _ ?_)
    · rw [if_pos c] at k
      refine ⟨_, .tuple [.int g.1, .int g.2], dp_pair ha, dp_pair hb, shaped2 _ _, shaped2 _ _, ?_⟩
      rw [eqv_pair, eq]; exact k
    rw [if_neg c] at k
    clear hN N
    refine seq_op fun N hN => ?_
    walk_at "rs"
    refine ite2 (fun c => ?_) (fun c => hN _ _ ?_)
    · rw [if_pos c] at k
      refine ⟨_, .tuple [.int g.1, .int g.2], dp_pair ha, dp_pair hb, shaped2 _ _, shaped2 _ _, ?_⟩
      rw [eqv_pair, eq]; exact k
    rw [if_neg c] at k
    clear hN N
    refine seq_op fun N hN => ?_
    walk_at "rs"
    refine ite2 (fun c => ?_) (fun c => hN _ _ ?_)
    · rw [if_pos c] at k
      refine ⟨_, _, ⟨rfl, rfl⟩, _, _, ha, _, _, hb, f3, f4, g3, g4, ?_⟩
      rw [show decide (f.1 * g.2 < g.1 * f.2) = decide (f.1 * g.2 - g.1 * f.2 < 0) from decide_eq_decide.mpr ⟨fun h => by omega, fun h => by omega⟩]; exact k
    rw [if_neg c] at k
    clear hN N
    refine seq_op fun N hN => ?_
    walk_at "rs"
    refine ite2 (fun c => ?_) (fun c => hN _ _ ?_)
    · rw [if_pos c] at k
      refine ⟨_, _, ⟨rfl, rfl⟩, _, _, hb, _, _, ha, g3, g4, f3, f4, ?_⟩
      rw [show decide (g.1 * f.2 < f.1 * g.2) = decide (0 < f.1 * g.2 - g.1 * f.2) from decide_eq_decide.mpr ⟨fun h => by omega, fun h => by omega⟩]; exact k
    rw [if_neg c] at k
    clear hN N
    refine seq_op fun N hN => ?_
    walk_at "rs"
    refine ite2 (fun c => ?_) (fun c => hN _ _ ?_)
    · rw [if_pos c] at k
      refine ⟨_, _, ⟨rfl, rfl⟩, _, _, hb, _, _, ha, g3, g4, f3, f4, ?_⟩
      rw [show decide (g.1 * f.2 < f.1 * g.2) = decide (0 < f.1 * g.2 - g.1 * f.2) from decide_eq_decide.mpr ⟨fun h => by omega, fun h => by omega⟩]; exact k
    rw [if_neg c] at k
    clear hN N
    walk_at "rs"
    refine ⟨_, _, ⟨rfl, rfl⟩, _, _, ha, _, _, hb, f3, f4, g3, g4, ?_⟩
    rw [show decide (f.1 * g.2 < g.1 * f.2) = decide (f.1 * g.2 - g.1 * f.2 < 0) from decide_eq_decide.mpr ⟨fun h => by omega, fun h => by omega⟩]; exact k
theorem fdiv_low (p : Int) {q : Int} (h : 1 ≤ q) : (frP p q).fdiv (frQ p q) = p.fdiv q := by
  obtain ⟨e1, e2, e3, _, _, _, e7⟩ := fr_spec p (q := q) (by omega)
  have g0 : 0 < frG p q := by unfold frG at e7 ⊢; rw [if_neg (by omega)] at e7 ⊢; omega
  rw [Int.fdiv_eq_ediv_of_nonneg _ (by omega), Int.fdiv_eq_ediv_of_nonneg _ (by omega)]
  generalize frG p q = G at *
  generalize frP p q = a at *
  generalize frQ p q = b at *
  subst e1; subst e2
  rw [Int.mul_ediv_mul_of_pos_left _ _ g0]
theorem fr_one (p : Int) : frP p 1 = p ∧ frQ p 1 = 1 := fr_low (Int.le_refl 1) (by simp)
def sp_whole (K : PySem.W.Frag) : Sp := fun vs H Q _ => ∃ (a b : Addr) (f g : Fr), vs = [.ref a, .ref b] ∧ Pr K H a f.1 f.2 ∧ Pr K H b g.1 g.2 ∧ okB 3900 f ∧ g.2 = 1 ∧ 1 ≤ g.1 ∧ g.1 ≤ 9 ∧ ∀ t H', Same H H' → H t = none → Pr K H' t (f.1.fdiv (f.2 * g.1)) 1 → Q (.ref t) H'
theorem ok_whole_quotient (T : Txt w K mg) : FnOk P w K mg base (L2.CX P w) 5 T.a_whole_quotient T.d_whole_quotient ["a", "b"] (sp_whole K) := by
  refine T.F_whole_quotient.okX sc_whole_quotient (fun vs H Q E h => ?_) (fun cdv A outer s H vs Q E hr h => ?_)
  · obtain ⟨a, b, f, g, rfl, _⟩ := h
    rfl
  · obtain ⟨a, b, f, g, rfl, ha, hb, hf, g2, g1, g9, k⟩ := h
    have hr_fraction : Room 3 _ := hr.mono (by decide)
    have G_fraction := ok_fraction (P := P) (base := base) T
    obtain ⟨fds, dv_fraction, Db_fraction⟩ := T.D_fraction
    have hr_floor_of : Room 1 _ := hr.mono (by decide)
    have G_floor_of := ok_floor_of (P := P) (base := base) T
    have hr_quotient : Room 4 _ := hr.mono (by decide)
    have G_quotient := ok_quotient (P := P) (base := base) T
    refine ⟨_, (pss_one (ps_ret (pe_call G_fraction hr_fraction (by rfl) T.m_fraction T.F_fraction.kp Db_fraction dv_fraction passL (pa_cons (pe_call G_floor_of hr_floor_of (by rfl) T.m_floor_of T.F_floor_of.kp T.B_floor_of .nil pass0 (pa_cons (pe_call G_quotient hr_quotient (by rfl) T.m_quotient T.F_quotient.kp T.B_quotient .nil passL (pa_cons (pv 0) (pa_cons (pv 1) pa_nil))) pa_nil)) pa_nil)))), ?_⟩
    walk_at "rs"
    obtain ⟨f1, f2, f3, f4⟩ := hf
    have q0 : 1 ≤ f.2 * g.1 := by
      have := Int.mul_le_mul f1 g1 (by decide) (by omega)
      omega
    have b9 : g.1.natAbs < 2 ^ 4 := by omega
    have w5 : (f.2 * g.1).natAbs < 2 ^ (3900 + 4) := wide_lt f4 b9
    have lf := pow_le f3 (show 3900 ≤ 4000 by decide)
    have lg := pow_le f4 (show 3900 ≤ 4000 by decide)
    refine ⟨a, b, f.1, f.2, g.1, g.2, rfl, ha, hb, lf, lg, pow_le b9 (by decide), by rw [g2]; exact Nat.one_lt_two_pow (by decide), by omega, by omega, by rw [g2]; simp, fun _ t H1 s1 _ h1 => ?_, fun e => absurd e (by omega)⟩
    rw [g2, Int.mul_one] at h1
    obtain ⟨e1, e2, e3, e4, e5, e6, e7⟩ := fr_spec f.1 (q := f.2 * g.1) (by omega)
    have fq := fdiv_low f.1 q0
    refine ⟨t, rfl, _, _, .inl (.inl h1), by omega, pow_le (Nat.lt_of_le_of_lt e6 w5) (by decide), ?_⟩
    rw [fq]
    have nb : (f.1.fdiv (f.2 * g.1)).natAbs < 2 ^ 4000 := by
      refine Nat.lt_of_le_of_lt ?_ lf
      rw [Int.fdiv_eq_ediv_of_nonneg _ (by omega)]
      exact Int.natAbs_ediv_le_natAbs _ _
    refine ⟨_, 1, rfl, logL nb (by decide) (by decide), by decide, fun _ t H' s2 h0 h2 => ?_, fun e => absurd e (by decide)⟩
    rw [(fr_one _).1, (fr_one _).2] at h2
    exact k t H' (Same.trans s1 s2) (Same.dom s1 t h0) (.inl (.inl h2))
end
end LK

set_option Elab.async false
set_option linter.all false
set_option maxRecDepth 100000
namespace LK
open PySem PySem.Spec PyProof.Rows L2
local macro_rules | `(tactic| walk_at "rs") => `(tactic| simp only [cxK, cxNK, tCallZ, tAsg, tOp, rI0, rS0, rB0, rI, rU, tUn, rEq, rNe, rIxL, rIxT, rIxS, rSetL, rSlLU, rSlS, rSlU, rCatL, rCatU, rRepL, rIn, tVar, tC, gName, gSub, tIfS, tTest, tB, tAnd, tOr, tNot, tNotV, tAndV, tOrV, tIf, tCall, tCons, tNil, tCB, tDrop, tRet, tRetN, tNext, tLstU, tTupU, tM0, tM1, tPar, tPar3, tAug, ipI, tBM, tBM0, rAppend, rPop, tBreak, tCont, tChain, tSl, tPart, tNoPart, L2.start, List.map, List.length_cons, List.length_nil, List.replicate, List.cons_append, List.nil_append, List.append_nil, List.getElem?_cons_zero, List.getElem?_cons_succ, List.set_cons_zero, List.set_cons_succ, Option.some.injEq, V.int.injEq, V.ref.injEq, V.str.injEq, V.bl.injEq, exists_eq_left', exists_eq_left, exists_and_left, decide_eq_true_eq, List.cons.injEq, and_true, true_and, scal, Bool.not_eq_true', decide_eq_false_iff_not, Nat.zero_add, Nat.reduceAdd, Nat.reduceSub, reduceCtorEq, false_and, exists_false, false_or, or_false, CPow, CMul, CDiv, Int.reduceToNat, ↓reduceIte, wipe, sw, List.nil_append, List.singleton_append])
local macro_rules | `(tactic| walk_at "st") => `(tactic| (refine seq_op fun N hN => ?_; walk_at "rs"))
local macro_rules | `(tactic| walk_at "sd") => `(tactic| first | assumption | decide | omega)
local macro_rules | `(tactic| walk_at "rd") => `(tactic| repeat (first
  | refine ⟨_, SqL.of (by assumption), ?_⟩ | refine ⟨_, SqL.of upd_same, ?_⟩ | refine ⟨_, .inl (SqL.of (by assumption)), ?_⟩ | refine ⟨_, (by assumption : _ = some (HO.lst _)), ?_⟩ | refine ⟨_, upd_same, ?_⟩
  | refine ⟨_, rfl, ?_⟩ | refine And.intro (by walk_at "sd") ?_))

section
variable {P : Program} {w : World} {K : PySem.W.Frag} {mg : Str → Option Value} {base : Heap}
def nineL : List Str := ["+", "-", "*", "min", "max", "and", "or", "div", "mod"]
def sp_val2 (K : PySem.W.Frag) : Sp := fun vs H Q _ => ∃ (z : Str) (a b : Addr) (f g : Fr), vs = [.str z, .ref a, .ref b] ∧ (z ∈ relL ∨ z ∈ nineL) ∧ Pr K H a f.1 f.2 ∧ Pr K H b g.1 g.2 ∧ okB 1900 f ∧ okB 1900 g ∧ (z = "div" ∨ z = "mod" → g.2 = 1 ∧ 1 ≤ g.1 ∧ g.1 ≤ 9) ∧ ∀ t H', Same H H' → Pr K H' t (opF z f g).1 (opF z f g).2 → Q (.ref t) H'
theorem opF_rel {z : Str} (h : z ∈ relL) (f g : Fr) : opF z f g = tf (holdsF z f g) := by
  have q : ∀ z ∈ relL, z ≠ "+" ∧ z ≠ "-" ∧ z ≠ "*" ∧ z ≠ "min" ∧ z ≠ "max" ∧ z ≠ "div" ∧ z ≠ "mod" ∧ z ≠ "and" ∧ z ≠ "or" := by decide +kernel
  obtain ⟨a1, a2, a3, a4, a5, a6, a7, a8, a9⟩ := q z h
  unfold opF
  rw [if_neg a1, if_neg a2, if_neg a3, if_neg a4, if_neg a5, if_neg a6, if_neg a7, if_neg a8, if_neg a9]
theorem zero_eq {m : Nat} {f : Fr} (h : okB m f) : PyData.eqv (.tuple [.int f.1, .int f.2]) (.tuple [.int 0, .int 1]) = decide (f.1 = 0) := by
  rw [eqv_pair, ← Bool.decide_and]
  refine decide_eq_decide.mpr ⟨fun q => q.1, fun q => ⟨q, ?_⟩⟩
  obtain ⟨h1, h2, _⟩ := h
  rw [q, Int.natAbs_zero, Nat.gcd_zero_left] at h2
  omega
theorem inV_rel : ∀ z ∈ relL, inV (.str z) relV = true := by decide +kernel
theorem inV_nine : ∀ z ∈ nineL, inV (.str z) relV = false := by decide +kernel
theorem ok_value_of_two (T : Txt w K mg) : FnOk P w K mg base (L2.CX P w) 6 T.a_value_of_two T.d_value_of_two ["word", "a", "b"] (sp_val2 K) := by
  refine T.F_value_of_two.okX sc_value_of_two (fun vs H Q E h => ?_) (fun cdv A outer s H vs Q E hr h => ?_)
  · obtain ⟨z, a, b, f, g, rfl, _⟩ := h
    rfl
  · obtain ⟨z, a, b, f, g, rfl, hz, ha, hb, hf, hg, hd, k⟩ := h
    have hr_below : Room 1 _ := hr.mono (by decide)
    have G_below := ok_below (P := P) (base := base) T
    have hr_truth : Room 1 _ := hr.mono (by decide)
    have G_truth := ok_truth (P := P) (base := base) T
    have hr_compared : Room 2 _ := hr.mono (by decide)
    have G_compared := ok_compared (P := P) (base := base) T
    have hr_plus : Room 4 _ := hr.mono (by decide)
    have G_plus := ok_plus (P := P) (base := base) T
    have hr_minus : Room 4 _ := hr.mono (by decide)
    have G_minus := ok_minus (P := P) (base := base) T
    have hr_times : Room 4 _ := hr.mono (by decide)
    have G_times := ok_times (P := P) (base := base) T
    have hr_whole_quotient : Room 5 _ := hr.mono (by decide)
    have G_whole_quotient := ok_whole_quotient (P := P) (base := base) T
    refine ⟨_, (pss_cons (ps_if (pt_cmpR op_in_seq (pv 0) (pe_glob (v := .ref T.a_RELATIONS) (by rfl) T.m_RELATIONS rfl) (by rfl)) (pss_one (ps_ret (pe_call G_truth hr_truth (by rfl) T.m_truth T.F_truth.kp T.B_truth .nil pass0 (pa_cons (pe_call G_compared hr_compared (by rfl) T.m_compared T.F_compared.kp T.B_compared .nil pass0 (pa_cons (pv 0) (pa_cons (pv 1) (pa_cons (pv 2) pa_nil)))) pa_nil)))) pss_nil)
      (pss_cons (ps_if (pt_cmpR op_eqS (pv 0) pe_str (nomark _)) (pss_one (ps_ret (pe_call G_plus hr_plus (by rfl) T.m_plus T.F_plus.kp T.B_plus .nil pass0 (pa_cons (pv 1) (pa_cons (pv 2) pa_nil))))) pss_nil)
      (pss_cons (ps_if (pt_cmpR op_eqS (pv 0) pe_str (nomark _)) (pss_one (ps_ret (pe_call G_minus hr_minus (by rfl) T.m_minus T.F_minus.kp T.B_minus .nil pass0 (pa_cons (pv 1) (pa_cons (pv 2) pa_nil))))) pss_nil)
      (pss_cons (ps_if (pt_cmpR op_eqS (pv 0) pe_str (nomark _)) (pss_one (ps_ret (pe_call G_times hr_times (by rfl) T.m_times T.F_times.kp T.B_times .nil pass0 (pa_cons (pv 1) (pa_cons (pv 2) pa_nil))))) pss_nil)
      (pss_cons (ps_if (pt_cmpR op_eqS (pv 0) pe_str (nomark _)) (pss_one (ps_ret (pe_ifExp (pt_val (pe_call G_below hr_below (by rfl) T.m_below T.F_below.kp T.B_below .nil pass0 (pa_cons (pv 2) (pa_cons (pv 1) pa_nil)))) (pv 2) (pv 1)))) pss_nil)
      (pss_cons (ps_if (pt_cmpR op_eqS (pv 0) pe_str (nomark _)) (pss_one (ps_ret (pe_ifExp (pt_val (pe_call G_below hr_below (by rfl) T.m_below T.F_below.kp T.B_below .nil pass0 (pa_cons (pv 1) (pa_cons (pv 2) pa_nil)))) (pv 2) (pv 1)))) pss_nil)
      (pss_cons (ps_if (pt_cmpR op_eqS (pv 0) pe_str (nomark _)) (pss_one (ps_ret (pe_call G_truth hr_truth (by rfl) T.m_truth T.F_truth.kp T.B_truth .nil pass0 (pa_cons (pe_and (pe_cmpR (op_neD hr.units) (pv 1) (pe_glob (v := .ref T.a_ZERO) (by rfl) T.m_ZERO rfl) (nomark _)) (pe_one (pe_cmpR (op_neD hr.units) (pv 2) (pe_glob (v := .ref T.a_ZERO) (by rfl) T.m_ZERO rfl) (nomark _)))) pa_nil)))) pss_nil)
      (pss_cons (ps_if (pt_cmpR op_eqS (pv 0) pe_str (nomark _)) (pss_one (ps_ret (pe_call G_truth hr_truth (by rfl) T.m_truth T.F_truth.kp T.B_truth .nil pass0 (pa_cons (pe_or (pe_cmpR (op_neD hr.units) (pv 1) (pe_glob (v := .ref T.a_ZERO) (by rfl) T.m_ZERO rfl) (nomark _)) (pe_one (pe_cmpR (op_neD hr.units) (pv 2) (pe_glob (v := .ref T.a_ZERO) (by rfl) T.m_ZERO rfl) (nomark _)))) pa_nil)))) pss_nil)
      (pss_cons (ps_if (pt_cmpR op_eqS (pv 0) pe_str (nomark _)) (pss_one (ps_ret (pe_call G_whole_quotient hr_whole_quotient (by rfl) T.m_whole_quotient T.F_whole_quotient.kp T.B_whole_quotient .nil passL (pa_cons (pv 1) (pa_cons (pv 2) pa_nil))))) pss_nil)
      (pss_one (ps_ret (pe_call G_minus hr_minus (by rfl) T.m_minus T.F_minus.kp T.B_minus .nil pass0 (pa_cons (pv 1) (pa_cons (pe_call G_times hr_times (by rfl) T.m_times T.F_times.kp T.B_times .nil pass0 (pa_cons (pv 2) (pa_cons (pe_call G_whole_quotient hr_whole_quotient (by rfl) T.m_whole_quotient T.F_whole_quotient.kp T.B_whole_quotient .nil passL (pa_cons (pv 1) (pa_cons (pv 2) pa_nil))) pa_nil))) pa_nil)))))))))))))), ?_⟩
    obtain ⟨f1, f2, f3, f4⟩ := hf
    obtain ⟨g1, g2, g3, g4⟩ := hg
    have nz : f.2 * g.2 ≠ 0 := Int.mul_ne_zero (by omega) (by omega)
    have F3 := pow_le f3 (show 1900 ≤ 4000 by decide)
    have F4 := pow_le f4 (show 1900 ≤ 4000 by decide)
    have G3 := pow_le g3 (show 1900 ≤ 4000 by decide)
    have G4 := pow_le g4 (show 1900 ≤ 4000 by decide)
    have fk : okB 4000 f := ⟨f1, f2, F3, F4⟩
    have gk : okB 4000 g := ⟨g1, g2, G3, G4⟩
    refine seq_op fun N hN => ?_
    walk_at "rs"
    refine ⟨relV, .inr (T.s_RELATIONS _), rfl, by decide +kernel, ite2 (fun c => ?_) (fun c => hN _ _ ?_)⟩
    · have hr2 : z ∈ relL := by
        rcases hz with hz | hz
        · exact hz
        · rw [inV_nine z hz] at c; cases c
      rw [opF_rel hr2] at k
      exact ⟨z, a, b, f, g, rfl, ha, hb, fk, gk, fun H1 s1 => ⟨_, rfl, fun t ht => k t H1 s1 ht⟩⟩
    clear hN N
    replace hz : z ∈ nineL := by
      rcases hz with hz | hz
      · exact absurd (inV_rel z hz) c
      · exact hz
    unfold opF gapF at k
    refine seq_op fun N hN => ?_
    walk_at "rs"
    refine ite2 (fun c => ?_) (fun c => hN _ _ ?_)
    · rw [if_pos c] at k
      exact ⟨a, b, _, _, _, _, rfl, ha, hb, F3, F4, G3, G4, nz, fun t H' s1 _ h1 => k t H' s1 (.inl (.inl h1))⟩
    rw [if_neg c] at k
    clear hN N
    refine seq_op fun N hN => ?_
    walk_at "rs"
    refine ite2 (fun c => ?_) (fun c => hN _ _ ?_)
    · rw [if_pos c] at k
      exact ⟨a, b, _, _, _, _, rfl, ha, hb, F3, F4, G3, G4, nz, fun t H' s1 _ h1 => k t H' s1 (.inl (.inl h1))⟩
    rw [if_neg c] at k
    clear hN N
    refine seq_op fun N hN => ?_
    walk_at "rs"
    refine ite2 (fun c => ?_) (fun c => hN _ _ ?_)
    · rw [if_pos c] at k
      exact ⟨a, b, _, _, _, _, rfl, ha, hb, F3, F4, G3, G4, nz, fun t H' s1 _ h1 => k t H' s1 (.inl (.inl h1))⟩
    rw [if_neg c] at k
    clear hN N
    refine seq_op fun N hN => ?_
    walk_at "rs"
    refine ite2 (fun c => ?_) (fun c => hN _ _ ?_)
    · rw [if_pos c] at k
      refine ⟨_, _, ⟨rfl, rfl⟩, _, _, hb, _, _, ha, G3, G4, F3, F4, ite2 (fun d => ?_) (fun d => ?_)⟩
      · rw [if_pos (by omega)] at k; exact k b H (Same.refl _) hb
      · rw [if_neg (by omega)] at k; exact k a H (Same.refl _) ha
    rw [if_neg c] at k
    clear hN N
    refine seq_op fun N hN => ?_
    walk_at "rs"
    refine ite2 (fun c => ?_) (fun c => hN _ _ ?_)
    · rw [if_pos c] at k
      refine ⟨_, _, ⟨rfl, rfl⟩, _, _, ha, _, _, hb, F3, F4, G3, G4, ite2 (fun d => ?_) (fun d => ?_)⟩
      · rw [if_pos (by omega)] at k; exact k b H (Same.refl _) hb
      · rw [if_neg (by omega)] at k; exact k a H (Same.refl _) ha
    rw [if_neg c] at k
    clear hN N
    refine seq_op fun N hN => ?_
    walk_at "rs"
    refine ite2 (fun c => ?_) (fun c => hN _ _ ?_)
    · subst c
      rw [if_neg (by decide), if_neg (by decide), if_pos rfl] at k
      have kb : ∀ (b : Bool), b = (decide (f.1 ≠ 0) && decide (g.1 ≠ 0)) → ∀ t, Pr K H t (tf b).1 (tf b).2 → Q (.ref t) H := fun b e t ht => by subst e; exact k t H (Same.refl _) ht
      refine ⟨_, .tuple [.int 0, .int 1], dp_pair ha, dp_pair (T.s_ZERO H), shaped2 _ _, shaped2 _ _, _, rfl, ite2 (fun d => ?_) (fun d => ?_)⟩
      · rw [zero_eq fk] at d
        refine ⟨_, .tuple [.int 0, .int 1], dp_pair hb, dp_pair (T.s_ZERO H), shaped2 _ _, shaped2 _ _, _, rfl, kb _ ?_⟩
        rw [zero_eq gk]
        simp at d
        simp [d]
      · rw [zero_eq fk] at d
        refine kb _ ?_
        simp at d
        simp [d]
    clear hN N
    refine seq_op fun N hN => ?_
    walk_at "rs"
    refine ite2 (fun c => ?_) (fun c => hN _ _ ?_)
    · subst c
      rw [if_neg (by decide), if_neg (by decide), if_neg (by decide), if_pos rfl] at k
      have kb : ∀ (b : Bool), b = (decide (f.1 ≠ 0) || decide (g.1 ≠ 0)) → ∀ t, Pr K H t (tf b).1 (tf b).2 → Q (.ref t) H := fun b e t ht => by subst e; exact k t H (Same.refl _) ht
      refine ⟨_, .tuple [.int 0, .int 1], dp_pair ha, dp_pair (T.s_ZERO H), shaped2 _ _, shaped2 _ _, _, rfl, ite2 (fun d => ?_) (fun d => ?_)⟩
      · rw [zero_eq fk] at d
        refine kb _ ?_
        simp at d
        simp [d]
      · rw [zero_eq fk] at d
        refine ⟨_, .tuple [.int 0, .int 1], dp_pair hb, dp_pair (T.s_ZERO H), shaped2 _ _, shaped2 _ _, _, rfl, kb _ ?_⟩
        rw [zero_eq gk]
        simp at d
        simp [d]
    clear hN N
    refine seq_op fun N hN => ?_
    walk_at "rs"
    refine ite2 (fun c => ?_) (fun c => hN _ _ ?_)
    · subst c
      rw [if_pos rfl] at k
      obtain ⟨d1, d2, d3⟩ := hd (.inl rfl)
      exact ⟨a, b, f, g, rfl, ha, hb, ⟨f1, f2, pow_le f3 (by decide), pow_le f4 (by decide)⟩, d1, d2, d3, fun t H' s1 _ h1 => k t H' s1 h1⟩
    clear hN N
    walk_at "rs"
    have e : z = "mod" := by
      have q : ∀ z ∈ nineL, z = "+" ∨ z = "-" ∨ z = "*" ∨ z = "min" ∨ z = "max" ∨ z = "and" ∨ z = "or" ∨ z = "div" ∨ z = "mod" := by decide +kernel
      rcases q z hz with e | e | e | e | e | e | e | e | e <;> first | exact e | exact absurd e (by assumption)
    subst e
    rw [if_neg (by decide), if_pos rfl] at k
    obtain ⟨d1, d2, d3⟩ := hd (.inr rfl)
    have q0 : 1 ≤ f.2 * g.1 := by
      have := Int.mul_le_mul f1 d2 (by decide) (by omega)
      omega
    have nb : (f.1.fdiv (f.2 * g.1)).natAbs < 2 ^ 1900 := by
      refine Nat.lt_of_le_of_lt ?_ f3
      rw [Int.fdiv_eq_ediv_of_nonneg _ (by omega)]
      exact Int.natAbs_ediv_le_natAbs _ _
    obtain ⟨n, hn⟩ : ∃ n, n = f.1.fdiv (f.2 * g.1) := ⟨_, rfl⟩
    rw [← hn] at k nb
    refine ⟨a, b, f, g, rfl, ha, hb, ⟨f1, f2, pow_le f3 (by decide), pow_le f4 (by decide)⟩, d1, d2, d3, fun t1 H1 s1 _ h1 => ?_⟩
    rw [← hn] at h1
    refine ⟨b, t1, _, _, _, _, rfl, Same.seqT s1 hb, h1, G3, G4, pow_le nb (by decide), Nat.one_lt_two_pow (by decide), by show g.2 * 1 ≠ 0; rw [d1]; decide, fun t2 H2 s2 _ h2 => ?_⟩
    rw [d1] at h2
    dsimp only at h2
    rw [Int.mul_one, (fr_one _).1, (fr_one _).2] at h2
    have gn : (g.1 * n).natAbs < 2 ^ (4 + 1900) := wide_lt (show g.1.natAbs < 2 ^ 4 by omega) nb
    refine ⟨a, t2, _, _, _, _, rfl, Same.seqT s2 (Same.seqT s1 ha), .inl (.inl h2), F3, F4, pow_le gn (by decide), Nat.one_lt_two_pow (by decide), by show f.2 * 1 ≠ 0; rw [Int.mul_one]; omega, fun t H' s3 _ h3 => ?_⟩
    refine k t H' (Same.trans s1 (Same.trans s2 s3)) (.inl (.inl ?_))
    dsimp only at h3
    rw [Int.mul_one, Int.mul_one] at h3
    show H' t = some (.tup [.int (frP _ _), .int (frQ _ _)])
    rw [Int.mul_comm n g.1]
    exact h3
end
end LK

set_option Elab.async false
set_option linter.all false
set_option maxRecDepth 100000
namespace LK
open PySem PySem.Spec PyProof.Rows L2
local macro_rules | `(tactic| walk_at "rs") => `(tactic| simp only [cxK, cxNK, tCallZ, tAsg, tOp, rI0, rS0, rB0, rI, rU, tUn, rEq, rNe, rIxL, rIxT, rIxS, rSetL, rSlLU, rSlS, rSlU, rCatL, rCatU, rRepL, rIn, tVar, tC, gName, gSub, tIfS, tTest, tB, tAnd, tOr, tNot, tNotV, tAndV, tOrV, tIf, tCall, tCons, tNil, tCB, tDrop, tRet, tRetN, tNext, tLstU, tTupU, tM0, tM1, tPar, tPar3, tAug, ipI, tBM, tBM0, rAppend, rPop, tBreak, tCont, tChain, tSl, tPart, tNoPart, L2.start, List.map, List.length_cons, List.length_nil, List.replicate, List.cons_append, List.nil_append, List.append_nil, List.getElem?_cons_zero, List.getElem?_cons_succ, List.set_cons_zero, List.set_cons_succ, Option.some.injEq, V.int.injEq, V.ref.injEq, V.str.injEq, V.bl.injEq, exists_eq_left', exists_eq_left, exists_and_left, decide_eq_true_eq, List.cons.injEq, and_true, true_and, scal, Bool.not_eq_true', decide_eq_false_iff_not, Nat.zero_add, Nat.reduceAdd, Nat.reduceSub, reduceCtorEq, false_and, exists_false, false_or, or_false, CPow, CMul, CDiv, Int.reduceToNat, ↓reduceIte, wipe, sw, List.nil_append, List.singleton_append])
local macro_rules | `(tactic| walk_at "st") => `(tactic| (refine seq_op fun N hN => ?_; walk_at "rs"))
local macro_rules | `(tactic| walk_at "sd") => `(tactic| first | assumption | decide | omega)
local macro_rules | `(tactic| walk_at "rd") => `(tactic| repeat (first
  | refine ⟨_, SqL.of (by assumption), ?_⟩ | refine ⟨_, SqL.of upd_same, ?_⟩ | refine ⟨_, .inl (SqL.of (by assumption)), ?_⟩ | refine ⟨_, (by assumption : _ = some (HO.lst _)), ?_⟩ | refine ⟨_, upd_same, ?_⟩
  | refine ⟨_, rfl, ?_⟩ | refine And.intro (by walk_at "sd") ?_))

/-- what stands at the heap for an entry -/
def EntAt (K : PySem.W.Frag) (H : Hp) : Option V → Option Fr → Prop
  | none, none => True
  | some v, some f => ∃ a, v = .ref a ∧ Pr K H a f.1 f.2
  | _, _ => False
/-- the entries of a dict of fractions -/
def Ents (K : PySem.W.Frag) (H : Hp) (kvs : List (Key × V)) : Prop := ∀ p ∈ kvs, ∃ z a f, p = ((.inr z : Key), V.ref a) ∧ okB 64 f ∧ Pr K H a f.1 f.2
structure DT (K : PySem.W.Frag) (H : Hp) (d : Addr) (kvs : List (Key × V)) (tab : Str → Option Fr) : Prop where
  at_ : H d = some (.dK kvs)
  len : kvs.length ≤ 60
  ents : Ents K H kvs
  tab : ∀ z, EntAt K H (valV kvs (.inr z)) (tab z)
section
variable {K : PySem.W.Frag} {H H' : Hp} {d : Addr} {kvs : List (Key × V)} {tab : Str → Option Fr}
theorem EntAt.same (s : Same H H') : ∀ {o : Option V} {u : Option Fr}, EntAt K H o u → EntAt K H' o u
  | none, none, _ => trivial
  | some _, some _, ⟨a, h1, h2⟩ => ⟨a, h1, Same.seqT s h2⟩
theorem DT.same (s : Same H H') (D : DT K H d kvs tab) : DT K H' d kvs tab where
  at_ := s _ _ D.at_
  len := D.len
  ents := fun p hp => by
    obtain ⟨z, a, f, h1, h2, h3⟩ := D.ents p hp
    exact ⟨z, a, f, h1, h2, Same.seqT s h3⟩
  tab := fun z => (D.tab z).same s
theorem DT.get (D : DT K H d kvs tab) {z : Str} {f : Fr} (h : tab z = some f) : ∃ a, valV kvs (.inr z) = some (.ref a) ∧ Pr K H a f.1 f.2 := by
  have := D.tab z
  rw [h] at this
  cases e : valV kvs (.inr z) with
  | none => rw [e] at this; exact this.elim
  | some v =>
    rw [e] at this
    obtain ⟨a, rfl, h2⟩ := this
    exact ⟨a, rfl, h2⟩
theorem DT.has (D : DT K H d kvs tab) (z : Str) : (valV kvs (.inr z)).isSome = (tab z).isSome := by
  have := D.tab z
  cases e : valV kvs (.inr z) <;> cases e2 : tab z <;> rw [e, e2] at this <;> first | rfl | exact this.elim
end
theorem seqL_same {K : PySem.W.Frag} {q : Addr} {H H' : Hp} {xs : List V} (k : Same H H') (h : SqL K H q xs) : SqL K H' q xs := by
  rcases h with (h | ⟨o, h⟩) | h
  · exact .inl (.inl (k q _ h))
  · exact .inl (.inr ⟨o, k q _ h⟩)
  · exact .inr h
/-- how many a word takes -/
def many (z : Str) : Nat := match opsOf z with
  | some o => o.length
  | none => 0
section
variable {P : Program} {w : World} {K : PySem.W.Frag} {mg : Str → Option Value} {base : Heap}
def sp_vow (K : PySem.W.Frag) : Sp := fun vs H Q _ => ∃ (z : Str) (o d : Addr) (xs : List V) (fs : List Fr) (kvs : List (Key × V)) (tab : Str → Option Fr) (f : Fr), vs = [.str z, .ref o, .ref d] ∧ z ∈ allW ∧ SqL K H o xs ∧ Frs K H xs fs ∧ DT K H d kvs tab ∧
  (nm z = true → (tab z).isSome = true) ∧ (∀ g ∈ fs, okB 1900 g) ∧ (nm z = false → many z = fs.length) ∧ stepF tab z fs = [f] ∧ (z = "div" ∨ z = "mod" → ∀ g, fs[1]? = some g → g.2 = 1 ∧ 1 ≤ g.1 ∧ g.1 ≤ 9) ∧ ∀ t H', Same H H' → Pr K H' t f.1 f.2 → Q (.ref t) H'
theorem lenA1 {α : Type} {l : List α} (h : 1 = l.length) : ∃ a, l = [a] := by
  match l, h with
  | [a], _ => exact ⟨a, rfl⟩
theorem lenA2 {α : Type} {l : List α} (h : 2 = l.length) : ∃ a b, l = [a, b] := by
  match l, h with
  | [a, b], _ => exact ⟨a, b, rfl⟩
theorem lenA3 {α : Type} {l : List α} (h : 3 = l.length) : ∃ a b c, l = [a, b, c] := by
  match l, h with
  | [a, b, c], _ => exact ⟨a, b, c, rfl⟩
theorem w_two : ∀ z ∈ allW, z ≠ "not" → z ≠ "if" → (opsOf z).isSome = true → (z ∈ relL ∨ z ∈ nineL) ∧ many z = 2 ∧ nm z = false := by decide +kernel
theorem nm_not : nm "not" = false ∧ nm "if" = false ∧ many "not" = 1 ∧ many "if" = 3 := by decide +kernel
theorem ok_value_of_word (T : Txt w K mg) : FnOk P w K mg base (L2.CX P w) 7 T.a_value_of_word T.d_value_of_word ["word", "operands", "values"] (sp_vow K) := by
  refine T.F_value_of_word.okX sc_value_of_word (fun vs H Q E h => ?_) (fun cdv A outer s H vs Q E hr h => ?_)
  · obtain ⟨z, o, d, xs, fs, kvs, tab, f, rfl, _⟩ := h
    rfl
  · obtain ⟨z, o, d, xs, fs, kvs, tab, f, rfl, hz, ho, hx, hD, hn, hb, hm, hf, hd, k⟩ := h
    have hr_is_name : Room 3 _ := hr.mono (by decide)
    have G_is_name := ok_is_name (P := P) (base := base) T
    have hr_truth : Room 1 _ := hr.mono (by decide)
    have G_truth := ok_truth (P := P) (base := base) T
    have hr_value_of_two : Room 6 _ := hr.mono (by decide)
    have G_value_of_two := ok_value_of_two (P := P) (base := base) T
    have hr_fraction : Room 3 _ := hr.mono (by decide)
    have G_fraction := ok_fraction (P := P) (base := base) T
    obtain ⟨fds, dv_fraction, Db_fraction⟩ := T.D_fraction
    have hu1 : (A.deeper (envOfC "value_of_word" (defScope s_value_of_word) s.heap.objs.size T.a_value_of_word cdv)).units + 1 < cLine := Nat.lt_of_le_of_lt (Nat.add_le_add_left (by decide : 1 ≤ 64) _) hr.units
    refine ⟨_, (pss_cons (ps_if (pt_val (pe_call G_is_name hr_is_name (by rfl) T.m_is_name T.F_is_name.kp T.B_is_name .nil pass0 (pa_cons (pv 0) pa_nil))) (pss_one (ps_ret (pe_dget hu1 (pv 2) (pv 0) (fun _ _ => rfl)))) pss_nil)
      (pss_cons (ps_if (pt_cmpR op_eqS (pv 0) pe_str (nomark _)) (pss_one (ps_ret (pe_call G_truth hr_truth (by rfl) T.m_truth T.F_truth.kp T.B_truth .nil pass0 (pa_cons (pe_cmpR (op_eqD hr.units) (pe_ix ix_list (pv 1) pe_int (fun _ _ => rfl)) (pe_glob (v := .ref T.a_ZERO) (by rfl) T.m_ZERO rfl) (nomark _)) pa_nil)))) pss_nil)
      (pss_cons (ps_if (pt_cmpR op_eqS (pv 0) pe_str (nomark _)) (pss_one (ps_ret (pe_ifExp (pt_cmpR (op_eqD hr.units) (pe_ix ix_list (pv 1) pe_int (fun _ _ => rfl)) (pe_glob (v := .ref T.a_ZERO) (by rfl) T.m_ZERO rfl) (nomark _)) (pe_ix ix_list (pv 1) pe_int (fun _ _ => rfl)) (pe_ix ix_list (pv 1) pe_int (fun _ _ => rfl))))) pss_nil)
      (pss_cons (ps_if (pt_cmpR (op_in_kd T.D_OPERANDS) (pv 0) (pe_glob (v := .ref T.a_OPERANDS) (by rfl) T.m_OPERANDS rfl) (by rfl)) (pss_one (ps_ret (pe_call G_value_of_two hr_value_of_two (by rfl) T.m_value_of_two T.F_value_of_two.kp T.B_value_of_two .nil passL (pa_cons (pv 0) (pa_cons (pe_ix ix_list (pv 1) pe_int (fun _ _ => rfl)) (pa_cons (pe_ix ix_list (pv 1) pe_int (fun _ _ => rfl)) pa_nil)))))) pss_nil)
      (pss_one (ps_ret (pe_call G_fraction hr_fraction (by rfl) T.m_fraction T.F_fraction.kp Db_fraction dv_fraction passL (pa_cons (pe_callTy call_int_str (by rfl) T.n_int (by decide +kernel) (pa_cons (pv 0) pa_nil)) pa_nil)))))))), ?_⟩
    have hl := hx.len
    refine seq_op fun N hN => ?_
    walk_at "rs"
    refine ⟨.str z, .str z, rfl, .str z, (by exact decide_eq_true (Nat.le_trans (w_len z hz).1 (by decide))), fun H1 s1 => ⟨_, rfl, ite2 (fun c => ?_) (fun c => hN _ _ ?_)⟩⟩
    · have c' : nm z = true := by rw [← w_name z hz]; exact c
      obtain ⟨g, hg⟩ := Option.isSome_iff_exists.mp (hn c')
      have hD1 := hD.same s1
      obtain ⟨a, e1, e2⟩ := hD1.get hg
      rw [step_name c' hg] at hf
      have ef : g = f := (List.cons.inj hf).1
      subst ef
      refine ⟨_, rfl, _, rfl, d, .ref a, rfl, .inl ⟨kvs, .inr z, .inl hD1.at_, rfl, e1.symm⟩, k a H1 s1 e2⟩
    clear hN N
    rw [w_name z hz] at c
    simp only [Bool.not_eq_true] at c
    have ho1 := seqL_same s1 ho
    have hx1 := hx.same s1
    have hD1 := hD.same s1
    refine seq_op fun N hN => ?_
    walk_at "rs"
    refine ite2 (fun c1 => ?_) (fun c1 => hN _ _ ?_)
    · subst c1
      obtain ⟨g, rfl⟩ := lenA1 (by rw [← hm c]; exact nm_not.2.2.1.symm)
      rw [step_not] at hf
      have ef := (List.cons.inj hf).1
      subst ef
      cases hx1 with
      | cons h q =>
      cases q
      have hg := hb g List.mem_cons_self
      refine ⟨_, ho1, _, rfl, .tuple [.int g.1, .int g.2], .tuple [.int 0, .int 1], dp_pair h, dp_pair (T.s_ZERO H1), shaped2 _ _, shaped2 _ _, _, rfl, ?_⟩
      rw [zero_eq hg]
      exact fun t ht => k t H1 s1 ht
    clear hN N
    refine seq_op fun N hN => ?_
    walk_at "rs"
    refine ite2 (fun c2 => ?_) (fun c2 => hN _ _ ?_)
    · subst c2
      obtain ⟨g1, g2, g3, rfl⟩ := lenA3 (by rw [← hm c]; exact nm_not.2.2.2.symm)
      rw [step_if] at hf
      have ef := (List.cons.inj hf).1
      cases hx1 with
      | cons h1 q =>
      cases q with
      | cons h2 q =>
      cases q with
      | cons h3 q =>
      cases q
      have hg := hb g1 List.mem_cons_self
      refine ⟨_, ho1, _, rfl, .tuple [.int g1.1, .int g1.2], .tuple [.int 0, .int 1], dp_pair h1, dp_pair (T.s_ZERO H1), shaped2 _ _, shaped2 _ _, _, rfl, ?_⟩
      rw [zero_eq hg]
      refine ite2 (fun d1 => ?_) (fun d1 => ?_)
      · rw [if_pos (of_decide_eq_true d1)] at ef
        subst ef
        exact ⟨_, ho1, _, rfl, k _ H1 s1 h3⟩
      · rw [if_neg (fun h => d1 (decide_eq_true h))] at ef
        subst ef
        exact ⟨_, ho1, _, rfl, k _ H1 s1 h2⟩
    clear hN N
    refine seq_op fun N hN => ?_
    walk_at "rs"
    obtain ⟨r, e1, e2⟩ := opt_OPERANDS T z
    have es : r.isSome = (opsOf z).isSome := by
      obtain ⟨r2, e3, e4⟩ := T.g_OPERANDS z
      rw [e1] at e3
      cases e3
      cases r with
      | none =>
        have e5 : opsOf z = none := e4
        rw [e5]; rfl
      | some u =>
        obtain ⟨y, e5, _⟩ := e4
        rw [e5]; rfl
    refine ⟨r, e1, ?_⟩
    rw [es]
    refine ite2 (fun c3 => ?_) (fun c3 => hN _ _ ?_)
    · obtain ⟨w1, w2, _⟩ := w_two z hz c1 c2 c3
      obtain ⟨g1, g2, rfl⟩ := lenA2 (by rw [← hm c, w2])
      obtain ⟨ov, hov⟩ := Option.isSome_iff_exists.mp c3
      rw [step_two c hov c1 c2] at hf
      have ef := (List.cons.inj hf).1
      subst ef
      cases hx1 with
      | cons h1 q =>
      cases q with
      | cons h2 q =>
      cases q
      exact ⟨_, ho1, _, rfl, _, ho1, _, rfl, z, _, _, g1, g2, rfl, w1, h1, h2, hb g1 List.mem_cons_self, hb g2 (List.mem_cons_of_mem _ List.mem_cons_self), fun q => hd q g2 rfl, fun t H' s2 ht => k t H' (Same.trans s1 s2) ht⟩
    · clear hN N
      have c4 : opsOf z = none := by cases e : opsOf z <;> simp_all
      obtain ⟨i1, i2⟩ := w_int z hz c c4
      rw [step_int c c4] at hf
      have ef := (List.cons.inj hf).1
      subst ef
      walk_at "rs"
      have lg : (intOf z).natAbs.log2 < 9000 := logL (Nat.lt_of_le_of_lt i2 (show 9 < 2 ^ 4 by decide)) (by decide) (by decide)
      refine ⟨_, i1, Nat.le_trans (w_len z hz).1 (by decide), _, 1, rfl, lg, by decide, fun _ t H' s2 h0 h2 => ?_, fun e => absurd e (by decide)⟩
      rw [(fr_one _).1, (fr_one _).2] at h2
      exact k t H' (Same.trans s1 s2) (.inl (.inl h2))
end
end LK

set_option Elab.async false
set_option linter.all false
set_option maxRecDepth 100000
namespace LK
open PySem PySem.Spec PyProof.Rows L2
local macro_rules | `(tactic| walk_at "rs") => `(tactic| simp only [cxK, cxNK, tCallZ, tAsg, tOp, rI0, rS0, rB0, rI, rU, tUn, rEq, rNe, rIxL, rIxT, rIxS, rSetL, rSlLU, rSlS, rSlU, rCatL, rCatU, rRepL, rIn, tVar, tC, gName, gSub, tIfS, tTest, tB, tAnd, tOr, tNot, tNotV, tAndV, tOrV, tIf, tCall, tCons, tNil, tCB, tDrop, tRet, tRetN, tNext, tLstU, tTupU, tM0, tM1, tPar, tPar3, tAug, ipI, tBM, tBM0, rAppend, rPop, tBreak, tCont, tChain, tSl, tPart, tNoPart, L2.start, List.map, List.length_cons, List.length_nil, List.replicate, List.cons_append, List.nil_append, List.append_nil, List.getElem?_cons_zero, List.getElem?_cons_succ, List.set_cons_zero, List.set_cons_succ, Option.some.injEq, V.int.injEq, V.ref.injEq, V.str.injEq, V.bl.injEq, exists_eq_left', exists_eq_left, exists_and_left, decide_eq_true_eq, List.cons.injEq, and_true, true_and, scal, Bool.not_eq_true', decide_eq_false_iff_not, Nat.zero_add, Nat.reduceAdd, Nat.reduceSub, reduceCtorEq, false_and, exists_false, false_or, or_false, CPow, CMul, CDiv, Int.reduceToNat, ↓reduceIte, wipe, sw, List.nil_append, List.singleton_append])
local macro_rules | `(tactic| walk_at "st") => `(tactic| (refine seq_op fun N hN => ?_; walk_at "rs"))
local macro_rules | `(tactic| walk_at "sd") => `(tactic| first | assumption | decide | omega)
local macro_rules | `(tactic| walk_at "rd") => `(tactic| repeat (first
  | refine ⟨_, SqL.of (by assumption), ?_⟩ | refine ⟨_, SqL.of upd_same, ?_⟩ | refine ⟨_, .inl (SqL.of (by assumption)), ?_⟩ | refine ⟨_, (by assumption : _ = some (HO.lst _)), ?_⟩ | refine ⟨_, upd_same, ?_⟩
  | refine ⟨_, rfl, ?_⟩ | refine And.intro (by walk_at "sd") ?_))

open LamX (Tabs TabS ExtN GivesTo pe_lamcall TabB lamS_by tLam CodeO LamS lamCx lamEnv)
/-! ### heaps, but for the bag and the tables of code objects -/
def KN (b : Addr) (H H' : Hp) : Prop := ∀ a o, a ≠ b → H a = some o → (∀ ps, o ≠ HO.tbl ps) → H' a = some o
theorem KN.refl {b : Addr} {H : Hp} : KN b H H := fun _ _ _ h _ => h
theorem KN.kp {b : Addr} {H H' : Hp} (k : Kp b H H') : KN b H H' := fun a o n h _ => (hb_some (k a o (by rw [hb_ne n]; exact h))).2
theorem KN.same {b : Addr} {H H' : Hp} (s : Same H H') : KN b H H' := fun _ _ _ h _ => s _ _ h
theorem KN.ext {b : Addr} {H H' : Hp} (s : ExtN H H') : KN b H H' := fun a o _ h n => s a o h n
theorem KN.trans {b : Addr} {H H1 H2 : Hp} (k : KN b H H1) (l : KN b H1 H2) : KN b H H2 := fun a o n h t => l a o n (k a o n h t) t
theorem KN.list {b a : Addr} {H H' : Hp} {xs : List V} (k : KN b H H') (n : a ≠ b) (h : H a = some (.lst xs)) : H' a = some (.lst xs) := k a _ n h fun _ z => by cases z
theorem KN.tup {b a : Addr} {H H' : Hp} {xs : List V} (k : KN b H H') (n : a ≠ b) (h : H a = some (.tup xs)) : H' a = some (.tup xs) := k a _ n h fun _ z => by cases z
theorem KN.seqT {K : PySem.W.Frag} {b c q : Addr} {H H' : Hp} {xs : List V} (B : Bag H b c) (k : KN b H H') (h : SqT K H q xs) : SqT K H' q xs := by
  obtain ⟨yb, eb⟩ := B.at
  rcases h with (h | ⟨o, h⟩) | h
  · refine .inl (.inl (k q _ (fun e => ?_) h fun _ z => by cases z))
    rw [e, eb] at h; cases h
  · refine .inl (.inr ⟨o, k q _ (fun e => ?_) h fun _ z => by cases z⟩)
    rw [e, eb] at h; cases h
  · exact .inr h
theorem ExtN.seqT {K : PySem.W.Frag} {q : Addr} {H H' : Hp} {xs : List V} (k : ExtN H H') (h : SqT K H q xs) : SqT K H' q xs := by
  rcases h with (h | ⟨o, h⟩) | h
  · exact .inl (.inl (k q _ h fun _ z => by cases z))
  · exact .inl (.inr ⟨o, k q _ h fun _ z => by cases z⟩)
  · exact .inr h
theorem ExtN.seqL {K : PySem.W.Frag} {q : Addr} {H H' : Hp} {xs : List V} (k : ExtN H H') (h : SqL K H q xs) : SqL K H' q xs := by
  rcases h with (h | ⟨o, h⟩) | h
  · exact .inl (.inl (k q _ h fun _ z => by cases z))
  · exact .inl (.inr ⟨o, k q _ h fun _ z => by cases z⟩)
  · exact .inr h
theorem Bag.ext {H H' : Hp} {b c : Addr} (B : Bag H b c) (k : ExtN H H') : Bag H' b c := by
  obtain ⟨cells, i, g, m, n, h1, h2, h3⟩ := B
  exact ⟨cells, i, g, m, n, k _ _ h1 (fun _ z => by cases z), k _ _ h2 (fun _ z => by cases z), h3⟩
theorem Same.extN {H H' : Hp} (s : Same H H') : ExtN H H' := fun _ _ h _ => s _ _ h
theorem Tabs.same {T : List (Addr × Str)} {H H' : Hp} (t : Tabs T H) (s : Same H H') : Tabs T H' := LamX.Tabs.ext t fun b o h => s b o h
theorem codeO_lst {c : Addr} {q : Str} {xs : List V} : CodeO c q ≠ .lst xs := fun z => by
  unfold LamX.CodeO at z
  cases z
theorem Tabs.kp {T : List (Addr × Str)} {H H' : Hp} {b c : Addr} (B : Bag H b c) (t : Tabs T H) (k : Kp b H H') : Tabs T H' := fun p hp => by
  obtain ⟨yb, eb⟩ := B.at
  obtain ⟨ps, h1, h2, h3⟩ := t p hp
  have n1 : p.1 ≠ b := fun e => by rw [e, eb] at h1; cases h1
  refine ⟨ps, k.hd h1 n1, h2, fun pos cv hc => ?_⟩
  obtain ⟨c0, e1, e2⟩ := h3 pos cv hc
  refine ⟨c0, e1, k.hd e2 fun e => ?_⟩
  rw [e, eb] at e2
  exact codeO_lst (Option.some.inj e2).symm
/-- the two fields of a NoName -/
def nnF (v : V) : List (Str × V) := [("code", .str "NoName"), ("name", v)]
/-! ### a def whose code object is told -/
section
variable {P : Program} {w : World} {K : PySem.W.Frag} {mg : Str → Option Value} {base : Heap}
theorem Fun.okC {x qual : Str} {st : Stmt} {f c : Addr} {fd : FuncData} {N ps : List Str} {k : Nat} {sp : Sp} (F : Fun K x qual st f fd) (hc : fd.code = .ref c) (S : FnScope N ps (defScope st)) (len : ∀ vs H Q E, sp vs H Q E → vs.length = ps.length)
    (hbody : ∀ (A : Around) (outer : List Env) (s : Shared) (H : Hp) (vs : List V) (Q : VK) (E : XK), Room k (A.deeper (envOfC qual (defScope st) s.heap.objs.size f (.ref c))) → sp vs H Q E →
      ∃ t, PSs (cxOf CX0 P w K mg base N qual (defScope st) f (.ref c) A outer s H E).nox (defBody st) t ∧ t { nx := fun _ H' => Q .non H', rt := Q } (start N vs) H) : FnOk P w K mg base CX0 (k + 1) f fd ps sp := by
  obtain ⟨oc, od, kV, doc, pm, an, cdv, ct, osl, rfl, lk, hcd⟩ := F.ex
  have e : cdv = .ref c := hc
  subst e
  refine fn_of lk hcd S len fun A outer s H vs Q E hr hsp => ?_
  obtain ⟨t, h, q⟩ := hbody A outer s H vs Q E hr hsp
  exact ⟨t, h.nox, q⟩
end
/-! ### the defs with a lambda: their tables -/
def lamQ (q : Str) : Str := (envOfC q (defScope s__law_rising) 0 0 .none).qual ++ "<lambda>"
section
variable {w : World} {K : PySem.W.Frag} {mg : Str → Option Value}
def Txt.TL (T : Txt w K mg) : List (Addr × Str) := [(T.P__law_rising, lamQ "_law_rising")]
def Txt.cs (T : Txt w K mg) : List (Addr × Addr) := [(T.c__law_rising, T.P__law_rising)]
theorem Txt.uniq (T : Txt w K mg) {p q : Addr × Str} (hp : p ∈ T.TL) (hq : q ∈ T.TL) (e : p.1 = q.1) : p.2 = q.2 := by
  unfold Txt.TL at hp hq
  simp only [List.mem_cons, List.mem_nil_iff, or_false] at hp hq
  subst hp hq
  rfl
theorem Txt.cs1 (T : Txt w K mg) : (T.c__law_rising, T.P__law_rising) ∈ T.cs := List.mem_cons_self
theorem Txt.tl1 (T : Txt w K mg) : (T.P__law_rising, lamQ "_law_rising") ∈ T.TL := List.mem_cons_self
end
mutual
theorem dp_ext {K : PySem.W.Frag} {H H' : Hp} (e : ExtN H H') : ∀ {d : PyData} {v : V}, Dp K H v d → Dp K H' v d
  | .none, _, h => by cases h; exact .non
  | .bool _, _, h => by cases h; exact .bl _
  | .int _, _, h => by cases h; exact .int _
  | .str _, _, h => by cases h; exact .str _
  | .list ds, _, h => by cases h with | lst a b => exact .lst (ExtN.seqL e a) (dpa_ext e b)
  | .tuple ds, _, h => by cases h with | tup a b => exact .tup (ExtN.seqT e a) (dpa_ext e b)
  | .dict _, _, h => by cases h
theorem dpa_ext {K : PySem.W.Frag} {H H' : Hp} (e : ExtN H H') : ∀ {ds : List PyData} {vs : List V}, DpAll K H vs ds → DpAll K H' vs ds
  | [], _, h => by cases h; exact .nil
  | _ :: _, _, h => by cases h with | cons a b => exact .cons (dp_ext e a) (dpa_ext e b)
end
end LK

set_option Elab.async false
set_option linter.all false
set_option maxRecDepth 100000
namespace LK
open PySem PySem.Spec PyProof.Rows L2
local macro_rules | `(tactic| walk_at "rs") => `(tactic| simp only [cxK, cxNK, tCallZ, tAsg, tOp, rI0, rS0, rB0, rI, rU, tUn, rEq, rNe, rIxL, rIxT, rIxS, rSetL, rSlLU, rSlS, rSlU, rCatL, rCatU, rRepL, rIn, tVar, tC, gName, gSub, tIfS, tTest, tB, tAnd, tOr, tNot, tNotV, tAndV, tOrV, tIf, tCall, tCons, tNil, tCB, tDrop, tRet, tRetN, tNext, tLstU, tTupU, tM0, tM1, tPar, tPar3, tAug, ipI, tBM, tBM0, rAppend, rPop, tBreak, tCont, tChain, tSl, tPart, tNoPart, L2.start, List.map, List.length_cons, List.length_nil, List.replicate, List.cons_append, List.nil_append, List.append_nil, List.getElem?_cons_zero, List.getElem?_cons_succ, List.set_cons_zero, List.set_cons_succ, Option.some.injEq, V.int.injEq, V.ref.injEq, V.str.injEq, V.bl.injEq, exists_eq_left', exists_eq_left, exists_and_left, decide_eq_true_eq, List.cons.injEq, and_true, true_and, scal, Bool.not_eq_true', decide_eq_false_iff_not, Nat.zero_add, Nat.reduceAdd, Nat.reduceSub, reduceCtorEq, false_and, exists_false, false_or, or_false, CPow, CMul, CDiv, Int.reduceToNat, ↓reduceIte, wipe, sw, List.nil_append, List.singleton_append])
local macro_rules | `(tactic| walk_at "st") => `(tactic| (refine seq_op fun N hN => ?_; walk_at "rs"))
local macro_rules | `(tactic| walk_at "sd") => `(tactic| first | assumption | decide | omega)
local macro_rules | `(tactic| walk_at "rd") => `(tactic| repeat (first
  | refine ⟨_, SqL.of (by assumption), ?_⟩ | refine ⟨_, SqL.of upd_same, ?_⟩ | refine ⟨_, .inl (SqL.of (by assumption)), ?_⟩ | refine ⟨_, (by assumption : _ = some (HO.lst _)), ?_⟩ | refine ⟨_, upd_same, ?_⟩
  | refine ⟨_, rfl, ?_⟩ | refine And.intro (by walk_at "sd") ?_))

def addS (acc : List Str) (z : Str) : List Str := if z ∈ acc then acc else acc ++ [z]
def onceS (l : List Str) : List Str := l.foldl addS []
def namesOf (ws : List Str) : List Str := onceS (ws.filter nm)
theorem namesOf_snoc (l : List Str) (z : Str) : namesOf (l ++ [z]) = if nm z = true then addS (namesOf l) z else namesOf l := by
  unfold namesOf onceS
  rw [List.filter_append]
  by_cases h : nm z = true
  · rw [if_pos h, List.filter_cons_of_pos h, List.filter_nil, List.foldl_append]; rfl
  · rw [if_neg h, List.filter_cons_of_neg h, List.filter_nil, List.append_nil]
theorem mem_addS {x z : Str} {acc : List Str} : x ∈ addS acc z ↔ x ∈ acc ∨ x = z := by
  unfold addS
  split
  · rename_i h
    exact ⟨.inl, fun q => by rcases q with q | rfl; exact q; exact h⟩
  · simp
theorem mem_foldS {x : Str} : ∀ {l acc : List Str}, x ∈ l.foldl addS acc ↔ x ∈ acc ∨ x ∈ l
  | [], acc => by simp
  | a :: l, acc => by
    rw [List.foldl_cons, mem_foldS, mem_addS]
    simp [or_assoc]
theorem mem_names {ws : List Str} {x : Str} : x ∈ namesOf ws ↔ x ∈ ws ∧ nm x = true := by
  unfold namesOf onceS
  rw [mem_foldS]
  simp
theorem len_addS (acc : List Str) (z : Str) : (addS acc z).length ≤ acc.length + 1 := by
  unfold addS; split <;> simp
theorem len_foldS : ∀ (l acc : List Str), (l.foldl addS acc).length ≤ acc.length + l.length
  | [], acc => by simp
  | a :: l, acc => by
    rw [List.foldl_cons, List.length_cons]
    have h1 := len_foldS l (addS acc a)
    have h2 := len_addS acc a
    omega
theorem len_names (ws : List Str) : (namesOf ws).length ≤ ws.length := by
  have h1 := len_foldS (ws.filter nm) []
  have h2 := List.length_filter_le nm ws
  unfold namesOf onceS
  simp at h1 ⊢
  omega
def mkT (z : Str) : Key × V := (.inr z, .bl true)
theorem putT (l : List Str) (z : Str) : putK (l.map mkT) (.inr z) (.bl true) = (addS l z).map mkT := by
  unfold addS
  by_cases h : z ∈ l
  · rw [if_pos h]
    unfold putK
    rw [if_pos (List.any_eq_true.mpr ⟨mkT z, List.mem_map.mpr ⟨z, h, rfl⟩, decide_eq_true rfl⟩), List.map_map]
    refine List.map_congr_left fun a _ => ?_
    show (if (Sum.inr a : Key) = Sum.inr z then _ else _) = _
    split
    · rename_i e; cases e; rfl
    · rfl
  · rw [if_neg h]
    unfold putK
    rw [if_neg, List.map_append]
    · rfl
    · intro q
      obtain ⟨p, h1, h2⟩ := List.any_eq_true.mp q
      obtain ⟨a, h3, rfl⟩ := List.mem_map.mp h1
      have e : (Sum.inr a : Key) = Sum.inr z := of_decide_eq_true h2
      cases e
      exact h h3
section
variable {P : Program} {w : World} {K : PySem.W.Frag} {mg : Str → Option Value} {base : Heap}
def sp_names_in (K : PySem.W.Frag) : Sp := fun vs H Q _ => ∃ (a : Addr) (ws : List Str), vs = [.ref a] ∧ SqT K H a (ws.map V.str) ∧ (∀ z ∈ ws, z ∈ allW) ∧ ws.length ≤ 30 ∧ ∀ t H', Same H H' → H t = none → H' t = some (.tup ((namesOf ws).map V.str)) → Q (.ref t) H'
theorem ok_names_in (T : Txt w K mg) : FnOk P w K mg base CX0 4 T.a_names_in T.d_names_in ["words"] (sp_names_in K) := by
  refine T.F_names_in.ok sc_names_in (fun vs H Q E h => ?_) (fun cdv A outer s H vs Q E hr h => ?_)
  · obtain ⟨a, ws, rfl, _⟩ := h
    rfl
  · obtain ⟨a, ws, rfl, ha, hw, hl, k⟩ := h
    have hr_is_name : Room 3 _ := hr.mono (by decide)
    have G_is_name := ok_is_name (P := P) (base := base) T
    refine ⟨_, (pss_one (ps_ret (pe_callTy (call_tupleD rfl) (by rfl) T.n_tuple (by decide +kernel) (pa_cons (pe_dc (own := [("word", 1)]) (g := gName 1) (tt := _) rfl sc_names_in.nd (pi_tup (pv 0)) (blkOk_by (own := [("word", 1)]) (N := N_names_in) (sc := defScope s_names_in) (by decide +kernel)) (fun _ _ _ _ _ => pg_name (i := 1) sc_names_in.nd rfl (Or.inl rfl)) (fun _ _ _ _ _ => pts_one (pt_val (pe_call G_is_name hr_is_name (by rfl) T.m_is_name T.F_is_name.kp T.B_is_name .nil pass0 (pa_cons (pv 1) pa_nil)))) (fun _ _ _ _ _ => (pv 1)) (fun _ _ _ _ _ => pe_bl)) pa_nil)))), ?_⟩
    walk_at "rs"
    refine ⟨_, rfl, a, rfl, ⟨_, ha⟩, fun D hD => dc_tup (K := K) (a := a) (xs := ws.map V.str) (fun i G => G D = some (.dK ((namesOf (ws.take i)).map mkT)) ∧ Same H G) ⟨by rw [upd_same]; rfl, same_upd hD⟩ (fun i G _ h => Same.seqT h.2 ha) ?_ ?_⟩
    · rintro i x G hi ⟨h1, h2⟩
      rw [List.getElem?_map] at hi
      obtain ⟨z, hz, rfl⟩ := Option.map_eq_some_iff.mp hi
      have hzm : z ∈ ws := List.mem_of_getElem? hz
      have hil : i < ws.length := (List.getElem?_eq_some_iff.mp hz).1
      have et : ws.take (i + 1) = ws.take i ++ [z] := by rw [List.take_succ, hz]; rfl
      have en := namesOf_snoc (ws.take i) z
      rw [← et] at en
      walk_at "rs"
      refine ⟨.str z, .str z, rfl, .str z, decide_eq_true (Nat.le_trans (w_len z (hw z hzm)).1 (by decide)), fun H1 s1 => ⟨_, rfl, ite2 (fun c => ?_) (fun c => ?_)⟩⟩
      · replace c : isNameD (.str z) = true := c
        rw [w_name z (hw z hzm)] at c
        rw [if_pos c] at en
        have hlen : ((namesOf (ws.take i)).map mkT).length < 1000 := by
          rw [List.length_map]
          have h3 := len_names (ws.take i)
          rw [List.length_take] at h3
          omega
        refine ⟨_, .inr z, rfl, s1 _ _ h1, Nat.lt_of_lt_of_le hlen (by decide), ?_, fun b o e => ?_⟩
        · rw [upd_same, putT, en]
        · rw [upd_ne (ne_of_none e hD)]
          exact s1 _ _ (h2 b o e)
      · replace c : ¬ isNameD (.str z) = true := c
        rw [w_name z (hw z hzm)] at c
        rw [if_neg c] at en
        exact ⟨by rw [en]; exact s1 _ _ h1, Same.trans h2 s1⟩
    · rintro G ⟨h1, h2⟩
      have e : ws.take (ws.map V.str).length = ws := by rw [List.length_map]; exact List.take_length
      rw [e] at h1
      refine ⟨D, rfl, _, .inl h1, fun p H' s2 h3 h4 => k p H' (Same.trans h2 s2) (Same.dom h2 p h3) ?_⟩
      rw [h4, List.map_map]
      rfl
def lacks (tab : Str → Option Fr) (ws : List Str) : List Str := (namesOf ws).filter fun z => (tab z).isNone
def sp_evaluate (K : PySem.W.Frag) (C : Addr) : Sp := fun vs H Q E => ∃ (a d : Addr) (ws : List Str) (kvs : List (Key × V)) (tab : Str → Option Fr), vs = [.ref a, .ref d] ∧ SqT K H a (ws.map V.str) ∧ (∀ z ∈ ws, z ∈ allW) ∧ ws.length ≤ 30 ∧ walkL [101] (ws.map PyData.str) = true ∧ DT K H d kvs tab ∧ (∀ z f, tab z = some f → okB 64 f) ∧
  (lacks tab ws = [] → ∀ t H' f, Same H H' → stk tab ws = [f] → okB 1920 f → Pr K H' t f.1 f.2 → Q (.ref t) H') ∧ (∀ z l, lacks tab ws = z :: l → ∀ x H', Same H H' → H x = none → H' x = some (.xd (nnF (.str z))) → E (.ref C) (some x) H')
end
end LK

set_option Elab.async false
set_option linter.all false
set_option maxRecDepth 100000
namespace LK
open PySem PySem.Spec PyProof.Rows L2
local macro_rules | `(tactic| walk_at "rs") => `(tactic| simp only [cxK, cxNK, tCallZ, tAsg, tOp, rI0, rS0, rB0, rI, rU, tUn, rEq, rNe, rIxL, rIxT, rIxS, rSetL, rSlLU, rSlS, rSlU, rCatL, rCatU, rRepL, rIn, tVar, tC, gName, gSub, tIfS, tTest, tB, tAnd, tOr, tNot, tNotV, tAndV, tOrV, tIf, tCall, tCons, tNil, tCB, tDrop, tRet, tRetN, tNext, tLstU, tTupU, tM0, tM1, tPar, tPar3, tAug, ipI, tBM, tBM0, rAppend, rPop, tBreak, tCont, tChain, tSl, tPart, tNoPart, L2.start, List.map, List.length_cons, List.length_nil, List.replicate, List.cons_append, List.nil_append, List.append_nil, List.getElem?_cons_zero, List.getElem?_cons_succ, List.set_cons_zero, List.set_cons_succ, Option.some.injEq, V.int.injEq, V.ref.injEq, V.str.injEq, V.bl.injEq, exists_eq_left', exists_eq_left, exists_and_left, decide_eq_true_eq, List.cons.injEq, and_true, true_and, scal, Bool.not_eq_true', decide_eq_false_iff_not, Nat.zero_add, Nat.reduceAdd, Nat.reduceSub, reduceCtorEq, false_and, exists_false, false_or, or_false, CPow, CMul, CDiv, Int.reduceToNat, ↓reduceIte, wipe, sw, List.nil_append, List.singleton_append])
local macro_rules | `(tactic| walk_at "st") => `(tactic| (refine seq_op fun N hN => ?_; walk_at "rs"))
local macro_rules | `(tactic| walk_at "sd") => `(tactic| first | assumption | decide | omega)
local macro_rules | `(tactic| walk_at "rd") => `(tactic| repeat (first
  | refine ⟨_, SqL.of (by assumption), ?_⟩ | refine ⟨_, SqL.of upd_same, ?_⟩ | refine ⟨_, .inl (SqL.of (by assumption)), ?_⟩ | refine ⟨_, (by assumption : _ = some (HO.lst _)), ?_⟩ | refine ⟨_, upd_same, ?_⟩
  | refine ⟨_, rfl, ?_⟩ | refine And.intro (by walk_at "sd") ?_))

open TL
theorem Stk.all : ∀ {w : List Nat} {n : Nat} {st : List Fr}, Stk w n st → ∀ g ∈ st, okB (64 * n) g
  | _, _, _, .nil, g, h => by cases h
  | _, _, _, .cons h hm d r, g, hg => by
    rcases List.mem_cons.mp hg with rfl | hg
    · exact h.le (by omega)
    · exact (r.all g hg).le (by omega)
theorem Stk.len : ∀ {w : List Nat} {n : Nat} {st : List Fr}, Stk w n st → st.length = w.length
  | _, _, _, .nil => rfl
  | _, _, _, .cons h hm d r => congrArg Nat.succ r.len
theorem Stk.len_le : ∀ {w : List Nat} {n : Nat} {st : List Fr}, Stk w n st → st.length ≤ n
  | _, _, _, .nil => Nat.le_refl _
  | _, _, _, .cons h hm d r => by
    have := r.len_le
    rw [List.length_cons]
    omega
/-- what a word asks for -/
def owes (z : Str) : List Nat := if nm z = true then [] else match opsOf z with | some o => o.cps.toList | none => []
theorem walk_step {z : Str} {c : Nat} {w : List Nat} {r : List PyData} (hz : z ∈ allW) (hc : c = 101 ∨ c = 107) (h : walkL (c :: w) (.str z :: r) = true) : walkL (owes z ++ w) r = true := by
  rcases hc with rfl | rfl
  · have e := w_e z hz
    simp only [walkL, e] at h
    exact h
  · cases ek : opsL (.str z) 107 with
    | none => simp [walkL, ek] at h
    | some o =>
      obtain ⟨rfl, n, eo, _⟩ := w_k z hz o ek
      simp only [walkL, ek] at h
      unfold owes
      rw [if_neg (by rw [n]; decide), eo]
      exact h
theorem owes_two : ∀ z ∈ allW, ∀ c ∈ owes z, c = 101 ∨ c = 107 := by decide +kernel
theorem many_owes : ∀ z ∈ allW, many z = (owes z).length := by decide +kernel
theorem walk_suffix {tab : Str → Option Fr} : ∀ (ws : List Str) (w : List Nat) (i : Nat) (z : Str), (∀ y ∈ ws, y ∈ allW) → (∀ c ∈ w, c = 101 ∨ c = 107) → walkL w (ws.map PyData.str) = true → ws[i]? = some z → ∃ v : List Nat, (∀ c ∈ v, c = 101 ∨ c = 107) ∧ walkL (owes z ++ v) ((ws.drop (i + 1)).map PyData.str) = true
  | [], _, _, _, _, _, _, e => by simp at e
  | y :: r, w, i, z, hw, hc, h, e => by
    cases w with
    | nil => simp [walkL] at h
    | cons c w =>
      have hy := hw y List.mem_cons_self
      have s := walk_step hy (hc c List.mem_cons_self) h
      have hc' : ∀ x ∈ w, x = 101 ∨ x = 107 := fun x hx => hc x (List.mem_cons_of_mem _ hx)
      cases i with
      | zero =>
        simp at e
        subst e
        exact ⟨w, hc', s⟩
      | succ i =>
        exact walk_suffix (tab := tab) r (owes y ++ w) i z (fun x hx => hw x (List.mem_cons_of_mem _ hx)) (fun x hx => by
          rcases List.mem_append.mp hx with hx | hx
          · exact owes_two y hy x hx
          · exact hc' x hx) s (by simpa using e)
theorem step_split {tab : Str → Option Fr} {z : Str} (hz : z ∈ allW) (hn : nm z = true → (tab z).isSome = true) {w : List Nat} {n : Nat} {st : List Fr} (hs : Stk (owes z ++ w) n st) :
    ∃ f, stepF tab z (st.take (many z)) = [f] ∧ stepF tab z st = f :: st.drop (many z) ∧ (nm z = false → many z = (st.take (many z)).length) ∧ (z = "div" ∨ z = "mod" → ∀ g, (st.take (many z))[1]? = some g → g.2 = 1 ∧ 1 ≤ g.1 ∧ g.1 ≤ 9) := by
  have hm := many_owes z hz
  have hl : many z = (st.take (many z)).length := by
    rw [List.length_take, hs.len, List.length_append, ← hm]; omega
  by_cases n1 : nm z = true
  · obtain ⟨f, hf⟩ := Option.isSome_iff_exists.mp (hn n1)
    have m0 : many z = 0 := by rw [hm]; unfold owes; rw [if_pos n1]; rfl
    have wo := w_ops z hz n1
    refine ⟨f, ?_, ?_, fun q => (by rw [n1] at q; cases q), fun q => ?_⟩
    · rw [step_name n1 hf, m0]; rfl
    · rw [step_name n1 hf, m0]; rfl
    · rw [m0]; intro g hg; simp at hg
  simp only [Bool.not_eq_true] at n1
  have ow : owes z = match opsOf z with | some o => o.cps.toList | none => [] := by unfold owes; rw [if_neg (by rw [n1]; decide)]
  cases eo : opsOf z with
  | none =>
    rw [eo] at ow
    have m0 : many z = 0 := by rw [hm, ow]; rfl
    refine ⟨(intOf z, 1), ?_, ?_, fun _ => hl, fun q => ?_⟩
    · rw [step_int n1 eo, m0]; rfl
    · rw [step_int n1 eo, m0]; rfl
    · rw [m0]; intro g hg; simp at hg
  | some o =>
    rw [eo] at ow
    dsimp only at ow
    rcases (w_op hz eo).2 with ⟨rfl, e1⟩ | ⟨rfl, e1⟩ | ⟨x1, x2, hd⟩
    · rw [e1] at ow
      rw [ow] at hs hm
      obtain ⟨a, st1, m1, k1, rfl, _, _, _, _, _⟩ := hs.top
      rw [hm] at hl ⊢
      exact ⟨_, step_not, step_not, fun _ => hl, fun q => by rcases q with q | q <;> exact absurd q (by decide)⟩
    · rw [e1] at ow
      rw [ow] at hs hm
      obtain ⟨a, st1, m1, k1, rfl, _, _, _, _, s2⟩ := hs.top
      obtain ⟨b, st2, m2, k2, rfl, _, _, _, _, s3⟩ := s2.top
      obtain ⟨c, st3, m3, k3, rfl, _, _, _, _, s4⟩ := s3.top
      rw [hm] at hl ⊢
      exact ⟨_, step_if, step_if, fun _ => hl, fun q => by rcases q with q | q <;> exact absurd q (by decide)⟩
    · have ex : ∃ c : Nat, owes z = [101, c] ∧ (z = "div" ∨ z = "mod" → c = 107) := by
        rcases hd with ⟨d1, e1⟩ | ⟨d1, e1⟩
        · exact ⟨107, by rw [ow, e1], fun _ => rfl⟩
        · exact ⟨101, by rw [ow, e1], fun q => absurd q d1⟩
      obtain ⟨c, ec, dc⟩ := ex
      rw [ec] at hs hm
      obtain ⟨a, st1, m1, k1, rfl, _, _, _, _, s2⟩ := hs.top
      obtain ⟨b, st2, m2, k2, rfl, _, _, _, dg, s3⟩ := s2.top
      rw [hm] at hl ⊢
      refine ⟨_, step_two n1 eo x1 x2, step_two n1 eo x1 x2, fun _ => hl, fun q g hg => ?_⟩
      have eg : b = g := Option.some.inj hg
      subst eg
      exact dg (dc q)
theorem lacks_nil {tab : Str → Option Fr} {ws : List Str} (h : ∀ z ∈ namesOf ws, (tab z).isSome = true) : lacks tab ws = [] := by
  refine List.filter_eq_nil_iff.mpr fun z hz => ?_
  have := h z hz
  cases e : tab z <;> simp_all
theorem lacks_of {tab : Str → Option Fr} {ws : List Str} (h : lacks tab ws = []) : ∀ z ∈ ws, nm z = true → (tab z).isSome = true := fun z hz n => by
  have := List.filter_eq_nil_iff.mp h z (mem_names.mpr ⟨hz, n⟩)
  cases e : tab z <;> simp_all
theorem lacks_at {tab : Str → Option Fr} {ws : List Str} {i : Nat} {z : Str} (h : ∀ y ∈ (namesOf ws).take i, (tab y).isSome = true) (hi : (namesOf ws)[i]? = some z) (hz : tab z = none) : ∃ l, lacks tab ws = z :: l := by
  have hl : i < (namesOf ws).length := (List.getElem?_eq_some_iff.mp hi).1
  have e : namesOf ws = (namesOf ws).take i ++ z :: (namesOf ws).drop (i + 1) := by
    rw [← (List.getElem?_eq_some_iff.mp hi).2, ← List.drop_eq_getElem_cons hl, List.take_append_drop]
  unfold lacks
  rw [e, List.filter_append, List.filter_eq_nil_iff.mpr (fun y hy => by
      have q := h y hy
      cases e2 : tab y with
      | none => rw [e2] at q; cases q
      | some f => exact Bool.false_ne_true), List.nil_append, List.filter_cons_of_pos (by rw [hz]; rfl)]
  exact ⟨_, rfl⟩
theorem mk_nn {C : Addr} {ta : TA} {σ : L2.St} {H0 H1 : Hp} {v : V} {Qx : XK} (ht : ∀ K : List V → Hp → Prop, K [v] H1 → ta σ H0 K) (k : ∀ d H', Same H1 H' → H1 d = none → H' d = some (.xd (nnF v)) → Qx (.ref C) (some d) H') : tMkO C (fun vs H Q _ => ∃ (a : Addr) (v : V), vs = [.ref a, v] ∧ H a = some (exo a C none) ∧
  ∀ dx, H dx = none → dx ≠ a → Q .non (L2.upd (L2.upd (L2.upd H dx (exd dx [("name", v)])) a (exo a C (some dx))) dx (exd dx [("code", .str "NoName"), ("name", v)]))) [] ta σ H0 Qx := by
  refine ht _ ⟨by simp, ?_⟩
  intro a ha
  refine ⟨a, v, rfl, upd_same, fun dx hdx ne => ⟨rfl, dx, nnF v, ?_, upd_same, ?_, k dx _ ?_ ?_ upd_same⟩⟩
  · rw [upd_ne (Ne.symm ne), upd_same]
  · rw [upd_ne ne] at hdx; exact hdx
  · intro b o e
    rw [upd_ne ne] at hdx
    have n1 : b ≠ a := fun z => by rw [z, ha] at e; cases e
    have n2 : b ≠ dx := fun z => by rw [z, hdx] at e; cases e
    rw [upd_ne n2, del_ne n1, upd_ne n2, upd_ne n1, upd_ne n2, upd_ne n1]
    exact e
  · rw [upd_ne ne] at hdx; exact hdx
section
variable {P : Program} {w : World} {K : PySem.W.Frag} {mg : Str → Option Value} {base : Heap}
theorem ok_evaluate (T : Txt w K mg) : FnOk P w K mg base (L2.CX P w) 8 T.a_evaluate T.d_evaluate ["words", "values"] (sp_evaluate K T.C_NoName) := by
  refine T.F_evaluate.okX sc_evaluate (fun vs H Q E h => ?_) (fun cdv A outer s H vs Q E hr h => ?_)
  · obtain ⟨a, d, ws, kvs, tab, rfl, _⟩ := h
    rfl
  · obtain ⟨a, d, ws, kvs, tab, rfl, ha, hw, hl, hwalk, hD, ht, k, kE⟩ := h
    have hr_names_in : Room 4 _ := hr.mono (by decide)
    have G_names_in := ok_names_in (P := P) (base := base) T
    have hr_value_of_word : Room 7 _ := hr.mono (by decide)
    have G_value_of_word := ok_value_of_word (P := P) (base := base) T
    have hr_NoName : Room 2 _ := hr.mono (by decide)
    have G_NoName := ok_NoName (P := P) (base := base) T
    have hu1 : (A.deeper (envOfC "evaluate" (defScope s_evaluate) s.heap.objs.size T.a_evaluate cdv)).units + 1 < cLine := Nat.lt_of_le_of_lt (Nat.add_le_add_left (by decide : 1 ≤ 64) _) hr.units
    refine ⟨_, (pss_cons (ps_for (passes_of rfl) rfl (pi_tup (pe_call G_names_in hr_names_in (by rfl) T.m_names_in T.F_names_in.kp T.B_names_in .nil pass0 (pa_cons (pv 0) pa_nil))) (pg_name (i := 2) sc_evaluate.nd rfl (Or.inl rfl)) (pss_one (ps_if (pt_cmp (pc_dnotin hu1 (pv 2) (pv 1))) (pss_one (ps_raise rfl (takes_of rfl rfl rfl rfl) (pmk_oexM baseLE T.X_NoName T.i_NoName T.t_NoName G_NoName hr_NoName T.B_NoName__init .nil pass0 (by rfl) T.m_NoName (pa_cons (pv 2) pa_nil)))) pss_nil)))
      (pss_cons (ps_set (i := 3) sc_evaluate.nd rfl (Or.inl rfl) (pe_lstU pa_nil))
      (pss_cons (ps_for (passes_of rfl) rfl (RT.pi_revA (by rfl) T.n_reversed (pv 0)) (pg_name (i := 4) sc_evaluate.nd rfl (Or.inl rfl)) (pss_cons (ps_set (i := 5) sc_evaluate.nd rfl (Or.inl rfl) (pe_callB call_len (by rfl) T.n_len (by decide +kernel) (pa_cons (pe_wget2 T.D_OPERANDS (pe_glob (v := .ref T.a_OPERANDS) (by rfl) T.m_OPERANDS rfl) (pv 4) pe_str ⟨rfl, rfl, rfl, rfl⟩) pa_nil)))
      (pss_one (ps_set (i := 3) sc_evaluate.nd rfl (Or.inl rfl) (pe_op op_catL (pe_lstU (pa_cons (pe_call G_value_of_word hr_value_of_word (by rfl) T.m_value_of_word T.F_value_of_word.kp T.B_value_of_word .nil passL (pa_cons (pv 4) (pa_cons (pe_slice sl_listU (pv 3) po_none (po_some (pv 5))) (pa_cons (pv 1) pa_nil)))) pa_nil)) (pe_slice sl_listU (pv 3) (po_some (pv 5)) po_none))))))
      (pss_one (ps_ret (pe_ix ix_list (pv 3) pe_int (fun _ _ => rfl))))))), ?_⟩
    refine cut_seq (fun σ H2 => ∃ x, σ = [some (.ref a), some (.ref d), x, none, none, none] ∧ Same H H2 ∧ lacks tab ws = []) (fun N hN => ?_) ?_
    · walk_at "rs"
      refine ⟨_, rfl, a, ws, rfl, ha, hw, hl, fun t H1 s1 h0 h1 => ?_⟩
      have hT : SqT K H1 t ((namesOf ws).map V.str) := .inl (.inl h1)
      refine ⟨t, rfl, ⟨_, hT⟩, for_tup (K := K) (a := t) (xs := (namesOf ws).map V.str) (fun i σ H2 => ∃ x, σ = [some (.ref a), some (.ref d), x, none, none, none] ∧ Same H1 H2 ∧ ∀ y ∈ (namesOf ws).take i, (tab y).isSome = true) ⟨none, rfl, Same.refl _, fun y hy => by cases hy⟩ (fun i σ H2 _ ⟨_, _, s2, _⟩ => Same.seqT s2 hT) ?_ ?_⟩
      · rintro i y σ H2 hi ⟨x, rfl, s2, hs⟩
        rw [List.getElem?_map] at hi
        obtain ⟨z, hz, rfl⟩ := Option.map_eq_some_iff.mp hi
        have hD2 := hD.same (Same.trans s1 s2)
        walk_at "rs"
        refine ⟨_, rfl, _, rfl, d, _, rfl, .inl ⟨kvs, .inr z, .inl hD2.at_, rfl, rfl⟩, ?_⟩
        rw [hD2.has]
        cases e : tab z with
        | none =>
          refine ⟨_, rfl, iteTT (by rfl) ?_⟩
          obtain ⟨l, el⟩ := lacks_at hs hz e
          exact mk_nn (fun K h => by walk_at "rs"; exact h) fun dx H3 s3 hd3 h3 => kE z l el dx H3 (Same.trans s1 (Same.trans s2 s3)) (Same.dom (Same.trans s1 s2) dx hd3) h3
        | some f =>
          refine ⟨_, rfl, iteFF (by exact Bool.false_ne_true) ⟨s2, fun y hy => ?_⟩⟩
          rw [List.take_succ, hz] at hy
          rcases List.mem_append.mp hy with hy | hy
          · exact hs y hy
          · have : y = z := by simpa using hy
            rw [this, e]; rfl
      · rintro σ H2 ⟨x, rfl, s2, hs⟩
        refine hN _ _ ⟨x, rfl, Same.trans s1 s2, lacks_nil fun z hz => hs z ?_⟩
        rw [List.length_map, List.take_length]
        exact hz
    rintro σ H2 ⟨x, rfl, s2, hlk⟩
    refine seq_op fun N hN => ?_
    walk_at "rs"
    refine ⟨by decide, fun p H3 s3 h0 h3 => hN _ _ ?_⟩
    clear hN N
    have S3 := Same.trans s2 s3
    have hn := lacks_of hlk
    replace k := k hlk
    clear kE
    refine cut_seq (fun σ H4 => ∃ (x y1 y2 : Option V) (q b : Addr) (f : Fr), σ = [some (.ref a), some (.ref d), x, some (.ref q), y1, y2] ∧ Same H H4 ∧ SqL K H4 q [.ref b] ∧ Pr K H4 b f.1 f.2 ∧ stk tab ws = [f] ∧ okB 1920 f) (fun N hN => ?_) ?_
    · walk_at "rs"
      refine ⟨_, rfl, a, _, rfl, .inr ⟨Same.seqT S3 ha, RT.for_ItvT (K := K) (a := a) (xs := ws.map V.str) (fun i σ G => ∃ (y1 y2 : Option V) (q : Addr) (xs : List V), σ = [some (.ref a), some (.ref d), x, some (.ref q), y1, y2] ∧ Same H G ∧ SqL K G q xs ∧ Frs K G xs (stk tab (ws.drop (ws.length - i)))) ⟨none, none, p, [], rfl, S3, .inl (.inl h3), ?_⟩ (fun i σ G ⟨_, _, _, _, _, sg, _⟩ => Same.seqT sg ha) ?_ ?_⟩⟩
      · rw [Nat.sub_zero, List.drop_length]; exact .nil
      · rintro i y σ G hi hy ⟨y1, y2, q, xs, rfl, sg, hq, hx⟩
        rw [List.length_map] at hi
        rw [List.length_map, List.getElem?_map] at hy
        obtain ⟨z, hz, rfl⟩ := Option.map_eq_some_iff.mp hy
        have hzm : z ∈ ws := List.mem_of_getElem? hz
        have hza := hw z hzm
        refine seq_op fun N2 hN2 => ?_
        walk_at "rs"
        unfold tWget2
        walk_at "rs"
        have wget : ∀ R : V → Hp → Prop, R (.str ((opsOf z).getD "")) G → ∃ r, PySem.W.nsIn K T.a_OPERANDS z = some r ∧ (match r with | none => R (.str "") G | some u => ∃ v, RelV v u ∧ R v G) := fun R h => by
          obtain ⟨r, e1, e2⟩ := T.g_OPERANDS z
          refine ⟨r, e1, ?_⟩
          cases r with
          | none =>
            have e3 : opsOf z = none := e2
            rw [e3] at h
            exact h
          | some u =>
            obtain ⟨y, e3, e4⟩ := e2
            rw [e3] at h
            exact ⟨_, e4, h⟩
        have hmz : many z = ((opsOf z).getD "").length := by
          unfold many
          cases opsOf z <;> rfl
        have hms : many z ≤ 3 := by
          rw [hmz]
          cases e : opsOf z with
          | none => decide
          | some o => exact opsOf_len e
        refine wget (fun v H1 => ∃ x2, LenV K v H1 x2 ∧ N2 [some (V.ref a), some (V.ref d), x, some (V.ref q), some (V.str z), some (V.int (x2 : Nat))] H1) ⟨many z, ⟨Nat.le_trans (by rw [← hmz]; exact hms) (by decide), hmz⟩, hN2 _ _ ?_⟩
        clear hN2 N2 wget
        obtain ⟨v, hv, hwv⟩ := walk_suffix (tab := tab) ws [101] (ws.length - 1 - i) z hw (fun c hc => .inl (by simpa using hc)) hwalk hz
        have ei : ws.length - 1 - i + 1 = ws.length - i := by omega
        rw [ei] at hwv
        have hsub : ∀ y ∈ ws.drop (ws.length - i), y ∈ ws := fun y hy => List.mem_of_mem_drop hy
        have hst := stk_ok (tab := tab) (ws.drop (ws.length - i)) (owes z ++ v) (fun y hy => hw y (hsub y hy)) (fun y hy n => by
          obtain ⟨f, hf⟩ := Option.isSome_iff_exists.mp (hn y (hsub y hy) n)
          exact ⟨f, hf, ht y f hf⟩) (fun c hc => by
            rcases List.mem_append.mp hc with hc | hc
            · exact owes_two z hza c hc
            · exact hv c hc) hwv
        obtain ⟨f, f1, f2, f3, f4⟩ := step_split (tab := tab) hza (hn z hzm) hst
        have esuf : ws.drop (ws.length - (i + 1)) = z :: ws.drop (ws.length - i) := by
          have h1 : ws.length - (i + 1) = ws.length - 1 - i := by omega
          rw [h1, List.drop_eq_getElem_cons (by omega), (List.getElem?_eq_some_iff.mp hz).2, ei]
        have est : stk tab (ws.drop (ws.length - (i + 1))) = f :: (stk tab (ws.drop (ws.length - i))).drop (many z) := by
          rw [esuf]; exact f2
        have hlx := hx.len
        have hdl : (ws.drop (ws.length - i)).length ≤ 29 := by rw [List.length_drop]; omega
        have hx3 : xs.length ≤ 29 := by
          rw [hlx]
          exact Nat.le_trans hst.len_le hdl
        walk_at "rs"
        refine ⟨xs, hq, fun p1 G1 s1 h01 h1 => ?_⟩
        rw [cutV_take] at h1
        have sg1 := Same.trans sg s1
        refine ⟨z, p1, d, _, _, kvs, tab, f, rfl, hza, .inl (.inl h1), (hx.same s1).take (many z), hD.same sg1, hn z hzm, fun g hg => (hst.all g (List.mem_of_mem_take hg)).le (by omega), f3, f1, f4, fun t G2 s2' hp => ⟨by decide, fun p2 G3 s3' h02 h2 => ?_⟩⟩
        have sq := Same.trans s1 (Same.trans s2' s3')
        refine ⟨xs, seqL_same sq hq, fun p3 G4 s4' h03 h3 => ⟨_, s4' _ _ h2, _, h3, ?_, fun p4 G5 s5' h04 h4 => ⟨_, _, p4, ⟨rfl, rfl, rfl⟩, ?_, _, .inl (.inl h4), ?_⟩⟩⟩
        · refine Nat.le_trans (Nat.add_le_add_left (cutV_length _ _ _) _) ?_
          exact Nat.le_trans (show _ ≤ 40 by rw [List.length_singleton]; omega) (by decide)
        · exact Same.trans sg (Same.trans sq (Same.trans s4' s5'))
        · rw [est, cutV_drop]
          exact .cons (Same.seqT (Same.trans s3' (Same.trans s4' s5')) hp) ((hx.same (Same.trans sq (Same.trans s4' s5'))).drop (many z))
      · rintro σ G ⟨y1, y2, q, xs, rfl, sg, hq, hx⟩
        rw [List.length_map, Nat.sub_self, List.drop_zero] at hx
        have hst := stk_ok (tab := tab) ws [101] hw (fun z hz n => by
          obtain ⟨f, hf⟩ := Option.isSome_iff_exists.mp (hn z hz n)
          exact ⟨f, hf, ht z f hf⟩) (fun c hc => .inl (by simpa using hc)) hwalk
        obtain ⟨f, r, m, k2, e1, e2, hf, hm, _, h5⟩ := hst.top
        have er : r = [] := List.eq_nil_of_length_eq_zero h5.len
        subst er
        rw [e1] at hx
        cases hx with
        | cons hp hr =>
        cases hr
        exact hN _ _ ⟨x, y1, y2, q, _, f, rfl, sg, hq, hp, e1, hf.le (by omega)⟩
    · rintro σ H4 ⟨x, y1, y2, q, b, f, rfl, s4, hq, hp, e1, hf⟩
      walk_at "rs"
      exact ⟨_, hq, _, rfl, k b H4 f s4 e1 hf hp⟩
end
end LK

set_option Elab.async false
set_option linter.all false
set_option maxRecDepth 100000
namespace LK
open PySem PySem.Spec PyProof.Rows L2
local macro_rules | `(tactic| walk_at "rs") => `(tactic| simp only [cxK, cxNK, tCallZ, tAsg, tOp, rI0, rS0, rB0, rI, rU, tUn, rEq, rNe, rIxL, rIxT, rIxS, rSetL, rSlLU, rSlS, rSlU, rCatL, rCatU, rRepL, rIn, tVar, tC, gName, gSub, tIfS, tTest, tB, tAnd, tOr, tNot, tNotV, tAndV, tOrV, tIf, tCall, tCons, tNil, tCB, tDrop, tRet, tRetN, tNext, tLstU, tTupU, tM0, tM1, tPar, tPar3, tAug, ipI, tBM, tBM0, rAppend, rPop, tBreak, tCont, tChain, tSl, tPart, tNoPart, L2.start, List.map, List.length_cons, List.length_nil, List.replicate, List.cons_append, List.nil_append, List.append_nil, List.getElem?_cons_zero, List.getElem?_cons_succ, List.set_cons_zero, List.set_cons_succ, Option.some.injEq, V.int.injEq, V.ref.injEq, V.str.injEq, V.bl.injEq, exists_eq_left', exists_eq_left, exists_and_left, decide_eq_true_eq, List.cons.injEq, and_true, true_and, scal, Bool.not_eq_true', decide_eq_false_iff_not, Nat.zero_add, Nat.reduceAdd, Nat.reduceSub, reduceCtorEq, false_and, exists_false, false_or, or_false, CPow, CMul, CDiv, Int.reduceToNat, ↓reduceIte, wipe, sw, List.nil_append, List.singleton_append])
local macro_rules | `(tactic| walk_at "st") => `(tactic| (refine seq_op fun N hN => ?_; walk_at "rs"))
local macro_rules | `(tactic| walk_at "sd") => `(tactic| first | assumption | decide | omega)
local macro_rules | `(tactic| walk_at "rd") => `(tactic| repeat (first
  | refine ⟨_, SqL.of (by assumption), ?_⟩ | refine ⟨_, SqL.of upd_same, ?_⟩ | refine ⟨_, .inl (SqL.of (by assumption)), ?_⟩ | refine ⟨_, (by assumption : _ = some (HO.lst _)), ?_⟩ | refine ⟨_, upd_same, ?_⟩
  | refine ⟨_, rfl, ?_⟩ | refine And.intro (by walk_at "sd") ?_))

/-! ### fractions that are tracked -/
def PrT (H : Hp) (a : Addr) (p q : Int) : Prop := H a = some (.tup [.int p, .int q])
theorem PrT.pr {K : PySem.W.Frag} {H : Hp} {a : Addr} {p q : Int} (h : PrT H a p q) : Pr K H a p q := .inl (.inl h)
theorem PrT.same {H H' : Hp} {a : Addr} {p q : Int} (s : Same H H') (h : PrT H a p q) : PrT H' a p q := s _ _ h
theorem PrT.upd {H : Hp} {a p : Addr} {ys : List V} {o : HO} {n m : Int} (hp : H p = some (.lst ys)) (h : PrT H a n m) : PrT (L2.upd H p o) a n m := by
  unfold PrT; rw [upd_ne]; exact h
  intro e; unfold PrT at h; rw [e, hp] at h; cases h
inductive FrsT (H : Hp) : List V → List Fr → Prop
  | nil : FrsT H [] []
  | cons {a : Addr} {f : Fr} {xs : List V} {fs : List Fr} : PrT H a f.1 f.2 → FrsT H xs fs → FrsT H (.ref a :: xs) (f :: fs)
section
variable {H H' : Hp}
theorem FrsT.same (s : Same H H') : ∀ {xs : List V} {fs : List Fr}, FrsT H xs fs → FrsT H' xs fs
  | _, _, .nil => .nil
  | _, _, .cons h q => .cons (s _ _ h) (q.same s)
theorem FrsT.len : ∀ {xs : List V} {fs : List Fr}, FrsT H xs fs → xs.length = fs.length
  | _, _, .nil => rfl
  | _, _, .cons _ q => congrArg Nat.succ q.len
theorem FrsT.app : ∀ {xs ys : List V} {fs gs : List Fr}, FrsT H xs fs → FrsT H ys gs → FrsT H (xs ++ ys) (fs ++ gs)
  | _, _, _, _, .nil, r => r
  | _, _, _, _, .cons h q, r => .cons h (q.app r)
theorem FrsT.drop : ∀ {xs : List V} {fs : List Fr} (n : Nat), FrsT H xs fs → FrsT H (xs.drop n) (fs.drop n)
  | _, _, 0, h => h
  | _, _, _ + 1, .nil => .nil
  | _, _, n + 1, .cons _ q => q.drop n
theorem FrsT.take : ∀ {xs : List V} {fs : List Fr} (n : Nat), FrsT H xs fs → FrsT H (xs.take n) (fs.take n)
  | _, _, 0, _ => .nil
  | _, _, _ + 1, .nil => .nil
  | _, _, n + 1, .cons h q => .cons h (q.take n)
theorem FrsT.get : ∀ {xs : List V} {fs : List Fr} {n : Nat}, FrsT H xs fs → n < fs.length → ∃ a f, xs[n]? = some (.ref a) ∧ fs[n]? = some f ∧ PrT H a f.1 f.2
  | _, _, _, .nil, h => absurd h (Nat.not_lt_zero _)
  | _, _, 0, .cons h _, _ => ⟨_, _, rfl, rfl, h⟩
  | _, _, n + 1, .cons _ q, h => by
    obtain ⟨a, f, h1, h2, h3⟩ := q.get (n := n) (Nat.lt_of_succ_lt_succ h)
    exact ⟨a, f, h1, h2, h3⟩
theorem FrsT.get' {xs : List V} {fs : List Fr} {n : Nat} {v : V} (q : FrsT H xs fs) (h : xs[n]? = some v) : ∃ a f, v = .ref a ∧ fs[n]? = some f ∧ PrT H a f.1 f.2 := by
  obtain ⟨a, f, h1, h2, h3⟩ := q.get (n := n) (by rw [← q.len]; exact (List.getElem?_eq_some_iff.mp h).1)
  rw [h] at h1
  exact ⟨a, f, Option.some.inj h1, h2, h3⟩
theorem FrsT.one {a : Addr} {f : Fr} (h : PrT H a f.1 f.2) : FrsT H [.ref a] [f] := .cons h .nil
end
theorem FrsT.upd {H : Hp} {p : Addr} {ys : List V} {o : HO} (hp : H p = some (.lst ys)) : ∀ {xs : List V} {fs : List Fr}, FrsT H xs fs → FrsT (L2.upd H p o) xs fs
  | _, _, .nil => .nil
  | _, _, .cons h q => .cons (PrT.upd hp h) (q.upd hp)
theorem FrsT.frs {K : PySem.W.Frag} {H : Hp} : ∀ {xs : List V} {fs : List Fr}, FrsT H xs fs → Frs K H xs fs
  | _, _, .nil => .nil
  | _, _, .cons h q => .cons h.pr q.frs
theorem FrsT.last {G : Hp} {xs : List V} {fs : List Fr} {f : Fr} (h : FrsT G xs (fs ++ [f])) : ∃ ys a, xs = ys ++ [.ref a] ∧ FrsT G ys fs ∧ PrT G a f.1 f.2 := by
  have hl := h.len
  rw [List.length_append, List.length_singleton] at hl
  obtain ⟨a, f', h1, h2, h3⟩ := h.get (n := fs.length) (by rw [List.length_append, List.length_singleton]; omega)
  rw [List.getElem?_append_right (Nat.le_refl _), Nat.sub_self] at h2
  have e : f = f' := Option.some.inj h2
  subst e
  have ht := h.take fs.length
  rw [List.take_left] at ht
  refine ⟨_, a, ?_, ht, h3⟩
  have hi : fs.length < xs.length := by omega
  have e2 : xs[fs.length] = .ref a := by
    rw [List.getElem?_eq_getElem hi] at h1
    exact Option.some.inj h1
  conv => lhs; rw [← List.take_append_drop fs.length xs, List.drop_eq_getElem_cons hi, List.drop_eq_nil_of_le (by omega), e2]
/-- a dict of tracked fractions -/
structure DTT (K : PySem.W.Frag) (H : Hp) (d : Addr) (kvs : List (Key × V)) (tab : Str → Option Fr) : Prop where
  dt : DT K H d kvs tab
  tr : ∀ z f, tab z = some f → ∃ a, valV kvs (.inr z) = some (.ref a) ∧ PrT H a f.1 f.2
theorem DTT.same {K : PySem.W.Frag} {H H' : Hp} {d : Addr} {kvs : List (Key × V)} {tab : Str → Option Fr} (s : Same H H') (D : DTT K H d kvs tab) : DTT K H' d kvs tab :=
  ⟨D.dt.same s, fun z f e => let ⟨a, h1, h2⟩ := D.tr z f e; ⟨a, h1, s _ _ h2⟩⟩
end LK

set_option Elab.async false
set_option linter.all false
set_option maxRecDepth 100000
namespace LK
open PySem PySem.Spec PyProof.Rows L2
local macro_rules | `(tactic| walk_at "rs") => `(tactic| simp only [cxK, cxNK, tCallZ, tAsg, tOp, rI0, rS0, rB0, rI, rU, tUn, rEq, rNe, rIxL, rIxT, rIxS, rSetL, rSlLU, rSlS, rSlU, rCatL, rCatU, rRepL, rIn, tVar, tC, gName, gSub, tIfS, tTest, tB, tAnd, tOr, tNot, tNotV, tAndV, tOrV, tIf, tCall, tCons, tNil, tCB, tDrop, tRet, tRetN, tNext, tLstU, tTupU, tM0, tM1, tPar, tPar3, tAug, ipI, tBM, tBM0, rAppend, rPop, tBreak, tCont, tChain, tSl, tPart, tNoPart, L2.start, List.map, List.length_cons, List.length_nil, List.replicate, List.cons_append, List.nil_append, List.append_nil, List.getElem?_cons_zero, List.getElem?_cons_succ, List.set_cons_zero, List.set_cons_succ, Option.some.injEq, V.int.injEq, V.ref.injEq, V.str.injEq, V.bl.injEq, exists_eq_left', exists_eq_left, exists_and_left, decide_eq_true_eq, List.cons.injEq, and_true, true_and, scal, Bool.not_eq_true', decide_eq_false_iff_not, Nat.zero_add, Nat.reduceAdd, Nat.reduceSub, reduceCtorEq, false_and, exists_false, false_or, or_false, CPow, CMul, CDiv, Int.reduceToNat, ↓reduceIte, wipe, sw, List.nil_append, List.singleton_append])
local macro_rules | `(tactic| walk_at "st") => `(tactic| (refine seq_op fun N hN => ?_; walk_at "rs"))
local macro_rules | `(tactic| walk_at "sd") => `(tactic| first | assumption | decide | omega)
local macro_rules | `(tactic| walk_at "rd") => `(tactic| repeat (first
  | refine ⟨_, SqL.of (by assumption), ?_⟩ | refine ⟨_, SqL.of upd_same, ?_⟩ | refine ⟨_, .inl (SqL.of (by assumption)), ?_⟩ | refine ⟨_, (by assumption : _ = some (HO.lst _)), ?_⟩ | refine ⟨_, upd_same, ?_⟩
  | refine ⟨_, rfl, ?_⟩ | refine And.intro (by walk_at "sd") ?_))

theorem fr_unique {P Q p q : Int} (hQ : Q ≠ 0) (h : P * q = p * Q) (hq : 1 ≤ q) (hg : Nat.gcd p.natAbs q.natAbs = 1) : frP P Q = p ∧ frQ P Q = q := by
  obtain ⟨e1, e2, e3, e4, _, _, g0⟩ := fr_spec P hQ
  have h2 : frP P Q * q = p * frQ P Q := by
    have e : (frP P Q * q) * frG P Q = (p * frQ P Q) * frG P Q := by
      have a : (frP P Q * q) * frG P Q = (frP P Q * frG P Q) * q := by
        rw [Int.mul_assoc, Int.mul_comm q, ← Int.mul_assoc]
      have b : (p * frQ P Q) * frG P Q = p * (frQ P Q * frG P Q) := Int.mul_assoc _ _ _
      rw [a, b, e1, e2, h]
    exact Int.eq_of_mul_eq_mul_right g0 e
  have hn : (frP P Q).natAbs * q.natAbs = p.natAbs * (frQ P Q).natAbs := by rw [← Int.natAbs_mul, ← Int.natAbs_mul, h2]
  have d1 : q.natAbs ∣ (frQ P Q).natAbs := by
    have d : q.natAbs ∣ p.natAbs * (frQ P Q).natAbs := ⟨(frP P Q).natAbs, by rw [← hn, Nat.mul_comm]⟩
    exact Nat.Coprime.dvd_of_dvd_mul_left (Nat.Coprime.symm hg) d
  have d2 : (frQ P Q).natAbs ∣ q.natAbs := by
    have d : (frQ P Q).natAbs ∣ (frP P Q).natAbs * q.natAbs := ⟨p.natAbs, by rw [hn, Nat.mul_comm]⟩
    exact Nat.Coprime.dvd_of_dvd_mul_left (Nat.Coprime.symm e4) d
  have en := Nat.dvd_antisymm d1 d2
  have eq : frQ P Q = q := by omega
  refine ⟨?_, eq⟩
  rw [eq] at h2
  exact Int.eq_of_mul_eq_mul_right (by omega) h2
theorem gap_zero {m : Nat} {f g : Fr} (hf : okB m f) (hg : okB m g) : gapF f g = 0 ↔ f = g := by
  constructor
  · intro h
    unfold gapF at h
    obtain ⟨a1, a2⟩ := fr_unique (P := f.1) (Q := f.2) (p := g.1) (q := g.2) (by have := hf.1; omega) (by omega) hg.1 hg.2.1
    obtain ⟨b1, b2⟩ := fr_low hf.1 hf.2.1
    exact Prod.ext (by rw [← b1, a1]) (by rw [← b2, a2])
  · rintro rfl
    unfold gapF; omega
theorem tf_snd (b : Bool) : (tf b).2 = 1 := by cases b <;> rfl
def ord3 (d : Int) : Int := (if 0 < d then 1 else 0) - (if d < 0 then 1 else 0)
theorem ord3_lt (d : Int) : ord3 d < 0 ↔ d < 0 := by unfold ord3; split <;> split <;> omega
theorem ord3_gt (d : Int) : 0 < ord3 d ↔ 0 < d := by unfold ord3; split <;> split <;> omega
theorem ord3_eq (d : Int) : ord3 d = 0 ↔ d = 0 := by unfold ord3; split <;> split <;> omega
def hbF (z : Str) (lt gt eq : Bool) : Bool :=
  if z = "=" then eq else if z = "/=" then !eq else if z = "<" then lt else if z = "<=" then !gt else if z = ">" then gt else !lt
theorem hb_tab : ∀ z ∈ relL, z ≠ "/=" → hbF z true false false = decide (60 ∈ z.cps.toList) ∧ hbF z false true false = decide (62 ∈ z.cps.toList) ∧ hbF z false false true = decide (61 ∈ z.cps.toList) := by decide +kernel
section
variable {P : Program} {w : World} {K : PySem.W.Frag} {mg : Str → Option Value} {base : Heap}
def sp_val2T : Sp := fun vs H Q _ => ∃ (z : Str) (a b : Addr) (f g : Fr), vs = [.str z, .ref a, .ref b] ∧ (z ∈ relL ∨ z ∈ nineL) ∧ PrT H a f.1 f.2 ∧ PrT H b g.1 g.2 ∧ okB 1900 f ∧ okB 1900 g ∧ (z = "div" ∨ z = "mod" → g.2 = 1 ∧ 1 ≤ g.1 ∧ g.1 ≤ 9) ∧ ∀ t H', Same H H' → PrT H' t (opF z f g).1 (opF z f g).2 → Q (.ref t) H'
theorem ok__law_order (T : Txt w K mg) : FnOk P w K mg base CX0 1 T.a__law_order T.d__law_order ["one", "two"] (fun vs H Q _ => ∃ (a b : Addr) (f g : Fr), vs = [.ref a, .ref b] ∧ Pr K H a f.1 f.2 ∧ Pr K H b g.1 g.2 ∧ okB 4000 f ∧ okB 4000 g ∧ Q (.int (ord3 (gapF f g))) H) := by
  refine T.F__law_order.ok sc__law_order (fun vs H Q E h => ?_) (fun cdv A outer s H vs Q E hr h => ?_)
  · obtain ⟨a, b, f, g, rfl, _⟩ := h
    rfl
  · obtain ⟨a, b, f, g, rfl, ha, hb, hf, hg, k⟩ := h
    refine ⟨_, (pss_cons (ps_set (i := 2) sc__law_order.nd rfl (Or.inl rfl) (pe_op op_sub (pe_op op_mulW (pe_ix ix_tup (pv 0) pe_int (fun _ _ => rfl)) (pe_ix ix_tup (pv 1) pe_int (fun _ _ => rfl))) (pe_op op_mulW (pe_ix ix_tup (pv 1) pe_int (fun _ _ => rfl)) (pe_ix ix_tup (pv 0) pe_int (fun _ _ => rfl)))))
      (pss_one (ps_ret (pe_op op_sub (pe_callTy call_int1 (by rfl) T.n_int (by decide +kernel) (pa_cons (pe_cmpR op_gt (pv 2) pe_int (nomark _)) pa_nil)) (pe_callTy call_int1 (by rfl) T.n_int (by decide +kernel) (pa_cons (pe_cmpR op_lt (pv 2) pe_int (nomark _)) pa_nil)))))), ?_⟩
    refine seq_op fun N hN => ?_
    walk_at "rs"
    refine ⟨_, ha, _, rfl, _, hb, _, rfl, _, rfl, _, rfl, mulW hf.2.2.1 hg.2.2.2, _, hb, _, rfl, _, ha, _, rfl, _, rfl, _, rfl, mulW hg.2.2.1 hf.2.2.2, hN _ _ ?_⟩
    clear hN N
    walk_at "rs"
    exact k
def sp_holds (K : PySem.W.Frag) : Sp := fun vs H Q _ => ∃ (z : Str) (a b : Addr) (f g : Fr), vs = [.str z, .ref a, .ref b] ∧ z ∈ relL ∧ Pr K H a f.1 f.2 ∧ Pr K H b g.1 g.2 ∧ okB 4000 f ∧ okB 4000 g ∧ Q (.bl (holdsF z f g)) H
theorem ok__law_holds (T : Txt w K mg) : FnOk P w K mg base CX0 2 T.a__law_holds T.d__law_holds ["mark", "one", "two"] (sp_holds K) := by
  refine T.F__law_holds.ok sc__law_holds (fun vs H Q E h => ?_) (fun cdv A outer s H vs Q E hr h => ?_)
  · obtain ⟨z, a, b, f, g, rfl, _⟩ := h
    rfl
  · obtain ⟨z, a, b, f, g, rfl, hz, ha, hb, hf, hg, k⟩ := h
    have hr__law_order : Room 1 _ := hr.mono (by decide)
    have G__law_order := ok__law_order (P := P) (base := base) T
    refine ⟨_, (pss_cons (ps_if (pt_val (pe_callB (call_isiDK (K := K) rfl) (by rfl) T.n_isinstance (by decide +kernel) (pa_cons (pv 0) (pa_cons (pe_bltn (v := .ty "tuple") (u := .type "tuple") (by rfl) T.n_tuple (by decide +kernel) rfl) pa_nil)))) (pss_one (ps_ret (pe_cmpR op_in_sign (pe_tupU (pa_cons (pv 1) (pa_cons (pv 2) pa_nil))) (pv 0) (by rfl)))) pss_nil)
      (pss_cons (ps_set (i := 3) sc__law_holds.nd rfl (Or.inl rfl) (pe_call G__law_order hr__law_order (by rfl) T.m__law_order T.F__law_order.kp T.B__law_order .nil pass0 (pa_cons (pv 1) (pa_cons (pv 2) pa_nil))))
      (pss_cons (ps_if (pt_cmpR op_eqS (pv 0) pe_str (nomark _)) (pss_one (ps_ret (pe_cmpR op_neI (pv 3) pe_int (nomark _)))) pss_nil)
      (pss_one (ps_ret (pe_or (pe_and (pe_cmpR op_lt (pv 3) pe_int (nomark _)) (pe_one (pe_cmpR op_in_sign pe_str (pv 0) (by rfl)))) (pe_or (pe_and (pe_cmpR op_gt (pv 3) pe_int (nomark _)) (pe_one (pe_cmpR op_in_sign pe_str (pv 0) (by rfl)))) (pe_one (pe_and (pe_cmpR op_eqI (pv 3) pe_int (nomark _)) (pe_one (pe_cmpR op_in_sign pe_str (pv 0) (by rfl)))))))))))), ?_⟩
    refine seq_op fun N hN => ?_
    walk_at "rs"
    refine ⟨_, _, ⟨rfl, rfl⟩, .str z, .str z, by decide, iteFF (by exact Bool.false_ne_true) (hN _ _ ?_)⟩
    clear hN N
    refine seq_op fun N hN => ?_
    walk_at "rs"
    refine ⟨_, _, ⟨rfl, rfl⟩, f, ha, g, hb, hf, hg, hN _ _ ?_⟩
    clear hN N
    have gz := gap_zero hf hg
    have o1 := ord3_lt (gapF f g)
    have o2 := ord3_gt (gapF f g)
    have o3 := ord3_eq (gapF f g)
    generalize ord3 (gapF f g) = o at *
    have eqd : decide (f = g) = decide (o = 0) := decide_eq_decide.mpr (gz.symm.trans o3.symm)
    have ltd : decide (gapF f g < 0) = decide (o < 0) := decide_eq_decide.mpr o1.symm
    have gtd : decide (0 < gapF f g) = decide (0 < o) := decide_eq_decide.mpr o2.symm
    unfold holdsF at k
    rw [eqd, ltd, gtd] at k
    refine seq_op fun N hN => ?_
    walk_at "rs"
    refine ite2 (fun c => ?_) (fun c => hN _ _ ?_)
    · subst c
      rw [if_neg (by decide), if_pos rfl] at k
      exact k
    clear hN N
    obtain ⟨t1, t2, t3⟩ := hb_tab z hz c
    have hk : Q (.bl (hbF z (decide (o < 0)) (decide (0 < o)) (decide (o = 0)))) H := k
    walk_at "rs"
    rcases Int.lt_trichotomy o 0 with c0 | c0 | c0
    · rw [decide_eq_true c0, decide_eq_false (show ¬ 0 < o by omega), decide_eq_false (show ¬ o = 0 by omega), t1] at hk
      refine iteTT c0 ⟨60, by rfl, ite2 (fun m => ?_) (fun m => iteFF (by omega) (iteFF (by omega) ?_))⟩
      · rw [decide_eq_true m] at hk; exact hk
      · rw [decide_eq_false m] at hk; exact hk
    · rw [decide_eq_false (show ¬ o < 0 by omega), decide_eq_false (show ¬ 0 < o by omega), decide_eq_true c0, t3] at hk
      exact iteFF (by omega) (iteFF (by omega) (iteTT c0 ⟨61, by rfl, hk⟩))
    · rw [decide_eq_false (show ¬ o < 0 by omega), decide_eq_true c0, decide_eq_false (show ¬ o = 0 by omega), t2] at hk
      refine iteFF (by omega) (iteTT c0 ⟨62, by rfl, ite2 (fun m => ?_) (fun m => iteFF (by omega) ?_)⟩)
      · rw [decide_eq_true m] at hk; exact hk
      · rw [decide_eq_false m] at hk; exact hk
theorem ok__law_two (T : Txt w K mg) : FnOk P w K mg base CX0 3 T.a__law_two T.d__law_two ["sign", "one", "two"] sp_val2T := by
  refine T.F__law_two.ok sc__law_two (fun vs H Q E h => ?_) (fun cdv A outer s H vs Q E hr h => ?_)
  · obtain ⟨z, a, b, f, g, rfl, _⟩ := h
    rfl
  · obtain ⟨z, a, b, f, g, rfl, hz, haT, hbT, hf, hg, hd, k⟩ := h
    have ha : Pr K H a f.1 f.2 := haT.pr
    have hb : Pr K H b g.1 g.2 := hbT.pr
    have hr__law_order : Room 1 _ := hr.mono (by decide)
    have G__law_order := ok__law_order (P := P) (base := base) T
    have hr__law_low : Room 1 _ := hr.mono (by decide)
    have G__law_low := ok__law_low (P := P) (base := base) T
    have hr__law_holds : Room 2 _ := hr.mono (by decide)
    have G__law_holds := ok__law_holds (P := P) (base := base) T
    refine ⟨_, (pss_cons (ps_if (pt_cmpR op_in_seq (pv 0) (pe_tupU (pa_cons pe_str (pa_cons pe_str pa_nil))) (by rfl)) (pss_cons (ps_set (i := 3) sc__law_two.nd rfl (Or.inl rfl) (pe_ifExp (pt_cmpR op_eqS (pv 0) pe_str (nomark _)) pe_int (pe_un un_neg pe_int)))
      (pss_one (ps_ret (pe_call G__law_low hr__law_low (by rfl) T.m__law_low T.F__law_low.kp T.B__law_low .nil pass0 (pa_cons (pe_op op_add (pe_op op_mulW (pe_ix ix_tup (pv 1) pe_int (fun _ _ => rfl)) (pe_ix ix_tup (pv 2) pe_int (fun _ _ => rfl))) (pe_op op_mulW (pe_op op_mulW (pv 3) (pe_ix ix_tup (pv 2) pe_int (fun _ _ => rfl))) (pe_ix ix_tup (pv 1) pe_int (fun _ _ => rfl)))) (pa_cons (pe_op op_mulW (pe_ix ix_tup (pv 1) pe_int (fun _ _ => rfl)) (pe_ix ix_tup (pv 2) pe_int (fun _ _ => rfl))) pa_nil)))))) pss_nil)
      (pss_cons (ps_if (pt_cmpR op_eqS (pv 0) pe_str (nomark _)) (pss_one (ps_ret (pe_call G__law_low hr__law_low (by rfl) T.m__law_low T.F__law_low.kp T.B__law_low .nil pass0 (pa_cons (pe_op op_mulW (pe_ix ix_tup (pv 1) pe_int (fun _ _ => rfl)) (pe_ix ix_tup (pv 2) pe_int (fun _ _ => rfl))) (pa_cons (pe_op op_mulW (pe_ix ix_tup (pv 1) pe_int (fun _ _ => rfl)) (pe_ix ix_tup (pv 2) pe_int (fun _ _ => rfl))) pa_nil))))) pss_nil)
      (pss_cons (ps_if (pt_cmpR op_eqS (pv 0) pe_str (nomark _)) (pss_one (ps_ret (pe_ifExp (pt_cmpR op_lt (pe_call G__law_order hr__law_order (by rfl) T.m__law_order T.F__law_order.kp T.B__law_order .nil pass0 (pa_cons (pv 2) (pa_cons (pv 1) pa_nil))) pe_int (nomark _)) (pv 2) (pv 1)))) pss_nil)
      (pss_cons (ps_if (pt_cmpR op_eqS (pv 0) pe_str (nomark _)) (pss_one (ps_ret (pe_ifExp (pt_cmpR op_gt (pe_call G__law_order hr__law_order (by rfl) T.m__law_order T.F__law_order.kp T.B__law_order .nil pass0 (pa_cons (pv 2) (pa_cons (pv 1) pa_nil))) pe_int (nomark _)) (pv 2) (pv 1)))) pss_nil)
      (pss_cons (ps_if (pt_cmpR op_eqS (pv 0) pe_str (nomark _)) (pss_one (ps_ret (pe_tupU (pa_cons (pe_op op_fdivF (pe_ix ix_tup (pv 1) pe_int (fun _ _ => rfl)) (pe_op op_mulW (pe_ix ix_tup (pv 1) pe_int (fun _ _ => rfl)) (pe_ix ix_tup (pv 2) pe_int (fun _ _ => rfl)))) (pa_cons pe_int pa_nil))))) pss_nil)
      (pss_cons (ps_if (pt_cmpR op_eqS (pv 0) pe_str (nomark _)) (pss_one (ps_ret (pe_call G__law_low hr__law_low (by rfl) T.m__law_low T.F__law_low.kp T.B__law_low .nil pass0 (pa_cons (pe_op op_sub (pe_ix ix_tup (pv 1) pe_int (fun _ _ => rfl)) (pe_op op_mulW (pe_op op_mulW (pe_op op_fdivF (pe_ix ix_tup (pv 1) pe_int (fun _ _ => rfl)) (pe_op op_mulW (pe_ix ix_tup (pv 1) pe_int (fun _ _ => rfl)) (pe_ix ix_tup (pv 2) pe_int (fun _ _ => rfl)))) (pe_ix ix_tup (pv 2) pe_int (fun _ _ => rfl))) (pe_ix ix_tup (pv 1) pe_int (fun _ _ => rfl)))) (pa_cons (pe_ix ix_tup (pv 1) pe_int (fun _ _ => rfl)) pa_nil))))) pss_nil)
      (pss_cons (ps_if (pt_cmpR op_eqS (pv 0) pe_str (nomark _)) (pss_one (ps_ret (pe_tupU (pa_cons (pe_callTy call_int1 (by rfl) T.n_int (by decide +kernel) (pa_cons (pe_and (pe_cmpR op_neI (pe_ix ix_tup (pv 1) pe_int (fun _ _ => rfl)) pe_int (nomark _)) (pe_one (pe_cmpR op_neI (pe_ix ix_tup (pv 2) pe_int (fun _ _ => rfl)) pe_int (nomark _)))) pa_nil)) (pa_cons pe_int pa_nil))))) pss_nil)
      (pss_cons (ps_if (pt_cmpR op_eqS (pv 0) pe_str (nomark _)) (pss_one (ps_ret (pe_tupU (pa_cons (pe_callTy call_int1 (by rfl) T.n_int (by decide +kernel) (pa_cons (pe_or (pe_cmpR op_neI (pe_ix ix_tup (pv 1) pe_int (fun _ _ => rfl)) pe_int (nomark _)) (pe_one (pe_cmpR op_neI (pe_ix ix_tup (pv 2) pe_int (fun _ _ => rfl)) pe_int (nomark _)))) pa_nil)) (pa_cons pe_int pa_nil))))) pss_nil)
      (pss_one (ps_ret (pe_tupU (pa_cons (pe_callTy call_int1 (by rfl) T.n_int (by decide +kernel) (pa_cons (pe_call G__law_holds hr__law_holds (by rfl) T.m__law_holds T.F__law_holds.kp T.B__law_holds .nil pass0 (pa_cons (pv 0) (pa_cons (pv 1) (pa_cons (pv 2) pa_nil)))) pa_nil)) (pa_cons pe_int pa_nil))))))))))))), ?_⟩
    refine seq_op fun N hN => ?_
    walk_at "rs"
    refine ⟨by decide, fun p0 H0 s0 h00 h0 => ⟨[.str "+", .str "-"], .inr (.inl (.inl h0)), rfl, by decide +kernel, ite2 (fun c => ?_) (fun c => hN _ _ ?_)⟩⟩
    · have F3 := pow_le hf.2.2.1 (show 1900 ≤ 4000 by decide)
      have F4 := pow_le hf.2.2.2 (show 1900 ≤ 4000 by decide)
      have G3 := pow_le hg.2.2.1 (show 1900 ≤ 4000 by decide)
      have G4 := pow_le hg.2.2.2 (show 1900 ≤ 4000 by decide)
      have nz : f.2 * g.2 ≠ 0 := Int.mul_ne_zero (by have := hf.1; omega) (by have := hg.1; omega)
      have ha0 := Same.seqT s0 ha
      have hb0 := Same.seqT s0 hb
      have hz2 : z = "+" ∨ z = "-" := by
        have q : ∀ z ∈ nineL ++ relL, inV (.str z) [.str "+", .str "-"] = true → z = "+" ∨ z = "-" := by decide +kernel
        exact q z (by rcases hz with h | h; exact List.mem_append_right _ h; exact List.mem_append_left _ h) c
      refine cut_seq (fun σ H2 => ∃ by_ : Int, σ = [some (.str z), some (.ref a), some (.ref b), some (.int by_)] ∧ H2 = H0 ∧ ((z = "+" ∧ by_ = 1) ∨ (z = "-" ∧ by_ = -1))) (fun N hN => ?_) ?_
      · walk_at "rs"
        refine ite2 (fun c1 => hN _ _ ⟨1, rfl, rfl, .inl ⟨c1, rfl⟩⟩) (fun c1 => hN _ _ ⟨-1, rfl, rfl, .inr ⟨?_, rfl⟩⟩)
        rcases hz2 with h | h
        · exact absurd h c1
        · exact h
      · rintro σ H2 ⟨by_, rfl, rfl, hby⟩
        walk_at "rs"
        have b1 : by_.natAbs < 2 ^ 1 := by rcases hby with ⟨_, h⟩ | ⟨_, h⟩ <;> rw [h] <;> decide
        have b2 := pow_le b1 (show 1 ≤ 4000 by decide)
        have b3 : (by_ * g.1).natAbs < 2 ^ (1 + 1900) := wide_lt b1 hg.2.2.1
        have b4 := pow_le b3 (show 1901 ≤ 4000 by decide)
        have k1 : ∀ t H', Same H2 H' → PrT H' t (frP (f.1 * g.2 + by_ * g.1 * f.2) (f.2 * g.2)) (frQ (f.1 * g.2 + by_ * g.1 * f.2) (f.2 * g.2)) → Q (.ref t) H' := fun t H' s1 h => by
          have k2 := k t H' (Same.trans s0 s1)
          rcases hby with ⟨e1, e2⟩ | ⟨e1, e2⟩
          · rw [e2, Int.one_mul] at h
            rw [e1] at k2
            exact k2 h
          · rw [e2, Int.neg_mul, Int.one_mul, Int.neg_mul, ← Int.sub_eq_add_neg] at h
            rw [e1] at k2
            exact k2 h
        refine ⟨_, ha0, _, rfl, _, hb0, _, rfl, _, rfl, _, rfl, mulW F3 G4, _, hb0, _, rfl, _, rfl, mulW b2 G3, _, ha0, _, rfl, _, rfl, mulW b4 F4, _, ha0, _, rfl, _, hb0, _, rfl, _, rfl, _, rfl, mulW F4 G4, ?_⟩
        exact ⟨_, _, ⟨rfl, rfl⟩, nz, two_add (mulL F3 G4) (mulL b4 F4), pow_le (mulL F4 G4) (by decide), fun t H' s1 _ h1 => k1 t H' s1 h1⟩
    clear hN N
    replace ha := Same.seqT s0 ha
    replace hb := Same.seqT s0 hb
    obtain ⟨f1, f2, f3, f4⟩ := hf
    obtain ⟨g1, g2, g3, g4⟩ := hg
    have nz : f.2 * g.2 ≠ 0 := Int.mul_ne_zero (by omega) (by omega)
    have F3 := pow_le f3 (show 1900 ≤ 4000 by decide)
    have F4 := pow_le f4 (show 1900 ≤ 4000 by decide)
    have G3 := pow_le g3 (show 1900 ≤ 4000 by decide)
    have G4 := pow_le g4 (show 1900 ≤ 4000 by decide)
    have fk : okB 4000 f := ⟨f1, f2, F3, F4⟩
    have gk : okB 4000 g := ⟨g1, g2, G3, G4⟩
    refine seq_op fun N hN => ?_
    walk_at "rs"
    refine ite2 (fun c1 => ?_) (fun c1 => hN _ _ ?_)
    · subst c1
      exact ⟨_, ha, _, rfl, _, hb, _, rfl, _, rfl, _, rfl, mulW F3 G3, _, ha, _, rfl, _, hb, _, rfl, _, rfl, _, rfl, mulW F4 G4, _, _, ⟨rfl, rfl⟩, nz, pow_le (mulL F3 G3) (by decide), pow_le (mulL F4 G4) (by decide), fun t H' s1 _ h1 => k t H' (Same.trans s0 s1) h1⟩
    clear hN N
    refine seq_op fun N hN => ?_
    walk_at "rs"
    refine ite2 (fun c2 => ?_) (fun c2 => hN _ _ ?_)
    · subst c2
      have k' : ∀ t, PrT H0 t (if gapF g f < 0 then g else f).1 (if gapF g f < 0 then g else f).2 → Q (.ref t) H0 := fun t ht => k t H0 s0 ht
      refine ⟨_, _, ⟨rfl, rfl⟩, g, hb, f, ha, gk, fk, ite2 (fun d => ?_) (fun d => ?_)⟩
      · rw [if_pos ((ord3_lt _).mp d)] at k'; exact k' b (hbT.same s0)
      · rw [if_neg (fun q => d ((ord3_lt _).mpr q))] at k'; exact k' a (haT.same s0)
    clear hN N
    refine seq_op fun N hN => ?_
    walk_at "rs"
    refine ite2 (fun c3 => ?_) (fun c3 => hN _ _ ?_)
    · subst c3
      have k' : ∀ t, PrT H0 t (if 0 < gapF g f then g else f).1 (if 0 < gapF g f then g else f).2 → Q (.ref t) H0 := fun t ht => k t H0 s0 ht
      refine ⟨_, _, ⟨rfl, rfl⟩, g, hb, f, ha, gk, fk, ite2 (fun d => ?_) (fun d => ?_)⟩
      · rw [if_pos ((ord3_gt _).mp d)] at k'; exact k' b (hbT.same s0)
      · rw [if_neg (fun q => d ((ord3_gt _).mpr q))] at k'; exact k' a (haT.same s0)
    clear hN N
    refine seq_op fun N hN => ?_
    walk_at "rs"
    refine ite2 (fun c4 => ?_) (fun c4 => hN _ _ ?_)
    · subst c4
      obtain ⟨d1, d2, d3⟩ := hd (.inl rfl)
      have q0 : 1 ≤ f.2 * g.1 := by
        have := Int.mul_le_mul f1 d2 (by decide) (by omega)
        omega
      have cd : CDivF f.1 (f.2 * g.1) := ⟨by omega, logL (mulL F4 G3) (by decide) (by decide)⟩
      exact ⟨_, ha, _, rfl, _, ha, _, rfl, _, hb, _, rfl, _, rfl, _, rfl, mulW F4 G3, _, rfl, cd, by decide, fun p H' s1 _ h1 => k p H' (Same.trans s0 s1) h1⟩
    clear hN N
    refine seq_op fun N hN => ?_
    walk_at "rs"
    refine ite2 (fun c5 => ?_) (fun c5 => hN _ _ ?_)
    · subst c5
      obtain ⟨d1, d2, d3⟩ := hd (.inr rfl)
      have q0 : 1 ≤ f.2 * g.1 := by
        have := Int.mul_le_mul f1 d2 (by decide) (by omega)
        omega
      have cd : CDivF f.1 (f.2 * g.1) := ⟨by omega, logL (mulL F4 G3) (by decide) (by decide)⟩
      have nb : (f.1.fdiv (f.2 * g.1)).natAbs < 2 ^ 1900 := by
        refine Nat.lt_of_le_of_lt ?_ f3
        rw [Int.fdiv_eq_ediv_of_nonneg _ (by omega)]
        exact Int.natAbs_ediv_le_natAbs _ _
      have nk : (f.1.fdiv (f.2 * g.1) * g.1).natAbs < 2 ^ (1900 + 4) := wide_lt nb (show g.1.natAbs < 2 ^ 4 by omega)
      have nq : (f.1.fdiv (f.2 * g.1) * g.1 * f.2).natAbs < 2 ^ (1904 + 1900) := wide_lt nk f4
      have n1 := pow_le nb (show 1900 ≤ 4000 by decide)
      have n2 := pow_le nk (show 1904 ≤ 4000 by decide)
      have n3 := pow_le nq (show 3804 ≤ 8000 by decide)
      have em : f.1 - f.1.fdiv (f.2 * g.1) * g.1 * f.2 = f.1 % (f.2 * g.1) := by
        rw [Int.fdiv_eq_ediv_of_nonneg _ (by omega), Int.emod_def, Int.mul_assoc, Int.mul_comm g.1 f.2, Int.mul_comm (f.2 * g.1)]
      have k1 : ∀ t H', Same H0 H' → PrT H' t (frP (f.1 - f.1.fdiv (f.2 * g.1) * g.1 * f.2) f.2) (frQ (f.1 - f.1.fdiv (f.2 * g.1) * g.1 * f.2) f.2) → Q (.ref t) H' := fun t H' s1 h => k t H' (Same.trans s0 s1) h
      refine ⟨_, ha, _, rfl, _, ha, _, rfl, _, ha, _, rfl, _, hb, _, rfl, _, rfl, _, rfl, mulW F4 G3, _, rfl, cd, _, hb, _, rfl, _, rfl, mulW n1 G3, _, ha, _, rfl, _, rfl, mulW n2 F4, ?_⟩
      have n4 : (f.1 - f.1.fdiv (f.2 * g.1) * g.1 * f.2).natAbs < 2 ^ 8001 := two_sub (pow_le F3 (by decide)) n3
      exact ⟨_, rfl, _, ha, _, rfl, _, _, ⟨rfl, rfl⟩, by omega, n4, pow_le F4 (by decide), fun t H' s1 _ h1 => k1 t H' s1 h1⟩
    clear hN N
    refine seq_op fun N hN => ?_
    walk_at "rs"
    refine ite2 (fun c6 => ?_) (fun c6 => hN _ _ ?_)
    · subst c6
      have kb : ∀ (n : Int) (t : Addr) (H' : Hp), Same H0 H' → n = (tf (decide (f.1 ≠ 0) && decide (g.1 ≠ 0))).1 → H' t = some (.tup [.int n, .int 1]) → Q (.ref t) H' := fun n t H' s1 e h => by
        have k1 : PrT H' t (tf (decide (f.1 ≠ 0) && decide (g.1 ≠ 0))).1 (tf (decide (f.1 ≠ 0) && decide (g.1 ≠ 0))).2 → Q (.ref t) H' := k t H' (Same.trans s0 s1)
        rw [tf_snd, ← e] at k1
        exact k1 h
      refine ⟨_, ha, _, rfl, _, rfl, ite2 (fun d => ⟨_, hb, _, rfl, _, rfl, by decide, fun p H' s1 _ h1 => kb _ p H' s1 ?_ h1⟩) (fun d => ⟨by decide, fun p H' s1 _ h1 => kb _ p H' s1 ?_ h1⟩)⟩
      · by_cases e : g.1 = 0 <;> simp [d, e, tf]
      · simp at d
        simp [d, tf]
    clear hN N
    refine seq_op fun N hN => ?_
    walk_at "rs"
    refine ite2 (fun c7 => ?_) (fun c7 => hN _ _ ?_)
    · subst c7
      have kb : ∀ (n : Int) (t : Addr) (H' : Hp), Same H0 H' → n = (tf (decide (f.1 ≠ 0) || decide (g.1 ≠ 0))).1 → H' t = some (.tup [.int n, .int 1]) → Q (.ref t) H' := fun n t H' s1 e h => by
        have k1 : PrT H' t (tf (decide (f.1 ≠ 0) || decide (g.1 ≠ 0))).1 (tf (decide (f.1 ≠ 0) || decide (g.1 ≠ 0))).2 → Q (.ref t) H' := k t H' (Same.trans s0 s1)
        rw [tf_snd, ← e] at k1
        exact k1 h
      refine ⟨_, ha, _, rfl, _, rfl, ite2 (fun d => ⟨by decide, fun p H' s1 _ h1 => kb _ p H' s1 ?_ h1⟩) (fun d => ⟨_, hb, _, rfl, _, rfl, by decide, fun p H' s1 _ h1 => kb _ p H' s1 ?_ h1⟩)⟩
      · simp [d, tf]
      · simp at d
        by_cases e : g.1 = 0 <;> simp [d, e, tf]
    clear hN N
    walk_at "rs"
    have q : ∀ z ∈ nineL ++ relL, z ∈ relL ∨ inV (.str z) [.str "+", .str "-"] = true ∨ z = "*" ∨ z = "min" ∨ z = "max" ∨ z = "div" ∨ z = "mod" ∨ z = "and" ∨ z = "or" := by decide +kernel
    have hr2 : z ∈ relL := by
      rcases q z (by rcases hz with h | h; exact List.mem_append_right _ h; exact List.mem_append_left _ h) with h | h | h | h | h | h | h | h | h <;> first | exact h | exact absurd h (by assumption)
    rw [opF_rel hr2] at k
    refine ⟨z, a, b, f, g, rfl, hr2, ha, hb, fk, gk, .inr ⟨_, rfl, by decide, fun p H' s1 _ h1 => k p H' (Same.trans s0 s1) ?_⟩⟩
    unfold PrT; rw [h1, tf_snd]
    generalize holdsF z f g = x
    cases x <;> rfl
end
end LK

set_option Elab.async false
set_option linter.all false
set_option maxRecDepth 100000
namespace LK
open PySem PySem.Spec PyProof.Rows L2
local macro_rules | `(tactic| walk_at "rs") => `(tactic| simp only [cxK, cxNK, tCallZ, tAsg, tOp, rI0, rS0, rB0, rI, rU, tUn, rEq, rNe, rIxL, rIxT, rIxS, rSetL, rSlLU, rSlS, rSlU, rCatL, rCatU, rRepL, rIn, tVar, tC, gName, gSub, tIfS, tTest, tB, tAnd, tOr, tNot, tNotV, tAndV, tOrV, tIf, tCall, tCons, tNil, tCB, tDrop, tRet, tRetN, tNext, tLstU, tTupU, tM0, tM1, tPar, tPar3, tAug, ipI, tBM, tBM0, rAppend, rPop, tBreak, tCont, tChain, tSl, tPart, tNoPart, L2.start, List.map, List.length_cons, List.length_nil, List.replicate, List.cons_append, List.nil_append, List.append_nil, List.getElem?_cons_zero, List.getElem?_cons_succ, List.set_cons_zero, List.set_cons_succ, Option.some.injEq, V.int.injEq, V.ref.injEq, V.str.injEq, V.bl.injEq, exists_eq_left', exists_eq_left, exists_and_left, decide_eq_true_eq, List.cons.injEq, and_true, true_and, scal, Bool.not_eq_true', decide_eq_false_iff_not, Nat.zero_add, Nat.reduceAdd, Nat.reduceSub, reduceCtorEq, false_and, exists_false, false_or, or_false, CPow, CMul, CDiv, Int.reduceToNat, ↓reduceIte, wipe, sw, List.nil_append, List.singleton_append])
local macro_rules | `(tactic| walk_at "st") => `(tactic| (refine seq_op fun N hN => ?_; walk_at "rs"))
local macro_rules | `(tactic| walk_at "sd") => `(tactic| first | assumption | decide | omega)
local macro_rules | `(tactic| walk_at "rd") => `(tactic| repeat (first
  | refine ⟨_, SqL.of (by assumption), ?_⟩ | refine ⟨_, SqL.of upd_same, ?_⟩ | refine ⟨_, .inl (SqL.of (by assumption)), ?_⟩ | refine ⟨_, (by assumption : _ = some (HO.lst _)), ?_⟩ | refine ⟨_, upd_same, ?_⟩
  | refine ⟨_, rfl, ?_⟩ | refine And.intro (by walk_at "sd") ?_))

theorem Frs.last {K : PySem.W.Frag} {G : Hp} {xs : List V} {fs : List Fr} {f : Fr} (h : Frs K G xs (fs ++ [f])) : ∃ ys a, xs = ys ++ [.ref a] ∧ Frs K G ys fs ∧ Pr K G a f.1 f.2 := by
  have hl := h.len
  rw [List.length_append, List.length_singleton] at hl
  obtain ⟨a, f', h1, h2, h3⟩ := h.get (n := fs.length) (by rw [List.length_append, List.length_singleton]; omega)
  rw [List.getElem?_append_right (Nat.le_refl _), Nat.sub_self] at h2
  have e : f = f' := Option.some.inj h2
  subst e
  have ht := h.take fs.length
  rw [List.take_left] at ht
  refine ⟨_, a, ?_, ht, h3⟩
  have hi : fs.length < xs.length := by omega
  have e2 : xs[fs.length] = .ref a := by
    rw [List.getElem?_eq_getElem hi] at h1
    exact Option.some.inj h1
  conv => lhs; rw [← List.take_append_drop fs.length xs, List.drop_eq_getElem_cons hi, List.drop_eq_nil_of_le (by omega), e2]
theorem w_last : ∀ z ∈ allW, nm z = false → cutS z (some (-1)) none = ⟨#[z.cps.toList.getLastD 0]⟩ ∧ decide (z.cps.toList.getLastD 0 ∈ FIGs.cps.toList) = (opsOf z).isNone := by decide +kernel
theorem last_at (ys : List V) (v : V) : (ys ++ [v])[(ys ++ [v]).length - 1]? = some v ∧ (ys ++ [v]).dropLast = ys := by
  constructor
  · rw [List.length_append, List.length_singleton, Nat.add_sub_cancel, List.getElem?_append_right (Nat.le_refl _), Nat.sub_self]; rfl
  · exact List.dropLast_concat
section
variable {P : Program} {w : World} {K : PySem.W.Frag} {mg : Str → Option Value} {base : Heap}
def sp_worth (K : PySem.W.Frag) : Sp := fun vs H Q _ => ∃ (a d : Addr) (ws : List Str) (kvs : List (Key × V)) (tab : Str → Option Fr), vs = [.ref a, .ref d] ∧ SqT K H a (ws.map V.str) ∧ (∀ z ∈ ws, z ∈ allW) ∧ ws.length ≤ 30 ∧ walkL [101] (ws.map PyData.str) = true ∧ DTT K H d kvs tab ∧ (∀ z f, tab z = some f → okB 64 f) ∧
  lacks tab ws = [] ∧ (∀ z ∈ allW, nm z = false → tab z = none) ∧ ∀ t H' f, Same H H' → stk tab ws = [f] → PrT H' t f.1 f.2 → Q (.ref t) H'
theorem ok__law_worth (T : Txt w K mg) : FnOk P w K mg base CX0 4 T.a__law_worth T.d__law_worth ["prefix", "table"] (sp_worth K) := by
  refine T.F__law_worth.ok sc__law_worth (fun vs H Q E h => ?_) (fun cdv A outer s H vs Q E hr h => ?_)
  · obtain ⟨a, d, ws, kvs, tab, rfl, _⟩ := h
    rfl
  · obtain ⟨a, d, ws, kvs, tab, rfl, ha, hw, hl, hwalk, hD, ht, hlk, hno, k⟩ := h
    have hr__law_two : Room 3 _ := hr.mono (by decide)
    have G__law_two := ok__law_two (P := P) (base := base) T
    have hu1 : (A.deeper (envOfC "_law_worth" (defScope s__law_worth) s.heap.objs.size T.a__law_worth cdv)).units + 1 < cLine := Nat.lt_of_le_of_lt (Nat.add_le_add_left (by decide : 1 ≤ 64) _) hr.units
    refine ⟨_, (pss_cons (ps_set (i := 2) sc__law_worth.nd rfl (Or.inl rfl) (pe_lstU pa_nil))
      (pss_cons (ps_for PassesOwn.never rfl (pi_tup (pe_revT (pv 0))) (pg_name (i := 3) sc__law_worth.nd rfl (Or.inl rfl)) (pss_one (ps_if (pt_cmp (pc_din hu1 (pv 3) (pv 1))) (pss_one (ps_expr (pe_bm PySem.F.plainAttrs_list PySem.F.slot_list_append PySem.F.type_list_append mt_append (pv 2) (pa_cons (pe_dget hu1 (pv 1) (pv 3) (fun _ _ => rfl)) pa_nil)))) (pss_one (ps_if (pt_cmpR op_in_sign (pe_slice sl_str (pv 3) (po_some (pe_un un_neg pe_int)) po_none) pe_str (by rfl)) (pss_one (ps_expr (pe_bm PySem.F.plainAttrs_list PySem.F.slot_list_append PySem.F.type_list_append mt_append (pv 2) (pa_cons (pe_tupU (pa_cons (pe_callTy call_int_str (by rfl) T.n_int (by decide +kernel) (pa_cons (pv 3) pa_nil)) (pa_cons pe_int pa_nil))) pa_nil)))) (pss_cons (ps_set (i := 4) sc__law_worth.nd rfl (Or.inl rfl) (pe_bm0 PySem.F.plainAttrs_list PySem.F.slot_list_pop PySem.F.type_list_pop mt_pop (pv 2)))
      (pss_one (ps_if (pt_cmpR op_eqS (pv 3) pe_str (nomark _)) (pss_one (ps_expr (pe_bm PySem.F.plainAttrs_list PySem.F.slot_list_append PySem.F.type_list_append mt_append (pv 2) (pa_cons (pe_tupU (pa_cons (pe_callTy call_int1 (by rfl) T.n_int (by decide +kernel) (pa_cons (pe_cmpR op_eqI (pe_ix ix_tup (pv 4) pe_int (fun _ _ => rfl)) pe_int (nomark _)) pa_nil)) (pa_cons pe_int pa_nil))) pa_nil)))) (pss_one (ps_if (pt_cmpR op_eqS (pv 3) pe_str (nomark _)) (pss_cons (ps_par (i := 5) (j := 6) (by rfl) sc__law_worth.nd rfl rfl (by decide) rfl rfl (pa_cons (pe_bm0 PySem.F.plainAttrs_list PySem.F.slot_list_pop PySem.F.type_list_pop mt_pop (pv 2)) (pa_cons (pe_bm0 PySem.F.plainAttrs_list PySem.F.slot_list_pop PySem.F.type_list_pop mt_pop (pv 2)) pa_nil)) (by rfl))
      (pss_one (ps_expr (pe_bm PySem.F.plainAttrs_list PySem.F.slot_list_append PySem.F.type_list_append mt_append (pv 2) (pa_cons (pe_ifExp (pt_cmpR op_neI (pe_ix ix_tup (pv 4) pe_int (fun _ _ => rfl)) pe_int (nomark _)) (pv 5) (pv 6)) pa_nil))))) (pss_one (ps_expr (pe_bm PySem.F.plainAttrs_list PySem.F.slot_list_append PySem.F.type_list_append mt_append (pv 2) (pa_cons (pe_call G__law_two hr__law_two (by rfl) T.m__law_two T.F__law_two.kp T.B__law_two .nil pass0 (pa_cons (pv 3) (pa_cons (pv 4) (pa_cons (pe_bm0 PySem.F.plainAttrs_list PySem.F.slot_list_pop PySem.F.type_list_pop mt_pop (pv 2)) pa_nil)))) pa_nil))))))))))))))
      (pss_one (ps_ret (pe_bm0 PySem.F.plainAttrs_list PySem.F.slot_list_pop PySem.F.type_list_pop mt_pop (pv 2)))))), ?_⟩
    have hn := lacks_of hlk
    refine seq_op fun N hN => ?_
    walk_at "rs"
    refine ⟨by decide, fun p H1 s1 h0 h1 => hN _ _ ?_⟩
    clear hN N
    have hp0 : H p = none := h0
    refine cut_seq (fun σ G => ∃ (x3 x4 x5 x6 : Option V) (xs : List V), σ = [some (.ref a), some (.ref d), some (.ref p), x3, x4, x5, x6] ∧ Same H G ∧ G p = some (.lst xs) ∧ FrsT G xs (stk tab ws).reverse) (fun N hN => ?_) ?_
    · refine ⟨_, rfl, a, _, rfl, Same.seqT s1 ha, fun q H2 s2 h02 h2 => ⟨q, rfl, ⟨_, .inl (.inl h2)⟩, for_tup (K := K) (a := q) (xs := (ws.map V.str).reverse) (fun i σ G => ∃ (x3 x4 x5 x6 : Option V) (xs : List V), σ = [some (.ref a), some (.ref d), some (.ref p), x3, x4, x5, x6] ∧ Same H G ∧ G q = some (.tup (ws.map V.str).reverse) ∧ G p = some (.lst xs) ∧ FrsT G xs (stk tab (ws.drop (ws.length - i))).reverse) ⟨none, none, none, none, [], rfl, Same.trans s1 s2, h2, s2 _ _ h1, ?_⟩ (fun i σ G _ ⟨_, _, _, _, _, _, _, gq, _⟩ => .inl (.inl gq)) ?_ ?_⟩⟩
      · rw [Nat.sub_zero, List.drop_length]; exact .nil
      · rintro i y σ G hy ⟨x3, x4, x5, x6, xs, rfl, sg, gq, gp, hx⟩
        have hil : i < ws.length := by
          have := (List.getElem?_eq_some_iff.mp hy).1
          simpa using this
        have hz0 : ((ws.map V.str).reverse)[i]? = (ws[ws.length - 1 - i]?).map V.str := by
          rw [List.getElem?_reverse (by rw [List.length_map]; exact hil), List.getElem?_map, List.length_map]
        rw [hz0] at hy
        obtain ⟨z, hz, rfl⟩ := Option.map_eq_some_iff.mp hy
        have hzm : z ∈ ws := List.mem_of_getElem? hz
        have hza := hw z hzm
        have ei : ws.length - 1 - i + 1 = ws.length - i := by omega
        have esuf : ws.drop (ws.length - (i + 1)) = z :: ws.drop (ws.length - i) := by
          have h1 : ws.length - (i + 1) = ws.length - 1 - i := by omega
          rw [h1, List.drop_eq_getElem_cons (by omega), (List.getElem?_eq_some_iff.mp hz).2, ei]
        have est : stk tab (ws.drop (ws.length - (i + 1))) = stepF tab z (stk tab (ws.drop (ws.length - i))) := by rw [esuf]; rfl
        rw [est]
        obtain ⟨v, hv, hwv⟩ := walk_suffix (tab := tab) ws [101] (ws.length - 1 - i) z hw (fun c hc => .inl (by simpa using hc)) hwalk hz
        rw [ei] at hwv
        have hsub : ∀ y ∈ ws.drop (ws.length - i), y ∈ ws := fun y hy => List.mem_of_mem_drop hy
        have hst := stk_ok (tab := tab) (ws.drop (ws.length - i)) (owes z ++ v) (fun y hy => hw y (hsub y hy)) (fun y hy n => by
          obtain ⟨f, hf⟩ := Option.isSome_iff_exists.mp (hn y (hsub y hy) n)
          exact ⟨f, hf, ht y f hf⟩) (fun c hc => by
            rcases List.mem_append.mp hc with hc | hc
            · exact owes_two z hza c hc
            · exact hv c hc) hwv
        have hdl : (ws.drop (ws.length - i)).length ≤ 29 := by rw [List.length_drop]; omega
        have hDT := hD.same sg
        have hD2 := hDT.dt
        generalize stk tab (ws.drop (ws.length - i)) = st at *
        have hin : (tab z).isSome = nm z := by
          cases n : nm z with
          | true => exact hn z hzm n
          | false => rw [hno z hza n]; rfl
        have ps : ∀ (G' : Hp), Same H G' → ∀ o, Same H (upd G' p o) := fun G' s o b u e => by rw [upd_ne (ne_of_none e hp0)]; exact s b u e
        have pq : ∀ (G' : Hp) (ys : List V) (o : HO), G' q = some (.tup (ws.map V.str).reverse) → G' p = some (.lst ys) → upd G' p o q = some (.tup (ws.map V.str).reverse) := fun G' ys o h1 h2 => by
          rw [upd_ne (fun e => by rw [e, h2] at h1; cases h1)]; exact h1
        have fin : ∀ (G' : Hp) (ys : List V) (r : Addr) (f : Fr) (rest : List Fr), Same H G' → G' q = some (.tup (ws.map V.str).reverse) → G' p = some (.lst ys) → FrsT G' ys rest.reverse → PrT G' r f.1 f.2 → stepF tab z st = f :: rest →
            Same H (upd G' p (.lst (ys ++ [.ref r]))) ∧ upd G' p (.lst (ys ++ [.ref r])) q = some (.tup (ws.map V.str).reverse) ∧ ∃ x2, upd G' p (.lst (ys ++ [.ref r])) p = some (.lst x2) ∧ FrsT (upd G' p (.lst (ys ++ [.ref r]))) x2 (stepF tab z st).reverse := fun G' ys r f rest h1 h2 h3 h4 h5 h6 => by
          refine ⟨ps G' h1 _, pq G' ys _ h2 h3, _, upd_same, ?_⟩
          rw [h6, List.reverse_cons]
          exact (h4.upd h3).app (.cons (PrT.upd h3 h5) .nil)
        have hlx : xs.length ≤ 29 := by
          rw [hx.len, List.length_reverse]
          exact Nat.le_trans hst.len_le hdl
        have small : ∀ ys : List V, ys.length ≤ 29 → ys.length < sizeLine := fun ys h => Nat.lt_of_le_of_lt h (by decide)
        have tyl : ∀ (G' : Hp) (ys : List V), G' p = some (.lst ys) → tyV K "list" (.ref p) G' := fun G' ys h => .inl ⟨rfl, _, .inl (.inl h)⟩
        walk_at "rs"
        refine ⟨_, rfl, _, rfl, d, _, rfl, .inl ⟨kvs, .inr z, .inl hD2.at_, rfl, rfl⟩, ?_⟩
        rw [hD2.has, hin]
        refine ⟨_, rfl, ite2 (fun n => ?_) (fun n => ?_)⟩
        · obtain ⟨f, hf⟩ := Option.isSome_iff_exists.mp (hn z hzm n)
          obtain ⟨r, e1, e2⟩ := hDT.tr _ _ hf
          refine ⟨tyl _ _ gp, _, rfl, _, rfl, d, _, rfl, .inl ⟨kvs, .inr z, .inl hD2.at_, rfl, e1.symm⟩, xs, gp, small _ hlx, _, _, _, _, ⟨rfl, rfl, rfl, rfl⟩, ?_⟩
          exact fin G xs r f st sg gq gp hx e2 (step_name n hf)
        simp only [Bool.not_eq_true] at n
        obtain ⟨l1, l2⟩ := w_last z hza n
        refine ⟨Nat.le_trans (w_len z hza).1 (by decide), _, l1, ite2 (fun c => ?_) (fun c => ?_)⟩
        · have c4 : opsOf z = none := by
            have c' : decide (z.cps.toList.getLastD 0 ∈ FIGs.cps.toList) = true := decide_eq_true c
            rw [c'] at l2
            cases e : opsOf z with
            | none => rfl
            | some o => rw [e] at l2; cases l2
          obtain ⟨i1, i2⟩ := w_int z hza n c4
          refine ⟨tyl _ _ gp, _, i1, Nat.le_trans (w_len z hza).1 (by decide), by decide, fun r G1 s3 h03 h3 => ⟨xs, s3 _ _ gp, small _ hlx, _, _, _, _, ⟨rfl, rfl, rfl, rfl⟩, ?_⟩⟩
          exact fin G1 xs r (intOf z, 1) st (Same.trans sg s3) (s3 _ _ gq) (s3 _ _ gp) (hx.same s3) h3 (step_int n c4)
        have ⟨o, ho⟩ : ∃ o, opsOf z = some o := by
          cases e : opsOf z with
          | none => rw [e] at l2; exact absurd (of_decide_eq_true l2) c
          | some o => exact ⟨o, rfl⟩
        have ow : owes z = o.cps.toList := by
          unfold owes; rw [if_neg (by rw [n]; decide), ho]
        refine seq_op fun N2 hN2 => ?_
        walk_at "rs"
        have pop : ∀ (ow : List Nat) (n : Nat) (st : List Fr) (c : Nat), Stk (c :: ow) n st → ∃ f r m k, st = f :: r ∧ n = m + k ∧ okB (64 * m) f ∧ 0 < m ∧ (c = 107 → f.2 = 1 ∧ 1 ≤ f.1 ∧ f.1 ≤ 9) ∧ Stk ow k r := fun _ _ _ _ h => h.top
        obtain ⟨c0, cs, ec⟩ : ∃ c0 cs, owes z = c0 :: cs := by
          rcases (w_op hza ho).2 with ⟨_, e1⟩ | ⟨_, e1⟩ | ⟨_, _, ⟨_, e1⟩ | ⟨_, e1⟩⟩ <;> exact ⟨_, _, by rw [ow, e1]⟩
        rw [ec] at hst
        obtain ⟨g, r, m1, k1, rfl, en1, hg, hm1, _, hst2⟩ := hst.top
        rw [List.reverse_cons] at hx
        obtain ⟨ys, b1, rfl, hy, hb1⟩ := hx.last
        refine ⟨tyl _ _ gp, _, gp, _, (last_at ys _).1, hN2 _ _ ?_⟩
        rw [(last_at ys _).2]
        clear hN2 N2
        have hly : ys.length ≤ 29 := by rw [List.length_append, List.length_singleton] at hlx; omega
        have sg1 := ps G sg (.lst ys)
        have gq1 := pq G _ (.lst ys) gq gp
        have gp1 : upd G p (.lst ys) p = some (.lst ys) := upd_same
        have hy1 := hy.upd (o := .lst ys) gp
        have hb1' := PrT.upd (o := .lst ys) gp hb1
        have okg := hg.le (show 64 * m1 ≤ 1900 by omega)
        generalize upd G p (.lst ys) = G1 at *
        walk_at "rs"
        refine ite2 (fun e1 => ?_) (fun e1 => ?_)
        · subst e1
          refine ⟨tyl _ _ gp1, _, hb1'.pr, _, rfl, _, rfl, by decide, fun t G2 s3 h03 h3 => ⟨ys, s3 _ _ gp1, small _ hly, _, _, _, _, ⟨rfl, rfl, rfl, rfl⟩, fin G2 ys t (tf (decide (g.1 = 0))) r (Same.trans sg1 s3) (s3 _ _ gq1) (s3 _ _ gp1) (hy1.same s3) ?_ step_not⟩⟩
          unfold PrT; rw [h3, tf_snd]
          by_cases e : g.1 = 0 <;> simp [e, tf]
        refine ite2 (fun e2 => ?_) (fun e2 => ?_)
        · refine seq_op fun N2 hN2 => ?_
          walk_at "rs"
          subst e2
          have eo : owes "if" = [101, 101, 101] := by decide +kernel
          rw [eo] at ec
          have ecs : cs = [101, 101] := (List.cons.inj ec).2.symm
          subst ecs
          obtain ⟨g2, r2, m2, k2, rfl, en2, hg2, hm2, _, hst3⟩ := pop _ _ _ _ hst2
          obtain ⟨g3, r3, m3, k3, rfl, en3, hg3, hm3, _, hst4⟩ := pop _ _ _ _ hst3
          rw [List.reverse_cons] at hy1
          obtain ⟨ys2, b2, rfl, hy2, hb2⟩ := hy1.last
          rw [List.reverse_cons] at hy2
          obtain ⟨ys3, b3, rfl, hy3, hb3⟩ := hy2.last
          have d1 := (last_at (ys3 ++ [V.ref b3]) (V.ref b2)).2
          have d2 := (last_at ys3 (V.ref b3)).2
          refine ⟨tyl _ _ gp1, _, gp1, _, (last_at _ _).1, .inl ⟨rfl, _, .inl (.inl upd_same)⟩, _, upd_same, .ref b3, by rw [d1]; exact (last_at _ _).1, _, _, ⟨rfl, rfl⟩, hN2 _ _ ?_⟩
          rw [d1, d2]
          clear hN2 N2
          have gp2 : upd G1 p (.lst (ys3 ++ [V.ref b3])) p = some (.lst (ys3 ++ [V.ref b3])) := upd_same
          have sg3 := ps _ (ps G1 sg1 (.lst (ys3 ++ [V.ref b3]))) (.lst ys3)
          have gq3 := pq _ _ (.lst ys3) (pq G1 _ (.lst (ys3 ++ [V.ref b3])) gq1 gp1) gp2
          have gp3 : upd (upd G1 p (.lst (ys3 ++ [V.ref b3]))) p (.lst ys3) p = some (.lst ys3) := upd_same
          have u3 := (hy3.upd (o := .lst (ys3 ++ [V.ref b3])) gp1).upd (o := .lst ys3) gp2
          have v1 := PrT.upd (o := .lst ys3) gp2 (PrT.upd (o := .lst (ys3 ++ [V.ref b3])) gp1 hb1')
          have v2 := PrT.upd (o := .lst ys3) gp2 (PrT.upd (o := .lst (ys3 ++ [V.ref b3])) gp1 hb2)
          have v3 := PrT.upd (o := .lst ys3) gp2 (PrT.upd (o := .lst (ys3 ++ [V.ref b3])) gp1 hb3)
          have hl3 : ys3.length ≤ 29 := by
            rw [List.length_append, List.length_append] at hly; omega
          generalize upd (upd G1 p (.lst (ys3 ++ [V.ref b3]))) p (.lst ys3) = G3 at *
          walk_at "rs"
          refine ⟨tyl _ _ gp3, _, v1.pr, _, rfl, _, rfl, ite2 (fun c0 => ?_) (fun c0 => ?_)⟩
          · refine ⟨ys3, gp3, small _ hl3, _, _, _, _, ⟨rfl, rfl, rfl, rfl⟩, fin G3 ys3 b2 g2 r3 sg3 gq3 gp3 u3 v2 ?_⟩
            rw [step_if, if_neg c0]
          · refine ⟨ys3, gp3, small _ hl3, _, _, _, _, ⟨rfl, rfl, rfl, rfl⟩, fin G3 ys3 b3 g3 r3 sg3 gq3 gp3 u3 v3 ?_⟩
            rw [step_if, if_pos (Classical.byContradiction c0)]
        obtain ⟨w1, w2, _⟩ := w_two z hza e1 e2 (by rw [ho]; rfl)
        have hcs : ∃ c, cs = [c] ∧ (z = "div" ∨ z = "mod" → c = 107) := by
          rcases (w_op hza ho).2 with ⟨h, _⟩ | ⟨h, _⟩ | ⟨_, _, ⟨h, q⟩ | ⟨h, q⟩⟩
          · exact absurd h e1
          · exact absurd h e2
          · rw [ow, q] at ec
            exact ⟨107, (List.cons.inj ec).2.symm, fun _ => rfl⟩
          · rw [ow, q] at ec
            exact ⟨101, (List.cons.inj ec).2.symm, fun x => absurd x h⟩
        obtain ⟨c1, rfl, hc1⟩ := hcs
        obtain ⟨g2, r2, m2, k2, rfl, en2, hg2, hm2, dg, hst3⟩ := pop _ _ _ _ hst2
        rw [List.reverse_cons] at hy1
        obtain ⟨ys2, b2, rfl, hy2, hb2⟩ := hy1.last
        have d1 := (last_at ys2 (V.ref b2)).2
        refine ⟨tyl _ _ gp1, tyl _ _ gp1, _, gp1, _, (last_at _ _).1, ?_⟩
        rw [d1]
        have hl2 : ys2.length ≤ 29 := by
          rw [List.length_append] at hly; omega
        refine ⟨z, b1, b2, g, g2, rfl, w1, PrT.upd gp1 hb1', PrT.upd gp1 hb2, okg, hg2.le (by omega), fun x => dg (hc1 x), fun t G3 s3 ht3 => ⟨ys2, s3 _ _ upd_same, small _ hl2, _, _, _, _, ⟨rfl, rfl, rfl, rfl⟩, ?_⟩⟩
        exact fin G3 ys2 t (opF z g g2) r2 (Same.trans (ps G1 sg1 _) s3) (s3 _ _ (pq G1 _ _ gq1 gp1)) (s3 _ _ upd_same) ((hy2.upd gp1).same s3) ht3 (step_two n ho e1 e2)
      · rintro σ G ⟨x3, x4, x5, x6, xs, rfl, sg, gq, gp, hx⟩
        rw [List.length_reverse, List.length_map, Nat.sub_self, List.drop_zero] at hx
        exact hN _ _ ⟨x3, x4, x5, x6, xs, rfl, sg, gp, hx⟩
    · rintro σ G ⟨x3, x4, x5, x6, xs, rfl, sg, gp, hx⟩
      have hst := stk_ok (tab := tab) ws [101] hw (fun z hz n => by
        obtain ⟨f, hf⟩ := Option.isSome_iff_exists.mp (hn z hz n)
        exact ⟨f, hf, ht z f hf⟩) (fun c hc => .inl (by simpa using hc)) hwalk
      obtain ⟨f, r, m, k2, e1, e2, hf, hm, _, h5⟩ := hst.top
      have er : r = [] := List.eq_nil_of_length_eq_zero h5.len
      subst er
      rw [e1] at hx
      cases hx with
      | cons hp hr =>
      cases hr
      walk_at "rs"
      refine ⟨.inl ⟨rfl, _, .inl (.inl gp)⟩, _, gp, _, rfl, k _ _ f (fun b u e => by rw [upd_ne (ne_of_none e hp0)]; exact sg b u e) e1 (PrT.upd gp hp)⟩
end
end LK

set_option Elab.async false
set_option linter.all false
set_option maxRecDepth 100000
namespace LK
open PySem PySem.Spec PyProof.Rows L2
local macro_rules | `(tactic| walk_at "rs") => `(tactic| simp only [cxK, cxNK, tCallZ, tAsg, tOp, rI0, rS0, rB0, rI, rU, tUn, rEq, rNe, rIxL, rIxT, rIxS, rSetL, rSlLU, rSlS, rSlU, rCatL, rCatU, rRepL, rIn, tVar, tC, gName, gSub, tIfS, tTest, tB, tAnd, tOr, tNot, tNotV, tAndV, tOrV, tIf, tCall, tCons, tNil, tCB, tDrop, tRet, tRetN, tNext, tLstU, tTupU, tM0, tM1, tPar, tPar3, tAug, ipI, tBM, tBM0, rAppend, rPop, tBreak, tCont, tChain, tSl, tPart, tNoPart, L2.start, List.map, List.length_cons, List.length_nil, List.replicate, List.cons_append, List.nil_append, List.append_nil, List.getElem?_cons_zero, List.getElem?_cons_succ, List.set_cons_zero, List.set_cons_succ, Option.some.injEq, V.int.injEq, V.ref.injEq, V.str.injEq, V.bl.injEq, exists_eq_left', exists_eq_left, exists_and_left, decide_eq_true_eq, List.cons.injEq, and_true, true_and, scal, Bool.not_eq_true', decide_eq_false_iff_not, Nat.zero_add, Nat.reduceAdd, Nat.reduceSub, reduceCtorEq, false_and, exists_false, false_or, or_false, CPow, CMul, CDiv, Int.reduceToNat, ↓reduceIte, wipe, sw, List.nil_append, List.singleton_append])
local macro_rules | `(tactic| walk_at "st") => `(tactic| (refine seq_op fun N hN => ?_; walk_at "rs"))
local macro_rules | `(tactic| walk_at "sd") => `(tactic| first | assumption | decide | omega)
local macro_rules | `(tactic| walk_at "rd") => `(tactic| repeat (first
  | refine ⟨_, SqL.of (by assumption), ?_⟩ | refine ⟨_, SqL.of upd_same, ?_⟩ | refine ⟨_, .inl (SqL.of (by assumption)), ?_⟩ | refine ⟨_, (by assumption : _ = some (HO.lst _)), ?_⟩ | refine ⟨_, upd_same, ?_⟩
  | refine ⟨_, rfl, ?_⟩ | refine And.intro (by walk_at "sd") ?_))

theorem op_notIn_seqK {X : Cx} {K : PySem.W.Frag} (hK : X.K = K) : OpR X (compareOp .NotIn) (rIn K true) := by subst hK; exact op_notIn_seq
theorem inV_map (z : Str) (l : List Str) : inV (.str z) (l.map V.str) = decide (z ∈ l) := by
  induction l with
  | nil => rfl
  | cons a l ih =>
    have e : inV (.str z) ((a :: l).map V.str) = (eqV (.str a) (.str z) || inV (.str z) (l.map V.str)) := rfl
    rw [e, ih]
    have q : eqV (.str a) (.str z) = decide (a = z) := by
      show (_ == _) = _
      exact Bool.beq_eq_decide_eq _ _
    rw [q]
    by_cases h : a = z
    · subst h; simp
    · have h' : ¬ z = a := fun e => h e.symm
      simp [h, h']
theorem flat_strs (l : List Str) : (l.map V.str).all flatV = true := List.all_eq_true.mpr fun v hv => by
  obtain ⟨z, _, rfl⟩ := List.mem_map.mp hv
  rfl
theorem w_named : ∀ z ∈ allW, (Txt.islower (cutS z none (some 1)) && !inV (.str z) [.str "min", .str "max", .str "mod", .str "div", .str "and", .str "or", .str "not", .str "if"]) = nm z := by decide +kernel
section
variable {P : Program} {w : World} {K : PySem.W.Frag} {mg : Str → Option Value} {base : Heap}
theorem ok__law_once (T : Txt w K mg) : FnOk P w K mg base CX0 1 T.a__law_once T.d__law_once ["things"] (fun vs H Q _ => ∃ (a : Addr) (ws : List Str), vs = [.ref a] ∧ (SqL K H a (ws.map V.str) ∨ SqT K H a (ws.map V.str)) ∧ ws.length ≤ 30 ∧ ∀ t H', Same H H' → H t = none → H' t = some (.lst ((onceS ws).map V.str)) → Q (.ref t) H') := by
  refine T.F__law_once.ok sc__law_once (fun vs H Q E h => ?_) (fun cdv A outer s H vs Q E hr h => ?_)
  · obtain ⟨a, ws, rfl, _⟩ := h
    rfl
  · obtain ⟨a, ws, rfl, ha, hl, k⟩ := h
    refine ⟨_, (pss_cons (ps_set (i := 1) sc__law_once.nd rfl (Or.inl rfl) (pe_lstU pa_nil))
      (pss_cons (ps_for PassesOwn.never rfl (pi_lt (pv 0)) (pg_name (i := 2) sc__law_once.nd rfl (Or.inl rfl)) (pss_one (ps_if (pt_cmpR op_notIn_seq (pv 2) (pv 1) (by rfl)) (pss_one (ps_expr (pe_bm PySem.F.plainAttrs_list PySem.F.slot_list_append PySem.F.type_list_append mt_append (pv 1) (pa_cons (pv 2) pa_nil)))) pss_nil)))
      (pss_one (ps_ret (pv 1))))), ?_⟩
    refine seq_op fun N hN => ?_
    walk_at "rs"
    refine ⟨by decide, fun p H1 s1 h0 h1 => hN _ _ ?_⟩
    clear hN N
    refine cut_seq (fun σ G => ∃ x, σ = [some (.ref a), some (.ref p), x] ∧ Same H G ∧ G p = some (.lst ((onceS ws).map V.str))) (fun N hN => ?_) ?_
    · rcases ha with ha | ha
      · refine .inl ⟨_, rfl, a, rfl, ⟨_, Same.seq s1 ha⟩, for_list (K := K) (a := a) (xs := ws.map V.str) (fun i σ G => ∃ x, σ = [some (.ref a), some (.ref p), x] ∧ Same H G ∧ G p = some (.lst ((onceS (ws.take i)).map V.str))) ⟨none, rfl, s1, h1⟩ (fun i σ G _ ⟨_, _, sg, _⟩ => Same.seq sg ha) ?_ ?_⟩
        · rintro i y σ G hy ⟨x, rfl, sg, gp⟩
          rw [List.getElem?_map] at hy
          obtain ⟨z, hz, rfl⟩ := Option.map_eq_some_iff.mp hy
          have et : ws.take (i + 1) = ws.take i ++ [z] := by rw [List.take_succ, hz]; rfl
          have en : onceS (ws.take (i + 1)) = addS (onceS (ws.take i)) z := by
            rw [et]; unfold onceS; rw [List.foldl_append]; rfl
          have hl2 : (onceS (ws.take i)).length ≤ 30 := by
            have h3 := len_foldS (ws.take i) []
            rw [List.length_take] at h3
            unfold onceS
            simp at h3 ⊢
            omega
          walk_at "rs"
          refine ⟨_, .inl (.inl (.inl gp)), rfl, flat_strs _, ?_⟩
          rw [inV_map]
          refine ite2 (fun c => ?_) (fun c => ?_)
          · have c' : z ∉ onceS (ws.take i) := of_decide_eq_false c
            refine ⟨.inl ⟨rfl, _, .inl (.inl gp)⟩, _, gp, ?_, fun b o e => by rw [upd_ne (ne_of_none e h0)]; exact sg b o e, ?_⟩
            · rw [List.length_map]; exact Nat.lt_of_le_of_lt hl2 (by decide)
            · rw [upd_same, en, addS, if_neg c', List.map_append]; rfl
          · have c' : z ∈ onceS (ws.take i) := by
              simpa using c
            exact ⟨sg, by rw [en, addS, if_pos c']; exact gp⟩
        · rintro σ G ⟨x, rfl, sg, gp⟩
          rw [List.length_map, List.take_length] at gp
          exact hN _ _ ⟨x, rfl, sg, gp⟩
      · refine .inr ⟨_, rfl, a, rfl, ⟨_, Same.seqT s1 ha⟩, for_tup (K := K) (a := a) (xs := ws.map V.str) (fun i σ G => ∃ x, σ = [some (.ref a), some (.ref p), x] ∧ Same H G ∧ G p = some (.lst ((onceS (ws.take i)).map V.str))) ⟨none, rfl, s1, h1⟩ (fun i σ G _ ⟨_, _, sg, _⟩ => Same.seqT sg ha) ?_ ?_⟩
        · rintro i y σ G hy ⟨x, rfl, sg, gp⟩
          rw [List.getElem?_map] at hy
          obtain ⟨z, hz, rfl⟩ := Option.map_eq_some_iff.mp hy
          have et : ws.take (i + 1) = ws.take i ++ [z] := by rw [List.take_succ, hz]; rfl
          have en : onceS (ws.take (i + 1)) = addS (onceS (ws.take i)) z := by
            rw [et]; unfold onceS; rw [List.foldl_append]; rfl
          have hl2 : (onceS (ws.take i)).length ≤ 30 := by
            have h3 := len_foldS (ws.take i) []
            rw [List.length_take] at h3
            unfold onceS
            simp at h3 ⊢
            omega
          walk_at "rs"
          refine ⟨_, .inl (.inl (.inl gp)), rfl, flat_strs _, ?_⟩
          rw [inV_map]
          refine ite2 (fun c => ?_) (fun c => ?_)
          · have c' : z ∉ onceS (ws.take i) := of_decide_eq_false c
            refine ⟨.inl ⟨rfl, _, .inl (.inl gp)⟩, _, gp, ?_, fun b o e => by rw [upd_ne (ne_of_none e h0)]; exact sg b o e, ?_⟩
            · rw [List.length_map]; exact Nat.lt_of_le_of_lt hl2 (by decide)
            · rw [upd_same, en, addS, if_neg c', List.map_append]; rfl
          · have c' : z ∈ onceS (ws.take i) := by
              simpa using c
            exact ⟨sg, by rw [en, addS, if_pos c']; exact gp⟩
        · rintro σ G ⟨x, rfl, sg, gp⟩
          rw [List.length_map, List.take_length] at gp
          exact hN _ _ ⟨x, rfl, sg, gp⟩
    · rintro σ G ⟨x, rfl, s2, h2⟩
      walk_at "rs"
      exact k p G s2 h0 h2
theorem ok__law_named (T : Txt w K mg) : FnOk P w K mg base CX0 2 T.a__law_named T.d__law_named ["prefix"] (fun vs H Q _ => ∃ (a : Addr) (ws : List Str), vs = [.ref a] ∧ SqT K H a (ws.map V.str) ∧ (∀ z ∈ ws, z ∈ allW) ∧ ws.length ≤ 30 ∧ ∀ t H', Same H H' → H t = none → H' t = some (.lst ((namesOf ws).map V.str)) → Q (.ref t) H') := by
  refine T.F__law_named.ok sc__law_named (fun vs H Q E h => ?_) (fun cdv A outer s H vs Q E hr h => ?_)
  · obtain ⟨a, ws, rfl, _⟩ := h
    rfl
  · obtain ⟨a, ws, rfl, ha, hw, hl, k⟩ := h
    have hr__law_once : Room 1 _ := hr.mono (by decide)
    have G__law_once := ok__law_once (P := P) (base := base) T
    refine ⟨_, (pss_cons (ps_set (i := 1) sc__law_named.nd rfl (Or.inr rfl) (pe_lstU (pa_cons pe_str (pa_cons pe_str (pa_cons pe_str (pa_cons pe_str (pa_cons pe_str (pa_cons pe_str (pa_cons pe_str (pa_cons pe_str pa_nil))))))))))
      (pss_one (ps_ret (pe_call G__law_once hr__law_once (by rfl) T.m__law_once T.F__law_once.kp T.B__law_once .nil pass0 (pa_cons (pe_lc (own := [("part", 2)]) (g := gName 2) (tt := _) rfl sc__law_named.nd (pi_tup (pv 0)) (blkOk_by (own := [("part", 2)]) (N := N__law_named) (sc := defScope s__law_named) (by decide +kernel)) (fun _ _ _ _ _ => pg_name (i := 2) sc__law_named.nd rfl (Or.inl rfl)) (fun _ _ _ _ _ => pts_one (PW.pt (pw_and (pt_val (pe_m0 PySem.F.slot_str_islower PySem.F.type_str_islower mt_islower (pe_slice sl_str (pv 2) po_none (po_some pe_int)))) (pw_and1 (pt_cmpR (op_notIn_seqK (K := K) rfl) (pv 2) (pv 1) (by rfl)))))) (fun _ _ _ _ _ => (pv 2))) pa_nil))))), ?_⟩
    refine seq_op fun N hN => ?_
    walk_at "rs"
    refine ⟨by decide, fun p H1 s1 h0 h1 => hN _ _ ?_⟩
    clear hN N
    walk_at "rs"
    have ha1 := Same.seqT s1 ha
    refine ⟨_, rfl, a, rfl, ⟨_, ha1⟩, fun D hD => lc_it (walk_tup (K := K) (a := a) (xs := ws.map V.str)) (fun i G => G D = some (.lst ((ws.take i).filter nm |>.map V.str)) ∧ Same H1 G) ⟨upd_same, same_upd hD⟩ (fun i G _ h => Same.seqT h.2 ha1) ?_ ?_⟩
    · rintro i x G G' hi ⟨h3, h4⟩ ⟨rfl, hy⟩
      rw [List.getElem?_map] at hy
      obtain ⟨z, hz, rfl⟩ := Option.map_eq_some_iff.mp hy
      have hza := hw z (List.mem_of_getElem? hz)
      have et : ws.take (i + 1) = ws.take i ++ [z] := by rw [List.take_succ, hz]; rfl
      have w1 := w_named z hza
      walk_at "rs"
      have yes : nm z = true → upd G' D (.lst ((((ws.take i).filter nm).map V.str) ++ [V.str z])) D = some (.lst (((ws.take (i + 1)).filter nm).map V.str)) := fun n => by
        rw [upd_same, et, List.filter_append, List.filter_cons_of_pos n, List.map_append]; rfl
      have no : ¬ nm z = true → G' D = some (.lst (((ws.take (i + 1)).filter nm).map V.str)) := fun n => by
        rw [h3, et, List.filter_append, List.filter_cons_of_neg n, List.filter_nil, List.append_nil]
      have up : ∀ o, Same H1 (upd G' D o) := fun o b u e => by rw [upd_ne (ne_of_none e hD)]; exact h4 b u e
      have sl : (((ws.take i).filter nm).map V.str).length < sizeLine := by
        rw [List.length_map]
        have q := List.length_filter_le nm (ws.take i)
        rw [List.length_take] at q
        exact Nat.lt_of_le_of_lt (show _ ≤ 30 by omega) (by decide)
      refine ⟨Nat.le_trans (w_len z hza).1 (by decide), ⟨_, rfl⟩, ite2 (fun c => ?_) (fun c => ?_)⟩
      · rw [c, Bool.true_and] at w1
        refine ⟨_, .inl (.inl (.inl (h4 _ _ h1))), rfl, rfl, ite2 (fun c2 => ?_) (fun c2 => ?_)⟩
        · rw [c2] at w1
          exact ⟨_, h3, sl, yes w1.symm, up _⟩
        · refine ⟨no ?_, h4⟩
          simp only [Bool.not_eq_false] at c2
          rw [c2] at w1
          rw [← w1]; decide
      · refine ⟨no ?_, h4⟩
        simp only [Bool.not_eq_true] at c
        rw [c, Bool.false_and] at w1
        rw [← w1]; decide
    · rintro G ⟨h3, h4⟩
      rw [List.length_map, List.take_length] at h3
      refine ⟨D, rfl, ws.filter nm, .inl (.inl (.inl h3)), Nat.le_trans (List.length_filter_le _ _) hl, fun t H' s2 h02 h2 => ?_⟩
      exact k t H' (Same.trans s1 (Same.trans h4 s2)) (Same.dom (Same.trans s1 h4) t h02) h2
end
end LK

set_option Elab.async false
set_option linter.all false
set_option maxRecDepth 100000
namespace LK
open PySem PySem.Spec PyProof.Rows L2
local macro_rules | `(tactic| walk_at "rs") => `(tactic| simp only [cxK, cxNK, tCallZ, tAsg, tOp, rI0, rS0, rB0, rI, rU, tUn, rEq, rNe, rIxL, rIxT, rIxS, rSetL, rSlLU, rSlS, rSlU, rCatL, rCatU, rRepL, rIn, tVar, tC, gName, gSub, tIfS, tTest, tB, tAnd, tOr, tNot, tNotV, tAndV, tOrV, tIf, tCall, tCons, tNil, tCB, tDrop, tRet, tRetN, tNext, tLstU, tTupU, tM0, tM1, tPar, tPar3, tAug, ipI, tBM, tBM0, rAppend, rPop, tBreak, tCont, tChain, tSl, tPart, tNoPart, L2.start, List.map, List.length_cons, List.length_nil, List.replicate, List.cons_append, List.nil_append, List.append_nil, List.getElem?_cons_zero, List.getElem?_cons_succ, List.set_cons_zero, List.set_cons_succ, Option.some.injEq, V.int.injEq, V.ref.injEq, V.str.injEq, V.bl.injEq, exists_eq_left', exists_eq_left, exists_and_left, decide_eq_true_eq, List.cons.injEq, and_true, true_and, scal, Bool.not_eq_true', decide_eq_false_iff_not, Nat.zero_add, Nat.reduceAdd, Nat.reduceSub, reduceCtorEq, false_and, exists_false, false_or, or_false, CPow, CMul, CDiv, Int.reduceToNat, ↓reduceIte, wipe, sw, List.nil_append, List.singleton_append])
local macro_rules | `(tactic| walk_at "st") => `(tactic| (refine seq_op fun N hN => ?_; walk_at "rs"))
local macro_rules | `(tactic| walk_at "sd") => `(tactic| first | assumption | decide | omega)
local macro_rules | `(tactic| walk_at "rd") => `(tactic| repeat (first
  | refine ⟨_, SqL.of (by assumption), ?_⟩ | refine ⟨_, SqL.of upd_same, ?_⟩ | refine ⟨_, .inl (SqL.of (by assumption)), ?_⟩ | refine ⟨_, (by assumption : _ = some (HO.lst _)), ?_⟩ | refine ⟨_, upd_same, ?_⟩
  | refine ⟨_, rfl, ?_⟩ | refine And.intro (by walk_at "sd") ?_))

/-! ### ascending lists of fractions -/
abbrev okF (f : Fr) : Prop := okB 1990 f
def ltF (f g : Fr) : Bool := decide (f.1 * g.2 < g.1 * f.2)
/-- the merging -/
def mg2 : List Fr → List Fr → List Fr
  | [], m => m
  | f :: l, [] => f :: l
  | f :: l, g :: m => if f = g then mg2 l (g :: m) else if ltF f g = true then f :: mg2 l (g :: m) else g :: mg2 (f :: l) m
termination_by l m => l.length + m.length
theorem mg2_nil (l : List Fr) : mg2 l [] = l := by cases l <;> simp [mg2]
theorem mg2_cons (f g : Fr) (l m : List Fr) : mg2 (f :: l) (g :: m) = if f = g then mg2 l (g :: m) else if ltF f g = true then f :: mg2 l (g :: m) else g :: mg2 (f :: l) m := by rw [mg2]
theorem drop_at {l : List Fr} {i : Nat} {f : Fr} (h : l[i]? = some f) : l.drop i = f :: l.drop (i + 1) := by
  obtain ⟨hi, rfl⟩ := List.getElem?_eq_some_iff.mp h
  exact List.drop_eq_getElem_cons hi
def sp_merged (K : PySem.W.Frag) : Sp := fun vs H Q _ => ∃ (a b : Addr) (xs ys : List V) (fs gs : List Fr), vs = [.ref a, .ref b] ∧ SqT K H a xs ∧ SqT K H b ys ∧ Frs K H xs fs ∧ Frs K H ys gs ∧ (∀ f ∈ fs, okF f) ∧ (∀ f ∈ gs, okF f) ∧ fs.length + gs.length ≤ 10000 ∧
  ∀ (t : Addr) (zs : List V) H', Same H H' → SqT K H' t zs → Frs K H' zs (mg2 fs gs) → Q (.ref t) H'
section
variable {P : Program} {w : World} {K : PySem.W.Frag} {mg : Str → Option Value} {base : Heap}
theorem ok_merged (T : Txt w K mg) : FnOk P w K mg base CX0 2 T.a_merged T.d_merged ["low", "high"] (sp_merged K) := by
  refine T.F_merged.ok sc_merged (fun vs H Q E h => ?_) (fun cdv A outer s H vs Q E hr h => ?_)
  · obtain ⟨a, b, xs, ys, fs, gs, rfl, _⟩ := h
    rfl
  · obtain ⟨a, b, xs, ys, fs, gs, rfl, ha, hb, hf, hg, of, og, hl, k⟩ := h
    have hr_below : Room 1 _ := hr.mono (by decide)
    have G_below := ok_below (P := P) (base := base) T
    refine ⟨_, (pss_cons (ps_set (i := 2) sc_merged.nd rfl (Or.inl rfl) (pe_lstU pa_nil))
      (pss_cons (ps_set (i := 3) sc_merged.nd rfl (Or.inl rfl) pe_int)
      (pss_cons (ps_set (i := 4) sc_merged.nd rfl (Or.inl rfl) pe_int)
      (pss_cons (ps_while PassesOwn.never (PW.pt (pw_and (pt_cmpR op_lt (pv 3) (pe_callB call_len_seq (by rfl) T.n_len (by decide +kernel) (pa_cons (pv 0) pa_nil)) (nomark _)) (pw_and1 (pt_cmpR op_lt (pv 4) (pe_callB call_len_seq (by rfl) T.n_len (by decide +kernel) (pa_cons (pv 1) pa_nil)) (nomark _))))) (pss_one (ps_if (pt_cmpR (op_eqD hr.units) (pe_ix ix_tup (pv 0) (pv 3) (fun _ _ => rfl)) (pe_ix ix_tup (pv 1) (pv 4) (fun _ _ => rfl)) (nomark _)) (pss_one (ps_aug (i := 3) sc_merged.nd rfl (Or.inl rfl) pe_int ip_add)) (pss_one (ps_if (pt_val (pe_call G_below hr_below (by rfl) T.m_below T.F_below.kp T.B_below .nil pass0 (pa_cons (pe_ix ix_tup (pv 0) (pv 3) (fun _ _ => rfl)) (pa_cons (pe_ix ix_tup (pv 1) (pv 4) (fun _ _ => rfl)) pa_nil)))) (pss_cons (ps_expr (pe_bm PySem.F.plainAttrs_list PySem.F.slot_list_append PySem.F.type_list_append mt_append (pv 2) (pa_cons (pe_ix ix_tup (pv 0) (pv 3) (fun _ _ => rfl)) pa_nil)))
      (pss_one (ps_aug (i := 3) sc_merged.nd rfl (Or.inl rfl) pe_int ip_add))) (pss_cons (ps_expr (pe_bm PySem.F.plainAttrs_list PySem.F.slot_list_append PySem.F.type_list_append mt_append (pv 2) (pa_cons (pe_ix ix_tup (pv 1) (pv 4) (fun _ _ => rfl)) pa_nil)))
      (pss_one (ps_aug (i := 4) sc_merged.nd rfl (Or.inl rfl) pe_int ip_add))))))))
      (pss_one (ps_ret (pe_op op_catU (pe_op op_catU (pe_callTy call_tupleN (by rfl) T.n_tuple (by decide +kernel) (pa_cons (pv 2) pa_nil)) (pe_slice sl_tupU (pv 0) (po_some (pv 3)) po_none)) (pe_slice sl_tupU (pv 1) (po_some (pv 4)) po_none)))))))), ?_⟩
    refine seq_op fun N hN => ?_
    walk_at "rs"
    refine ⟨by decide, fun p H1 s1 h01 h1 => hN _ _ ?_⟩
    clear hN N
    refine seq_op fun N hN => ?_
    walk_at "rs"
    refine hN _ _ ?_
    clear hN N
    refine seq_op fun N hN => ?_
    walk_at "rs"
    refine hN _ _ ?_
    clear hN N
    have np : ∀ {H2 : Hp}, True := trivial
    refine cut_seq (fun σ H2 => ∃ (i j : Nat) (zs : List V) (os : List Fr), σ = [some (.ref a), some (.ref b), some (.ref p), some (.int (i : Int)), some (.int (j : Int))] ∧ Same H H2 ∧ H2 p = some (.lst zs) ∧ Frs K H2 zs os ∧ os ++ mg2 (fs.drop i) (gs.drop j) = mg2 fs gs ∧ i ≤ fs.length ∧ j ≤ gs.length ∧ zs.length ≤ i + j ∧ (i = fs.length ∨ j = gs.length)) (fun N hN => ?_) ?_
    · refine while_by (fun σ H2 => ∃ (i j : Nat) (zs : List V) (os : List Fr), σ = [some (.ref a), some (.ref b), some (.ref p), some (.int (i : Int)), some (.int (j : Int))] ∧ Same H H2 ∧ H2 p = some (.lst zs) ∧ Frs K H2 zs os ∧ os ++ mg2 (fs.drop i) (gs.drop j) = mg2 fs gs ∧ i ≤ fs.length ∧ j ≤ gs.length ∧ zs.length ≤ i + j) (fun (σ : L2.St) (_ : Hp) => match σ with
          | [_, _, _, some (V.int i), some (V.int j)] => fs.length + gs.length - (i.toNat + j.toNat)
          | _ => 0) ⟨0, 0, [], [], rfl, s1, h1, .nil, rfl, Nat.zero_le _, Nat.zero_le _, Nat.zero_le _⟩ ?_ ?_
      · rintro σ H2 ⟨i, j, zs, os, rfl, s2, h2, hz, he, hi, hj, hzl⟩
        have ha2 := Same.seqT s2 ha
        have hb2 := Same.seqT s2 hb
        walk_at "rs"
        refine ⟨xs, .inr ha2, ite2 (fun c1 => ⟨ys, .inr hb2, ite2 (fun c2 => ?_) (fun c2 => hN _ _ ⟨i, j, zs, os, rfl, s2, h2, hz, he, hi, hj, hzl, .inr (by have := hg.len; omega)⟩)⟩) (fun c1 => hN _ _ ⟨i, j, zs, os, rfl, s2, h2, hz, he, hi, hj, hzl, .inl (by have := hf.len; omega)⟩)⟩
        have lf := hf.len
        have lg := hg.len
        have ci : i < fs.length := by omega
        have cj : j < gs.length := by omega
        obtain ⟨u, f, xu, fu, hu⟩ := hf.get ci
        obtain ⟨v, g, yv, gv, hv⟩ := hg.get cj
        have hu2 : Pr K H2 u f.1 f.2 := Same.seqT s2 hu
        have hv2 : Pr K H2 v g.1 g.2 := Same.seqT s2 hv
        rw [drop_at fu, drop_at gv] at he
        refine ⟨xs, ha2, _, at_ofN rfl xu, ys, hb2, _, at_ofN rfl yv, _, _, dp_pair hu2, dp_pair hv2, shaped2 _ _, shaped2 _ _, _, rfl, ?_⟩
        rw [eqv_pair]
        refine ite2 (fun e => ?_) (fun e => ?_)
        · have efg : f = g := by
            rw [Bool.and_eq_true, decide_eq_true_iff, decide_eq_true_iff] at e
            exact Prod.ext e.1 e.2
          refine ⟨⟨i + 1, j, ⟨rfl, rfl⟩, s2, zs, h2, os, hz, ?_, by omega, hj, by omega⟩, by omega⟩
          rw [drop_at gv, ← he, mg2_cons, if_pos efg]
        · have efg : f ≠ g := fun z => e (by rw [z, decide_eq_true rfl, decide_eq_true rfl]; rfl)
          have lim : ∀ {f : Fr}, okF f → f.1.natAbs < 2 ^ 4000 ∧ f.2.natAbs < 2 ^ 4000 := fun h => ⟨pow_le h.2.2.1 (by decide), pow_le h.2.2.2 (by decide)⟩
          obtain ⟨l1, l2⟩ := lim (of f (List.mem_of_getElem? fu))
          obtain ⟨l3, l4⟩ := lim (og g (List.mem_of_getElem? gv))
          refine ⟨xs, ha2, _, at_ofN rfl xu, ys, hb2, _, at_ofN rfl yv, u, v, ⟨rfl, rfl⟩, _, _, hu2, _, _, hv2, l1, l2, l3, l4, ite2 (fun c => ?_) (fun c => ?_)⟩
          · refine seq_op fun N2 hN2 => ?_
            walk_at "rs"
            refine ⟨.inl ⟨rfl, _, SqL.of h2⟩, xs, ha2, _, at_ofN rfl xu, zs, h2, Nat.lt_of_le_of_lt (show zs.length ≤ 20000 by omega) (by decide), hN2 _ _ ?_⟩
            clear hN2 N2
            walk_at "rs"
            refine ⟨⟨i + 1, j, ⟨rfl, rfl⟩, fun b' o e' => by rw [upd_ne (ne_of_none e' h01)]; exact s2 b' o e', _, upd_same, os ++ [f], (hz.upd h2).app (Frs.one (seqT_upd h2 hu2)), ?_, by omega, hj, by rw [List.length_append]; simp only [List.length_cons, List.length_nil]; omega⟩, by omega⟩
            rw [drop_at gv, ← he, mg2_cons, if_neg efg, if_pos (show ltF f g = true from decide_eq_true c), List.append_assoc]; rfl
          · refine seq_op fun N2 hN2 => ?_
            walk_at "rs"
            refine ⟨.inl ⟨rfl, _, SqL.of h2⟩, ys, hb2, _, at_ofN rfl yv, zs, h2, Nat.lt_of_le_of_lt (show zs.length ≤ 20000 by omega) (by decide), hN2 _ _ ?_⟩
            clear hN2 N2
            walk_at "rs"
            refine ⟨⟨i, j + 1, ⟨rfl, rfl⟩, fun b' o e' => by rw [upd_ne (ne_of_none e' h01)]; exact s2 b' o e', _, upd_same, os ++ [g], (hz.upd h2).app (Frs.one (seqT_upd h2 hv2)), ?_, hi, by omega, by rw [List.length_append]; simp only [List.length_cons, List.length_nil]; omega⟩, by omega⟩
            rw [drop_at fu, ← he, mg2_cons, if_neg efg, if_neg (show ¬ ltF f g = true from fun z => c (of_decide_eq_true z)), List.append_assoc]; rfl
      · intro σ H2 Q1 Q2 h hq
        revert hq
        walk_at "rs"
        rintro ⟨v, e3, v1, e0, p1, rfl, x, hx, i, rfl, hq⟩
        refine ⟨_, e3, _, e0, p1, rfl, x, hx, i, rfl, ite2 (fun c => ?_) (fun c => ?_)⟩
        · rw [if_pos c] at hq
          obtain ⟨v, e4, v2, e1, p2, rfl, y, hy, j, rfl, hq⟩ := hq
          exact ⟨_, e4, _, e1, p2, rfl, y, hy, j, rfl, h _ _ hq⟩
        · rw [if_neg c] at hq
          exact h _ _ hq
    · rintro σ H2 ⟨i, j, zs, os, rfl, s2, h2, hz, he, hi, hj, hzl, hend⟩
      walk_at "rs"
      have ha2 := Same.seqT s2 ha
      have hb2 := Same.seqT s2 hb
      have lf := hf.len
      have lg := hg.len
      have big : ∀ {n : Nat}, n ≤ 100000 → n ≤ sizeLine := fun h => Nat.le_trans h (by decide)
      refine ⟨zs, SqL.of h2, fun q H3 s3 h03 h3 => ⟨xs, Same.seqT s3 ha2, fun q4 H4 s4 h4 => ⟨zs, Same.seqT s4 (.inl (.inl h3)), _, h4, ?_, fun q5 H5 s5 h5 => ⟨ys, Same.seqT s5 (Same.seqT s4 (Same.seqT s3 hb2)), fun q6 H6 s6 h6 => ⟨_, Same.seqT s6 h5, _, h6, ?_, fun q7 H7 s7 h7 => ?_⟩⟩⟩⟩⟩
      · have := cutV_length xs (some (i : Int)) none
        exact big (by omega)
      · have l1 := cutV_length xs (some (i : Int)) none
        have l2 := cutV_length ys (some (j : Int)) none
        rw [List.length_append]
        exact big (by omega)
      · rw [cutV_drop, cutV_drop] at h7
        have ss : Same H2 H7 := Same.trans s3 (Same.trans s4 (Same.trans s5 (Same.trans s6 s7)))
        have sH : Same H H7 := Same.trans s2 ss
        refine k q7 _ H7 sH h7 ?_
        have e : mg2 fs gs = os ++ fs.drop i ++ gs.drop j := by
          rw [← he]
          rcases hend with rfl | rfl
          · rw [List.drop_length, List.append_nil]; simp [mg2]
          · rw [List.drop_length, List.append_nil, mg2_nil]
        rw [e]
        exact ((hz.same ss).app ((hf.drop i).same sH)).app ((hg.drop j).same sH)
end
theorem ltF_trans {f g h : Fr} (hf : okF f) (hg : okF g) (hh : okF h) (h1 : ltF f g = true) (h2 : ltF g h = true) : ltF f h = true := by
  obtain ⟨p, q⟩ := f; obtain ⟨r, s⟩ := g; obtain ⟨t, u⟩ := h
  have a1 : p * s < r * q := of_decide_eq_true h1
  have a2 : r * u < t * s := of_decide_eq_true h2
  refine decide_eq_true ?_
  show p * u < t * q
  have q0 : 0 < q := by have := hf.1; omega
  have s0 : 0 < s := by have := hg.1; omega
  have u0 : 0 < u := by have := hh.1; omega
  have b1 : p * s * u < r * q * u := Int.mul_lt_mul_of_pos_right a1 u0
  have b2 : r * u * q < t * s * q := Int.mul_lt_mul_of_pos_right a2 q0
  have e1 : r * q * u = r * u * q := by rw [Int.mul_assoc, Int.mul_assoc, Int.mul_comm q u]
  have e2 : p * s * u = p * u * s := by rw [Int.mul_assoc, Int.mul_assoc, Int.mul_comm s u]
  have e3 : t * s * q = t * q * s := by rw [Int.mul_assoc, Int.mul_assoc, Int.mul_comm s q]
  rw [e1, e2] at b1
  rw [e3] at b2
  exact Int.lt_of_mul_lt_mul_right (Int.lt_trans b1 b2) (by omega)
theorem low_same {p q r s : Int} (h1 : 1 ≤ q) (g1 : Nat.gcd p.natAbs q.natAbs = 1) (h2 : 1 ≤ s) (g2 : Nat.gcd r.natAbs s.natAbs = 1) (e : p * s = r * q) : p = r ∧ q = s := by
  have en : p.natAbs * s.natAbs = r.natAbs * q.natAbs := by rw [← Int.natAbs_mul, ← Int.natAbs_mul, e]
  have d1 : q.natAbs ∣ s.natAbs := (Nat.Coprime.dvd_of_dvd_mul_left (k := q.natAbs) (m := p.natAbs) (n := s.natAbs) (by rw [Nat.Coprime, Nat.gcd_comm]; exact g1) ⟨r.natAbs, by rw [en, Nat.mul_comm]⟩)
  have d2 : s.natAbs ∣ q.natAbs := (Nat.Coprime.dvd_of_dvd_mul_left (k := s.natAbs) (m := r.natAbs) (n := q.natAbs) (by rw [Nat.Coprime, Nat.gcd_comm]; exact g2) ⟨p.natAbs, by rw [← en, Nat.mul_comm]⟩)
  have qs : q.natAbs = s.natAbs := Nat.dvd_antisymm d1 d2
  have qs2 : q = s := by omega
  subst qs2
  exact ⟨Int.eq_of_mul_eq_mul_right (by omega) e, rfl⟩
theorem ltF_tri {f g : Fr} (hf : okF f) (hg : okF g) (ne : f ≠ g) (h : ¬ ltF f g = true) : ltF g f = true := by
  obtain ⟨p, q⟩ := f; obtain ⟨r, s⟩ := g
  refine decide_eq_true ?_
  show r * q < p * s
  have n : ¬ p * s < r * q := fun z => h (decide_eq_true z)
  have n2 : p * s ≠ r * q := fun z => by
    obtain ⟨e1, e2⟩ := low_same hf.1 hf.2.1 hg.1 hg.2.1 z
    exact ne (Prod.ext e1 e2)
  omega
theorem mg2_mem : ∀ (n : Nat) (l m : List Fr), l.length + m.length ≤ n → ∀ x, x ∈ mg2 l m ↔ x ∈ l ∨ x ∈ m := by
  intro n
  induction n with
  | zero =>
    intro l m h x
    obtain rfl : l = [] := List.eq_nil_of_length_eq_zero (by omega)
    obtain rfl : m = [] := List.eq_nil_of_length_eq_zero (by omega)
    simp [mg2]
  | succ n ih =>
    intro l m h x
    rcases l with _ | ⟨f, l⟩
    · simp [mg2]
    rcases m with _ | ⟨g, m⟩
    · simp [mg2]
    simp only [List.length_cons] at h
    rw [mg2_cons]
    split
    · rename_i e
      rw [ih _ _ (by simp only [List.length_cons]; omega)]
      subst e
      simp only [List.mem_cons]
      constructor
      · rintro (h | h | h)
        · exact .inl (.inr h)
        · exact .inr (.inl h)
        · exact .inr (.inr h)
      · rintro ((h | h) | h | h)
        · exact .inr (.inl h)
        · exact .inl h
        · exact .inr (.inl h)
        · exact .inr (.inr h)
    · split
      · rw [List.mem_cons, ih _ _ (by simp only [List.length_cons]; omega), List.mem_cons, List.mem_cons]
        exact or_assoc.symm
      · rw [List.mem_cons, ih _ _ (by simp only [List.length_cons]; omega), List.mem_cons, List.mem_cons]
        constructor
        · rintro (h | h | h)
          · exact .inr (.inl h)
          · exact .inl h
          · exact .inr (.inr h)
        · rintro (h | h | h)
          · exact .inr (.inl h)
          · exact .inl h
          · exact .inr (.inr h)
theorem mg2_srt : ∀ (n : Nat) (l m : List Fr), l.length + m.length ≤ n → (∀ f ∈ l, okF f) → (∀ f ∈ m, okF f) → l.Pairwise (fun f g => ltF f g = true) → m.Pairwise (fun f g => ltF f g = true) → (mg2 l m).Pairwise (fun f g => ltF f g = true) := by
  intro n
  induction n with
  | zero =>
    intro l m h _ _ _ hm
    obtain rfl : l = [] := List.eq_nil_of_length_eq_zero (by omega)
    simpa [mg2] using hm
  | succ n ih =>
    intro l m h ol om hl hm
    rcases l with _ | ⟨f, l⟩
    · simpa [mg2] using hm
    rcases m with _ | ⟨g, m⟩
    · rw [mg2_nil]; exact hl
    simp only [List.length_cons] at h
    rw [List.pairwise_cons] at hl hm
    have of := ol f List.mem_cons_self
    have og := om g List.mem_cons_self
    have ol' : ∀ x ∈ l, okF x := fun x hx => ol x (List.mem_cons_of_mem _ hx)
    have om' : ∀ x ∈ m, okF x := fun x hx => om x (List.mem_cons_of_mem _ hx)
    rw [mg2_cons]
    split
    · exact ih _ _ (by simp only [List.length_cons]; omega) ol' om hl.2 (List.pairwise_cons.mpr hm)
    · rename_i ne
      split
      · rename_i lt
        refine List.pairwise_cons.mpr ⟨fun x hx => ?_, ih _ _ (by simp only [List.length_cons]; omega) ol' om hl.2 (List.pairwise_cons.mpr hm)⟩
        rcases (mg2_mem _ _ _ (Nat.le_refl _) x).mp hx with hx | hx
        · exact hl.1 x hx
        · rcases List.mem_cons.mp hx with rfl | hx
          · exact lt
          · exact ltF_trans of og (om' x hx) lt (hm.1 x hx)
      · rename_i nl
        have lt := ltF_tri of og ne nl
        refine List.pairwise_cons.mpr ⟨fun x hx => ?_, ih _ _ (by simp only [List.length_cons]; omega) ol om' (List.pairwise_cons.mpr hl) hm.2⟩
        rcases (mg2_mem _ _ _ (Nat.le_refl _) x).mp hx with hx | hx
        · rcases List.mem_cons.mp hx with rfl | hx
          · exact lt
          · exact ltF_trans og of (ol' x hx) lt (hl.1 x hx)
        · exact hm.1 x hx
/-- gs is fs in order, each once -/
def Srt (fs gs : List Fr) : Prop := gs.Pairwise (fun f g => ltF f g = true) ∧ ∀ x, x ∈ gs ↔ x ∈ fs
def sp_asc (K : PySem.W.Frag) (n : Nat) : Sp := fun vs H Q _ => ∃ (a : Addr) (xs : List V) (fs : List Fr), vs = [.ref a] ∧ (SqL K H a xs ∨ SqT K H a xs) ∧ Frs K H xs fs ∧ (∀ f ∈ fs, okF f) ∧ fs.length ≤ 2 ^ n ∧ fs.length ≤ 5000 ∧
  ∀ (t : Addr) (zs : List V) (gs : List Fr) H', Same H H' → SqT K H' t zs → Frs K H' zs gs → Srt fs gs → gs.length ≤ fs.length → Q (.ref t) H'
theorem mg2_len : ∀ (n : Nat) (l m : List Fr), l.length + m.length ≤ n → (mg2 l m).length ≤ l.length + m.length := by
  intro n
  induction n with
  | zero =>
    intro l m h
    obtain rfl : l = [] := List.eq_nil_of_length_eq_zero (by omega)
    simp [mg2]
  | succ n ih =>
    intro l m h
    rcases l with _ | ⟨f, l⟩
    · simp [mg2]
    rcases m with _ | ⟨g, m⟩
    · rw [mg2_nil]; exact Nat.le_add_right _ _
    simp only [List.length_cons] at h
    rw [mg2_cons]
    split
    · have := ih l (g :: m) (by simp only [List.length_cons]; omega)
      simp only [List.length_cons] at this ⊢; omega
    · split
      · have := ih l (g :: m) (by simp only [List.length_cons]; omega)
        simp only [List.length_cons] at this ⊢; omega
      · have := ih (f :: l) m (by simp only [List.length_cons]; omega)
        simp only [List.length_cons] at this ⊢; omega
section
variable {P : Program} {w : World} {K : PySem.W.Frag} {mg : Str → Option Value} {base : Heap}
theorem asc_step (T : Txt w K mg) (n : Nat) (ih : ∀ m, m + 1 = n → FnOk P w K mg base CX0 (m + 3) T.a_ascending T.d_ascending ["values"] (sp_asc K m)) : FnOk P w K mg base CX0 (n + 3) T.a_ascending T.d_ascending ["values"] (sp_asc K n) := by
  refine T.F_ascending.ok sc_ascending (fun vs H Q E h => ?_) (fun cdv A outer s H vs Q E hr h => ?_)
  · obtain ⟨a, xs, fs, rfl, _⟩ := h
    rfl
  · obtain ⟨a, xs, fs, rfl, ha, hf, of, hl, hk, k⟩ := h
    have hr_merged : Room 2 _ := hr.mono (by omega)
    have G_merged := ok_merged (P := P) (base := base) T
    have lf := hf.len
    by_cases hn : fs.length < 2
    · refine ⟨_, (pss_cons (ps_if (pt_cmpR op_lt (pe_callB call_len_seq (by rfl) T.n_len (by decide +kernel) (pa_cons (pv 0) pa_nil)) pe_int (nomark _)) (pss_one (ps_ret (pe_callTy call_tupleU (by rfl) T.n_tuple (by decide +kernel) (pa_cons (pv 0) pa_nil)))) pss_nil) pss_never), ?_⟩
      refine seq_op fun N hN => ?_
      walk_at "rs"
      refine ⟨xs, ha, iteTT (by omega) ⟨xs, ha, fun q H1 s1 h1 => k q xs fs H1 s1 h1 (hf.same s1) ⟨?_, fun _ => Iff.rfl⟩ (Nat.le_refl _)⟩⟩
      rcases fs with _ | ⟨f, _ | ⟨g, r⟩⟩
      · exact List.Pairwise.nil
      · exact List.pairwise_singleton _ _
      · exact absurd hn (by simp only [List.length_cons]; omega)
    obtain ⟨m, rfl⟩ : ∃ m, n = m + 1 := by
      rcases n with _ | m
      · exact absurd hl (by simp only [Nat.pow_zero]; omega)
      · exact ⟨m, rfl⟩
    have hr_ascending : Room (m + 3) _ := hr.mono (by omega)
    have G_ascending := ih m rfl
    refine ⟨_, (pss_cons (ps_if (pt_cmpR op_lt (pe_callB call_len_seq (by rfl) T.n_len (by decide +kernel) (pa_cons (pv 0) pa_nil)) pe_int (nomark _)) (pss_one (ps_ret (pe_callTy call_tupleU (by rfl) T.n_tuple (by decide +kernel) (pa_cons (pv 0) pa_nil)))) pss_nil)
      (pss_cons (ps_set (i := 1) sc_ascending.nd rfl (Or.inl rfl) (pe_op op_fdiv (pe_callB call_len_seq (by rfl) T.n_len (by decide +kernel) (pa_cons (pv 0) pa_nil)) pe_int))
      (pss_one (ps_ret (pe_call G_merged hr_merged (by rfl) T.m_merged T.F_merged.kp T.B_merged .nil pass0 (pa_cons (pe_call G_ascending hr_ascending (by rfl) T.m_ascending T.F_ascending.kp T.B_ascending .nil pass0 (pa_cons (pe_slice (SlR.or sl_listU sl_tupU) (pv 0) po_none (po_some (pv 1))) pa_nil)) (pa_cons (pe_call G_ascending hr_ascending (by rfl) T.m_ascending T.F_ascending.kp T.B_ascending .nil pass0 (pa_cons (pe_slice (SlR.or sl_listU sl_tupU) (pv 0) (po_some (pv 1)) po_none) pa_nil)) pa_nil))))))), ?_⟩
    refine seq_op fun N hN => ?_
    walk_at "rs"
    refine ⟨xs, ha, iteFF (by omega) (hN _ _ ?_)⟩
    clear hN N
    refine seq_op fun N hN => ?_
    walk_at "rs"
    refine ⟨xs, ha, ⟨by decide, by decide⟩, hN _ _ ?_⟩
    clear hN N
    have eh : ((xs.length : Nat) : Int) / 2 = ((xs.length / 2 : Nat) : Int) := by omega
    rw [eh]
    walk_at "rs"
    have h1 : (fs.take (xs.length / 2)).length = xs.length / 2 := by rw [List.length_take]; omega
    have h2 : (fs.drop (xs.length / 2)).length = fs.length - xs.length / 2 := List.length_drop
    have pw : 2 ^ (m + 1) = 2 * 2 ^ m := Nat.pow_succ'
    have cat : fs.take (xs.length / 2) ++ fs.drop (xs.length / 2) = fs := List.take_append_drop _ _
    have mem : ∀ x, x ∈ fs ↔ x ∈ fs.take (xs.length / 2) ∨ x ∈ fs.drop (xs.length / 2) := fun x => by rw [← List.mem_append, cat]
    have core2 : ∀ (x q : Addr) (zs : List V) (gs : List Fr) (H1 H2 : Hp), Same H H1 → Same H1 H2 → SqT K H1 x zs → Frs K H1 zs gs → Srt (fs.take (xs.length / 2)) gs → gs.length ≤ xs.length / 2 → (SqL K H2 q (xs.drop (xs.length / 2)) ∨ SqT K H2 q (xs.drop (xs.length / 2))) → sp_asc K m [V.ref q] H2 (fun x_2 H1 => sp_merged K [V.ref x, x_2] H1 Q E0) E0 := by
      intro x q zs gs H1 H2 s1 s2 hx hz hs hlz hq
      refine ⟨q, _, fs.drop (xs.length / 2), rfl, hq, (hf.drop _).same (Same.trans s1 s2), fun f h => of f ((mem f).mpr (.inr h)), by omega, by omega, fun t zs2 gs2 H3 s3 h3 f3 srt3 l3 => ⟨x, t, zs, zs2, gs, gs2, rfl, Same.seqT (Same.trans s2 s3) hx, h3, hz.same (Same.trans s2 s3), f3, fun f h => of f ((mem f).mpr (.inl ((hs.2 f).mp h))), fun f h => of f ((mem f).mpr (.inr ((srt3.2 f).mp h))), by omega, fun t' zs' H4 s4 h4 f4 => k t' zs' _ H4 (Same.trans s1 (Same.trans s2 (Same.trans s3 s4))) h4 f4 ⟨mg2_srt _ _ _ (Nat.le_refl _) (fun f h => of f ((mem f).mpr (.inl ((hs.2 f).mp h)))) (fun f h => of f ((mem f).mpr (.inr ((srt3.2 f).mp h)))) hs.1 srt3.1, fun y => ?_⟩ (Nat.le_trans (mg2_len _ _ _ (Nat.le_refl _)) (by omega))⟩⟩
      rw [mg2_mem _ _ _ (Nat.le_refl _), hs.2, srt3.2, mem]
    have core1 : ∀ (q : Addr) (H1 : Hp) (Q1 : VK), Same H H1 → (SqL K H1 q (xs.take (xs.length / 2)) ∨ SqT K H1 q (xs.take (xs.length / 2))) → (∀ (t : Addr) (zs : List V) (gs : List Fr) H', Same H1 H' → SqT K H' t zs → Frs K H' zs gs → Srt (fs.take (xs.length / 2)) gs → gs.length ≤ xs.length / 2 → Q1 (.ref t) H') → sp_asc K m [V.ref q] H1 Q1 E0 := by
      intro q H1 Q1 s1 hq k1
      exact ⟨q, _, fs.take (xs.length / 2), rfl, hq, (hf.take _).same s1, fun f h => of f ((mem f).mpr (.inl h)), by omega, by omega, fun t zs gs H' s' h' f' srt l => k1 t zs gs H' s' h' f' srt (by omega)⟩
    rcases ha with ha | ha
    · refine .inl ⟨xs, ha, fun p H1 s1 h01 e1 => core1 p H1 _ s1 (.inl (by rw [cutV_take] at e1; exact SqL.of e1)) fun t zs gs H2 s2 h2' f2 srt l2 => .inl ⟨xs, Same.seq (Same.trans s1 s2) ha, fun p3 H3 s3 h03 e3 => core2 t p3 zs gs H2 H3 (Same.trans s1 s2) s3 h2' f2 srt l2 (.inl (by rw [cutV_drop] at e3; exact SqL.of e3))⟩⟩
    · refine .inr ⟨xs, ha, fun p H1 s1 e1 => core1 p H1 _ s1 (.inr (by rw [cutV_take] at e1; exact e1)) fun t zs gs H2 s2 h2' f2 srt l2 => .inr ⟨xs, Same.seqT (Same.trans s1 s2) ha, fun p3 H3 s3 e3 => core2 t p3 zs gs H2 H3 (Same.trans s1 s2) s3 h2' f2 srt l2 (.inr (by rw [cutV_drop] at e3; exact e3))⟩⟩
theorem ok_ascending (T : Txt w K mg) : ∀ n : Nat, FnOk P w K mg base CX0 (n + 3) T.a_ascending T.d_ascending ["values"] (sp_asc K n)
  | 0 => asc_step T 0 fun m h => absurd h (Nat.succ_ne_zero m)
  | n + 1 => asc_step T (n + 1) fun m h => by
    obtain rfl : m = n := Nat.succ.inj h
    exact ok_ascending T m
end
end LK

set_option Elab.async false
set_option linter.all false
set_option maxRecDepth 100000
namespace LK
open PySem PySem.Spec PyProof.Rows L2
/-! ### comprehensions of two clauses, by two walks -/
theorem two_walks {J : It} {n : Nat} {G : Hp → Prop} {Y : Nat → Hp → V → Hp → Prop} (w : Walk J n G Y) {g gj : TG} {wj : TI} {σ : L2.St} {vs us : List Nat} {H0 : Hp} {Qd : Hp → Prop} {R : L2.St → Hp → (Hp → Prop) → Prop}
    (mono : ∀ σ H {N N' : Hp → Prop}, (∀ H, N H → N' H) → R σ H N → R σ H N')
    (Pv : Nat → Hp → Prop) (h0 : Pv 0 H0) (hG : ∀ i H, i ≤ n → Pv i H → G H)
    (hs : ∀ i x H H', i < n → Pv i H → Y i H x H' → ∀ Nx : Hp → Prop, (∀ H, Pv (i + 1) H → Nx H) → g x (wipe σ vs) H' fun σ2 H2 => wipe σ2 vs = wipe σ vs ∧ wj σ2 H2 fun J2 H3 => ∃ V : Nat → Nat → Hp → Prop, (∃ m, V 0 m H3) ∧ ∀ j k H4, V j k H4 →
      (J2.stop j H4 ∧ Nx H4) ∨ (J2.go j H4 ∧ ∃ Ny : Hp → Prop, (∀ G', Ny G' → ∃ l, l < k ∧ V (j + 1) l G') ∧ ∀ y H5, J2.yld j H4 y H5 → gj y (wipe σ2 us) H5 fun σ3 H6 => wipe σ3 us = wipe σ2 us ∧ R σ3 H6 Ny))
    (hd : ∀ H, Pv n H → Qd H) :
    ∃ W : Nat → Nat → Hp → Prop, (∃ m, W 0 m H0) ∧ ∀ i m H, W i m H →
      (J.stop i H ∧ Qd H) ∨ (J.go i H ∧ ∃ Nx : Hp → Prop, (∀ H', Nx H' → ∃ m', m' < m ∧ W (i + 1) m' H') ∧ ∀ x H', J.yld i H x H' → g x (wipe σ vs) H' fun σ2 H2 => wipe σ2 vs = wipe σ vs ∧ wj σ2 H2 fun J2 H3 => ∃ V : Nat → Nat → Hp → Prop, (∃ m, V 0 m H3) ∧ ∀ j k H4, V j k H4 →
        (J2.stop j H4 ∧ Nx H4) ∨ (J2.go j H4 ∧ ∃ Ny : Hp → Prop, (∀ G', Ny G' → ∃ l, l < k ∧ V (j + 1) l G') ∧ ∀ y H5, J2.yld j H4 y H5 → gj y (wipe σ2 us) H5 fun σ3 H6 => wipe σ3 us = wipe σ2 us ∧ R σ3 H6 Ny)) := by
  refine ⟨fun i m H => m = n - i ∧ i ≤ n ∧ Pv i H, ⟨n, by omega, Nat.zero_le _, h0⟩, ?_⟩
  rintro i m H ⟨rfl, hi, p⟩
  by_cases lt : i < n
  · exact .inr ⟨w.goes i H lt (hG i H hi p), Pv (i + 1), fun H' p' => ⟨n - (i + 1), by omega, rfl, lt, p'⟩, fun x H' y => hs i x H H' lt p (w.yields i H x H' lt (hG i H hi p) y) _ fun _ z => z⟩
  · obtain rfl : i = n := by omega
    exact .inl ⟨w.stops H (hG _ H hi p), hd H p⟩
/-- the inner walk, done by an invariant -/
theorem in_walk {J : It} {n : Nat} {G : Hp → Prop} {Y : Nat → Hp → V → Hp → Prop} (w : Walk J n G Y) {gj : TG} {σ2 : L2.St} {us : List Nat} {H3 : Hp} {Nx : Hp → Prop} {R : L2.St → Hp → (Hp → Prop) → Prop}
    (Iv : Nat → Hp → Prop) (h0 : Iv 0 H3) (hG : ∀ i H, i ≤ n → Iv i H → G H)
    (hs : ∀ j y H H', j < n → Iv j H → Y j H y H' → gj y (wipe σ2 us) H' fun σ3 H6 => wipe σ3 us = wipe σ2 us ∧ R σ3 H6 (Iv (j + 1))) (hd : ∀ H, Iv n H → Nx H) :
    ∃ V : Nat → Nat → Hp → Prop, (∃ m, V 0 m H3) ∧ ∀ j k H4, V j k H4 →
      (J.stop j H4 ∧ Nx H4) ∨ (J.go j H4 ∧ ∃ Ny : Hp → Prop, (∀ G', Ny G' → ∃ l, l < k ∧ V (j + 1) l G') ∧ ∀ y H5, J.yld j H4 y H5 → gj y (wipe σ2 us) H5 fun σ3 H6 => wipe σ3 us = wipe σ2 us ∧ R σ3 H6 Ny) := by
  refine ⟨fun i m H => m = n - i ∧ i ≤ n ∧ Iv i H, ⟨n, by omega, Nat.zero_le _, h0⟩, ?_⟩
  rintro i m H ⟨rfl, hi, p⟩
  by_cases lt : i < n
  · exact .inr ⟨w.goes i H lt (hG i H hi p), Iv (i + 1), fun H' p' => ⟨n - (i + 1), by omega, rfl, lt, p'⟩, fun y H' z => hs i y H H' lt p (w.yields i H y H' lt (hG i H hi p) z)⟩
  · obtain rfl : i = n := by omega
    exact .inl ⟨w.stops H (hG _ H hi p), hd H p⟩
/-- a list comprehension of two clauses without tests -/
theorem lc2_it {J : It} {n : Nat} {G : Hp → Prop} {Y : Nat → Hp → V → Hp → Prop} (w : Walk J n G Y) {g g1 : TG} {wi1 : TI} {te : TE} {σ : L2.St} {vs vs1 : List Nat} {H1 : Hp} {D : Addr} {Qd : Hp → Prop}
    (Pv : Nat → Hp → Prop) (h0 : Pv 0 (L2.upd H1 D (.lst []))) (hG : ∀ i H, i ≤ n → Pv i H → G H)
    (hs : ∀ i x H H', i < n → Pv i H → Y i H x H' → g x (wipe σ vs) H' fun σ2 H2 => wipe σ2 vs = wipe σ vs ∧ wi1 σ2 H2 fun J1 H4 => ∃ V : Nat → Nat → Hp → Prop, (∃ m, V 0 m H4) ∧ ∀ j k H, V j k H →
      (J1.stop j H ∧ Pv (i + 1) H) ∨ (J1.go j H ∧ ∃ Ny : Hp → Prop, (∀ H', Ny H' → ∃ k', k' < k ∧ V (j + 1) k' H') ∧ ∀ x H', J1.yld j H x H' → g1 x (wipe σ2 vs1) H' fun σ3 H5 => wipe σ3 vs1 = wipe σ2 vs1 ∧
        te σ3 H5 fun y H7 => ∃ acc, H7 D = some (.lst acc) ∧ acc.length < sizeLine ∧ Ny (L2.upd H7 D (.lst (acc ++ [y])))))
    (hd : ∀ H, Pv n H → Qd H) :
    ∃ W : Nat → Nat → Hp → Prop, (∃ m, W 0 m (L2.upd H1 D (.lst []))) ∧ ∀ i m H, W i m H →
      (J.stop i H ∧ Qd H) ∨ (J.go i H ∧ ∃ Nx : Hp → Prop, (∀ H', Nx H' → ∃ m', m' < m ∧ W (i + 1) m' H') ∧ ∀ x H', J.yld i H x H' → g x (wipe σ vs) H' fun σ2 H2 => wipe σ2 vs = wipe σ vs ∧ tYes σ2 H2 fun b H3 =>
        if b = true then wi1 σ2 H3 fun J1 H4 => ∃ W1 : Nat → Nat → Hp → Prop, (∃ m, W1 0 m H4) ∧ ∀ j k H, W1 j k H →
          (J1.stop j H ∧ Nx H) ∨ (J1.go j H ∧ ∃ Nx1 : Hp → Prop, (∀ H', Nx1 H' → ∃ k', k' < k ∧ W1 (j + 1) k' H') ∧ ∀ x H', J1.yld j H x H' → g1 x (wipe σ2 vs1) H' fun σ3 H5 => wipe σ3 vs1 = wipe σ2 vs1 ∧ tYes σ3 H5 fun b H6 =>
            if b = true then te σ3 H6 fun y H7 => ∃ acc, H7 D = some (.lst acc) ∧ acc.length < sizeLine ∧ Nx1 (L2.upd H7 D (.lst (acc ++ [y]))) else Nx1 H6)
        else Nx H3) := by
  simp only [tYes, eq_self, ite_true]
  refine ⟨fun i m H => m = n - i ∧ i ≤ n ∧ Pv i H, ⟨n, by omega, Nat.zero_le _, h0⟩, ?_⟩
  rintro i m H ⟨rfl, hi, p⟩
  by_cases lt : i < n
  · exact .inr ⟨w.goes i H lt (hG i H hi p), Pv (i + 1), fun H' p' => ⟨n - (i + 1), by omega, rfl, lt, p'⟩, fun x H' y => hs i x H H' lt p (w.yields i H x H' lt (hG i H hi p) y)⟩
  · obtain rfl : i = n := by omega
    exact .inl ⟨w.stops H (hG _ H hi p), hd H p⟩
theorem for_lt {K : PySem.W.Frag} {i0 : Nat} {g : TG} {tb : TS} {D : Ends} {σ : L2.St} {Hb H : Hp} {a : Addr} {xs : List V} (hv : σ[i0]? = some (some (.ref a))) (ha : SqL K Hb a xs ∨ SqT K Hb a xs) (Pv : Nat → L2.St → Hp → Prop) (h0 : Pv 0 σ H)
    (hL : ∀ i σ' H', i ≤ xs.length → Pv i σ' H' → Same Hb H') (hs : ∀ i y σ' H', xs[i]? = some y → Pv i σ' H' → g y σ' H' fun σ2 H2 => tb { D with nx := Pv (i + 1), ct := Pv (i + 1), bk := D.nx } σ2 H2) (hd : ∀ σ' H', Pv xs.length σ' H' → D.nx σ' H') :
    tFor (iLT K (tVar i0)) g tb D σ H := by
  have b := hL 0 σ H (Nat.zero_le _) h0
  rcases ha with ha | ha
  · exact .inl ⟨_, hv, a, rfl, ⟨_, Same.seq b ha⟩, for_list (K := K) (a := a) (xs := xs) Pv h0 (fun i σ' H' hi p => Same.seq (hL i σ' H' hi p) ha) hs hd⟩
  · exact .inr ⟨_, hv, a, rfl, ⟨_, Same.seqT b ha⟩, for_tup (K := K) (a := a) (xs := xs) Pv h0 (fun i σ' H' hi p => Same.seqT (hL i σ' H' hi p) ha) hs hd⟩
theorem in_lt {K : PySem.W.Frag} {i0 : Nat} {σ2 : L2.St} {Hb H : Hp} {a : Addr} {xs : List V} (hv : σ2[i0]? = some (some (.ref a))) (ha : SqL K Hb a xs ∨ SqT K Hb a xs) {gj : TG} {us : List Nat} {Nx : Hp → Prop} {R : L2.St → Hp → (Hp → Prop) → Prop}
    (Iv : Nat → Hp → Prop) (h0 : Iv 0 H) (hL : ∀ j H', j ≤ xs.length → Iv j H' → Same Hb H')
    (hs : ∀ j y H', xs[j]? = some y → Iv j H' → gj y (wipe σ2 us) H' fun σ3 H6 => wipe σ3 us = wipe σ2 us ∧ R σ3 H6 (Iv (j + 1))) (hd : ∀ H, Iv xs.length H → Nx H) :
    iLT K (tVar i0) σ2 H fun J2 H3 => ∃ V : Nat → Nat → Hp → Prop, (∃ m, V 0 m H3) ∧ ∀ j k H4, V j k H4 →
      (J2.stop j H4 ∧ Nx H4) ∨ (J2.go j H4 ∧ ∃ Ny : Hp → Prop, (∀ G', Ny G' → ∃ l, l < k ∧ V (j + 1) l G') ∧ ∀ y H5, J2.yld j H4 y H5 → gj y (wipe σ2 us) H5 fun σ3 H6 => wipe σ3 us = wipe σ2 us ∧ R σ3 H6 Ny) := by
  rcases ha with ha | ha
  · exact .inl ⟨_, hv, a, rfl, ⟨_, Same.seq (hL 0 H (Nat.zero_le _) h0) ha⟩, in_walk (walk_list (K := K) (a := a) (xs := xs)) Iv h0 (fun i H' hi p => Same.seq (hL i H' hi p) ha) (fun j y G G' hj p ⟨e, hy⟩ => e ▸ hs j y G hy p) hd⟩
  · exact .inr ⟨_, hv, a, rfl, ⟨_, Same.seqT (hL 0 H (Nat.zero_le _) h0) ha⟩, in_walk (walk_tup (K := K) (a := a) (xs := xs)) Iv h0 (fun i H' hi p => Same.seqT (hL i H' hi p) ha) (fun j y G G' hj p ⟨e, hy⟩ => e ▸ hs j y G hy p) hd⟩
/-- a set comprehension of two clauses -/
theorem sc2_it {w : World} {J : It} {n : Nat} {G : Hp → Prop} {Y : Nat → Hp → V → Hp → Prop} (wk : Walk J n G Y) {g gj : TG} {wj : TI} {te : TE} {σ : L2.St} {vs us : List Nat} {H1 : Hp} {D : Addr} {Qd : Hp → Prop}
    (Pv : Nat → Hp → Prop) (h0 : Pv 0 (L2.upd H1 D (SetO w D (fun _ => false) 0))) (hG : ∀ i H, i ≤ n → Pv i H → G H)
    (hs : ∀ i x H H', i < n → Pv i H → Y i H x H' → g x (wipe σ vs) H' fun σ2 H2 => wipe σ2 vs = wipe σ vs ∧ wj σ2 H2 fun J1 H4 => ∃ V : Nat → Nat → Hp → Prop, (∃ m, V 0 m H4) ∧ ∀ j k H, V j k H →
      (J1.stop j H ∧ Pv (i + 1) H) ∨ (J1.go j H ∧ ∃ Ny : Hp → Prop, (∀ H', Ny H' → ∃ k', k' < k ∧ V (j + 1) k' H') ∧ ∀ x H', J1.yld j H x H' → gj x (wipe σ2 us) H' fun σ3 H5 => wipe σ3 us = wipe σ2 us ∧
        te σ3 H5 fun z G7 => ∃ (c : Int) (S : Int → Bool) (n : Nat), z = .int c ∧ G7 D = some (SetO w D S n) ∧ n + 1 < scanBound ∧ Ny (L2.upd G7 D (SetO w D (fun k => S k || decide (k = c)) (if S c = true then n else n + 1)))))
    (hd : ∀ H, Pv n H → Qd H) :
    ∃ W : Nat → Nat → Hp → Prop, (∃ m, W 0 m (L2.upd H1 D (SetO w D (fun _ => false) 0))) ∧ ∀ i m G, W i m G →
      (J.stop i G ∧ Qd G) ∨ (J.go i G ∧ ∃ Nx : Hp → Prop, (∀ G', Nx G' → ∃ k, k < m ∧ W (i + 1) k G') ∧ ∀ x G1, J.yld i G x G1 → g x (wipe σ vs) G1 fun σ2 G2 => wipe σ2 vs = wipe σ vs ∧ wj σ2 G2 fun J2 G3 => ∃ V : Nat → Nat → Hp → Prop, (∃ m, V 0 m G3) ∧ ∀ j k G4, V j k G4 →
        (J2.stop j G4 ∧ Nx G4) ∨ (J2.go j G4 ∧ ∃ Ny : Hp → Prop, (∀ G', Ny G' → ∃ l, l < k ∧ V (j + 1) l G') ∧ ∀ y G5, J2.yld j G4 y G5 → gj y (wipe σ2 us) G5 fun σ3 G6 => wipe σ3 us = wipe σ2 us ∧ te σ3 G6 fun z G7 =>
          ∃ (c : Int) (S : Int → Bool) (n : Nat), z = .int c ∧ G7 D = some (SetO w D S n) ∧ n + 1 < scanBound ∧ Ny (L2.upd G7 D (SetO w D (fun k => S k || decide (k = c)) (if S c = true then n else n + 1))))) := by
  refine ⟨fun i m H => m = n - i ∧ i ≤ n ∧ Pv i H, ⟨n, by omega, Nat.zero_le _, h0⟩, ?_⟩
  rintro i m H ⟨rfl, hi, p⟩
  by_cases lt : i < n
  · exact .inr ⟨wk.goes i H lt (hG i H hi p), Pv (i + 1), fun H' p' => ⟨n - (i + 1), by omega, rfl, lt, p'⟩, fun x H' y => hs i x H H' lt p (wk.yields i H x H' lt (hG i H hi p) y)⟩
  · obtain rfl : i = n := by omega
    exact .inl ⟨wk.stops H (hG _ H hi p), hd H p⟩
end LK

set_option Elab.async false
set_option linter.all false
set_option maxRecDepth 100000
namespace LK
open PySem PySem.Spec PyProof.Rows L2
local macro_rules | `(tactic| walk_at "rs") => `(tactic| simp only [cxK, cxNK, tCallZ, tAsg, tOp, rI0, rS0, rB0, rI, rU, tUn, rEq, rNe, rIxL, rIxT, rIxS, rSetL, rSlLU, rSlS, rSlU, rCatL, rCatU, rRepL, rIn, tVar, tC, gName, gSub, tIfS, tTest, tB, tAnd, tOr, tNot, tNotV, tAndV, tOrV, tIf, tCall, tCons, tNil, tCB, tDrop, tRet, tRetN, tNext, tLstU, tTupU, tM0, tM1, tPar, tPar3, tAug, ipI, tBM, tBM0, rAppend, rPop, tBreak, tCont, tChain, tSl, tPart, tNoPart, L2.start, List.map, List.length_cons, List.length_nil, List.replicate, List.cons_append, List.nil_append, List.append_nil, List.getElem?_cons_zero, List.getElem?_cons_succ, List.set_cons_zero, List.set_cons_succ, Option.some.injEq, V.int.injEq, V.ref.injEq, V.str.injEq, V.bl.injEq, exists_eq_left', exists_eq_left, exists_and_left, decide_eq_true_eq, List.cons.injEq, and_true, true_and, scal, Bool.not_eq_true', decide_eq_false_iff_not, Nat.zero_add, Nat.reduceAdd, Nat.reduceSub, reduceCtorEq, false_and, exists_false, false_or, or_false, CPow, CMul, CDiv, Int.reduceToNat, ↓reduceIte, wipe, sw, List.nil_append, List.singleton_append])
local macro_rules | `(tactic| walk_at "st") => `(tactic| (refine seq_op fun N hN => ?_; walk_at "rs"))
local macro_rules | `(tactic| walk_at "sd") => `(tactic| first | assumption | decide | omega)
local macro_rules | `(tactic| walk_at "rd") => `(tactic| repeat (first
  | refine ⟨_, SqL.of (by assumption), ?_⟩ | refine ⟨_, SqL.of upd_same, ?_⟩ | refine ⟨_, .inl (SqL.of (by assumption)), ?_⟩ | refine ⟨_, (by assumption : _ = some (HO.lst _)), ?_⟩ | refine ⟨_, upd_same, ?_⟩
  | refine ⟨_, rfl, ?_⟩ | refine And.intro (by walk_at "sd") ?_))

/-! ### rows of values -/
def rowsV (rs : List (List V)) : List (List V) := rs.foldl (fun acc vs => acc.flatMap fun r => vs.map fun v => r ++ [v]) [[]]
def rowsN (rs : List (List V)) : Nat := rs.foldl (fun n vs => n * vs.length) 1
/-- at xs the tuples of rs -/
inductive Tps (K : PySem.W.Frag) (H : Hp) : List V → List (List V) → Prop
  | nil : Tps K H [] []
  | cons {a : Addr} {r : List V} {xs : List V} {rs : List (List V)} : SqT K H a r → Tps K H xs rs → Tps K H (.ref a :: xs) (r :: rs)
section
variable {K : PySem.W.Frag} {H H' : Hp}
theorem Tps.same (s : Same H H') : ∀ {xs : List V} {fs : List (List V)}, Tps K H xs fs → Tps K H' xs fs
  | _, _, .nil => .nil
  | _, _, .cons h q => .cons (Same.seqT s h) (q.same s)
theorem Tps.len : ∀ {xs : List V} {fs : List (List V)}, Tps K H xs fs → xs.length = fs.length
  | _, _, .nil => rfl
  | _, _, .cons _ q => congrArg Nat.succ q.len
theorem Tps.app : ∀ {xs ys : List V} {fs gs : List (List V)}, Tps K H xs fs → Tps K H ys gs → Tps K H (xs ++ ys) (fs ++ gs)
  | _, _, _, _, .nil, r => r
  | _, _, _, _, .cons h q, r => .cons h (q.app r)
theorem Tps.get : ∀ {xs : List V} {fs : List (List V)} {n : Nat}, Tps K H xs fs → n < fs.length → ∃ a f, xs[n]? = some (.ref a) ∧ fs[n]? = some f ∧ SqT K H a f
  | _, _, _, .nil, h => absurd h (Nat.not_lt_zero _)
  | _, _, 0, .cons h _, _ => ⟨_, _, rfl, rfl, h⟩
  | _, _, n + 1, .cons _ q, h => by
    obtain ⟨a, f, h1, h2, h3⟩ := q.get (n := n) (Nat.lt_of_succ_lt_succ h)
    exact ⟨a, f, h1, h2, h3⟩
theorem Tps.at (q : Tps K H xs fs) {n : Nat} {v : V} (h : xs[n]? = some v) : ∃ a f, v = .ref a ∧ fs[n]? = some f ∧ SqT K H a f := by
  obtain ⟨a, f, h1, h2, h3⟩ := q.get (n := n) (by rw [← q.len]; exact (List.getElem?_eq_some_iff.mp h).1)
  rw [h] at h1
  exact ⟨a, f, Option.some.inj h1, h2, h3⟩
theorem Tps.upd {p : Addr} {ys : List V} {o : HO} (hp : H p = some (.lst ys)) : ∀ {xs : List V} {fs : List (List V)}, Tps K H xs fs → Tps K (L2.upd H p o) xs fs
  | _, _, .nil => .nil
  | _, _, .cons h q => .cons (seqT_upd hp h) (q.upd hp)
end
/-- one more column -/
def growV (acc : List (List V)) (vs : List V) : List (List V) := acc.flatMap fun r => vs.map fun v => r ++ [v]
theorem rowsV_snoc (rs : List (List V)) (r : List V) : rowsV (rs ++ [r]) = growV (rowsV rs) r := by unfold rowsV growV; rw [List.foldl_append]; rfl
theorem rowsN_snoc (rs : List (List V)) (r : List V) : rowsN (rs ++ [r]) = rowsN rs * r.length := by unfold rowsN; rw [List.foldl_append]; rfl
theorem growV_len (acc : List (List V)) (vs : List V) : (growV acc vs).length = acc.length * vs.length := by
  unfold growV
  induction acc with
  | nil => simp
  | cons a l ih => rw [List.flatMap_cons, List.length_append, ih, List.length_map, List.length_cons, Nat.succ_mul, Nat.add_comm]
theorem rows_len (rs : List (List V)) : (rowsV rs).length = rowsN rs := by
  have key : ∀ (l : List (List V)) (acc : List (List V)), (l.foldl (fun acc vs => acc.flatMap fun r => vs.map fun v => r ++ [v]) acc).length = l.foldl (fun n vs => n * vs.length) acc.length := by
    intro l
    induction l with
    | nil => intro acc; rfl
    | cons r l ih => exact fun acc => (ih _).trans (congrArg (fun n => l.foldl (fun n vs => n * vs.length) n) (growV_len acc r))
  exact key rs [[]]
theorem rows_row (rs : List (List V)) : ∀ r ∈ rowsV rs, r.length = rs.length := by
  have key : ∀ (l : List (List V)) (acc : List (List V)) (m : Nat), (∀ r ∈ acc, r.length = m) → ∀ r ∈ l.foldl (fun acc vs => acc.flatMap fun r => vs.map fun v => r ++ [v]) acc, r.length = m + l.length := by
    intro l
    induction l with
    | nil => exact fun acc m h r hr => h r hr
    | cons c l ih =>
      intro acc m h r hr
      have := ih (acc.flatMap fun r => c.map fun v => r ++ [v]) (m + 1) (fun q hq => by
        obtain ⟨q0, h0, h1⟩ := List.mem_flatMap.mp hq
        obtain ⟨v, _, rfl⟩ := List.mem_map.mp h1
        rw [List.length_append, h q0 h0]; rfl) r hr
      rw [this, List.length_cons]; omega
  intro r hr
  have := key rs [[]] 0 (fun r h => by rw [List.mem_singleton.mp h]; rfl) r hr
  rw [this, Nat.zero_add]
theorem rowsN_take {rs : List (List V)} (h : ∀ r ∈ rs, 1 ≤ r.length) (i : Nat) : rowsN (rs.take i) ≤ rowsN rs := by
  have key : ∀ (l : List (List V)) (n : Nat), (∀ r ∈ l, 1 ≤ r.length) → n ≤ l.foldl (fun n vs => n * vs.length) n := by
    intro l
    induction l with
    | nil => intro n _; exact Nat.le_refl _
    | cons a l ih => exact fun n h => Nat.le_trans (Nat.le_mul_of_pos_right n (h a List.mem_cons_self)) (ih _ fun r hr => h r (List.mem_cons_of_mem _ hr))
  have e : rowsN rs = (rs.drop i).foldl (fun n vs => n * vs.length) (rowsN (rs.take i)) := by
    unfold rowsN; rw [← List.foldl_append, List.take_append_drop]
  rw [e]
  exact key _ _ fun r hr => h r (List.mem_of_mem_drop hr)
theorem growV_take (acc : List (List V)) (vs : List V) {i : Nat} {r : List V} (h : acc[i]? = some r) : growV (acc.take (i + 1)) vs = growV (acc.take i) vs ++ vs.map fun v => r ++ [v] := by
  unfold growV
  rw [List.take_succ, h, List.flatMap_append]; simp
section
variable {P : Program} {w : World} {K : PySem.W.Frag} {mg : Str → Option Value} {base : Heap}
def sp_rows (K : PySem.W.Frag) : Sp := fun vs H Q _ => ∃ (a : Addr) (xs : List V) (rs : List (List V)), vs = [.ref a] ∧ (SqL K H a xs ∨ SqT K H a xs) ∧ Tps K H xs rs ∧ (∀ r ∈ rs, 1 ≤ r.length) ∧ rowsN rs ≤ 1000 ∧ rs.length ≤ 20 ∧ ∀ t ts H', Same H H' → H t = none → H' t = some (.lst ts) → Tps K H' ts (rowsV rs) → Q (.ref t) H'
theorem ok_rows_of_values (T : Txt w K mg) : FnOk P w K mg base CX0 1 T.a_rows_of_values T.d_rows_of_values ["ranges"] (sp_rows K) := by
  refine T.F_rows_of_values.ok sc_rows_of_values (fun vs H Q E h => ?_) (fun cdv A outer s H vs Q E hr h => ?_)
  · obtain ⟨a, xs, rs, rfl, _⟩ := h
    rfl
  · obtain ⟨a, xs, rs, rfl, ha, hx, h1, hn, hl, k⟩ := h
    refine ⟨_, (pss_cons (ps_set (i := 1) sc_rows_of_values.nd rfl (Or.inl rfl) (pe_lstU (pa_cons (pe_tupU pa_nil) pa_nil)))
      (pss_cons (ps_for PassesOwn.never rfl (pi_lt (pv 0)) (pg_name (i := 2) sc_rows_of_values.nd rfl (Or.inr rfl)) (pss_one (ps_setLc2 (i := 1) (own := [("row", 3), ("value", 4)]) (vs1 := [4]) (g := gName 3) (g1 := gName 4) (tt := tYes) (tt1 := tYes) rfl sc_rows_of_values.nd rfl rfl (sw_true rfl rfl rfl (by decide +kernel)) (pi_list (pv 1)) (blkOk_by (own := [("row", 3), ("value", 4)]) (N := N_rows_of_values) (sc := defScope s_rows_of_values) (by decide +kernel)) (by decide) (fun _ _ _ _ _ => pg_name (i := 3) sc_rows_of_values.nd rfl (Or.inl rfl)) (fun _ _ _ _ _ => pts_nil) (fun _ _ _ _ _ => (pi_tupK (K := K) rfl (pv 2))) (fun _ _ _ _ _ => pg_name (i := 4) sc_rows_of_values.nd rfl (Or.inl rfl)) (fun _ _ _ _ _ => pts_nil) (fun _ _ _ _ _ => (pe_op (op_catUK (K := K) rfl) (pv 3) (pe_tupU (pa_cons (pv 4) pa_nil)))))))
      (pss_one (ps_ret (pv 1))))), ?_⟩
    refine seq_op fun N hN => ?_
    walk_at "rs"
    refine ⟨by decide, fun p0 H0 s0 n0 e0 => ⟨by decide, fun p1 H1 s1 n1 e1 => hN _ _ ?_⟩⟩
    clear hN N
    have sH1 := Same.trans s0 s1
    have dn1 := Same.dom s0 p1 n1
    have t0 : Tps K H1 [.ref p0] (rowsV []) := .cons (.inl (.inl (s1 _ _ e0))) .nil
    refine cut_seq (fun σ G => ∃ p ts x3 x4 x5, σ = [some (.ref a), some (.ref p), x3, x4, x5] ∧ Same H G ∧ G p = some (.lst ts) ∧ H p = none ∧ Tps K G ts (rowsV rs)) (fun N hN => ?_) ?_
    · walk_at "rs"
      refine for_lt rfl (ha.imp (fun h => Same.seq sH1 h) fun h => Same.seqT sH1 h) (fun i σ G => ∃ p ts x3 x4 x5, σ = [some (.ref a), some (.ref p), x3, x4, x5] ∧ Same H1 G ∧ G p = some (.lst ts) ∧ H p = none ∧ Tps K G ts (rowsV (rs.take i))) ⟨p1, [.ref p0], none, none, none, rfl, Same.refl _, e1, dn1, t0⟩ (fun i σ' G _ ⟨_, _, _, _, _, _, h, _⟩ => h) ?_ ?_
      · rintro i y σ G hy ⟨p, ts, x3, x4, x5, rfl, sg, gp, hp, tg⟩
        obtain ⟨b, r, rfl, hr2, hb⟩ := hx.at hy
        have hb' := Same.seqT (Same.trans sH1 sg) hb
        have et : rs.take (i + 1) = rs.take i ++ [r] := by rw [List.take_succ, hr2]; rfl
        have hin : rowsN (rs.take i) * r.length ≤ 1000 := by rw [← rowsN_snoc, ← et]; exact Nat.le_trans (rowsN_take h1 _) hn
        have lr := h1 r (List.mem_of_getElem? hr2)
        have lacc := rows_len (rs.take i)
        have wid : ∀ r ∈ rowsV (rs.take i), r.length ≤ 20 := fun r hr => by
          have := rows_row _ r hr
          rw [List.length_take] at this
          omega
        generalize hA : rowsV (rs.take i) = acc at *
        rw [et, rowsV_snoc, hA]
        walk_at "rs"
        refine ⟨_, rfl, p, rfl, ⟨ts, .inl (.inl gp)⟩, fun D hD => ?_⟩
        have nD : ∀ q o, G q = some o → q ≠ D := fun q o e => ne_of_none e hD
        refine lc2_it (g := gName 3) (g1 := gName 4) (wi1 := iTup K (tVar 2)) (te := tOp (rCatU K) (tVar 3) (tTupU (tCons (tVar 4) tNil))) (vs := [3, 4]) (vs1 := [4]) (walk_list (K := K) (a := p) (xs := ts)) (fun i G' => Same G G' ∧ ∃ zs, G' D = some (.lst zs) ∧ Tps K G' zs (growV (acc.take i) r)) ?_ ?_ ?_ ?_
        · exact ⟨same_upd hD, [], upd_same, by rw [List.take_zero]; exact .nil⟩
        · exact fun i G' _ h => .inl (.inl (h.1 _ _ gp))
        · rintro i y G1 G2 hi ⟨s1', zs, g1, tz⟩ ⟨rfl, hy2⟩
          obtain ⟨c, row, rfl, hrow, hc⟩ := tg.at hy2
          have lrow : acc.take (i + 1) = acc.take i ++ [row] := by rw [List.take_succ, hrow]; rfl
          refine ⟨rfl, _, rfl, b, rfl, ⟨r, Same.seqT s1' hb'⟩, in_walk (walk_tup (K := K) (a := b) (xs := r)) (gj := gName 4) (us := [4]) (R := fun σ3 H5 N => tOp (rCatU K) (tVar 3) (tTupU (tCons (tVar 4) tNil)) σ3 H5 fun y H7 => ∃ acc, H7 D = some (.lst acc) ∧ acc.length < sizeLine ∧ N (upd H7 D (.lst (acc ++ [y]))))
            (fun j G' => Same G G' ∧ ∃ zs, G' D = some (.lst zs) ∧ Tps K G' zs (growV (acc.take i) r ++ (r.take j).map fun v => row ++ [v])) ⟨s1', zs, g1, by rw [List.take_zero, List.map_nil, List.append_nil]; exact tz⟩ (fun j G' _ h => Same.seqT h.1 hb') ?_ ?_⟩
          · rintro j v G3 G4 hj ⟨s3, zs3, g3, t3⟩ ⟨rfl, hv⟩
            have ej : r.take (j + 1) = r.take j ++ [v] := by rw [List.take_succ, hv]; rfl
            have lz : zs3.length ≤ 1000 := by
              have e1 := t3.len
              rw [List.length_append, growV_len, List.length_map] at e1
              have e2 : (r.take j).length ≤ r.length := by rw [List.length_take]; omega
              have e3 : (acc.take i).length + 1 ≤ acc.length := by
                rw [List.length_take]
                have := (List.getElem?_eq_some_iff.mp hrow).1
                omega
              have e4 := Nat.mul_le_mul_right r.length e3
              rw [Nat.add_mul, Nat.one_mul, lacc] at e4
              omega
            walk_at "rs"
            refine ⟨by decide, fun q0 G5 s5 n5 e5 => ⟨row, Same.seqT (Same.trans s3 s5) hc, [v], .inl (.inl e5), ?_, fun q1 G6 s6 e6 => ⟨zs3, s6 _ _ (s5 _ _ g3), Nat.lt_of_le_of_lt lz (by decide), fun q o e => ?_, _, upd_same, ?_⟩⟩⟩
            · have := wid row (List.mem_of_getElem? hrow)
              exact Nat.le_trans (show row.length + 1 ≤ 21 by omega) (by decide)
            · rw [upd_ne (nD q o e)]; exact s6 _ _ (s5 _ _ (s3 _ _ e))
            · rw [ej, List.map_append, ← List.append_assoc]
              exact ((t3.same (Same.trans s5 s6)).upd (s6 _ _ (s5 _ _ g3))).app (.cons (seqT_upd (s6 _ _ (s5 _ _ g3)) e6) .nil)
          · rintro G3 ⟨s3, zs3, g3, t3⟩
            refine ⟨s3, zs3, g3, ?_⟩
            rw [growV_take _ _ hrow]
            rw [List.take_length] at t3
            exact t3
        · rintro G3 ⟨s3, zs3, g3, t3⟩
          rw [tg.len, List.take_length] at t3
          exact ⟨D, zs3, _, _, _, ⟨rfl, rfl, rfl, rfl⟩, Same.trans sg s3, g3, Same.dom (Same.trans sH1 sg) D hD, t3⟩
      · rintro σ G ⟨p, ts, x3, x4, x5, rfl, sg, gp, hp, tg⟩
        rw [hx.len, List.take_length] at tg
        exact hN _ _ ⟨p, ts, x3, x4, x5, rfl, Same.trans sH1 sg, gp, hp, tg⟩
    · rintro σ G ⟨p, ts, x3, x4, x5, rfl, sg, gp, hp, tg⟩
      walk_at "rs"
      exact k p ts G sg hp gp tg
def sp_every_row (K : PySem.W.Frag) : Sp := fun vs H Q _ => ∃ (a : Addr) (xs : List V) (rs : List (List V)), vs = [.ref a] ∧ SqL K H a xs ∧ Tps K H xs rs ∧ (∀ r ∈ rs, 1 ≤ r.length) ∧ rowsN rs ≤ 1000 ∧ rs.length ≤ 20 ∧ ∀ t ts H', Same H H' → H t = none → H' t = some (.lst ts) → Tps K H' ts (rowsV rs) → Q (.ref t) H'
theorem ok__law_every_row (T : Txt w K mg) : FnOk P w K mg base CX0 1 T.a__law_every_row T.d__law_every_row ["some"] (sp_every_row K) := by
  refine T.F__law_every_row.ok sc__law_every_row (fun vs H Q E h => ?_) (fun cdv A outer s H vs Q E hr h => ?_)
  · obtain ⟨a, xs, rs, rfl, _⟩ := h
    rfl
  · obtain ⟨a, xs, rs, rfl, ha, hx, h1, hn, hl, k⟩ := h
    refine ⟨_, (pss_cons (ps_set (i := 1) sc__law_every_row.nd rfl (Or.inl rfl) (pe_lstU (pa_cons (pe_tupU pa_nil) pa_nil)))
      (pss_cons (ps_for PassesOwn.never rfl (pi_list (pv 0)) (pg_name (i := 2) sc__law_every_row.nd rfl (Or.inl rfl)) (pss_cons (ps_set (i := 3) sc__law_every_row.nd rfl (Or.inl rfl) (pe_lstU pa_nil))
      (pss_cons (ps_for PassesOwn.never rfl (pi_list (pv 1)) (pg_name (i := 4) sc__law_every_row.nd rfl (Or.inl rfl)) (pss_one (ps_for PassesOwn.never rfl (pi_tup (pv 2)) (pg_name (i := 5) sc__law_every_row.nd rfl (Or.inl rfl)) (pss_one (ps_expr (pe_bm PySem.F.plainAttrs_list PySem.F.slot_list_append PySem.F.type_list_append mt_append (pv 3) (pa_cons (pe_op op_catU (pv 4) (pe_tupU (pa_cons (pv 5) pa_nil))) pa_nil)))))))
      (pss_one (ps_set (i := 1) sc__law_every_row.nd rfl (Or.inl rfl) (pv 3))))))
      (pss_one (ps_ret (pv 1))))), ?_⟩
    refine seq_op fun N hN => ?_
    walk_at "rs"
    refine ⟨by decide, fun p0 H0 s0 n0 e0 => ⟨by decide, fun p1 H1 s1 n1 e1 => hN _ _ ?_⟩⟩
    clear hN N
    have sH1 := Same.trans s0 s1
    have dn1 := Same.dom s0 p1 n1
    have t0 : Tps K H1 [.ref p0] (rowsV []) := .cons (.inl (.inl (s1 _ _ e0))) .nil
    refine cut_seq (fun σ G => ∃ p ts x2 x3 x4 x5, σ = [some (.ref a), some (.ref p), x2, x3, x4, x5] ∧ Same H G ∧ G p = some (.lst ts) ∧ H p = none ∧ Tps K G ts (rowsV rs)) (fun N hN => ?_) ?_
    · walk_at "rs"
      refine ⟨_, rfl, a, rfl, ⟨xs, Same.seq sH1 ha⟩, for_list (K := K) (a := a) (xs := xs) (fun i σ G => ∃ p ts x2 x3 x4 x5, σ = [some (.ref a), some (.ref p), x2, x3, x4, x5] ∧ Same H1 G ∧ G p = some (.lst ts) ∧ H p = none ∧ Tps K G ts (rowsV (rs.take i))) ⟨p1, [.ref p0], none, none, none, none, rfl, Same.refl _, e1, dn1, t0⟩ (fun i σ' G _ ⟨_, _, _, _, _, _, _, h, _⟩ => Same.seq (Same.trans sH1 h) ha) ?_ ?_⟩
      · rintro i y σ G hy ⟨p, ts, x2, x3, x4, x5, rfl, sg, gp, hp, tg⟩
        obtain ⟨b, r, rfl, hr2, hb⟩ := hx.at hy
        have hb' := Same.seqT (Same.trans sH1 sg) hb
        have et : rs.take (i + 1) = rs.take i ++ [r] := by rw [List.take_succ, hr2]; rfl
        have hin : rowsN (rs.take i) * r.length ≤ 1000 := by rw [← rowsN_snoc, ← et]; exact Nat.le_trans (rowsN_take h1 _) hn
        have lacc := rows_len (rs.take i)
        have wid : ∀ r ∈ rowsV (rs.take i), r.length ≤ 20 := fun r hr => by
          have := rows_row _ r hr
          rw [List.length_take] at this
          omega
        generalize hA : rowsV (rs.take i) = acc at *
        rw [et, rowsV_snoc, hA]
        refine seq_op fun N2 hN2 => ?_
        walk_at "rs"
        refine ⟨by decide, fun D G0 sD nD eD => hN2 _ _ ?_⟩
        clear hN2 N2
        have gp0 := sD _ _ gp
        have tg0 := tg.same sD
        have hb0 := Same.seqT sD hb'
        have dD : H D = none := Same.dom (Same.trans sH1 sg) D nD
        have ne : p ≠ D := ne_of_none gp nD
        refine cut_seq (fun σ G' => ∃ zs x4 x5, σ = [some (.ref a), some (.ref p), some (.ref b), some (.ref D), x4, x5] ∧ Same G G' ∧ G' D = some (.lst zs) ∧ Tps K G' zs (growV acc r)) (fun N2 hN2 => ?_) ?_
        · refine ⟨_, rfl, p, rfl, ⟨ts, .inl (.inl gp0)⟩, for_list (K := K) (a := p) (xs := ts) (fun i σ G' => ∃ zs x4 x5, σ = [some (.ref a), some (.ref p), some (.ref b), some (.ref D), x4, x5] ∧ Same G G' ∧ G' D = some (.lst zs) ∧ Tps K G' zs (growV (acc.take i) r)) ⟨[], x4, x5, rfl, sD, eD, by rw [List.take_zero]; exact .nil⟩ (fun i σ' G' _ ⟨_, _, _, _, h, _⟩ => .inl (.inl (h _ _ gp))) ?_ ?_⟩
          · rintro i y σ G2 hy2 ⟨zs, x4, x5, rfl, s1', g1, tz⟩
            obtain ⟨c, row, rfl, hrow, hc⟩ := tg.at hy2
            have lrow : acc.take (i + 1) = acc.take i ++ [row] := by rw [List.take_succ, hrow]; rfl
            refine ⟨_, rfl, b, rfl, ⟨r, Same.seqT s1' hb'⟩, for_tup (K := K) (a := b) (xs := r) (fun j σ G' => ∃ zs x5, σ = [some (.ref a), some (.ref p), some (.ref b), some (.ref D), some (.ref c), x5] ∧ Same G G' ∧ G' D = some (.lst zs) ∧ Tps K G' zs (growV (acc.take i) r ++ (r.take j).map fun v => row ++ [v])) ⟨zs, x5, rfl, s1', g1, by rw [List.take_zero, List.map_nil, List.append_nil]; exact tz⟩ (fun j σ' G' _ ⟨_, _, _, h, _⟩ => Same.seqT h hb') ?_ ?_⟩
            · rintro j v σ G3 hv ⟨zs3, x5, rfl, s3, g3, t3⟩
              have ej : r.take (j + 1) = r.take j ++ [v] := by rw [List.take_succ, hv]; rfl
              have lz : zs3.length ≤ 1000 := by
                have e1 := t3.len
                rw [List.length_append, growV_len, List.length_map] at e1
                have e2 : (r.take j).length ≤ r.length := by rw [List.length_take]; omega
                have e3 : (acc.take i).length + 1 ≤ acc.length := by
                  rw [List.length_take]
                  have := (List.getElem?_eq_some_iff.mp hrow).1
                  omega
                have e4 := Nat.mul_le_mul_right r.length e3
                rw [Nat.add_mul, Nat.one_mul, lacc] at e4
                omega
              walk_at "rs"
              refine ⟨.inl ⟨rfl, _, .inl (.inl g3)⟩, by decide, fun q0 G5 s5 n5 e5 => ⟨row, Same.seqT (Same.trans s3 s5) hc, [v], .inl (.inl e5), ?_, fun q1 G6 s6 e6 => ⟨zs3, s6 _ _ (s5 _ _ g3), Nat.lt_of_le_of_lt lz (by decide), fun q o e => ?_, _, upd_same, ?_⟩⟩⟩
              · have := wid row (List.mem_of_getElem? hrow)
                exact Nat.le_trans (show row.length + 1 ≤ 21 by omega) (by decide)
              · rw [upd_ne (ne_of_none e nD)]; exact s6 _ _ (s5 _ _ (s3 _ _ e))
              · rw [ej, List.map_append, ← List.append_assoc]
                exact ((t3.same (Same.trans s5 s6)).upd (s6 _ _ (s5 _ _ g3))).app (.cons (seqT_upd (s6 _ _ (s5 _ _ g3)) e6) .nil)
            · rintro σ G3 ⟨zs3, x5, rfl, s3, g3, t3⟩
              refine ⟨zs3, _, _, rfl, s3, g3, ?_⟩
              rw [growV_take _ _ hrow]
              rw [List.take_length] at t3
              exact t3
          · rintro σ G3 ⟨zs3, x4, x5, rfl, s3, g3, t3⟩
            rw [tg.len, List.take_length] at t3
            exact hN2 _ _ ⟨zs3, x4, x5, rfl, s3, g3, t3⟩
        · rintro σ G3 ⟨zs3, x4, x5, rfl, s3, g3, t3⟩
          walk_at "rs"
          exact ⟨D, zs3, _, _, _, _, ⟨rfl, rfl, rfl, rfl, rfl⟩, Same.trans sg s3, g3, dD, t3⟩
      · rintro σ G ⟨p, ts, x2, x3, x4, x5, rfl, sg, gp, hp, tg⟩
        rw [hx.len, List.take_length] at tg
        exact hN _ _ ⟨p, ts, x2, x3, x4, x5, rfl, Same.trans sH1 sg, gp, hp, tg⟩
    · rintro σ G ⟨p, ts, x2, x3, x4, x5, rfl, sg, gp, hp, tg⟩
      walk_at "rs"
      exact k p ts G sg hp gp tg
end
end LK

set_option Elab.async false
set_option linter.all false
set_option maxRecDepth 100000
namespace LK
open PySem PySem.Spec PyProof.Rows L2
local macro_rules | `(tactic| walk_at "rs") => `(tactic| simp only [cxK, cxNK, tCallZ, tAsg, tOp, rI0, rS0, rB0, rI, rU, tUn, rEq, rNe, rIxL, rIxT, rIxS, rSetL, rSlLU, rSlS, rSlU, rCatL, rCatU, rRepL, rIn, tVar, tC, gName, gSub, tIfS, tTest, tB, tAnd, tOr, tNot, tNotV, tAndV, tOrV, tIf, tCall, tCons, tNil, tCB, tDrop, tRet, tRetN, tNext, tLstU, tTupU, tM0, tM1, tPar, tPar3, tAug, ipI, tBM, tBM0, rAppend, rPop, tBreak, tCont, tChain, tSl, tPart, tNoPart, L2.start, List.map, List.length_cons, List.length_nil, List.replicate, List.cons_append, List.nil_append, List.append_nil, List.getElem?_cons_zero, List.getElem?_cons_succ, List.set_cons_zero, List.set_cons_succ, Option.some.injEq, V.int.injEq, V.ref.injEq, V.str.injEq, V.bl.injEq, exists_eq_left', exists_eq_left, exists_and_left, decide_eq_true_eq, List.cons.injEq, and_true, true_and, scal, Bool.not_eq_true', decide_eq_false_iff_not, Nat.zero_add, Nat.reduceAdd, Nat.reduceSub, reduceCtorEq, false_and, exists_false, false_or, or_false, CPow, CMul, CDiv, Int.reduceToNat, ↓reduceIte, wipe, sw, List.nil_append, List.singleton_append])
local macro_rules | `(tactic| walk_at "st") => `(tactic| (refine seq_op fun N hN => ?_; walk_at "rs"))
local macro_rules | `(tactic| walk_at "sd") => `(tactic| first | assumption | decide | omega)
local macro_rules | `(tactic| walk_at "rd") => `(tactic| repeat (first
  | refine ⟨_, SqL.of (by assumption), ?_⟩ | refine ⟨_, SqL.of upd_same, ?_⟩ | refine ⟨_, .inl (SqL.of (by assumption)), ?_⟩ | refine ⟨_, (by assumption : _ = some (HO.lst _)), ?_⟩ | refine ⟨_, upd_same, ?_⟩
  | refine ⟨_, rfl, ?_⟩ | refine And.intro (by walk_at "sd") ?_))

/-- the comprehension over what J walks -/
def tLcB (J : It) (g : TG) (tt : TT) (te : TE) (vs : List Nat) (σ : L2.St) (Q : VK) (H1 : Hp) : Prop := tLc (fun _ H R => R J H) g tt te vs σ H1 Q
theorem lcz {K : PySem.W.Frag} {ta : TA} {te : TE} {g : TG} {tt : TT} {vs : List Nat} {σ : L2.St} {H : Hp} {Q : VK} (h : ta σ H fun ws H1 => ∃ a b xs ys, ws = [.ref a, .ref b] ∧ ((SqL K H1 a xs ∧ SqL K H1 b ys ∧ tLcB (Itz K a b) g tt te vs σ Q H1) ∨ (SqT K H1 a xs ∧ SqT K H1 b ys ∧ tLcB (RZ.ItzT K a b) g tt te vs σ Q H1))) : tLc (RZ.iZipA K ta) g tt te vs σ H Q := h
theorem walk_zipD {K : PySem.W.Frag} {a b : Addr} {xs ys : List V} {n : Nat} (hx : n ≤ xs.length) (hy : ys.length = n) : Walk (RZ.ItzT K a b) n (fun H => SqT K H a xs ∧ SqT K H b ys) (YPair (fun i => xs[i]?) (fun i => ys[i]?)) := by
  refine ⟨fun i _ hi q => ?_, fun _ q => ⟨xs, ys, q.1, q.2, by omega⟩, fun i H v H' _ q y => ?_⟩
  · have h1 : i < xs.length := by omega
    have h2 : i < ys.length := by omega
    exact ⟨xs, ys, xs[i], ys[i], q.1, q.2, by simp [h1], by simp [h2]⟩
  · obtain ⟨T, x, z, h1, h2, h3, h4, h5⟩ := y
    exact ⟨T, x, z, h1, h2, h3, h4 xs q.1, h5 ys q.2⟩
theorem rall_true {K : PySem.W.Frag} {α : Type} {H : Hp} {D : Addr} {ys : List α} {Q : VK} (h : H D = some (.lst (ys.map fun _ => V.bl true))) (k : Q (.bl true) H) : rAll K [V.ref D] H Q := by
  refine ⟨D, ys.map fun _ => true, rfl, SqL.of (by rw [List.map_map]; exact h), ?_⟩
  have e : (ys.map fun _ => true).all id = true := by simp
  rw [e]; exact k
section
variable {P : Program} {w : World} {K : PySem.W.Frag} {mg : Str → Option Value} {base : Heap}
def frD (f : Fr) : PyData := .tuple [.int f.1, .int f.2]
theorem dp_frs {H : Hp} : ∀ {xs : List V} {gs : List Fr}, Frs K H xs gs → DpAll K H xs (gs.map frD)
  | _, _, .nil => .nil
  | _, _, .cons h q => .cons (dp_pair h) (dp_frs q)
theorem okAll_frs : ∀ {gs : List Fr}, (∀ f ∈ gs, okF f) → okAll (gs.map frD) = true
  | [], _ => rfl
  | f :: gs, h => by
    show (okD (frD f) && okAll (gs.map frD)) = true
    have o := h f List.mem_cons_self
    rw [okAll_frs fun g hg => h g (List.mem_cons_of_mem _ hg), Bool.and_true]
    exact okD_of2 (pow_le o.2.2.1 (by decide)) (pow_le o.2.2.2 (by decide))
theorem dep_frs : ∀ gs : List Fr, depAll (gs.map frD) ≤ 1
  | [] => Nat.zero_le _
  | f :: gs => Nat.max_le.mpr ⟨Nat.le_refl 1, dep_frs gs⟩
def sp_lf (K : PySem.W.Frag) : Sp := fun vs H Q _ => ∃ (a b : Addr) (xs ys : List V) (gs : List Fr), vs = [.ref a, .ref b] ∧ SqT K H a xs ∧ Frs K H xs gs ∧ SqT K H b ys ∧ Frs K H ys gs ∧ gs.Pairwise (fun f g => ltF f g = true) ∧ (∀ f ∈ gs, okF f) ∧ gs.length ≤ 5000 ∧ ∀ H', Same H H' → Q (.bl true) H'
theorem ok__law_like_fractions (T : Txt w K mg) : FnOk P w K mg base CX0 4 T.a__law_like_fractions T.d__law_like_fractions ["got", "due"] (sp_lf K) := by
  refine T.F__law_like_fractions.ok sc__law_like_fractions (fun vs H Q E h => ?_) (fun cdv A outer s H vs Q E hr h => ?_)
  · obtain ⟨a, b, xs, ys, gs, rfl, _⟩ := h
    rfl
  · obtain ⟨a, b, xs, ys, gs, rfl, ha, hx, hb, hy, asc, ok, hl, k⟩ := h
    have hr__law_like : Room 3 _ := hr
    have G__law_like := ok__law_like (P := P) (base := base) T 2
    have hr__law_order : Room 1 _ := hr.mono (by decide)
    have G__law_order := ok__law_order (P := P) (base := base) T
    refine ⟨_, (pss_cons (ps_if (PW.pt (pw_or (pt_not (pt_val (pe_callB (call_isiDK (K := K) rfl) (by rfl) T.n_isinstance (by decide +kernel) (pa_cons (pv 0) (pa_cons (pe_bltn (v := .ty "tuple") (u := .type "tuple") (by rfl) T.n_tuple (by decide +kernel) rfl) pa_nil))))) (pw_or1 (pt_not (pt_val (pe_callB (cr_all rfl) (by rfl) T.n_all (by decide +kernel) (pa_cons (pe_lc (own := [("one", 2)]) (g := gName 2) (tt := tYes) rfl sc__law_like_fractions.nd (pi_tup (pv 0)) (blkOk_by (own := [("one", 2)]) (N := N__law_like_fractions) (sc := defScope s__law_like_fractions) (by decide +kernel)) (fun _ _ _ _ _ => pg_name (i := 2) sc__law_like_fractions.nd rfl (Or.inl rfl)) (fun _ _ _ _ _ => pts_nil) (fun _ _ _ _ _ => (pe_and (pe_callB (call_isiDK (K := K) rfl) (by rfl) T.n_isinstance (by decide +kernel) (pa_cons (pv 2) (pa_cons (pe_bltn (v := .ty "tuple") (u := .type "tuple") (by rfl) T.n_tuple (by decide +kernel) rfl) pa_nil))) (pe_one (pe_cmpR op_eqI (pe_callB (call_len_seqK (K := K) rfl) (by rfl) T.n_len (by decide +kernel) (pa_cons (pv 2) pa_nil)) pe_int (nomark _)))))) pa_nil))))))) (pss_one (ps_ret pe_bl)) pss_nil)
      (pss_cons (ps_if (pt_not (pt_val (pe_call G__law_like hr__law_like (by rfl) T.m__law_like T.F__law_like.kp T.B__law_like .nil pass0 (pa_cons (pe_callTy call_listU (by rfl) T.n_list (by decide +kernel) (pa_cons (pv 0) pa_nil)) (pa_cons (pe_lc (own := [("one", 2)]) (g := gName 2) (tt := tYes) rfl sc__law_like_fractions.nd (pi_tup (pv 1)) (blkOk_by (own := [("one", 2)]) (N := N__law_like_fractions) (sc := defScope s__law_like_fractions) (by decide +kernel)) (fun _ _ _ _ _ => pg_name (i := 2) sc__law_like_fractions.nd rfl (Or.inl rfl)) (fun _ _ _ _ _ => pts_nil) (fun _ _ _ _ _ => (pe_tupU (pa_cons (pe_ix (ix_tupK (K := K) rfl) (pv 2) pe_int (fun _ _ => rfl)) (pa_cons (pe_ix (ix_tupK (K := K) rfl) (pv 2) pe_int (fun _ _ => rfl)) pa_nil))))) pa_nil))))) (pss_one (ps_ret pe_bl)) pss_nil)
      (pss_one (ps_ret (pe_callB (cr_all rfl) (by rfl) T.n_all (by decide +kernel) (pa_cons (pe_lc (own := [("one", 2), ("two", 3)]) (g := gTup K 2 (gCons (gName 2) (gCons (gName 3) (gNil)))) (tt := tYes) rfl sc__law_like_fractions.nd (RZ.pi_zipA (by rfl) T.n_zip (pa_cons (pv 0) (pa_cons (pe_slice sl_tupU (pv 0) (po_some pe_int) po_none) pa_nil))) (blkOk_by (own := [("one", 2), ("two", 3)]) (N := N__law_like_fractions) (sc := defScope s__law_like_fractions) (by decide +kernel)) (fun _ _ _ _ _ => by exact (pg_tup rfl (pgs_cons (pg_name (i := 2) sc__law_like_fractions.nd rfl (Or.inl rfl)) (pgs_cons (pg_name (i := 3) sc__law_like_fractions.nd rfl (Or.inl rfl)) pgs_nil)))) (fun _ _ _ _ _ => pts_nil) (fun _ _ _ _ _ => (pe_cmpR op_lt (pe_call G__law_order hr__law_order (by rfl) T.m__law_order T.F__law_order.kp T.B__law_order .nil pass0 (pa_cons (pv 2) (pa_cons (pv 3) pa_nil))) pe_int (nomark _)))) pa_nil)))))), ?_⟩
    refine seq_op fun N hN => ?_
    walk_at "rs"
    have lx := hx.len
    refine ⟨_, _, ⟨rfl, rfl⟩, _, .tup ha (dp_frs hx), by decide, iteFF (by exact Bool.false_ne_true.symm) ?_⟩
    refine ⟨_, rfl, a, rfl, ⟨xs, ha⟩, fun D hD => lc_pure (walk_tup (K := K) (a := a) (xs := xs)) hD (by omega) (fun _ => .bl true) (fun H s => Same.seqT s ha) ?_ ?_ ?_⟩
    · rintro j y G1 G2 hj s1 ⟨rfl, hy1⟩
      obtain ⟨e, f, rfl, hf, he⟩ := (hx.same s1).get' hy1
      refine ⟨Same.refl _, rfl, fun Q2 hq => ?_⟩
      walk_at "rs"
      exact ⟨_, _, ⟨rfl, rfl⟩, _, dp_pair he, by decide, iteTT rfl ⟨_, .inr he, hq _ (Same.refl _)⟩⟩
    · exact fun x σ0 H0 Q0 Q1 h h0 => h _ _ h0
    · intro H1 s1 h1
      refine rall_true h1 ⟨true, rfl, iteFF (show ¬ true = false by decide) (hN _ _ ?_)⟩
      clear hN N
      replace ha := Same.seqT s1 ha
      replace hb := Same.seqT s1 hb
      replace hx := hx.same s1
      replace hy := hy.same s1
      replace k : ∀ H', Same H1 H' → Q (.bl true) H' := fun H' s' => k H' (Same.trans s1 s')
      clear s1 hD h1
      refine seq_op fun N hN => ?_
      walk_at "rs"
      refine ⟨xs, .inr ha, fun l H2 s2 d2 e2 => ⟨_, rfl, b, rfl, ⟨ys, Same.seqT s2 hb⟩, fun D hD => lc_it (walk_tup (K := K) (a := b) (xs := ys)) (fun j G => Same H2 G ∧ ∃ us, G D = some (.lst us) ∧ Frs K G us (gs.take j)) ⟨same_upd hD, [], upd_same, by rw [List.take_zero]; exact .nil⟩ (fun j G _ h => Same.seqT (Same.trans s2 h.1) hb) ?_ ?_⟩⟩
      · rintro j y G1 G2 hj ⟨s3, us, g1, f1⟩ ⟨rfl, hy1⟩
        obtain ⟨e, f, rfl, hf, he⟩ := (hy.same (Same.trans s2 s3)).get' hy1
        have ej : gs.take (j + 1) = gs.take j ++ [f] := by rw [List.take_succ, hf]; rfl
        walk_at "rs"
        refine ⟨_, he, _, rfl, _, he, _, rfl, by decide, fun t G3 s4 n4 e4 => ⟨us, s4 _ _ g1, ?_, fun q o e => ?_, _, upd_same, ?_⟩⟩
        · have := f1.len
          rw [List.length_take] at this
          exact Nat.lt_of_le_of_lt (show us.length ≤ 5000 by omega) (by decide)
        · rw [upd_ne (ne_of_none e hD)]; exact s4 _ _ (s3 _ _ e)
        · rw [ej]; exact ((f1.same s4).upd (s4 _ _ g1)).app (.cons (seqT_upd (s4 _ _ g1) (.inl (.inl e4))) .nil)
      · rintro G ⟨s3, us, g1, f1⟩
        rw [hy.len, List.take_length] at f1
        have lo : okD (.list (gs.map frD)) = true := okD_lst.mpr ⟨by rw [List.length_map]; omega, okAll_frs ok⟩
        refine ⟨_, _, .list (gs.map frD), rfl, .lst (.inl (.inl (s3 _ _ e2))) (dp_frs ((hx.same s2).same s3)), .lst (.inl (.inl g1)) (dp_frs f1), lo, Nat.succ_le_succ (dep_frs gs), fun H3 s4 => ⟨true, rfl, iteFF (show ¬ true = false by decide) (hN _ _ ?_)⟩⟩
        clear hN N
        have sall := Same.trans s2 (Same.trans s3 s4)
        replace ha := Same.seqT sall ha
        replace hx := hx.same sall
        replace k : ∀ H', Same H3 H' → Q (.bl true) H' := fun H' s' => k H' (Same.trans sall s')
        walk_at "rs"
        refine lcz ?_
        walk_at "rs"
        refine ⟨xs, ha, fun q H4 s5 hq => ⟨a, q, ⟨rfl, rfl⟩, xs, xs.drop 1, .inr ⟨Same.seqT s5 ha, by rw [← cutV_drop]; exact hq, fun D3 hD3 => lc_pure (walk_zipD (n := (xs.drop 1).length) (by rw [List.length_drop]; omega) rfl) hD3 (by rw [List.length_drop]; omega) (fun _ => .bl true) (fun H s => ⟨Same.seqT (Same.trans s5 s) ha, by rw [← cutV_drop]; exact Same.seqT s hq⟩) ?_ ?_ ?_⟩⟩⟩
        · intro j x G1 G2 hj s6 y
          obtain ⟨T0, y1, y2, rfl, hT, rfl, e1, e2⟩ := y
          replace e1 : xs[j]? = some y1 := e1
          replace e2 : (xs.drop 1)[j]? = some y2 := e2
          rw [List.getElem?_drop] at e2
          obtain ⟨u1, f1', rfl, fu1, hu1⟩ := hx.get' e1
          obtain ⟨u2, f2', rfl, fu2, hu2⟩ := hx.get' e2
          have lt : ltF f1' f2' = true := by
            obtain ⟨g1, rfl⟩ := List.getElem?_eq_some_iff.mp fu1
            obtain ⟨g2, rfl⟩ := List.getElem?_eq_some_iff.mp fu2
            exact List.pairwise_iff_getElem.mp asc _ _ g1 g2 (by omega)
          have ss : Same H3 (L2.upd G1 T0 (.tup [V.ref u1, V.ref u2])) := Same.trans s5 (Same.trans s6 (same_upd hT))
          have o1 := (ok f1' (List.mem_of_getElem? fu1)).le (show 1990 ≤ 4000 by decide)
          have o2 := (ok f2' (List.mem_of_getElem? fu2)).le (show 1990 ≤ 4000 by decide)
          refine ⟨T0, [.ref u1, .ref u2], rfl, .inl (.inl upd_same), rfl, .ref u1, [.ref u2], rfl, .ref u2, [], rfl, rfl, same_upd hT, rfl, fun Q2 hq2 => ?_⟩
          walk_at "rs"
          refine ⟨u1, u2, ⟨rfl, rfl⟩, f1', Same.seqT ss hu1, f2', Same.seqT ss hu2, o1, o2, ?_⟩
          have ng : ord3 (gapF f1' f2') < 0 := by
            rw [ord3_lt]
            have : f1'.1 * f2'.2 < f2'.1 * f1'.2 := of_decide_eq_true lt
            unfold gapF; omega
          rw [decide_eq_true ng]
          exact hq2 _ (Same.refl _)
        · exact fun x σ0 H0 Q0 Q1 h ⟨a, xs, e1, e2, e3, v, r, e4, v2, r2, e5, e6, q⟩ => ⟨a, xs, e1, e2, e3, v, r, e4, v2, r2, e5, e6, h _ _ q⟩
        · intro H5 s6 h6
          exact rall_true (ys := List.range (xs.drop 1).length) h6 (k _ (Same.trans s5 s6))
end
end LK

set_option Elab.async false
set_option linter.all false
set_option maxRecDepth 100000
namespace LK
open PySem PySem.Spec PyProof.Rows L2
local macro_rules | `(tactic| walk_at "rs") => `(tactic| simp only [cxK, cxNK, tCallZ, tAsg, tOp, rI0, rS0, rB0, rI, rU, tUn, rEq, rNe, rIxL, rIxT, rIxS, rSetL, rSlLU, rSlS, rSlU, rCatL, rCatU, rRepL, rIn, tVar, tC, gName, gSub, tIfS, tTest, tB, tAnd, tOr, tNot, tNotV, tAndV, tOrV, tIf, tCall, tCons, tNil, tCB, tDrop, tRet, tRetN, tNext, tLstU, tTupU, tM0, tM1, tPar, tPar3, tAug, ipI, tBM, tBM0, rAppend, rPop, tBreak, tCont, tChain, tSl, tPart, tNoPart, L2.start, List.map, List.length_cons, List.length_nil, List.replicate, List.cons_append, List.nil_append, List.append_nil, List.getElem?_cons_zero, List.getElem?_cons_succ, List.set_cons_zero, List.set_cons_succ, Option.some.injEq, V.int.injEq, V.ref.injEq, V.str.injEq, V.bl.injEq, exists_eq_left', exists_eq_left, exists_and_left, decide_eq_true_eq, List.cons.injEq, and_true, true_and, scal, Bool.not_eq_true', decide_eq_false_iff_not, Nat.zero_add, Nat.reduceAdd, Nat.reduceSub, reduceCtorEq, false_and, exists_false, false_or, or_false, CPow, CMul, CDiv, Int.reduceToNat, ↓reduceIte, wipe, sw, List.nil_append, List.singleton_append])
local macro_rules | `(tactic| walk_at "st") => `(tactic| (refine seq_op fun N hN => ?_; walk_at "rs"))
local macro_rules | `(tactic| walk_at "sd") => `(tactic| first | assumption | decide | omega)
local macro_rules | `(tactic| walk_at "rd") => `(tactic| repeat (first
  | refine ⟨_, SqL.of (by assumption), ?_⟩ | refine ⟨_, SqL.of upd_same, ?_⟩ | refine ⟨_, .inl (SqL.of (by assumption)), ?_⟩ | refine ⟨_, (by assumption : _ = some (HO.lst _)), ?_⟩ | refine ⟨_, upd_same, ?_⟩
  | refine ⟨_, rfl, ?_⟩ | refine And.intro (by walk_at "sd") ?_))

open TL
theorem small_str {i : Int} (h1 : -20 ≤ i) (h2 : i ≤ 20) : (Str.ofString (toString i)).length ≤ 20 := by
  have q : ∀ k : Fin 41, (Str.ofString (toString (((k.val : Nat) : Int) - 20))).length ≤ 20 := by decide +kernel
  have e := q ⟨(i + 20).toNat, by omega⟩
  rw [show (((i + 20).toNat : Nat) : Int) - 20 = i by omega] at e
  exact e
theorem small_log {i : Int} (h1 : -20 ≤ i) (h2 : i ≤ 20) : i.natAbs.log2 < 1920 := Nat.lt_of_le_of_lt (Nat.log2_le_self _) (by omega)
/-- what holds of the two lists of _law_prefix -/
structure Pfx (b c : Addr) (H H2 : Hp) (o m : Addr) (os ms : List Str) : Prop where
  bag : Bag H2 b c
  kp : Kp b H H2
  o0 : H o = none
  m0 : H m = none
  om : o ≠ m
  ob : o ≠ b
  mb : m ≠ b
  oc : c ≠ o
  mc : c ≠ m
  ho : H2 o = some (.lst (os.map V.str))
  hm : H2 m = some (.lst (ms.map V.str))
  eo : ∀ z ∈ os, z = "e" ∨ z = "k"
  em : ∀ z ∈ ms, z.length ≤ 20
theorem kp_upd {b p : Addr} {H H2 : Hp} {o : HO} (k : Kp b H H2) (h0 : H p = none) : Kp b H (L2.upd H2 p o) := fun a u e => by
  obtain ⟨h1, h2⟩ := hb_some e
  rw [hb_ne h1, upd_ne (ne_of_none h2 h0)]
  exact k.hd h2 h1
section
variable {b c : Addr} {H H2 H3 : Hp} {o m : Addr} {os ms : List Str}
theorem Pfx.call (p : Pfx b c H H2 o m os ms) (B : Bag H3 b c) (k : Kp b H2 H3) : Pfx b c H H3 o m os ms :=
  ⟨B, Same.trans p.kp k, p.o0, p.m0, p.om, p.ob, p.mb, p.oc, p.mc, k.hd p.ho p.ob, k.hd p.hm p.mb, p.eo, p.em⟩
theorem Pfx.same (p : Pfx b c H H2 o m os ms) (s : Same H2 H3) : Pfx b c H H3 o m os ms := p.call (p.bag.same s) (Kp.of s)
theorem Pfx.pushm (p : Pfx b c H H2 o m os ms) {z : Str} (hz : z.length ≤ 20) : Pfx b c H (L2.upd H2 m (.lst (ms.map V.str ++ [V.str z]))) o m os (ms ++ [z]) :=
  ⟨p.bag.upd p.mb.symm p.mc, kp_upd p.kp p.m0, p.o0, p.m0, p.om, p.ob, p.mb, p.oc, p.mc, by rw [upd_ne p.om]; exact p.ho, by rw [upd_same, List.map_append]; rfl, p.eo, fun y hy => by
    rcases List.mem_append.mp hy with hy | hy
    · exact p.em y hy
    · obtain rfl : y = z := by simpa using hy
      exact hz⟩
theorem Pfx.pusho (p : Pfx b c H H2 o m os ms) {z : Str} (hz : z = "e" ∨ z = "k") : Pfx b c H (L2.upd H2 o (.lst (os.map V.str ++ [V.str z]))) o m (os ++ [z]) ms :=
  ⟨p.bag.upd p.ob.symm p.oc, kp_upd p.kp p.o0, p.o0, p.m0, p.om, p.ob, p.mb, p.oc, p.mc, by rw [upd_same, List.map_append]; rfl, by rw [upd_ne p.om.symm]; exact p.hm, fun y hy => by
    rcases List.mem_append.mp hy with hy | hy
    · exact p.eo y hy
    · obtain rfl : y = z := by simpa using hy
      exact hz, p.em⟩
theorem Pfx.pop (p : Pfx b c H H2 o m os ms) : Pfx b c H (L2.upd H2 o (.lst (os.map V.str).dropLast)) o m os.dropLast ms :=
  ⟨p.bag.upd p.ob.symm p.oc, kp_upd p.kp p.o0, p.o0, p.m0, p.om, p.ob, p.mb, p.oc, p.mc, by rw [upd_same, List.map_dropLast], by rw [upd_ne p.om.symm]; exact p.hm, fun y hy => p.eo y (List.dropLast_sublist _ |>.subset hy), p.em⟩
/-- another list in o's place -/
theorem Pfx.newo (p : Pfx b c H H2 o m os ms) (s : Same H2 H3) {o2 : Addr} {os2 : List Str} (h0 : H2 o2 = none) (h : H3 o2 = some (.lst (os2.map V.str))) (eo : ∀ z ∈ os2, z = "e" ∨ z = "k") : Pfx b c H H3 o2 m os2 ms := by
  have q := p.same s
  obtain ⟨xb, eb⟩ := p.bag.at
  obtain ⟨xc, ec⟩ := p.bag.at2
  refine ⟨q.bag, q.kp, Kp.bn p.kp eb h0, p.m0, fun e => ?_, fun e => ?_, p.mb, fun e => ?_, p.mc, h, q.hm, eo, p.em⟩
  · rw [e, p.hm] at h0; cases h0
  · rw [e, eb] at h0; cases h0
  · rw [← e, ec] at h0; cases h0
end
theorem strs_lay : ∀ {zs : List Str}, (∀ z ∈ zs, PyData.canLay0 (.str z) = true) → PyData.canLayAll0 (zs.map PyData.str) = true
  | [], _ => rfl
  | z :: zs, h => by
    show (PyData.canLay0 (.str z) && PyData.canLayAll0 (zs.map PyData.str)) = true
    rw [h z List.mem_cons_self, strs_lay fun y hy => h y (List.mem_cons_of_mem _ hy)]; rfl
theorem strs_depth : ∀ zs : List Str, PyData.depthAll (zs.map PyData.str) = 0
  | [] => rfl
  | z :: zs => by
    show max (PyData.depth (.str z)) (PyData.depthAll (zs.map PyData.str)) = 0
    rw [strs_depth zs]; rfl
theorem strs_shaped {zs : List Str} (h : ∀ z ∈ zs, PyData.canLay0 (.str z) = true) : SeqAt.shaped (.list (zs.map PyData.str)) = true := by
  unfold SeqAt.shaped
  rw [Bool.and_eq_true]
  refine ⟨strs_lay h, decide_eq_true ?_⟩
  show PyData.depthAll (zs.map PyData.str) + 1 ≤ 64
  rw [strs_depth]; decide
theorem strs_dpa {K : PySem.W.Frag} {H : Hp} : ∀ (zs : List Str), DpAll K H (zs.map V.str) (zs.map PyData.str)
  | [] => .nil
  | z :: zs => .cons (.str z) (strs_dpa zs)
/-! ### what the words made so far leave to be made -/
theorem if_ofP {c : TT} {t u : TS} {D : Ends} {σ : L2.St} {H : Hp} (Φ : Bool → Prop) (hc : ∀ K : Bool → Hp → Prop, (∀ b, Φ b → K b H) → c σ H K) (hA : Φ true → t D σ H) (hB : Φ false → u D σ H) : tIfS c t u D σ H := hc _ fun b hb => by
  cases b
  · exact iteFF (by decide) (hB hb)
  · exact iteTT rfl (hA hb)
def code (z : Str) : Nat := if z = "k" then 107 else 101
def codes (os : List Str) : List Nat := (os.map code).reverse
theorem codes_app (a b : List Str) : codes (a ++ b) = codes b ++ codes a := by unfold codes; rw [List.map_append, List.reverse_append]
structure PfW (parts : List Str) (size : Int) (os ms : List Str) : Prop where
  wd : ∀ z ∈ ms, z ∈ allW ∧ (nm z = true → z ∈ parts)
  wk : ∀ r, walkL [101] (ms.map PyData.str ++ r) = walkL (codes os) r
  ln : (ms.length : Int) + os.length ≤ size
theorem PfW.step {parts : List Str} {size : Int} {os ms L : List Str} {z0 z : Str} (W : PfW parts size (os ++ [z0]) ms) (hz : z ∈ allW) (hn : nm z = true → z ∈ parts) (ho : opsL (.str z) (code z0) = some (codes L)) (hl : (ms.length : Int) + 1 + os.length + L.length ≤ size) : PfW parts size (os ++ L) (ms ++ [z]) where
  wd := fun y hy => by
    rcases List.mem_append.mp hy with hy | hy
    · exact W.wd y hy
    · obtain rfl : y = z := by simpa using hy
      exact ⟨hz, hn⟩
  wk := fun r => by
    have e1 : (ms ++ [z]).map PyData.str ++ r = ms.map PyData.str ++ (PyData.str z :: r) := by simp
    rw [e1, W.wk, codes_app, codes_app]
    show walkL (code z0 :: codes os) (.str z :: r) = _
    simp only [walkL, ho]
  ln := by
    rw [List.length_append, List.length_append, List.length_singleton]
    omega
theorem f_int : ∀ k : Fin 19, ("".length = 0) ∧ Str.ofString (toString ((k.val : Int) - 9)) ∈ allW ∧ nm (Str.ofString (toString ((k.val : Int) - 9))) = false ∧ opsL (.str (Str.ofString (toString ((k.val : Int) - 9)))) 101 = some [] := by decide +kernel
theorem f_fig : ∀ k : Fin 9, Str.ofString (toString (1 + (k.val : Int))) ∈ allW ∧ nm (Str.ofString (toString (1 + (k.val : Int)))) = false ∧ opsL (.str (Str.ofString (toString (1 + (k.val : Int))))) 107 = some [] ∧ opsL (.str (Str.ofString (toString (1 + (k.val : Int))))) 101 = some [] := by decide +kernel
theorem f_md : ∀ z ∈ (["mod", "div"] : List Str), z ∈ allW ∧ nm z = false ∧ opsL (.str z) 101 = some (codes ["k", "e"]) := by decide +kernel
theorem f_op : ∀ z ∈ (["+", "-", "*", "+", "-", "min", "max", "=", "/=", "<", "<=", ">", ">=", "and", "or"] : List Str), z ∈ allW ∧ nm z = false ∧ opsL (.str z) 101 = some (codes ["e", "e"]) := by decide +kernel
theorem f_one : ("not" : Str) ∈ allW ∧ nm "not" = false ∧ opsL (.str "not") 101 = some (codes ["e"]) ∧ ("if" : Str) ∈ allW ∧ nm "if" = false ∧ opsL (.str "if") 101 = some (codes ["e", "e", "e"]) := by decide +kernel
theorem f_nm : ∀ z ∈ names11, z ∈ allW ∧ nm z = true ∧ opsL (.str z) 101 = some (codes []) := by decide +kernel
theorem f_int' {i : Int} (h1 : -9 ≤ i) (h2 : i ≤ 9) : Str.ofString (toString i) ∈ allW ∧ nm (Str.ofString (toString i)) = false ∧ opsL (.str (Str.ofString (toString i))) 101 = some [] := by
  have q := f_int ⟨(i + 9).toNat, by omega⟩
  rw [show (((i + 9).toNat : Nat) : Int) - 9 = i by omega] at q
  exact q.2
theorem f_fig' {i : Int} (h1 : 1 ≤ i) (h2 : i ≤ 9) : Str.ofString (toString i) ∈ allW ∧ nm (Str.ofString (toString i)) = false ∧ opsL (.str (Str.ofString (toString i))) 107 = some [] ∧ opsL (.str (Str.ofString (toString i))) 101 = some [] := by
  have q := f_fig ⟨(i - 1).toNat, by omega⟩
  rw [show 1 + (((i - 1).toNat : Nat) : Int) = i by omega] at q
  exact q
def sp_pre (K : PySem.W.Frag) : Sp := fun vs H Q _ => ∃ (b c p : Addr) (parts : List Str) (size : Int), vs = [.ref b, .ref p, .int size] ∧ Bag H b c ∧ hb H b p = some (.lst (parts.map V.str)) ∧ (∀ z ∈ parts, z ∈ names11) ∧ parts.length ≤ 20 ∧ 1 ≤ size ∧ size ≤ 30 ∧
  ∀ q (ws : List Str) H', Bag H' b c → Kp b H H' → H q = none → H' q = some (.tup (ws.map V.str)) → ws.length ≤ 30 → (∀ z ∈ ws, z ∈ allW ∧ (nm z = true → z ∈ parts)) → walkL [101] (ws.map PyData.str) = true → Q (.ref q) H'
section
variable {P : Program} {w : World} {K : PySem.W.Frag} {mg : Str → Option Value} {base : Heap}
theorem ok__law_prefix (T : Txt w K mg) : FnOk P w K mg base CX0 3 T.a__law_prefix T.d__law_prefix ["bag", "parts", "size"] (sp_pre K) := by
  refine T.F__law_prefix.ok sc__law_prefix (fun vs H Q E h => ?_) (fun cdv A outer s H vs Q E hr h => ?_)
  · obtain ⟨b, c, p, parts, size, rfl, _⟩ := h
    rfl
  · obtain ⟨b, c, p, parts, size, rfl, B, hp, hpl, hpn, sz1, sz30, k⟩ := h
    have hr__law_draw : Room 1 _ := hr.mono (by decide)
    have G__law_draw := ok__law_draw (P := P) (base := base) T
    have hr__law_of : Room 2 _ := hr.mono (by decide)
    have G__law_of := ok__law_of (P := P) (base := base) T
    refine ⟨_, (pss_cons (ps_par (i := 3) (j := 4) (by rfl) sc__law_prefix.nd rfl rfl (by decide) rfl rfl (pa_cons (pe_lstU (pa_cons pe_str pa_nil)) (pa_cons (pe_lstU pa_nil) pa_nil)) (by rfl))
      (pss_cons (ps_for PassesOwn.never rfl (pi_range1 (by rfl) T.n_range (pa_cons pe_int pa_nil)) (pg_name (i := 5) sc__law_prefix.nd rfl (Or.inl rfl)) (pss_cons (ps_if (pt_cmpR (op_eqD hr.units) (pv 3) (pe_lstU pa_nil) (nomark _)) (pss_one ps_break) pss_nil)
      (pss_cons (ps_set (i := 6) sc__law_prefix.nd rfl (Or.inl rfl) (pe_bm0 PySem.F.plainAttrs_list PySem.F.slot_list_pop PySem.F.type_list_pop mt_pop (pv 3)))
      (pss_cons (ps_set (i := 7) sc__law_prefix.nd rfl (Or.inl rfl) (pe_op op_sub (pe_op op_sub (pe_op op_sub (pv 2) (pe_callB call_len_seq (by rfl) T.n_len (by decide +kernel) (pa_cons (pv 4) pa_nil))) (pe_callB call_len_seq (by rfl) T.n_len (by decide +kernel) (pa_cons (pv 3) pa_nil))) pe_int))
      (pss_cons (ps_set (i := 8) sc__law_prefix.nd rfl (Or.inl rfl) (pe_call G__law_draw hr__law_draw (by rfl) T.m__law_draw T.F__law_draw.kp T.B__law_draw .nil pass0 (pa_cons (pv 0) (pa_cons pe_int pa_nil))))
      (pss_one (ps_if (pt_cmpR op_eqS (pv 6) pe_str (nomark _)) (pss_one (ps_expr (pe_bm PySem.F.plainAttrs_list PySem.F.slot_list_append PySem.F.type_list_append mt_append (pv 4) (pa_cons (pe_callTy call_str_int (by rfl) T.n_str (by decide +kernel) (pa_cons (pe_op op_add pe_int (pe_call G__law_draw hr__law_draw (by rfl) T.m__law_draw T.F__law_draw.kp T.B__law_draw .nil pass0 (pa_cons (pv 0) (pa_cons pe_int pa_nil)))) pa_nil)) pa_nil)))) (pss_one (ps_if (PW.pt (pw_and (pt_cmpR op_eqI (pv 8) pe_int (nomark _)) (pw_and1 (pt_cmpR op_gt (pv 7) pe_int (nomark _))))) (pss_cons (ps_expr (pe_bm PySem.F.plainAttrs_list PySem.F.slot_list_append PySem.F.type_list_append mt_append (pv 4) (pa_cons pe_str pa_nil)))
      (pss_one (ps_expr (pe_bm PySem.F.plainAttrs_list PySem.F.slot_list_append PySem.F.type_list_append mt_append (pv 3) (pa_cons pe_str pa_nil))))) (pss_one (ps_if (PW.pt (pw_and (pt_cmpR op_eqI (pv 8) pe_int (nomark _)) (pw_and1 (pt_cmpR op_gt (pv 7) pe_int (nomark _))))) (pss_cons (ps_expr (pe_bm PySem.F.plainAttrs_list PySem.F.slot_list_append PySem.F.type_list_append mt_append (pv 4) (pa_cons pe_str pa_nil)))
      (pss_one (ps_set (i := 3) sc__law_prefix.nd rfl (Or.inl rfl) (pe_op op_catL (pv 3) (pe_lstU (pa_cons pe_str (pa_cons pe_str (pa_cons pe_str pa_nil)))))))) (pss_one (ps_if (PW.pt (pw_and (pt_cmpR op_eqI (pv 8) pe_int (nomark _)) (pw_and1 (pt_cmpR op_gt (pv 7) pe_int (nomark _))))) (pss_cons (ps_expr (pe_bm PySem.F.plainAttrs_list PySem.F.slot_list_append PySem.F.type_list_append mt_append (pv 4) (pa_cons (pe_call G__law_of hr__law_of (by rfl) T.m__law_of T.F__law_of.kp T.B__law_of .nil pass0 (pa_cons (pv 0) (pa_cons (pe_lstU (pa_cons pe_str (pa_cons pe_str pa_nil))) pa_nil))) pa_nil)))
      (pss_one (ps_set (i := 3) sc__law_prefix.nd rfl (Or.inl rfl) (pe_op op_catL (pv 3) (pe_lstU (pa_cons pe_str (pa_cons pe_str pa_nil))))))) (pss_one (ps_if (PW.pt (pw_and (pt_cmpR op_gt (pv 8) pe_int (nomark _)) (pw_and1 (pt_cmpR op_gt (pv 7) pe_int (nomark _))))) (pss_cons (ps_expr (pe_bm PySem.F.plainAttrs_list PySem.F.slot_list_append PySem.F.type_list_append mt_append (pv 4) (pa_cons (pe_call G__law_of hr__law_of (by rfl) T.m__law_of T.F__law_of.kp T.B__law_of .nil pass0 (pa_cons (pv 0) (pa_cons (pe_lstU (pa_cons pe_str (pa_cons pe_str (pa_cons pe_str (pa_cons pe_str (pa_cons pe_str (pa_cons pe_str (pa_cons pe_str (pa_cons pe_str (pa_cons pe_str (pa_cons pe_str (pa_cons pe_str (pa_cons pe_str (pa_cons pe_str (pa_cons pe_str (pa_cons pe_str pa_nil)))))))))))))))) pa_nil))) pa_nil)))
      (pss_one (ps_set (i := 3) sc__law_prefix.nd rfl (Or.inl rfl) (pe_op op_catL (pv 3) (pe_lstU (pa_cons pe_str (pa_cons pe_str pa_nil))))))) (pss_one (ps_if (PW.pt (pw_or (pt_cmpR op_eqI (pv 8) pe_int (nomark _)) (pw_or1 (pt_cmpR (op_eqD hr.units) (pv 1) (pe_lstU pa_nil) (nomark _))))) (pss_one (ps_expr (pe_bm PySem.F.plainAttrs_list PySem.F.slot_list_append PySem.F.type_list_append mt_append (pv 4) (pa_cons (pe_callTy call_str_int (by rfl) T.n_str (by decide +kernel) (pa_cons (pe_op op_sub (pe_call G__law_draw hr__law_draw (by rfl) T.m__law_draw T.F__law_draw.kp T.B__law_draw .nil pass0 (pa_cons (pv 0) (pa_cons pe_int pa_nil))) pe_int) pa_nil)) pa_nil)))) (pss_one (ps_expr (pe_bm PySem.F.plainAttrs_list PySem.F.slot_list_append PySem.F.type_list_append mt_append (pv 4) (pa_cons (pe_call G__law_of hr__law_of (by rfl) T.m__law_of T.F__law_of.kp T.B__law_of .nil pass0 (pa_cons (pv 0) (pa_cons (pv 1) pa_nil))) pa_nil)))))))))))))))))))))
      (pss_one (ps_ret (pe_callTy call_tupleN (by rfl) T.n_tuple (by decide +kernel) (pa_cons (pv 4) pa_nil)))))), ?_⟩
    refine seq_op fun N hN => ?_
    walk_at "rs"
    refine ⟨by decide, fun o H1 s1 o0 h1 => ⟨by decide, fun m H2 s2 m0 h2 => ⟨_, _, ⟨rfl, rfl⟩, hN _ _ ?_⟩⟩⟩
    clear hN N
    obtain ⟨xb, eb⟩ := B.at
    obtain ⟨xc, ec⟩ := B.at2
    have P0 : Pfx b c H H2 o m ["e"] [] := by
      refine ⟨(B.same s1).same s2, Kp.of (Same.trans s1 s2), o0, Same.dom s1 m m0, fun e => ?_, fun e => ?_, fun e => ?_, fun e => ?_, fun e => ?_, s2 _ _ h1, h2, fun z hz => .inl (by simpa using hz), fun z hz => absurd hz (by simp)⟩
      · rw [e, m0] at h1; cases h1
      · rw [e, eb] at o0; cases o0
      · rw [e, s1 _ _ eb] at m0; cases m0
      · rw [← e, ec] at o0; cases o0
      · rw [← e, s1 _ _ ec] at m0; cases m0
    have W0 : PfW parts size ["e"] [] := ⟨fun z hz => absurd hz (by simp), fun r => rfl, by simp; omega⟩
    refine cut_seq (fun σ H3 => ∃ (o : Addr) (os ms : List Str) (x1 x2 x3 x4 : Option V), σ = [some (.ref b), some (.ref p), some (.int size), some (.ref o), some (.ref m), x1, x2, x3, x4] ∧ Pfx b c H H3 o m os ms ∧ PfW parts size [] ms) (fun N hN => ?_) ?_
    · refine ⟨30, rfl, by decide, by decide, for_range (lo := 0) (n := (30 : Int).toNat) (fun i σ H3 => ∃ (o : Addr) (os ms : List Str) (x1 x2 x3 x4 : Option V), σ = [some (.ref b), some (.ref p), some (.int size), some (.ref o), some (.ref m), x1, x2, x3, x4] ∧ Pfx b c H H3 o m os ms ∧ ms.length = i ∧ PfW parts size os ms)
        ⟨o, _, _, none, none, none, none, rfl, P0, rfl, W0⟩ ?_ ?_⟩
      · rintro i σ H3 hi ⟨o, os, ms, x1, x2, x3, x4, rfl, P3, hml, W3⟩
        have hol : os.length ≤ 30 := by have := W3.ln; omega
        have hi30 : i < 30 := hi
        refine seq_op fun N2 hN2 => ?_
        walk_at "rs"
        have d1 : Dp K H3 (.ref o) (.list (os.map PyData.str)) := .lst (SqL.of P3.ho) (strs_dpa os)
        refine ⟨by decide, fun q H4 s4 h04 h4 => ⟨_, .list [], dp_same s4 d1, .lst (SqL.of h4) .nil, ?_, by decide, _, rfl, ite2 (fun e => ?_) (fun e => hN2 _ _ ?_)⟩⟩
        · refine strs_shaped fun z hz => ?_
          rcases P3.eo z hz with rfl | rfl <;> decide +kernel
        · have en : os = [] := by
            cases os with
            | nil => rfl
            | cons x r => exact absurd e (by simp [PyData.eqv, PyData.eqvAll])
          exact hN _ _ ⟨o, os, ms, _, _, _, _, rfl, P3.same s4, by rw [en] at W3; exact W3⟩
        clear hN2 N2
        have P4 := P3.same s4
        have one : os ≠ [] := fun z => e (by subst z; rfl)
        have ol : 0 < os.length := by cases os with | nil => exact absurd rfl one | cons => exact Nat.succ_pos _
        obtain ⟨z0, hz0⟩ : ∃ z0, os[os.length - 1]? = some z0 := ⟨_, List.getElem?_eq_getElem (by omega)⟩
        refine seq_op fun N2 hN2 => ?_
        walk_at "rs"
        refine ⟨.inl ⟨rfl, _, SqL.of P4.ho⟩, _, P4.ho, .str z0, by rw [List.length_map, List.getElem?_map, hz0] <;> rfl, hN2 _ _ ?_⟩
        clear hN2 N2
        have P5 := P4.pop
        have ol5 : os.dropLast.length ≤ 30 := by rw [List.length_dropLast]; omega
        have eos : os = os.dropLast ++ [z0] := by
          have gl : os.getLast one = z0 := by
            rw [List.getLast_eq_getElem]
            exact Option.some.inj ((List.getElem?_eq_getElem _).symm.trans hz0)
          rw [← gl]
          exact (List.dropLast_concat_getLast one).symm
        have ez : z0 = "e" ∨ z0 = "k" := P3.eo z0 (List.mem_of_getElem? hz0)
        have W5 : PfW parts size (os.dropLast ++ [z0]) ms := by rw [← eos]; exact W3
        show tSeq _ _ _ _ (L2.upd H4 o (.lst (os.map V.str).dropLast))
        generalize L2.upd H4 o (.lst (os.map V.str).dropLast) = H5 at P5
        generalize os.dropLast = os5 at P5 ol5 W5
        clear P4 d1 e one ol hz0 P3 eos W3 hol
        refine seq_op fun N2 hN2 => ?_
        walk_at "rs"
        refine ⟨_, .inl (SqL.of P5.hm), _, .inl (SqL.of P5.ho), hN2 _ _ ?_⟩
        clear hN2 N2
        refine seq_op fun N2 hN2 => ?_
        walk_at "rs"
        refine ⟨b, c, 6, rfl, P5.bag, by decide, by decide, fun way H6 w0 w1 B6 K6 => hN2 _ _ ?_⟩
        clear hN2 N2
        have P6 := P5.call B6 K6
        have mlen : (ms.map V.str).length < sizeLine := Nat.lt_of_le_of_lt (show _ ≤ 100 by rw [List.length_map]; omega) (by decide)
        -- a word and two lists are put on, the invariant at the next turn
        have next : ∀ (o7 : Addr) (os7 : List Str) (z7 : Str) (H7 : Hp) (y1 y2 y3 y4 : Option V), Pfx b c H H7 o7 m os7 (ms ++ [z7]) → PfW parts size os7 (ms ++ [z7]) → ∃ (o : Addr) (os ms : List Str) (x1 x2 x3 x4 : Option V), [some (V.ref b), some (.ref p), some (.int size), some (.ref o7), some (.ref m), y1, y2, y3, y4] = [some (.ref b), some (.ref p), some (.int size), some (.ref o), some (.ref m), x1, x2, x3, x4] ∧ Pfx b c H H7 o m os ms ∧ ms.length = i + 1 ∧ PfW parts size os ms :=
          fun o7 os7 z7 H7 y1 y2 y3 y4 P7 l7 => ⟨o7, os7, ms ++ [z7], y1, y2, y3, y4, rfl, P7, by rw [List.length_append, List.length_singleton, hml], l7⟩
        clear P5
        refine nx_op fun N2 hN2 => ?_
        replace hN2 := fun o7 os7 z7 H7 y1 y2 y3 y4 hP hl => hN2 _ _ (next o7 os7 z7 H7 y1 y2 y3 y4 hP hl)
        clear next
        have rm : ∀ n : Int, decide (n < size - ((ms.map V.str).length : Int) - ((os5.map V.str).length : Int) - 1) = true → n < size - ms.length - os5.length - 1 := fun n e => by
          have q := of_decide_eq_true e
          rw [List.length_map, List.length_map] at q
          exact q
        have lW : (0 : Int) ≤ size - ms.length - os5.length - 1 := by
          have := W5.ln
          rw [List.length_append, List.length_singleton] at this
          omega
        have st : ∀ (z : Str) (L : List Str), z ∈ allW → (nm z = true → z ∈ parts) → opsL (.str z) (code z0) = some (codes L) → ((L.length : Int) ≤ size - ms.length - os5.length - 1) → PfW parts size (os5 ++ L) (ms ++ [z]) := fun z L h1 h2 h3 h4 => W5.step h1 h2 h3 (by omega)
        have st0 : ∀ (z : Str), z ∈ allW → (nm z = true → z ∈ parts) → opsL (.str z) (code z0) = some [] → PfW parts size os5 (ms ++ [z]) := fun z h1 h2 h3 => by
          have q := st z [] h1 h2 h3 lW
          rw [List.append_nil] at q
          exact q
        have ck : code "k" = 107 := by decide +kernel
        have ce : code "e" = 101 := by decide +kernel
        have nono : ∀ {z : Str}, nm z = false → nm z = true → z ∈ parts := fun h1 h2 => by rw [h1] at h2; cases h2
        have ofL : ∀ (L : List Str), (∀ z ∈ L, z.length ≤ 20) → L ≠ [] → L.length ≤ 1000 → ∀ (q : Addr) (H7 : Hp), Same H6 H7 → H6 q = none → H7 q = some (HO.lst (L.map V.str)) → ∀ (Q2 : VK), (∀ z H8, z ∈ L → z.length ≤ 20 → Pfx b c H H8 o m os5 ms → Q2 (.str z) H8) → sp__law_of K [V.ref b, V.ref q] H7 Q2 E0 := by
          intro L hL ne ln q H7 s7 h07 h7 Q2 hq
          have P7 := P6.same s7
          refine of_lst P7.bag h7 (fun e => ?_) (by simpa using ne) (by rw [List.length_map]; omega) fun y H8 hy B8 K8 => ?_
          · obtain ⟨xs, z⟩ := P6.bag.at
            rw [e, z] at h07; cases h07
          · obtain ⟨z, hz, rfl⟩ := List.mem_map.mp hy
            exact hq z H8 hz (hL z hz) (P7.call B8 K8)
        have catL : ∀ (L : List Str) (z7 : Str) (H7 : Hp), (∀ z ∈ L, z = "e" ∨ z = "k") → L.length ≤ 3 → PfW parts size (os5 ++ L) (ms ++ [z7]) → Pfx b c H H7 o m os5 (ms ++ [z7]) → ∀ (y1 y2 y3 y4 : Option V), ∀ (q : Addr) (H8 : Hp), Same H7 H8 → H7 q = none → H8 q = some (HO.lst (L.map V.str)) →
            ∃ x, H8 o = some (HO.lst x) ∧ ∃ x_1, H8 q = some (HO.lst x_1) ∧ x.length + x_1.length ≤ sizeLine ∧ ∀ (p' : Addr) (H9 : Hp), Same H8 H9 → H8 p' = none → H9 p' = some (HO.lst (x ++ x_1)) → N2 [some (V.ref b), some (.ref p), some (.int size), some (.ref p'), some (.ref m), y1, y2, y3, y4] H9 := by
          intro L z7 H7 hL hl W7 P7 y1 y2 y3 y4 q H8 s8 h08 h8
          have P8 := P7.same s8
          refine ⟨_, P8.ho, _, h8, Nat.le_trans (show _ ≤ 200 by rw [List.length_map, List.length_map]; omega) (by decide), fun p' H9 s9 h09 h9 => ?_⟩
          refine hN2 p' (os5 ++ L) z7 H9 y1 y2 y3 y4 (P8.newo s9 h09 (by rw [h9, List.map_append]) fun z hz => ?_) W7
          rcases List.mem_append.mp hz with hz | hz
          · exact P8.eo z hz
          · exact hL z hz
        have tm : tyV K "list" (V.ref m) H6 := .inl ⟨rfl, _, SqL.of P6.hm⟩
        refine if_ofP (fun b => b = decide (z0 = "k")) (fun K hK => by walk_at "rs"; exact hK _ rfl) (fun e0 => ?_) (fun e0 => ?_)
        · have ek : z0 = "k" := of_decide_eq_true e0.symm
          walk_at "rs"
          refine ⟨tm, b, c, 9, rfl, P6.bag, by decide, by decide, fun r H7 r0 r1 B7 K7 => ⟨r, rfl, small_log (by omega) (by omega), _, (P6.call B7 K7).hm, mlen, hN2 o os5 _ _ _ _ _ _ ((P6.call B7 K7).pushm (small_str (by omega) (by omega))) ?_⟩⟩
          obtain ⟨g1, g2, g3, _⟩ := f_fig' (i := 1 + r) (by omega) (by omega)
          exact st0 _ g1 (nono g2) (by rw [ek, ck]; exact g3)
        have ee : z0 = "e" := by
          rcases ez with h | h
          · exact h
          · exact absurd h (of_decide_eq_false e0.symm)
        have cz : code z0 = 101 := by rw [ee, ce]
        clear e0
        refine if_ofP (fun b => b = true → 0 < size - ms.length - os5.length - 1) (fun K hK => by walk_at "rs"; exact ite2 (fun _ => hK _ fun e => rm 0 e) (fun _ => hK _ fun e => by cases e)) (fun e0 => ?_) (fun _ => ?_)
        · refine seq_op fun N3 hN3 => ?_
          walk_at "rs"
          refine ⟨tm, _, P6.hm, mlen, hN3 _ _ ?_⟩
          have P7 := P6.pushm (z := "not") (by decide)
          walk_at "rs"
          refine ⟨.inl ⟨rfl, _, SqL.of P7.ho⟩, _, P7.ho, Nat.lt_of_le_of_lt (show _ ≤ 100 by rw [List.length_map]; omega) (by decide), hN2 o _ _ _ _ _ _ _ (P7.pusho (z := "e") (.inl rfl)) (st "not" ["e"] f_one.1 (nono f_one.2.1) (by rw [cz]; exact f_one.2.2.1) (by have := e0 rfl; simp; omega))⟩
        refine if_ofP (fun b => b = true → 2 < size - ms.length - os5.length - 1) (fun K hK => by walk_at "rs"; exact ite2 (fun _ => hK _ fun e => rm 2 e) (fun _ => hK _ fun e => by cases e)) (fun e0 => ?_) (fun _ => ?_)
        · refine seq_op fun N3 hN3 => ?_
          walk_at "rs"
          refine ⟨tm, _, P6.hm, mlen, hN3 _ _ ?_⟩
          have P7 := P6.pushm (z := "if") (by decide)
          walk_at "rs"
          exact ⟨by decide, fun q H8 s8 h08 h8 => catL ["e", "e", "e"] "if" _ (by simp) (by decide) (st "if" ["e", "e", "e"] f_one.2.2.2.1 (nono f_one.2.2.2.2.1) (by rw [cz]; exact f_one.2.2.2.2.2) (by have := e0 rfl; simp; omega)) P7 _ _ _ _ q H8 s8 h08 h8⟩
        refine if_ofP (fun b => b = true → 1 < size - ms.length - os5.length - 1) (fun K hK => by walk_at "rs"; exact ite2 (fun _ => hK _ fun e => rm 1 e) (fun _ => hK _ fun e => by cases e)) (fun e0 => ?_) (fun _ => ?_)
        · refine seq_op fun N3 hN3 => ?_
          walk_at "rs"
          refine ⟨tm, by decide, fun q H7 s7 h07 h7 => ofL ["mod", "div"] (by decide) (by simp) (by decide) q H7 s7 h07 h7 _ fun z H8 hzL hz P8 => ⟨_, P8.hm, mlen, hN3 _ _ ?_⟩⟩
          have P9 := P8.pushm hz
          obtain ⟨g1, g2, g3⟩ := f_md z hzL
          walk_at "rs"
          exact ⟨by decide, fun q H8 s8 h08 h8 => catL ["k", "e"] z _ (by simp) (by decide) (st z ["k", "e"] g1 (nono g2) (by rw [cz]; exact g3) (by have := e0 rfl; simp; omega)) P9 _ _ _ _ q H8 s8 h08 h8⟩
        refine if_ofP (fun b => b = true → 1 < size - ms.length - os5.length - 1) (fun K hK => by walk_at "rs"; exact ite2 (fun _ => hK _ fun e => rm 1 e) (fun _ => hK _ fun e => by cases e)) (fun e0 => ?_) (fun _ => ?_)
        · refine seq_op fun N3 hN3 => ?_
          walk_at "rs"
          refine ⟨tm, by decide, fun q H7 s7 h07 h7 => ofL ["+", "-", "*", "+", "-", "min", "max", "=", "/=", "<", "<=", ">", ">=", "and", "or"] (by decide) (by simp) (by decide) q H7 s7 h07 h7 _ fun z H8 hzL hz P8 => ⟨_, P8.hm, mlen, hN3 _ _ ?_⟩⟩
          have P9 := P8.pushm hz
          obtain ⟨g1, g2, g3⟩ := f_op z hzL
          walk_at "rs"
          exact ⟨by decide, fun q H8 s8 h08 h8 => catL ["e", "e"] z _ (by simp) (by decide) (st z ["e", "e"] g1 (nono g2) (by rw [cz]; exact g3) (by have := e0 rfl; simp; omega)) P9 _ _ _ _ q H8 s8 h08 h8⟩
        have hp6 : hb H6 b p = some (.lst (parts.map V.str)) := P6.kp _ _ hp
        have hpH : H6 p = some (.lst (parts.map V.str)) := (hb_some hp6).2
        refine if_of (fun b => b = false → parts ≠ []) (fun Kc hK => ?_) (fun H7 _ s7 => ?_) (fun H7 hne s7 => ?_)
        · walk_at "rs"
          refine ite2 (fun _ => hK _ _ (fun z => absurd z (by decide)) (Same.refl _)) (fun _ => ⟨by decide, fun q H7 s7 h07 h7 => ?_⟩)
          refine ⟨.list (parts.map PyData.str), .list [], .lst (SqL.of (s7 _ _ hpH)) (strs_dpa parts), .lst (SqL.of h7) .nil, strs_shaped fun z hz => (w_len z (f_nm z (hpl z hz)).1).2.2, by decide, _, rfl, hK _ _ (fun e z => ?_) s7⟩
          subst z
          exact absurd e (by decide)
        · have P7 := P6.same s7
          walk_at "rs"
          refine ⟨.inl ⟨rfl, _, SqL.of P7.hm⟩, b, c, 19, rfl, P7.bag, by decide, by decide, fun r H8 r0 r1 B8 K8 => ⟨r, rfl, small_log (by omega) (by omega), _, (P7.call B8 K8).hm, mlen, hN2 o os5 _ _ _ _ _ _ ((P7.call B8 K8).pushm (small_str (by omega) (by omega))) ?_⟩⟩
          obtain ⟨g1, g2, g3⟩ := f_int' (i := r - 9) (by omega) (by omega)
          exact st0 _ g1 (nono g2) (by rw [cz]; exact g3)
        · have P7 := P6.same s7
          walk_at "rs"
          refine ⟨.inl ⟨rfl, _, SqL.of P7.hm⟩, of_lst P7.bag (s7 _ _ hpH) (hb_some hp).1 (by simpa using hne rfl) (by rw [List.length_map]; omega) fun y H8 hy B8 K8 => ?_⟩
          obtain ⟨z, hz, rfl⟩ := List.mem_map.mp hy
          obtain ⟨g1, g2, g3⟩ := f_nm z (hpl z hz)
          exact ⟨_, (P7.call B8 K8).hm, mlen, hN2 o os5 _ _ _ _ _ _ ((P7.call B8 K8).pushm (Nat.le_trans (w_len z g1).1 (by decide))) (st0 z g1 (fun _ => hz) (by rw [cz]; exact g3))⟩
      · rintro σ H3 ⟨o, os, ms, x1, x2, x3, x4, rfl, P3, hml, W3⟩
        have en : os = [] := by
          have q := W3.ln
          have q2 : ms.length = 30 := hml
          exact List.eq_nil_of_length_eq_zero (by omega)
        rw [en] at W3
        exact hN _ _ ⟨o, os, ms, x1, x2, x3, x4, rfl, P3, W3⟩
    · rintro σ H3 ⟨o, os, ms, x1, x2, x3, x4, rfl, P3, W3⟩
      walk_at "rs"
      obtain ⟨xb3, eb3⟩ := P3.bag.at
      refine ⟨_, SqL.of P3.hm, fun q H4 s4 h04 h4 => k q ms H4 (P3.bag.same s4) (Same.trans P3.kp (Kp.of s4)) (Kp.bn P3.kp eb3 h04) h4 (by have := W3.ln; omega) W3.wd ?_⟩
      have q := W3.wk []
      rw [List.append_nil] at q
      rw [q]; rfl
end
end LK

set_option Elab.async false
set_option linter.all false
set_option maxRecDepth 100000
namespace LK
open PySem PySem.Spec PyProof.Rows L2
local macro_rules | `(tactic| walk_at "rs") => `(tactic| simp only [cxK, cxNK, tCallZ, tAsg, tOp, rI0, rS0, rB0, rI, rU, tUn, rEq, rNe, rIxL, rIxT, rIxS, rSetL, rSlLU, rSlS, rSlU, rCatL, rCatU, rRepL, rIn, tVar, tC, gName, gSub, tIfS, tTest, tB, tAnd, tOr, tNot, tNotV, tAndV, tOrV, tIf, tCall, tCons, tNil, tCB, tDrop, tRet, tRetN, tNext, tLstU, tTupU, tM0, tM1, tPar, tPar3, tAug, ipI, tBM, tBM0, rAppend, rPop, tBreak, tCont, tChain, tSl, tPart, tNoPart, L2.start, List.map, List.length_cons, List.length_nil, List.replicate, List.cons_append, List.nil_append, List.append_nil, List.getElem?_cons_zero, List.getElem?_cons_succ, List.set_cons_zero, List.set_cons_succ, Option.some.injEq, V.int.injEq, V.ref.injEq, V.str.injEq, V.bl.injEq, exists_eq_left', exists_eq_left, exists_and_left, decide_eq_true_eq, List.cons.injEq, and_true, true_and, scal, Bool.not_eq_true', decide_eq_false_iff_not, Nat.zero_add, Nat.reduceAdd, Nat.reduceSub, reduceCtorEq, false_and, exists_false, false_or, or_false, CPow, CMul, CDiv, Int.reduceToNat, ↓reduceIte, wipe, sw, List.nil_append, List.singleton_append])
local macro_rules | `(tactic| walk_at "st") => `(tactic| (refine seq_op fun N hN => ?_; walk_at "rs"))
local macro_rules | `(tactic| walk_at "sd") => `(tactic| first | assumption | decide | omega)
local macro_rules | `(tactic| walk_at "rd") => `(tactic| repeat (first
  | refine ⟨_, SqL.of (by assumption), ?_⟩ | refine ⟨_, SqL.of upd_same, ?_⟩ | refine ⟨_, .inl (SqL.of (by assumption)), ?_⟩ | refine ⟨_, (by assumption : _ = some (HO.lst _)), ?_⟩ | refine ⟨_, upd_same, ?_⟩
  | refine ⟨_, rfl, ?_⟩ | refine And.intro (by walk_at "sd") ?_))

/-! ### lines -/
inductive Rw
  | be (ws : List Str) | tab (ps : List Str) (fs : List Fr) | cnt (k q : Str) | lok (z y k q : Str) (o : Int)
def RowAt (K : PySem.W.Frag) (H : Hp) (a : Addr) : Rw → Prop
  | .be ws => ∃ e, SqT K H a [.str "be", .str "x", .ref e] ∧ SqT K H e (ws.map V.str)
  | .tab ps fs => ∃ e t xs, SqT K H a [.str "table", .str "x", .ref e, .ref t] ∧ SqT K H e (ps.map V.str) ∧ SqT K H t xs ∧ FrsT H xs fs
  | .cnt k q => ∃ m, SqT K H a [.str "count", .str "x", .str k, m, .str q]
  | .lok z y k q o => ∃ m, SqT K H a [.str z, .str "x", .str y, .str k, m, .str q, .int o]
def lookL : List Str := ["first", "last", "mean"]
def okRw : Rw → Prop
  | .be ws => (∀ z ∈ ws, z ∈ allW) ∧ ws.length ≤ 30 ∧ walkL [101] (ws.map PyData.str) = true
  | .tab ps fs => (∀ z ∈ ps, z ∈ names11) ∧ ps.length ≤ 3 ∧ (∀ f ∈ fs, okB 64 f) ∧ fs.length ≤ 240
  | .cnt k q => k ∈ names11 ∧ q ∈ names11
  | .lok z y k q o => z ∈ lookL ∧ y ∈ names11 ∧ k ∈ names11 ∧ q ∈ names11 ∧ o.natAbs ≤ 9
def usesR : Rw → List Str
  | .be ws => namesOf ws
  | .tab ps _ => onceS ps
  | .cnt k q => onceS [k, q]
  | .lok _ y k q _ => onceS [y, k, q]
def kindR : Rw → Str
  | .be _ => "be" | .tab _ _ => "table" | .cnt _ _ => "count" | .lok z _ _ _ _ => z
theorem nodup_lenS {l m : List Str} (h : l.Nodup) (s : ∀ x ∈ l, x ∈ m) : l.length ≤ m.length := by
  induction l generalizing m with
  | nil => exact Nat.zero_le _
  | cons a l ih =>
    have ha := s a List.mem_cons_self
    obtain ⟨n1, n2⟩ := List.nodup_cons.mp h
    have := ih (m := m.erase a) n2 fun x hx => (List.mem_erase_of_ne (fun e : x = a => n1 (e ▸ hx))).mpr (s x (List.mem_cons_of_mem _ hx))
    rw [List.length_erase_of_mem ha] at this
    have := List.length_pos_of_mem ha
    rw [List.length_cons]; omega
theorem RowAt.same {K : PySem.W.Frag} {H H' : Hp} {a : Addr} (s : Same H H') : ∀ {r : Rw}, RowAt K H a r → RowAt K H' a r
  | .be _, ⟨e, h1, h2⟩ => ⟨e, Same.seqT s h1, Same.seqT s h2⟩
  | .tab _ _, ⟨e, t, xs, h1, h2, h3, h4⟩ => ⟨e, t, xs, Same.seqT s h1, Same.seqT s h2, Same.seqT s h3, h4.same s⟩
  | .cnt _ _, ⟨m, h⟩ => ⟨m, Same.seqT s h⟩
  | .lok _ _ _ _ _, ⟨m, h⟩ => ⟨m, Same.seqT s h⟩
theorem RowAt.kind {K : PySem.W.Frag} {H : Hp} {a : Addr} : ∀ {r : Rw}, RowAt K H a r → ∃ ys, SqT K H a ys ∧ ys[0]? = some (.str (kindR r)) ∧ 3 ≤ ys.length
  | .be _, ⟨_, h, _⟩ => ⟨_, h, rfl, Nat.le_of_ble_eq_true rfl⟩
  | .tab _ _, ⟨_, _, _, h, _⟩ => ⟨_, h, rfl, Nat.le_of_ble_eq_true rfl⟩
  | .cnt _ _, ⟨_, h⟩ => ⟨_, h, rfl, Nat.le_of_ble_eq_true rfl⟩
  | .lok _ _ _ _ _, ⟨_, h⟩ => ⟨_, h, rfl, Nat.le_of_ble_eq_true rfl⟩
def isLook (r : Rw) : Bool := match r with
  | .be _ => false | .tab _ _ => false | _ => true
theorem kind_look {r : Rw} (h : okRw r) : inV (.str (kindR r)) [.str "be", .str "table"] = !isLook r := by
  cases r with
  | be ws => rfl
  | tab ps fs => rfl
  | cnt k q => rfl
  | lok z y k q o =>
    have q : ∀ z ∈ lookL, inV (.str z) [.str "be", .str "table"] = false := by decide +kernel
    exact q z h.1
section
variable {P : Program} {w : World} {K : PySem.W.Frag} {mg : Str → Option Value} {base : Heap}
theorem ok_is_look (T : Txt w K mg) : FnOk P w K mg base CX0 1 T.a_is_look T.d_is_look ["line"] (fun vs H Q _ => ∃ (a : Addr) (r : Rw), vs = [.ref a] ∧ RowAt K H a r ∧ okRw r ∧ ∀ H', Same H H' → Q (.bl (isLook r)) H') := by
  refine T.F_is_look.ok sc_is_look (fun vs H Q E h => ?_) (fun cdv A outer s H vs Q E hr h => ?_)
  · obtain ⟨a, r, rfl, _⟩ := h
    rfl
  · obtain ⟨a, r, rfl, ha, ok, k⟩ := h
    obtain ⟨ys, h1, h2, h3⟩ := ha.kind
    refine ⟨_, (pss_one (ps_ret (pe_cmpR op_notIn_seq (pe_ix ix_tup (pv 0) pe_int (fun _ _ => rfl)) (pe_tupU (pa_cons pe_str (pa_cons pe_str pa_nil))) (by rfl)))), ?_⟩
    walk_at "rs"
    refine ⟨ys, h1, _, at_ofN rfl h2, by decide, fun p H2 s2 d2 e2 => ⟨_, .inr (.inl (.inl e2)), rfl, rfl, ?_⟩⟩
    rw [kind_look ok, Bool.not_not]
    exact k H2 s2
theorem ok_line_names (T : Txt w K mg) : FnOk P w K mg base CX0 5 T.a_line_names T.d_line_names ["line"] (fun vs H Q _ => ∃ (a : Addr) (ws : List Str), vs = [.ref a] ∧ RowAt K H a (.be ws) ∧ okRw (.be ws) ∧ ∀ t H', Same H H' → H t = none → H' t = some (.tup ((namesOf ws).map V.str)) → Q (.ref t) H') := by
  refine T.F_line_names.ok sc_line_names (fun vs H Q E h => ?_) (fun cdv A outer s H vs Q E hr h => ?_)
  · obtain ⟨a, ws, rfl, _⟩ := h
    rfl
  · obtain ⟨a, ws, rfl, ⟨e, ha, he⟩, ok, k⟩ := h
    have hr_names_in : Room 4 _ := hr
    have G_names_in := ok_names_in (P := P) (base := base) T
    refine ⟨_, (pss_cons (ps_if (pt_cmpR op_eqS (pe_ix ix_tup (pv 0) pe_int (fun _ _ => rfl)) pe_str (nomark _)) (pss_one (ps_ret (pe_call G_names_in hr_names_in (by rfl) T.m_names_in T.F_names_in.kp T.B_names_in .nil pass0 (pa_cons (pe_ix ix_tup (pv 0) pe_int (fun _ _ => rfl)) pa_nil)))) pss_nil)
      pss_never), ?_⟩
    refine seq_op fun N hN => ?_
    walk_at "rs"
    refine ⟨_, ha, _, rfl, _, rfl, ?_⟩
    rw [if_pos rfl]
    exact ⟨_, ha, _, rfl, e, ws, rfl, he, ok.1, ok.2.1, k⟩
end
/-! ### ranges -/
def RgAt (K : PySem.W.Frag) (H : Hp) : Option V → Option (List V × List Fr) → Prop
  | none, none => True
  | some v, some p => ∃ t, v = .ref t ∧ SqT K H t p.1 ∧ FrsT H p.1 p.2
  | _, _ => False
structure RD (K : PySem.W.Frag) (H : Hp) (d : Addr) (kvs : List (Key × V)) (rg : Str → Option (List V × List Fr)) : Prop where
  at_ : H d = some (.dK kvs)
  len : kvs.length ≤ 20
  ent : ∀ z, RgAt K H (valV kvs (.inr z)) (rg z)
theorem RD.same {K : PySem.W.Frag} {H H' : Hp} {d : Addr} {kvs : List (Key × V)} {rg : Str → Option (List V × List Fr)} (s : Same H H') (D : RD K H d kvs rg) : RD K H' d kvs rg where
  at_ := s _ _ D.at_
  len := D.len
  ent := fun z => by
    have h := D.ent z
    cases e1 : valV kvs (.inr z) <;> cases e2 : rg z <;> rw [e1, e2] at h
    · trivial
    · exact h
    · exact h
    · obtain ⟨t, h1, h2, h3⟩ := h
      exact ⟨t, h1, Same.seqT s h2, h3.same s⟩
theorem RD.get {K : PySem.W.Frag} {H : Hp} {d : Addr} {kvs : List (Key × V)} {rg : Str → Option (List V × List Fr)} (D : RD K H d kvs rg) {z : Str} {p : List V × List Fr} (h : rg z = some p) : ∃ t, valV kvs (.inr z) = some (.ref t) ∧ SqT K H t p.1 ∧ FrsT H p.1 p.2 := by
  have q := D.ent z
  rw [h] at q
  cases e : valV kvs (.inr z) with
  | none => rw [e] at q; exact q.elim
  | some v =>
    rw [e] at q
    obtain ⟨t, rfl, h2, h3⟩ := q
    exact ⟨t, rfl, h2, h3⟩
def rgK (kvs : List (Key × V)) : V → V
  | .str z => (valV kvs (.inr z)).getD .non
  | _ => .non
def colsV (rg : Str → Option (List V × List Fr)) (zs : List Str) : List (List V) := zs.map fun z => ((rg z).getD ([], [])).1
def colsF (rg : Str → Option (List V × List Fr)) (zs : List Str) : List (List Fr) := zs.map fun z => ((rg z).getD ([], [])).2
theorem addS_nodup {l : List Str} {z : Str} (h : l.Nodup) : (addS l z).Nodup := by
  unfold addS
  split
  · exact h
  · rename_i n
    refine List.nodup_append.mpr ⟨h, List.pairwise_singleton _ _, fun a ha b hb e => ?_⟩
    rw [List.mem_singleton.mp hb] at e
    exact n (e ▸ ha)
theorem onceS_nodup (l : List Str) : (onceS l).Nodup := by
  have key : ∀ (l acc : List Str), acc.Nodup → (l.foldl addS acc).Nodup := by
    intro l
    induction l with
    | nil => exact fun acc h => h
    | cons a l ih => exact fun acc h => ih _ (addS_nodup h)
  exact key l [] List.Pairwise.nil
theorem names_few {ws : List Str} : (namesOf ws).Nodup ∧ (namesOf ws).length ≤ 6 ∧ ∀ z ∈ namesOf ws, z ∈ names11 := by
  have h1 : (namesOf ws).Nodup := onceS_nodup _
  have h2 : ∀ z ∈ namesOf ws, z ∈ names11 := fun z hz => of_decide_eq_true (mem_names.mp hz).2
  exact ⟨h1, nodup_lenS h1 h2, h2⟩
theorem tps_cols {K : PySem.W.Frag} {H : Hp} {d : Addr} {kvs : List (Key × V)} {rg : Str → Option (List V × List Fr)} (D : RD K H d kvs rg) : ∀ (zs : List Str), (∀ z ∈ zs, ∃ p, rg z = some p) → Tps K H (zs.map (rgK kvs ∘ V.str)) (colsV rg zs)
  | [], _ => .nil
  | z :: zs, h => by
    obtain ⟨p, hp⟩ := h z List.mem_cons_self
    obtain ⟨t, e1, e2, e3⟩ := D.get hp
    have ih := tps_cols D zs fun y hy => h y (List.mem_cons_of_mem _ hy)
    have e : rgK kvs (V.str z) = .ref t := by simp only [rgK, e1, Option.getD]
    unfold colsV at ih ⊢
    simp only [List.map_cons, hp, Option.getD, Function.comp_apply, e]
    exact .cons e2 ih
section
variable {P : Program} {w : World} {K : PySem.W.Frag} {mg : Str → Option Value} {base : Heap}
def sp_line_rows (K : PySem.W.Frag) : Sp := fun vs H Q _ => ∃ (a d : Addr) (ws : List Str) (kvs : List (Key × V)) (rg : Str → Option (List V × List Fr)), vs = [.ref a, .ref d] ∧ RowAt K H a (.be ws) ∧ okRw (.be ws) ∧ RD K H d kvs rg ∧
  (∀ z ∈ namesOf ws, ∃ p, rg z = some p ∧ 1 ≤ p.1.length) ∧ rowsN (colsV rg (namesOf ws)) ≤ 1000 ∧ ∀ t ts H', Same H H' → H t = none → H' t = some (.lst ts) → Tps K H' ts (rowsV (colsV rg (namesOf ws))) → Q (.ref t) H'
theorem ok_line_rows (T : Txt w K mg) : FnOk P w K mg base CX0 6 T.a_line_rows T.d_line_rows ["line", "ranges"] (sp_line_rows K) := by
  refine T.F_line_rows.ok sc_line_rows (fun vs H Q E h => ?_) (fun cdv A outer s H vs Q E hr h => ?_)
  · obtain ⟨a, d, ws, kvs, rg, rfl, _⟩ := h
    rfl
  · obtain ⟨a, d, ws, kvs, rg, rfl, ha, ok, hD, hn, hr2, k⟩ := h
    have hr_line_names : Room 5 _ := hr
    have G_line_names := ok_line_names (P := P) (base := base) T
    have hr_rows_of_values : Room 1 _ := hr.mono (by decide)
    have G_rows_of_values := ok_rows_of_values (P := P) (base := base) T
    have hu1 : (A.deeper (envOfC "line_rows" (defScope s_line_rows) s.heap.objs.size T.a_line_rows cdv)).units + 1 < cLine := Nat.lt_of_le_of_lt (Nat.add_le_add_left (by decide : 1 ≤ 64) _) hr.units
    refine ⟨_, (pss_one (ps_ret (pe_call G_rows_of_values hr_rows_of_values (by rfl) T.m_rows_of_values T.F_rows_of_values.kp T.B_rows_of_values .nil pass0 (pa_cons (pe_lc (own := [("name", 2)]) (g := gName 2) (tt := tYes) rfl sc_line_rows.nd (pi_tup (pe_call G_line_names hr_line_names (by rfl) T.m_line_names T.F_line_names.kp T.B_line_names .nil pass0 (pa_cons (pv 0) pa_nil))) (blkOk_by (own := [("name", 2)]) (N := N_line_rows) (sc := defScope s_line_rows) (by decide +kernel)) (fun _ _ _ _ _ => pg_name (i := 2) sc_line_rows.nd rfl (Or.inl rfl)) (fun _ _ _ _ _ => pts_nil) (fun _ _ _ _ _ => (pe_dget hu1 (pv 1) (pv 2) (fun _ _ => rfl)))) pa_nil)))), ?_⟩
    refine ⟨_, rfl, a, ws, rfl, ha, ok, fun t H1 s1 h0 h1 => ?_⟩
    obtain ⟨nd, n6, n11⟩ := names_few (ws := ws)
    have hT : SqT K H1 t ((namesOf ws).map V.str) := .inl (.inl h1)
    have hD1 := hD.same s1
    refine ⟨t, rfl, ⟨_, hT⟩, fun D hDn => ?_⟩
    refine lc_map (walk_tup (K := K) (a := t) (xs := (namesOf ws).map V.str)) ((namesOf ws).map V.str) (rgK kvs) hDn (by rw [List.length_map]; omega) rfl (fun k H x H' _ h => h) (fun G sg => Same.seqT sg hT) (fun x G hx sg Q2 q2 => ?_) (fun G sg g1 => ?_)
    · obtain ⟨z, hz, rfl⟩ := List.mem_map.mp hx
      obtain ⟨p, hp, _⟩ := hn z hz
      obtain ⟨u, e1, e2, e3⟩ := hD1.get hp
      have q3 := q2 G (Same.refl _)
      simp only [rgK, e1, Option.getD] at q3
      exact ⟨_, rfl, _, rfl, d, _, rfl, .inl ⟨kvs, .inr z, .inl (hD1.same sg).at_, rfl, e1.symm⟩, q3⟩
    · have hcols : Tps K G (((namesOf ws).map V.str).map (rgK kvs)) (colsV rg (namesOf ws)) := by
        have hG := hD1.same sg
        rw [List.map_map]
        exact tps_cols hG _ fun z hz => (hn z hz).imp fun _ h => h.1
      refine ⟨D, _, _, rfl, .inl (.inl (.inl g1)), hcols, fun r hr => ?_, hr2, ?_, fun t2 ts H2 s2 n2 e2 tp => k t2 ts H2 (Same.trans s1 (Same.trans sg s2)) (Same.dom (Same.trans s1 sg) _ n2) e2 tp⟩
      · obtain ⟨z, hz, rfl⟩ := List.mem_map.mp hr
        obtain ⟨p, hp, h⟩ := hn z hz
        rw [hp]; exact h
      · unfold colsV
        rw [List.length_map]; omega
end
end LK

set_option Elab.async false
set_option linter.all false
set_option maxRecDepth 100000
namespace LK
open PySem PySem.Spec PyProof.Rows L2
local macro_rules | `(tactic| walk_at "rs") => `(tactic| simp only [cxK, cxNK, tCallZ, tAsg, tOp, rI0, rS0, rB0, rI, rU, tUn, rEq, rNe, rIxL, rIxT, rIxS, rSetL, rSlLU, rSlS, rSlU, rCatL, rCatU, rRepL, rIn, tVar, tC, gName, gSub, tIfS, tTest, tB, tAnd, tOr, tNot, tNotV, tAndV, tOrV, tIf, tCall, tCons, tNil, tCB, tDrop, tRet, tRetN, tNext, tLstU, tTupU, tM0, tM1, tPar, tPar3, tAug, ipI, tBM, tBM0, rAppend, rPop, tBreak, tCont, tChain, tSl, tPart, tNoPart, L2.start, List.map, List.length_cons, List.length_nil, List.replicate, List.cons_append, List.nil_append, List.append_nil, List.getElem?_cons_zero, List.getElem?_cons_succ, List.set_cons_zero, List.set_cons_succ, Option.some.injEq, V.int.injEq, V.ref.injEq, V.str.injEq, V.bl.injEq, exists_eq_left', exists_eq_left, exists_and_left, decide_eq_true_eq, List.cons.injEq, and_true, true_and, scal, Bool.not_eq_true', decide_eq_false_iff_not, Nat.zero_add, Nat.reduceAdd, Nat.reduceSub, reduceCtorEq, false_and, exists_false, false_or, or_false, CPow, CMul, CDiv, Int.reduceToNat, ↓reduceIte, wipe, sw, List.nil_append, List.singleton_append])
local macro_rules | `(tactic| walk_at "st") => `(tactic| (refine seq_op fun N hN => ?_; walk_at "rs"))
local macro_rules | `(tactic| walk_at "sd") => `(tactic| first | assumption | decide | omega)
local macro_rules | `(tactic| walk_at "rd") => `(tactic| repeat (first
  | refine ⟨_, SqL.of (by assumption), ?_⟩ | refine ⟨_, SqL.of upd_same, ?_⟩ | refine ⟨_, .inl (SqL.of (by assumption)), ?_⟩ | refine ⟨_, (by assumption : _ = some (HO.lst _)), ?_⟩ | refine ⟨_, upd_same, ?_⟩
  | refine ⟨_, rfl, ?_⟩ | refine And.intro (by walk_at "sd") ?_))

open LamX (Tabs TabS ExtN TabB)
/-! ### the law's sorting by a common denominator -/
def keyF (f : Fr) : List L2.Key := [.inl f.1, .inl f.2]
def entF (f : Fr) : List L2.Key × V := (keyF f, .bl true)
def addF (acc : List Fr) (f : Fr) : List Fr := if f ∈ acc then acc else acc ++ [f]
theorem keyF_inj {f g : Fr} (h : keyF f = keyF g) : f = g := by
  unfold keyF at h
  injection h with h1 h2
  injection h2 with h2 _
  exact Prod.ext (Sum.inl.inj h1) (Sum.inl.inj h2)
theorem putF_add (l : List Fr) (f : Fr) : putK (l.map entF) (keyF f) (.bl true) = (addF l f).map entF := by
  unfold putK addF
  by_cases h : f ∈ l
  · have e : ((l.map entF).any fun kv => decide (kv.1 = keyF f)) = true := List.any_eq_true.mpr ⟨entF f, List.mem_map.mpr ⟨f, h, rfl⟩, decide_eq_true rfl⟩
    rw [if_pos e, if_pos h, List.map_map]
    refine List.map_congr_left fun g _ => ?_
    show (if (entF g).1 = keyF f then ((entF g).1, V.bl true) else entF g) = entF g
    split <;> rfl
  · have e : ¬ ((l.map entF).any fun kv => decide (kv.1 = keyF f)) = true := fun z => by
      obtain ⟨p, hp, h2⟩ := List.any_eq_true.mp z
      obtain ⟨g, hg, rfl⟩ := List.mem_map.mp hp
      exact h (keyF_inj (of_decide_eq_true h2) ▸ hg)
    rw [if_neg e, if_neg h, List.map_append]; rfl
theorem mem_addF {l : List Fr} {f g : Fr} : g ∈ addF l f ↔ g ∈ l ∨ g = f := by
  unfold addF
  split
  · rename_i h
    exact ⟨.inl, fun z => z.elim id fun e => e ▸ h⟩
  · simp
theorem nodup_addF {l : List Fr} {f : Fr} (h : l.Nodup) : (addF l f).Nodup := by
  unfold addF
  split
  · exact h
  · rename_i n
    refine List.nodup_append.mpr ⟨h, List.pairwise_singleton _ _, fun a ha b hb e => ?_⟩
    rw [List.mem_singleton.mp hb] at e
    exact n (e ▸ ha)
theorem keys_es {H : Hp} : ∀ {ks : List Fr} {bs : List Addr}, IsKeys H (ks.map entF) bs → ∃ es : List (Addr × Int × Int), es.map (·.1) = bs ∧ es.map (·.2) = ks ∧ ∀ e ∈ es, H e.1 = some (.tup [.int e.2.1, .int e.2.2])
  | [], _, .nil => ⟨[], rfl, rfl, fun _ h => nomatch h⟩
  | f :: ks, _, .cons (b := b) h t => by
    obtain ⟨es, e1, e2, e3⟩ := keys_es t
    refine ⟨(b, f.1, f.2) :: es, by rw [List.map_cons, e1], by rw [List.map_cons, e2], fun e he => ?_⟩
    rcases List.mem_cons.mp he with rfl | he
    · exact h
    · exact e3 e he
theorem nodup_len' {α : Type} [DecidableEq α] : ∀ {l m : List α}, l.Nodup → (∀ x ∈ l, x ∈ m) → l.length ≤ m.length
  | [], _, _, _ => Nat.zero_le _
  | a :: l, m, nd, h => by
    have ha := h a List.mem_cons_self
    obtain ⟨n1, n2⟩ := List.nodup_cons.mp nd
    have := nodup_len' (l := l) (m := m.erase a) n2 fun x hx => (List.mem_erase_of_ne (fun e : x = a => n1 (e ▸ hx))).mpr (h x (List.mem_cons_of_mem _ hx))
    rw [List.length_erase_of_mem ha] at this
    have := List.length_pos_of_mem ha
    rw [List.length_cons]; omega
theorem frsT_es {H : Hp} : ∀ {es : List (Addr × Int × Int)}, (∀ e ∈ es, PrT H e.1 e.2.1 e.2.2) → FrsT H (es.map fun e => V.ref e.1) (es.map (·.2))
  | [], _ => .nil
  | e :: es, h => .cons (h e List.mem_cons_self) (frsT_es fun x hx => h x (List.mem_cons_of_mem _ hx))
/-- two keys -/
theorem key_lt {W : Int} {f g : Fr} (hW : 0 < W) (hf : okF f) (hg : okF g) (df : f.2 ∣ W) (dg : g.2 ∣ W) (h : (f.1 * W).fdiv f.2 ≤ (g.1 * W).fdiv g.2) (ne : f ≠ g) : ltF f g = true := by
  obtain ⟨p, q⟩ := f
  obtain ⟨r, s⟩ := g
  obtain ⟨a, ea⟩ := df
  obtain ⟨b, eb⟩ := dg
  dsimp only at ea eb h ne ⊢
  have q0 : 0 < q := by have := hf.1; exact Int.lt_of_lt_of_le (by decide) this
  have s0 : 0 < s := by have := hg.1; exact Int.lt_of_lt_of_le (by decide) this
  have k1 : (p * W).fdiv q = p * a := by
    rw [ea, Int.mul_comm q a, ← Int.mul_assoc]; exact Int.mul_fdiv_cancel _ (by omega)
  have k2 : (r * W).fdiv s = r * b := by
    rw [eb, Int.mul_comm s b, ← Int.mul_assoc]; exact Int.mul_fdiv_cancel _ (by omega)
  rw [k1, k2] at h
  have m := Int.mul_le_mul_of_nonneg_right h (show 0 ≤ q * s from Int.le_of_lt (Int.mul_pos q0 s0))
  have e1 : p * a * (q * s) = p * s * W := by rw [ea]; simp only [Int.mul_comm, Int.mul_left_comm, Int.mul_assoc]
  have e2 : r * b * (q * s) = r * q * W := by rw [eb]; simp only [Int.mul_comm, Int.mul_left_comm, Int.mul_assoc]
  rw [e1, e2] at m
  have le := Int.le_of_mul_le_mul_right m hW
  have nq : p * s ≠ r * q := fun e => ne (by
    obtain ⟨x, y⟩ := low_same hf.1 hf.2.1 hg.1 hg.2.1 e
    exact Prod.ext x y)
  exact decide_eq_true (show p * s < r * q by omega)
theorem byKey_srt {W : Int} {es : List (Addr × Int × Int)} (hW : 0 < W) (ok : ∀ e ∈ es, okF e.2) (dv : ∀ e ∈ es, e.2.2 ∣ W) (nd : (es.map (·.2)).Nodup) : ((KY.byKey W es).map (·.2)).Pairwise (fun f g => ltF f g = true) ∧ (KY.byKey W es).Perm es := by
  have pm : (KY.byKey W es).Perm es := List.mergeSort_perm _ _
  refine ⟨?_, pm⟩
  have so : (KY.byKey W es).Pairwise fun a b => decide (KY.keyI W a ≤ KY.keyI W b) = true :=
    List.pairwise_mergeSort (le := fun a b : Addr × Int × Int => decide (KY.keyI W a ≤ KY.keyI W b)) (fun a b c h1 h2 => decide_eq_true (Int.le_trans (of_decide_eq_true h1) (of_decide_eq_true h2))) (fun a b => by
      rcases Int.le_total (KY.keyI W a) (KY.keyI W b) with h | h
      · exact Bool.or_eq_true_iff.mpr (.inl (decide_eq_true h))
      · exact Bool.or_eq_true_iff.mpr (.inr (decide_eq_true h))) es
  have nd2 : ((KY.byKey W es).map (·.2)).Nodup := (pm.map _).nodup_iff.mpr nd
  rw [List.pairwise_map]
  have nd3 : (KY.byKey W es).Pairwise fun a b => a.2 ≠ b.2 := List.pairwise_map.mp nd2
  refine (List.Pairwise.and so nd3).imp_of_mem fun {a b} ha hb ⟨h1, h2⟩ => ?_
  have ha := pm.mem_iff.mp ha
  have hb := pm.mem_iff.mp hb
  exact key_lt hW (ok a ha) (ok b hb) (dv a ha) (dv b hb) (of_decide_eq_true h1) h2
section
variable {P : Program} {w : World} {K : PySem.W.Frag} {mg : Str → Option Value} {base : Heap}
def sp_rising (K : PySem.W.Frag) (TL : List (Addr × Str)) : Sp := fun vs H Q _ => ∃ (a : Addr) (xs : List V) (fs : List Fr), vs = [.ref a] ∧ Tabs TL H ∧ (SqL K H a xs ∨ SqT K H a xs) ∧ FrsT H xs fs ∧ (∀ f ∈ fs, okF f) ∧ fs.length ≤ 500 ∧
  ∀ t zs gs H', ExtN H H' → Tabs TL H' → H' t = some (.tup zs) → FrsT H' zs gs → Srt fs gs → gs.length ≤ fs.length → Q (.ref t) H'
theorem ok__law_rising (T : Txt w K mg) (hB : ∀ p ∈ T.cs, TabB base mg p.1 p.2) : FnOk P w K mg base CX0 4 T.a__law_rising T.d__law_rising ["things"] (sp_rising K T.TL) := by
  refine Fun.okC T.F__law_rising T.k__law_rising sc__law_rising (fun vs H Q E h => ?_) (fun A outer s H vs Q E hr h => ?_)
  · obtain ⟨a, xs, fs, rfl, _⟩ := h
    rfl
  · obtain ⟨a, xs, fs, rfl, tb, ha, hx, ok, hl, k⟩ := h
    have hr_sort : Room 3 _ := hr
    have hu1 : (A.deeper (envOfC "_law_rising" (defScope s__law_rising) s.heap.objs.size T.a__law_rising (.ref T.c__law_rising))).units + 1 < cLine := Nat.lt_of_le_of_lt (Nat.add_le_add_left (by decide : 1 ≤ 64) _) hr.units
    refine ⟨_, (pss_cons (ps_asg (pe_tupU (pa_cons pe_dnewT (pa_cons pe_int pa_nil))) (pg_tup rfl (pgs_cons (pg_name (i := 1) sc__law_rising.nd rfl (Or.inl rfl)) (pgs_cons (pg_name (i := 2) sc__law_rising.nd rfl (Or.inr rfl)) pgs_nil))))
      (pss_cons (ps_for PassesOwn.never rfl (pi_lt (pv 0)) (pg_name (i := 3) sc__law_rising.nd rfl (Or.inl rfl)) (pss_cons (ps_dput hu1 (pv 1) (pv 3) pe_bl rfl)
      (pss_one (ps_if (pt_cmpR op_neI (pe_op op_mod (pe_callTy call_intI (by rfl) T.n_int (by decide +kernel) (pa_cons (pv 2) pa_nil)) (pe_ix ix_tup (pv 3) pe_int (fun _ _ => rfl))) pe_int (nomark _)) (pss_one (ps_set (i := 2) sc__law_rising.nd rfl (Or.inr rfl) (pe_op op_mulW (pv 2) (pe_ix ix_tup (pv 3) pe_int (fun _ _ => rfl))))) pss_nil))))
      (pss_one (ps_ret (pe_callTy call_tupleN (by rfl) T.n_tuple (by decide +kernel) (pa_cons (KY.pe_sortLam (iw := 2) rfl (by rfl) T.n_sorted (hB _ T.cs1) rfl T.tl1 (fun p hp e => T.uniq hp T.tl1 e) hr_sort (pa_cons (pe_listKeys rfl (pv 1) (by rfl) T.n_list (by decide +kernel)) pa_nil) rfl rfl rfl rfl rfl (by decide +kernel) (by decide +kernel) (by decide +kernel) (by decide +kernel) rfl (fun _ _ _ _ _ _ => rfl) rfl rfl rfl) pa_nil)))))), ?_⟩
    refine seq_op fun N hN => ?_
    walk_at "rs"
    refine fun d hd => ⟨by decide, fun p1 H1 s1 d1 e1 => ?_⟩
    refine ⟨p1, _, rfl, .inl (.inl e1), rfl, ?_⟩
    refine ⟨_, _, rfl, _, _, rfl, rfl, hN _ _ ?_⟩
    clear hN N
    have nd : H d = none := hd
    have sH1 : Same H H1 := fun b o e => s1 _ _ (by rw [upd_ne (ne_of_none e nd)]; exact e)
    have ed : H1 d = some (.dT []) := s1 _ _ upd_same
    have dv2 : ∀ (W q : Int), 0 < q → (W % q ≠ 0 → ¬ q ∣ W) ∧ (W % q = 0 → q ∣ W) := fun W q h => ⟨fun h1 h2 => h1 (Int.emod_eq_zero_of_dvd h2), Int.dvd_of_emod_eq_zero⟩
    refine cut_seq (fun σ G => ∃ (ks : List Fr) (W : Int) (x3 : Option V), σ = [some (.ref a), some (.ref d), some (.int W), x3] ∧ Same H G ∧ G d = some (.dT (ks.map entF)) ∧ ks.Nodup ∧ (∀ f, f ∈ ks ↔ f ∈ fs) ∧ 0 < W ∧ (∀ f ∈ fs, f.2 ∣ W) ∧ W.natAbs < 2 ^ (1990 * fs.length + 1)) (fun N hN => ?_) ?_
    · refine for_lt (Hb := H) rfl ha (fun i σ G => ∃ (ks : List Fr) (W : Int) (x3 : Option V), σ = [some (.ref a), some (.ref d), some (.int W), x3] ∧ Same H G ∧ G d = some (.dT (ks.map entF)) ∧ ks.Nodup ∧ (∀ f, f ∈ ks ↔ f ∈ fs.take i) ∧ 0 < W ∧ (∀ f ∈ fs.take i, f.2 ∣ W) ∧ W.natAbs < 2 ^ (1990 * i + 1))
        ⟨[], 1, none, rfl, sH1, ed, List.Pairwise.nil, fun f => by simp, by decide, fun f h => by simp at h, by decide⟩ (fun i σ' G _ ⟨_, _, _, _, h, _⟩ => h) ?_ ?_
      · rintro i y σ G hy ⟨ks, W, x3, rfl, sg, gd, nd', mem, hW, dv, bW⟩
        obtain ⟨e, f, rfl, hf, he⟩ := (hx.same sg).get' hy
        have ef : fs.take (i + 1) = fs.take i ++ [f] := by rw [List.take_succ, hf]; rfl
        have fm := List.mem_of_getElem? hf
        have hi := (List.getElem?_eq_some_iff.mp hf).1
        have okf := ok f fm
        have q0 : 0 < f.2 := Int.lt_of_lt_of_le (by decide) okf.1
        have lk : ks.length ≤ 500 := Nat.le_trans (nodup_len' nd' fun f h => (mem f).mp h) (by rw [List.length_take]; omega)
        refine seq_op fun N2 hN2 => ?_
        walk_at "rs"
        unfold sDPut
        walk_at "rs"
        refine ⟨_, DPut.t (k := keyF f) gd he (by rw [List.length_map]; exact Nat.lt_of_le_of_lt lk (by decide)), hN2 _ _ ?_⟩
        clear hN2 N2
        rw [putF_add]
        have sg2 : Same H (upd G d (.dT ((addF ks f).map entF))) := fun b o e => by rw [upd_ne (ne_of_none e nd)]; exact sg _ _ e
        have ed2 : d ≠ e := fun z => by
          have := he
          unfold PrT at this
          rw [← z, gd] at this; cases this
        have he2 : SqT K (upd G d (.dT ((addF ks f).map entF))) e [.int f.1, .int f.2] := .inl (.inl (by rw [upd_ne (Ne.symm ed2)]; exact he))
        have nd2 := nodup_addF (f := f) nd'
        have mem2 : ∀ g, g ∈ addF ks f ↔ g ∈ fs.take (i + 1) := fun g => by
          rw [mem_addF, mem, ef, List.mem_append, List.mem_singleton]
        have g2 : upd G d (.dT ((addF ks f).map entF)) d = some (.dT ((addF ks f).map entF)) := upd_same
        generalize upd G d (.dT ((addF ks f).map entF)) = G2 at *
        have pw : 2 ^ (1990 * (i + 1) + 1) = 2 ^ (1990 * i + 1 + 1990) := by rw [show 1990 * (i + 1) + 1 = 1990 * i + 1 + 1990 by omega]
        walk_at "rs"
        refine ⟨_, he2, _, rfl, _, rfl, q0, ite2 (fun c => ?_) (fun c => ?_)⟩
        · refine ⟨_, he2, _, rfl, _, rfl, wide_mul bW okf.2.2.2 (by omega) (by decide) (by omega), _, _, _, ⟨rfl, rfl⟩, sg2, g2, nd2, mem2, Int.mul_pos hW q0, fun g hg => ?_, ?_⟩
          · rw [ef, List.mem_append, List.mem_singleton] at hg
            rcases hg with hg | rfl
            · exact Int.dvd_trans (dv g hg) (Int.dvd_mul_right _ _)
            · exact Int.dvd_mul_left _ _
          · rw [pw]; exact wide_lt bW okf.2.2.2
        · refine ⟨_, _, _, ⟨rfl, rfl⟩, sg2, g2, nd2, mem2, hW, fun g hg => ?_, Nat.lt_of_lt_of_le bW (Nat.pow_le_pow_right (by decide) (by omega))⟩
          rw [ef, List.mem_append, List.mem_singleton] at hg
          rcases hg with hg | rfl
          · exact dv g hg
          · exact (dv2 W g.2 q0).2 (Classical.byContradiction fun z => c z)
      · rintro σ G ⟨ks, W, x3, rfl, sg, gd, nd', mem, hW, dv, bW⟩
        rw [hx.len, List.take_length] at mem dv
        rw [hx.len] at bW
        exact hN _ _ ⟨ks, W, x3, rfl, sg, gd, nd', mem, hW, dv, bW⟩
    · rintro σ G ⟨ks, W, x3, rfl, sg, gd, nd', mem, hW, dv, bW⟩
      have fg := hx.same sg
      have lk : ks.length ≤ fs.length := nodup_len' nd' fun f h => (mem f).mp h
      walk_at "rs"
      refine ⟨_, rfl, d, _, rfl, .inl gd, fun l bs hl' hk => ?_⟩
      obtain ⟨es, e1, e2, e3⟩ := keys_es hk
      have em : ∀ e ∈ es, e.2 ∈ fs := fun e he => (mem e.2).mp (e2 ▸ List.mem_map.mpr ⟨e, he, rfl⟩)
      have up : Same G (upd G l (.lst (bs.map V.ref))) := same_upd hl'
      obtain ⟨srt, pm⟩ := byKey_srt (W := W) (es := es) hW (fun e he => ok _ (em e he)) (fun e he => dv _ (em e he)) (by rw [e2]; exact nd')
      refine ⟨fun p hp => ?_, l, es, W, rfl, .inl (.inl (by rw [upd_same, ← e1, List.map_map]; rfl)), rfl, fun e he => ⟨.inl (.inl (up _ _ (e3 e he))), ?_, ?_, ?_⟩, fun D Hm H2 xm tm sm nD eD => ⟨D, rfl, _, .inl (.inl eD), fun t H3 s3 n3 t3 => ?_⟩⟩
      · exact Tabs.same tb (Same.trans sg up) p hp
      · have h1 := (ok _ (em e he)).2.2.1
        exact (wide_mul h1 bW (by decide) (by omega) (by omega)).ok
      · have h1 := (ok _ (em e he)).1
        intro z
        rw [z] at h1
        exact absurd h1 (by decide)
      · exact logL (ok _ (em e he)).2.2.2 (by decide) (by decide)
      · refine k t _ ((KY.byKey W es).map (·.2)) H3 ?_ (Tabs.same (Tabs.same tm sm) s3) t3 (frsT_es fun e he => ?_) ⟨srt, fun f => ?_⟩ ?_
        · exact LamX.ExtN.trans (Same.extN (Same.trans sg up)) (LamX.ExtN.trans xm (Same.extN (Same.trans sm s3)))
        · have := e3 e (pm.mem_iff.mp he)
          exact s3 _ _ (sm _ _ (xm _ _ (up _ _ this) fun _ z => by cases z))
        · rw [(pm.map (·.2)).mem_iff, e2, mem]
        · rw [List.length_map, pm.length_eq, ← List.length_map (f := (·.2)), e2]
          exact lk
end
end LK

set_option Elab.async false
set_option linter.all false
set_option maxRecDepth 100000
namespace LK
open PySem PySem.Spec PyProof.Rows L2
local macro_rules | `(tactic| walk_at "rs") => `(tactic| simp only [cxK, cxNK, tCallZ, tAsg, tOp, rI0, rS0, rB0, rI, rU, tUn, rEq, rNe, rIxL, rIxT, rIxS, rSetL, rSlLU, rSlS, rSlU, rCatL, rCatU, rRepL, rIn, tVar, tC, gName, gSub, tIfS, tTest, tB, tAnd, tOr, tNot, tNotV, tAndV, tOrV, tIf, tCall, tCons, tNil, tCB, tDrop, tRet, tRetN, tNext, tLstU, tTupU, tM0, tM1, tPar, tPar3, tAug, ipI, tBM, tBM0, rAppend, rPop, tBreak, tCont, tChain, tSl, tPart, tNoPart, L2.start, List.map, List.length_cons, List.length_nil, List.replicate, List.cons_append, List.nil_append, List.append_nil, List.getElem?_cons_zero, List.getElem?_cons_succ, List.set_cons_zero, List.set_cons_succ, Option.some.injEq, V.int.injEq, V.ref.injEq, V.str.injEq, V.bl.injEq, exists_eq_left', exists_eq_left, exists_and_left, decide_eq_true_eq, List.cons.injEq, and_true, true_and, scal, Bool.not_eq_true', decide_eq_false_iff_not, Nat.zero_add, Nat.reduceAdd, Nat.reduceSub, reduceCtorEq, false_and, exists_false, false_or, or_false, CPow, CMul, CDiv, Int.reduceToNat, ↓reduceIte, wipe, sw, List.nil_append, List.singleton_append])
local macro_rules | `(tactic| walk_at "st") => `(tactic| (refine seq_op fun N hN => ?_; walk_at "rs"))
local macro_rules | `(tactic| walk_at "sd") => `(tactic| first | assumption | decide | omega)
local macro_rules | `(tactic| walk_at "rd") => `(tactic| repeat (first
  | refine ⟨_, SqL.of (by assumption), ?_⟩ | refine ⟨_, SqL.of upd_same, ?_⟩ | refine ⟨_, .inl (SqL.of (by assumption)), ?_⟩ | refine ⟨_, (by assumption : _ = some (HO.lst _)), ?_⟩ | refine ⟨_, upd_same, ?_⟩
  | refine ⟨_, rfl, ?_⟩ | refine And.intro (by walk_at "sd") ?_))

/-! ### rows of fractions -/
def growF (acc : List (List Fr)) (gs : List Fr) : List (List Fr) := acc.flatMap fun r => gs.map fun g => r ++ [g]
def rowsF (rs : List (List Fr)) : List (List Fr) := rs.foldl growF [[]]
inductive FrsTs (H : Hp) : List (List V) → List (List Fr) → Prop
  | nil : FrsTs H [] []
  | cons {r : List V} {f : List Fr} {rs : List (List V)} {fs : List (List Fr)} : FrsT H r f → FrsTs H rs fs → FrsTs H (r :: rs) (f :: fs)
section
variable {H H' : Hp}
theorem FrsTs.same (s : Same H H') : ∀ {rs : List (List V)} {fs : List (List Fr)}, FrsTs H rs fs → FrsTs H' rs fs
  | _, _, .nil => .nil
  | _, _, .cons h q => .cons (h.same s) (q.same s)
theorem FrsTs.len : ∀ {rs : List (List V)} {fs : List (List Fr)}, FrsTs H rs fs → rs.length = fs.length
  | _, _, .nil => rfl
  | _, _, .cons _ q => congrArg Nat.succ q.len
theorem FrsTs.app : ∀ {xs ys : List (List V)} {fs gs : List (List Fr)}, FrsTs H xs fs → FrsTs H ys gs → FrsTs H (xs ++ ys) (fs ++ gs)
  | _, _, _, _, .nil, r => r
  | _, _, _, _, .cons h q, r => .cons h (q.app r)
theorem FrsTs.get : ∀ {xs : List (List V)} {fs : List (List Fr)} {n : Nat} {r : List V}, FrsTs H xs fs → xs[n]? = some r → ∃ f, fs[n]? = some f ∧ FrsT H r f
  | _, _, _, _, .nil, h => by simp at h
  | _, _, 0, r, .cons h _, e => by
    have e' := Option.some.inj e
    subst e'
    exact ⟨_, rfl, h⟩
  | _, _, n + 1, r, .cons _ q, e => q.get (n := n) (by simpa using e)
theorem frs_one {r : List V} {f : List Fr} (h : FrsT H r f) : ∀ {vs : List V} {gs : List Fr}, FrsT H vs gs → FrsTs H (vs.map fun v => r ++ [v]) (gs.map fun g => f ++ [g])
  | _, _, .nil => .nil
  | _, _, .cons h1 q => .cons (h.app (.cons h1 .nil)) (frs_one h q)
theorem frs_grow {vs : List V} {gs : List Fr} (h : FrsT H vs gs) : ∀ {rs : List (List V)} {fs : List (List Fr)}, FrsTs H rs fs → FrsTs H (growV rs vs) (growF fs gs)
  | _, _, .nil => .nil
  | _, _, .cons h1 q => by
    have ih := frs_grow h q
    unfold growV growF at ih ⊢
    rw [List.flatMap_cons, List.flatMap_cons]
    exact (frs_one h1 h).app ih
theorem rows_frs {cs : List (List V)} {fs : List (List Fr)} (h : FrsTs H cs fs) : FrsTs H (rowsV cs) (rowsF fs) := by
  have key : ∀ {cs : List (List V)} {fs : List (List Fr)}, FrsTs H cs fs → ∀ acc accF, FrsTs H acc accF → FrsTs H (cs.foldl growV acc) (fs.foldl growF accF) := by
    intro cs fs h
    induction h with
    | nil => exact fun acc accF h => h
    | cons h1 q ih => exact fun acc accF h => ih _ _ (frs_grow h1 h)
  exact key h _ _ (.cons .nil .nil)
end
theorem rowsF_mem (P : Fr → Prop) (cs : List (List Fr)) (h : ∀ c ∈ cs, ∀ f ∈ c, P f) : ∀ r ∈ rowsF cs, ∀ f ∈ r, P f := by
  have key : ∀ (cs : List (List Fr)) (acc : List (List Fr)), (∀ c ∈ cs, ∀ f ∈ c, P f) → (∀ r ∈ acc, ∀ f ∈ r, P f) → ∀ r ∈ cs.foldl growF acc, ∀ f ∈ r, P f := by
    intro cs
    induction cs with
    | nil => exact fun acc _ h => h
    | cons c cs ih =>
      intro acc hc ha
      refine ih _ (fun c' hc' => hc c' (List.mem_cons_of_mem _ hc')) fun r hr f hf => ?_
      obtain ⟨r0, h0, h1⟩ := List.mem_flatMap.mp hr
      obtain ⟨g, hg, rfl⟩ := List.mem_map.mp h1
      rcases List.mem_append.mp hf with hf | hf
      · exact ha r0 h0 f hf
      · rw [List.mem_singleton.mp hf]; exact hc c List.mem_cons_self g hg
  exact key cs [[]] h fun r hr f hf => by rw [List.mem_singleton.mp hr] at hf; cases hf
/-- the value of a name in a row -/
def tabOf : List Str → List Fr → Str → Option Fr
  | y :: ys, f :: fs, z => if y = z then some f else tabOf ys fs z
  | _, _, _ => none
theorem tabOf_mem : ∀ {zs : List Str} {fs : List Fr} {z : Str} {f : Fr}, tabOf zs fs z = some f → z ∈ zs ∧ f ∈ fs
  | y :: ys, g :: fs, z, f, h => by
    unfold tabOf at h
    split at h
    · rename_i e
      exact ⟨e ▸ List.mem_cons_self, (Option.some.inj h) ▸ List.mem_cons_self⟩
    · have := tabOf_mem h
      exact ⟨List.mem_cons_of_mem _ this.1, List.mem_cons_of_mem _ this.2⟩
  | [], _, _, _, h => by simp [tabOf] at h
  | _ :: _, [], _, _, h => by simp [tabOf] at h
theorem tabOf_has : ∀ {zs : List Str} {fs : List Fr} {z : Str}, zs.length = fs.length → z ∈ zs → (tabOf zs fs z).isSome = true
  | y :: ys, g :: fs, z, l, h => by
    unfold tabOf
    split
    · rfl
    · rename_i n
      exact tabOf_has (Nat.succ.inj l) ((List.mem_cons.mp h).resolve_left fun e => n e.symm)
theorem ent_get {H : Hp} : ∀ {zs : List Str} {vs : List V} {fs : List Fr} (z : Str), zs.length = fs.length → FrsT H vs fs → (valV (entZ zs vs) (.inr z) = none ∧ tabOf zs fs z = none) ∨ ∃ a f, valV (entZ zs vs) (.inr z) = some (.ref a) ∧ tabOf zs fs z = some f ∧ PrT H a f.1 f.2
  | [], _, [], z, _, .nil => .inl ⟨rfl, rfl⟩
  | y :: ys, _, f :: fs, z, l, .cons (a := a) h q => by
    unfold tabOf entZ valV
    rw [List.zip_cons_cons, List.map_cons, List.find?_cons]
    by_cases e : y = z
    · subst e
      simp only [decide_true, if_true]
      exact .inr ⟨a, f, rfl, rfl, h⟩
    · have ne : ¬ ((.inr y : Key) = .inr z) := fun h => e (Sum.inr.inj h)
      simp only [ne, decide_false, if_neg e]
      exact ent_get z (Nat.succ.inj l) q
theorem ent_ok {H : Hp} {K : PySem.W.Frag} {zs : List Str} {vs : List V} {fs : List Fr} (h : FrsT H vs fs) (ok : ∀ f ∈ fs, okB 64 f) : Ents K H (entZ zs vs) := by
  intro p hp
  obtain ⟨⟨z, v⟩, hq, rfl⟩ := List.mem_map.mp hp
  obtain ⟨n, hn⟩ := List.getElem?_of_mem (List.of_mem_zip hq).2
  obtain ⟨a, f, rfl, hf, hp⟩ := h.get' hn
  exact ⟨z, a, f, rfl, ok f (List.mem_of_getElem? hf), hp.pr⟩
theorem dtt_row {H : Hp} {K : PySem.W.Frag} {d : Addr} {zs : List Str} {vs : List V} {fs : List Fr} (hd : H d = some (.dK (entZ zs vs))) (h : FrsT H vs fs) (ok : ∀ f ∈ fs, okB 64 f) (l : zs.length = fs.length) (l6 : zs.length ≤ 60) : DTT K H d (entZ zs vs) (tabOf zs fs) := by
  refine ⟨⟨hd, ?_, ent_ok h ok, fun z => ?_⟩, fun z f e => ?_⟩
  · unfold entZ
    rw [List.length_map, List.length_zip]; omega
  · rcases ent_get z l h with ⟨e1, e2⟩ | ⟨a, f, e1, e2, e3⟩
    · rw [e1, e2]; trivial
    · rw [e1, e2]; exact ⟨a, rfl, e3.pr⟩
  · rcases ent_get z l h with ⟨e1, e2⟩ | ⟨a, g, e1, e2, e3⟩
    · rw [e2] at e; cases e
    · rw [e2] at e
      have := Option.some.inj e
      subst this
      exact ⟨a, e1, e3⟩
/-- the worth of words by a row -/
def worthF (tab : Str → Option Fr) (ws : List Str) : Fr := (stk tab ws).headD (0, 1)
theorem worth_ok {ws : List Str} {fs : List Fr} (ok : okRw (.be ws)) (l : fs.length = (namesOf ws).length) (hf : ∀ f ∈ fs, okB 64 f) :
    lacks (tabOf (namesOf ws) fs) ws = [] ∧ stk (tabOf (namesOf ws) fs) ws = [worthF (tabOf (namesOf ws) fs) ws] ∧ okB 1920 (worthF (tabOf (namesOf ws) fs) ws) := by
  have h1 : lacks (tabOf (namesOf ws) fs) ws = [] := lacks_nil fun z hz => tabOf_has l.symm hz
  have h2 := stk_ok (tab := tabOf (namesOf ws) fs) ws [101] ok.1 (fun z hz n => by
    obtain ⟨f, e⟩ := Option.isSome_iff_exists.mp (tabOf_has l.symm (mem_names.mpr ⟨hz, n⟩))
    exact ⟨f, e, hf f (tabOf_mem e).2⟩) (fun c hc => .inl (by simpa using hc)) ok.2.2
  have hl := h2.len
  have ha := h2.all
  unfold worthF
  match h : stk (tabOf (namesOf ws) fs) ws, hl with
  | [f], _ =>
    refine ⟨h1, rfl, ?_⟩
    exact (ha f (by rw [h]; exact List.mem_cons_self)).le (by have := ok.2.1; omega)
theorem tabOf_no {ws : List Str} {fs : List Fr} : ∀ z ∈ allW, nm z = false → tabOf (namesOf ws) fs z = none := by
  intro z _ n
  cases e : tabOf (namesOf ws) fs z with
  | none => rfl
  | some f =>
    have := (mem_names.mp (tabOf_mem e).1).2
    rw [n] at this; cases this
/-- the values of words by rows -/
def worths (ws : List Str) (rows : List (List Fr)) : List Fr := rows.map fun r => worthF (tabOf (namesOf ws) r) ws
/-- the values of a line -/
def valsR (rg : Str → Option (List V × List Fr)) : Rw → List Fr
  | .be ws => worths ws (rowsF (colsF rg (namesOf ws)))
  | .tab _ fs => fs
  | _ => []
theorem cols_frs {K : PySem.W.Frag} {H : Hp} {d : Addr} {kvs : List (Key × V)} {rg : Str → Option (List V × List Fr)} (D : RD K H d kvs rg) : ∀ (zs : List Str), (∀ z ∈ zs, ∃ p, rg z = some p) → FrsTs H (colsV rg zs) (colsF rg zs)
  | [], _ => .nil
  | z :: zs, h => by
    obtain ⟨p, hp⟩ := h z List.mem_cons_self
    obtain ⟨t, e1, e2, e3⟩ := D.get hp
    have ih := cols_frs D zs fun y hy => h y (List.mem_cons_of_mem _ hy)
    unfold colsV colsF at ih ⊢
    simp only [List.map_cons, hp, Option.getD]
    exact .cons e3 ih
section
variable {P : Program} {w : World} {K : PySem.W.Frag} {mg : Str → Option Value} {base : Heap}
def okRg (rg : Str → Option (List V × List Fr)) : Prop := ∀ z p, rg z = some p → 1 ≤ p.1.length ∧ p.1.length ≤ 240 ∧ ∀ f ∈ p.2, okB 60 f
/-- what a line asks of the ranges -/
def needR (rg : Str → Option (List V × List Fr)) : Rw → Prop
  | .be ws => (∀ z ∈ namesOf ws, ∃ p, rg z = some p) ∧ rowsN (colsV rg (namesOf ws)) ≤ 240
  | .tab _ _ => True
  | .cnt _ _ => True
  | .lok z y _ _ _ => ∃ p, rg y = some p ∧ (z = "mean" → p.2.length ≤ 4 ∧ ∀ f ∈ p.2, f.2 = 1)
theorem FrsTs.getF {H : Hp} {rs : List (List V)} {fs : List (List Fr)} (h : FrsTs H rs fs) {n : Nat} (hn : n < rs.length) : ∃ r f, rs[n]? = some r ∧ fs[n]? = some f ∧ FrsT H r f := by
  obtain ⟨f, h1, h2⟩ := h.get (n := n) (List.getElem?_eq_getElem hn)
  exact ⟨_, f, List.getElem?_eq_getElem hn, h1, h2⟩
def sp_results (K : PySem.W.Frag) : Sp := fun vs H Q _ => ∃ (a d : Addr) (r : Rw) (kvs : List (Key × V)) (rg : Str → Option (List V × List Fr)), vs = [.ref a, .ref d] ∧ RowAt K H a r ∧ okRw r ∧ isLook r = false ∧ RD K H d kvs rg ∧ okRg rg ∧ needR rg r ∧
  ∀ t xs H', Same H H' → SqL K H' t xs → Frs K H' xs (valsR rg r) → Q (.ref t) H'
theorem ok_results (T : Txt w K mg) : FnOk P w K mg base CX0 9 T.a_results T.d_results ["line", "ranges"] (sp_results K) := by
  refine T.F_results.ok sc_results (fun vs H Q E h => ?_) (fun cdv A outer s H vs Q E hr h => ?_)
  · obtain ⟨a, d, r, kvs, rg, rfl, _⟩ := h
    rfl
  · obtain ⟨a, d, r, kvs, rg, rfl, ha, ok, nl, hD, hrg, nd, k⟩ := h
    have hr_line_names : Room 5 _ := hr.mono (by decide)
    have G_line_names := ok_line_names (P := P) (base := base) T
    have hr_line_rows : Room 6 _ := hr.mono (by decide)
    have G_line_rows := ok_line_rows (P := P) (base := base) T
    have hr_evaluate : Room 8 _ := hr
    have G_evaluate := ok_evaluate (P := P) (base := base) T
    have hu1 : (A.deeper (envOfC "results" (defScope s_results) s.heap.objs.size T.a_results cdv)).units + 1 < cLine := Nat.lt_of_le_of_lt (Nat.add_le_add_left (by decide : 1 ≤ 64) _) hr.units
    refine ⟨_, (pss_cons (ps_if (pt_cmpR op_eqS (pe_ix ix_tup (pv 0) pe_int (fun _ _ => rfl)) pe_str (nomark _)) (pss_one (ps_ret (pe_callTy call_listU (by rfl) T.n_list (by decide +kernel) (pa_cons (pe_ix ix_tup (pv 0) pe_int (fun _ _ => rfl)) pa_nil)))) pss_nil)
      (pss_cons (ps_set (i := 2) sc_results.nd rfl (Or.inr rfl) (pe_call G_line_names hr_line_names (by rfl) T.m_line_names T.F_line_names.kp T.B_line_names .nil pass0 (pa_cons (pv 0) pa_nil)))
      (pss_one (ps_ret (pe_lc (own := [("row", 3)]) (g := gName 3) (tt := tYes) rfl sc_results.nd (pi_list (pe_call G_line_rows hr_line_rows (by rfl) T.m_line_rows T.F_line_rows.kp T.B_line_rows .nil pass0 (pa_cons (pv 0) (pa_cons (pv 1) pa_nil)))) (blkOk_by (own := [("row", 3)]) (N := N_results) (sc := defScope s_results) (by decide +kernel)) (fun _ _ _ _ _ => pg_name (i := 3) sc_results.nd rfl (Or.inl rfl)) (fun _ _ _ _ _ => pts_nil) (fun _ _ _ _ _ => (pe_call G_evaluate hr_evaluate (by rfl) T.m_evaluate T.F_evaluate.kp T.B_evaluate .nil passL (pa_cons (pe_ix (ix_tupK (K := K) rfl) (pv 0) pe_int (fun _ _ => rfl)) (pa_cons (pe_dictZipK (K := K) rfl rfl (by rfl) T.n_dict (by rfl) T.n_zip (pa_cons (pv 2) (pa_cons (pv 3) pa_nil))) pa_nil))))))))), ?_⟩
    cases r with
    | cnt k2 q => cases nl
    | lok z y k2 q o => cases nl
    | tab ps fs =>
      obtain ⟨e, t, xs, h1, h2, h3, h4⟩ := ha
      refine seq_op fun N hN => ?_
      walk_at "rs"
      refine ⟨_, h1, _, rfl, _, rfl, iteTT rfl ⟨_, h1, _, rfl, t, rfl, xs, .inr h3, fun l H2 s2 n2 e2 => k l xs H2 s2 (.inl (.inl e2)) (h4.same s2).frs⟩⟩
    | be ws =>
      have ha' := ha
      obtain ⟨e, h1, h2⟩ := ha
      obtain ⟨nd6, n6, n11⟩ := names_few (ws := ws)
      refine seq_op fun N hN => ?_
      walk_at "rs"
      refine ⟨_, h1, _, rfl, _, rfl, iteFF (by decide) (hN _ _ ?_)⟩
      clear hN N
      refine seq_op fun N hN => ?_
      walk_at "rs"
      refine ⟨ws, ha', ok, fun t H1 s1 n1 e1 => hN _ _ ?_⟩
      clear hN N
      walk_at "rs"
      obtain ⟨nd1, nd2⟩ := nd
      refine ⟨_, rfl, _, rfl, a, d, ws, kvs, rg, rfl, ha'.same s1, ok, hD.same s1, fun z hz => (nd1 z hz).imp fun p hp => ⟨hp, (hrg z p hp).1⟩, by omega, fun l ts H2 s2 n2 e2 tp => ?_⟩
      have S2 := Same.trans s1 s2
      have hl : SqL K H2 l ts := .inl (.inl e2)
      have hfr := rows_frs (cols_frs (hD.same S2) _ nd1)
      have okc : ∀ r ∈ rowsF (colsF rg (namesOf ws)), ∀ f ∈ r, okB 64 f := rowsF_mem (okB 64) _ fun c hc f hf => by
        obtain ⟨z, hz, rfl⟩ := List.mem_map.mp hc
        obtain ⟨p, hp⟩ := nd1 z hz
        rw [hp] at hf
        exact ((hrg z p hp).2.2 f hf).le (by decide)
      have lrows := rows_len (colsV rg (namesOf ws))
      have lcols : (colsV rg (namesOf ws)).length = (namesOf ws).length := List.length_map _
      have lts := tp.len
      refine ⟨l, rfl, ⟨ts, hl⟩, fun D hD0 => lc_it (walk_list (K := K) (a := l) (xs := ts)) (fun j G => Same H2 G ∧ ∃ us, G D = some (.lst us) ∧ Frs K G us (worths ws ((rowsF (colsF rg (namesOf ws))).take j))) ⟨same_upd hD0, [], upd_same, by rw [List.take_zero]; exact .nil⟩ (fun j G _ h => .inl (.inl (h.1 _ _ e2))) ?_ ?_⟩
      · rintro j y G1 G2 hj ⟨s3, us, g1, f1⟩ ⟨rfl, hy1⟩
        obtain ⟨b, row, rfl, hrow, hb⟩ := tp.at hy1
        obtain ⟨fr, hfr1, hfr2⟩ := hfr.get hrow
        have lrow := (rows_row _ row (List.mem_of_getElem? hrow)).trans lcols
        have okr := okc fr (List.mem_of_getElem? hfr1)
        have lfr := hfr2.len
        obtain ⟨w1, w2, w3⟩ := worth_ok ok (by omega) okr
        have ej : (rowsF (colsF rg (namesOf ws))).take (j + 1) = (rowsF (colsF rg (namesOf ws))).take j ++ [fr] := by rw [List.take_succ, hfr1]; rfl
        walk_at "rs"
        simp only [tYes, eq_self, ite_true]
        have sG := Same.trans S2 s3
        have hb3 := Same.seqT s3 hb
        refine ⟨_, Same.seqT sG h1, _, rfl, _, rfl, _, rfl, t, b, namesOf ws, row, rfl, .inr (.inl (.inl (Same.trans s2 s3 _ _ e1))), hb3, lrow.symm, nd6, by omega, fun dz H5 s5 n5 e5 => ?_⟩
        have hdt := dtt_row (K := K) e5 (hfr2.same (Same.trans s3 s5)) okr (by omega) (by omega)
        refine ⟨e, dz, ws, _, _, rfl, Same.seqT (Same.trans sG s5) h2, ok.1, ok.2.1, ok.2.2, hdt.dt, fun z f h => okr f (tabOf_mem h).2, fun _ tt H6 f s6 est o6 hp => ?_, fun z l hl => by rw [w1] at hl; cases hl⟩
        rw [w2] at est
        obtain rfl : worthF (tabOf (namesOf ws) fr) ws = f := by simpa using est
        have s56 := Same.trans s5 s6
        refine ⟨us, s56 _ _ g1, ?_, fun q o e => ?_, _, upd_same, ?_⟩
        · have := f1.len
          unfold worths at this
          rw [List.length_map, List.length_take] at this
          exact Nat.lt_of_le_of_lt (show us.length ≤ 5000 by omega) (by decide)
        · rw [upd_ne (ne_of_none e hD0)]; exact s56 _ _ (s3 _ _ e)
        · rw [ej]
          unfold worths at f1 ⊢
          rw [List.map_append]
          exact ((f1.same s56).upd (s56 _ _ g1)).app (.cons (seqT_upd (s56 _ _ g1) hp) .nil)
      · rintro G ⟨s3, us, g1, f1⟩
        rw [lts, hfr.len, List.take_length] at f1
        exact k D us G (Same.trans S2 s3) (.inl (.inl g1)) f1
end
end LK

set_option Elab.async false
set_option linter.all false
set_option maxRecDepth 100000
namespace LK
open PySem PySem.Spec PyProof.Rows L2
local macro_rules | `(tactic| walk_at "rs") => `(tactic| simp only [cxK, cxNK, tCallZ, tAsg, tOp, rI0, rS0, rB0, rI, rU, tUn, rEq, rNe, rIxL, rIxT, rIxS, rSetL, rSlLU, rSlS, rSlU, rCatL, rCatU, rRepL, rIn, tVar, tC, gName, gSub, tIfS, tTest, tB, tAnd, tOr, tNot, tNotV, tAndV, tOrV, tIf, tCall, tCons, tNil, tCB, tDrop, tRet, tRetN, tNext, tLstU, tTupU, tM0, tM1, tPar, tPar3, tAug, ipI, tBM, tBM0, rAppend, rPop, tBreak, tCont, tChain, tSl, tPart, tNoPart, L2.start, List.map, List.length_cons, List.length_nil, List.replicate, List.cons_append, List.nil_append, List.append_nil, List.getElem?_cons_zero, List.getElem?_cons_succ, List.set_cons_zero, List.set_cons_succ, Option.some.injEq, V.int.injEq, V.ref.injEq, V.str.injEq, V.bl.injEq, exists_eq_left', exists_eq_left, exists_and_left, decide_eq_true_eq, List.cons.injEq, and_true, true_and, scal, Bool.not_eq_true', decide_eq_false_iff_not, Nat.zero_add, Nat.reduceAdd, Nat.reduceSub, reduceCtorEq, false_and, exists_false, false_or, or_false, CPow, CMul, CDiv, Int.reduceToNat, ↓reduceIte, wipe, sw, List.nil_append, List.singleton_append])
local macro_rules | `(tactic| walk_at "st") => `(tactic| (refine seq_op fun N hN => ?_; walk_at "rs"))
local macro_rules | `(tactic| walk_at "sd") => `(tactic| first | assumption | decide | omega)
local macro_rules | `(tactic| walk_at "rd") => `(tactic| repeat (first
  | refine ⟨_, SqL.of (by assumption), ?_⟩ | refine ⟨_, SqL.of upd_same, ?_⟩ | refine ⟨_, .inl (SqL.of (by assumption)), ?_⟩ | refine ⟨_, (by assumption : _ = some (HO.lst _)), ?_⟩ | refine ⟨_, upd_same, ?_⟩
  | refine ⟨_, rfl, ?_⟩ | refine And.intro (by walk_at "sd") ?_))

/-! ### sums of so many values: the mathematics -/
inductive SumM (ns : List Int) : Nat → Int → Prop
  | zero : SumM ns 0 0
  | succ {m : Nat} {t v : Int} : SumM ns m t → v ∈ ns → SumM ns (m + 1) (t + v)
inductive Rep : List Int → Nat → Int → Prop
  | nil : Rep [] 0 0
  | cons {ns : List Int} {c : Nat} {t v : Int} (k : Nat) : Rep ns c t → Rep (v :: ns) (c + k) (t + k * v)
theorem Rep.add {ns : List Int} {c : Nat} {t v : Int} (h : Rep ns c t) (hv : v ∈ ns) : Rep ns (c + 1) (t + v) := by
  induction h with
  | nil => cases hv
  | @cons ns c t u k h ih =>
    rcases List.mem_cons.mp hv with rfl | hv
    · have := Rep.cons (v := v) (k + 1) h
      rw [show c + k + 1 = c + (k + 1) by omega, show t + (k : Int) * v + v = t + ((k + 1 : Nat) : Int) * v by rw [Int.natCast_add, Int.add_mul]; omega]
      exact this
    · have := Rep.cons (v := u) k (ih hv)
      rw [show c + k + 1 = c + 1 + k by omega, show t + (k : Int) * u + v = t + v + (k : Int) * u by omega]
      exact this
theorem rep_zero : ∀ ns : List Int, Rep ns 0 0
  | [] => .nil
  | v :: ns => by
    have := Rep.cons (v := v) 0 (rep_zero ns)
    simpa using this
theorem sum_rep {ns : List Int} {m : Nat} {t : Int} (h : SumM ns m t) : Rep ns m t := by
  induction h with
  | zero => exact rep_zero ns
  | succ _ hv ih => exact ih.add hv
theorem SumM.mono {ns ms : List Int} (h : ∀ v ∈ ns, v ∈ ms) {m : Nat} {t : Int} (s : SumM ns m t) : SumM ms m t := by
  induction s with
  | zero => exact .zero
  | succ _ hv ih => exact .succ ih (h _ hv)
theorem SumM.more {ns : List Int} {m : Nat} {t v : Int} (s : SumM ns m t) (hv : v ∈ ns) : ∀ k : Nat, SumM ns (m + k) (t + k * v)
  | 0 => by simpa using s
  | k + 1 => by
    have := SumM.succ (SumM.more s hv k) hv
    rw [show t + ((k + 1 : Nat) : Int) * v = t + (k : Int) * v + v by rw [Int.natCast_add, Int.add_mul]; omega]
    exact this
theorem rep_sum {ns : List Int} {m : Nat} {t : Int} (h : Rep ns m t) : SumM ns m t := by
  induction h with
  | nil => exact .zero
  | cons k _ ih => exact (ih.mono fun _ hv => List.mem_cons_of_mem _ hv).more List.mem_cons_self k
theorem SumM.bound {ns : List Int} {B : Nat} (hB : ∀ v ∈ ns, v.natAbs ≤ B) {m : Nat} {t : Int} (s : SumM ns m t) : t.natAbs ≤ m * B := by
  induction s with
  | zero => simp
  | @succ m t v _ hv ih =>
    have := hB v hv
    have e : (m + 1) * B = m * B + B := Nat.succ_mul m B
    omega
/-- counted up, value by value -/
def cntP (many : Nat) : List Int → List (Nat × Int) → List (Nat × Int)
  | [], acc => acc
  | v :: ns, acc => cntP many ns (acc.flatMap fun p => (List.range (many - p.1 + 1)).map fun k => (p.1 + k, p.2 + k * v))
def cntL (many : Nat) : Nat → List Nat → List Nat
  | 0, acc => acc
  | l + 1, acc => cntL many l (acc.flatMap fun c => (List.range (many - c + 1)).map fun k => c + k)
theorem cntP_fst (many : Nat) : ∀ (ns : List Int) (acc : List (Nat × Int)), (cntP many ns acc).map (·.1) = cntL many ns.length (acc.map (·.1))
  | [], acc => rfl
  | v :: ns, acc => by
    refine (cntP_fst many ns _).trans ?_
    show cntL many ns.length _ = cntL many ns.length _
    congr 1
    rw [List.map_flatMap, List.flatMap_map]
    congr 1
    funext p
    rw [List.map_map]; rfl
theorem cnt_small : ∀ l : Fin 5, ∀ n : Fin 9, (cntL n.val l.val [0]).length ≤ 495 := by decide +kernel
theorem cntP_len {ns : List Int} {n : Nat} (h : ns.length ≤ 4) (hn : n ≤ 8) : (cntP n ns [(0, 0)]).length ≤ 495 := by
  have := congrArg List.length (cntP_fst n ns [(0, 0)])
  rw [List.length_map] at this
  rw [this]
  exact cnt_small ⟨ns.length, by omega⟩ ⟨n, by omega⟩
theorem cntP_mem (many : Nat) : ∀ (ns : List Int) (acc : List (Nat × Int)), (∀ p ∈ acc, p.1 ≤ many) → ∀ c t, (c, t) ∈ cntP many ns acc ↔ c ≤ many ∧ ∃ p ∈ acc, ∃ c' t', Rep ns c' t' ∧ c = p.1 + c' ∧ t = p.2 + t'
  | [], acc, h, c, t => by
    constructor
    · exact fun m => ⟨h _ m, (c, t), m, 0, 0, .nil, rfl, by simp⟩
    · rintro ⟨_, p, hp, c', t', r, rfl, rfl⟩
      cases r
      have e : ((p.1 + 0, p.2 + 0) : Nat × Int) = p := by simp
      rw [e]; exact hp
  | v :: ns, acc, h, c, t => by
    show (c, t) ∈ cntP many ns _ ↔ _
    rw [cntP_mem many ns _ (fun q hq => by
      obtain ⟨p, hp, h2⟩ := List.mem_flatMap.mp hq
      obtain ⟨k, hk, rfl⟩ := List.mem_map.mp h2
      have := List.mem_range.mp hk
      have := h p hp
      show p.1 + k ≤ many
      omega)]
    constructor
    · rintro ⟨hc, q, hq, c', t', r, rfl, rfl⟩
      obtain ⟨p, hp, h2⟩ := List.mem_flatMap.mp hq
      obtain ⟨k, hk, rfl⟩ := List.mem_map.mp h2
      exact ⟨hc, p, hp, c' + k, t' + k * v, .cons k r, by show p.1 + k + c' = _; omega, by show p.2 + k * v + t' = _; omega⟩
    · rintro ⟨hc, p, hp, c', t', r, rfl, rfl⟩
      cases r with
      | @cons _ c0 t0 _ k r =>
        refine ⟨hc, (p.1 + k, p.2 + k * v), List.mem_flatMap.mpr ⟨p, hp, List.mem_map.mpr ⟨k, List.mem_range.mpr (by omega), rfl⟩⟩, c0, t0, r, by show _ = p.1 + k + c0; omega, by show _ = p.2 + k * v + t0; omega⟩
theorem cnt_sum {ns : List Int} {many c : Nat} {t : Int} : (c, t) ∈ cntP many ns [(0, 0)] ↔ c ≤ many ∧ SumM ns c t := by
  rw [cntP_mem many ns _ (fun p hp => by rw [List.mem_singleton.mp hp]; exact Nat.zero_le _)]
  constructor
  · rintro ⟨h, p, hp, c', t', r, e1, e2⟩
    rw [List.mem_singleton.mp hp] at e1 e2
    refine ⟨h, ?_⟩
    have e1 : c = c' := by simpa using e1
    have e2 : t = t' := by simpa using e2
    subst e1 e2
    exact rep_sum r
  · exact fun ⟨h, s⟩ => ⟨h, (0, 0), List.mem_singleton.mpr rfl, c, t, sum_rep s, by simp, by simp⟩
theorem nodup_len {α : Type} [DecidableEq α] : ∀ {l m : List α}, l.Nodup → (∀ x ∈ l, x ∈ m) → l.length ≤ m.length
  | [], _, _, _ => Nat.zero_le _
  | a :: l, m, nd, h => by
    have ha := h a List.mem_cons_self
    obtain ⟨n1, n2⟩ := List.nodup_cons.mp nd
    have := nodup_len (l := l) (m := m.erase a) n2 fun x hx => (List.mem_erase_of_ne (fun e : x = a => n1 (e ▸ hx))).mpr (h x (List.mem_cons_of_mem _ hx))
    rw [List.length_erase_of_mem ha] at this
    have := List.length_pos_of_mem ha
    rw [List.length_cons]; omega
theorem sums_len {ns L : List Int} {m : Nat} (hn : ns.length ≤ 4) (hm : m ≤ 8) (asc : L.Pairwise (· < ·)) (h : ∀ k ∈ L, SumM ns m k) : L.length ≤ 495 := by
  have nd : (L.map fun k => (m, k)).Nodup := by
    refine List.Pairwise.map _ (fun a b e z => ?_) asc
    injection z with _ z
    omega
  have := nodup_len nd (m := cntP m ns [(0, 0)]) fun p hp => by
    obtain ⟨k, hk, rfl⟩ := List.mem_map.mp hp
    exact cnt_sum.mpr ⟨Nat.le_refl _, h k hk⟩
  rw [List.length_map] at this
  exact Nat.le_trans this (cntP_len hn hm)
/-- the means of one to n of them -/
def MeanOf (ns : List Int) (n : Nat) (f : Fr) : Prop := ∃ m k, 1 ≤ m ∧ m ≤ n ∧ SumM ns m k ∧ f = lowF k m
end LK

set_option Elab.async false
set_option linter.all false
set_option maxRecDepth 100000
namespace LK
open PySem PySem.Spec PyProof.Rows L2
local macro_rules | `(tactic| walk_at "rs") => `(tactic| simp only [cxK, cxNK, tCallZ, tAsg, tOp, rI0, rS0, rB0, rI, rU, tUn, rEq, rNe, rIxL, rIxT, rIxS, rSetL, rSlLU, rSlS, rSlU, rCatL, rCatU, rRepL, rIn, tVar, tC, gName, gSub, tIfS, tTest, tB, tAnd, tOr, tNot, tNotV, tAndV, tOrV, tIf, tCall, tCons, tNil, tCB, tDrop, tRet, tRetN, tNext, tLstU, tTupU, tM0, tM1, tPar, tPar3, tAug, ipI, tBM, tBM0, rAppend, rPop, tBreak, tCont, tChain, tSl, tPart, tNoPart, L2.start, List.map, List.length_cons, List.length_nil, List.replicate, List.cons_append, List.nil_append, List.append_nil, List.getElem?_cons_zero, List.getElem?_cons_succ, List.set_cons_zero, List.set_cons_succ, Option.some.injEq, V.int.injEq, V.ref.injEq, V.str.injEq, V.bl.injEq, exists_eq_left', exists_eq_left, exists_and_left, decide_eq_true_eq, List.cons.injEq, and_true, true_and, scal, Bool.not_eq_true', decide_eq_false_iff_not, Nat.zero_add, Nat.reduceAdd, Nat.reduceSub, reduceCtorEq, false_and, exists_false, false_or, or_false, CPow, CMul, CDiv, Int.reduceToNat, ↓reduceIte, wipe, sw, List.nil_append, List.singleton_append])
local macro_rules | `(tactic| walk_at "st") => `(tactic| (refine seq_op fun N hN => ?_; walk_at "rs"))
local macro_rules | `(tactic| walk_at "sd") => `(tactic| first | assumption | decide | omega)
local macro_rules | `(tactic| walk_at "rd") => `(tactic| repeat (first
  | refine ⟨_, SqL.of (by assumption), ?_⟩ | refine ⟨_, SqL.of upd_same, ?_⟩ | refine ⟨_, .inl (SqL.of (by assumption)), ?_⟩ | refine ⟨_, (by assumption : _ = some (HO.lst _)), ?_⟩ | refine ⟨_, upd_same, ?_⟩
  | refine ⟨_, rfl, ?_⟩ | refine And.intro (by walk_at "sd") ?_))

section
variable {P : Program} {w : World} {K : PySem.W.Frag} {mg : Str → Option Value} {base : Heap}
def sp_means (K : PySem.W.Frag) : Sp := fun vs H Q _ => ∃ (a : Addr) (xs : List V) (ns : List Int) (n : Nat), vs = [.ref a, .int n] ∧ (SqL K H a xs ∨ SqT K H a xs) ∧ Frs K H xs (ns.map fun v => (v, 1)) ∧ ns.length ≤ 4 ∧ 1 ≤ n ∧ n ≤ 8 ∧ (∀ v ∈ ns, v.natAbs ≤ 2 ^ 60) ∧
  ∀ (t : Addr) (zs : List V) (gs : List Fr) H', Same H H' → SqT K H' t zs → Frs K H' zs gs → gs.Pairwise (fun f g => ltF f g = true) → (∀ f, f ∈ gs ↔ MeanOf ns n f) → gs.length ≤ 4000 → Q (.ref t) H'
theorem ok_means (T : Txt w K mg) : FnOk P w K mg base CX0 16 T.a_means T.d_means ["values", "n"] (sp_means K) := by
  refine T.F_means.ok sc_means (fun vs H Q E h => ?_) (fun cdv A outer s H vs Q E hr h => ?_)
  · obtain ⟨a, xs, ns, n, rfl, _⟩ := h
    rfl
  · obtain ⟨a, xs, ns, n, rfl, ha, hx, hl, n1, n8, hB, k⟩ := h
    have hr_fraction : Room 3 _ := hr.mono (by decide)
    have G_fraction := ok_fraction (P := P) (base := base) T
    obtain ⟨dv, dv_fraction, Db_fraction⟩ := T.D_fraction
    have hr_ascending : Room 15 _ := hr
    have G_ascending := ok_ascending (P := P) (base := base) T 12
    refine ⟨_, (pss_cons (ps_set (i := 2) sc_means.nd rfl (Or.inl rfl) (pe_lstU pa_nil))
      (pss_cons (ps_set (i := 3) sc_means.nd rfl (Or.inl rfl) (pe_lstU (pa_cons pe_int pa_nil)))
      (pss_cons (ps_for PassesOwn.never rfl (pi_range2 (by rfl) T.n_range (pa_cons pe_int (pa_cons (pe_op op_add (pv 1) pe_int) pa_nil))) (pg_name (i := 4) sc_means.nd rfl (Or.inr rfl)) (pss_cons (ps_set (i := 3) sc_means.nd rfl (Or.inl rfl) (pe_callB (SC2.cr_sortS rfl) (by rfl) T.n_sorted (by decide +kernel) (pa_cons (SC2.pe_sc2 (own := [("total", 5), ("value", 6)]) (us := [6]) (g := gName 5) (gj := gName 6) rfl sc_means.nd (pi_list (pv 3)) (blkOk_by (own := [("total", 5), ("value", 6)]) (N := N_means) (sc := defScope s_means) (by decide +kernel)) (by decide) (fun _ _ _ _ _ => pg_name (i := 5) sc_means.nd rfl (Or.inl rfl)) (fun _ _ _ _ _ => (pi_ltK (K := K) rfl (pv 0))) (fun _ _ _ _ _ => pg_name (i := 6) sc_means.nd rfl (Or.inl rfl)) (fun _ _ _ _ _ => (pe_op op_add (pv 5) (pe_ix (ix_tupK (K := K) rfl) (pv 6) pe_int (fun _ _ => rfl))))) pa_nil)))
      (pss_one (ps_set (i := 2) sc_means.nd rfl (Or.inl rfl) (pe_op op_catL (pv 2) (pe_lc (own := [("total", 5)]) (g := gName 5) (tt := tYes) rfl sc_means.nd (pi_list (pv 3)) (blkOk_by (own := [("total", 5)]) (N := N_means) (sc := defScope s_means) (by decide +kernel)) (fun _ _ _ _ _ => pg_name (i := 5) sc_means.nd rfl (Or.inl rfl)) (fun _ _ _ _ _ => pts_nil) (fun _ _ _ _ _ => (pe_call G_fraction hr_fraction (by rfl) T.m_fraction T.F_fraction.kp T.B_fraction .nil passL (pa_cons (pv 5) (pa_cons (pv 4) pa_nil))))))))))
      (pss_one (ps_ret (pe_call G_ascending hr_ascending (by rfl) T.m_ascending T.F_ascending.kp T.B_ascending .nil pass0 (pa_cons (pv 2) pa_nil))))))), ?_⟩
    refine seq_op fun N hN => ?_
    walk_at "rs"
    refine ⟨by decide, fun p1 H1 s1 d1 e1 => hN _ _ ?_⟩
    clear hN N
    refine seq_op fun N hN => ?_
    walk_at "rs"
    refine ⟨by decide, fun p2 H2 s2 d2 e2 => hN _ _ ?_⟩
    clear hN N
    have sH2 := Same.trans s1 s2
    have ne12 : ∀ {q}, H q ≠ none → q ≠ p1 := fun {q} h e => h (e ▸ d1)
    refine cut_seq (fun σ G => ∃ p ts fs x3 x4 x5 x6, σ = [some (.ref a), some (.int n), some (.ref p), x3, x4, x5, x6] ∧ Same H G ∧ G p = some (.lst ts) ∧ Frs K G ts fs ∧ (∀ f, f ∈ fs ↔ MeanOf ns n f) ∧ fs.length ≤ 495 * n) (fun N hN => ?_) ?_
    · walk_at "rs"
      refine ⟨_, rfl, _, _, rfl, rfl, 1, (n : Int) + 1, rfl, ⟨by decide, by decide, by omega, by omega⟩, ?_⟩
      have en : ((n : Int) + 1 - 1).toNat = n := by omega
      rw [en]
      refine for_range (lo := 1) (n := n) (fun i σ G => ∃ p ts fs q L x4 x5 x6, σ = [some (.ref a), some (.int n), some (.ref p), some (.ref q), x4, x5, x6] ∧ Same H G ∧ G p = some (.lst ts) ∧ Frs K G ts fs ∧ G q = some (.lst (L.map V.int)) ∧ L.Pairwise (· < ·) ∧ (∀ k, k ∈ L ↔ SumM ns i k) ∧ (∀ f, f ∈ fs ↔ MeanOf ns i f) ∧ fs.length ≤ 495 * i)
        ⟨p1, [], [], p2, [0], none, none, none, rfl, sH2, s2 _ _ e1, .nil, e2, List.pairwise_singleton _ _, fun k => ?_, fun f => ?_, Nat.le_refl _⟩ ?_ ?_
      · constructor
        · intro h; rw [List.mem_singleton.mp h]; exact .zero
        · intro h; cases h; exact List.mem_singleton.mpr rfl
      · constructor
        · intro h; cases h
        · rintro ⟨m, k, h1, h2, _⟩; omega
      · rintro i σ G hi ⟨p, ts, fs, q, L, x4, x5, x6, rfl, sg, gp, hf, gq, asc, hL, hm, hlen⟩
        have lL := sums_len hl (by omega) asc fun k hk => (hL k).mp hk
        have hxg := hx.same sg
        refine cut_seq (fun σ G' => ∃ (q' : Addr) (L' : List Int) (x5 x6 : Option V), σ = [some (.ref a), some (.int n), some (.ref p), some (.ref q'), some (.int (1 + i)), x5, x6] ∧ Same G G' ∧ G' q' = some (.lst (L'.map V.int)) ∧ L'.Pairwise (· < ·) ∧ (∀ k, k ∈ L' ↔ SumM ns (i + 1) k)) (fun N2 hN2 => ?_) ?_
        · refine ⟨_, rfl, q, rfl, ⟨_, .inl (.inl gq)⟩, fun D hD => ?_⟩
          refine sc2_it (w := w) (g := gName 5) (gj := gName 6) (wj := iLT K (tVar 0)) (te := tOp (rI0 fun i j => V.int (i + j)) (tVar 5) (tOp (rIxT K) (tVar 6) (tC (V.int 0)))) (vs := [5, 6]) (us := [6]) (walk_list (K := K) (a := q) (xs := L.map V.int))
            (fun j G' => Same G G' ∧ ∃ S cnt, G' D = some (SetO w D S cnt) ∧ cnt ≤ j * ns.length ∧ ∀ k, S k = true ↔ ∃ t ∈ L.take j, ∃ v ∈ ns, k = t + v) ⟨same_upd hD, _, 0, upd_same, Nat.zero_le _, fun k => by simp⟩ (fun j G' _ h => .inl (.inl (h.1 _ _ gq))) ?_ ?_
          · rintro j y G1 G2 hj ⟨s1', S, cnt, g1, hc, hS⟩ ⟨rfl, hy⟩
            rw [List.getElem?_map] at hy
            obtain ⟨t, ht, rfl⟩ := Option.map_eq_some_iff.mp hy
            have etk : L.take (j + 1) = L.take j ++ [t] := by rw [List.take_succ, ht]; rfl
            refine ⟨rfl, in_lt (Hb := G) (xs := xs) rfl (ha.imp (Same.seq sg) (Same.seqT sg)) (gj := gName 6) (us := [6]) (R := fun σ3 H5 N => tOp (rI0 fun i j => V.int (i + j)) (tVar 5) (tOp (rIxT K) (tVar 6) (tC (V.int 0))) σ3 H5 fun z G7 => ∃ (c : Int) (S : Int → Bool) (n : Nat), z = .int c ∧ G7 D = some (SetO w D S n) ∧ n + 1 < scanBound ∧ N (L2.upd G7 D (SetO w D (fun k => S k || decide (k = c)) (if S c = true then n else n + 1))))
              (fun l G' => Same G G' ∧ ∃ S cnt, G' D = some (SetO w D S cnt) ∧ cnt ≤ j * ns.length + l ∧ ∀ k, S k = true ↔ (∃ t ∈ L.take j, ∃ v ∈ ns, k = t + v) ∨ ∃ v ∈ ns.take l, k = t + v) ⟨s1', S, cnt, g1, hc, fun k => by rw [hS]; simp⟩ (fun l G' _ h => h.1) ?_ ?_⟩
            · rintro l y G3 hy2 ⟨s3, S3, cnt3, g3, hc3, hS3⟩
              obtain ⟨e, f, rfl, hfr, he⟩ := hxg.get' hy2
              rw [List.getElem?_map] at hfr
              obtain ⟨v, hv, rfl⟩ := Option.map_eq_some_iff.mp hfr
              have ev : ns.take (l + 1) = ns.take l ++ [v] := by rw [List.take_succ, hv]; rfl
              have lt2 : l < ns.length := (List.getElem?_eq_some_iff.mp hv).1
              have lt1 : j < L.length := (List.getElem?_eq_some_iff.mp ht).1
              have b1 : j * ns.length + l ≤ 2000 := by
                have := Nat.mul_le_mul (show j ≤ 494 by omega) (show ns.length ≤ 4 from hl)
                omega
              walk_at "rs"
              refine ⟨_, Same.seqT s3 he, _, rfl, v, rfl, S3, cnt3, g3, by unfold scanBound; omega, fun q o e' => by rw [upd_ne (ne_of_none e' hD)]; exact s3 _ _ e', _, _, upd_same, ?_, fun k => ?_⟩
              · split <;> omega
              · rw [Bool.or_eq_true, hS3, decide_eq_true_iff, ev]
                simp only [List.mem_append, List.mem_singleton]
                constructor
                · rintro ((h | ⟨u, hu, e⟩) | e)
                  · exact .inl h
                  · exact .inr ⟨u, .inl hu, e⟩
                  · exact .inr ⟨v, .inr rfl, e⟩
                · rintro (h | ⟨u, hu | rfl, e⟩)
                  · exact .inl (.inl h)
                  · exact .inl (.inr ⟨u, hu, e⟩)
                  · exact .inr e
            · rintro G3 ⟨s3, S3, cnt3, g3, hc3, hS3⟩
              have lx := hx.len
              rw [List.length_map] at lx
              refine ⟨s3, S3, cnt3, g3, by rw [Nat.succ_mul]; omega, fun k => ?_⟩
              rw [hS3, etk, lx, List.take_length]
              simp only [List.mem_append, List.mem_singleton]
              constructor
              · rintro (⟨u, hu, h⟩ | ⟨v, hv, e⟩)
                · exact ⟨u, .inl hu, h⟩
                · exact ⟨t, .inr rfl, v, hv, e⟩
              · rintro ⟨u, hu | rfl, h⟩
                · exact .inl ⟨u, hu, h⟩
                · exact .inr h
          · rintro G3 ⟨s3, S3, cnt3, g3, hc3, hS3⟩
            rw [List.length_map, List.take_length] at hS3
            refine ⟨D, S3, cnt3, rfl, g3, fun L' p' asc' mem' len' new' => hN2 _ _ ⟨p', L', _, _, rfl, fun q o e => by rw [upd_ne (ne_of_none (s3 _ _ e) new')]; exact s3 _ _ e, upd_same, asc', fun k => ?_⟩⟩
            rw [mem', hS3]
            constructor
            · rintro ⟨t, ht, v, hv, rfl⟩
              exact .succ ((hL t).mp ht) hv
            · intro h
              cases h with
              | succ h hv => exact ⟨_, (hL _).mpr h, _, hv, rfl⟩
        · rintro σ G' ⟨q', L', x5, x6, rfl, sg', gq', asc', hL'⟩
          have lL' := sums_len hl (by omega) asc' fun k hk => (hL' k).mp hk
          have gp' := sg' _ _ gp
          walk_at "rs"
          refine ⟨_, rfl, q', rfl, ⟨_, .inl (.inl gq')⟩, fun D hD => lc_it (walk_list (K := K) (a := q') (xs := L'.map V.int)) (fun j G2 => Same G' G2 ∧ ∃ us, G2 D = some (.lst us) ∧ Frs K G2 us ((L'.take j).map fun k => lowF k (1 + i : Int))) ⟨same_upd hD, [], upd_same, .nil⟩ (fun j G2 _ h => .inl (.inl (h.1 _ _ gq'))) ?_ ?_⟩
          · rintro j y G2 G3 hj ⟨s2', us, g2, f2⟩ ⟨rfl, hy⟩
            rw [List.getElem?_map] at hy
            obtain ⟨k0, hk0, rfl⟩ := Option.map_eq_some_iff.mp hy
            have ej : L'.take (j + 1) = L'.take j ++ [k0] := by rw [List.take_succ, hk0]; rfl
            have lk := (List.getElem?_eq_some_iff.mp hk0).1
            have bk := ((hL' k0).mp (List.mem_of_getElem? hk0)).bound hB
            have b3 : (i + 1) * 2 ^ 60 ≤ 8 * 2 ^ 60 := Nat.mul_le_mul_right _ (by omega)
            walk_at "rs"
            simp only [tYes, eq_self, ite_true]
            refine ⟨_, _, rfl, logL (a := 64) (by omega) (by decide) (by decide), logL (a := 64) (by omega) (by decide) (by decide), fun _ t G4 s4 n4 e4 => ⟨us, s4 _ _ g2, ?_, fun q o e => ?_, _, upd_same, ?_⟩, fun z => absurd z (by omega)⟩
            · have := f2.len
              rw [List.length_map, List.length_take] at this
              exact Nat.lt_of_le_of_lt (show us.length ≤ 495 by omega) (by decide)
            · rw [upd_ne (ne_of_none e hD)]; exact s4 _ _ (s2' _ _ e)
            · rw [ej, List.map_append]
              exact ((f2.same s4).upd (s4 _ _ g2)).app (.cons (seqT_upd (s4 _ _ g2) (.inl (.inl e4))) .nil)
          · rintro G2 ⟨s2', us, g2, f2⟩
            rw [List.length_map, List.take_length] at f2
            have l1 := f2.len
            have l2 := hf.len
            rw [List.length_map] at l1
            refine ⟨D, rfl, ts, s2' _ _ gp', us, g2, Nat.le_trans (show ts.length + us.length ≤ 5000 by omega) (by decide), fun p' G4 s4 n4 e4 => ⟨p', _, fs ++ L'.map fun k => lowF k (1 + i : Int), q', L', _, _, _, ⟨rfl, rfl, rfl, rfl, rfl⟩, Same.trans sg (Same.trans sg' (Same.trans s2' s4)), e4, (hf.same (Same.trans sg' (Same.trans s2' s4))).app (f2.same s4), s4 _ _ (s2' _ _ gq'), asc', hL', fun f => ?_, ?_⟩⟩
            · rw [List.mem_append, hm, List.mem_map]
              constructor
              · rintro (⟨m, k, h1, h2, h3, h4⟩ | ⟨k, hk, rfl⟩)
                · exact ⟨m, k, h1, by omega, h3, h4⟩
                · exact ⟨i + 1, k, by omega, Nat.le_refl _, (hL' k).mp hk, by rw [show (1 + i : Int) = ((i + 1 : Nat) : Int) by omega]⟩
              · rintro ⟨m, k, h1, h2, h3, rfl⟩
                by_cases e : m = i + 1
                · subst e
                  exact .inr ⟨k, (hL' k).mpr h3, by rw [show (1 + i : Int) = ((i + 1 : Nat) : Int) by omega]⟩
                · exact .inl ⟨m, k, h1, by omega, h3, rfl⟩
            · rw [List.length_append, List.length_map]; omega
      · rintro σ G ⟨p, ts, fs, q, L, x4, x5, x6, rfl, sg, gp, hf, gq, asc, hL, hm, hlen⟩
        exact hN _ _ ⟨p, ts, fs, _, _, _, _, rfl, sg, gp, hf, hm, hlen⟩
    · rintro σ G ⟨p, ts, fs, x3, x4, x5, x6, rfl, sg, gp, hf, hm, hlen⟩
      walk_at "rs"
      refine ⟨p, ts, fs, rfl, .inl (.inl (.inl gp)), hf, fun f h => ?_, by omega, by omega, fun t zs gs H' s' h' f' srt l => k t zs gs H' (Same.trans sg s') h' f' srt.1 (fun f => (srt.2 f).trans (hm f)) (by omega)⟩
      obtain ⟨m, k, h1, h2, hs, rfl⟩ := (hm f).mp h
      have hk := hs.bound hB
      have h3 : m * 2 ^ 60 ≤ 8 * 2 ^ 60 := Nat.mul_le_mul_right _ (by omega)
      exact (okB_low (m := 64) (by omega) (by omega) (by omega)).le (by decide)
end
end LK

set_option Elab.async false
set_option linter.all false
set_option maxRecDepth 100000
namespace LK
open PySem PySem.Spec PyProof.Rows L2
local macro_rules | `(tactic| walk_at "rs") => `(tactic| simp only [cxK, cxNK, tCallZ, tAsg, tOp, rI0, rS0, rB0, rI, rU, tUn, rEq, rNe, rIxL, rIxT, rIxS, rSetL, rSlLU, rSlS, rSlU, rCatL, rCatU, rRepL, rIn, tVar, tC, gName, gSub, tIfS, tTest, tB, tAnd, tOr, tNot, tNotV, tAndV, tOrV, tIf, tCall, tCons, tNil, tCB, tDrop, tRet, tRetN, tNext, tLstU, tTupU, tM0, tM1, tPar, tPar3, tAug, ipI, tBM, tBM0, rAppend, rPop, tBreak, tCont, tChain, tSl, tPart, tNoPart, L2.start, List.map, List.length_cons, List.length_nil, List.replicate, List.cons_append, List.nil_append, List.append_nil, List.getElem?_cons_zero, List.getElem?_cons_succ, List.set_cons_zero, List.set_cons_succ, Option.some.injEq, V.int.injEq, V.ref.injEq, V.str.injEq, V.bl.injEq, exists_eq_left', exists_eq_left, exists_and_left, decide_eq_true_eq, List.cons.injEq, and_true, true_and, scal, Bool.not_eq_true', decide_eq_false_iff_not, Nat.zero_add, Nat.reduceAdd, Nat.reduceSub, reduceCtorEq, false_and, exists_false, false_or, or_false, CPow, CMul, CDiv, Int.reduceToNat, ↓reduceIte, wipe, sw, List.nil_append, List.singleton_append])
local macro_rules | `(tactic| walk_at "st") => `(tactic| (refine seq_op fun N hN => ?_; walk_at "rs"))
local macro_rules | `(tactic| walk_at "sd") => `(tactic| first | assumption | decide | omega)
local macro_rules | `(tactic| walk_at "rd") => `(tactic| repeat (first
  | refine ⟨_, SqL.of (by assumption), ?_⟩ | refine ⟨_, SqL.of upd_same, ?_⟩ | refine ⟨_, .inl (SqL.of (by assumption)), ?_⟩ | refine ⟨_, (by assumption : _ = some (HO.lst _)), ?_⟩ | refine ⟨_, upd_same, ?_⟩
  | refine ⟨_, rfl, ?_⟩ | refine And.intro (by walk_at "sd") ?_))

/-! ### the range of a line -/
def ns1 (fs : List Fr) : List Int := fs.map Prod.fst
theorem ns1_of {fs : List Fr} (h : ∀ f ∈ fs, f.2 = 1) : fs = (ns1 fs).map fun v => (v, 1) := by
  induction fs with
  | nil => rfl
  | cons f fs ih =>
    have e := h f List.mem_cons_self
    have ih := ih fun g hg => h g (List.mem_cons_of_mem _ hg)
    show f :: fs = (f.1, (1 : Int)) :: (ns1 fs).map fun v => (v, (1 : Int))
    rw [← ih, ← e]
def cntF (n : Nat) : List Fr := (List.range (n + 1)).map fun (k : Nat) => ((k : Int), (1 : Int))
/-- which are in the range of a line -/
def memR (rg : Str → Option (List V × List Fr)) (n : Nat) : Rw → Fr → Prop
  | .be ws => fun x => x ∈ valsR rg (.be ws)
  | .tab ps fs => fun x => x ∈ valsR rg (.tab ps fs)
  | .cnt _ _ => fun x => x ∈ cntF n
  | .lok z y _ _ o => fun x => (if z = "mean" then MeanOf (ns1 ((rg y).getD ([], [])).2) n x else x ∈ ((rg y).getD ([], [])).2) ∨ x = (o, 1)
theorem mean_ok {ns : List Int} {n : Nat} {f : Fr} (hn : n ≤ 8) (hB : ∀ v ∈ ns, v.natAbs ≤ 2 ^ 60) (h : MeanOf ns n f) : okF f := by
  obtain ⟨m, k, h1, h2, hs, rfl⟩ := h
  have hk := hs.bound hB
  have h3 : m * 2 ^ 60 ≤ 8 * 2 ^ 60 := Nat.mul_le_mul_right _ (by omega)
  exact (okB_low (m := 64) (by omega) (by omega) (by omega)).le (by decide)
theorem ltF_irr {f : Fr} : ¬ ltF f f = true := by
  unfold ltF
  rw [decide_eq_true_iff]; omega
theorem ltF_asym {f g : Fr} (h : ltF f g = true) : ¬ ltF g f = true := by
  unfold ltF at h ⊢
  have := of_decide_eq_true h
  rw [decide_eq_true_iff]; omega
/-- two ascending lists of the same are the same -/
theorem asc_eq : ∀ {fs gs : List Fr}, fs.Pairwise (fun f g => ltF f g = true) → gs.Pairwise (fun f g => ltF f g = true) → (∀ x, x ∈ fs ↔ x ∈ gs) → fs = gs
  | [], [], _, _, _ => rfl
  | [], g :: gs, _, _, h => by have := (h g).mpr List.mem_cons_self; cases this
  | f :: fs, [], _, _, h => by have := (h f).mp List.mem_cons_self; cases this
  | f :: fs, g :: gs, h1, h2, h => by
    obtain ⟨a1, a2⟩ := List.pairwise_cons.mp h1
    obtain ⟨b1, b2⟩ := List.pairwise_cons.mp h2
    have e : f = g := by
      rcases List.mem_cons.mp ((h f).mp List.mem_cons_self) with e | m
      · exact e
      · rcases List.mem_cons.mp ((h g).mpr List.mem_cons_self) with e | m2
        · exact e.symm
        · exact absurd (a1 g m2) (ltF_asym (b1 f m))
    subst e
    refine congrArg (f :: ·) (asc_eq a2 b2 fun x => ?_)
    constructor
    · intro hx
      rcases List.mem_cons.mp ((h x).mp (List.mem_cons_of_mem _ hx)) with e | m
      · rw [e] at hx; exact absurd (a1 f hx) ltF_irr
      · exact m
    · intro hx
      rcases List.mem_cons.mp ((h x).mpr (List.mem_cons_of_mem _ hx)) with e | m
      · rw [e] at hx; exact absurd (b1 f hx) ltF_irr
      · exact m
theorem cnt_asc (n : Nat) : (cntF n).Pairwise (fun f g => ltF f g = true) := by
  refine List.Pairwise.map _ (fun a b h => ?_) List.pairwise_lt_range
  unfold ltF
  exact decide_eq_true (by show (a : Int) * 1 < b * 1; omega)
theorem vals_len {rg : Str → Option (List V × List Fr)} {H : Hp} {K : PySem.W.Frag} {d : Addr} {kvs : List (Key × V)} {r : Rw} (ok : okRw r) (D : RD K H d kvs rg) (nd : needR rg r) : (valsR rg r).length ≤ 240 := by
  cases r with
  | be ws =>
    have l := (rows_frs (cols_frs D _ nd.1)).len
    rw [rows_len] at l
    show (worths _ _).length ≤ 240
    unfold worths
    rw [List.length_map, ← l]
    exact nd.2
  | tab ps fs => exact ok.2.2.2
  | cnt k q => exact Nat.zero_le _
  | lok z y k q o => exact Nat.zero_le _
theorem vals_ok {rg : Str → Option (List V × List Fr)} {H : Hp} {K : PySem.W.Frag} {d : Addr} {kvs : List (Key × V)} {r : Rw} (ok : okRw r) (hrg : okRg rg) (D : RD K H d kvs rg) (nd : needR rg r) : ∀ f ∈ valsR rg r, okF f := by
  cases r with
  | be ws =>
    intro f hf
    obtain ⟨r, hr, rfl⟩ := List.mem_map.mp hf
    have okc : ∀ r ∈ rowsF (colsF rg (namesOf ws)), ∀ f ∈ r, okB 64 f := rowsF_mem (okB 64) _ fun c hc f hf => by
      obtain ⟨z, hz, rfl⟩ := List.mem_map.mp hc
      obtain ⟨p, hp⟩ := nd.1 z hz
      rw [hp] at hf
      exact ((hrg z p hp).2.2 f hf).le (by decide)
    have hfr := rows_frs (cols_frs D _ nd.1)
    obtain ⟨n, hn⟩ := List.getElem?_of_mem hr
    obtain ⟨v, f', h1, h2, h3⟩ := hfr.getF (n := n) (by rw [hfr.len]; exact (List.getElem?_eq_some_iff.mp hn).1)
    rw [hn] at h2
    have h2 := Option.some.inj h2
    subst h2
    have lrow := (rows_row _ v (List.mem_of_getElem? h1)).trans (List.length_map _)
    have lr := h3.len
    exact ((worth_ok ok (by omega) (okc _ hr)).2.2).le (by decide)
  | tab ps fs => exact fun f hf => (ok.2.2.1 f hf).le (by decide)
  | cnt k q => exact fun f hf => by cases hf
  | lok z y k q o => exact fun f hf => by cases hf
theorem int_ok {o : Int} (h : o.natAbs ≤ 9) : okB 64 (o, 1) := ⟨Int.le_refl 1, Nat.gcd_one_right _, Nat.lt_of_le_of_lt h (by decide), (by decide : 1 < 2 ^ 64)⟩
section
variable {P : Program} {w : World} {K : PySem.W.Frag} {mg : Str → Option Value} {base : Heap}
def sp_line_range (K : PySem.W.Frag) : Sp := fun vs H Q _ => ∃ (a d : Addr) (n : Nat) (r : Rw) (kvs : List (Key × V)) (rg : Str → Option (List V × List Fr)), vs = [.ref a, .ref d, .int n] ∧ RowAt K H a r ∧ okRw r ∧ RD K H d kvs rg ∧ okRg rg ∧ needR rg r ∧ 1 ≤ n ∧ n ≤ 8 ∧
  ∀ t xs gs H', Same H H' → SqT K H' t xs → Frs K H' xs gs → gs.Pairwise (fun f g => ltF f g = true) → (∀ x, x ∈ gs ↔ memR rg n r x) → (∀ f ∈ gs, okF f) → gs.length ≤ 5000 → Q (.ref t) H'
theorem ok_line_range (T : Txt w K mg) : FnOk P w K mg base CX0 17 T.a_line_range T.d_line_range ["line", "ranges", "n"] (sp_line_range K) := by
  refine T.F_line_range.ok sc_line_range (fun vs H Q E h => ?_) (fun cdv A outer s H vs Q E hr h => ?_)
  · obtain ⟨a, d, n, r, kvs, rg, rfl, _⟩ := h
    rfl
  · obtain ⟨a, d, n, r, kvs, rg, rfl, ha, ok, hD, hrg, nd, n1, n8, k⟩ := h
    have hr_is_look : Room 1 _ := hr.mono (by decide)
    have G_is_look := ok_is_look (P := P) (base := base) T
    have hr_ascending : Room (12 + 3) _ := hr.mono (by decide)
    have G_ascending := ok_ascending (P := P) (base := base) T 12
    have hr_results : Room 9 _ := hr.mono (by decide)
    have G_results := ok_results (P := P) (base := base) T
    have hr_means : Room 16 _ := hr
    have G_means := ok_means (P := P) (base := base) T
    have hr_fraction : Room 3 _ := hr.mono (by decide)
    have G_fraction := ok_fraction (P := P) (base := base) T
    obtain ⟨fds, dv_fraction, Db_fraction⟩ := T.D_fraction
    have hu1 : (A.deeper (envOfC "line_range" (defScope s_line_range) s.heap.objs.size T.a_line_range cdv)).units + 1 < cLine := Nat.lt_of_le_of_lt (Nat.add_le_add_left (by decide : 1 ≤ 64) _) hr.units
    refine ⟨_, (pss_cons (ps_if (pt_cmpR op_eqS (pe_ix ix_tup (pv 0) pe_int (fun _ _ => rfl)) pe_str (nomark _)) (pss_one (ps_ret (pe_callTy call_tupleN (by rfl) T.n_tuple (by decide +kernel) (pa_cons (pe_lc (own := [("many", 4)]) (g := gName 4) (tt := tYes) rfl sc_line_range.nd (pi_range1 (by rfl) T.n_range (pa_cons (pe_op op_add (pv 2) pe_int) pa_nil)) (blkOk_by (own := [("many", 4)]) (N := N_line_range) (sc := defScope s_line_range) (by decide +kernel)) (fun _ _ _ _ _ => pg_name (i := 4) sc_line_range.nd rfl (Or.inl rfl)) (fun _ _ _ _ _ => pts_nil) (fun _ _ _ _ _ => (pe_tupU (pa_cons (pv 4) (pa_cons pe_int pa_nil))))) pa_nil)))) pss_nil)
      (pss_cons (ps_if (pt_not (pt_val (pe_call G_is_look hr_is_look (by rfl) T.m_is_look T.F_is_look.kp T.B_is_look .nil pass0 (pa_cons (pv 0) pa_nil)))) (pss_one (ps_ret (pe_call G_ascending hr_ascending (by rfl) T.m_ascending T.F_ascending.kp T.B_ascending .nil pass0 (pa_cons (pe_call G_results hr_results (by rfl) T.m_results T.F_results.kp T.B_results .nil pass0 (pa_cons (pv 0) (pa_cons (pv 1) pa_nil))) pa_nil)))) pss_nil)
      (pss_cons (ps_set (i := 3) sc_line_range.nd rfl (Or.inl rfl) (pe_dget hu1 (pv 1) (pe_ix ix_tup (pv 0) pe_int (fun _ _ => rfl)) (fun _ _ => rfl)))
      (pss_cons (ps_if (pt_cmpR op_eqS (pe_ix ix_tup (pv 0) pe_int (fun _ _ => rfl)) pe_str (nomark _)) (pss_one (ps_set (i := 3) sc_line_range.nd rfl (Or.inl rfl) (pe_call G_means hr_means (by rfl) T.m_means T.F_means.kp T.B_means .nil pass0 (pa_cons (pv 3) (pa_cons (pv 2) pa_nil))))) pss_nil)
      (pss_one (ps_ret (pe_call G_ascending hr_ascending (by rfl) T.m_ascending T.F_ascending.kp T.B_ascending .nil pass0 (pa_cons (pe_op op_catL (pe_callTy call_listU (by rfl) T.n_list (by decide +kernel) (pa_cons (pv 3) pa_nil)) (pe_lstU (pa_cons (pe_call G_fraction hr_fraction (by rfl) T.m_fraction T.F_fraction.kp Db_fraction dv_fraction passL (pa_cons (pe_ix ix_tup (pv 0) pe_int (fun _ _ => rfl)) pa_nil)) pa_nil))) pa_nil)))))))), ?_⟩
    have fin : ∀ (r : Rw), (r = .cnt "" "" → False) → isLook r = false → RowAt K H a r → okRw r → needR rg r → (∀ x, memR rg n r x ↔ x ∈ valsR rg r) → (∀ t xs gs H', Same H H' → SqT K H' t xs → Frs K H' xs gs → gs.Pairwise (fun f g => ltF f g = true) → (∀ x, x ∈ gs ↔ memR rg n r x) → (∀ f ∈ gs, okF f) → gs.length ≤ 5000 → Q (.ref t) H') → ∀ H1, Same H H1 → sp_results K [V.ref a, V.ref d] H1 (fun x H1 => sp_asc K 12 [x] H1 Q E0) E0 := by
      intro r _ nl ha ok nd hm k H1 s1
      have lv := vals_len ok hD nd
      have vo := vals_ok ok hrg hD nd
      refine ⟨a, d, r, kvs, rg, rfl, ha.same s1, ok, nl, hD.same s1, hrg, nd, fun t xs H2 s2 h2 f2 => ⟨t, xs, _, rfl, .inl h2, f2, vo, by omega, by omega, fun t2 zs gs H3 s3 h3 f3 srt l3 => ?_⟩⟩
      exact k t2 zs gs H3 (Same.trans s1 (Same.trans s2 s3)) h3 f3 srt.1 (fun x => (srt.2 x).trans (hm x).symm) (fun f hf => vo f ((srt.2 f).mp hf)) (by omega)
    cases r with
    | cnt k1 q1 =>
      obtain ⟨m, h1⟩ := ha
      refine seq_op fun N hN => ?_
      walk_at "rs"
      refine ⟨_, h1, _, rfl, _, rfl, iteTT rfl ?_⟩
      refine ⟨_, rfl, _, _, rfl, rfl, _, rfl, by omega, by omega, ?_⟩
      rw [show ((n : Int) + 1).toNat = n + 1 by omega]
      refine fun D hD => lc_it (g := gName 4) (tt := tYes) (vs := [4]) (walk_range (lo := 0) (n := n + 1)) (fun l G' => Same H G' ∧ ∃ ws, G' D = some (.lst ws) ∧ Frs K G' ws ((cntF n).take l)) ⟨same_upd hD, [], upd_same, .nil⟩ (fun _ _ _ _ => trivial) ?_ ?_
      · rintro l y G1 G2 hl ⟨s1, us, g1, f1⟩ ⟨rfl, rfl⟩
        have el : (cntF n)[l]? = some ((l : Int), 1) := by
          unfold cntF
          rw [List.getElem?_map, List.getElem?_range hl]; rfl
        have ej : (cntF n).take (l + 1) = (cntF n).take l ++ [((l : Int), 1)] := by rw [List.take_succ, el]; rfl
        walk_at "rs"
        simp only [tYes, eq_self, ite_true]
        refine ⟨by decide, fun t G4 s4 n4 e4 => ⟨us, s4 _ _ g1, ?_, fun q o e => ?_, _, upd_same, ?_⟩⟩
        · have := f1.len
          rw [List.length_take] at this
          exact Nat.lt_of_le_of_lt (show us.length ≤ 10 by omega) (by decide)
        · rw [upd_ne (ne_of_none e hD)]; exact s4 _ _ (s1 _ _ e)
        · rw [ej]
          rw [Int.zero_add] at e4
          exact ((f1.same s4).upd (s4 _ _ g1)).app (.cons (seqT_upd (s4 _ _ g1) (.inl (.inl e4))) .nil)
      · rintro G ⟨s1, us, g1, f1⟩
        have lc : (cntF n).length = n + 1 := by unfold cntF; rw [List.length_map, List.length_range]
        rw [← lc, List.take_length] at f1
        refine ⟨D, rfl, us, .inl (.inl g1), fun t H2 s2 n2 e2 => k t us (cntF n) H2 (Same.trans s1 s2) (.inl (.inl e2)) (f1.same s2) (cnt_asc n) (fun x => Iff.rfl) (fun f hf => ?_) (by omega)⟩
        obtain ⟨j, hj, rfl⟩ := List.mem_map.mp hf
        have := List.mem_range.mp hj
        exact (int_ok (o := (j : Int)) (by omega)).le (by decide)
    | be ws =>
      have ha' := ha
      obtain ⟨e, h1, h2⟩ := ha
      refine seq_op fun N hN => ?_
      walk_at "rs"
      refine ⟨_, h1, _, rfl, _, rfl, iteFF (by decide) (hN _ _ ?_)⟩
      clear hN N
      refine seq_op fun N hN => ?_
      walk_at "rs"
      exact ⟨_, ha', ok, fun H1 s1 => iteTT rfl (fin _ (fun e => by cases e) rfl ha' ok nd (fun x => Iff.rfl) k H1 s1)⟩
    | tab ps fs =>
      have ha' := ha
      obtain ⟨e, t, xs, h1, h2, h3, h4⟩ := ha
      refine seq_op fun N hN => ?_
      walk_at "rs"
      refine ⟨_, h1, _, rfl, _, rfl, iteFF (by decide) (hN _ _ ?_)⟩
      clear hN N
      refine seq_op fun N hN => ?_
      walk_at "rs"
      exact ⟨_, ha', ok, fun H1 s1 => iteTT rfl (fin _ (fun e => by cases e) rfl ha' ok nd (fun x => Iff.rfl) k H1 s1)⟩
    | lok z y k1 q1 o =>
      have ha' := ha
      obtain ⟨m, h1⟩ := ha
      have c1 : z ≠ "count" := fun e => by rw [e] at ok; exact absurd ok.1 (by decide)
      refine seq_op fun N hN => ?_
      walk_at "rs"
      refine ⟨_, h1, _, rfl, _, rfl, iteFF c1 (hN _ _ ?_)⟩
      clear hN N
      refine seq_op fun N hN => ?_
      walk_at "rs"
      refine ⟨_, ha', ok, fun H1 s1 => iteFF (by exact Bool.noConfusion) (hN _ _ ?_)⟩
      clear hN N
      have hD1 := hD.same s1
      replace h1 := Same.seqT s1 h1
      replace k : ∀ (t : Addr) (xs : List V) (gs : List Fr) H', Same H1 H' → _ := fun t xs gs H' s' => k t xs gs H' (Same.trans s1 s')
      obtain ⟨pr, hy, hmean⟩ := nd
      obtain ⟨u, e1, e2, e3⟩ := hD1.get hy
      obtain ⟨l1, l2, oky⟩ := hrg y pr hy
      refine cut_seq (fun σ H3 => σ = [some (.ref a), some (.ref d), some (.int n), some (.ref u), none] ∧ H3 = H1) (fun N hN => ?_) ?_
      · walk_at "rs"
        unfold tDGet
        walk_at "rs"
        refine ⟨_, h1, _, rfl, _, .inl ⟨kvs, .inr y, .inl hD1.at_, rfl, e1.symm⟩, hN _ _ ⟨rfl, rfl⟩⟩
      rintro σ H3 ⟨rfl, rfl⟩
      have okO : okF (o, 1) := (int_ok ok.2.2.2.2).le (by decide)
      refine cut_seq (fun σ H4 => ∃ (v : Addr) (xs : List V) (fs : List Fr), σ = [some (.ref a), some (.ref d), some (.int n), some (.ref v), none] ∧ Same H3 H4 ∧ SqT K H4 v xs ∧ Frs K H4 xs fs ∧ (∀ f ∈ fs, okF f) ∧ fs.length ≤ 4000 ∧ ∀ x, memR rg n (.lok z y k1 q1 o) x ↔ x ∈ fs ∨ x = (o, 1)) (fun N hN => ?_) ?_
      · walk_at "rs"
        refine ⟨_, h1, _, rfl, _, rfl, ite2 (fun c => ?_) (fun c => hN _ _ ⟨u, pr.1, pr.2, rfl, Same.refl _, e2, e3.frs, fun f hf => (oky f hf).le (by decide), by rw [← e3.len]; omega, fun x => ?_⟩)⟩
        · obtain ⟨m1, m2⟩ := hmean c
          have hB : ∀ v ∈ ns1 pr.2, v.natAbs ≤ 2 ^ 60 := fun v hv => by
            obtain ⟨f, hf, rfl⟩ := List.mem_map.mp hv
            exact Nat.le_of_lt (oky f hf).2.2.1
          refine ⟨u, pr.1, ns1 pr.2, n, rfl, .inr e2, ns1_of m2 ▸ e3.frs, by unfold ns1; rw [List.length_map]; exact m1, n1, n8, hB, fun t zs gs H5 s5 h5 f5 asc mem l => hN _ _ ⟨t, zs, gs, rfl, s5, h5, f5, fun f hf => mean_ok n8 hB ((mem f).mp hf), l, fun x => ?_⟩⟩
          show (if z = "mean" then MeanOf (ns1 ((rg y).getD ([], [])).2) n x else x ∈ ((rg y).getD ([], [])).2) ∨ x = (o, 1) ↔ _
          rw [if_pos c, hy]
          exact or_congr (mem x).symm Iff.rfl
        · show (if z = "mean" then MeanOf (ns1 ((rg y).getD ([], [])).2) n x else x ∈ ((rg y).getD ([], [])).2) ∨ x = (o, 1) ↔ _
          rw [if_neg c, hy]; rfl
      rintro σ H4 ⟨v, xs, fs, rfl, s4, h4, f4, okfs, lfs, mem⟩
      have h14 := Same.seqT s4 h1
      have lx := f4.len
      walk_at "rs"
      have bo : o.natAbs.log2 < 9000 := logL (a := 64) (Nat.lt_of_le_of_lt ok.2.2.2.2 (by decide)) (by decide) (by decide)
      refine ⟨xs, .inr h4, fun l H5 s5 n5 e5 => ⟨_, Same.seqT s5 h14, _, rfl, o, 1, rfl, bo, by decide, fun _ t H6 s6 n6 e6 => ⟨by decide, fun p H7 s7 n7 e7 => ⟨xs, s7 _ _ (s6 _ _ e5), _, e7, ?_, fun p2 H8 s8 n8' e8 => ⟨p2, _, fs ++ [(o, 1)], rfl, .inl (.inl (.inl e8)), ?_, ?_, ?_, ?_, fun t2 zs gs H9 s9 h9 f9 srt l9 => ?_⟩⟩⟩, fun z => absurd z (by decide)⟩⟩
      · exact Nat.le_trans (show xs.length + 1 ≤ 5000 by omega) (by decide)
      · rw [(fr_one o).1, (fr_one o).2] at e6
        exact (f4.same (Same.trans s5 (Same.trans s6 (Same.trans s7 s8)))).app (.cons (.inl (.inl (s8 _ _ (s7 _ _ e6)))) .nil)
      · intro f hf
        rcases List.mem_append.mp hf with hf | hf
        · exact okfs f hf
        · rw [List.mem_singleton.mp hf]; exact okO
      · rw [List.length_append, List.length_singleton]; omega
      · rw [List.length_append, List.length_singleton]; omega
      · have lgs : gs.length ≤ 5000 := by
          rw [List.length_append, List.length_singleton] at l9; omega
        refine k t2 zs gs H9 (Same.trans s4 (Same.trans s5 (Same.trans s6 (Same.trans s7 (Same.trans s8 s9))))) h9 f9 srt.1 (fun x => ?_) (fun f hf => ?_) lgs
        · rw [srt.2, mem, List.mem_append, List.mem_singleton]
        · rcases List.mem_append.mp ((srt.2 f).mp hf) with hf | hf
          · exact okfs f hf
          · rw [List.mem_singleton.mp hf]; exact okO
end
end LK

set_option Elab.async false
set_option linter.all false
set_option maxRecDepth 100000
namespace LK
open PySem PySem.Spec PyProof.Rows L2
local macro_rules | `(tactic| walk_at "rs") => `(tactic| simp only [cxK, cxNK, tCallZ, tAsg, tOp, rI0, rS0, rB0, rI, rU, tUn, rEq, rNe, rIxL, rIxT, rIxS, rSetL, rSlLU, rSlS, rSlU, rCatL, rCatU, rRepL, rIn, tVar, tC, gName, gSub, tIfS, tTest, tB, tAnd, tOr, tNot, tNotV, tAndV, tOrV, tIf, tCall, tCons, tNil, tCB, tDrop, tRet, tRetN, tNext, tLstU, tTupU, tM0, tM1, tPar, tPar3, tAug, ipI, tBM, tBM0, rAppend, rPop, tBreak, tCont, tChain, tSl, tPart, tNoPart, L2.start, List.map, List.length_cons, List.length_nil, List.replicate, List.cons_append, List.nil_append, List.append_nil, List.getElem?_cons_zero, List.getElem?_cons_succ, List.set_cons_zero, List.set_cons_succ, Option.some.injEq, V.int.injEq, V.ref.injEq, V.str.injEq, V.bl.injEq, exists_eq_left', exists_eq_left, exists_and_left, decide_eq_true_eq, List.cons.injEq, and_true, true_and, scal, Bool.not_eq_true', decide_eq_false_iff_not, Nat.zero_add, Nat.reduceAdd, Nat.reduceSub, reduceCtorEq, false_and, exists_false, false_or, or_false, CPow, CMul, CDiv, Int.reduceToNat, ↓reduceIte, wipe, sw, List.nil_append, List.singleton_append])
local macro_rules | `(tactic| walk_at "st") => `(tactic| (refine seq_op fun N hN => ?_; walk_at "rs"))
local macro_rules | `(tactic| walk_at "sd") => `(tactic| first | assumption | decide | omega)
local macro_rules | `(tactic| walk_at "rd") => `(tactic| repeat (first
  | refine ⟨_, SqL.of (by assumption), ?_⟩ | refine ⟨_, SqL.of upd_same, ?_⟩ | refine ⟨_, .inl (SqL.of (by assumption)), ?_⟩ | refine ⟨_, (by assumption : _ = some (HO.lst _)), ?_⟩ | refine ⟨_, upd_same, ?_⟩
  | refine ⟨_, rfl, ?_⟩ | refine And.intro (by walk_at "sd") ?_))

/-! ### what a line uses -/
def trioR : Rw → Str × Str
  | .cnt k q => (k, q)
  | .lok _ _ k q _ => (k, q)
  | _ => ("", "")
section
variable {P : Program} {w : World} {K : PySem.W.Frag} {mg : Str → Option Value} {base : Heap}
def sp_trio (K : PySem.W.Frag) : Sp := fun vs H Q _ => ∃ (a : Addr) (r : Rw), vs = [.ref a] ∧ RowAt K H a r ∧ okRw r ∧ isLook r = true ∧ ∀ t m H', Same H H' → SqT K H' t [.str (trioR r).1, m, .str (trioR r).2] → Q (.ref t) H'
theorem ok__law_trio (T : Txt w K mg) : FnOk P w K mg base CX0 1 T.a__law_trio T.d__law_trio ["row"] (sp_trio K) := by
  refine T.F__law_trio.ok sc__law_trio (fun vs H Q E h => ?_) (fun cdv A outer s H vs Q E hr h => ?_)
  · obtain ⟨a, r, rfl, _⟩ := h
    rfl
  · obtain ⟨a, r, rfl, ha, ok, lk, k⟩ := h
    refine ⟨_, (pss_one (ps_ret (pe_ifExp (pt_cmpR op_eqS (pe_ix ix_tup (pv 0) pe_int (fun _ _ => rfl)) pe_str (nomark _)) (pe_slice sl_tupU (pv 0) (po_some pe_int) (po_some pe_int)) (pe_slice sl_tupU (pv 0) (po_some pe_int) (po_some pe_int))))), ?_⟩
    walk_at "rs"
    cases r with
    | be ws => cases lk
    | tab ps fs => cases lk
    | cnt k1 q =>
      obtain ⟨m, h1⟩ := ha
      exact ⟨_, h1, _, rfl, _, rfl, iteTT rfl ⟨_, h1, fun t H' s' h' => k t m H' s' h'⟩⟩
    | lok z y k1 q o =>
      obtain ⟨m, h1⟩ := ha
      have c1 : z ≠ "count" := fun e => by rw [e] at ok; exact absurd ok.1 (by decide)
      exact ⟨_, h1, _, rfl, _, rfl, iteFF c1 ⟨_, h1, fun t H' s' h' => k t m H' s' h'⟩⟩
theorem ok__law_uses (T : Txt w K mg) : FnOk P w K mg base CX0 3 T.a__law_uses T.d__law_uses ["row"] (fun vs H Q _ => ∃ (a : Addr) (r : Rw), vs = [.ref a] ∧ RowAt K H a r ∧ okRw r ∧ ∀ t H', Same H H' → H t = none → H' t = some (.lst ((usesR r).map V.str)) → Q (.ref t) H') := by
  refine T.F__law_uses.ok sc__law_uses (fun vs H Q E h => ?_) (fun cdv A outer s H vs Q E hr h => ?_)
  · obtain ⟨a, r, rfl, _⟩ := h
    rfl
  · obtain ⟨a, r, rfl, ha, ok, k⟩ := h
    have hr__law_once : Room 1 _ := hr.mono (by decide)
    have G__law_once := ok__law_once (P := P) (base := base) T
    have hr__law_named : Room 2 _ := hr.mono (by decide)
    have G__law_named := ok__law_named (P := P) (base := base) T
    have hr__law_trio : Room 1 _ := hr.mono (by decide)
    have G__law_trio := ok__law_trio (P := P) (base := base) T
    refine ⟨_, (pss_cons (ps_if (pt_cmpR op_eqS (pe_ix ix_tup (pv 0) pe_int (fun _ _ => rfl)) pe_str (nomark _)) (pss_one (ps_ret (pe_call G__law_named hr__law_named (by rfl) T.m__law_named T.F__law_named.kp T.B__law_named .nil pass0 (pa_cons (pe_ix ix_tup (pv 0) pe_int (fun _ _ => rfl)) pa_nil)))) pss_nil)
      (pss_cons (ps_if (pt_cmpR op_eqS (pe_ix ix_tup (pv 0) pe_int (fun _ _ => rfl)) pe_str (nomark _)) (pss_one (ps_ret (pe_call G__law_once hr__law_once (by rfl) T.m__law_once T.F__law_once.kp T.B__law_once .nil pass0 (pa_cons (pe_ix ix_tup (pv 0) pe_int (fun _ _ => rfl)) pa_nil)))) pss_nil)
      (pss_cons (ps_set (i := 1) sc__law_uses.nd rfl (Or.inl rfl) (pe_call G__law_trio hr__law_trio (by rfl) T.m__law_trio T.F__law_trio.kp T.B__law_trio .nil pass0 (pa_cons (pv 0) pa_nil)))
      (pss_one (ps_ret (pe_call G__law_once hr__law_once (by rfl) T.m__law_once T.F__law_once.kp T.B__law_once .nil pass0 (pa_cons (pe_ifExp (pt_cmpR op_eqS (pe_ix ix_tup (pv 0) pe_int (fun _ _ => rfl)) pe_str (nomark _)) (pe_lstU (pa_cons (pe_ix ix_tup (pv 1) pe_int (fun _ _ => rfl)) (pa_cons (pe_ix ix_tup (pv 1) pe_int (fun _ _ => rfl)) pa_nil))) (pe_lstU (pa_cons (pe_ix ix_tup (pv 0) pe_int (fun _ _ => rfl)) (pa_cons (pe_ix ix_tup (pv 1) pe_int (fun _ _ => rfl)) (pa_cons (pe_ix ix_tup (pv 1) pe_int (fun _ _ => rfl)) pa_nil))))) pa_nil))))))), ?_⟩
    cases r with
    | be ws =>
      obtain ⟨e, h1, h2⟩ := ha
      refine seq_op fun N hN => ?_
      walk_at "rs"
      exact ⟨_, h1, _, rfl, _, rfl, iteTT rfl ⟨_, h1, _, rfl, e, rfl, ws, h2, ok.1, ok.2.1, k⟩⟩
    | tab ps fs =>
      obtain ⟨e, t, xs, h1, h2, h3, h4⟩ := ha
      refine seq_op fun N hN => ?_
      walk_at "rs"
      refine ⟨_, h1, _, rfl, _, rfl, iteFF (by decide) (hN _ _ ?_)⟩
      clear hN N
      refine seq_op fun N hN => ?_
      walk_at "rs"
      exact ⟨_, h1, _, rfl, _, rfl, iteTT rfl ⟨_, h1, _, rfl, e, rfl, ps, .inr h2, by have := ok.2.1; omega, k⟩⟩
    | cnt k1 q =>
      have ha' := ha
      obtain ⟨m, h1⟩ := ha
      refine seq_op fun N hN => ?_
      walk_at "rs"
      refine ⟨_, h1, _, rfl, _, rfl, iteFF (by decide) (hN _ _ ?_)⟩
      clear hN N
      refine seq_op fun N hN => ?_
      walk_at "rs"
      refine ⟨_, h1, _, rfl, _, rfl, iteFF (by decide) (hN _ _ ?_)⟩
      clear hN N
      refine seq_op fun N hN => ?_
      walk_at "rs"
      refine ⟨_, _, rfl, ha', ok, rfl, fun t m2 H1 s1 h3 => hN _ _ ?_⟩
      clear hN N
      walk_at "rs"
      exact ⟨_, Same.seqT s1 h1, _, rfl, _, rfl, iteTT rfl ⟨_, h3, _, rfl, _, h3, _, rfl, by decide, fun p H2 s2 n2 e2 => ⟨[k1, q], .inl (.inl (.inl e2)), Nat.le_of_ble_eq_true rfl, fun t2 H4 s4 n4 e4 => k t2 H4 (Same.trans s1 (Same.trans s2 s4)) (Same.dom (Same.trans s1 s2) _ n4) e4⟩⟩⟩
    | lok z y k1 q o =>
      have ha' := ha
      obtain ⟨m, h1⟩ := ha
      have zz : ∀ z ∈ lookL, z ≠ "be" ∧ z ≠ "table" ∧ z ≠ "count" := by decide +kernel
      obtain ⟨c1, c2, c3⟩ := zz z ok.1
      refine seq_op fun N hN => ?_
      walk_at "rs"
      refine ⟨_, h1, _, rfl, _, rfl, iteFF c1 (hN _ _ ?_)⟩
      clear hN N
      refine seq_op fun N hN => ?_
      walk_at "rs"
      refine ⟨_, h1, _, rfl, _, rfl, iteFF c2 (hN _ _ ?_)⟩
      clear hN N
      refine seq_op fun N hN => ?_
      walk_at "rs"
      refine ⟨_, _, rfl, ha', ok, rfl, fun t m2 H1 s1 h3 => hN _ _ ?_⟩
      clear hN N
      walk_at "rs"
      exact ⟨_, Same.seqT s1 h1, _, rfl, _, rfl, iteFF c3 ⟨_, Same.seqT s1 h1, _, rfl, _, h3, _, rfl, _, h3, _, rfl, by decide, fun p H2 s2 n2 e2 => ⟨[y, k1, q], .inl (.inl (.inl e2)), Nat.le_of_ble_eq_true rfl, fun t2 H4 s4 n4 e4 => k t2 H4 (Same.trans s1 (Same.trans s2 s4)) (Same.dom (Same.trans s1 s2) _ n4) e4⟩⟩⟩
end
end LK

set_option Elab.async false
set_option linter.all false
set_option maxRecDepth 100000
namespace LK
open PySem PySem.Spec PyProof.Rows L2
local macro_rules | `(tactic| walk_at "rs") => `(tactic| simp only [cxK, cxNK, tCallZ, tAsg, tOp, rI0, rS0, rB0, rI, rU, tUn, rEq, rNe, rIxL, rIxT, rIxS, rSetL, rSlLU, rSlS, rSlU, rCatL, rCatU, rRepL, rIn, tVar, tC, gName, gSub, tIfS, tTest, tB, tAnd, tOr, tNot, tNotV, tAndV, tOrV, tIf, tCall, tCons, tNil, tCB, tDrop, tRet, tRetN, tNext, tLstU, tTupU, tM0, tM1, tPar, tPar3, tAug, ipI, tBM, tBM0, rAppend, rPop, tBreak, tCont, tChain, tSl, tPart, tNoPart, L2.start, List.map, List.length_cons, List.length_nil, List.replicate, List.cons_append, List.nil_append, List.append_nil, List.getElem?_cons_zero, List.getElem?_cons_succ, List.set_cons_zero, List.set_cons_succ, Option.some.injEq, V.int.injEq, V.ref.injEq, V.str.injEq, V.bl.injEq, exists_eq_left', exists_eq_left, exists_and_left, decide_eq_true_eq, List.cons.injEq, and_true, true_and, scal, Bool.not_eq_true', decide_eq_false_iff_not, Nat.zero_add, Nat.reduceAdd, Nat.reduceSub, reduceCtorEq, false_and, exists_false, false_or, or_false, CPow, CMul, CDiv, Int.reduceToNat, ↓reduceIte, wipe, sw, List.nil_append, List.singleton_append])
local macro_rules | `(tactic| walk_at "st") => `(tactic| (refine seq_op fun N hN => ?_; walk_at "rs"))
local macro_rules | `(tactic| walk_at "sd") => `(tactic| first | assumption | decide | omega)
local macro_rules | `(tactic| walk_at "rd") => `(tactic| repeat (first
  | refine ⟨_, SqL.of (by assumption), ?_⟩ | refine ⟨_, SqL.of upd_same, ?_⟩ | refine ⟨_, .inl (SqL.of (by assumption)), ?_⟩ | refine ⟨_, (by assumption : _ = some (HO.lst _)), ?_⟩ | refine ⟨_, upd_same, ?_⟩
  | refine ⟨_, rfl, ?_⟩ | refine And.intro (by walk_at "sd") ?_))

def growP (many : Nat) (v : Int) (p : Nat × Int) : List (Nat × Int) := (List.range (many - p.1 + 1)).map fun k => (p.1 + k, p.2 + k * v)
theorem cntP_snoc (many : Nat) : ∀ (ns : List Int) (v : Int) (acc : List (Nat × Int)), cntP many (ns ++ [v]) acc = (cntP many ns acc).flatMap (growP many v)
  | [], v, acc => rfl
  | u :: ns, v, acc => cntP_snoc many ns v _
def toF (p : Nat × Int) : Fr := ((p.1 : Int), p.2)
section
variable {P : Program} {w : World} {K : PySem.W.Frag} {mg : Str → Option Value} {base : Heap}
def sp_every_mean (K : PySem.W.Frag) : Sp := fun vs H Q _ => ∃ (a : Addr) (xs : List V) (ns : List Int) (n : Nat), vs = [.ref a, .int n] ∧ (SqL K H a xs ∨ SqT K H a xs) ∧ Frs K H xs (ns.map fun v => (v, 1)) ∧ ns.length ≤ 4 ∧ n ≤ 8 ∧ (∀ v ∈ ns, v.natAbs ≤ 2 ^ 60) ∧
  ∀ (t : Addr) (zs : List V) (fs : List Fr) H', Same H H' → H t = none → H' t = some (.lst zs) → FrsT H' zs fs → (∀ f, f ∈ fs ↔ MeanOf ns n f) → fs.length ≤ 495 → Q (.ref t) H'
theorem ok__law_every_mean (T : Txt w K mg) : FnOk P w K mg base CX0 2 T.a__law_every_mean T.d__law_every_mean ["span", "many"] (sp_every_mean K) := by
  refine T.F__law_every_mean.ok sc__law_every_mean (fun vs H Q E h => ?_) (fun cdv A outer s H vs Q E hr h => ?_)
  · obtain ⟨a, xs, ns, n, rfl, _⟩ := h
    rfl
  · obtain ⟨a, xs, ns, n, rfl, ha, hx, hl, n8, hB, k⟩ := h
    have hr__law_low : Room 1 _ := hr
    have G__law_low := ok__law_low (P := P) (base := base) T
    refine ⟨_, (pss_cons (ps_set (i := 2) sc__law_every_mean.nd rfl (Or.inl rfl) (pe_lstU (pa_cons (pe_tupU (pa_cons pe_int (pa_cons pe_int pa_nil))) pa_nil)))
      (pss_cons (ps_for PassesOwn.never rfl (pi_lt (pv 0)) (pg_name (i := 3) sc__law_every_mean.nd rfl (Or.inr rfl)) (pss_cons (ps_set (i := 4) sc__law_every_mean.nd rfl (Or.inl rfl) (pe_lstU pa_nil))
      (pss_cons (ps_for PassesOwn.never rfl (pi_list (pv 2)) (pg_name (i := 5) sc__law_every_mean.nd rfl (Or.inr rfl)) (pss_one (ps_set (i := 4) sc__law_every_mean.nd rfl (Or.inl rfl) (pe_op op_catL (pv 4) (pe_lc (own := [("k", 6)]) (g := gName 6) (tt := tYes) rfl sc__law_every_mean.nd (pi_range1 (by rfl) T.n_range (pa_cons (pe_op op_add (pe_op op_sub (pv 1) (pe_ix ix_tup (pv 5) pe_int (fun _ _ => rfl))) pe_int) pa_nil)) (blkOk_by (own := [("k", 6)]) (N := N__law_every_mean) (sc := defScope s__law_every_mean) (by decide +kernel)) (fun _ _ _ _ _ => pg_name (i := 6) sc__law_every_mean.nd rfl (Or.inl rfl)) (fun _ _ _ _ _ => pts_nil) (fun _ _ _ _ _ => (pe_tupU (pa_cons (pe_op op_add (pe_ix (ix_tupK (K := K) rfl) (pv 5) pe_int (fun _ _ => rfl)) (pv 6)) (pa_cons (pe_op op_add (pe_ix (ix_tupK (K := K) rfl) (pv 5) pe_int (fun _ _ => rfl)) (pe_op op_mul (pv 6) (pe_ix (ix_tupK (K := K) rfl) (pv 3) pe_int (fun _ _ => rfl)))) pa_nil)))))))))
      (pss_one (ps_set (i := 2) sc__law_every_mean.nd rfl (Or.inl rfl) (pv 4))))))
      (pss_one (ps_ret (pe_lc (own := [("pair", 5)]) (g := gName 5) (tt := _) rfl sc__law_every_mean.nd (pi_list (pv 2)) (blkOk_by (own := [("pair", 5)]) (N := N__law_every_mean) (sc := defScope s__law_every_mean) (by decide +kernel)) (fun _ _ _ _ _ => pg_name (i := 5) sc__law_every_mean.nd rfl (Or.inl rfl)) (fun _ _ _ _ _ => pts_one (pt_cmpR op_gt (pe_ix (ix_tupK (K := K) rfl) (pv 5) pe_int (fun _ _ => rfl)) pe_int (nomark _))) (fun _ _ _ _ _ => (pe_call G__law_low hr__law_low (by rfl) T.m__law_low T.F__law_low.kp T.B__law_low .nil pass0 (pa_cons (pe_ix (ix_tupK (K := K) rfl) (pv 5) pe_int (fun _ _ => rfl)) (pa_cons (pe_ix (ix_tupK (K := K) rfl) (pv 5) pe_int (fun _ _ => rfl)) pa_nil))))))))), ?_⟩
    refine seq_op fun N hN => ?_
    walk_at "rs"
    refine ⟨by decide, fun p0 H0 s0 d0 e0 => ⟨by decide, fun p1 H1 s1 d1 e1 => hN _ _ ?_⟩⟩
    clear hN N
    have sH1 := Same.trans s0 s1
    have small : ∀ i, (cntP n (ns.take i) [(0, 0)]).length ≤ 495 := fun i => cntP_len (by rw [List.length_take]; omega) n8
    have lx := hx.len
    rw [List.length_map] at lx
    refine cut_seq (fun σ G => ∃ (p : Addr) (ts : List V) (x3 x4 x5 x6 : Option V), σ = [some (.ref a), some (.int n), some (.ref p), x3, x4, x5, x6] ∧ Same H G ∧ G p = some (.lst ts) ∧ FrsT G ts ((cntP n ns [(0, 0)]).map toF)) (fun N hN => ?_) ?_
    · refine for_lt rfl (ha.imp (Same.seq sH1) (Same.seqT sH1)) (fun i σ G => ∃ (p : Addr) (ts : List V) (x3 x4 x5 x6 : Option V), σ = [some (.ref a), some (.int n), some (.ref p), x3, x4, x5, x6] ∧ Same H1 G ∧ G p = some (.lst ts) ∧ FrsT G ts ((cntP n (ns.take i) [(0, 0)]).map toF))
        ⟨p1, [.ref p0], none, none, none, none, rfl, Same.refl _, e1, .cons (s1 _ _ e0) .nil⟩ (fun i σ' G _ ⟨_, _, _, _, _, _, _, h, _⟩ => h) ?_ ?_
      · rintro i y σ G hy ⟨p, ts, x3, x4, x5, x6, rfl, sg, gp, hf⟩
        obtain ⟨e, f, rfl, hfr, he⟩ := (hx.same (Same.trans sH1 sg)).get' hy
        rw [List.getElem?_map] at hfr
        obtain ⟨v, hv, rfl⟩ := Option.map_eq_some_iff.mp hfr
        have ev : ns.take (i + 1) = ns.take i ++ [v] := by rw [List.take_succ, hv]; rfl
        have tot := small (i + 1)
        have bv := hB v (List.mem_of_getElem? hv)
        rw [ev, cntP_snoc] at tot ⊢
        have sm := small i
        have cb : ∀ q ∈ cntP n (ns.take i) [(0, 0)], q.1 ≤ n := fun q hq => (cnt_sum.mp (show (q.1, q.2) ∈ _ from hq)).1
        generalize cntP n (ns.take i) [(0, 0)] = L at *
        refine seq_op fun N2 hN2 => ?_
        walk_at "rs"
        refine ⟨by decide, fun D0 G0 sD nD eD => hN2 _ _ ?_⟩
        clear hN2 N2
        have he0 := Same.seqT sD he
        refine cut_seq (fun σ G' => ∃ (D : Addr) (us : List V) (x5 x6 : Option V), σ = [some (.ref a), some (.int n), some (.ref p), some (.ref e), some (.ref D), x5, x6] ∧ Same G G' ∧ G' D = some (.lst us) ∧ FrsT G' us ((L.flatMap (growP n v)).map toF)) (fun N2 hN2 => ?_) ?_
        · refine ⟨_, rfl, p, rfl, ⟨ts, .inl (.inl (sD _ _ gp))⟩, for_list (K := K) (a := p) (xs := ts) (fun j σ G' => ∃ (D : Addr) (us : List V) (x5 x6 : Option V), σ = [some (.ref a), some (.int n), some (.ref p), some (.ref e), some (.ref D), x5, x6] ∧ Same G0 G' ∧ G' D = some (.lst us) ∧ FrsT G' us (((L.take j).flatMap (growP n v)).map toF)) ⟨D0, [], x5, x6, rfl, Same.refl _, eD, .nil⟩ (fun j σ' G' _ ⟨_, _, _, _, _, h, _⟩ => .inl (.inl (h _ _ (sD _ _ gp)))) ?_ ?_⟩
          · rintro j y σ G2 hy2 ⟨D, us, x5, x6, rfl, s2, g2, f2⟩
            obtain ⟨c, f, rfl, hfr2, hc⟩ := ((hf.same sD).same s2).get' hy2
            rw [List.getElem?_map] at hfr2
            obtain ⟨q, hq, rfl⟩ := Option.map_eq_some_iff.mp hfr2
            have eq : L.take (j + 1) = L.take j ++ [q] := by rw [List.take_succ, hq]; rfl
            have bq := cb q (List.mem_of_getElem? hq)
            have hcK : Pr K G2 c q.1 q.2 := hc.pr
            walk_at "rs"
            have lg : us.length + (growP n v q).length ≤ 495 := by
              have e1 := f2.len
              rw [List.length_map] at e1
              have e2 : ((L.take (j + 1)).flatMap (growP n v)).length ≤ (L.flatMap (growP n v)).length := by
                conv => rhs; rw [← List.take_append_drop (j + 1) L, List.flatMap_append, List.length_append]
                exact Nat.le_add_right _ _
              rw [eq, List.flatMap_append, List.length_append] at e2
              simp only [List.flatMap_cons, List.flatMap_nil, List.append_nil] at e2
              omega
            have en : ((n : Int) - (q.1 : Int) + 1).toNat = n - q.1 + 1 := by omega
            refine ⟨_, rfl, _, rfl, c, _, 0, _, rfl, rfl, hcK, rfl, _, _, rfl, rfl, _, _, rfl, rfl, _, rfl, by omega, by omega, fun D2 hD2 => ?_⟩
            rw [en]
            refine lc_it (g := gName 6) (tt := tYes) (vs := [6]) (walk_range (lo := 0) (n := n - q.1 + 1)) (fun l G' => Same G2 G' ∧ ∃ ws, G' D2 = some (.lst ws) ∧ FrsT G' ws (((List.range l).map fun k => (q.1 + k, q.2 + k * v)).map toF)) ⟨same_upd hD2, [], upd_same, .nil⟩ (fun _ _ _ _ => trivial) ?_ ?_
            · rintro l y G3 G4 hl2 ⟨s3, ws, g3, f3⟩ ⟨rfl, rfl⟩
              have hc3 : Pr K G4 c q.1 q.2 := Same.seqT s3 hcK
              have he3 : Pr K G4 e v 1 := Same.seqT (Same.trans s2 s3) he0
              have lw := f3.len
              rw [List.length_map, List.length_map, List.length_range] at lw
              have er : (List.range (l + 1)).map (fun k => (q.1 + k, q.2 + (k : Int) * v)) = (List.range l).map (fun k => (q.1 + k, q.2 + (k : Int) * v)) ++ [(q.1 + l, q.2 + (l : Int) * v)] := by rw [List.range_succ, List.map_append]; rfl
              rw [er]
              refine ⟨rfl, ?_⟩
              simp only [tYes, eq_self, ite_true]
              walk_at "rs"
              refine ⟨_, hc3, _, rfl, _, rfl, _, hc3, _, rfl, _, he3, _, rfl, _, rfl, .inl ⟨by omega, by omega⟩, _, rfl, by decide, fun t G5 s5 n5 e5 => ⟨ws, s5 _ _ g3, Nat.lt_of_le_of_lt (show ws.length ≤ 500 by omega) (by decide), fun b o e => ?_, _, upd_same, ?_⟩⟩
              · rw [upd_ne (ne_of_none e hD2)]; exact s5 _ _ (s3 _ _ e)
              · rw [List.map_append]
                refine ((f3.same s5).upd (s5 _ _ g3)).app (.cons (PrT.upd (s5 _ _ g3) ?_) .nil)
                unfold PrT; rw [e5]
                show some (HO.tup [V.int ((q.1 : Int) + (0 + (l : Int))), V.int (q.2 + (0 + (l : Int)) * v)]) = some (HO.tup [V.int ((q.1 + l : Nat) : Int), V.int (q.2 + (l : Int) * v)])
                rw [Int.zero_add, Int.natCast_add]
            · rintro G3 ⟨s3, ws, g3, f3⟩
              refine ⟨D2, rfl, us, s3 _ _ g2, ws, g3, ?_, fun D3 G4 s4 n4 e4 => ⟨D3, _, _, _, ⟨rfl, rfl, rfl⟩, Same.trans s2 (Same.trans s3 s4), e4, ?_⟩⟩
              · have := f3.len
                rw [List.length_map] at this
                have e : ((List.range (n - q.1 + 1)).map fun k => (q.1 + k, q.2 + (k : Int) * v)).length = (growP n v q).length := rfl
                exact Nat.le_trans (show us.length + ws.length ≤ 495 by omega) (by decide)
              · rw [eq, List.flatMap_append, List.map_append]
                simp only [List.flatMap_cons, List.flatMap_nil, List.append_nil]
                exact (f2.same (Same.trans s3 s4)).app (f3.same s4)
          · rintro σ G2 ⟨D, us, x5, x6, rfl, s2, g2, f2⟩
            have lt := hf.len
            rw [List.length_map] at lt
            rw [lt, List.take_length] at f2
            exact hN2 _ _ ⟨D, us, x5, x6, rfl, Same.trans sD s2, g2, f2⟩
        · rintro σ G2 ⟨D, us, x5, x6, rfl, s2, g2, f2⟩
          walk_at "rs"
          exact ⟨D, us, _, _, _, _, ⟨rfl, rfl, rfl, rfl, rfl⟩, Same.trans sg s2, g2, f2⟩
      · rintro σ G ⟨p, ts, x3, x4, x5, x6, rfl, sg, gp, hf⟩
        rw [lx, List.take_length] at hf
        exact hN _ _ ⟨p, ts, x3, x4, x5, x6, rfl, Same.trans sH1 sg, gp, hf⟩
    · rintro σ G ⟨p, ts, x3, x4, x5, x6, rfl, sg, gp, hf⟩
      walk_at "rs"
      have sm := small ns.length
      rw [List.take_length] at sm
      refine ⟨_, rfl, p, rfl, ⟨ts, .inl (.inl gp)⟩, fun D hD => ?_⟩
      refine lc_it (g := gName 5) (vs := [5]) (walk_list (K := K) (a := p) (xs := ts)) (fun j G' => Same G G' ∧ ∃ ws, G' D = some (.lst ws) ∧ FrsT G' ws ((((cntP n ns [(0, 0)]).take j).filter fun p => decide (0 < p.1)).map fun p => lowF p.2 p.1)) ⟨same_upd hD, [], upd_same, .nil⟩ (fun j G' _ h => .inl (.inl (h.1 _ _ gp))) ?_ ?_
      · rintro j y G1 G2 hj ⟨s1', ws, g1, f1⟩ ⟨rfl, hy⟩
        obtain ⟨c, f, rfl, hfr, hc⟩ := (hf.same s1').get' hy
        rw [List.getElem?_map] at hfr
        obtain ⟨q, hq, rfl⟩ := Option.map_eq_some_iff.mp hfr
        have eq : (cntP n ns [(0, 0)]).take (j + 1) = (cntP n ns [(0, 0)]).take j ++ [q] := by rw [List.take_succ, hq]; rfl
        have hcK : Pr K G2 c q.1 q.2 := hc.pr
        have bq := cnt_sum.mp (show (q.1, q.2) ∈ _ from List.mem_of_getElem? hq)
        have bk := bq.2.bound hB
        have b3 : q.1 * 2 ^ 60 ≤ 8 * 2 ^ 60 := Nat.mul_le_mul_right _ (by omega)
        rw [eq, List.filter_append, List.map_append]
        walk_at "rs"
        refine ⟨_, hcK, _, rfl, _, rfl, ite2 (fun c0 => ?_) (fun c0 => ?_)⟩
        · have ef : [q].filter (fun p => decide (0 < p.1)) = [q] := by rw [List.filter_cons_of_pos (by simpa using c0)]; rfl
          rw [ef]
          refine ⟨_, hcK, _, rfl, _, hcK, _, rfl, _, _, ⟨rfl, rfl⟩, by omega, pow_le (a := 64) (by omega) (by decide), pow_le (a := 64) (by omega) (by decide), fun t G3 s3 n3 e3 => ⟨ws, s3 _ _ g1, ?_, fun b o e => ?_, _, upd_same, ((f1.same s3).upd (s3 _ _ g1)).app (.cons (PrT.upd (s3 _ _ g1) e3) .nil)⟩⟩
          · have e1 := f1.len
            rw [List.length_map] at e1
            have e2 := List.length_filter_le (fun p : Nat × Int => decide (0 < p.1)) ((cntP n ns [(0, 0)]).take j)
            rw [List.length_take] at e2
            exact Nat.lt_of_le_of_lt (show ws.length ≤ 495 by omega) (by decide)
          · rw [upd_ne (ne_of_none e hD)]; exact s3 _ _ (s1' _ _ e)
        · have ef : [q].filter (fun p => decide (0 < p.1)) = [] := by rw [List.filter_cons_of_neg (by simpa using c0)]; rfl
          rw [ef, List.map_nil, List.append_nil]
          exact ⟨s1', ws, g1, f1⟩
      · rintro G1 ⟨s1', ws, g1, f1⟩
        rw [show ts.length = (cntP n ns [(0, 0)]).length by rw [hf.len, List.length_map], List.take_length] at f1
        refine k D ws _ G1 (Same.trans sg s1') (Same.dom sg D hD) g1 f1 (fun f => ?_) ?_
        · rw [List.mem_map]
          constructor
          · rintro ⟨q, hq, rfl⟩
            obtain ⟨h1, h2⟩ := List.mem_filter.mp hq
            have := cnt_sum.mp (show (q.1, q.2) ∈ _ from h1)
            have h2 : 0 < q.1 := of_decide_eq_true h2
            exact ⟨q.1, q.2, h2, this.1, this.2, rfl⟩
          · rintro ⟨m, k, h1, h2, h3, rfl⟩
            exact ⟨(m, k), List.mem_filter.mpr ⟨cnt_sum.mpr ⟨h2, h3⟩, decide_eq_true h1⟩, rfl⟩
        · rw [List.length_map]
          exact Nat.le_trans (List.length_filter_le _ _) sm
end
end LK

set_option Elab.async false
set_option linter.all false
set_option maxRecDepth 100000
namespace LK
open PySem PySem.Spec PyProof.Rows L2
local macro_rules | `(tactic| walk_at "rs") => `(tactic| simp only [cxK, cxNK, tCallZ, tAsg, tOp, rI0, rS0, rB0, rI, rU, tUn, rEq, rNe, rIxL, rIxT, rIxS, rSetL, rSlLU, rSlS, rSlU, rCatL, rCatU, rRepL, rIn, tVar, tC, gName, gSub, tIfS, tTest, tB, tAnd, tOr, tNot, tNotV, tAndV, tOrV, tIf, tCall, tCons, tNil, tCB, tDrop, tRet, tRetN, tNext, tLstU, tTupU, tM0, tM1, tPar, tPar3, tAug, ipI, tBM, tBM0, rAppend, rPop, tBreak, tCont, tChain, tSl, tPart, tNoPart, L2.start, List.map, List.length_cons, List.length_nil, List.replicate, List.cons_append, List.nil_append, List.append_nil, List.getElem?_cons_zero, List.getElem?_cons_succ, List.set_cons_zero, List.set_cons_succ, Option.some.injEq, V.int.injEq, V.ref.injEq, V.str.injEq, V.bl.injEq, exists_eq_left', exists_eq_left, exists_and_left, decide_eq_true_eq, List.cons.injEq, and_true, true_and, scal, Bool.not_eq_true', decide_eq_false_iff_not, Nat.zero_add, Nat.reduceAdd, Nat.reduceSub, reduceCtorEq, false_and, exists_false, false_or, or_false, CPow, CMul, CDiv, Int.reduceToNat, ↓reduceIte, wipe, sw, List.nil_append, List.singleton_append])
local macro_rules | `(tactic| walk_at "st") => `(tactic| (refine seq_op fun N hN => ?_; walk_at "rs"))
local macro_rules | `(tactic| walk_at "sd") => `(tactic| first | assumption | decide | omega)
local macro_rules | `(tactic| walk_at "rd") => `(tactic| repeat (first
  | refine ⟨_, SqL.of (by assumption), ?_⟩ | refine ⟨_, SqL.of upd_same, ?_⟩ | refine ⟨_, .inl (SqL.of (by assumption)), ?_⟩ | refine ⟨_, (by assumption : _ = some (HO.lst _)), ?_⟩ | refine ⟨_, upd_same, ?_⟩
  | refine ⟨_, rfl, ?_⟩ | refine And.intro (by walk_at "sd") ?_))

open LamX (Tabs TabS ExtN TabB)
/-! ### the range of a line, as the law has it -/
section
variable {P : Program} {w : World} {K : PySem.W.Frag} {mg : Str → Option Value} {base : Heap}
def sp_span (K : PySem.W.Frag) (TL : List (Addr × Str)) : Sp := fun vs H Q _ => ∃ (a d : Addr) (n : Nat) (r : Rw) (kvs : List (Key × V)) (rg : Str → Option (List V × List Fr)), vs = [.ref a, .ref d, .int n] ∧ Tabs TL H ∧ RowAt K H a r ∧ okRw r ∧ RD K H d kvs rg ∧ okRg rg ∧ needR rg r ∧ 1 ≤ n ∧ n ≤ 8 ∧
  ∀ t zs gs H', ExtN H H' → Tabs TL H' → SqT K H' t zs → FrsT H' zs gs → gs.Pairwise (fun f g => ltF f g = true) → (∀ x, x ∈ gs ↔ memR rg n r x) → Q (.ref t) H'
theorem ok__law_span (T : Txt w K mg) (hB : ∀ p ∈ T.cs, TabB base mg p.1 p.2) : FnOk P w K mg base CX0 5 T.a__law_span T.d__law_span ["row", "spans", "many"] (sp_span K T.TL) := by
  refine T.F__law_span.ok sc__law_span (fun vs H Q E h => ?_) (fun cdv A outer s H vs Q E hr h => ?_)
  · obtain ⟨a, d, n, r, kvs, rg, rfl, _⟩ := h
    rfl
  · obtain ⟨a, d, n, r, kvs, rg, rfl, tb, ha, ok, hD, hrg, nd, n1, n8, k⟩ := h
    have hr__law_named : Room 2 _ := hr.mono (by decide)
    have G__law_named := ok__law_named (P := P) (base := base) T
    have hr__law_every_row : Room 1 _ := hr.mono (by decide)
    have G__law_every_row := ok__law_every_row (P := P) (base := base) T
    have hr__law_worth : Room 4 _ := hr.mono (by decide)
    have G__law_worth := ok__law_worth (P := P) (base := base) T
    have hr__law_rising : Room 4 _ := hr.mono (by decide)
    have G__law_rising := ok__law_rising (P := P) (base := base) T hB
    have hr__law_every_mean : Room 2 _ := hr.mono (by decide)
    have G__law_every_mean := ok__law_every_mean (P := P) (base := base) T
    have hu1 : (A.deeper (envOfC "_law_span" (defScope s__law_span) s.heap.objs.size T.a__law_span cdv)).units + 1 < cLine := Nat.lt_of_le_of_lt (Nat.add_le_add_left (by decide : 1 ≤ 64) _) hr.units
    refine ⟨_, (pss_cons (ps_if (pt_cmpR op_eqS (pe_ix ix_tup (pv 0) pe_int (fun _ _ => rfl)) pe_str (nomark _)) (pss_cons (ps_set (i := 3) sc__law_span.nd rfl (Or.inr rfl) (pe_call G__law_named hr__law_named (by rfl) T.m__law_named T.F__law_named.kp T.B__law_named .nil pass0 (pa_cons (pe_ix ix_tup (pv 0) pe_int (fun _ _ => rfl)) pa_nil)))
      (pss_cons (ps_set (i := 4) sc__law_span.nd rfl (Or.inl rfl) (pe_call G__law_every_row hr__law_every_row (by rfl) T.m__law_every_row T.F__law_every_row.kp T.B__law_every_row .nil pass0 (pa_cons (pe_lc (own := [("part", 5)]) (g := gName 5) (tt := tYes) rfl sc__law_span.nd (pi_list (pv 3)) (blkOk_by (own := [("part", 5)]) (N := N__law_span) (sc := defScope s__law_span) (by decide +kernel)) (fun _ _ _ _ _ => pg_name (i := 5) sc__law_span.nd rfl (Or.inl rfl)) (fun _ _ _ _ _ => pts_nil) (fun _ _ _ _ _ => (pe_dget hu1 (pv 1) (pv 5) (fun _ _ => rfl)))) pa_nil)))
      (pss_one (ps_ret (pe_call G__law_rising hr__law_rising (by rfl) T.m__law_rising T.F__law_rising.kp T.B__law_rising .nil pass0 (pa_cons (pe_lc (own := [("one", 6)]) (g := gName 6) (tt := tYes) rfl sc__law_span.nd (pi_list (pv 4)) (blkOk_by (own := [("one", 6)]) (N := N__law_span) (sc := defScope s__law_span) (by decide +kernel)) (fun _ _ _ _ _ => pg_name (i := 6) sc__law_span.nd rfl (Or.inl rfl)) (fun _ _ _ _ _ => pts_nil) (fun _ _ _ _ _ => (pe_call G__law_worth hr__law_worth (by rfl) T.m__law_worth T.F__law_worth.kp T.B__law_worth .nil pass0 (pa_cons (pe_ix (ix_tupK (K := K) rfl) (pv 0) pe_int (fun _ _ => rfl)) (pa_cons (pe_dictZipK (K := K) rfl rfl (by rfl) T.n_dict (by rfl) T.n_zip (pa_cons (pv 3) (pa_cons (pv 6) pa_nil))) pa_nil))))) pa_nil)))))) pss_nil)
      (pss_cons (ps_if (pt_cmpR op_eqS (pe_ix ix_tup (pv 0) pe_int (fun _ _ => rfl)) pe_str (nomark _)) (pss_one (ps_ret (pe_call G__law_rising hr__law_rising (by rfl) T.m__law_rising T.F__law_rising.kp T.B__law_rising .nil pass0 (pa_cons (pe_ix ix_tup (pv 0) pe_int (fun _ _ => rfl)) pa_nil)))) pss_nil)
      (pss_cons (ps_if (pt_cmpR op_eqS (pe_ix ix_tup (pv 0) pe_int (fun _ _ => rfl)) pe_str (nomark _)) (pss_one (ps_ret (pe_callTy call_tupleN (by rfl) T.n_tuple (by decide +kernel) (pa_cons (pe_lc (own := [("k", 7)]) (g := gName 7) (tt := tYes) rfl sc__law_span.nd (pi_range1 (by rfl) T.n_range (pa_cons (pe_op op_add (pv 2) pe_int) pa_nil)) (blkOk_by (own := [("k", 7)]) (N := N__law_span) (sc := defScope s__law_span) (by decide +kernel)) (fun _ _ _ _ _ => pg_name (i := 7) sc__law_span.nd rfl (Or.inl rfl)) (fun _ _ _ _ _ => pts_nil) (fun _ _ _ _ _ => (pe_tupU (pa_cons (pv 7) (pa_cons pe_int pa_nil))))) pa_nil)))) pss_nil)
      (pss_cons (ps_if (pt_cmpR op_eqS (pe_ix ix_tup (pv 0) pe_int (fun _ _ => rfl)) pe_str (nomark _)) (pss_one (ps_ret (pe_call G__law_rising hr__law_rising (by rfl) T.m__law_rising T.F__law_rising.kp T.B__law_rising .nil pass0 (pa_cons (pe_op op_catL (pe_call G__law_every_mean hr__law_every_mean (by rfl) T.m__law_every_mean T.F__law_every_mean.kp T.B__law_every_mean .nil pass0 (pa_cons (pe_dget hu1 (pv 1) (pe_ix ix_tup (pv 0) pe_int (fun _ _ => rfl)) (fun _ _ => rfl)) (pa_cons (pv 2) pa_nil))) (pe_lstU (pa_cons (pe_tupU (pa_cons (pe_ix ix_tup (pv 0) pe_int (fun _ _ => rfl)) (pa_cons pe_int pa_nil))) pa_nil))) pa_nil)))) pss_nil)
      (pss_one (ps_ret (pe_call G__law_rising hr__law_rising (by rfl) T.m__law_rising T.F__law_rising.kp T.B__law_rising .nil pass0 (pa_cons (pe_op op_catL (pe_callTy call_listU (by rfl) T.n_list (by decide +kernel) (pa_cons (pe_dget hu1 (pv 1) (pe_ix ix_tup (pv 0) pe_int (fun _ _ => rfl)) (fun _ _ => rfl)) pa_nil)) (pe_lstU (pa_cons (pe_tupU (pa_cons (pe_ix ix_tup (pv 0) pe_int (fun _ _ => rfl)) (pa_cons pe_int pa_nil))) pa_nil))) pa_nil)))))))), ?_⟩
    have rise : ∀ (H1 : Hp) (b : Addr) (xs : List V) (fs : List Fr), Same H H1 → (SqL K H1 b xs ∨ SqT K H1 b xs) → FrsT H1 xs fs → (∀ f ∈ fs, okF f) → fs.length ≤ 500 → (∀ x, memR rg n r x ↔ x ∈ fs) → sp_rising K T.TL [.ref b] H1 Q E0 := fun H1 b xs fs s1 hb hx okf l mem =>
      ⟨b, xs, fs, rfl, Tabs.same tb s1, hb, hx, okf, l, fun t zs gs H2 x2 t2 h2 f2 srt _ => k t zs gs H2 (LamX.ExtN.trans (Same.extN s1) x2) t2 (.inl (.inl h2)) f2 srt.1 fun x => (srt.2 x).trans (mem x).symm⟩
    have lv := vals_len ok hD nd
    have vo := vals_ok ok hrg hD nd
    cases r with
    | be ws =>
      have ha' := ha
      obtain ⟨e, h1, h2⟩ := ha
      obtain ⟨nd6, n6, n11⟩ := names_few (ws := ws)
      obtain ⟨nd1, nd2⟩ := nd
      refine seq_op fun N hN => ?_
      walk_at "rs"
      refine ⟨_, h1, _, rfl, _, rfl, iteTT rfl ?_⟩
      refine seq_op fun N2 hN2 => ?_
      walk_at "rs"
      refine ⟨_, h1, _, rfl, e, rfl, ws, h2, ok.1, ok.2.1, fun q H1 s1 n1 e1 => hN2 _ _ ?_⟩
      clear hN2 N2
      have hq : SqL K H1 q ((namesOf ws).map V.str) := .inl (.inl e1)
      have hD1 := hD.same s1
      refine seq_op fun N2 hN2 => ?_
      walk_at "rs"
      refine ⟨_, rfl, q, rfl, ⟨_, hq⟩, fun D hDn => ?_⟩
      refine lc_map (walk_list (K := K) (a := q) (xs := (namesOf ws).map V.str)) ((namesOf ws).map V.str) (rgK kvs) hDn (by rw [List.length_map]; omega) rfl (fun k H x H' _ h => h) (fun G sg => seqL_same sg hq) (fun x G hx sg Q2 q2 => ?_) (fun G sg g1 => ?_)
      · obtain ⟨z, hz, rfl⟩ := List.mem_map.mp hx
        obtain ⟨p, hp⟩ := nd1 z hz
        obtain ⟨u, e1, e2, e3⟩ := hD1.get hp
        have q3 := q2 G (Same.refl _)
        simp only [rgK, e1, Option.getD] at q3
        exact ⟨_, rfl, _, rfl, d, _, rfl, .inl ⟨kvs, .inr z, .inl (hD1.same sg).at_, rfl, e1.symm⟩, q3⟩
      have hcols : Tps K G (((namesOf ws).map V.str).map (rgK kvs)) (colsV rg (namesOf ws)) := by
        rw [List.map_map]
        exact tps_cols (hD1.same sg) _ nd1
      refine ⟨D, _, _, rfl, .inl (.inl g1), hcols, fun r hr => ?_, by omega, ?_, fun l ts H2 s2 n2 e2 tp => hN2 _ _ ?_⟩
      · obtain ⟨z, hz, rfl⟩ := List.mem_map.mp hr
        obtain ⟨p, hp⟩ := nd1 z hz
        rw [hp]; exact (hrg z p hp).1
      · unfold colsV
        rw [List.length_map]; omega
      clear hN2 N2
      have s12 := Same.trans sg s2
      have S2 := Same.trans s1 s12
      have hl : SqL K H2 l ts := .inl (.inl e2)
      have hfr := rows_frs (cols_frs (hD.same S2) _ nd1)
      have okc : ∀ r ∈ rowsF (colsF rg (namesOf ws)), ∀ f ∈ r, okB 64 f := rowsF_mem (okB 64) _ fun c hc f hf => by
        obtain ⟨z, hz, rfl⟩ := List.mem_map.mp hc
        obtain ⟨p, hp⟩ := nd1 z hz
        rw [hp] at hf
        exact ((hrg z p hp).2.2 f hf).le (by decide)
      have lrows := rows_len (colsV rg (namesOf ws))
      have lcols : (colsV rg (namesOf ws)).length = (namesOf ws).length := List.length_map _
      have lts := tp.len
      walk_at "rs"
      refine ⟨_, rfl, l, rfl, ⟨ts, hl⟩, fun D hD0 => lc_it (walk_list (K := K) (a := l) (xs := ts)) (fun j G => Same H2 G ∧ ∃ us, G D = some (.lst us) ∧ FrsT G us (worths ws ((rowsF (colsF rg (namesOf ws))).take j))) ⟨same_upd hD0, [], upd_same, by rw [List.take_zero]; exact .nil⟩ (fun j G _ h => .inl (.inl (h.1 _ _ e2))) ?_ ?_⟩
      · rintro j y G1 G2 hj ⟨s3, us, g1, f1⟩ ⟨rfl, hy1⟩
        obtain ⟨b, row, rfl, hrow, hb⟩ := tp.at hy1
        obtain ⟨fr, hfr1, hfr2⟩ := hfr.get hrow
        have lrow := (rows_row _ row (List.mem_of_getElem? hrow)).trans lcols
        have okr := okc fr (List.mem_of_getElem? hfr1)
        have lfr := hfr2.len
        obtain ⟨w1, w2, w3⟩ := worth_ok ok (by omega) okr
        have ej : (rowsF (colsF rg (namesOf ws))).take (j + 1) = (rowsF (colsF rg (namesOf ws))).take j ++ [fr] := by rw [List.take_succ, hfr1]; rfl
        walk_at "rs"
        simp only [tYes, eq_self, ite_true]
        have sG := Same.trans S2 s3
        have hb3 := Same.seqT s3 hb
        refine ⟨_, Same.seqT sG h1, _, rfl, _, rfl, _, rfl, q, b, namesOf ws, row, rfl, .inl (.inl (.inl (Same.trans s12 s3 _ _ e1))), hb3, lrow.symm, nd6, by omega, fun dz H5 s5 n5 e5 => ?_⟩
        have hdt := dtt_row (K := K) e5 (hfr2.same (Same.trans s3 s5)) okr (by omega) (by omega)
        refine ⟨e, dz, ws, _, _, rfl, Same.seqT (Same.trans sG s5) h2, ok.1, ok.2.1, ok.2.2, hdt, fun z f h => okr f (tabOf_mem h).2, w1, tabOf_no, fun tt H6 f s6 est hp => ?_⟩
        rw [w2] at est
        obtain rfl : worthF (tabOf (namesOf ws) fr) ws = f := by simpa using est
        have s56 := Same.trans s5 s6
        refine ⟨us, s56 _ _ g1, ?_, fun q o e => ?_, _, upd_same, ?_⟩
        · have := f1.len
          unfold worths at this
          rw [List.length_map, List.length_take] at this
          exact Nat.lt_of_le_of_lt (show us.length ≤ 5000 by omega) (by decide)
        · rw [upd_ne (ne_of_none e hD0)]; exact s56 _ _ (s3 _ _ e)
        · rw [ej]
          unfold worths at f1 ⊢
          rw [List.map_append]
          exact ((f1.same s56).upd (s56 _ _ g1)).app (.cons (PrT.upd (s56 _ _ g1) hp) .nil)
      · rintro G ⟨s3, us, g1, f1⟩
        rw [lts, hfr.len, List.take_length] at f1
        exact rise G D us _ (Same.trans S2 s3) (.inl (.inl (.inl g1))) f1 vo (show (valsR rg (.be ws)).length ≤ 500 by omega) fun x => Iff.rfl
    | tab ps fs =>
      have ha' := ha
      obtain ⟨e, t, xs, h1, h2, h3, h4⟩ := ha
      refine seq_op fun N hN => ?_
      walk_at "rs"
      refine ⟨_, h1, _, rfl, _, rfl, iteFF (by decide) (hN _ _ ?_)⟩
      clear hN N
      refine seq_op fun N hN => ?_
      walk_at "rs"
      exact ⟨_, h1, _, rfl, _, rfl, iteTT rfl ⟨_, h1, _, rfl, rise H t xs fs (Same.refl _) (.inr h3) h4 vo (by have := ok.2.2.2; omega) fun x => Iff.rfl⟩⟩
    | cnt k1 q =>
      obtain ⟨m, h1⟩ := ha
      refine seq_op fun N hN => ?_
      walk_at "rs"
      refine ⟨_, h1, _, rfl, _, rfl, iteFF (by decide) (hN _ _ ?_)⟩
      clear hN N
      refine seq_op fun N hN => ?_
      walk_at "rs"
      refine ⟨_, h1, _, rfl, _, rfl, iteFF (by decide) (hN _ _ ?_)⟩
      clear hN N
      refine seq_op fun N hN => ?_
      walk_at "rs"
      refine ⟨_, h1, _, rfl, _, rfl, iteTT rfl ?_⟩
      refine ⟨_, rfl, _, _, rfl, rfl, _, rfl, by omega, by omega, ?_⟩
      rw [show ((n : Int) + 1).toNat = n + 1 by omega]
      refine fun D hD => lc_it (g := gName 7) (tt := tYes) (vs := [7]) (walk_range (lo := 0) (n := n + 1)) (fun l G' => Same H G' ∧ ∃ ws, G' D = some (.lst ws) ∧ FrsT G' ws ((cntF n).take l)) ⟨same_upd hD, [], upd_same, .nil⟩ (fun _ _ _ _ => trivial) ?_ ?_
      · rintro l y G1 G2 hl ⟨s1, us, g1, f1⟩ ⟨rfl, rfl⟩
        have el : (cntF n)[l]? = some ((l : Int), 1) := by
          unfold cntF
          rw [List.getElem?_map, List.getElem?_range hl]; rfl
        have ej : (cntF n).take (l + 1) = (cntF n).take l ++ [((l : Int), 1)] := by rw [List.take_succ, el]; rfl
        walk_at "rs"
        simp only [tYes, eq_self, ite_true]
        refine ⟨by decide, fun t G4 s4 n4 e4 => ⟨us, s4 _ _ g1, ?_, fun q o e => ?_, _, upd_same, ?_⟩⟩
        · have := f1.len
          rw [List.length_take] at this
          exact Nat.lt_of_le_of_lt (show us.length ≤ 10 by omega) (by decide)
        · rw [upd_ne (ne_of_none e hD)]; exact s4 _ _ (s1 _ _ e)
        · rw [ej]
          rw [Int.zero_add] at e4
          exact ((f1.same s4).upd (s4 _ _ g1)).app (.cons (PrT.upd (s4 _ _ g1) e4) .nil)
      · rintro G ⟨s1, us, g1, f1⟩
        have lc : (cntF n).length = n + 1 := by unfold cntF; rw [List.length_map, List.length_range]
        rw [← lc, List.take_length] at f1
        exact ⟨D, rfl, us, .inl (.inl g1), fun t H2 s2 n2 e2 => k t us (cntF n) H2 (Same.extN (Same.trans s1 s2)) (Tabs.same tb (Same.trans s1 s2)) (.inl (.inl e2)) (f1.same s2) (cnt_asc n) (fun x => Iff.rfl)⟩
    | lok z y k1 q o =>
      have ha' := ha
      obtain ⟨m, h1⟩ := ha
      obtain ⟨pr, hy, hmean⟩ := nd
      obtain ⟨u, e1, e2, e3⟩ := hD.get hy
      obtain ⟨l1, l2, oky⟩ := hrg y pr hy
      have okO : okF (o, 1) := (int_ok ok.2.2.2.2).le (by decide)
      have zz : ∀ z ∈ lookL, z ≠ "be" ∧ z ≠ "table" ∧ z ≠ "count" := by decide +kernel
      obtain ⟨c1, c2, c3⟩ := zz z ok.1
      refine seq_op fun N hN => ?_
      walk_at "rs"
      refine ⟨_, h1, _, rfl, _, rfl, iteFF c1 (hN _ _ ?_)⟩
      clear hN N
      refine seq_op fun N hN => ?_
      walk_at "rs"
      refine ⟨_, h1, _, rfl, _, rfl, iteFF c2 (hN _ _ ?_)⟩
      clear hN N
      refine seq_op fun N hN => ?_
      walk_at "rs"
      refine ⟨_, h1, _, rfl, _, rfl, iteFF c3 (hN _ _ ?_)⟩
      clear hN N
      refine seq_op fun N hN => ?_
      unfold tDGet
      walk_at "rs"
      refine ⟨_, h1, _, rfl, _, rfl, ite2 (fun c => ?_) (fun c => hN _ _ ?_)⟩
      · obtain ⟨m1, m2⟩ := hmean c
        have hB : ∀ v ∈ ns1 pr.2, v.natAbs ≤ 2 ^ 60 := fun v hv => by
          obtain ⟨f, hf, rfl⟩ := List.mem_map.mp hv
          exact Nat.le_of_lt (oky f hf).2.2.1
        refine ⟨_, h1, _, rfl, _, .inl ⟨kvs, .inr y, .inl hD.at_, rfl, e1.symm⟩, u, pr.1, ns1 pr.2, n, rfl, .inr e2, ns1_of m2 ▸ e3.frs, by unfold ns1; rw [List.length_map]; exact m1, n8, hB, fun t zs gs H5 s5 n5 h5 f5 mem l => ?_⟩
        refine ⟨_, Same.seqT s5 h1, _, rfl, by decide, fun p H6 s6 n6 e6 => ⟨by decide, fun q H7 s7 n7 e7 => ⟨t, rfl, zs, s7 _ _ (s6 _ _ h5), _, e7, ?_, fun p2 H8 s8 n8' e8 => ?_⟩⟩⟩
        · have := f5.len
          exact Nat.le_trans (show zs.length + 1 ≤ 5000 by omega) (by decide)
        · have sA := Same.trans s6 (Same.trans s7 s8)
          refine rise H8 p2 _ (gs ++ [(o, 1)]) (Same.trans s5 sA) (.inl (.inl (.inl e8))) ((f5.same sA).app (.cons (Same.trans s7 s8 _ _ e6) .nil)) (fun f hf => ?_) (by rw [List.length_append, List.length_singleton]; omega) fun x => ?_
          · rcases List.mem_append.mp hf with hf | hf
            · exact mean_ok n8 hB ((mem f).mp hf)
            · rw [List.mem_singleton.mp hf]; exact okO
          · show (if z = "mean" then MeanOf (ns1 ((rg y).getD ([], [])).2) n x else x ∈ ((rg y).getD ([], [])).2) ∨ x = (o, 1) ↔ _
            rw [if_pos c, hy, List.mem_append, List.mem_singleton]
            exact or_congr (mem x).symm Iff.rfl
      · clear hN N
        unfold tDGet
        walk_at "rs"
        refine ⟨_, h1, _, rfl, _, .inl ⟨kvs, .inr y, .inl hD.at_, rfl, e1.symm⟩, u, rfl, pr.1, .inr e2, fun l H5 s5 n5 e5 => ⟨_, Same.seqT s5 h1, _, rfl, by decide, fun p H6 s6 n6 e6 => ⟨by decide, fun q H7 s7 n7 e7 => ⟨pr.1, s7 _ _ (s6 _ _ e5), _, e7, ?_, fun p2 H8 s8 n8' e8 => ?_⟩⟩⟩⟩
        · exact Nat.le_trans (show pr.1.length + 1 ≤ 5000 by omega) (by decide)
        · have sA := Same.trans s5 (Same.trans s6 (Same.trans s7 s8))
          have l3 := e3.len
          refine rise H8 p2 _ (pr.2 ++ [(o, 1)]) sA (.inl (.inl (.inl e8))) ((e3.same sA).app (.cons (Same.trans s7 s8 _ _ e6) .nil)) (fun f hf => ?_) (by rw [List.length_append, List.length_singleton]; omega) fun x => ?_
          · rcases List.mem_append.mp hf with hf | hf
            · exact (oky f hf).le (by decide)
            · rw [List.mem_singleton.mp hf]; exact okO
          · show (if z = "mean" then MeanOf (ns1 ((rg y).getD ([], [])).2) n x else x ∈ ((rg y).getD ([], [])).2) ∨ x = (o, 1) ↔ _
            rw [if_neg c, hy, List.mem_append, List.mem_singleton]; rfl
end
end LK

set_option Elab.async false
set_option linter.all false
set_option maxRecDepth 100000
namespace LK
open PySem PySem.Spec PyProof.Rows L2
local macro_rules | `(tactic| walk_at "rs") => `(tactic| simp only [cxK, cxNK, tCallZ, tAsg, tOp, rI0, rS0, rB0, rI, rU, tUn, rEq, rNe, rIxL, rIxT, rIxS, rSetL, rSlLU, rSlS, rSlU, rCatL, rCatU, rRepL, rIn, tVar, tC, gName, gSub, tIfS, tTest, tB, tAnd, tOr, tNot, tNotV, tAndV, tOrV, tIf, tCall, tCons, tNil, tCB, tDrop, tRet, tRetN, tNext, tLstU, tTupU, tM0, tM1, tPar, tPar3, tAug, ipI, tBM, tBM0, rAppend, rPop, tBreak, tCont, tChain, tSl, tPart, tNoPart, L2.start, List.map, List.length_cons, List.length_nil, List.replicate, List.cons_append, List.nil_append, List.append_nil, List.getElem?_cons_zero, List.getElem?_cons_succ, List.set_cons_zero, List.set_cons_succ, Option.some.injEq, V.int.injEq, V.ref.injEq, V.str.injEq, V.bl.injEq, exists_eq_left', exists_eq_left, exists_and_left, decide_eq_true_eq, List.cons.injEq, and_true, true_and, scal, Bool.not_eq_true', decide_eq_false_iff_not, Nat.zero_add, Nat.reduceAdd, Nat.reduceSub, reduceCtorEq, false_and, exists_false, false_or, or_false, CPow, CMul, CDiv, Int.reduceToNat, ↓reduceIte, wipe, sw, List.nil_append, List.singleton_append])
local macro_rules | `(tactic| walk_at "st") => `(tactic| (refine seq_op fun N hN => ?_; walk_at "rs"))
local macro_rules | `(tactic| walk_at "sd") => `(tactic| first | assumption | decide | omega)
local macro_rules | `(tactic| walk_at "rd") => `(tactic| repeat (first
  | refine ⟨_, SqL.of (by assumption), ?_⟩ | refine ⟨_, SqL.of upd_same, ?_⟩ | refine ⟨_, .inl (SqL.of (by assumption)), ?_⟩ | refine ⟨_, (by assumption : _ = some (HO.lst _)), ?_⟩ | refine ⟨_, upd_same, ?_⟩
  | refine ⟨_, rfl, ?_⟩ | refine And.intro (by walk_at "sd") ?_))

/-! ### methods within comprehensions -/
section
variable {X : Cx} {K : PySem.W.Frag} {o e : Expr} {es : List Expr} {to : TE} {t : TA} {name : Str} {apos cpos : Pos} {T id : String} {r : V → List V → Hp → VK → Prop}
theorem pe_bm0K (hK : X.K = K) (pa : PlainAttrs T) (slot : Slot T name id) (hty : typeOf (.builtin id) = pure (.type "method_descriptor")) (hm : MtR X id r) (ho : PE X o to)
    (h1 : attributeBase o name X.env (eval o X.env) = eval o X.env := by rfl) (h2 : (apos.endLine == cpos.line) = true := by rfl) : PE X (.Call (.Attribute o name apos) [] [] cpos) (tBM0 K T r to) := by
  subst hK
  exact pe_bm0 pa slot hty hm ho h1 h2
theorem pe_bmK (hK : X.K = K) (pa : PlainAttrs T) (slot : Slot T name id) (hty : typeOf (.builtin id) = pure (.type "method_descriptor")) (hm : MtR X id r) (ho : PE X o to) (ha : PA X (e :: es) t)
    (h1 : attributeBase o name X.env (eval o X.env) = eval o X.env := by rfl)
    (h2 : ((backTo cpos (starEach (e :: es) X.env)).all (fun x => !x.1) && (backToKw cpos (keywordEach [] X.env)).all (fun x => x.1.isSome) && decide ((e :: es).length + ([] : List Keyword).length + (if ([] : List Keyword).isEmpty then 0 else 1) < 30)) = true := by rfl)
    (h3 : (apos.endLine == cpos.line) = true := by rfl) (h4 : starEach (e :: es) X.env = (false, eval e X.env) :: starEach es X.env := by rfl) (h5 : (backTo cpos (starEach es X.env)).any (·.1) = false := by rfl) :
    PE X (.Call (.Attribute o name apos) (e :: es) [] cpos) (tBM K T r to t) := by
  subst hK
  exact pe_bm pa slot hty hm ho ha h1 h2 h3 h4 h5
end
theorem lc_rngI {n : Nat} {lo : Int} {te : TE} {i0 : Nat} {σ : L2.St} {H1 : Hp} {D : Addr} {Qd : Hp → Prop} (F : Nat → Hp → List V → Prop) (hn : n ≤ 1000000) (f0 : F 0 (L2.upd H1 D (.lst [])) [])
    (hs : ∀ i G ys, i < n → G D = some (.lst ys) → ys.length = i → F i G ys → ∀ Q2 : VK, (∀ y G4, G4 D = some (.lst ys) → F (i + 1) (L2.upd G4 D (.lst (ys ++ [y]))) (ys ++ [y]) → Q2 y G4) → te ((wipe σ [i0]).set i0 (some (.int (lo + i)))) G Q2)
    (hq : ∀ G ys, G D = some (.lst ys) → ys.length = n → F n G ys → Qd G) :
    ∃ W : Nat → Nat → Hp → Prop, (∃ m, W 0 m (L2.upd H1 D (.lst []))) ∧ ∀ i m H, W i m H →
      ((Itr lo n).stop i H ∧ Qd H) ∨ ((Itr lo n).go i H ∧ ∃ Nx : Hp → Prop, (∀ H', Nx H' → ∃ m', m' < m ∧ W (i + 1) m' H') ∧ ∀ x H', (Itr lo n).yld i H x H' → gName i0 x (wipe σ [i0]) H' fun σ2 H2 => wipe σ2 [i0] = wipe σ [i0] ∧ tYes σ2 H2 fun b H3 =>
        if b = true then te σ2 H3 fun y H4 => ∃ acc, H4 D = some (.lst acc) ∧ acc.length < sizeLine ∧ Nx (L2.upd H4 D (.lst (acc ++ [y]))) else Nx H3) := by
  refine lc_it walk_range (fun i H => ∃ ys, H D = some (.lst ys) ∧ ys.length = i ∧ F i H ys) ⟨[], upd_same, rfl, f0⟩ (fun _ _ _ _ => trivial) (fun i x H H' hi ⟨ys, h1, hl, hf⟩ y => ?_) (fun H ⟨ys, h1, hl, hf⟩ => hq H ys h1 hl hf)
  obtain ⟨rfl, rfl⟩ := y
  refine ⟨?_, ?_⟩
  · show ((σ.set i0 none).set i0 (some _)).set i0 none = σ.set i0 none
    rw [List.set_set, List.set_set]
  · simp only [tYes, eq_self, ite_true]
    refine hs i H' ys hi h1 hl hf _ fun y G4 e f => ⟨ys, e, ?_, ys ++ [y], upd_same, by rw [List.length_append, hl]; rfl, f⟩
    rw [hl]
    exact Nat.lt_of_lt_of_le (Nat.lt_of_lt_of_le hi hn) (by decide)
theorem erase_perm {α : Type} : ∀ {l : List α} {k : Nat} {y : α}, l[k]? = some y → l.Perm (y :: l.eraseIdx k)
  | [], k, y, h => by simp at h
  | x :: l, 0, y, h => by simp at h; subst h; exact .refl _
  | x :: l, k + 1, y, h => by
    have ih := erase_perm (l := l) (k := k) (y := y) (by simpa using h)
    exact ((ih.cons x).trans (.swap y x _))
theorem Kp.upd2 {b p : Addr} {H H' : Hp} {o : HO} (k : Kp b H H') (h : H p = none) : Kp b H (L2.upd H' p o) := fun a u e => by
  obtain ⟨n1, e1⟩ := hb_some e
  have n : a ≠ p := fun z => by rw [z, h] at e1; cases e1
  rw [hb_ne n1, upd_ne n]
  have := k a u e
  rw [hb_ne n1] at this
  exact this
theorem Kp.none {b p c : Addr} {H H' : Hp} (k : Kp b H H') (B : Bag H' b c) (h : H' p = none) : H p = none := Kp.bn k B.at.choose_spec h
theorem Bag.ne2 {H : Hp} {b c p : Addr} (B : Bag H b c) (h : H p = none) : b ≠ p ∧ c ≠ p := ⟨(new_ne B h).symm, fun e => by
  obtain ⟨xc, ec⟩ := B.at2
  rw [e, h] at ec; cases ec⟩
end LK

set_option Elab.async false
set_option linter.all false
set_option maxRecDepth 100000
namespace LK
open PySem PySem.Spec PyProof.Rows L2
local macro_rules | `(tactic| walk_at "rs") => `(tactic| simp only [cxK, cxNK, tCallZ, tAsg, tOp, rI0, rS0, rB0, rI, rU, tUn, rEq, rNe, rIxL, rIxT, rIxS, rSetL, rSlLU, rSlS, rSlU, rCatL, rCatU, rRepL, rIn, tVar, tC, gName, gSub, tIfS, tTest, tB, tAnd, tOr, tNot, tNotV, tAndV, tOrV, tIf, tCall, tCons, tNil, tCB, tDrop, tRet, tRetN, tNext, tLstU, tTupU, tM0, tM1, tPar, tPar3, tAug, ipI, tBM, tBM0, rAppend, rPop, tBreak, tCont, tChain, tSl, tPart, tNoPart, L2.start, List.map, List.length_cons, List.length_nil, List.replicate, List.cons_append, List.nil_append, List.append_nil, List.getElem?_cons_zero, List.getElem?_cons_succ, List.set_cons_zero, List.set_cons_succ, Option.some.injEq, V.int.injEq, V.ref.injEq, V.str.injEq, V.bl.injEq, exists_eq_left', exists_eq_left, exists_and_left, decide_eq_true_eq, List.cons.injEq, and_true, true_and, scal, Bool.not_eq_true', decide_eq_false_iff_not, Nat.zero_add, Nat.reduceAdd, Nat.reduceSub, reduceCtorEq, false_and, exists_false, false_or, or_false, CPow, CMul, CDiv, Int.reduceToNat, ↓reduceIte, wipe, sw, List.nil_append, List.singleton_append])
local macro_rules | `(tactic| walk_at "st") => `(tactic| (refine seq_op fun N hN => ?_; walk_at "rs"))
local macro_rules | `(tactic| walk_at "sd") => `(tactic| first | assumption | decide | omega)
local macro_rules | `(tactic| walk_at "rd") => `(tactic| repeat (first
  | refine ⟨_, SqL.of (by assumption), ?_⟩ | refine ⟨_, SqL.of upd_same, ?_⟩ | refine ⟨_, .inl (SqL.of (by assumption)), ?_⟩ | refine ⟨_, (by assumption : _ = some (HO.lst _)), ?_⟩ | refine ⟨_, upd_same, ?_⟩
  | refine ⟨_, rfl, ?_⟩ | refine And.intro (by walk_at "sd") ?_))

open LamX (Tabs TabS ExtN TabB)
/-! ### whole fractions, ranges -/
theorem FrsT.kp {G G' : Hp} {b c : Addr} (B : Bag G b c) (s : Kp b G G') : ∀ {xs : List V} {fs : List Fr}, FrsT G xs fs → FrsT G' xs fs
  | _, _, .nil => .nil
  | _, _, .cons h q => .cons (s.hd h fun e => by
      obtain ⟨yb, eb⟩ := B.at
      unfold PrT at h
      rw [e, eb] at h; cases h) (q.kp B s)
theorem ixN_nat {k n : Nat} (h : k < n) : seqIndex? (k : Int) n = some k := by
  unfold seqIndex?
  simp only
  have h1 : ¬ ((k : Int) < 0) := by omega
  simp [h1, h]
theorem eraseI_map (l : List Int) (k : Nat) : (l.map V.int).eraseIdx k = (l.eraseIdx k).map V.int := by
  induction l generalizing k with
  | nil => rfl
  | cons a l ih =>
    cases k with
    | zero => rfl
    | succ k => exact congrArg (V.int a :: ·) (ih k)
section
variable {P : Program} {w : World} {K : PySem.W.Frag} {mg : Str → Option Value} {base : Heap}
def sp_wholes : Sp := fun vs H Q _ => ∃ (b c : Addr), vs = [.ref b] ∧ Bag H b c ∧ ∀ t xs (ns : List Int) H', Bag H' b c → Kp b H H' → H t = none → H' t = some (.lst xs) → FrsT H' xs (ns.map fun v => (v, 1)) → 1 ≤ ns.length → ns.length ≤ 4 → (∀ v ∈ ns, v.natAbs < 2 ^ 60) → Q (.ref t) H'
theorem ok__law_wholes (T : Txt w K mg) : FnOk P w K mg base CX0 2 T.a__law_wholes T.d__law_wholes ["bag"] sp_wholes := by
  refine T.F__law_wholes.ok sc__law_wholes (fun vs H Q E h => ?_) (fun cdv A outer s H vs Q E hr h => ?_)
  · obtain ⟨b, c, rfl, _⟩ := h
    rfl
  · obtain ⟨b, c, rfl, B, k⟩ := h
    have hr__law_draw : Room 1 _ := hr.mono (by decide)
    have G__law_draw := ok__law_draw (P := P) (base := base) T
    have hu1 : (A.deeper (envOfC "_law_wholes" (defScope s__law_wholes) s.heap.objs.size T.a__law_wholes cdv)).units + 1 < cLine := Nat.lt_of_le_of_lt (Nat.add_le_add_left (by decide : 1 ≤ 64) _) hr.units
    refine ⟨_, (pss_cons (ps_set (i := 1) sc__law_wholes.nd rfl (Or.inl rfl) (pe_op op_add (pe_op op_mul (pe_call G__law_draw hr__law_draw (by rfl) T.m__law_draw T.F__law_draw.kp T.B__law_draw .nil pass0 (pa_cons (pv 0) (pa_cons (pe_op op_pow pe_int pe_int) pa_nil))) (pe_op op_pow pe_int pe_int)) (pe_call G__law_draw hr__law_draw (by rfl) T.m__law_draw T.F__law_draw.kp T.B__law_draw .nil pass0 (pa_cons (pv 0) (pa_cons (pe_op op_pow pe_int pe_int) pa_nil)))))
      (pss_cons (ps_set (i := 2) sc__law_wholes.nd rfl (Or.inr rfl) (pe_lstU (pa_cons pe_int (pa_cons pe_int (pa_cons pe_int (pa_cons pe_int (pa_cons (pe_un un_neg pe_int) (pa_cons pe_int (pa_cons pe_int (pa_cons (pe_un un_neg pe_int) (pa_cons pe_int (pa_cons (pe_op op_add (pv 1) pe_int) (pa_cons (pe_op op_sub (pe_un un_neg pe_int) (pv 1)) (pa_cons (pe_op op_sub (pe_op op_pow pe_int pe_int) pe_int) (pa_cons pe_int (pa_cons pe_int pa_nil))))))))))))))))
      (pss_one (ps_ret (pe_lc (own := [("k", 3)]) (g := gName 3) (tt := tYes) rfl sc__law_wholes.nd (pi_range1 (by rfl) T.n_range (pa_cons (pe_op op_add pe_int (pe_call G__law_draw hr__law_draw (by rfl) T.m__law_draw T.F__law_draw.kp T.B__law_draw .nil pass0 (pa_cons (pv 0) (pa_cons pe_int pa_nil)))) pa_nil)) (blkOk_by (own := [("k", 3)]) (N := N__law_wholes) (sc := defScope s__law_wholes) (by decide +kernel)) (fun _ _ _ _ _ => pg_name (i := 3) sc__law_wholes.nd rfl (Or.inl rfl)) (fun _ _ _ _ _ => pts_nil) (fun _ _ _ _ _ => (pe_tupU (pa_cons (pe_bmK (K := K) rfl PySem.F.plainAttrs_list PySem.F.slot_list_pop PySem.F.type_list_pop mt_popAt (pv 2) (pa_cons (pe_call G__law_draw hr__law_draw (by rfl) T.m__law_draw T.F__law_draw.kp T.B__law_draw .nil pass0 (pa_cons (pv 0) (pa_cons (pe_callB (call_len_seqK (K := K) rfl) (by rfl) T.n_len (by decide +kernel) (pa_cons (pv 2) pa_nil)) pa_nil))) pa_nil)) (pa_cons pe_int pa_nil))))))))), ?_⟩
    refine seq_op fun N hN => ?_
    walk_at "rs"
    have p6 : (0 : Int) ≤ 6 ∧ (6 : Int) ≤ 1000000 ∧ Int.natAbs 10 < 2 ^ 64 := by decide
    have p12 : (0 : Int) ≤ 12 ∧ (12 : Int) ≤ 1000000 ∧ Int.natAbs 10 < 2 ^ 64 := by decide
    refine ⟨p6, b, c, 10 ^ 6, rfl, B, by decide, by decide, fun r1 H1 r10 r11 B1 K1 => ⟨p12, r1, rfl, .inl ⟨by omega, by omega⟩, p6, b, c, 10 ^ 6, rfl, B1, by decide, by decide, fun r2 H2 r20 r21 B2 K2 => ⟨r2, rfl, hN _ _ ?_⟩⟩⟩
    clear hN N
    have bf : (r1 * 10 ^ 12 + r2).natAbs < 10 ^ 18 := by omega
    generalize r1 * 10 ^ 12 + r2 = far at *
    have KH2 : Kp b H H2 := Same.trans K1 K2
    refine seq_op fun N hN => ?_
    walk_at "rs"
    have p18 : (0 : Int) ≤ 18 ∧ (18 : Int) ≤ 1000000 ∧ Int.natAbs 10 < 2 ^ 64 := by decide
    refine ⟨p18, by decide, fun p H3 s3 h0 h1 => hN _ _ ?_⟩
    clear hN N
    walk_at "rs"
    obtain ⟨vs, ev, lv, bv⟩ : ∃ vs : List Int, H3 p = some (.lst (vs.map V.int)) ∧ vs.length = 14 ∧ ∀ v ∈ vs, v.natAbs < 2 ^ 60 := by
      refine ⟨[0, 1, 2, 3, -1, 4, 7, -9, 99, far + 100, -100 - far, 10 ^ 18 - 1, 12, 60], h1, rfl, fun v hv => ?_⟩
      simp only [List.mem_cons, List.not_mem_nil, or_false] at hv
      rcases hv with h | h | h | h | h | h | h | h | h | h | h | h | h | h <;> subst h <;> omega
    clear h1
    have npb : p ≠ b := new_ne B2 h0
    refine ⟨_, rfl, b, c, 4, rfl, B2.same s3, by decide, by decide, fun r H4 r0 r4 B4 K4 => ⟨1, r, rfl, rfl, _, rfl, by omega, by omega, fun D hD => ?_⟩⟩
    have hp4 := K4.hd ev npb
    have npD : p ≠ D := fun e => by rw [e, hD] at hp4; cases hp4
    have KH4 : Kp b H H4 := Same.trans KH2 (Same.trans (Kp.of s3) K4)
    have h0H : H p = none := Kp.none KH2 B2 h0
    refine lc_rngI (n := (1 + r).toNat) (fun i G ys => ∃ (out rest : List Int), FrsT G ys (out.map fun v => (v, 1)) ∧ G p = some (.lst (rest.map V.int)) ∧ (∀ v ∈ out ++ rest, v.natAbs < 2 ^ 60) ∧ out.length = i ∧ out.length + rest.length = 14 ∧ Bag G b c ∧ Kp b H G) (by omega) ⟨[], vs, .nil, ?_, bv, rfl, lv ▸ Nat.zero_add _, ?_, ?_⟩ (fun i G ys hi hG hl ⟨out, rest, ey, hp, bd, lo, lp, BG, KG⟩ Q2 hq => ?_) fun G ys hG hl ⟨out, rest, ey, hp, bd, lo, lp, BG, KG⟩ => ?_
    · rw [upd_ne npD]; exact hp4
    · exact B4.upd (B4.ne2 hD).1 (B4.ne2 hD).2
    · exact Kp.upd2 KH4 (KH4.none B4 hD)
    · walk_at "rs"
      refine ⟨.inl ⟨rfl, _, SqL.of hp⟩, _, .inl (SqL.of hp), ?_⟩
      rw [List.length_map]
      refine ⟨b, c, _, rfl, BG, by omega, by omega, fun x J2 x0 x1 B3 K3 => ?_⟩
      obtain ⟨k1, rfl⟩ : ∃ k1 : Nat, x = (k1 : Int) := ⟨x.toNat, by omega⟩
      have hk1 : k1 < rest.length := by omega
      have e1 : rest[k1]? = some rest[k1] := List.getElem?_eq_getElem hk1
      have hp3 := K3.hd hp npb
      have nDb := (B4.ne2 hD).1.symm
      have hJ3 := K3.hd hG nDb
      refine ⟨p, _, _, k1, .int rest[k1], rfl, rfl, hp3, by omega, by omega, ixN_nat (by rw [List.length_map]; exact hk1), by rw [List.getElem?_map, e1]; rfl, by decide, fun q H5 s5 n5 e5 => hq _ _ (s5 _ _ (by rw [upd_ne npD.symm]; exact hJ3)) ⟨out ++ [rest[k1]], rest.eraseIdx k1, ?_, ?_, ?_, ?_, ?_, ?_, ?_⟩⟩
      · have B5 := (B3.upd (o := .lst ((rest.map V.int).eraseIdx k1)) (B2.ne2 h0).1 (B2.ne2 h0).2)
        have f1 : FrsT H5 ys (out.map fun v => (v, 1)) := by
          refine FrsT.same s5 (FrsT.upd hp3 (ey.kp BG K3))
        rw [List.map_append]
        exact (f1.upd (s5 _ _ (by rw [upd_ne npD.symm]; exact hJ3))).app (.cons (PrT.upd (s5 _ _ (by rw [upd_ne npD.symm]; exact hJ3)) e5) .nil)
      · rw [upd_ne npD, ← eraseI_map]
        exact s5 _ _ upd_same
      · intro v hv
        rw [List.append_assoc] at hv
        refine bd v ?_
        rcases List.mem_append.mp hv with hv | hv
        · exact List.mem_append_left _ hv
        · exact List.mem_append_right _ ((erase_perm e1).symm.subset hv)
      · rw [List.length_append, lo]; rfl
      · rw [List.length_append, List.length_eraseIdx, if_pos hk1, List.length_singleton]; omega
      · exact ((B3.upd (B2.ne2 h0).1 (B2.ne2 h0).2).same s5).upd (B4.ne2 hD).1 (B4.ne2 hD).2
      · exact Kp.upd2 (Same.trans (Kp.upd2 (Same.trans KG K3) h0H) (Kp.of s5)) (KH4.none B4 hD)
    · exact k D ys out G BG KG (KH4.none B4 hD) hG ey (by omega) (by omega) fun v hv => bd v (List.mem_append_left _ hv)
end
end LK

set_option Elab.async false
set_option linter.all false
set_option maxRecDepth 100000
namespace LK
open PySem PySem.Spec PyProof.Rows L2
local macro_rules | `(tactic| walk_at "rs") => `(tactic| simp only [cxK, cxNK, tCallZ, tAsg, tOp, rI0, rS0, rB0, rI, rU, tUn, rEq, rNe, rIxL, rIxT, rIxS, rSetL, rSlLU, rSlS, rSlU, rCatL, rCatU, rRepL, rIn, tVar, tC, gName, gSub, tIfS, tTest, tB, tAnd, tOr, tNot, tNotV, tAndV, tOrV, tIf, tCall, tCons, tNil, tCB, tDrop, tRet, tRetN, tNext, tLstU, tTupU, tM0, tM1, tPar, tPar3, tAug, ipI, tBM, tBM0, rAppend, rPop, tBreak, tCont, tChain, tSl, tPart, tNoPart, L2.start, List.map, List.length_cons, List.length_nil, List.replicate, List.cons_append, List.nil_append, List.append_nil, List.getElem?_cons_zero, List.getElem?_cons_succ, List.set_cons_zero, List.set_cons_succ, Option.some.injEq, V.int.injEq, V.ref.injEq, V.str.injEq, V.bl.injEq, exists_eq_left', exists_eq_left, exists_and_left, decide_eq_true_eq, List.cons.injEq, and_true, true_and, scal, Bool.not_eq_true', decide_eq_false_iff_not, Nat.zero_add, Nat.reduceAdd, Nat.reduceSub, reduceCtorEq, false_and, exists_false, false_or, or_false, CPow, CMul, CDiv, Int.reduceToNat, ↓reduceIte, wipe, sw, List.nil_append, List.singleton_append])
local macro_rules | `(tactic| walk_at "st") => `(tactic| (refine seq_op fun N hN => ?_; walk_at "rs"))
local macro_rules | `(tactic| walk_at "sd") => `(tactic| first | assumption | decide | omega)
local macro_rules | `(tactic| walk_at "rd") => `(tactic| repeat (first
  | refine ⟨_, SqL.of (by assumption), ?_⟩ | refine ⟨_, SqL.of upd_same, ?_⟩ | refine ⟨_, .inl (SqL.of (by assumption)), ?_⟩ | refine ⟨_, (by assumption : _ = some (HO.lst _)), ?_⟩ | refine ⟨_, upd_same, ?_⟩
  | refine ⟨_, rfl, ?_⟩ | refine And.intro (by walk_at "sd") ?_))

open LamX (Tabs TabS ExtN TabB)
theorem FrsT.kn {G G' : Hp} {b c : Addr} (B : Bag G b c) (s : KN b G G') : ∀ {xs : List V} {fs : List Fr}, FrsT G xs fs → FrsT G' xs fs
  | _, _, .nil => .nil
  | _, _, .cons h q => .cons (s _ _ (fun e => by
      obtain ⟨yb, eb⟩ := B.at
      unfold PrT at h
      rw [e, eb] at h; cases h) h fun _ z => by cases z) (q.kn B s)
theorem FrsT.ext {G G' : Hp} (s : LamX.ExtN G G') : ∀ {xs : List V} {fs : List Fr}, FrsT G xs fs → FrsT G' xs fs
  | _, _, .nil => .nil
  | _, _, .cons h q => .cons (s _ _ h fun _ z => by cases z) (q.ext s)
theorem FrsT.cutV {G : Hp} {xs : List V} {fs : List Fr} (h : FrsT G xs fs) (k : Nat) : FrsT G (L2.cutV xs none (some (k : Int))) (fs.take k) := by
  rw [cutV_take]
  exact h.take k
section
variable {P : Program} {w : World} {K : PySem.W.Frag} {mg : Str → Option Value} {base : Heap}
def sp_range (TL : List (Addr × Str)) : Sp := fun vs H Q _ => ∃ (b c : Addr) (size : Int), vs = [.ref b, .int size] ∧ Bag H b c ∧ Tabs TL H ∧ 1 ≤ size ∧ size ≤ 40 ∧
  ∀ t zs gs H', Bag H' b c → Tabs TL H' → KN b H H' → H' t = some (.tup zs) → FrsT H' zs gs → gs.Pairwise (fun f g => ltF f g = true) → 1 ≤ gs.length → (gs.length : Int) ≤ size → (∀ f ∈ gs, okB 60 f) → Q (.ref t) H'
theorem ok__law_range (T : Txt w K mg) (hB : ∀ p ∈ T.cs, TabB base mg p.1 p.2) : FnOk P w K mg base CX0 5 T.a__law_range T.d__law_range ["bag", "size"] (sp_range T.TL) := by
  refine T.F__law_range.ok sc__law_range (fun vs H Q E h => ?_) (fun cdv A outer s H vs Q E hr h => ?_)
  · obtain ⟨b, c, n, rfl, _⟩ := h
    rfl
  · obtain ⟨b, c, n, rfl, B, tb, n1, n40, k⟩ := h
    have hr__law_draw : Room 1 _ := hr.mono (by decide)
    have G__law_draw := ok__law_draw (P := P) (base := base) T
    have hr__law_of : Room 2 _ := hr.mono (by decide)
    have G__law_of := ok__law_of (P := P) (base := base) T
    have hr__law_low : Room 1 _ := hr.mono (by decide)
    have G__law_low := ok__law_low (P := P) (base := base) T
    have hr__law_rising : Room 4 _ := hr.mono (by decide)
    have G__law_rising := ok__law_rising (P := P) (base := base) T hB
    have hu1 : (A.deeper (envOfC "_law_range" (defScope s__law_range) s.heap.objs.size T.a__law_range cdv)).units + 1 < cLine := Nat.lt_of_le_of_lt (Nat.add_le_add_left (by decide : 1 ≤ 64) _) hr.units
    refine ⟨_, (pss_cons (ps_asg (pe_tupU (pa_cons (pe_call G__law_draw hr__law_draw (by rfl) T.m__law_draw T.F__law_draw.kp T.B__law_draw .nil pass0 (pa_cons (pv 0) (pa_cons pe_int pa_nil))) (pa_cons (pe_call G__law_of hr__law_of (by rfl) T.m__law_of T.F__law_of.kp T.B__law_of .nil pass0 (pa_cons (pv 0) (pa_cons (pe_lstU (pa_cons pe_int (pa_cons pe_int (pa_cons pe_int (pa_cons pe_int (pa_cons pe_int pa_nil)))))) pa_nil))) pa_nil))) (pg_tup rfl (pgs_cons (pg_name (i := 2) sc__law_range.nd rfl (Or.inr rfl)) (pgs_cons (pg_name (i := 3) sc__law_range.nd rfl (Or.inr rfl)) pgs_nil))))
      (pss_cons (ps_set (i := 4) sc__law_range.nd rfl (Or.inr rfl) (pe_ifExp (PW.pt (pw_or (pt_cmpR op_gt (pv 1) pe_int (nomark _)) (pw_or1 (pt_cmpR op_eqI (pe_call G__law_draw hr__law_draw (by rfl) T.m__law_draw T.F__law_draw.kp T.B__law_draw .nil pass0 (pa_cons (pv 0) (pa_cons pe_int pa_nil))) pe_int (nomark _))))) (pv 3) pe_int))
      (pss_cons (ps_setLc (i := 5) (own := [("k", 7)]) (g := gName 7) (tt := tYes) rfl sc__law_range.nd rfl rfl (sw_true rfl rfl rfl (by decide +kernel)) (pi_range1 (by rfl) T.n_range (pa_cons (pe_op op_add pe_int (pe_call G__law_draw hr__law_draw (by rfl) T.m__law_draw T.F__law_draw.kp T.B__law_draw .nil pass0 (pa_cons (pv 0) (pa_cons (pv 1) pa_nil)))) pa_nil)) (blkOk_by (own := [("k", 7)]) (N := N__law_range) (sc := defScope s__law_range) (by decide +kernel)) (fun _ _ _ _ _ => pg_name (i := 7) sc__law_range.nd rfl (Or.inl rfl)) (fun _ _ _ _ _ => pts_nil) (fun _ _ _ _ _ => (pe_call G__law_low hr__law_low (by rfl) T.m__law_low T.F__law_low.kp T.B__law_low .nil pass0 (pa_cons (pe_op op_sub (pe_op op_mul (pv 7) (pv 3)) (pv 2)) (pa_cons (pv 4) pa_nil)))))
      (pss_cons (ps_set (i := 6) sc__law_range.nd rfl (Or.inl rfl) (pe_slice sl_listU (pe_lstU (pa_cons (pe_tupU (pa_cons (pe_un un_neg pe_int) (pa_cons pe_int pa_nil))) (pa_cons (pe_tupU (pa_cons pe_int (pa_cons pe_int pa_nil))) (pa_cons (pe_tupU (pa_cons pe_int (pa_cons pe_int pa_nil))) (pa_cons (pe_tupU (pa_cons pe_int (pa_cons pe_int pa_nil))) pa_nil))))) po_none (po_some (pe_call G__law_draw hr__law_draw (by rfl) T.m__law_draw T.F__law_draw.kp T.B__law_draw .nil pass0 (pa_cons (pv 0) (pa_cons pe_int pa_nil))))))
      (pss_one (ps_ret (pe_call G__law_rising hr__law_rising (by rfl) T.m__law_rising T.F__law_rising.kp T.B__law_rising .nil pass0 (pa_cons (pe_op op_catL (pv 5) (pe_slice sl_listU (pv 6) po_none (po_some (pe_callB (call_max2 rfl) (by rfl) T.n_max (by decide +kernel) (pa_cons pe_int (pa_cons (pe_op op_sub (pv 1) (pe_callB call_len_seq (by rfl) T.n_len (by decide +kernel) (pa_cons (pv 5) pa_nil))) pa_nil)))))) pa_nil)))))))), ?_⟩
    refine seq_op fun N hN => ?_
    walk_at "rs"
    refine ⟨b, c, 9, rfl, B, by decide, by decide, fun r1 H1 r10 r11 B1 K1 => ⟨by decide, fun p H2 s2 p0 e2 => of_new B1 s2 p0 e2 (by simp) (by decide) fun y H3 hy B3 K3 => ?_⟩⟩
    obtain ⟨st, rfl, st1, st5⟩ : ∃ st : Int, y = .int st ∧ 1 ≤ st ∧ st ≤ 5 := by
      simp only [List.mem_cons, List.not_mem_nil, or_false] at hy
      rcases hy with h | h | h | h | h <;> exact ⟨_, h, by decide, by decide⟩
    refine ⟨by decide, fun q H4 s4 n4 e4 => ⟨q, _, rfl, .inl (.inl e4), rfl, .int r1, [.int st], rfl, .int st, [], rfl, rfl, hN _ _ ?_⟩⟩
    clear hN N
    have B4 := B3.same s4
    have K4 : Kp b H H4 := Same.trans K1 (Same.trans K3 (Kp.of s4))
    refine cut_seq (fun σ G => ∃ un : Int, σ = [some (.ref b), some (.int n), some (.int r1), some (.int st), some (.int un), none, none, none] ∧ 1 ≤ un ∧ un ≤ 5 ∧ Bag G b c ∧ Kp b H G) (fun N hN => ?_) ?_
    · walk_at "rs"
      refine ite2 (fun _ => hN _ _ ⟨st, rfl, st1, st5, B4, K4⟩) (fun _ => ⟨b, c, 2, rfl, B4, by decide, by decide, fun r H5 r0 r2 B5 K5 => ⟨r, rfl, ite2 (fun _ => hN _ _ ⟨st, rfl, st1, st5, B5, Same.trans K4 K5⟩) (fun _ => hN _ _ ⟨1, rfl, by decide, by decide, B5, Same.trans K4 K5⟩)⟩⟩)
    clear K4 B4 e4 n4 s4 K3 B3 hy e2 p0 s2 K1 B1
    rintro σ G0 ⟨un, rfl, un1, un5, B4, K4⟩
    refine seq_op fun N hN => ?_
    walk_at "rs"
    refine ⟨_, rfl, _, rfl, b, c, n, rfl, B4, by omega, by omega, fun r H5 r0 rn B5 K5 => ⟨1, r, rfl, rfl, _, rfl, by omega, by omega, fun D hD => ?_⟩⟩
    have K5' : Kp b H H5 := Same.trans K4 K5
    refine lc_rngI (n := (1 + r).toNat) (fun i G ys => ∃ fs, FrsT G ys fs ∧ Same H5 G ∧ ∀ f ∈ fs, okB 60 f) (by omega) ⟨[], .nil, same_upd hD, fun f h => by cases h⟩ (fun i G ys hi hG hl ⟨fs, f1, sg, okf⟩ Q2 hq => ?_) fun G ys hG hl ⟨fs, f1, sg, okf⟩ => hN _ _ ?_
    · walk_at "rs"
      have bp : (((0 + (i : Int)) * st - r1)).natAbs < 2 ^ 60 := by
        have h1 : (i : Int) * st ≤ 40 * 5 := Int.mul_le_mul (by omega) st5 (by omega) (by omega)
        have h2 : 0 ≤ (i : Int) * st := Int.mul_nonneg (by omega) (by omega)
        rw [Int.zero_add]; omega
      have bq : un.natAbs < 2 ^ 60 := by omega
      have un0 : un ≠ 0 := by omega
      refine ⟨.inr ⟨by omega, by omega⟩, _, _, ⟨rfl, rfl⟩, un0, pow_le bp (by decide), pow_le bq (by decide), fun t G2 s2 n2 e2 => hq _ _ (s2 _ _ hG) ⟨fs ++ [lowF ((0 + (i : Int)) * st - r1) un], ?_, fun q o e => ?_, fun f hf => ?_⟩⟩
      · exact ((f1.same s2).upd (s2 _ _ hG)).app (.cons (PrT.upd (s2 _ _ hG) e2) .nil)
      · rw [upd_ne (ne_of_none e hD)]; exact s2 _ _ (sg _ _ e)
      · rcases List.mem_append.mp hf with hf | hf
        · exact okf f hf
        · rw [List.mem_singleton.mp hf]; exact okB_low un0 bp bq
    clear hN N
    refine seq_op fun N hN => ?_
    walk_at "rs"
    refine ⟨by decide, fun p0 J0 s0 m0 e0 => ⟨by decide, fun p1 J1 s1 m1 e1 => ⟨by decide, fun p2 J2 s2 m2 e2 => ⟨by decide, fun p3 J3 s3 m3 e3 => ⟨by decide, fun p4 J4 s4 m4 e4 => ?_⟩⟩⟩⟩⟩
    have s13 := Same.trans s1 (Same.trans s2 s3)
    have s23 := Same.trans s2 s3
    have sG4 := Same.trans s0 (Same.trans s13 s4)
    have hEx : FrsT J4 [.ref p0, .ref p1, .ref p2, .ref p3] [(-99, 1), (99, 1), (1, 9999), (1, 2)] :=
      .cons (Same.trans s13 s4 _ _ e0) (.cons (Same.trans s23 s4 _ _ e1) (.cons (Same.trans s3 s4 _ _ e2) (.cons (s4 _ _ e3) .nil)))
    have B6 : Bag G b c := B5.same sg
    have B7 : Bag J4 b c := B6.same sG4
    have n4b : p4 ≠ b := by
      have B3 : Bag J3 b c := B6.same (Same.trans s0 s13)
      exact new_ne B3 m4
    refine ⟨b, c, 5, rfl, B7, by decide, by decide, fun x H6 x0 x5 B8 K8 => ⟨x, rfl, _, SqL.of (K8.hd e4 n4b), fun p5 H7 s7 n7 e7 => hN _ _ ?_⟩⟩
    clear hN N
    obtain ⟨xn, rfl⟩ := Int.eq_ofNat_of_zero_le x0
    have hEx7 := ((hEx.kp B7 K8).same s7).cutV xn
    have hL7 : H7 D = some (.lst ys) := s7 _ _ (K8.hd (sG4 _ _ hG) (B5.ne2 hD).1.symm)
    have f7 := ((f1.same sG4).kp B7 K8).same s7
    have B9 := B8.same s7
    have K9 : Kp b H H7 := Same.trans K5' (Same.trans (Kp.of (Same.trans sg sG4)) (Same.trans K8 (Kp.of s7)))
    have okE : ∀ f ∈ ([(-99, 1), (99, 1), (1, 9999), (1, 2)] : List Fr).take xn, okB 60 f := fun f hf => by
      have : ∀ f ∈ ([(-99, 1), (99, 1), (1, 9999), (1, 2)] : List Fr), okB 60 f := by unfold okB; decide +kernel
      exact this f (List.mem_of_mem_take hf)
    have lE : (([(-99, 1), (99, 1), (1, 9999), (1, 2)] : List Fr).take xn).length ≤ 4 := by rw [List.length_take]; exact Nat.min_le_right _ _
    generalize cutV [V.ref p0, V.ref p1, V.ref p2, V.ref p3] none (some (Int.ofNat xn)) = us at *
    generalize ([(-99, 1), (99, 1), (1, 9999), (1, 2)] : List Fr).take xn = es at *
    walk_at "rs"
    have fl := f1.len
    have ln : (ys.length : Int) ≤ n := by omega
    refine ⟨ys, .inl (.inl (.inl hL7)), 0, _, ⟨rfl, rfl⟩, us, SqL.of e7, fun p6 H8 s8 n8 e8 => ?_⟩
    obtain ⟨j, hj, hj2⟩ : ∃ j : Nat, (if n - (ys.length : Int) > 0 then n - (ys.length : Int) else 0) = (j : Int) ∧ (ys.length : Int) + j ≤ n := by
      refine ⟨(n - (ys.length : Int)).toNat, ?_, by omega⟩
      split <;> omega
    rw [hj] at e8
    have f8 := (hEx7.cutV j).same s8
    have lj : (es.take j).length ≤ j := by rw [List.length_take]; exact Nat.min_le_left _ _
    have okj : ∀ f ∈ es.take j, okB 60 f := fun f hf => okE f (List.mem_of_mem_take hf)
    have f88 := f7.same s8
    have lc := f8.len
    generalize cutV us none (some (j : Int)) = cs at *
    generalize es.take j = gs2 at *
    refine ⟨ys, s8 _ _ hL7, cs, e8, Nat.le_trans (show ys.length + cs.length ≤ 100 by omega) (by decide), fun p7 H9 s9 n9 e9 => ?_⟩
    have B10 := (B9.same s8).same s9
    have K10 : Kp b H H9 := Same.trans K9 (Kp.of (Same.trans s8 s9))
    refine ⟨p7, _, fs ++ gs2, rfl, Tabs.kp B tb K10, .inl (.inl (.inl e9)), (f88.app f8).same s9, fun f hf => ?_, ?_, fun t zs gs H10 x10 t10 h10 f10 srt l10 => ?_⟩
    · rcases List.mem_append.mp hf with hf | hf
      · exact (okf f hf).le (by decide)
      · exact (okj f hf).le (by decide)
    · rw [List.length_append]; omega
    · refine k t zs gs H10 (B10.ext x10) t10 (KN.trans (KN.kp K10) (KN.ext x10)) h10 f10 srt.1 ?_ ?_ fun f hf => ?_
      · have h1 : 0 < fs.length := by omega
        have := (srt.2 fs[0]).mpr (List.mem_append_left _ (List.getElem_mem h1))
        exact List.length_pos_of_mem this
      · rw [List.length_append] at l10; omega
      · rcases List.mem_append.mp ((srt.2 f).mp hf) with hf | hf
        · exact okf f hf
        · exact okj f hf
end
end LK

set_option Elab.async false
set_option linter.all false
set_option maxRecDepth 100000
namespace LK
open PySem PySem.Spec PyProof.Rows L2
local macro_rules | `(tactic| walk_at "rs") => `(tactic| simp only [cxK, cxNK, tCallZ, tAsg, tOp, rI0, rS0, rB0, rI, rU, tUn, rEq, rNe, rIxL, rIxT, rIxS, rSetL, rSlLU, rSlS, rSlU, rCatL, rCatU, rRepL, rIn, tVar, tC, gName, gSub, tIfS, tTest, tB, tAnd, tOr, tNot, tNotV, tAndV, tOrV, tIf, tCall, tCons, tNil, tCB, tDrop, tRet, tRetN, tNext, tLstU, tTupU, tM0, tM1, tPar, tPar3, tAug, ipI, tBM, tBM0, rAppend, rPop, tBreak, tCont, tChain, tSl, tPart, tNoPart, L2.start, List.map, List.length_cons, List.length_nil, List.replicate, List.cons_append, List.nil_append, List.append_nil, List.getElem?_cons_zero, List.getElem?_cons_succ, List.set_cons_zero, List.set_cons_succ, Option.some.injEq, V.int.injEq, V.ref.injEq, V.str.injEq, V.bl.injEq, exists_eq_left', exists_eq_left, exists_and_left, decide_eq_true_eq, List.cons.injEq, and_true, true_and, scal, Bool.not_eq_true', decide_eq_false_iff_not, Nat.zero_add, Nat.reduceAdd, Nat.reduceSub, reduceCtorEq, false_and, exists_false, false_or, or_false, CPow, CMul, CDiv, Int.reduceToNat, ↓reduceIte, wipe, sw, List.nil_append, List.singleton_append])
local macro_rules | `(tactic| walk_at "st") => `(tactic| (refine seq_op fun N hN => ?_; walk_at "rs"))
local macro_rules | `(tactic| walk_at "sd") => `(tactic| first | assumption | decide | omega)
local macro_rules | `(tactic| walk_at "rd") => `(tactic| repeat (first
  | refine ⟨_, SqL.of (by assumption), ?_⟩ | refine ⟨_, SqL.of upd_same, ?_⟩ | refine ⟨_, .inl (SqL.of (by assumption)), ?_⟩ | refine ⟨_, (by assumption : _ = some (HO.lst _)), ?_⟩ | refine ⟨_, upd_same, ?_⟩
  | refine ⟨_, rfl, ?_⟩ | refine And.intro (by walk_at "sd") ?_))

open LamX (Tabs TabS ExtN TabB)
/-! ### means, as the law asks -/
/-- data that can be laid, so deep at most -/
def Lay (n : Nat) (d : PyData) : Prop := PyData.canLay0 d = true ∧ d.depth ≤ n
theorem lay_all {n : Nat} : ∀ {ds : List PyData}, (∀ d ∈ ds, Lay n d) → PyData.canLayAll0 ds = true ∧ PyData.depthAll ds ≤ n
  | [], _ => ⟨rfl, Nat.zero_le _⟩
  | d :: ds, h => by
    obtain ⟨h1, h2⟩ := lay_all (ds := ds) fun x hx => h x (List.mem_cons_of_mem _ hx)
    obtain ⟨h3, h4⟩ := h d List.mem_cons_self
    constructor
    · show (PyData.canLay0 d && PyData.canLayAll0 ds) = true
      rw [h3, h1]; rfl
    · show max _ (PyData.depthAll ds) ≤ n
      exact Nat.max_le.mpr ⟨h4, h2⟩
theorem lay_list {n : Nat} {ds : List PyData} (h : ∀ d ∈ ds, Lay n d) : Lay (n + 1) (.list ds) := by
  obtain ⟨h1, h2⟩ := lay_all h
  exact ⟨h1, by show PyData.depthAll ds + 1 ≤ n + 1; omega⟩
theorem lay_tup {n : Nat} {ds : List PyData} (h : ∀ d ∈ ds, Lay n d) : Lay (n + 1) (.tuple ds) := by
  obtain ⟨h1, h2⟩ := lay_all h
  exact ⟨h1, by show PyData.depthAll ds + 1 ≤ n + 1; omega⟩
theorem Lay.shaped {n : Nat} {d : PyData} (h : Lay n d) (hn : n ≤ 64) : SeqAt.shaped d = true := by
  unfold SeqAt.shaped
  rw [Bool.and_eq_true]
  exact ⟨h.1, decide_eq_true (Nat.le_trans h.2 hn)⟩
theorem Lay.refl {n : Nat} {d : PyData} (h : Lay n d) : PyData.eqv d d = true := SeqAt.eqv_refl _ h.1
theorem lay_fr (f : Fr) : Lay 1 (frD f) := ⟨rfl, Nat.le_refl 1⟩
theorem lay_frs (fs : List Fr) : ∀ d ∈ fs.map frD, Lay 1 d := fun d hd => by
  obtain ⟨f, _, rfl⟩ := List.mem_map.mp hd
  exact lay_fr f
/-- the same data on both sides -/
theorem neD_same {K : PySem.W.Frag} {H : Hp} {x y : V} {d : PyData} {n : Nat} {Q : VK} (hx : Dp K H x d) (hy : Dp K H y d) (h : Lay n d) (hn : n ≤ 64) (k : Q (.bl false) H) : rNeD K x y H Q := by
  refine ⟨d, d, hx, hy, h.shaped hn, h.shaped hn, ?_⟩
  rw [h.refl]; exact k
theorem asc_nodup {gs : List Fr} (h : gs.Pairwise (fun f g => ltF f g = true)) : gs.Nodup := h.imp fun {a b} h (e : a = b) => ltF_irr (f := b) (by rw [e] at h; exact h)
theorem val_ent : ∀ {ks : List Fr} {f : Fr}, f ∈ ks → (valV (ks.map entF) (keyF f)).isSome = true
  | k :: ks, f, h => by
    unfold valV
    rw [List.map_cons, List.find?_cons]
    by_cases e : (entF k).1 = keyF f
    · rw [decide_eq_true e]; rfl
    · rw [decide_eq_false e]
      refine val_ent ((List.mem_cons.mp h).resolve_left fun z => e ?_)
      rw [z]; rfl
theorem Frs.ext {K : PySem.W.Frag} {G G' : Hp} (s : LamX.ExtN G G') : ∀ {xs : List V} {fs : List Fr}, Frs K G xs fs → Frs K G' xs fs
  | _, _, .nil => .nil
  | _, _, .cons h q => .cons (ExtN.seqT s h) (q.ext s)
theorem FrsT.updT {H : Hp} {p : Addr} {ys : List (List L2.Key × V)} {o : HO} (hp : H p = some (.dT ys)) : ∀ {xs : List V} {fs : List Fr}, FrsT H xs fs → FrsT (L2.upd H p o) xs fs
  | _, _, .nil => .nil
  | _, _, .cons h q => .cons (by unfold PrT at h ⊢; rw [upd_ne (fun e => by rw [e, hp] at h; cases h)]; exact h) (q.updT hp)
section
variable {P : Program} {w : World} {K : PySem.W.Frag} {mg : Str → Option Value} {base : Heap}
def sp_right (TL : List (Addr × Str)) : Sp := fun vs H Q _ => ∃ (b c : Addr), vs = [.ref b] ∧ Bag H b c ∧ Tabs TL H ∧ ∀ H', Bag H' b c → Tabs TL H' → KN b H H' → Q (.bl true) H'
theorem ok__law_means_right (T : Txt w K mg) (hB : ∀ p ∈ T.cs, TabB base mg p.1 p.2) : FnOk P w K mg base CX0 17 T.a__law_means_right T.d__law_means_right ["bag"] (sp_right T.TL) := by
  refine T.F__law_means_right.ok sc__law_means_right (fun vs H Q E h => ?_) (fun cdv A outer s H vs Q E hr h => ?_)
  · obtain ⟨b, c, rfl, _⟩ := h
    rfl
  · obtain ⟨b, c, rfl, B, tb, k⟩ := h
    have hr__law_draw : Room 1 _ := hr.mono (by decide)
    have G__law_draw := ok__law_draw (P := P) (base := base) T
    have hr__law_wholes : Room 2 _ := hr.mono (by decide)
    have G__law_wholes := ok__law_wholes (P := P) (base := base) T
    have hr__law_every_mean : Room 2 _ := hr.mono (by decide)
    have G__law_every_mean := ok__law_every_mean (P := P) (base := base) T
    have hr_means : Room 16 _ := hr
    have G_means := ok_means (P := P) (base := base) T
    have hr__law_like_fractions : Room 4 _ := hr.mono (by decide)
    have G__law_like_fractions := ok__law_like_fractions (P := P) (base := base) T
    have hr__law_rising : Room 4 _ := hr.mono (by decide)
    have G__law_rising := ok__law_rising (P := P) (base := base) T hB
    have hu1 : (A.deeper (envOfC "_law_means_right" (defScope s__law_means_right) s.heap.objs.size T.a__law_means_right cdv)).units + 1 < cLine := Nat.lt_of_le_of_lt (Nat.add_le_add_left (by decide : 1 ≤ 64) _) hr.units
    refine ⟨_, (pss_cons (ps_par (i := 1) (j := 2) (by rfl) sc__law_means_right.nd rfl rfl (by decide) rfl rfl (pa_cons (pe_call G__law_wholes hr__law_wholes (by rfl) T.m__law_wholes T.F__law_wholes.kp T.B__law_wholes .nil pass0 (pa_cons (pv 0) pa_nil)) (pa_cons (pe_op op_add pe_int (pe_call G__law_draw hr__law_draw (by rfl) T.m__law_draw T.F__law_draw.kp T.B__law_draw .nil pass0 (pa_cons (pv 0) (pa_cons pe_int pa_nil)))) pa_nil)) (by rfl))
      (pss_cons (ps_set (i := 3) sc__law_means_right.nd rfl (Or.inl rfl) (pe_ifExp (pt_cmpR op_eqI (pe_call G__law_draw hr__law_draw (by rfl) T.m__law_draw T.F__law_draw.kp T.B__law_draw .nil pass0 (pa_cons (pv 0) (pa_cons pe_int pa_nil))) pe_int (nomark _)) (pe_callTy call_listU (by rfl) T.n_list (by decide +kernel) (pa_cons (pv 1) pa_nil)) (pe_callTy call_tupleN (by rfl) T.n_tuple (by decide +kernel) (pa_cons (pv 1) pa_nil))))
      (pss_cons (ps_set (i := 4) sc__law_means_right.nd rfl (Or.inr rfl) pe_dnewT)
      (pss_cons (ps_for PassesOwn.never rfl (pi_list (pe_call G__law_every_mean hr__law_every_mean (by rfl) T.m__law_every_mean T.F__law_every_mean.kp T.B__law_every_mean .nil pass0 (pa_cons (pv 1) (pa_cons (pv 2) pa_nil)))) (pg_name (i := 5) sc__law_means_right.nd rfl (Or.inl rfl)) (pss_one (ps_dput hu1 (pv 4) (pv 5) pe_bl rfl)))
      (pss_cons (ps_for PassesOwn.never rfl (pi_range1 (by rfl) T.n_range (pa_cons pe_int pa_nil)) (pg_name (i := 6) sc__law_means_right.nd rfl (Or.inl rfl)) (pss_cons (ps_set (i := 7) sc__law_means_right.nd rfl (Or.inl rfl) (pe_ifExp (pt_cmpR op_eqI (pv 6) pe_int (nomark _)) (pe_call G_means hr_means (by rfl) T.m_means T.F_means.kp T.B_means .nil pass0 (pa_cons (pv 3) (pa_cons (pv 2) pa_nil))) (pe_callZ (g := fun ws => sw ws) (gV := fun zs => sw zs) G_means hr_means (by rfl) T.m_means T.F_means.kp T.Z_means pass0 (pk_cons (pv 2) (pk_cons (pv 3) pk_nil)))))
      (pss_one (ps_if (PW.pt (pw_or (pt_not (pt_val (pe_call G__law_like_fractions hr__law_like_fractions (by rfl) T.m__law_like_fractions T.F__law_like_fractions.kp T.B__law_like_fractions .nil pass0 (pa_cons (pv 7) (pa_cons (pe_call G__law_rising hr__law_rising (by rfl) T.m__law_rising T.F__law_rising.kp T.B__law_rising .nil pass0 (pa_cons (pe_listKeys rfl (pv 4) (by rfl) T.n_list (by decide +kernel)) pa_nil)) pa_nil))))) (pw_or1 (pt_cmpR (op_neD hr.units) (pe_callTy call_listU (by rfl) T.n_list (by decide +kernel) (pa_cons (pv 3) pa_nil)) (pv 1) (nomark _))))) (pss_one (ps_ret pe_bl)) pss_nil))))
      (pss_one (ps_ret (pe_and (pe_cmpR op_eqI (pe_callB call_len_seq (by rfl) T.n_len (by decide +kernel) (pa_cons (pv 7) pa_nil)) (pe_callB call_len_dT (by rfl) T.n_len (by decide +kernel) (pa_cons (pv 4) pa_nil)) (nomark _)) (pe_one (pe_callB (cr_all rfl) (by rfl) T.n_all (by decide +kernel) (pa_cons (pe_lc (own := [("one", 5)]) (g := gName 5) (tt := tYes) rfl sc__law_means_right.nd (pi_tup (pv 7)) (blkOk_by (own := [("one", 5)]) (N := N__law_means_right) (sc := defScope s__law_means_right) (by decide +kernel)) (fun _ _ _ _ _ => pg_name (i := 5) sc__law_means_right.nd rfl (Or.inl rfl)) (fun _ _ _ _ _ => pts_nil) (fun _ _ _ _ _ => (pe_cmp (pc_din hu1 (pe_tupU (pa_cons (pe_ix (ix_tupK (K := K) rfl) (pv 5) pe_int (fun _ _ => rfl)) (pa_cons (pe_ix (ix_tupK (K := K) rfl) (pv 5) pe_int (fun _ _ => rfl)) pa_nil))) (pv 4))))) pa_nil))))))))))), ?_⟩
    refine seq_op fun N hN => ?_
    walk_at "rs"
    refine ⟨b, c, rfl, B, fun q xs ns H1 B1 K1 n1 e1 f1 l1 l4 bd => ⟨b, c, 8, rfl, B1, by decide, by decide, fun r H2 r0 r8 B2 K2 => ⟨r, rfl, _, _, ⟨rfl, rfl⟩, hN _ _ ?_⟩⟩⟩
    clear hN N
    obtain ⟨n, en, n1', n8⟩ : ∃ n : Nat, 1 + r = (n : Int) ∧ 1 ≤ n ∧ n ≤ 8 := ⟨(1 + r).toNat, by omega, by omega, by omega⟩
    rw [en]
    have nqb : q ≠ b := new_ne B n1
    have e2 := K2.hd e1 nqb
    have f2 := f1.kp B1 K2
    have K12 : Kp b H H2 := Same.trans K1 K2
    have tb2 := Tabs.kp B tb K12
    have lx := f2.len
    rw [List.length_map] at lx
    refine cut_seq (fun σ G => ∃ pa : Addr, σ = [some (.ref b), some (.ref q), some (.int n), some (.ref pa), none, none, none, none] ∧ (G pa = some (.lst xs) ∨ G pa = some (.tup xs)) ∧ Bag G b c ∧ Kp b H2 G ∧ H2 pa = none) (fun N hN => ?_) ?_
    · walk_at "rs"
      refine ⟨b, c, 2, rfl, B2, by decide, by decide, fun r H5 r0 r2 B5 K5 => ⟨r, rfl, ?_⟩⟩
      have e5 := K5.hd e2 nqb
      have np : ∀ p, H5 p = none → H2 p = none := fun p h => Kp.none K5 B5 h
      refine ite2 (fun _ => ⟨xs, .inl (.inl (.inl e5)), fun l H6 s6 n6 e6 => hN _ _ ⟨l, rfl, .inl e6, B5.same s6, Same.trans K5 (Kp.of s6), np l n6⟩⟩) (fun _ => ⟨xs, .inl (.inl e5), fun l H6 s6 n6 e6 => hN _ _ ⟨l, rfl, .inr e6, B5.same s6, Same.trans K5 (Kp.of s6), np l n6⟩⟩)
    clear en e1 f1 n1 K1 K2 r0 r8
    rintro σ H3 ⟨pa, rfl, hpa, B3, K3, npa⟩
    have e3 := K3.hd e2 nqb
    have f3 := f2.kp B2 K3
    have tb3 := Tabs.kp B2 tb2 K3
    have K13 : Kp b H H3 := Same.trans K12 K3
    clear e2 f2 tb2 npa K3 B2
    refine seq_op fun N hN => ?_
    walk_at "rs"
    refine fun d hd => hN _ _ ?_
    clear hN N
    have hB60 : ∀ v ∈ ns, v.natAbs ≤ 2 ^ 60 := fun v hv => Nat.le_of_lt (bd v hv)
    have cut1 : True := trivial
    refine cut_seq (fun σ G => ∃ (ks : List Fr) (x5 : Option V), σ = [some (.ref b), some (.ref q), some (.int n), some (.ref pa), some (.ref d), x5, none, none] ∧ Same H3 G ∧ G d = some (.dT (ks.map entF)) ∧ ks.Nodup ∧ (∀ f, f ∈ ks ↔ MeanOf ns n f) ∧ ks.length ≤ 495) (fun N hN => ?_) ?_
    · have sd : Same H3 (upd H3 d (.dT [])) := same_upd hd
      refine ⟨_, rfl, _, rfl, q, xs, ns, n, rfl, .inl (.inl (.inl (sd _ _ e3))), (f3.same sd).frs, l4, n8, hB60, fun t zs fs H4 s4 n4 e4 f4 mem l5 => ?_⟩
      have s34 := Same.trans sd s4
      have ht : SqL K H4 t zs := .inl (.inl e4)
      have nd0 : H3 d = none := hd
      refine ⟨t, rfl, ⟨_, ht⟩, for_list (K := K) (a := t) (xs := zs) (fun i σ G => ∃ (ks : List Fr) (x5 : Option V), σ = [some (.ref b), some (.ref q), some (.int n), some (.ref pa), some (.ref d), x5, none, none] ∧ Same H3 G ∧ G t = some (.lst zs) ∧ FrsT G zs fs ∧ G d = some (.dT (ks.map entF)) ∧ ks.Nodup ∧ ∀ f, f ∈ ks ↔ f ∈ fs.take i) ⟨[], none, rfl, s34, e4, f4, s4 _ _ upd_same, List.Pairwise.nil, fun f => by simp⟩ (fun i σ' G _ ⟨_, _, _, _, h, _⟩ => .inl (.inl h)) ?_ ?_⟩
      · rintro i y σ G hy ⟨ks, x5, rfl, sg, gt, ft, gd, nd', memk⟩
        obtain ⟨e, f, rfl, hf, he⟩ := ft.get' hy
        have ef : fs.take (i + 1) = fs.take i ++ [f] := by rw [List.take_succ, hf]; rfl
        have lk : ks.length ≤ 500 := Nat.le_trans (nodup_len' nd' fun f h => (memk f).mp h) (by rw [List.length_take]; omega)
        unfold sDPut
        walk_at "rs"
        refine ⟨_, DPut.t (k := keyF f) gd he (by rw [List.length_map]; exact Nat.lt_of_le_of_lt lk (by decide)), ?_⟩
        rw [putF_add]
        have ntd : t ≠ d := fun z => by rw [z, gd] at gt; cases gt
        refine ⟨fun b o z => by rw [upd_ne (ne_of_none z nd0)]; exact sg _ _ z, by rw [upd_ne ntd]; exact gt, ?_, _, upd_same, nodup_addF nd', fun g => by rw [mem_addF, memk, ef, List.mem_append, List.mem_singleton]⟩
        exact ft.updT gd
      · rintro σ G ⟨ks, x5, rfl, sg, gt, ft, gd, nd', memk⟩
        rw [f4.len, List.take_length] at memk
        exact hN _ _ ⟨ks, x5, rfl, sg, gd, nd', fun f => (memk f).trans (mem f), Nat.le_trans (nodup_len' nd' fun f h => (memk f).mp h) l5⟩
    · rintro σ G ⟨ks, x5, rfl, sg, gd, nd, mem, lk⟩
      have B4 := B3.same sg
      have tb4 := Tabs.same tb3 sg
      have gq := sg _ _ e3
      have gpa : G pa = some (.lst xs) ∨ G pa = some (.tup xs) := hpa.imp (sg _ _) (sg _ _)
      have gf := f3.same sg
      have K4 : KN b H G := KN.kp (Same.trans K13 (Kp.of sg))
      clear sg e3 hpa f3 K13 tb3 B3
      refine cut_seq (fun σ G2 => ∃ (x5 : Option V) (x6 : Option V) (t : Addr) (zs : List V) (gs : List Fr), σ = [some (.ref b), some (.ref q), some (.int n), some (.ref pa), some (.ref d), x5, x6, some (.ref t)] ∧ LamX.ExtN G G2 ∧ Tabs T.TL G2 ∧ SqT K G2 t zs ∧ Frs K G2 zs gs ∧ gs.Pairwise (fun f g => ltF f g = true) ∧ ∀ f, f ∈ gs ↔ MeanOf ns n f) (fun N hN => ?_) ?_
      · refine ⟨2, rfl, by decide, by decide, for_range (lo := 0) (n := 2) (fun i σ G2 => ∃ (x5 x6 x7 : Option V), σ = [some (.ref b), some (.ref q), some (.int n), some (.ref pa), some (.ref d), x5, x6, x7] ∧ LamX.ExtN G G2 ∧ Tabs T.TL G2 ∧ (i ≠ 0 → ∃ (t : Addr) (zs : List V) (gs : List Fr), x7 = some (.ref t) ∧ SqT K G2 t zs ∧ Frs K G2 zs gs ∧ gs.Pairwise (fun f g => ltF f g = true) ∧ ∀ f, f ∈ gs ↔ MeanOf ns n f)) ⟨x5, none, none, rfl, LamX.ExtN.refl _, tb4, fun h => absurd rfl h⟩ ?_ ?_⟩
        · rintro i σ G2 hi ⟨y5, x6, x7, rfl, xg, tg, _⟩
          have gq2 := xg _ _ gq fun _ z => by cases z
          have gd2 := xg _ _ gd fun _ z => by cases z
          have gf2 := gf.ext xg
          have gpa2 : SqL K G2 pa xs ∨ SqT K G2 pa xs := gpa.imp (fun h => .inl (.inl (xg _ _ h fun _ z => by cases z))) (fun h => .inl (.inl (xg _ _ h fun _ z => by cases z)))
          have mn : ∀ N2 : L2.St → Hp → Prop, (∀ σ G3, (∃ (t : Addr) (zs : List V) (gs : List Fr), σ = [some (.ref b), some (.ref q), some (.int n), some (.ref pa), some (.ref d), y5, some (.int (0 + i)), some (.ref t)] ∧ Same G2 G3 ∧ SqT K G3 t zs ∧ Frs K G3 zs gs ∧ gs.Pairwise (fun f g => ltF f g = true) ∧ (∀ f, f ∈ gs ↔ MeanOf ns n f) ∧ gs.length ≤ 4000) → N2 σ G3) → sp_means K [.ref pa, .int n] G2 (fun x H1 => N2 [some (.ref b), some (.ref q), some (.int n), some (.ref pa), some (.ref d), y5, some (.int (0 + i)), some x] H1) E0 := fun N2 hN2 =>
            ⟨pa, xs, ns, n, rfl, gpa2, gf2.frs, l4, n1', n8, hB60, fun t zs gs G3 s3 h3 f3 asc mem2 l3 => hN2 _ _ ⟨t, zs, gs, rfl, s3, h3, f3, asc, mem2, l3⟩⟩
          refine cut_seq (fun σ G3 => ∃ (t : Addr) (zs : List V) (gs : List Fr), σ = [some (.ref b), some (.ref q), some (.int n), some (.ref pa), some (.ref d), y5, some (.int (0 + i)), some (.ref t)] ∧ Same G2 G3 ∧ SqT K G3 t zs ∧ Frs K G3 zs gs ∧ gs.Pairwise (fun f g => ltF f g = true) ∧ (∀ f, f ∈ gs ↔ MeanOf ns n f) ∧ gs.length ≤ 4000) (fun N2 hN2 => ?_) ?_
          · have := mn N2 hN2
            walk_at "rs"
            refine ite2 (fun _ => this) (fun _ => this)
          rintro σ G3 ⟨t, zs, gs, rfl, s3, ht, hf, asc, memg, lg⟩
          clear mn
          have gd3 := s3 _ _ gd2
          have gq3 := s3 _ _ gq2
          have gf3 := gf2.same s3
          have gpa3 : SqL K G3 pa xs ∨ SqT K G3 pa xs := gpa2.imp (seqL_same s3) (Same.seqT s3)
          have tg3 := Tabs.same tg s3
          have xg3 := LamX.ExtN.trans xg (Same.extN s3)
          clear s3 gd2 gq2 gf2 gpa2 tg xg
          walk_at "rs"
          refine ⟨_, rfl, d, _, rfl, .inl gd3, fun l bs hl hk => ?_⟩
          obtain ⟨es, ee1, ee2, ee3⟩ := keys_es hk
          have up : Same G3 (upd G3 l (.lst (bs.map V.ref))) := same_upd hl
          have u1 : upd G3 l (.lst (bs.map V.ref)) l = some (.lst (es.map fun e => V.ref e.1)) := by rw [upd_same, ← ee1, List.map_map]; rfl
          generalize upd G3 l (.lst (bs.map V.ref)) = G4 at *
          have okK : ∀ f ∈ ks, okF f := fun f hf => mean_ok n8 hB60 ((mem f).mp hf)
          refine ⟨l, _, ks, rfl, Tabs.same tg3 up, .inl (.inl (.inl u1)), ee2 ▸ frsT_es (fun e he => up _ _ (ee3 e he)), okK, by omega, fun t2 zs2 gs2 G5 x5' t5 h5 f5 srt _ => ?_⟩
          have eg : gs2 = gs := asc_eq srt.1 asc fun x => (srt.2 x).trans ((mem x).trans (memg x).symm)
          subst eg
          have x35 := LamX.ExtN.trans (Same.extN up) x5'
          have ht5 := ExtN.seqT x35 ht
          have hf5 := hf.ext x35
          refine ⟨t, t2, zs, zs2, gs2, rfl, ht5, hf5, .inl (.inl h5), f5.frs, asc, fun f hf => mean_ok n8 hB60 ((memg f).mp hf), by omega, fun G6 s6 => ⟨true, rfl, iteFF (by decide) ?_⟩⟩
          have x36 := LamX.ExtN.trans x35 (Same.extN s6)
          have gq6 := x36 _ _ gq3 fun _ z => by cases z
          have gf6 := gf3.ext x36
          have gpa6 : SqL K G6 pa xs ∨ SqT K G6 pa xs := gpa3.imp (ExtN.seqL x36) (ExtN.seqT x36)
          refine ⟨xs, gpa6, fun l2 G7 s7 n7 e7 => neD_same (.lst (.inl (.inl e7)) (dp_frs (gf6.same s7).frs)) (.lst (.inl (.inl (s7 _ _ gq6))) (dp_frs (gf6.same s7).frs)) (lay_list (lay_frs _)) (by decide) ⟨false, rfl, iteFF (by decide) ⟨_, _, _, ⟨rfl, rfl, rfl⟩, LamX.ExtN.trans xg3 (LamX.ExtN.trans x36 (Same.extN s7)), Tabs.same (Tabs.same t5 s6) s7, fun _ => ⟨t, rfl, zs, Same.seqT s7 (Same.seqT s6 ht5), gs2, (hf5.same s6).same s7, asc, memg⟩⟩⟩⟩
        · rintro σ G2 ⟨y5, x6, x7, rfl, xg, tg, h⟩
          obtain ⟨t, zs, gs, rfl, h1, h2, h3, h4⟩ := h (by decide)
          exact hN _ _ ⟨y5, x6, t, zs, gs, rfl, xg, tg, h1, h2, h3, h4⟩
      · rintro σ G2 ⟨y5, x6, t, zs, gs, rfl, xg, tg, h1, h2, h3, h4⟩
        have gd2 := xg _ _ gd fun _ z => by cases z
        have lz : zs.length = ks.length := by
          rw [h2.len]
          exact Nat.le_antisymm (nodup_len' (asc_nodup h3) fun f hf => (mem f).mpr ((h4 f).mp hf)) (nodup_len' nd fun f hf => (h4 f).mpr ((mem f).mp hf))
        walk_at "rs"
        refine ⟨zs, .inr h1, d, _, rfl, gd2, _, rfl, iteTT (by rw [List.length_map, lz]) ?_⟩
        refine ⟨_, rfl, t, rfl, ⟨zs, h1⟩, fun D hD => lc_pure (walk_tup (K := K) (a := t) (xs := zs)) hD (by omega) (fun _ => .bl true) (fun H s => Same.seqT s h1) ?_ ?_ ?_⟩
        · rintro j y G3 G4 hj s1 ⟨rfl, hy1⟩
          obtain ⟨e, f, rfl, hf, he⟩ := (h2.same s1).get' hy1
          refine ⟨Same.refl _, rfl, fun Q2 hq => ?_⟩
          unfold tDIn
          walk_at "rs"
          refine ⟨_, he, _, rfl, _, he, _, rfl, by decide, fun p G5 s5 n5 e5 => ⟨_, .inr ⟨_, keyF f, p, .inl (s5 _ _ (s1 _ _ gd2)), rfl, e5, rfl⟩, ?_⟩⟩
          rw [val_ent ((mem f).mpr ((h4 f).mp (List.mem_of_getElem? hf)))]
          exact hq _ s5
        · exact fun x σ0 H0 Q0 Q1 h h0 => h _ _ h0
        · intro G3 s1 h1
          exact rall_true (ys := List.range zs.length) h1 (k _ (B4.ext (LamX.ExtN.trans xg (Same.extN s1))) (Tabs.same tg s1) (KN.trans K4 (KN.ext (LamX.ExtN.trans xg (Same.extN s1)))))
end
end LK

set_option Elab.async false
set_option linter.all false
set_option maxRecDepth 100000
namespace LK
open PySem PySem.Spec PyProof.Rows L2
local macro_rules | `(tactic| walk_at "rs") => `(tactic| simp only [cxK, cxNK, tCallZ, tAsg, tOp, rI0, rS0, rB0, rI, rU, tUn, rEq, rNe, rIxL, rIxT, rIxS, rSetL, rSlLU, rSlS, rSlU, rCatL, rCatU, rRepL, rIn, tVar, tC, gName, gSub, tIfS, tTest, tB, tAnd, tOr, tNot, tNotV, tAndV, tOrV, tIf, tCall, tCons, tNil, tCB, tDrop, tRet, tRetN, tNext, tLstU, tTupU, tM0, tM1, tPar, tPar3, tAug, ipI, tBM, tBM0, rAppend, rPop, tBreak, tCont, tChain, tSl, tPart, tNoPart, L2.start, List.map, List.length_cons, List.length_nil, List.replicate, List.cons_append, List.nil_append, List.append_nil, List.getElem?_cons_zero, List.getElem?_cons_succ, List.set_cons_zero, List.set_cons_succ, Option.some.injEq, V.int.injEq, V.ref.injEq, V.str.injEq, V.bl.injEq, exists_eq_left', exists_eq_left, exists_and_left, decide_eq_true_eq, List.cons.injEq, and_true, true_and, scal, Bool.not_eq_true', decide_eq_false_iff_not, Nat.zero_add, Nat.reduceAdd, Nat.reduceSub, reduceCtorEq, false_and, exists_false, false_or, or_false, CPow, CMul, CDiv, Int.reduceToNat, ↓reduceIte, wipe, sw, List.nil_append, List.singleton_append])
local macro_rules | `(tactic| walk_at "st") => `(tactic| (refine seq_op fun N hN => ?_; walk_at "rs"))
local macro_rules | `(tactic| walk_at "sd") => `(tactic| first | assumption | decide | omega)
local macro_rules | `(tactic| walk_at "rd") => `(tactic| repeat (first
  | refine ⟨_, SqL.of (by assumption), ?_⟩ | refine ⟨_, SqL.of upd_same, ?_⟩ | refine ⟨_, .inl (SqL.of (by assumption)), ?_⟩ | refine ⟨_, (by assumption : _ = some (HO.lst _)), ?_⟩ | refine ⟨_, upd_same, ?_⟩
  | refine ⟨_, rfl, ?_⟩ | refine And.intro (by walk_at "sd") ?_))

open LamX (Tabs TabS ExtN TabB)
/-! ### rows, as the law asks -/
theorem Tps.kn {K : PySem.W.Frag} {b c : Addr} {H H' : Hp} (B : Bag H b c) (k : KN b H H') : ∀ {xs : List V} {rs : List (List V)}, Tps K H xs rs → Tps K H' xs rs
  | _, _, .nil => .nil
  | _, _, .cons h q => .cons (KN.seqT B k h) (q.kn B k)
theorem FrsTs.kn {b c : Addr} {H H' : Hp} (B : Bag H b c) (k : KN b H H') : ∀ {xs : List (List V)} {rs : List (List Fr)}, FrsTs H xs rs → FrsTs H' xs rs
  | _, _, .nil => .nil
  | _, _, .cons h q => .cons (h.kn B k) (q.kn B k)
theorem FrsTs.upd {H : Hp} {p : Addr} {ys : List V} {o : HO} (hp : H p = some (.lst ys)) : ∀ {xs : List (List V)} {rs : List (List Fr)}, FrsTs H xs rs → FrsTs (L2.upd H p o) xs rs
  | _, _, .nil => .nil
  | _, _, .cons h q => .cons (h.upd hp) (q.upd hp)
theorem Tabs.updL {T : List (Addr × Str)} {H : Hp} {p : Addr} {ys : List V} {o : HO} (hp : H p = some (.lst ys)) (t : Tabs T H) : Tabs T (L2.upd H p o) := fun q hq => by
  obtain ⟨ps, h1, h2, h3⟩ := t q hq
  have n1 : q.1 ≠ p := fun e => by rw [e, hp] at h1; cases h1
  refine ⟨ps, by rw [upd_ne n1]; exact h1, h2, fun pos cv hc => ?_⟩
  obtain ⟨c0, e1, e2⟩ := h3 pos cv hc
  refine ⟨c0, e1, ?_⟩
  rw [upd_ne]; exact e2
  intro e; rw [e, hp] at e2; exact codeO_lst (Option.some.inj e2).symm
/-- a tuple of fractions, as data -/
def spD (fs : List Fr) : PyData := .tuple (fs.map frD)
theorem dp_rows {K : PySem.W.Frag} {H : Hp} : ∀ {ts : List V} {rs : List (List V)} {fss : List (List Fr)}, Tps K H ts rs → FrsTs H rs fss → DpAll K H ts (fss.map spD)
  | _, _, _, .nil, .nil => .nil
  | _, _, _, .cons h q, .cons h2 q2 => .cons (.tup h (dp_frs h2.frs)) (dp_rows q q2)
theorem lay_sp (fs : List Fr) : Lay 2 (spD fs) := lay_tup (lay_frs fs)
theorem lay_rows (fss : List (List Fr)) : ∀ d ∈ fss.map spD, Lay 2 d := fun d hd => by
  obtain ⟨f, _, rfl⟩ := List.mem_map.mp hd
  exact lay_sp f
theorem at_last (xs : List V) (v : V) : atI (xs ++ [v]) (-1) = some v := by
  have e : ixN (xs.length + 1) (-1) = some xs.length := by
    unfold ixN
    rw [if_neg (by decide), if_pos (by omega)]
    congr 1
    omega
  unfold atI
  rw [List.length_append, List.length_singleton, e]
  simp
theorem growV_at {c : List V} : ∀ {acc : List (List V)} {k : Nat} {a : List V} {v : V}, acc[k / c.length]? = some a → c[k % c.length]? = some v → (growV acc c)[k]? = some (a ++ [v])
  | [], k, a, v, h, _ => by simp at h
  | x :: acc, k, a, v, h, hv => by
    have hc : 0 < c.length := Nat.lt_of_le_of_lt (Nat.zero_le _) (List.getElem?_eq_some_iff.mp hv).1
    have e : growV (x :: acc) c = (c.map fun v => x ++ [v]) ++ growV acc c := by unfold growV; rw [List.flatMap_cons]
    rw [e]
    by_cases lt : k < c.length
    · rw [Nat.div_eq_of_lt lt] at h
      rw [Nat.mod_eq_of_lt lt] at hv
      have := Option.some.inj h
      subst this
      rw [List.getElem?_append_left (by rw [List.length_map]; exact lt), List.getElem?_map, hv]; rfl
    · have ge : c.length ≤ k := Nat.le_of_not_lt lt
      have hd : k / c.length = (k - c.length) / c.length + 1 := by rw [Nat.div_eq_sub_div hc ge]
      have hm : k % c.length = (k - c.length) % c.length := by rw [Nat.mod_eq_sub_mod ge]
      rw [hd, List.getElem?_cons_succ] at h
      rw [hm] at hv
      rw [List.getElem?_append_right (by rw [List.length_map]; exact ge), List.length_map]
      exact growV_at h hv
theorem growV_at' {c : List V} {acc : List (List V)} {k : Nat} {r : List V} (hc : 0 < c.length) (h : (growV acc c)[k]? = some r) : ∃ a v, acc[k / c.length]? = some a ∧ c[k % c.length]? = some v ∧ r = a ++ [v] := by
  have hk : k < acc.length * c.length := by
    have := (List.getElem?_eq_some_iff.mp h).1
    rwa [growV_len] at this
  have h1 : k / c.length < acc.length := Nat.div_lt_of_lt_mul (by rw [Nat.mul_comm]; exact hk)
  have h2 : k % c.length < c.length := Nat.mod_lt _ hc
  have := growV_at (acc := acc) (c := c) (List.getElem?_eq_getElem h1) (List.getElem?_eq_getElem h2)
  rw [this] at h
  exact ⟨_, _, List.getElem?_eq_getElem h1, List.getElem?_eq_getElem h2, (Option.some.inj h).symm⟩
section
variable {P : Program} {w : World} {K : PySem.W.Frag} {mg : Str → Option Value} {base : Heap}
theorem ok__law_rows_right (T : Txt w K mg) (hB : ∀ p ∈ T.cs, TabB base mg p.1 p.2) : FnOk P w K mg base CX0 6 T.a__law_rows_right T.d__law_rows_right ["bag"] (sp_right T.TL) := by
  refine T.F__law_rows_right.ok sc__law_rows_right (fun vs H Q E h => ?_) (fun cdv A outer s H vs Q E hr h => ?_)
  · obtain ⟨b, c, rfl, _⟩ := h
    rfl
  · obtain ⟨b, c, rfl, B, tb, k⟩ := h
    have hr__law_draw : Room 1 _ := hr.mono (by decide)
    have G__law_draw := ok__law_draw (P := P) (base := base) T
    have hr__law_of : Room 2 _ := hr.mono (by decide)
    have G__law_of := ok__law_of (P := P) (base := base) T
    have hr__law_range : Room 5 _ := hr
    have G__law_range := ok__law_range (P := P) (base := base) T hB
    have hr_rows_of_values : Room 1 _ := hr.mono (by decide)
    have G_rows_of_values := ok_rows_of_values (P := P) (base := base) T
    have hr__law_like : Room 3 _ := hr.mono (by decide)
    have G__law_like := ok__law_like (P := P) (base := base) T 2
    refine ⟨_, (pss_cons (ps_par (i := 1) (j := 2) (by rfl) sc__law_rows_right.nd rfl rfl (by decide) rfl rfl (pa_cons (pe_lstU pa_nil) (pa_cons pe_int pa_nil)) (by rfl))
      (pss_cons (ps_for PassesOwn.never rfl (pi_range1 (by rfl) T.n_range (pa_cons (pe_call G__law_draw hr__law_draw (by rfl) T.m__law_draw T.F__law_draw.kp T.B__law_draw .nil pass0 (pa_cons (pv 0) (pa_cons pe_int pa_nil))) pa_nil)) (pg_name (i := 3) sc__law_rows_right.nd rfl (Or.inl rfl)) (pss_cons (ps_expr (pe_bm PySem.F.plainAttrs_list PySem.F.slot_list_append PySem.F.type_list_append mt_append (pv 1) (pa_cons (pe_call G__law_range hr__law_range (by rfl) T.m__law_range T.F__law_range.kp T.B__law_range .nil pass0 (pa_cons (pv 0) (pa_cons (pe_callB (call_min2 rfl) (by rfl) T.n_min (by decide +kernel) (pa_cons (pv 2) (pa_cons (pe_call G__law_of hr__law_of (by rfl) T.m__law_of T.F__law_of.kp T.B__law_of .nil pass0 (pa_cons (pv 0) (pa_cons (pe_lstU (pa_cons pe_int (pa_cons pe_int (pa_cons pe_int (pa_cons pe_int (pa_cons pe_int (pa_cons pe_int pa_nil))))))) pa_nil))) pa_nil))) pa_nil))) pa_nil)))
      (pss_one (ps_set (i := 2) sc__law_rows_right.nd rfl (Or.inl rfl) (pe_op op_fdiv (pv 2) (pe_callB call_len (by rfl) T.n_len (by decide +kernel) (pa_cons (pe_ix ix_list (pv 1) (pe_un un_neg pe_int) (fun _ _ => rfl)) pa_nil)))))))
      (pss_cons (ps_set (i := 4) sc__law_rows_right.nd rfl (Or.inl rfl) (pe_ifExp (pt_cmpR op_eqI (pe_call G__law_draw hr__law_draw (by rfl) T.m__law_draw T.F__law_draw.kp T.B__law_draw .nil pass0 (pa_cons (pv 0) (pa_cons pe_int pa_nil))) pe_int (nomark _)) (pe_callTy call_listU (by rfl) T.n_list (by decide +kernel) (pa_cons (pv 1) pa_nil)) (pe_callTy call_tupleN (by rfl) T.n_tuple (by decide +kernel) (pa_cons (pv 1) pa_nil))))
      (pss_cons (ps_set (i := 5) sc__law_rows_right.nd rfl (Or.inl rfl) pe_int)
      (pss_cons (ps_for PassesOwn.never rfl (pi_list (pv 1)) (pg_name (i := 6) sc__law_rows_right.nd rfl (Or.inl rfl)) (pss_one (ps_set (i := 5) sc__law_rows_right.nd rfl (Or.inl rfl) (pe_op op_mul (pv 5) (pe_callB call_len_seq (by rfl) T.n_len (by decide +kernel) (pa_cons (pv 6) pa_nil))))))
      (pss_cons (ps_for PassesOwn.never rfl (pi_range1 (by rfl) T.n_range (pa_cons pe_int pa_nil)) (pg_name (i := 7) sc__law_rows_right.nd rfl (Or.inl rfl)) (pss_cons (ps_set (i := 8) sc__law_rows_right.nd rfl (Or.inl rfl) (pe_ifExp (pt_cmpR op_eqI (pv 7) pe_int (nomark _)) (pe_call G_rows_of_values hr_rows_of_values (by rfl) T.m_rows_of_values T.F_rows_of_values.kp T.B_rows_of_values .nil pass0 (pa_cons (pv 4) pa_nil)) (pe_callZ (g := fun ws => ws) (gV := fun zs => zs) G_rows_of_values hr_rows_of_values (by rfl) T.m_rows_of_values T.F_rows_of_values.kp T.Z_rows_of_values pass0 (pk_cons (pv 4) pk_nil))))
      (pss_cons (ps_if (PW.pt (pw_or (pt_not (pt_val (pe_callB (call_isiDK (K := K) rfl) (by rfl) T.n_isinstance (by decide +kernel) (pa_cons (pv 8) (pa_cons (pe_bltn (v := .ty "list") (u := .type "list") (by rfl) T.n_list (by decide +kernel) rfl) pa_nil))))) (pw_or (pt_cmpR op_neI (pe_callB call_len_seq (by rfl) T.n_len (by decide +kernel) (pa_cons (pv 8) pa_nil)) (pv 5) (nomark _)) (pw_or1 (pt_cmpR (op_neD hr.units) (pe_callTy call_listU (by rfl) T.n_list (by decide +kernel) (pa_cons (pv 4) pa_nil)) (pv 1) (nomark _)))))) (pss_one (ps_ret pe_bl)) pss_nil)
      (pss_cons (ps_for PassesOwn.never rfl (pi_range1 (by rfl) T.n_range (pa_cons (pv 5) pa_nil)) (pg_name (i := 3) sc__law_rows_right.nd rfl (Or.inl rfl)) (pss_cons (ps_par (i := 9) (j := 10) (by rfl) sc__law_rows_right.nd rfl rfl (by decide) rfl rfl (pa_cons (pe_lstU pa_nil) (pa_cons (pv 3) pa_nil)) (by rfl))
      (pss_cons (ps_for PassesOwn.never rfl (pi_list (pe_revL (pv 1))) (pg_name (i := 6) sc__law_rows_right.nd rfl (Or.inl rfl)) (pss_cons (ps_set (i := 9) sc__law_rows_right.nd rfl (Or.inl rfl) (pe_op op_catL (pe_lstU (pa_cons (pe_ix ix_tup (pv 6) (pe_op op_mod (pe_callTy call_intI (by rfl) T.n_int (by decide +kernel) (pa_cons (pv 10) pa_nil)) (pe_callB call_len_seq (by rfl) T.n_len (by decide +kernel) (pa_cons (pv 6) pa_nil))) (fun _ _ => rfl)) pa_nil)) (pv 9)))
      (pss_one (ps_set (i := 10) sc__law_rows_right.nd rfl (Or.inl rfl) (pe_op op_fdiv (pv 10) (pe_callB call_len_seq (by rfl) T.n_len (by decide +kernel) (pa_cons (pv 6) pa_nil)))))))
      (pss_one (ps_if (pt_not (pt_val (pe_call G__law_like hr__law_like (by rfl) T.m__law_like T.F__law_like.kp T.B__law_like .nil pass0 (pa_cons (pe_ix ix_list (pv 8) (pv 3) (fun _ _ => rfl)) (pa_cons (pe_callTy call_tupleN (by rfl) T.n_tuple (by decide +kernel) (pa_cons (pv 9) pa_nil)) pa_nil))))) (pss_one (ps_ret pe_bl)) pss_nil)))))
      (pss_cons (ps_expr (pe_bm PySem.F.plainAttrs_list PySem.F.slot_list_append PySem.F.type_list_append mt_append (pv 8) (pa_cons (pe_tupU pa_nil) pa_nil)))
      (pss_one (ps_asg pe_non (pg_sub (pv 8) pe_int set_list))))))))
      (pss_one (ps_ret pe_bl)))))))), ?_⟩
    refine seq_op fun N hN => ?_
    walk_at "rs"
    refine ⟨by decide, fun p H1 s1 n1 e1 => ⟨_, _, ⟨rfl, rfl⟩, hN _ _ ?_⟩⟩
    clear hN N
    have npb : p ≠ b := new_ne B n1
    have B1 := B.same s1
    have tb1 := Tabs.same tb s1
    have K1 : KN b H H1 := KN.same s1
    clear s1
    refine cut_seq (fun σ G => ∃ (x2 x3 : Option V) (xs : List V) (rs : List (List V)) (fss : List (List Fr)), σ = [some (.ref b), some (.ref p), x2, x3, none, none, none, none, none, none, none] ∧ G p = some (.lst xs) ∧ Tps K G xs rs ∧ FrsTs G rs fss ∧ Bag G b c ∧ Tabs T.TL G ∧ KN b H G ∧ rs.length ≤ 4 ∧ rowsN rs ≤ 240 ∧ (∀ r ∈ rs, 1 ≤ r.length) ∧ ∀ r ∈ fss, ∀ f ∈ r, okB 60 f) (fun N hN => ?_) ?_
    · walk_at "rs"
      refine ⟨_, rfl, b, c, 5, rfl, B1, by decide, by decide, fun r H2 r0 r5 B2 K2 => ⟨_, rfl, by omega, by omega, for_range (lo := 0) (n := r.toNat) (fun i σ G => ∃ (room : Nat) (x3 : Option V) (xs : List V) (rs : List (List V)) (fss : List (List Fr)), σ = [some (.ref b), some (.ref p), some (.int room), x3, none, none, none, none, none, none, none] ∧ G p = some (.lst xs) ∧ Tps K G xs rs ∧ FrsTs G rs fss ∧ Bag G b c ∧ Tabs T.TL G ∧ KN b H G ∧ rs.length = i ∧ 1 ≤ room ∧ room ≤ 240 ∧ rowsN rs * room ≤ 240 ∧ (∀ r ∈ rs, 1 ≤ r.length) ∧ ∀ r ∈ fss, ∀ f ∈ r, okB 60 f) ⟨240, none, [], [], [], rfl, K2.hd e1 npb, .nil, .nil, B2, Tabs.kp B1 tb1 K2, KN.trans K1 (KN.kp K2), rfl, by decide, by decide, by decide, (fun r h => by cases h), (fun r h => by cases h)⟩ ?_ ?_⟩⟩
      · rintro i σ G hi ⟨room, x3, xs, rs, fss, rfl, gp, tp, ft, BG, tg, KG, li, ro1, ro2, rn, r1, okf⟩
        refine seq_op fun N2 hN2 => ?_
        walk_at "rs"
        refine ⟨.inl ⟨rfl, _, SqL.of gp⟩, by decide, fun p1 H3 s3 n3 e3 => of_new BG s3 n3 e3 (by simp) (by decide) fun y H4 hy B4 K4 => ?_⟩
        obtain ⟨sz, rfl, sz1, sz40⟩ : ∃ sz : Int, y = .int sz ∧ 1 ≤ sz ∧ sz ≤ 40 := by
          simp only [List.mem_cons, List.not_mem_nil, or_false] at hy
          rcases hy with h | h | h | h | h | h <;> exact ⟨_, h, by decide, by decide⟩
        obtain ⟨m, em, m1, m2, m3⟩ : ∃ m : Int, (if sz < (room : Int) then sz else room) = m ∧ 1 ≤ m ∧ m ≤ 40 ∧ m ≤ room := by
          refine ⟨_, rfl, ?_, ?_, ?_⟩ <;> split <;> omega
        refine ⟨room, sz, ⟨rfl, rfl⟩, b, c, m, by rw [em], B4, Tabs.kp BG tg K4, m1, m2, fun t zs gs H5 B5 t5 K5 h5 f5 asc g1 g2 okg => ?_⟩
        have K45 : KN b G H5 := KN.trans (KN.kp K4) K5
        have gp5 := KN.list K45 npb gp
        have ntp : t ≠ p := fun e => by rw [e, gp5] at h5; cases h5
        have lz := f5.len
        have lxs := tp.len
        refine ⟨xs, gp5, Nat.lt_of_le_of_lt (show xs.length ≤ 100 by omega) (by decide), hN2 _ _ ?_⟩
        clear hN2 N2
        have tp5 := (tp.kn BG K45).upd (o := .lst (xs ++ [V.ref t])) gp5
        have ft5 := (ft.kn BG K45).upd (o := .lst (xs ++ [V.ref t])) gp5
        have f55 := f5.upd (o := .lst (xs ++ [V.ref t])) gp5
        have h55 : upd H5 p (.lst (xs ++ [V.ref t])) t = some (.tup zs) := by rw [upd_ne ntp]; exact h5
        have B55 := B5.upd (o := .lst (xs ++ [V.ref t])) (B.ne2 n1).1 (B.ne2 n1).2
        have t55 := Tabs.updL (o := .lst (xs ++ [V.ref t])) gp5 t5
        have K55 : KN b H (upd H5 p (.lst (xs ++ [V.ref t]))) := fun a o na ha nt => by
          rw [upd_ne (ne_of_none ha n1)]; exact KN.trans KG K45 a o na ha nt
        have p55 : upd H5 p (.lst (xs ++ [V.ref t])) p = some (.lst (xs ++ [V.ref t])) := upd_same
        generalize upd H5 p (.lst (xs ++ [V.ref t])) = H6 at *
        have lz1 : 1 ≤ zs.length := by omega
        have lz2 : zs.length ≤ room := by omega
        have hdiv : 1 ≤ room / zs.length := (Nat.le_div_iff_mul_le (by omega)).mpr (by rw [Nat.one_mul]; exact lz2)
        walk_at "rs"
        refine ⟨_, SqL.of p55, _, at_last _ _, zs.length, .inr ⟨zs, .inl (.inl h55), rfl⟩, ⟨by omega, by omega⟩, room / zs.length, _, ⟨(Int.natCast_ediv _ _).symm, rfl⟩, _, p55, rs ++ [zs], tp5.app (.cons (.inl (.inl h55)) .nil), fss ++ [gs], ft5.app (.cons f55 .nil), B55, t55, K55, by rw [List.length_append, li]; rfl, hdiv, Nat.le_trans (Nat.div_le_self _ _) ro2, ?_, ?_, ?_⟩
        · rw [rowsN_snoc, Nat.mul_assoc]
          exact Nat.le_trans (Nat.mul_le_mul_left _ (Nat.mul_div_le _ _)) rn
        · intro r hr
          rcases List.mem_append.mp hr with hr | hr
          · exact r1 r hr
          · rw [List.mem_singleton.mp hr]; exact lz1
        · intro r hr
          rcases List.mem_append.mp hr with hr | hr
          · exact okf r hr
          · rw [List.mem_singleton.mp hr]; exact okg
      · rintro σ G ⟨room, x3, xs, rs, fss, rfl, gp, tp, ft, BG, tg, KG, li, ro1, ro2, rn, r1, okf⟩
        exact hN _ _ ⟨_, _, xs, rs, fss, rfl, gp, tp, ft, BG, tg, KG, by omega, Nat.le_trans (Nat.le_mul_of_pos_right _ ro1) rn, r1, okf⟩
    rintro σ G ⟨x2, x3, xs, rs, fss, rfl, gp, tp, ft, BG, tg, KG, lr, rn, r1, okf⟩
    clear tb1 B1 K1 e1
    have lxs := tp.len
    refine cut_seq (fun σ G2 => ∃ (pa : Addr), σ = [some (.ref b), some (.ref p), x2, x3, some (.ref pa), none, none, none, none, none, none] ∧ (G2 pa = some (.lst xs) ∨ G2 pa = some (.tup xs)) ∧ Bag G2 b c ∧ Kp b G G2) (fun N hN => ?_) ?_
    · walk_at "rs"
      refine ⟨b, c, 2, rfl, BG, by decide, by decide, fun r H5 r0 r2 B5 K5 => ⟨r, rfl, ?_⟩⟩
      have e5 := K5.hd gp npb
      exact ite2 (fun _ => ⟨xs, .inl (.inl (.inl e5)), fun l H6 s6 n6 e6 => hN _ _ ⟨l, rfl, .inl e6, B5.same s6, Same.trans K5 (Kp.of s6)⟩⟩) (fun _ => ⟨xs, .inl (.inl e5), fun l H6 s6 n6 e6 => hN _ _ ⟨l, rfl, .inr e6, B5.same s6, Same.trans K5 (Kp.of s6)⟩⟩)
    rintro σ G2 ⟨pa, rfl, hpa, B2, K2⟩
    have gp2 := K2.hd gp npb
    have tp2 := tp.kn BG (KN.kp K2)
    have ft2 := ft.kn BG (KN.kp K2)
    have tg2 := Tabs.kp BG tg K2
    have KG2 : KN b H G2 := KN.trans KG (KN.kp K2)
    clear gp tp ft tg KG K2 BG
    refine seq_op fun N hN => ?_
    walk_at "rs"
    refine hN _ _ ?_
    clear hN N
    refine cut_seq (fun σ G3 => ∃ (x6 : Option V), σ = [some (.ref b), some (.ref p), x2, x3, some (.ref pa), some (.int (rowsN rs)), x6, none, none, none, none] ∧ G3 = G2) (fun N hN => ?_) ?_
    · refine ⟨_, rfl, p, rfl, ⟨_, .inl (.inl gp2)⟩, for_list (K := K) (a := p) (xs := xs) (fun i σ G3 => ∃ (x6 : Option V), σ = [some (.ref b), some (.ref p), x2, x3, some (.ref pa), some (.int (rowsN (rs.take i))), x6, none, none, none, none] ∧ G3 = G2) ⟨none, rfl, rfl⟩ (fun i σ' G3 _ ⟨_, _, h⟩ => by rw [h]; exact .inl (.inl gp2)) ?_ ?_⟩
      · rintro i y σ G3 hy ⟨x6, rfl, rfl⟩
        obtain ⟨a, r, rfl, hr2, ha⟩ := tp2.at hy
        have er : rs.take (i + 1) = rs.take i ++ [r] := by rw [List.take_succ, hr2]; rfl
        have b1 : rowsN (rs.take i) ≤ 240 := Nat.le_trans (rowsN_take r1 i) rn
        walk_at "rs"
        exact ⟨r, .inr ha, .inl ⟨by omega, by omega⟩, by rw [er, rowsN_snoc, Int.natCast_mul], some (.ref a), rfl⟩
      · rintro σ G3 ⟨x6, rfl, rfl⟩
        rw [lxs, List.take_length]
        exact hN _ _ ⟨x6, rfl, rfl⟩
    rintro σ G3 ⟨x6, rfl, rfl⟩
    have hpa' : SqL K G3 pa xs ∨ SqT K G3 pa xs := hpa.imp (fun h => .inl (.inl h)) (fun h => .inl (.inl h))
    refine cut_seq (fun σ G => Same G3 G) (fun N hN => ?_) ?_
    · refine ⟨2, rfl, by decide, by decide, for_range (lo := 0) (n := 2) (fun i σ G => ∃ (y3 y6 y7 y8 y9 y10 : Option V), σ = [some (.ref b), some (.ref p), x2, y3, some (.ref pa), some (.int (rowsN rs)), y6, y7, y8, y9, y10] ∧ Same G3 G) ⟨_, _, _, _, _, _, rfl, Same.refl _⟩ ?_ ?_⟩
      · rintro i σ G hi ⟨y3, y6, y7, y8, y9, y10, rfl, sg⟩
        refine cut_seq (fun σ G1 => ∃ (t : Addr) (ts : List V), σ = [some (.ref b), some (.ref p), x2, y3, some (.ref pa), some (.int (rowsN rs)), y6, some (.int (0 + i)), some (.ref t), y9, y10] ∧ Same G G1 ∧ G t = none ∧ G1 t = some (.lst ts) ∧ Tps K G1 ts (rowsV rs)) (fun N2 hN2 => ?_) ?_
        · have := fun (N3 : L2.St → Hp → Prop) (hN3 : ∀ (t : Addr) (ts : List V) G1, Same G G1 → G t = none → G1 t = some (.lst ts) → Tps K G1 ts (rowsV rs) → N3 [some (.ref b), some (.ref p), x2, y3, some (.ref pa), some (.int (rowsN rs)), y6, some (.int (0 + i)), some (.ref t), y9, y10] G1) => (⟨pa, xs, rs, rfl, hpa'.imp (seqL_same sg) (Same.seqT sg), tp2.same sg, r1, by omega, by omega, fun t ts G1 s1 n1 e1 h1 => hN3 t ts G1 s1 n1 e1 h1⟩ : sp_rows K [.ref pa] G (fun x H1 => N3 [some (.ref b), some (.ref p), x2, y3, some (.ref pa), some (.int (rowsN rs)), y6, some (.int (0 + i)), some x, y9, y10] H1) E0)
          have h0 := this N2 fun t ts G1 h1 h2 h3 h4 => hN2 _ _ ⟨t, ts, rfl, h1, h2, h3, h4⟩
          walk_at "rs"
          exact ite2 (fun _ => h0) (fun _ => h0)
        rintro σ G1 ⟨t, ts, rfl, sg1, nt, et, htp⟩
        have S1 := Same.trans sg sg1
        have hfr : FrsTs G1 (rowsV rs) (rowsF fss) := rows_frs (ft2.same S1)
        have lts := htp.len
        have lrv := rows_len rs
        refine seq_op fun N2 hN2 => ?_
        walk_at "rs"
        refine ⟨_, "list", ⟨rfl, rfl⟩, _, .lst (.inl (.inl et)) (dp_rows htp hfr), by decide, iteFF (by exact Bool.noConfusion) ⟨ts, .inl (.inl (.inl et)), iteFF (fun z => z (by rw [lts, lrv])) ⟨xs, hpa'.imp (seqL_same S1) (Same.seqT S1), fun l G4 s4 n4 e4 => neD_same (.lst (.inl (.inl e4)) (dp_rows (tp2.same (Same.trans S1 s4)) (ft2.same (Same.trans S1 s4)))) (.lst (.inl (.inl (Same.trans S1 s4 _ _ gp2))) (dp_rows (tp2.same (Same.trans S1 s4)) (ft2.same (Same.trans S1 s4)))) (lay_list (lay_rows _)) (by decide) ⟨false, rfl, iteFF (by decide) (hN2 _ _ ?_)⟩⟩⟩⟩
        clear hN2 N2
        have S4 := Same.trans sg1 s4
        have SB := Same.trans S1 s4
        replace et := s4 _ _ et
        replace htp := htp.same s4
        replace hfr := hfr.same s4
        have okR : ∀ f ∈ rowsF fss, ∀ g ∈ f, okF g := fun f hf g hg => (rowsF_mem (okB 60) fss okf f hf g hg).le (by decide)
        clear e4 n4 s4 S1 sg1
        refine cut_seq (fun σ G5 => ∃ (y3 y6 y9 y10 : Option V), σ = [some (.ref b), some (.ref p), x2, y3, some (.ref pa), some (.int (rowsN rs)), y6, some (.int (0 + i)), some (.ref t), y9, y10] ∧ Same G4 G5) (fun N2 hN2 => ?_) ?_
        · refine ⟨_, rfl, _, rfl, by omega, by omega, ?_⟩
          rw [show ((rowsN rs : Nat) : Int).toNat = rowsN rs from Int.toNat_natCast _]
          refine for_range (lo := 0) (n := rowsN rs) (fun j σ G5 => ∃ (y3 y6 y9 y10 : Option V), σ = [some (.ref b), some (.ref p), x2, y3, some (.ref pa), some (.int (rowsN rs)), y6, some (.int (0 + i)), some (.ref t), y9, y10] ∧ Same G4 G5) ⟨y3, y6, y9, y10, rfl, Same.refl _⟩ ?_ ?_
          · rintro j σ G5 hj ⟨z3, z6, z9, z10, rfl, s5⟩
            obtain ⟨a, row, hta, hrow, ha⟩ := htp.get (n := j) (by omega)
            obtain ⟨fr, hfr1, hfr2⟩ := hfr.get hrow
            refine seq_op fun N3 hN3 => ?_
            walk_at "rs"
            refine ⟨by decide, fun dq H6 s6 n6 e6 => ⟨_, _, ⟨rfl, rfl⟩, hN3 _ _ ?_⟩⟩
            clear hN3 N3
            have S46 := Same.trans s5 s6
            have gp6 := SB
            have tp6 := tp2.same (Same.trans SB S46)
            refine cut_seq (fun σ G7 => ∃ (w6 x10 : Option V) (q : Addr), σ = [some (.ref b), some (.ref p), x2, some (.int (0 + j)), some (.ref pa), some (.int (rowsN rs)), w6, some (.int (0 + i)), some (.ref t), some (.ref q), x10] ∧ Same H6 G7 ∧ G7 q = some (.lst row)) (fun N3 hN3 => ?_) ?_
            · refine ⟨_, rfl, p, xs, rfl, .inl (.inl (S46 _ _ (SB _ _ gp2))), fun p2 np2 => ⟨p2, rfl, ⟨xs.reverse, .inl (.inl upd_same)⟩, for_list (K := K) (a := p2) (xs := xs.reverse) (fun l σ G7 => ∃ (w6 : Option V) (m : Nat) (q : Addr) (dl r' : List V), σ = [some (.ref b), some (.ref p), x2, some (.int (0 + j)), some (.ref pa), some (.int (rowsN rs)), w6, some (.int (0 + i)), some (.ref t), some (.ref q), some (.int m)] ∧ Same H6 G7 ∧ G7 p2 = some (.lst xs.reverse) ∧ G7 q = some (.lst dl) ∧ dl.length ≤ 100 ∧ (rowsV (rs.take (rs.length - l)))[m]? = some r' ∧ row = r' ++ dl ∧ dl.length = l) ⟨z6, j, dq, [], row, by rw [show (0 : Int) + (j : Int) = (j : Int) from Int.zero_add _], same_upd np2, upd_same, by rw [upd_ne (ne_of_none e6 np2)]; exact e6, by decide, by rw [Nat.sub_zero, List.take_length]; exact hrow, (List.append_nil _).symm, rfl⟩ (fun _ _ G7 _ ⟨_, _, _, _, _, _, _, h, _⟩ => .inl (.inl h)) ?_ ?_⟩⟩
              · rintro l y σ G7 hy ⟨w6, m, q, dl, r', rfl, s7, gp27, gq7, ldl, hm, erow, ll⟩
                have hl : l < xs.length := by
                  have := (List.getElem?_eq_some_iff.mp hy).1
                  rwa [List.length_reverse] at this
                rw [List.getElem?_reverse hl] at hy
                obtain ⟨a2, c2, rfl, hc2, ha2⟩ := tp6.at hy
                have et2 : rs.take (rs.length - l) = rs.take (rs.length - (l + 1)) ++ [c2] := by
                  rw [show rs.length - l = (xs.length - 1 - l) + 1 by omega, show rs.length - (l + 1) = xs.length - 1 - l by omega, List.take_succ, hc2]; rfl
                have lc2 := r1 c2 (List.mem_of_getElem? hc2)
                have lc3 : c2.length ≤ 240 := by
                  have h1 := Nat.le_trans (rowsN_take r1 (rs.length - l)) rn
                  rw [et2, rowsN_snoc] at h1
                  have h2 : 1 ≤ rowsN (rs.take (rs.length - (l + 1))) := rowsN_take (fun r hr => r1 r (List.mem_of_mem_take hr)) 0
                  exact Nat.le_trans (Nat.le_mul_of_pos_left _ h2) h1
                rw [et2, rowsV_snoc] at hm
                obtain ⟨a3, v, h3, hv, rfl⟩ := growV_at' lc2 hm
                have ha27 := Same.seqT s7 ha2
                refine seq_op fun N4 hN4 => ?_
                walk_at "rs"
                refine ⟨c2, .inr ha27, by omega, c2, ha27, v, at_ofN (j := m % c2.length) (Int.natCast_emod _ _).symm hv, by decide, fun p1 G8 s8 n8 e8 => ⟨[v], e8, dl, s8 _ _ gq7, Nat.le_trans (show [v].length + dl.length ≤ 1000 by rw [List.length_singleton]; omega) (by decide), fun p4 G9 s9 n9 e9 => hN4 _ _ ?_⟩⟩
                clear hN4 N4
                have s79 := Same.trans s8 s9
                walk_at "rs"
                refine ⟨c2, .inr (Same.seqT s79 ha27), ⟨by omega, by omega⟩, some (.ref a2), m / c2.length, p4, ⟨rfl, rfl, (Int.natCast_ediv _ _).symm⟩, Same.trans s7 s79, s79 _ _ gp27, [v] ++ dl, e9, by rw [List.length_append, List.length_singleton]; omega, a3, h3, by rw [List.append_assoc] at erow; exact erow, by rw [List.length_append, List.length_singleton]; omega⟩
              · rintro σ G7 ⟨w6, m, q, dl, r', rfl, s7, gp27, gq7, ldl, hm, erow, ll⟩
                rw [List.length_reverse, lxs, Nat.sub_self, List.take_zero] at hm
                have : r' = [] := by
                  cases m with
                  | zero => exact (Option.some.inj hm).symm
                  | succ m => cases hm
                subst this
                rw [List.nil_append] at erow
                rw [← erow] at gq7
                exact hN3 _ _ ⟨_, _, q, rfl, s7, gq7⟩
            rintro σ G7 ⟨w6, x10, q, rfl, s7, e7⟩
            have S47 := Same.trans S46 s7
            have lrow := (rows_row _ row (List.mem_of_getElem? hrow))
            have lfr := hfr2.len
            have hfr7 := hfr2.same S47
            walk_at "rs"
            refine ⟨ts, .inl (.inl (S47 _ _ et)), _, at_ofN (Int.zero_add _) hta, row, .inl (.inl e7), fun q2 G8 s8 n8 e8 => ⟨_, _, spD fr, rfl, .tup (Same.seqT (Same.trans S47 s8) ha) (dp_frs (hfr7.same s8).frs), .tup (.inl (.inl e8)) (dp_frs (hfr7.same s8).frs), okD_tup.mpr ⟨by rw [List.length_map]; omega, okAll_frs (okR fr (List.mem_of_getElem? hfr1))⟩, Nat.succ_le_succ (dep_frs fr), fun G9 s9 => ⟨true, rfl, iteFF (by decide) ⟨_, _, _, _, ⟨rfl, rfl, rfl, rfl⟩, Same.trans S47 (Same.trans s8 s9)⟩⟩⟩⟩
          · rintro σ G5 ⟨z3, z6, z9, z10, rfl, s5⟩
            exact hN2 _ _ ⟨_, _, _, _, rfl, s5⟩
        rintro σ G5 ⟨z3, z6, z9, z10, rfl, s5⟩
        refine seq_op fun N2 hN2 => ?_
        walk_at "rs"
        have et5 := s5 _ _ et
        have n3 : ∀ {o : HO} {a : Addr}, G3 a = some o → a ≠ t := fun {o a} h => ne_of_none (sg _ _ h) nt
        refine ⟨.inl ⟨rfl, _, SqL.of et5⟩, by decide, fun p3 H8 s8 n8 e8 => ⟨ts, s8 _ _ et5, Nat.lt_of_le_of_lt (show ts.length ≤ 1000 by omega) (by decide), hN2 _ _ ?_⟩⟩
        clear hN2 N2
        have SB8 : Same G3 (upd H8 t (.lst (ts ++ [.ref p3]))) := fun a o h => by
          rw [upd_ne (n3 h)]; exact s8 _ _ (s5 _ _ (SB _ _ h))
        have u8 : upd H8 t (.lst (ts ++ [.ref p3])) t = some (.lst (ts ++ [.ref p3])) := upd_same
        generalize upd H8 t (.lst (ts ++ [.ref p3])) = H9 at *
        walk_at "rs"
        refine ⟨_, u8, 0, ?_, _, _, _, _, _, _, ⟨rfl, rfl, rfl, rfl, rfl, rfl⟩, fun a o h => ?_⟩
        · rw [List.length_append, List.length_singleton]
          unfold ixN
          rw [if_pos (by decide), if_pos (by omega)]; rfl
        · rw [upd_ne (n3 h)]; exact SB8 _ _ h
      · rintro σ G ⟨y3, y6, y7, y8, y9, y10, rfl, sg⟩
        exact hN _ _ sg
    rintro σ G sg
    walk_at "rs"
    exact k G (B2.same sg) (Tabs.same tg2 sg) (KN.trans KG2 (KN.same sg))
end
end LK

set_option Elab.async false
set_option linter.all false
set_option maxRecDepth 100000
namespace LK
open PySem PySem.Spec PyProof.Rows L2
/-! ### list(d.keys()), the keys numbers and texts -/
section
variable {X : Cx} {e : Expr} {te : TE} {p apos cpos pos : Pos}
def tListKeysK (te : TE) : TE := fun σ H Q => te σ H fun x H1 => ∃ (d : Addr) (kvs : List (Key × V)), x = .ref d ∧ Rd H1 d (.dK kvs) ∧ ∀ l : Addr, H1 l = none → Q (.ref l) (L2.upd H1 l (.lst (kvs.map fun q => kV q.1)))
theorem pe_listKeysK (hc : X.calm = true) (he : PE X e te) (hg : Gl X "list") (hm : X.mg "list" = none) (hv : bootBuiltins "list" = some (.type "list")) (hbase : attributeBase e "keys" X.env (eval e X.env) = eval e X.env := by rfl) (hline : (apos.endLine == cpos.line) = true := by rfl)
    (hs : starEach [.Call (.Attribute e "keys" apos) [] [] cpos] X.env = (false, eval (.Call (.Attribute e "keys" apos) [] [] cpos) X.env) :: starEach [] X.env := by rfl) :
    PE X (.Call (.Name "list" p) [.Call (.Attribute e "keys" apos) [] [] cpos] [] pos) (tListKeysK te) := by
  refine ⟨fun pins s σ H Q I hq => ?_⟩
  refine wpAny_Call_Name_kw (ld_blt I hg hm hv (PyProof.Rows.callWith_type1 ?_ hs rfl))
  rw [hs]
  change wpAny _ _ (spliced ((false, eval (.Call (.Attribute e "keys" apos) [] [] cpos) X.env) :: backTo pos (starEach [] X.env))) _ _ s
  refine Calls.spliced_cons (wpAny_Call_method (T := "dict") (id := "dict.keys") hbase rfl hline F.plainAttrs_dict F.slot_dict_keys F.type_dict_keys (thn (he.run pins s σ H _ I hq) fun u s1 ⟨x, H1, I1, rx, d, kvs, ex, hd, q⟩ => ?_))
  subst ex
  obtain rfl : u = Value.ref d := rx
  obtain ⟨z, ns, vs, rel, dd⟩ := dk_rd I1.hok hd
  have hl : kvs.length = vs.length := Paired.length rel
  obtain ⟨ep, da⟩ := dd.dictAt
  obtain ⟨o, es, ho, hx, hdt, en⟩ := id da
  have ty : s1.TypeIs (.ref d) "dict" := ⟨o, ho, hx.1⟩
  have raw : s1.heap.DictRaw d es ep := ⟨o, ho, hx, hdt⟩
  have nd := hx.2.1
  have I2 : Inv X pins σ H1 { s1 with heap := s1.heap.push { cls := .type "dict_keys", data := .fields #[.ref d] } } := I1.kept (t' := s1.toks) fun b ob q => Heap.get?_push_of_some _ q
  refine ⟨ty, (fun a e => by cases e; exact ⟨o, ho, nd⟩), ?_⟩
  change wpAny _ _ (callWith cpos (.builtin "dict.keys") [.ref d] [] []) _ X.xe s1
  refine method_meetsIn F.slot_dict_keys F.entry_dict_keys rfl (PySem.evalArgs_none ⟨rfl, ty, F.args_dict_keys_1 _, _, meets_dict_keys_raw d ns, ⟨⟨es, ep, raw⟩, ?_⟩⟩)
  refine Calls.spliced_nil (PySem.W.kdl_call (PySem.W.kdl_keys (knd := mixKind X.prog X.w) (kvs := vs) (ep := ep)) (I1.ok.hd hc) ⟨⟨_, Heap.get?_push_size _ rfl, rfl, rfl⟩, da.push _⟩ (by omega) fun h' tk acc c kp ha it => ?_)
  have va : Vals (kvs.map fun q => kV q.1) acc.toList := by
    refine vals_of_at ((List.length_map _).trans (hl.trans (it.1.symm.trans Array.length_toList.symm))) fun j x u hx hu => ?_
    rw [List.getElem?_map] at hx
    obtain ⟨⟨k, v⟩, hk, rfl⟩ := Option.map_eq_some_iff.mp hx
    rw [Array.getElem?_toList] at hu
    obtain ⟨k2, x2, h2, h3⟩ := it.2 j u hu
    obtain ⟨u2, hu2, _⟩ := kv_get rel hk
    rw [hu2] at h2
    have e2 := Option.some.inj h2
    have e3 : k = k2 := congrArg Prod.fst e2
    subst e3
    exact keyIs_rel h3
  have hz : (kvs.map fun q => kV q.1).length ≤ sizeLine := by rw [List.length_map]; omega
  have nw := I2.hok.fresh (Nat.le_refl _)
  refine ⟨.ref _, _, I2.laid (t' := tk) (o := .lst (kvs.map fun q => kV q.1)) kp (Nat.le_refl _) ⟨hz, acc.toList, c, va, by rw [Array.toArray_toList]; exact ha⟩, rfl, q _ nw⟩
end
end LK

set_option Elab.async false
set_option linter.all false
set_option maxRecDepth 100000
namespace LK
open PySem PySem.Spec PyProof.Rows L2
local macro_rules | `(tactic| walk_at "rs") => `(tactic| simp only [cxK, cxNK, tCallZ, tAsg, tOp, rI0, rS0, rB0, rI, rU, tUn, rEq, rNe, rIxL, rIxT, rIxS, rSetL, rSlLU, rSlS, rSlU, rCatL, rCatU, rRepL, rIn, tVar, tC, gName, gSub, tIfS, tTest, tB, tAnd, tOr, tNot, tNotV, tAndV, tOrV, tIf, tCall, tCons, tNil, tCB, tDrop, tRet, tRetN, tNext, tLstU, tTupU, tM0, tM1, tPar, tPar3, tAug, ipI, tBM, tBM0, rAppend, rPop, tBreak, tCont, tChain, tSl, tPart, tNoPart, L2.start, List.map, List.length_cons, List.length_nil, List.replicate, List.cons_append, List.nil_append, List.append_nil, List.getElem?_cons_zero, List.getElem?_cons_succ, List.set_cons_zero, List.set_cons_succ, Option.some.injEq, V.int.injEq, V.ref.injEq, V.str.injEq, V.bl.injEq, exists_eq_left', exists_eq_left, exists_and_left, decide_eq_true_eq, List.cons.injEq, and_true, true_and, scal, Bool.not_eq_true', decide_eq_false_iff_not, Nat.zero_add, Nat.reduceAdd, Nat.reduceSub, reduceCtorEq, false_and, exists_false, false_or, or_false, CPow, CMul, CDiv, Int.reduceToNat, ↓reduceIte, wipe, sw, List.nil_append, List.singleton_append])
local macro_rules | `(tactic| walk_at "st") => `(tactic| (refine seq_op fun N hN => ?_; walk_at "rs"))
local macro_rules | `(tactic| walk_at "sd") => `(tactic| first | assumption | decide | omega)
local macro_rules | `(tactic| walk_at "rd") => `(tactic| repeat (first
  | refine ⟨_, SqL.of (by assumption), ?_⟩ | refine ⟨_, SqL.of upd_same, ?_⟩ | refine ⟨_, .inl (SqL.of (by assumption)), ?_⟩ | refine ⟨_, (by assumption : _ = some (HO.lst _)), ?_⟩ | refine ⟨_, upd_same, ?_⟩
  | refine ⟨_, rfl, ?_⟩ | refine And.intro (by walk_at "sd") ?_))

open LamX (Tabs TabS ExtN TabB)
/-! ### lines, as the law makes them -/
def six : List Str := ["sign", "place", "b", "a", "z9", "w"]
theorem RgAt.kn {K : PySem.W.Frag} {b c : Addr} {H H' : Hp} (B : Bag H b c) (k : KN b H H') : ∀ {o : Option V} {u : Option (List V × List Fr)}, RgAt K H o u → RgAt K H' o u
  | none, none, _ => trivial
  | some _, some _, ⟨t, h1, h2, h3⟩ => by
    exact ⟨t, h1, KN.seqT B k h2, h3.kn B k⟩
theorem RD.kn {K : PySem.W.Frag} {b c : Addr} {H H' : Hp} {d : Addr} {kvs : List (Key × V)} {rg : Str → Option (List V × List Fr)} (B : Bag H b c) (k : KN b H H') (D : RD K H d kvs rg) : RD K H' d kvs rg where
  at_ := by
    obtain ⟨yb, eb⟩ := B.at
    have h := D.at_
    exact k _ _ (fun e => by rw [e, eb] at h; cases h) h fun _ z => by cases z
  len := D.len
  ent := fun z => (D.ent z).kn B k
theorem onceS_len (l : List Str) : (onceS l).length ≤ l.length := by
  have h := len_foldS l []
  rw [List.length_nil, Nat.zero_add] at h
  exact h
theorem onceS_mem {l : List Str} {z : Str} (h : z ∈ onceS l) : z ∈ l := by
  have := (mem_foldS (x := z) (l := l) (acc := [])).mp h
  rcases this with h | h
  · cases h
  · exact h
theorem onceS_mem' {l : List Str} {z : Str} (h : z ∈ l) : z ∈ onceS l := (mem_foldS (x := z) (l := l) (acc := [])).mpr (.inr h)
theorem map_take {l : List Str} {k : Nat} : (l.map V.str).take k = (l.take k).map V.str := by rw [List.map_take]
def needL (rg : Str → Option (List V × List Fr)) : Rw → Prop
  | .lok z y _ _ _ => ∃ p, rg y = some p ∧ (z = "mean" → p.2.length ≤ 4 ∧ ∀ f ∈ p.2, f.2 = 1)
  | _ => True
theorem ix_get {K : PySem.W.Frag} {i1 i5 : Nat} {σ : L2.St} {H : Hp} {d D : Addr} {xs : List V} {i : Int} {z : Str} {v : V} {Q : VK} (h1 : σ[i1]? = some (some (.ref d))) (h5 : σ[i5]? = some (some (.ref D))) (hx : SqL K H D xs) (ha : atI xs i = some (.str z)) (hd : DGet H d (.str z) (some v)) (q : Q v H) : tDGet (tVar i1) (tOp (rIxL K) (tVar i5) (tC (.int i))) σ H Q := by
  unfold tDGet
  simp only [tOp, tVar, tC, rIxL]
  exact ⟨_, h1, _, h5, D, xs, i, _, rfl, rfl, hx, ha, d, v, rfl, hd, q⟩
section
variable {P : Program} {w : World} {K : PySem.W.Frag} {mg : Str → Option Value} {base : Heap}
def sp_row (K : PySem.W.Frag) (TL : List (Addr × Str)) : Sp := fun vs H Q _ => ∃ (b c d : Addr) (n : Nat) (kvs : List (Key × V)) (rg : Str → Option (List V × List Fr)), vs = [.ref b, .ref d, .int n] ∧ Bag H b c ∧ Tabs TL H ∧ RD K H d kvs rg ∧ okRg rg ∧ kvs.map (·.1) = six.map Sum.inr ∧ (∀ z ∈ six, (rg z).isSome = true) ∧
  ∀ a r H', Bag H' b c → Tabs TL H' → KN b H H' → RowAt K H' a r → okRw r → needL rg r → (∀ z ∈ usesR r, z ∈ six) → Q (.ref a) H'
theorem ok__law_row (T : Txt w K mg) (hB : ∀ p ∈ T.cs, TabB base mg p.1 p.2) : FnOk P w K mg base CX0 6 T.a__law_row T.d__law_row ["bag", "spans", "many"] (sp_row K T.TL) := by
  refine T.F__law_row.ok sc__law_row (fun vs H Q E h => ?_) (fun cdv A outer s H vs Q E hr h => ?_)
  · obtain ⟨b, c, d, n, kvs, rg, rfl, _⟩ := h
    rfl
  · obtain ⟨b, c, d, n, kvs, rg, rfl, B, tb, hD, hrg, hk, hs, k⟩ := h
    have hr__law_draw : Room 1 _ := hr.mono (by decide)
    have G__law_draw := ok__law_draw (P := P) (base := base) T
    have hr__law_of : Room 2 _ := hr.mono (by decide)
    have G__law_of := ok__law_of (P := P) (base := base) T
    have hr__law_once : Room 1 _ := hr.mono (by decide)
    have G__law_once := ok__law_once (P := P) (base := base) T
    have hr__law_low : Room 1 _ := hr.mono (by decide)
    have G__law_low := ok__law_low (P := P) (base := base) T
    have hr__law_prefix : Room 3 _ := hr.mono (by decide)
    have G__law_prefix := ok__law_prefix (P := P) (base := base) T
    have hr__law_range : Room 5 _ := hr.mono (by decide)
    have G__law_range := ok__law_range (P := P) (base := base) T hB
    have hu1 : (A.deeper (envOfC "_law_row" (defScope s__law_row) s.heap.objs.size T.a__law_row cdv)).units + 1 < cLine := Nat.lt_of_le_of_lt (Nat.add_le_add_left (by decide : 1 ≤ 64) _) hr.units
    refine ⟨_, (pss_cons (ps_asg (pe_tupU (pa_cons (pe_listKeysK rfl (pv 1) (by rfl) T.n_list (by decide +kernel)) (pa_cons (pe_call G__law_draw hr__law_draw (by rfl) T.m__law_draw T.F__law_draw.kp T.B__law_draw .nil pass0 (pa_cons (pv 0) (pa_cons pe_int pa_nil))) pa_nil))) (pg_tup rfl (pgs_cons (pg_name (i := 3) sc__law_row.nd rfl (Or.inr rfl)) (pgs_cons (pg_name (i := 4) sc__law_row.nd rfl (Or.inl rfl)) pgs_nil))))
      (pss_cons (ps_set (i := 5) sc__law_row.nd rfl (Or.inr rfl) (pe_lc (own := [("k", 14)]) (g := gName 14) (tt := tYes) rfl sc__law_row.nd (pi_range1 (by rfl) T.n_range (pa_cons pe_int pa_nil)) (blkOk_by (own := [("k", 14)]) (N := N__law_row) (sc := defScope s__law_row) (by decide +kernel)) (fun _ _ _ _ _ => pg_name (i := 14) sc__law_row.nd rfl (Or.inl rfl)) (fun _ _ _ _ _ => pts_nil) (fun _ _ _ _ _ => (pe_call G__law_of hr__law_of (by rfl) T.m__law_of T.F__law_of.kp T.B__law_of .nil pass0 (pa_cons (pv 0) (pa_cons (pv 3) pa_nil))))))
      (pss_cons (ps_set (i := 6) sc__law_row.nd rfl (Or.inl rfl) (pe_op op_sub (pe_call G__law_draw hr__law_draw (by rfl) T.m__law_draw T.F__law_draw.kp T.B__law_draw .nil pass0 (pa_cons (pv 0) (pa_cons pe_int pa_nil))) pe_int))
      (pss_cons (ps_if (pt_cmpR op_lt (pv 4) pe_int (nomark _)) (pss_cons (ps_set (i := 7) sc__law_row.nd rfl (Or.inl rfl) (pe_slice sl_listU (pe_call G__law_once hr__law_once (by rfl) T.m__law_once T.F__law_once.kp T.B__law_once .nil pass0 (pa_cons (pv 5) pa_nil)) po_none (po_some (pe_call G__law_of hr__law_of (by rfl) T.m__law_of T.F__law_of.kp T.B__law_of .nil pass0 (pa_cons (pv 0) (pa_cons (pe_lstU (pa_cons pe_int (pa_cons pe_int (pa_cons pe_int (pa_cons pe_int (pa_cons pe_int pa_nil)))))) pa_nil))))))
      (pss_one (ps_ret (pe_tupU (pa_cons pe_str (pa_cons pe_str (pa_cons (pe_call G__law_prefix hr__law_prefix (by rfl) T.m__law_prefix T.F__law_prefix.kp T.B__law_prefix .nil pass0 (pa_cons (pv 0) (pa_cons (pv 7) (pa_cons (pe_call G__law_of hr__law_of (by rfl) T.m__law_of T.F__law_of.kp T.B__law_of .nil pass0 (pa_cons (pv 0) (pa_cons (pe_lstU (pa_cons pe_int (pa_cons pe_int (pa_cons pe_int (pa_cons pe_int (pa_cons pe_int (pa_cons pe_int pa_nil))))))) pa_nil))) pa_nil)))) pa_nil))))))) pss_nil)
      (pss_cons (ps_if (pt_cmpR op_eqI (pv 4) pe_int (nomark _)) (pss_cons (ps_set (i := 7) sc__law_row.nd rfl (Or.inl rfl) (pe_slice sl_listU (pe_call G__law_once hr__law_once (by rfl) T.m__law_once T.F__law_once.kp T.B__law_once .nil pass0 (pa_cons (pv 5) pa_nil)) po_none (po_some (pe_call G__law_draw hr__law_draw (by rfl) T.m__law_draw T.F__law_draw.kp T.B__law_draw .nil pass0 (pa_cons (pv 0) (pa_cons pe_int pa_nil))))))
      (pss_cons (ps_set (i := 8) sc__law_row.nd rfl (Or.inl rfl) pe_int)
      (pss_cons (ps_for PassesOwn.never rfl (pi_list (pv 7)) (pg_name (i := 9) sc__law_row.nd rfl (Or.inl rfl)) (pss_one (ps_set (i := 8) sc__law_row.nd rfl (Or.inl rfl) (pe_op op_mul (pv 8) (pe_callB call_len (by rfl) T.n_len (by decide +kernel) (pa_cons (pe_dget hu1 (pv 1) (pv 9) (fun _ _ => rfl)) pa_nil))))))
      (pss_cons (ps_set (i := 8) sc__law_row.nd rfl (Or.inl rfl) (pe_callB (call_min2 rfl) (by rfl) T.n_min (by decide +kernel) (pa_cons (pv 8) (pa_cons pe_int pa_nil))))
      (pss_cons (ps_asg (pe_tupU (pa_cons (pe_call G__law_range hr__law_range (by rfl) T.m__law_range T.F__law_range.kp T.B__law_range .nil pass0 (pa_cons (pv 0) (pa_cons pe_int pa_nil))) (pa_cons (pe_call G__law_draw hr__law_draw (by rfl) T.m__law_draw T.F__law_draw.kp T.B__law_draw .nil pass0 (pa_cons (pv 0) (pa_cons pe_int pa_nil))) pa_nil))) (pg_tup rfl (pgs_cons (pg_name (i := 10) sc__law_row.nd rfl (Or.inr rfl)) (pgs_cons (pg_name (i := 11) sc__law_row.nd rfl (Or.inr rfl)) pgs_nil))))
      (pss_cons (ps_if (PW.pt (pw_and (pt_cmpR op_gt (pv 8) pe_int (nomark _)) (pw_and1 (pt_cmpR op_eqI (pe_call G__law_draw hr__law_draw (by rfl) T.m__law_draw T.F__law_draw.kp T.B__law_draw .nil pass0 (pa_cons (pv 0) (pa_cons pe_int pa_nil))) pe_int (nomark _))))) (pss_one (ps_ret (pe_tupU (pa_cons pe_str (pa_cons pe_str (pa_cons (pe_callTy call_tupleN (by rfl) T.n_tuple (by decide +kernel) (pa_cons (pv 7) pa_nil)) (pa_cons (pe_callTy call_tupleN (by rfl) T.n_tuple (by decide +kernel) (pa_cons (pe_lc (own := [("k", 14)]) (g := gName 14) (tt := tYes) rfl sc__law_row.nd (pi_range1 (by rfl) T.n_range (pa_cons (pv 8) pa_nil)) (blkOk_by (own := [("k", 14)]) (N := N__law_row) (sc := defScope s__law_row) (by decide +kernel)) (fun _ _ _ _ _ => pg_name (i := 14) sc__law_row.nd rfl (Or.inl rfl)) (fun _ _ _ _ _ => pts_nil) (fun _ _ _ _ _ => (pe_call G__law_low hr__law_low (by rfl) T.m__law_low T.F__law_low.kp T.B__law_low .nil pass0 (pa_cons (pe_op op_sub (pv 14) (pv 11)) (pa_cons pe_int pa_nil))))) pa_nil)) pa_nil))))))) pss_nil)
      (pss_one (ps_ret (pe_tupU (pa_cons pe_str (pa_cons pe_str (pa_cons (pe_callTy call_tupleN (by rfl) T.n_tuple (by decide +kernel) (pa_cons (pv 7) pa_nil)) (pa_cons (pe_callTy call_tupleN (by rfl) T.n_tuple (by decide +kernel) (pa_cons (pe_lc (own := [("k", 14)]) (g := gName 14) (tt := tYes) rfl sc__law_row.nd (pi_range1 (by rfl) T.n_range (pa_cons (pv 8) pa_nil)) (blkOk_by (own := [("k", 14)]) (N := N__law_row) (sc := defScope s__law_row) (by decide +kernel)) (fun _ _ _ _ _ => pg_name (i := 14) sc__law_row.nd rfl (Or.inl rfl)) (fun _ _ _ _ _ => pts_nil) (fun _ _ _ _ _ => (pe_call G__law_of hr__law_of (by rfl) T.m__law_of T.F__law_of.kp T.B__law_of .nil pass0 (pa_cons (pv 0) (pa_cons (pv 10) pa_nil))))) pa_nil)) pa_nil))))))))))))) pss_nil)
      (pss_cons (ps_set (i := 12) sc__law_row.nd rfl (Or.inl rfl) (pe_call G__law_of hr__law_of (by rfl) T.m__law_of T.F__law_of.kp T.B__law_of .nil pass0 (pa_cons (pv 0) (pa_cons (pe_lstU (pa_cons pe_str (pa_cons pe_str (pa_cons pe_str (pa_cons pe_str (pa_cons pe_str (pa_cons pe_str (pa_cons pe_str (pa_cons pe_str pa_nil))))))))) pa_nil))))
      (pss_cons (ps_if (pt_cmpR op_eqS (pv 12) pe_str (nomark _)) (pss_one (ps_set (i := 12) sc__law_row.nd rfl (Or.inl rfl) (pe_callTy call_tupleN (by rfl) T.n_tuple (by decide +kernel) (pa_cons (pe_lc (own := [("one", 15)]) (g := gName 15) (tt := tYes) rfl sc__law_row.nd (pi_tup (pe_dget hu1 (pv 1) (pe_ix ix_list (pv 5) pe_int (fun _ _ => rfl)) (fun _ _ => rfl))) (blkOk_by (own := [("one", 15)]) (N := N__law_row) (sc := defScope s__law_row) (by decide +kernel)) (fun _ _ _ _ _ => pg_name (i := 15) sc__law_row.nd rfl (Or.inl rfl)) (fun _ _ _ _ _ => pts_nil) (fun _ _ _ _ _ => (pe_tupU (pa_cons (pe_ix (ix_tupK (K := K) rfl) (pe_dget hu1 (pv 1) (pe_ix (ix_listK (K := K) rfl) (pv 5) pe_int (fun _ _ => rfl)) (fun _ _ => rfl)) pe_int (fun _ _ => rfl)) (pa_cons (pv 15) pa_nil))))) pa_nil)))) pss_nil)
      (pss_cons (ps_if (pt_cmpR op_eqI (pv 4) pe_int (nomark _)) (pss_one (ps_ret (pe_tupU (pa_cons pe_str (pa_cons pe_str (pa_cons (pe_ix ix_list (pv 5) pe_int (fun _ _ => rfl)) (pa_cons (pv 12) (pa_cons (pe_ix ix_list (pv 5) pe_int (fun _ _ => rfl)) pa_nil)))))))) pss_nil)
      (pss_cons (ps_set (i := 13) sc__law_row.nd rfl (Or.inl rfl) pe_str)
      (pss_cons (ps_if (PW.pt (pw_or (pt_cmpR op_gt (pv 4) pe_int (nomark _)) (pw_or (pt_cmpR op_gt (pe_callB call_len_seq (by rfl) T.n_len (by decide +kernel) (pa_cons (pe_dget hu1 (pv 1) (pe_ix ix_list (pv 5) pe_int (fun _ _ => rfl)) (fun _ _ => rfl)) pa_nil)) pe_int (nomark _)) (pw_or1 (pt_cmpR (op_neD hr.units) (pe_lc (own := [("one", 15)]) (g := gName 15) (tt := _) rfl sc__law_row.nd (pi_tup (pe_dget hu1 (pv 1) (pe_ix ix_list (pv 5) pe_int (fun _ _ => rfl)) (fun _ _ => rfl))) (blkOk_by (own := [("one", 15)]) (N := N__law_row) (sc := defScope s__law_row) (by decide +kernel)) (fun _ _ _ _ _ => pg_name (i := 15) sc__law_row.nd rfl (Or.inl rfl)) (fun _ _ _ _ _ => pts_one (pt_cmpR op_neI (pe_ix (ix_tupK (K := K) rfl) (pv 15) pe_int (fun _ _ => rfl)) pe_int (nomark _))) (fun _ _ _ _ _ => (pv 15))) (pe_lstU pa_nil) (nomark _)))))) (pss_one (ps_set (i := 13) sc__law_row.nd rfl (Or.inl rfl) (pe_call G__law_of hr__law_of (by rfl) T.m__law_of T.F__law_of.kp T.B__law_of .nil pass0 (pa_cons (pv 0) (pa_cons (pe_lstU (pa_cons pe_str (pa_cons pe_str pa_nil))) pa_nil))))) pss_nil)
      (pss_one (ps_ret (pe_tupU (pa_cons (pv 13) (pa_cons pe_str (pa_cons (pe_ix ix_list (pv 5) pe_int (fun _ _ => rfl)) (pa_cons (pe_ix ix_list (pv 5) pe_int (fun _ _ => rfl)) (pa_cons (pv 12) (pa_cons (pe_ix ix_list (pv 5) pe_int (fun _ _ => rfl)) (pa_cons (pv 6) pa_nil)))))))))))))))))))), ?_⟩
    refine seq_op fun N hN => ?_
    walk_at "rs"
    refine ⟨_, rfl, d, kvs, rfl, .inl hD.at_, fun l hl => ?_⟩
    have up : Same H (upd H l (.lst (kvs.map fun q => kV q.1))) := same_upd hl
    have el : upd H l (.lst (kvs.map fun q => kV q.1)) l = some (.lst (six.map V.str)) := by
      rw [upd_same, show (kvs.map fun q => kV q.1) = (kvs.map (·.1)).map kV by rw [List.map_map]; rfl, hk, List.map_map]; rfl
    have nlb : l ≠ b := new_ne B hl
    generalize upd H l (.lst (kvs.map fun q => kV q.1)) = H1 at *
    have B1 := B.same up
    refine ⟨b, c, 8, rfl, B1, by decide, by decide, fun way H2 w0 w8 B2 K2 => ⟨by decide, fun p H3 s3 n3 e3 => ⟨p, _, rfl, .inl (.inl e3), rfl, .ref l, [.int way], rfl, .int way, [], rfl, rfl, hN _ _ ?_⟩⟩⟩
    clear hN N
    have B3 := B2.same s3
    have K3 : Kp b H H3 := Same.trans (Kp.of up) (Same.trans K2 (Kp.of s3))
    have el3 := s3 _ _ (K2.hd el nlb)
    clear e3 n3 s3 K2 B1 up el B2
    refine seq_op fun N hN => ?_
    walk_at "rs"
    refine ⟨3, rfl, by decide, by decide, fun D hDn => lc_rngI (n := (3 : Int).toNat) (fun i G ys => ∃ zs : List Str, ys = zs.map V.str ∧ (∀ z ∈ zs, z ∈ six) ∧ Bag G b c ∧ Kp b H G ∧ G l = some (.lst (six.map V.str))) (by decide) ⟨[], rfl, (fun z h => by cases h), B3.upd (B3.ne2 hDn).1 (B3.ne2 hDn).2, Kp.upd2 K3 (K3.none B3 hDn), by rw [upd_ne (ne_of_none el3 hDn)]; exact el3⟩ (fun i G ys hi hG hl2 ⟨zs, ez, hz, BG, KG, gl⟩ Q2 hq => ?_) fun G ys hG hl2 ⟨zs, ez, hz, BG, KG, gl⟩ => hN _ _ ?_⟩
    · walk_at "rs"
      refine of_lst BG gl nlb (by decide) (by decide) fun y G2 hy B4 K4 => ?_
      obtain ⟨z, hz2, rfl⟩ := List.mem_map.mp hy
      have nDb := (B3.ne2 hDn).1.symm
      refine hq _ _ (K4.hd hG nDb) ⟨zs ++ [z], by rw [ez, List.map_append]; rfl, fun x hx => ?_, B4.upd (B3.ne2 hDn).1 (B3.ne2 hDn).2, Kp.upd2 (Same.trans KG K4) (K3.none B3 hDn), ?_⟩
      · rcases List.mem_append.mp hx with hx | hx
        · exact hz x hx
        · rw [List.mem_singleton.mp hx]; exact hz2
      · rw [upd_ne (ne_of_none el3 hDn)]; exact K4.hd gl nlb
    clear hN N
    have nDb := (B3.ne2 hDn).1.symm
    have lz : zs.length = 3 := by rw [ez, List.length_map] at hl2; exact hl2
    rw [ez] at hG
    clear ez hl2 B3 K3 el3 gl
    obtain ⟨z1, z2, z3, rfl⟩ := lenA3 lz.symm
    refine seq_op fun N hN => ?_
    walk_at "rs"
    refine ⟨b, c, 19, rfl, BG, by decide, by decide, fun o G3 o0 o19 B4 K4 => ⟨o, rfl, hN _ _ ?_⟩⟩
    clear hN N
    have gD := K4.hd hG nDb
    have KG4 : Kp b H G3 := Same.trans KG K4
    clear hG KG K4 BG
    have z1m := hz z1 (by simp)
    have z2m := hz z2 (by simp)
    have z3m := hz z3 (by simp)
    have s11 : ∀ z ∈ six, z ∈ names11 := by decide +kernel
    have ok0 : (o - 9).natAbs ≤ 9 := by omega
    clear hz lz
    have hD3 := hD.kn B (KN.kp KG4)
    have tb3 := Tabs.kp B tb KG4
    have once : ∀ (k : Nat), (∀ z ∈ (onceS [z1, z2, z3]).take k, z ∈ six) ∧ ((onceS [z1, z2, z3]).take k).length ≤ 3 ∧ ((onceS [z1, z2, z3]).take k).Nodup := fun k => by
      refine ⟨fun z hz => ?_, ?_, ?_⟩
      · have := onceS_mem (List.mem_of_mem_take hz)
        simp only [List.mem_cons, List.not_mem_nil, or_false] at this
        rcases this with h | h | h <;> subst h <;> assumption
      · have := onceS_len [z1, z2, z3]
        rw [List.length_take]
        have e : [z1, z2, z3].length = 3 := rfl
        omega
      · exact (onceS_nodup _).sublist (List.take_sublist _ _)
    replace k : ∀ a r H', Bag H' b c → Tabs T.TL H' → KN b G3 H' → RowAt K H' a r → okRw r → needL rg r → (∀ z ∈ usesR r, z ∈ six) → Q (.ref a) H' := fun a r H' h1 h2 h3 h4 h5 h6 h7 => k a r H' h1 h2 (KN.trans (KN.kp KG4) h3) h4 h5 h6 h7
    clear hD tb KG4 B
    refine seq_op fun N hN => ?_
    walk_at "rs"
    refine ite2 (fun _ => ?_) (fun _ => hN _ _ ?_)
    · clear hN
      refine seq_op fun N2 hN2 => ?_
      walk_at "rs"
      refine ⟨[z1, z2, z3], .inl (.inl (.inl gD)), Nat.le_of_ble_eq_true rfl, fun t H4 s4 n4 e4 => ⟨by decide, fun p H5 s5 n5 e5 => of_new (B4.same s4) s5 n5 e5 (by simp) (by decide) fun y H6 hy B6 K6 => ?_⟩⟩
      obtain ⟨kk, rfl⟩ : ∃ kk : Nat, y = .int kk := by
        simp only [List.mem_cons, List.not_mem_nil, or_false] at hy
        rcases hy with h | h | h | h | h
        · exact ⟨0, h⟩
        · exact ⟨1, h⟩
        · exact ⟨2, h⟩
        · exact ⟨2, h⟩
        · exact ⟨3, h⟩
      have ntb : t ≠ b := new_ne B4 n4
      refine ⟨_, rfl, _, SqL.of (K6.hd e4 ntb), fun p7 H7 s7 n7 e7 => hN2 _ _ ?_⟩
      clear hN2 N2 hy
      rw [cutV_take, map_take] at e7
      obtain ⟨o1, o2, o3⟩ := once kk
      generalize (onceS [z1, z2, z3]).take kk = pts at *
      have K7 : Kp b G3 H7 := Same.trans (Kp.of s4) (Same.trans K6 (Kp.of s7))
      have B7 := B6.same s7
      have np7 : p7 ≠ b := new_ne B6 n7
      walk_at "rs"
      refine ⟨by decide, fun p8 H8 s8 n8 e8 => of_new B7 s8 n8 e8 (by simp) (by decide) fun y H9 hy B9 K9 => ?_⟩
      obtain ⟨sz, rfl, sz1, sz2⟩ : ∃ sz : Int, y = .int sz ∧ 1 ≤ sz ∧ sz ≤ 30 := by
        simp only [List.mem_cons, List.not_mem_nil, or_false] at hy
        rcases hy with h | h | h | h | h | h <;> exact ⟨_, h, by decide, by decide⟩
      refine ⟨b, c, p7, pts, sz, rfl, B9, by rw [hb_ne np7]; exact K9.hd e7 np7, fun z hz => s11 z (o1 z hz), by omega, sz1, sz2, fun q ws H10 B10 K10 n10 e10 lw hw wk => ⟨by decide, fun a H11 s11' n11 e11 => ?_⟩⟩
      refine k a (.be ws) H11 (B10.same s11') (Tabs.same (Tabs.kp B9 (Tabs.kp B7 (Tabs.kp B4 tb3 K7) K9) K10) s11') (KN.kp (Same.trans K7 (Same.trans K9 (Same.trans K10 (Kp.of s11'))))) ⟨q, .inl (.inl e11), .inl (.inl (s11' _ _ e10))⟩ ⟨fun z hz => (hw z hz).1, lw, wk⟩ trivial fun z hz => ?_
      obtain ⟨h1, h2⟩ := mem_names.mp (show z ∈ namesOf ws from hz)
      exact o1 z ((hw z h1).2 h2)
    clear hN N
    refine seq_op fun N hN => ?_
    walk_at "rs"
    refine ite2 (fun _ => ?_) (fun _ => hN _ _ ?_)
    · clear hN
      refine seq_op fun N2 hN2 => ?_
      walk_at "rs"
      refine ⟨[z1, z2, z3], .inl (.inl (.inl gD)), Nat.le_of_ble_eq_true rfl, fun t H4 s4 n4 e4 => ⟨b, c, 4, rfl, B4.same s4, by decide, by decide, fun y H6 y0 y4 B6 K6 => ?_⟩⟩
      obtain ⟨kk, rfl⟩ := Int.eq_ofNat_of_zero_le y0
      have ntb : t ≠ b := new_ne B4 n4
      refine ⟨_, rfl, _, SqL.of (K6.hd e4 ntb), fun p7 H7 s7 n7 e7 => hN2 _ _ ?_⟩
      clear hN2 N2
      rw [cutV_take, map_take] at e7
      obtain ⟨o1, o2, o3⟩ := once kk
      generalize (onceS [z1, z2, z3]).take kk = pts at *
      have K7 : Kp b G3 H7 := Same.trans (Kp.of s4) (Same.trans K6 (Kp.of s7))
      have B7 := B6.same s7
      have np7 : p7 ≠ b := new_ne B6 n7
      have hD7 := hD3.kn B4 (KN.kp K7)
      have tb7 := Tabs.kp B4 tb3 K7
      clear s4 n4 e4 y0 y4 B6 K6 ntb s7 n7 hD3
      refine seq_op fun N2 hN2 => ?_
      walk_at "rs"
      refine hN2 _ _ ?_
      clear hN2 N2
      refine cut_seq (fun σ G => ∃ (x9 : Option V) (m : Nat), σ = [some (V.ref b), some (V.ref d), some (V.int n), some (V.ref l), some (V.int way), some (V.ref D), some (V.int (o - 9)), some (V.ref p7), some (.int m), x9, none, none, none, none, none, none] ∧ G = H7 ∧ 1 ≤ m) (fun N2 hN2 => ?_) ?_
      · refine ⟨_, rfl, p7, rfl, ⟨_, .inl (.inl e7)⟩, for_list (K := K) (a := p7) (xs := pts.map V.str) (fun i σ G => ∃ (x9 : Option V) (m : Nat), σ = [some (V.ref b), some (V.ref d), some (V.int n), some (V.ref l), some (V.int way), some (V.ref D), some (V.int (o - 9)), some (V.ref p7), some (.int m), x9, none, none, none, none, none, none] ∧ G = H7 ∧ 1 ≤ m ∧ m ≤ 240 ^ i) ⟨none, 1, rfl, rfl, Nat.le_refl 1, Nat.le_refl 1⟩ (fun i σ' G _ ⟨_, _, _, h, _⟩ => by rw [h]; exact .inl (.inl e7)) ?_ ?_⟩
        · rintro i y σ G hy ⟨x9, m, rfl, rfl, m1, m2⟩
          have hi := (List.getElem?_eq_some_iff.mp hy).1
          rw [List.length_map] at hi
          rw [List.getElem?_map] at hy
          obtain ⟨z, hz, rfl⟩ := Option.map_eq_some_iff.mp hy
          obtain ⟨pr, hpr⟩ := Option.isSome_iff_exists.mp (hs z (o1 z (List.mem_of_getElem? hz)))
          obtain ⟨u, u1, u2, u3⟩ := hD7.get hpr
          obtain ⟨q1, q2, _⟩ := hrg z pr hpr
          have m3 : m ≤ 240 ^ 3 := Nat.le_trans m2 (Nat.pow_le_pow_right (by decide) (by omega))
          unfold tDGet
          walk_at "rs"
          refine ⟨_, .inl ⟨kvs, .inr z, .inl hD7.at_, rfl, u1.symm⟩, pr.1.length, .inr ⟨pr.1, u2, rfl⟩, .inl ⟨by omega, by omega⟩, some (.str z), m * pr.1.length, ⟨(Int.natCast_mul _ _).symm, rfl⟩, Nat.mul_pos m1 q1, ?_⟩
          rw [Nat.pow_succ]
          exact Nat.mul_le_mul m2 q2
        · rintro σ G ⟨x9, m, rfl, rfl, m1, m2⟩
          exact hN2 _ _ ⟨_, _, rfl, rfl, m1⟩
      rintro σ G ⟨x9, m, rfl, rfl, m1⟩
      refine seq_op fun N2 hN2 => ?_
      walk_at "rs"
      obtain ⟨sz, esz, sz1, sz2⟩ : ∃ sz : Nat, (if (240 : Int) < (m : Int) then (240 : Int) else m) = (sz : Int) ∧ 1 ≤ sz ∧ sz ≤ 240 := by
        by_cases h : (240 : Int) < m
        · exact ⟨240, by rw [if_pos h]; rfl, by decide, by decide⟩
        · exact ⟨m, by rw [if_neg h], m1, by omega⟩
      refine ⟨_, _, ⟨rfl, rfl⟩, hN2 _ _ ?_⟩
      rw [esz]
      clear hN2 N2 esz m1
      refine seq_op fun N2 hN2 => ?_
      walk_at "rs"
      refine ⟨b, c, 40, rfl, B7, tb7, by decide, by decide, fun pl zs gs H8 B8 t8 K8 h8 f8 asc g1 g2 okg => ⟨b, c, 50, rfl, B8, by decide, by decide, fun st H9 st0 st50 B9 K9 => ⟨by decide, fun p H10 s10 n10 e10 => ⟨p, _, rfl, .inl (.inl e10), rfl, .ref pl, [.int st], rfl, .int st, [], rfl, rfl, hN2 _ _ ?_⟩⟩⟩⟩
      clear hN2 N2
      have npl : pl ≠ b := fun e => by
        obtain ⟨yb, eb⟩ := B8.at
        rw [e, eb] at h8; cases h8
      have K710 : KN b G H10 := KN.trans K8 (KN.kp (Same.trans K9 (Kp.of s10)))
      have B10 := B9.same s10
      have tb10 := Tabs.same (Tabs.kp B8 t8 K9) s10
      have e7' := KN.list K710 np7 e7
      have h10 := s10 _ _ (K9.hd h8 npl)
      have f10 := (f8.kp B8 K9).same s10
      replace k : ∀ a r H', Bag H' b c → Tabs T.TL H' → KN b H10 H' → RowAt K H' a r → okRw r → needL rg r → (∀ z ∈ usesR r, z ∈ six) → Q (.ref a) H' := fun a r H' h1 h2 h3 h4 h5 h6 h7 => k a r H' h1 h2 (KN.trans (KN.kp K7) (KN.trans K710 h3)) h4 h5 h6 h7
      clear e10 n10 s10 B9 K9 h8 f8 t8 K8 B8 K710 e7 B7 tb7 hD7 K7 asc gD
      have lz := f10.len
      have fin : ∀ (G : Hp) (q D2 : Addr) (us : List V) (fs : List Fr), Kp b H10 G → Bag G b c → G q = some (.tup (pts.map V.str)) → G D2 = some (.lst us) → FrsT G us fs → (∀ f ∈ fs, okB 64 f) → fs.length ≤ 240 → ∀ t G2, Same G G2 → G2 t = some (.tup us) → ∀ a G3, Same G2 G3 → G3 a = some (.tup [.str "table", .str "x", .ref q, .ref t]) → Q (.ref a) G3 := by
        intro G q D2 us fs KG BG gq gD2 gf okf lf t G2 s2 et a G3 s3 ea
        have s23 := Same.trans s2 s3
        refine k a (.tab pts fs) G3 (BG.same s23) (Tabs.same (Tabs.kp B10 tb10 KG) s23) (KN.trans (KN.kp KG) (KN.same s23)) ⟨q, t, us, .inl (.inl ea), .inl (.inl (s23 _ _ gq)), .inl (.inl (s3 _ _ et)), gf.same s23⟩ ⟨fun z hz => s11 z (o1 z hz), o2, okf, lf⟩ trivial fun z hz => o1 z (onceS_mem hz)
      have tn : ((sz : Nat) : Int).toNat = sz := Int.toNat_natCast sz
      refine cut_seq (fun σ G2 => σ = [some (V.ref b), some (V.ref d), some (V.int n), some (V.ref l), some (V.int way), some (V.ref D), some (V.int (o - 9)), some (V.ref p7), some (.int sz), x9, some (.ref pl), some (.int st), none, none, none, none] ∧ Bag G2 b c ∧ Kp b H10 G2) (fun N2 hN2 => ?_) ?_
      · walk_at "rs"
        refine ite2 (fun _ => ⟨b, c, 2, rfl, B10, by decide, by decide, fun r H11 r0 r2 B11 K11 => ⟨r, rfl, ite2 (fun _ => ?_) (fun _ => hN2 _ _ ⟨rfl, B11, K11⟩)⟩⟩) (fun _ => hN2 _ _ ⟨rfl, B10, Kp.refl _ _⟩)
        refine ⟨_, SqL.of (K11.hd e7' np7), fun q H12 s12 n12 e12 => ⟨_, rfl, _, rfl, by omega, by omega, ?_⟩⟩
        rw [tn]
        refine fun D2 hD2 => lc_rngI (n := sz) (fun i G ys => ∃ fs, FrsT G ys fs ∧ Same H12 G ∧ fs.length = i ∧ ∀ f ∈ fs, okB 64 f) (by omega) ⟨[], .nil, same_upd hD2, rfl, fun f h => by cases h⟩ (fun i G ys hi hG hl ⟨fs, f1, sg, lf, okf⟩ Q2 hq => ?_) fun G ys hG hl ⟨fs, f1, sg, lf, okf⟩ => ?_
        · walk_at "rs"
          have h7 : (7 : Int) ≠ 0 := by decide
          have bp : ((0 + (i : Int)) - st).natAbs < 2 ^ 64 := by omega
          refine ⟨_, _, ⟨rfl, rfl⟩, h7, pow_le bp (by decide), by decide, fun t G2 s2 n2 e2 => hq _ _ (s2 _ _ hG) ⟨fs ++ [lowF ((0 + (i : Int)) - st) 7], ?_, fun q o e => ?_, ?_, fun f hf => ?_⟩⟩
          · exact ((f1.same s2).upd (s2 _ _ hG)).app (.cons (PrT.upd (s2 _ _ hG) e2) .nil)
          · rw [upd_ne (ne_of_none e hD2)]; exact s2 _ _ (sg _ _ e)
          · rw [List.length_append, lf]; rfl
          · rcases List.mem_append.mp hf with hf | hf
            · exact okf f hf
            · rw [List.mem_singleton.mp hf]; exact okB_low h7 bp (by decide)
        · have sA := Same.trans s12 sg
          refine ⟨D2, rfl, ys, SqL.of hG, fun t G2 s2 n2 e2 => ⟨by decide, fun a G3 s3 n3 e3 => fin G q D2 ys fs (Same.trans K11 (Kp.of sA)) (B11.same sA) (sg _ _ e12) hG f1 okf (by omega) t G2 s2 e2 a G3 s3 e3⟩⟩
      rintro σ G2 ⟨rfl, B11, K11⟩
      walk_at "rs"
      refine ⟨_, SqL.of (K11.hd e7' np7), fun q H12 s12 n12 e12 => ⟨_, rfl, _, rfl, by omega, by omega, ?_⟩⟩
      rw [tn]
      have B12 := B11.same s12
      have K12 : Kp b H10 H12 := Same.trans K11 (Kp.of s12)
      have nqb : q ≠ b := new_ne B11 n12
      refine fun D2 hD2 => lc_rngI (n := sz) (fun i G ys => ∃ fs, FrsT G ys fs ∧ Bag G b c ∧ Kp b H12 G ∧ fs.length = i ∧ ∀ f ∈ fs, okB 64 f) (by omega) ⟨[], .nil, B12.upd (B12.ne2 hD2).1 (B12.ne2 hD2).2, Kp.upd2 (Kp.refl _ _) hD2, rfl, fun f h => by cases h⟩ (fun i G ys hi hG hl ⟨fs, f1, BG, KG, lf, okf⟩ Q2 hq => ?_) fun G ys hG hl ⟨fs, f1, BG, KG, lf, okf⟩ => ?_
      · walk_at "rs"
        have KGG : Kp b H10 G := Same.trans K12 KG
        have hpl : SqT K G pl zs := .inl (.inl (KGG.hd h10 npl))
        have hpl2 : SqT K (hb G b) pl zs := sqT_hb BG hpl
        refine ⟨b, c, .ref pl, zs, rfl, BG, .inr (.inl ⟨pl, rfl, hpl⟩), .inr (.inl ⟨pl, rfl, hpl2⟩), (fun e => by rw [e] at lz; simp at lz; omega), by omega, fun y G2 hy B2 K2 => ?_⟩
        obtain ⟨iy, hiy⟩ := List.getElem?_of_mem hy
        obtain ⟨ay, fy, rfl, hfy, pay⟩ := ((f10.kp B10 KGG).kp BG K2).get' hiy
        have nD2b := (B12.ne2 hD2).1.symm
        have hG2 := K2.hd hG nD2b
        refine hq _ _ hG2 ⟨fs ++ [fy], ((f1.kp BG K2).upd hG2).app (.cons (PrT.upd hG2 pay) .nil), B2.upd (B12.ne2 hD2).1 (B12.ne2 hD2).2, Kp.upd2 (Same.trans KG K2) hD2, by rw [List.length_append, lf]; rfl, fun f hf => ?_⟩
        rcases List.mem_append.mp hf with hf | hf
        · exact okf f hf
        · rw [List.mem_singleton.mp hf]; exact (okg fy (List.mem_of_getElem? hfy)).le (by decide)
      · exact ⟨D2, rfl, ys, SqL.of hG, fun t G2 s2 n2 e2 => ⟨by decide, fun a G3 s3 n3 e3 => fin G q D2 ys fs (Same.trans K12 KG) BG (KG.hd e12 nqb) hG f1 okf (by omega) t G2 s2 e2 a G3 s3 e3⟩⟩
    clear hN N
    refine seq_op fun N hN => ?_
    walk_at "rs"
    refine ⟨by decide, fun p H4 s4 n4 e4 => of_new B4 s4 n4 e4 (by simp) (by decide) fun y H5 hy B5 K5 => hN _ _ ?_⟩
    clear hN N
    obtain ⟨mz, rfl⟩ : ∃ mz : Str, y = .str mz := by
      simp only [List.mem_cons, List.not_mem_nil, or_false] at hy
      rcases hy with h | h | h | h | h | h | h | h <;> exact ⟨_, h⟩
    clear hy e4 n4 s4
    have gD5 := K5.hd gD nDb
    have hD5 := hD3.kn B4 (KN.kp K5)
    have tb5 := Tabs.kp B4 tb3 K5
    replace k : ∀ a r H', Bag H' b c → Tabs T.TL H' → KN b H5 H' → RowAt K H' a r → okRw r → needL rg r → (∀ z ∈ usesR r, z ∈ six) → Q (.ref a) H' := fun a r H' h1 h2 h3 h4 h5 h6 h7 => k a r H' h1 h2 (KN.trans (KN.kp K5) h3) h4 h5 h6 h7
    clear gD hD3 tb3 K5 B4
    have hat : ∀ {G : Hp}, Same H5 G → SqL K G D ([z1, z2, z3].map V.str) := fun s => .inl (.inl (s _ _ gD5))
    obtain ⟨p1, hp1⟩ := Option.isSome_iff_exists.mp (hs z1 z1m)
    obtain ⟨p2, hp2⟩ := Option.isSome_iff_exists.mp (hs z2 z2m)
    obtain ⟨p3, hp3⟩ := Option.isSome_iff_exists.mp (hs z3 z3m)
    obtain ⟨u1, v1, t1, f1⟩ := hD5.get hp1
    obtain ⟨u2, v2, t2, f2⟩ := hD5.get hp2
    obtain ⟨u3, v3, t3, f3⟩ := hD5.get hp3
    obtain ⟨a1, a2, ok1⟩ := hrg z1 p1 hp1
    obtain ⟨c1, c2, ok2⟩ := hrg z2 p2 hp2
    obtain ⟨d1, d2, ok3⟩ := hrg z3 p3 hp3
    have dget : ∀ {G : Hp} (z : Str) (u : Addr), Same H5 G → valV kvs (.inr z) = some (.ref u) → DGet G d (.str z) (some (.ref u)) := fun z u s h => .inl ⟨kvs, .inr z, .inl (s _ _ hD5.at_), rfl, h.symm⟩
    have w1 : ∀ z ∈ usesR (.cnt z2 z3), z ∈ six := fun z hz => by
      have := onceS_mem (show z ∈ onceS [z2, z3] from hz)
      simp only [List.mem_cons, List.not_mem_nil, or_false] at this
      rcases this with h | h <;> subst h <;> assumption
    have w2 : ∀ kd, ∀ z ∈ usesR (.lok kd z1 z2 z3 (o - 9)), z ∈ six := fun kd z hz => by
      have := onceS_mem (show z ∈ onceS [z1, z2, z3] from hz)
      simp only [List.mem_cons, List.not_mem_nil, or_false] at this
      rcases this with h | h | h <;> subst h <;> assumption
    clear hp2 hp3 once
    refine cut_seq (fun σ G => ∃ m : V, σ = [some (V.ref b), some (V.ref d), some (V.int n), some (V.ref l), some (V.int way), some (V.ref D), some (V.int (o - 9)), none, none, none, none, none, some m, none, none, none] ∧ Same H5 G) (fun N hN => ?_) ?_
    · walk_at "rs"
      refine ite2 (fun _ => ?_) (fun _ => hN _ _ ⟨.str mz, rfl, Same.refl _⟩)
      refine ix_get (z := z3) rfl rfl (hat (Same.refl _)) rfl (dget z3 u3 (Same.refl _) v3) ⟨u3, rfl, ⟨p3.1, t3⟩, fun D2 hD2 => lc_it (walk_tup (K := K) (a := u3) (xs := p3.1)) (fun j G => Same H5 G ∧ ∃ us, G D2 = some (.lst us) ∧ us.length = j) ⟨same_upd hD2, [], upd_same, rfl⟩ (fun j G _ h => Same.seqT h.1 t3) ?_ ?_⟩
      · rintro j y G1 G2 hj ⟨s1, us, g1, lu⟩ ⟨rfl, hy1⟩
        unfold tDGet
        walk_at "rs"
        simp only [tYes, eq_self, ite_true]
        have l2 : 0 < p2.1.length := c1
        refine ⟨_, hat s1, _, rfl, _, dget z2 u2 s1 v2, u2, rfl, p2.1, Same.seqT s1 t2, p2.1[0], at_ofN (j := 0) rfl (List.getElem?_eq_getElem l2), by decide, fun q G3 s3 n3 e3 => ⟨us, s3 _ _ g1, Nat.lt_of_le_of_lt (show us.length ≤ 240 by omega) (by decide), fun a o e => ?_, _, upd_same, by rw [List.length_append, lu]; rfl⟩⟩
        rw [upd_ne (ne_of_none e hD2)]; exact s3 _ _ (s1 _ _ e)
      · rintro G2 ⟨s1, us, g1, lu⟩
        exact ⟨D2, rfl, us, .inl (.inl g1), fun q G3 s3 n3 e3 => hN _ _ ⟨.ref q, rfl, Same.trans s1 s3⟩⟩
    rintro σ G ⟨m, rfl, sg⟩
    have BG := B5.same sg
    have tG := Tabs.same tb5 sg
    refine seq_op fun N hN => ?_
    walk_at "rs"
    refine ite2 (fun _ => ?_) (fun _ => hN _ _ ?_)
    · exact ⟨_, hat sg, _, rfl, _, hat sg, _, rfl, by decide, fun p G2 s2 n2 e2 => k p (.cnt z2 z3) G2 (BG.same s2) (Tabs.same tG s2) (KN.same (Same.trans sg s2)) ⟨m, .inl (.inl e2)⟩ ⟨s11 _ z2m, s11 _ z3m⟩ trivial w1⟩
    clear hN N
    refine seq_op fun N hN => ?_
    walk_at "rs"
    refine hN _ _ ?_
    clear hN N
    refine cut_seq (fun σ G2 => ∃ kd : Str, σ = [some (V.ref b), some (V.ref d), some (V.int n), some (V.ref l), some (V.int way), some (V.ref D), some (V.int (o - 9)), none, none, none, none, none, some m, some (.str kd), none, none] ∧ kd ∈ lookL ∧ (kd = "mean" → p1.2.length ≤ 4 ∧ ∀ f ∈ p1.2, f.2 = 1) ∧ Bag G2 b c ∧ Kp b G G2) (fun N hN => ?_) ?_
    · have pick : ∀ (G1 : Hp), Same G G1 → (2 ≤ sizeLine ∧ ∀ (p : Addr) (H2 : Hp), Same G1 H2 → G1 p = none → H2 p = some (HO.lst [V.str "first", V.str "last"]) → sp__law_of K [V.ref b, V.ref p] H2 (fun x H1 => N [some (V.ref b), some (V.ref d), some (V.int n), some (V.ref l), some (V.int way), some (V.ref D), some (V.int (o - 9)), none, none, none, none, none, some m, some x, none, none] H1) E0) := fun G1 s1 =>
        ⟨by decide, fun p H2 s2 n2 e2 => of_new (BG.same s1) s2 n2 e2 (by simp) (by decide) fun y H3 hy B3 K3 => by
          have q : ∀ kd : Str, kd ∈ lookL → kd ≠ "mean" → y = .str kd → N [some (V.ref b), some (V.ref d), some (V.int n), some (V.ref l), some (V.int way), some (V.ref D), some (V.int (o - 9)), none, none, none, none, none, some m, some y, none, none] H3 := fun kd h1 h2 h3 => by
            subst h3
            exact hN _ _ ⟨kd, rfl, h1, fun z => absurd z h2, B3, Same.trans (Kp.of s1) K3⟩
          simp only [List.mem_cons, List.not_mem_nil, or_false] at hy
          rcases hy with h | h
          · exact q "first" (by decide +kernel) (by decide +kernel) h
          · exact q "last" (by decide +kernel) (by decide +kernel) h⟩
      have g1 : SqT K G u1 p1.1 := Same.seqT sg t1
      walk_at "rs"
      refine ite2 (fun _ => pick G (Same.refl _)) (fun _ => ?_)
      refine ix_get (z := z1) rfl rfl (hat sg) rfl (dget z1 u1 sg v1) ⟨u1, rfl, p1.1, .inr g1, ite2 (fun _ => pick G (Same.refl _)) (fun h4 => ?_)⟩
      refine ix_get (z := z1) rfl rfl (hat sg) rfl (dget z1 u1 sg v1) ⟨u1, rfl, ⟨p1.1, g1⟩, fun D2 hD2 => lc_it (walk_tup (K := K) (a := u1) (xs := p1.1)) (fun j G2 => Same G G2 ∧ ∃ us fs, G2 D2 = some (.lst us) ∧ FrsT G2 us fs ∧ fs.length ≤ j ∧ (fs = [] → ∀ f ∈ p1.2.take j, f.2 = 1)) ⟨same_upd hD2, [], [], upd_same, .nil, Nat.le_refl _, fun _ f h => by simp at h⟩ (fun j G2 _ h => Same.seqT h.1 g1) ?_ ?_⟩
      · rintro j y G1 G2 hj ⟨s1, us, fs, g2, fu, lf, hf1⟩ ⟨rfl, hy1⟩
        obtain ⟨e, f, rfl, hf, he⟩ := (f1.same (Same.trans sg s1)).get' hy1
        have ef : p1.2.take (j + 1) = p1.2.take j ++ [f] := by rw [List.take_succ, hf]; rfl
        walk_at "rs"
        refine ⟨_, he.pr, _, rfl, _, rfl, ite2 (fun _ => ?_) (fun nf => ?_)⟩
        · have lu := fu.len
          have hj2 : j < 240 := by omega
          refine ⟨us, g2, Nat.lt_of_le_of_lt (show us.length ≤ 240 by omega) (by decide), fun a o h => ?_, _, upd_same, fs ++ [f], (fu.upd g2).app (.cons (PrT.upd g2 he) .nil), by rw [List.length_append, List.length_singleton]; omega, fun z => by simp at z⟩
          rw [upd_ne (ne_of_none h hD2)]; exact s1 _ _ h
        · refine ⟨s1, us, g2, fs, fu, by omega, fun z g hg => ?_⟩
          rw [ef] at hg
          rcases List.mem_append.mp hg with hg | hg
          · exact hf1 z g hg
          · rw [List.mem_singleton.mp hg]; exact Classical.byContradiction nf
      · rintro G2 ⟨s1, us, fs, g2, fu, lf, hf1⟩
        rw [f1.len, List.take_length] at hf1
        refine ⟨by decide, fun p H6 s6 n6 e6 => ⟨.list (fs.map frD), .list [], .lst (.inl (.inl (s6 _ _ g2))) (dp_frs (fu.same s6).frs), .lst (.inl (.inl e6)) .nil, (lay_list (lay_frs fs)).shaped (by decide), by decide, _, rfl, ?_⟩⟩
        have s16 := Same.trans s1 s6
        cases fs with
        | nil => exact iteFF (by decide) (hN _ _ ⟨"mean", rfl, by decide +kernel, fun _ => ⟨by have := f1.len; omega, hf1 rfl⟩, BG.same s16, Kp.of s16⟩)
        | cons f fs => exact iteTT rfl (pick H6 s16)
    rintro σ G2 ⟨kd, rfl, kl, km, B2, K2⟩
    walk_at "rs"
    have g5 : SqL K G2 D ([z1, z2, z3].map V.str) := SqL.of (K2.hd (sg _ _ gD5) nDb)
    exact ⟨_, g5, _, rfl, _, g5, _, rfl, _, g5, _, rfl, by decide, fun p G3 s3 n3 e3 => k p (.lok kd z1 z2 z3 (o - 9)) G3 (B2.same s3) (Tabs.same (Tabs.kp BG tG K2) s3) (KN.kp (Same.trans (Kp.of sg) (Same.trans K2 (Kp.of s3)))) ⟨m, .inl (.inl e3)⟩ ⟨kl, s11 _ z1m, s11 _ z2m, s11 _ z3m, ok0⟩ ⟨p1, hp1, km⟩ (w2 kd)⟩
end
end LK

set_option Elab.async false
set_option linter.all false
set_option maxRecDepth 100000
namespace LK
open PySem PySem.Spec PyProof.Rows L2
local macro_rules | `(tactic| walk_at "rs") => `(tactic| simp only [cxK, cxNK, tCallZ, tAsg, tOp, rI0, rS0, rB0, rI, rU, tUn, rEq, rNe, rIxL, rIxT, rIxS, rSetL, rSlLU, rSlS, rSlU, rCatL, rCatU, rRepL, rIn, tVar, tC, gName, gSub, tIfS, tTest, tB, tAnd, tOr, tNot, tNotV, tAndV, tOrV, tIf, tCall, tCons, tNil, tCB, tDrop, tRet, tRetN, tNext, tLstU, tTupU, tM0, tM1, tPar, tPar3, tAug, ipI, tBM, tBM0, rAppend, rPop, tBreak, tCont, tChain, tSl, tPart, tNoPart, L2.start, List.map, List.length_cons, List.length_nil, List.replicate, List.cons_append, List.nil_append, List.append_nil, List.getElem?_cons_zero, List.getElem?_cons_succ, List.set_cons_zero, List.set_cons_succ, Option.some.injEq, V.int.injEq, V.ref.injEq, V.str.injEq, V.bl.injEq, exists_eq_left', exists_eq_left, exists_and_left, decide_eq_true_eq, List.cons.injEq, and_true, true_and, scal, Bool.not_eq_true', decide_eq_false_iff_not, Nat.zero_add, Nat.reduceAdd, Nat.reduceSub, reduceCtorEq, false_and, exists_false, false_or, or_false, CPow, CMul, CDiv, Int.reduceToNat, ↓reduceIte, wipe, sw, List.nil_append, List.singleton_append])
local macro_rules | `(tactic| walk_at "st") => `(tactic| (refine seq_op fun N hN => ?_; walk_at "rs"))
local macro_rules | `(tactic| walk_at "sd") => `(tactic| first | assumption | decide | omega)
local macro_rules | `(tactic| walk_at "rd") => `(tactic| repeat (first
  | refine ⟨_, SqL.of (by assumption), ?_⟩ | refine ⟨_, SqL.of upd_same, ?_⟩ | refine ⟨_, .inl (SqL.of (by assumption)), ?_⟩ | refine ⟨_, (by assumption : _ = some (HO.lst _)), ?_⟩ | refine ⟨_, upd_same, ?_⟩
  | refine ⟨_, rfl, ?_⟩ | refine And.intro (by walk_at "sd") ?_))

open LamX (Tabs TabS ExtN TabB)
/-! ### ranges of lines, as the law asks -/
/-- an entry of the pool: its name, where it lies, its values -/
abbrev Ent := Str × Addr × List V × List Fr
def kvE (es : List Ent) : List (Key × V) := es.map fun e => (.inr e.1, .ref e.2.1)
def rgE : List Ent → Str → Option (List V × List Fr)
  | [], _ => none
  | e :: es, z => if e.1 = z then some e.2.2 else rgE es z
def Es (K : PySem.W.Frag) (H : Hp) (es : List Ent) : Prop := ∀ e ∈ es, SqT K H e.2.1 e.2.2.1 ∧ FrsT H e.2.2.1 e.2.2.2 ∧ 1 ≤ e.2.2.1.length ∧ e.2.2.1.length ≤ 240 ∧ ∀ f ∈ e.2.2.2, okB 60 f
theorem Es.kn {K : PySem.W.Frag} {b c : Addr} {H H' : Hp} (B : Bag H b c) (k : KN b H H') {es : List Ent} (h : Es K H es) : Es K H' es := fun e he => by
  obtain ⟨h1, h2, h3⟩ := h e he
  exact ⟨KN.seqT B k h1, h2.kn B k, h3⟩
theorem Es.same {K : PySem.W.Frag} {H H' : Hp} (s : Same H H') {es : List Ent} (h : Es K H es) : Es K H' es := fun e he => by
  obtain ⟨h1, h2, h3⟩ := h e he
  exact ⟨Same.seqT s h1, h2.same s, h3⟩
theorem Es.app {K : PySem.W.Frag} {H : Hp} {es fs : List Ent} (h : Es K H es) (h' : Es K H fs) : Es K H (es ++ fs) := fun e he => (List.mem_append.mp he).elim (h e) (h' e)
theorem Es.one {K : PySem.W.Frag} {H : Hp} {e : Ent} (h1 : SqT K H e.2.1 e.2.2.1) (h2 : FrsT H e.2.2.1 e.2.2.2) (h3 : 1 ≤ e.2.2.1.length) (h4 : e.2.2.1.length ≤ 240) (h5 : ∀ f ∈ e.2.2.2, okB 60 f) : Es K H [e] := fun x hx => by
  rw [List.mem_singleton.mp hx]; exact ⟨h1, h2, h3, h4, h5⟩
theorem FrsT.updK {H : Hp} {p : Addr} {ys : List (Key × V)} {o : HO} (hp : H p = some (.dK ys)) : ∀ {xs : List V} {fs : List Fr}, FrsT H xs fs → FrsT (L2.upd H p o) xs fs
  | _, _, .nil => .nil
  | _, _, .cons h q => .cons (by unfold PrT at h ⊢; rw [upd_ne (fun e => by rw [e, hp] at h; cases h)]; exact h) (q.updK hp)
theorem seqT_updK {K : PySem.W.Frag} {H : Hp} {p a : Addr} {ys : List (Key × V)} {xs : List V} {o : HO} (hp : H p = some (.dK ys)) (h : SqT K H a xs) : SqT K (L2.upd H p o) a xs := by
  rcases h with (h | ⟨w, h⟩) | h
  · exact .inl (.inl (by rw [upd_ne (fun z => by rw [z, hp] at h; cases h)]; exact h))
  · exact .inl (.inr ⟨w, by rw [upd_ne (fun z => by rw [z, hp] at h; cases h)]; exact h⟩)
  · exact .inr h
theorem Es.updK {K : PySem.W.Frag} {H : Hp} {p : Addr} {ys : List (Key × V)} {o : HO} (hp : H p = some (.dK ys)) {es : List Ent} (h : Es K H es) : Es K (L2.upd H p o) es := fun e he => by
  obtain ⟨h1, h2, h3⟩ := h e he
  exact ⟨seqT_updK hp h1, h2.updK hp, h3⟩
theorem rgE_mem {z : Str} {p : List V × List Fr} : ∀ {es : List Ent}, rgE es z = some p → ∃ t, (z, t, p) ∈ es
  | [], h => by simp [rgE] at h
  | e :: es, h => by
    unfold rgE at h
    by_cases c : e.1 = z
    · rw [if_pos c] at h
      obtain ⟨z', t, p'⟩ := e
      cases c
      cases Option.some.inj h
      exact ⟨t, List.mem_cons_self⟩
    · rw [if_neg c] at h
      obtain ⟨t, ht⟩ := rgE_mem h
      exact ⟨t, List.mem_cons_of_mem _ ht⟩
theorem rd_es {K : PySem.W.Frag} {H : Hp} {d : Addr} {es : List Ent} (hd : H d = some (.dK (kvE es))) (l : es.length ≤ 20) (h : Es K H es) : RD K H d (kvE es) (rgE es) where
  at_ := hd
  len := by unfold kvE; rw [List.length_map]; exact l
  ent := fun z => by
    clear hd l
    induction es with
    | nil => exact True.intro
    | cons e es ih =>
      have h0 := h e List.mem_cons_self
      unfold rgE kvE valV
      rw [List.map_cons, List.find?_cons]
      by_cases c : e.1 = z
      · rw [if_pos c, show decide (((.inr e.1 : Key), V.ref e.2.1).1 = .inr z) = true from decide_eq_true (congrArg Sum.inr c)]
        exact ⟨e.2.1, rfl, h0.1, h0.2.1⟩
      · rw [if_neg c, show decide (((.inr e.1 : Key), V.ref e.2.1).1 = .inr z) = false from decide_eq_false fun x => c (Sum.inr.inj x)]
        exact ih fun x hx => h x (List.mem_cons_of_mem _ hx)
theorem rg_es {K : PySem.W.Frag} {H : Hp} {es : List Ent} (h : Es K H es) : okRg (rgE es) := fun z p hz => by
  obtain ⟨t, ht⟩ := rgE_mem hz
  exact (h _ ht).2.2
theorem put_es {es : List Ent} {z : Str} {t : Addr} {p : List V × List Fr} (h : z ∉ es.map (·.1)) : putK (kvE es) (.inr z) (.ref t) = kvE (es ++ [(z, t, p)]) := by
  have n : ¬ ((kvE es).any fun kv => decide (kv.1 = .inr z)) = true := fun e => by
    obtain ⟨kv, h1, h2⟩ := List.any_eq_true.mp e
    obtain ⟨x, hx, rfl⟩ := List.mem_map.mp h1
    exact h (List.mem_map.mpr ⟨x, hx, Sum.inr.inj (of_decide_eq_true h2)⟩)
  unfold putK
  rw [if_neg n]
  unfold kvE
  rw [List.map_append]; rfl
/-- 0 to n - 1 -/
def cntN (n : Nat) : List Fr := (List.range n).map fun (k : Nat) => ((k : Int), (1 : Int))
theorem cntN_succ (n : Nat) : cntN (n + 1) = cntN n ++ [((n : Int), 1)] := by unfold cntN; rw [List.range_succ, List.map_append]; rfl
theorem cntN_ok {n : Nat} (h : n ≤ 240) : ∀ f ∈ cntN n, okB 60 f := fun f hf => by
  obtain ⟨k, hk, rfl⟩ := List.mem_map.mp hf
  have := List.mem_range.mp hk
  exact ⟨Int.le_refl 1, Nat.gcd_one_right _, by show ((k : Int)).natAbs < 2 ^ 60; omega, (by decide : 1 < 2 ^ 60)⟩
theorem Tabs.updK {T : List (Addr × Str)} {H : Hp} {p : Addr} {ys : List (Key × V)} {o : HO} (hp : H p = some (.dK ys)) (t : Tabs T H) : Tabs T (L2.upd H p o) := fun q hq => by
  obtain ⟨ps, h1, h2, h3⟩ := t q hq
  have n1 : q.1 ≠ p := fun e => by rw [e, hp] at h1; cases h1
  refine ⟨ps, by rw [upd_ne n1]; exact h1, h2, fun pos cv hc => ?_⟩
  obtain ⟨c0, e1, e2⟩ := h3 pos cv hc
  refine ⟨c0, e1, ?_⟩
  rw [upd_ne]; exact e2
  intro e
  rw [e, hp] at e2
  have z := (Option.some.inj e2).symm
  unfold LamX.CodeO at z
  cases z
theorem it_kind {K : PySem.W.Frag} {i4 : Nat} {σ : L2.St} {H : Hp} {a : Addr} {r : Rw} {t1 t2 : TE} {Q : VK} (h4 : σ[i4]? = some (some (.ref a))) (ha : RowAt K H a r) (ok : okRw r) (k1 : isLook r = false → ∀ H', Same H H' → t1 σ H' Q) (k2 : isLook r = true → ∀ H', Same H H' → t2 σ H' Q) :
    tIf (tTest (tOp (rIn K false) (tOp (rIxT K) (tVar i4) (tC (.int 0))) (tTupU (tCons (tC (.str "be")) (tCons (tC (.str "table")) tNil))))) t1 t2 σ H Q := by
  obtain ⟨ys, h1, h2, h3⟩ := ha.kind
  walk_at "rs"
  refine ⟨_, h4, _, rfl, ys, h1, _, at_ofN rfl h2, by decide, fun p H2 s2 d2 e2 => ⟨_, .inr (.inl (.inl e2)), rfl, rfl, ?_⟩⟩
  rw [kind_look ok]
  cases e : isLook r with
  | false => exact iteTT rfl (k1 e H2 s2)
  | true => exact iteFF (by decide) (k2 e H2 s2)
theorem it_trio {K : PySem.W.Frag} {i4 : Nat} {σ : L2.St} {H : Hp} {a : Addr} {r : Rw} {Q : VK} (h4 : σ[i4]? = some (some (.ref a))) (ha : RowAt K H a r) (ok : okRw r) (lk : isLook r = true) (k : ∀ p H', Same H H' → H' p = some (.lst [.str (trioR r).1, .str (trioR r).2]) → Q (.ref p) H') :
    tLstU (tCons (tOp (rIxT K) (tCall (sp_trio K) [] E0 (tCons (tVar i4) tNil)) (tC (.int 0))) (tCons (tOp (rIxT K) (tCall (sp_trio K) [] E0 (tCons (tVar i4) tNil)) (tC (.int 2))) tNil)) σ H Q := by
  walk_at "rs"
  refine ⟨_, h4, a, r, rfl, ha, ok, lk, fun t m H1 s1 h1 => ⟨_, rfl, _, h1, _, rfl, _, h4, a, r, rfl, ha.same s1, ok, lk, fun t2 m2 H2 s2 h2 => ⟨_, rfl, _, h2, _, rfl, by decide, fun p H3 s3 n3 e3 => k p H3 (Same.trans s1 (Same.trans s2 s3)) e3⟩⟩⟩
theorem colsV_snoc {rg : Str → Option (List V × List Fr)} {l : List Str} {z : Str} {p : List V × List Fr} (h : rg z = some p) : colsV rg (l ++ [z]) = colsV rg l ++ [p.1] := by
  unfold colsV
  rw [List.map_append, List.map_cons, h]; rfl
theorem trio_six {r : Rw} (lk : isLook r = true) (h : ∀ z ∈ usesR r, z ∈ six) : ∀ z ∈ [(trioR r).1, (trioR r).2], z ∈ six := by
  intro z hz
  cases r with
  | be ws => cases lk
  | tab ps fs => cases lk
  | cnt k q => exact h z (onceS_mem' hz)
  | lok y0 y k q o => exact h z (onceS_mem' (List.mem_cons_of_mem _ hz))
theorem cols_congr {rg rg' : Str → Option (List V × List Fr)} {zs : List Str} (h : ∀ z ∈ zs, rg z = rg' z) : colsV rg zs = colsV rg' zs ∧ colsF rg zs = colsF rg' zs :=
  ⟨List.map_congr_left fun z hz => by rw [h z hz], List.map_congr_left fun z hz => by rw [h z hz]⟩
theorem memR_congr {rg rg' : Str → Option (List V × List Fr)} {n : Nat} {r : Rw} (h : ∀ z ∈ usesR r, rg z = rg' z) (x : Fr) : memR rg n r x ↔ memR rg' n r x := by
  cases r with
  | be ws =>
    show x ∈ worths ws (rowsF (colsF rg (namesOf ws))) ↔ x ∈ worths ws (rowsF (colsF rg' (namesOf ws)))
    rw [(cols_congr (zs := namesOf ws) h).2]
  | tab ps fs => exact Iff.rfl
  | cnt k q => exact Iff.rfl
  | lok z y k q o =>
    show (if z = "mean" then MeanOf (ns1 ((rg y).getD ([], [])).2) n x else x ∈ ((rg y).getD ([], [])).2) ∨ x = (o, 1) ↔ (if z = "mean" then MeanOf (ns1 ((rg' y).getD ([], [])).2) n x else x ∈ ((rg' y).getD ([], [])).2) ∨ x = (o, 1)
    rw [h y (onceS_mem' List.mem_cons_self)]
theorem needR_congr {rg rg' : Str → Option (List V × List Fr)} {r : Rw} (h : ∀ z ∈ usesR r, rg z = rg' z) (nd : needR rg r) : needR rg' r := by
  cases r with
  | be ws =>
    obtain ⟨h1, h2⟩ := nd
    refine ⟨fun z hz => ?_, ?_⟩
    · rw [← h z hz]; exact h1 z hz
    · rw [← (cols_congr (zs := namesOf ws) h).1]; exact h2
  | tab ps fs => trivial
  | cnt k q => trivial
  | lok z y k q o =>
    obtain ⟨p, h1, h2⟩ := nd
    exact ⟨p, by rw [← h y (onceS_mem' List.mem_cons_self)]; exact h1, h2⟩
/-- the pairs of a name and its range, at us -/
inductive Prs (H : Hp) : List V → List Ent → Prop
  | nil : Prs H [] []
  | cons {t : Addr} {e : Ent} {us : List V} {es : List Ent} : H t = some (.tup [.str e.1, .ref e.2.1]) → Prs H us es → Prs H (.ref t :: us) (e :: es)
theorem Prs.same {H H' : Hp} (s : Same H H') : ∀ {us : List V} {es : List Ent}, Prs H us es → Prs H' us es
  | _, _, .nil => .nil
  | _, _, .cons h q => .cons (s _ _ h) (q.same s)
theorem Prs.upd {H : Hp} {p : Addr} {ys : List V} {o : HO} (hp : H p = some (.lst ys)) : ∀ {us : List V} {es : List Ent}, Prs H us es → Prs (L2.upd H p o) us es
  | _, _, .nil => .nil
  | _, _, .cons h q => .cons (by rw [upd_ne (fun e => by rw [e, hp] at h; cases h)]; exact h) (q.upd hp)
theorem Prs.app {H : Hp} : ∀ {us vs : List V} {es fs : List Ent}, Prs H us es → Prs H vs fs → Prs H (us ++ vs) (es ++ fs)
  | _, _, _, _, .nil, r => r
  | _, _, _, _, .cons h q, r => .cons h (q.app r)
theorem Prs.len {H : Hp} : ∀ {us : List V} {es : List Ent}, Prs H us es → us.length = es.length
  | _, _, .nil => rfl
  | _, _, .cons _ q => congrArg Nat.succ q.len
def entDat (e : Ent) : PyData := .tuple [.str e.1, spD e.2.2.2]
theorem prs_dp {K : PySem.W.Frag} {H : Hp} : ∀ {us : List V} {es : List Ent}, Prs H us es → Es K H es → DpAll K H us (es.map entDat)
  | _, _, .nil, _ => .nil
  | _, e :: _, .cons h q, hE => .cons (.tup (.inl (.inl h)) (.cons (.str e.1) (.cons (.tup (hE e List.mem_cons_self).1 (dp_frs (hE e List.mem_cons_self).2.1.frs)) .nil))) (prs_dp q fun x hx => hE x (List.mem_cons_of_mem _ hx))
theorem prs_items {H : Hp} : ∀ {es : List Ent} {ts : List Addr}, Paired (fun (t : Addr) (q : Key × V) => H t = some (.tup [kV q.1, q.2])) ts (kvE es) → Prs H (ts.map V.ref) es
  | [], _, .nil => .nil
  | _ :: _, _ :: _, .cons h q => .cons h (prs_items q)
theorem lay_ent {es : List Ent} (h : ∀ e ∈ es, e.1 ∈ six) : ∀ d ∈ es.map entDat, Lay 3 d := fun d hd => by
  obtain ⟨e, he, rfl⟩ := List.mem_map.mp hd
  have q : ∀ z ∈ six, PyData.canLay0 (.str z) = true := by decide +kernel
  refine lay_tup fun x hx => ?_
  simp only [List.mem_cons, List.not_mem_nil, or_false] at hx
  rcases hx with rfl | rfl
  · exact ⟨q _ (h e he), Nat.zero_le _⟩
  · exact lay_sp _
/-- the entry of a name -/
def entOf (ee : List Ent) (z : Str) : Ent := (z, (match valV (kvE ee) (.inr z) with | some (.ref u) => u | _ => 0), (rgE ee z).getD ([], []))
theorem rgE_map {ee : List Ent} {z : Str} : ∀ {zs : List Str}, z ∈ zs → rgE (zs.map (entOf ee)) z = some ((rgE ee z).getD ([], []))
  | y :: zs, h => by
    show (if y = z then some (entOf ee y).2.2 else rgE (zs.map (entOf ee)) z) = _
    by_cases c : y = z
    · rw [if_pos c, c]; rfl
    · rw [if_neg c]
      exact rgE_map ((List.mem_cons.mp h).resolve_left fun e => c e.symm)
theorem ha_ext {K : PySem.W.Frag} {H H' : Hp} {a : Addr} (s : LamX.ExtN H H') : ∀ {r : Rw}, RowAt K H a r → RowAt K H' a r
  | .be _, ⟨e, h1, h2⟩ => ⟨e, ExtN.seqT s h1, ExtN.seqT s h2⟩
  | .tab _ _, ⟨e, t, xs, h1, h2, h3, h4⟩ => ⟨e, t, xs, ExtN.seqT s h1, ExtN.seqT s h2, ExtN.seqT s h3, h4.ext s⟩
  | .cnt _ _, ⟨m, h⟩ => ⟨m, ExtN.seqT s h⟩
  | .lok _ _ _ _ _, ⟨m, h⟩ => ⟨m, ExtN.seqT s h⟩
theorem es_ext {K : PySem.W.Frag} {H H' : Hp} (s : LamX.ExtN H H') {es : List Ent} (h : Es K H es) : Es K H' es := fun e he => by
  obtain ⟨h1, h2, h3⟩ := h e he
  exact ⟨ExtN.seqT s h1, h2.ext s, h3⟩
theorem lc_cnt {n i0 : Nat} {σ : L2.St} {H1 : Hp} {D : Addr} {Qd : Hp → Prop} (hn : n ≤ 240) (hD : H1 D = none) (hi : ∀ v : V, ((wipe σ [i0]).set i0 (some v))[i0]? = some (some v)) (hq : ∀ G ys, Same H1 G → G D = some (.lst ys) → FrsT G ys (cntN n) → Qd G) :
    ∃ W : Nat → Nat → Hp → Prop, (∃ m, W 0 m (L2.upd H1 D (.lst []))) ∧ ∀ i m H, W i m H →
      ((Itr 0 n).stop i H ∧ Qd H) ∨ ((Itr 0 n).go i H ∧ ∃ Nx : Hp → Prop, (∀ H', Nx H' → ∃ m', m' < m ∧ W (i + 1) m' H') ∧ ∀ x H', (Itr 0 n).yld i H x H' → gName i0 x (wipe σ [i0]) H' fun σ2 H2 => wipe σ2 [i0] = wipe σ [i0] ∧ tYes σ2 H2 fun b H3 =>
        if b = true then (tTupU (tCons (tVar i0) (tCons (tC (.int 1)) tNil))) σ2 H3 fun y H4 => ∃ acc, H4 D = some (.lst acc) ∧ acc.length < sizeLine ∧ Nx (L2.upd H4 D (.lst (acc ++ [y]))) else Nx H3) := by
  refine lc_rngI (n := n) (fun i G ys => FrsT G ys (cntN i) ∧ Same H1 G) (by omega) ⟨.nil, same_upd hD⟩ (fun i G ys h1 hG hl ⟨f1, sg⟩ Q2 hq2 => ?_) fun G ys hG hl ⟨f1, sg⟩ => hq G ys sg hG f1
  simp only [tTupU, tCons, tVar, tC, tNil]
  refine ⟨_, hi _, Nat.le_trans (show [V.int (0 + (i : Int)), V.int 1].length ≤ 2 from Nat.le_refl 2) (by decide), fun t G2 s2 n2 e2 => hq2 _ _ (s2 _ _ hG) ⟨?_, fun q o e => ?_⟩⟩
  · rw [cntN_succ]
    rw [Int.zero_add] at e2
    exact ((f1.same s2).upd (s2 _ _ hG)).app (.cons (PrT.upd (s2 _ _ hG) e2) .nil)
  · rw [upd_ne (ne_of_none e hD)]; exact s2 _ _ (sg _ _ e)
section
variable {P : Program} {w : World} {K : PySem.W.Frag} {mg : Str → Option Value} {base : Heap}
theorem ok__law_ranges_right (T : Txt w K mg) (hB : ∀ p ∈ T.cs, TabB base mg p.1 p.2) : FnOk P w K mg base CX0 18 T.a__law_ranges_right T.d__law_ranges_right ["bag"] (sp_right T.TL) := by
  refine T.F__law_ranges_right.ok sc__law_ranges_right (fun vs H Q E h => ?_) (fun cdv A outer s H vs Q E hr h => ?_)
  · obtain ⟨b, c, rfl, _⟩ := h
    rfl
  · obtain ⟨b, c, rfl, B, tb, k⟩ := h
    have hr__law_draw : Room 1 _ := hr.mono (by decide)
    have G__law_draw := ok__law_draw (P := P) (base := base) T
    have hr__law_of : Room 2 _ := hr.mono (by decide)
    have G__law_of := ok__law_of (P := P) (base := base) T
    have hr__law_range : Room 5 _ := hr.mono (by decide)
    have G__law_range := ok__law_range (P := P) (base := base) T hB
    have hr__law_rising : Room 4 _ := hr.mono (by decide)
    have G__law_rising := ok__law_rising (P := P) (base := base) T hB
    have hr__law_wholes : Room 2 _ := hr.mono (by decide)
    have G__law_wholes := ok__law_wholes (P := P) (base := base) T
    have hr__law_row : Room 6 _ := hr.mono (by decide)
    have G__law_row := ok__law_row (P := P) (base := base) T hB
    have hr__law_uses : Room 3 _ := hr.mono (by decide)
    have G__law_uses := ok__law_uses (P := P) (base := base) T
    have hr__law_trio : Room 1 _ := hr.mono (by decide)
    have G__law_trio := ok__law_trio (P := P) (base := base) T
    have hr__law_span : Room 5 _ := hr.mono (by decide)
    have G__law_span := ok__law_span (P := P) (base := base) T hB
    have hr_line_range : Room 17 _ := hr
    have G_line_range := ok_line_range (P := P) (base := base) T
    have hr__law_like_fractions : Room 4 _ := hr.mono (by decide)
    have G__law_like_fractions := ok__law_like_fractions (P := P) (base := base) T
    have hu1 : (A.deeper (envOfC "_law_ranges_right" (defScope s__law_ranges_right) s.heap.objs.size T.a__law_ranges_right cdv)).units + 1 < cLine := Nat.lt_of_le_of_lt (Nat.add_le_add_left (by decide : 1 ≤ 64) _) hr.units
    refine ⟨_, (pss_cons (ps_set (i := 1) sc__law_ranges_right.nd rfl (Or.inl rfl) (pe_op op_add pe_int (pe_call G__law_draw hr__law_draw (by rfl) T.m__law_draw T.F__law_draw.kp T.B__law_draw .nil pass0 (pa_cons (pv 0) (pa_cons pe_int pa_nil)))))
      (pss_cons (ps_set (i := 2) sc__law_ranges_right.nd rfl (Or.inr rfl) (pe_disp (pps_cons pe_str (pe_callTy call_tupleN (by rfl) T.n_tuple (by decide +kernel) (pa_cons (pe_lc (own := [("k", 12)]) (g := gName 12) (tt := tYes) rfl sc__law_ranges_right.nd (pi_range1 (by rfl) T.n_range (pa_cons (pe_op op_add pe_int (pe_call G__law_draw hr__law_draw (by rfl) T.m__law_draw T.F__law_draw.kp T.B__law_draw .nil pass0 (pa_cons (pv 0) (pa_cons pe_int pa_nil)))) pa_nil)) (blkOk_by (own := [("k", 12)]) (N := N__law_ranges_right) (sc := defScope s__law_ranges_right) (by decide +kernel)) (fun _ _ _ _ _ => pg_name (i := 12) sc__law_ranges_right.nd rfl (Or.inl rfl)) (fun _ _ _ _ _ => pts_nil) (fun _ _ _ _ _ => (pe_tupU (pa_cons (pv 12) (pa_cons pe_int pa_nil))))) pa_nil)) (pps_cons pe_str (pe_callTy call_tupleN (by rfl) T.n_tuple (by decide +kernel) (pa_cons (pe_lc (own := [("k", 12)]) (g := gName 12) (tt := tYes) rfl sc__law_ranges_right.nd (pi_range1 (by rfl) T.n_range (pa_cons (pv 1) pa_nil)) (blkOk_by (own := [("k", 12)]) (N := N__law_ranges_right) (sc := defScope s__law_ranges_right) (by decide +kernel)) (fun _ _ _ _ _ => pg_name (i := 12) sc__law_ranges_right.nd rfl (Or.inl rfl)) (fun _ _ _ _ _ => pts_nil) (fun _ _ _ _ _ => (pe_tupU (pa_cons (pv 12) (pa_cons pe_int pa_nil))))) pa_nil)) pps_nil)) (by rfl) (by rfl) (fun z => by cases z) (by decide)))
      (pss_cons (ps_for PassesOwn.never rfl (pi_tup (pe_tupU (pa_cons pe_str (pa_cons pe_str (pa_cons pe_str pa_nil))))) (pg_name (i := 3) sc__law_ranges_right.nd rfl (Or.inl rfl)) (pss_one (ps_dput hu1 (pv 2) (pv 3) (pe_call G__law_range hr__law_range (by rfl) T.m__law_range T.F__law_range.kp T.B__law_range .nil pass0 (pa_cons (pv 0) (pa_cons (pe_call G__law_of hr__law_of (by rfl) T.m__law_of T.F__law_of.kp T.B__law_of .nil pass0 (pa_cons (pv 0) (pa_cons (pe_lstU (pa_cons pe_int (pa_cons pe_int (pa_cons pe_int (pa_cons pe_int (pa_cons pe_int pa_nil)))))) pa_nil))) pa_nil))) rfl)))
      (pss_cons (ps_dput hu1 (pv 2) pe_str (pe_slice sl_tupU (pe_call G__law_rising hr__law_rising (by rfl) T.m__law_rising T.F__law_rising.kp T.B__law_rising .nil pass0 (pa_cons (pe_op op_catL (pe_lc (own := [("one", 13)]) (g := gName 13) (tt := _) rfl sc__law_ranges_right.nd (pi_list (pe_call G__law_wholes hr__law_wholes (by rfl) T.m__law_wholes T.F__law_wholes.kp T.B__law_wholes .nil pass0 (pa_cons (pv 0) pa_nil))) (blkOk_by (own := [("one", 13)]) (N := N__law_ranges_right) (sc := defScope s__law_ranges_right) (by decide +kernel)) (fun _ _ _ _ _ => pg_name (i := 13) sc__law_ranges_right.nd rfl (Or.inl rfl)) (fun _ _ _ _ _ => pts_one (pt_cmpR op_lt (pe_callB call_abs (by rfl) T.n_abs (by decide +kernel) (pa_cons (pe_ix (ix_tupK (K := K) rfl) (pv 13) pe_int (fun _ _ => rfl)) pa_nil)) pe_int (nomark _))) (fun _ _ _ _ _ => (pv 13))) (pe_lstU (pa_cons (pe_tupU (pa_cons pe_int (pa_cons pe_int pa_nil))) pa_nil))) pa_nil)) po_none (po_some pe_int)) rfl)
      (pss_cons (ps_set (i := 4) sc__law_ranges_right.nd rfl (Or.inl rfl) (pe_call G__law_row hr__law_row (by rfl) T.m__law_row T.F__law_row.kp T.B__law_row .nil pass0 (pa_cons (pv 0) (pa_cons (pv 2) (pa_cons (pv 1) pa_nil)))))
      (pss_cons (ps_par (i := 5) (j := 6) (by rfl) sc__law_ranges_right.nd rfl rfl (by decide) rfl rfl (pa_cons (pe_call G__law_uses hr__law_uses (by rfl) T.m__law_uses T.F__law_uses.kp T.B__law_uses .nil pass0 (pa_cons (pv 4) pa_nil)) (pa_cons pe_int pa_nil)) (by rfl))
      (pss_cons (ps_for PassesOwn.never rfl (pi_list (pe_ifExp (pt_cmpR op_in_seq (pe_ix ix_tup (pv 4) pe_int (fun _ _ => rfl)) (pe_tupU (pa_cons pe_str (pa_cons pe_str pa_nil))) (by rfl)) (pv 5) (pe_lstU (pa_cons (pe_ix ix_tup (pe_call G__law_trio hr__law_trio (by rfl) T.m__law_trio T.F__law_trio.kp T.B__law_trio .nil pass0 (pa_cons (pv 4) pa_nil)) pe_int (fun _ _ => rfl)) (pa_cons (pe_ix ix_tup (pe_call G__law_trio hr__law_trio (by rfl) T.m__law_trio T.F__law_trio.kp T.B__law_trio .nil pass0 (pa_cons (pv 4) pa_nil)) pe_int (fun _ _ => rfl)) pa_nil))))) (pg_name (i := 7) sc__law_ranges_right.nd rfl (Or.inl rfl)) (pss_one (ps_set (i := 6) sc__law_ranges_right.nd rfl (Or.inl rfl) (pe_op op_mul (pv 6) (pe_callB call_len_seq (by rfl) T.n_len (by decide +kernel) (pa_cons (pe_dget hu1 (pv 2) (pv 7) (fun _ _ => rfl)) pa_nil))))))
      (pss_cons (ps_if (pt_cmpR op_gt (pv 6) pe_int (nomark _)) (pss_cons (ps_set (i := 4) sc__law_ranges_right.nd rfl (Or.inl rfl) (pe_tupU (pa_cons pe_str (pa_cons pe_str (pa_cons pe_str (pa_cons pe_str (pa_cons pe_str (pa_cons pe_str (pa_cons pe_int pa_nil)))))))))
      (pss_cons (ps_if (pt_cmpR op_gt (pe_callB call_len_seq (by rfl) T.n_len (by decide +kernel) (pa_cons (pe_dget hu1 (pv 2) pe_str (fun _ _ => rfl)) pa_nil)) pe_int (nomark _)) (pss_one (ps_set (i := 4) sc__law_ranges_right.nd rfl (Or.inl rfl) (pe_tupU (pa_cons pe_str (pa_cons pe_str (pa_cons pe_str (pa_cons pe_str (pa_cons pe_str (pa_cons pe_str (pa_cons (pe_un un_neg pe_int) pa_nil)))))))))) pss_nil)
      (pss_one (ps_set (i := 5) sc__law_ranges_right.nd rfl (Or.inl rfl) (pe_call G__law_uses hr__law_uses (by rfl) T.m__law_uses T.F__law_uses.kp T.B__law_uses .nil pass0 (pa_cons (pv 4) pa_nil)))))) pss_nil)
      (pss_cons (ps_set (i := 8) sc__law_ranges_right.nd rfl (Or.inl rfl) pe_dnewK)
      (pss_cons (ps_for PassesOwn.never rfl (pi_list (pe_revL (pv 5))) (pg_name (i := 7) sc__law_ranges_right.nd rfl (Or.inl rfl)) (pss_one (ps_dput hu1 (pv 8) (pv 7) (pe_dget hu1 (pv 2) (pv 7) (fun _ _ => rfl)) rfl)))
      (pss_cons (ps_set (i := 9) sc__law_ranges_right.nd rfl (Or.inl rfl) (pe_call G__law_span hr__law_span (by rfl) T.m__law_span T.F__law_span.kp T.B__law_span .nil pass0 (pa_cons (pv 4) (pa_cons (pv 2) (pa_cons (pv 1) pa_nil)))))
      (pss_cons (ps_for PassesOwn.never rfl (pi_range1 (by rfl) T.n_range (pa_cons pe_int pa_nil)) (pg_name (i := 10) sc__law_ranges_right.nd rfl (Or.inl rfl)) (pss_cons (ps_set (i := 11) sc__law_ranges_right.nd rfl (Or.inl rfl) (pe_ifExp (pt_cmpR op_eqI (pv 10) pe_int (nomark _)) (pe_call G_line_range hr_line_range (by rfl) T.m_line_range T.F_line_range.kp T.B_line_range .nil pass0 (pa_cons (pv 4) (pa_cons (pv 8) (pa_cons (pv 1) pa_nil)))) (pe_callZ (g := fun ws => rot3 ws) (gV := fun zs => rot3 zs) G_line_range hr_line_range (by rfl) T.m_line_range T.F_line_range.kp T.Z_line_range pass0 (pk_cons (pv 1) (pk_cons (pv 8) (pk_cons (pv 4) pk_nil))))))
      (pss_one (ps_if (PW.pt (pw_or (pt_not (pt_val (pe_call G__law_like_fractions hr__law_like_fractions (by rfl) T.m__law_like_fractions T.F__law_like_fractions.kp T.B__law_like_fractions .nil pass0 (pa_cons (pv 11) (pa_cons (pv 9) pa_nil))))) (pw_or1 (pt_cmpR (op_neD hr.units) (LiI.pe_listItems rfl (pv 8) (by rfl) T.n_list (by decide +kernel)) (pe_lc (own := [("part", 7)]) (g := gName 7) (tt := tYes) rfl sc__law_ranges_right.nd (pi_list (pe_revL (pv 5))) (blkOk_by (own := [("part", 7)]) (N := N__law_ranges_right) (sc := defScope s__law_ranges_right) (by decide +kernel)) (fun _ _ _ _ _ => pg_name (i := 7) sc__law_ranges_right.nd rfl (Or.inl rfl)) (fun _ _ _ _ _ => pts_nil) (fun _ _ _ _ _ => (pe_tupU (pa_cons (pv 7) (pa_cons (pe_dget hu1 (pv 2) (pv 7) (fun _ _ => rfl)) pa_nil))))) (nomark _))))) (pss_one (ps_ret pe_bl)) pss_nil))))
      (pss_one (ps_ret pe_bl)))))))))))))), ?_⟩
    refine seq_op fun N hN => ?_
    walk_at "rs"
    refine ⟨b, c, 8, rfl, B, by decide, by decide, fun r H1 r0 r8 B1 K1 => ⟨r, rfl, hN _ _ ?_⟩⟩
    clear hN N
    obtain ⟨n, en, n1, n8⟩ : ∃ n : Nat, 1 + r = (n : Int) ∧ 1 ≤ n ∧ n ≤ 8 := ⟨(1 + r).toNat, by omega, by omega, by omega⟩
    rw [en]
    have tb1 := Tabs.kp B tb K1
    have K1' : KN b H H1 := KN.kp K1
    have nH0 : ∀ p, H1 p = none → H p = none := fun p h => Kp.none K1 B1 h
    clear K1 en r0 r8
    have KNn : ∀ {G G' : Hp} {p : Addr}, KN b H G → H p = none → (∀ a, a ≠ p → G' a = G a) → KN b H G' := fun k n h a o na ha nt => by
      rw [h a (ne_of_none ha n)]; exact k a o na ha nt
    refine seq_op fun N hN => ?_
    refine fun d hd => ?_
    have s1d : Same H1 (upd H1 d (.dK [])) := same_upd hd
    have ed : upd H1 d (.dK []) d = some (.dK []) := upd_same
    have Bd := B1.same s1d
    generalize upd H1 d (.dK []) = Hd at *
    have ndb : d ≠ b := new_ne B1 hd
    simp only [tPairs]
    walk_at "rs"
    refine ⟨_, rfl, b, c, 4, rfl, Bd, by decide, by decide, fun r2 H2 r20 r24 B2 K2 => ⟨2, r2, rfl, rfl, _, rfl, by omega, by omega, fun D hD => ?_⟩⟩
    obtain ⟨m, em, m2, m5⟩ : ∃ m : Nat, (2 + r2).toNat = m ∧ 2 ≤ m ∧ m ≤ 5 := ⟨_, rfl, by omega, by omega⟩
    rw [em]
    refine lc_cnt (n := m) (by omega) hD (fun _ => rfl) fun G ys sg hG f1 => ⟨D, rfl, ys, SqL.of hG, fun q H3 s3 n3 e3 => ⟨_, rfl, _, rfl, by omega, by omega, ?_⟩⟩
    rw [show ((n : Nat) : Int).toNat = n from Int.toNat_natCast n]
    refine fun D2 hD2 => lc_cnt (n := n) (by omega) hD2 (fun _ => rfl) fun G4 ys2 sg4 hG4 f4 => ⟨D2, rfl, ys2, SqL.of hG4, fun q2 H5 s5 n5 e5 => ?_⟩
    have s25 : Same H2 H5 := Same.trans sg (Same.trans s3 (Same.trans sg4 s5))
    have ed5 := s25 _ _ (K2.hd ed ndb)
    have cl : ∀ n, (cntN n).length = n := fun n => by unfold cntN; rw [List.length_map, List.length_range]
    have l1 := f1.len
    have l4 := f4.len
    rw [cl] at l1 l4
    have hE5 : Es K H5 [("sign", q, ys, cntN m), ("place", q2, ys2, cntN n)] := Es.app (es := [("sign", q, ys, cntN m)]) (Es.one (.inl (.inl (Same.trans sg4 s5 _ _ e3))) (f1.same (Same.trans s3 (Same.trans sg4 s5))) (by show 1 ≤ ys.length; omega) (by show ys.length ≤ 240; omega) (cntN_ok (by omega))) (Es.one (.inl (.inl e5)) (f4.same s5) (by show 1 ≤ ys2.length; omega) (by show ys2.length ≤ 240; omega) (cntN_ok (by omega)))
    have B5 := B2.same s25
    have tb5 : Tabs T.TL H5 := Tabs.same (Tabs.kp Bd (Tabs.same tb1 s1d) K2) s25
    have K5 : KN b H H5 := KN.trans K1' (KN.trans (KN.same s1d) (KN.trans (KN.kp K2) (KN.same s25)))
    have nH : H d = none := nH0 d hd
    refine ⟨ed5, kvE [("sign", q, ys, cntN m), ("place", q2, ys2, cntN n)], rfl, (by decide : 2 ≤ 15), hN _ _ ?_⟩
    clear hN N
    have em2 : mergeK [] (kvE [("sign", q, ys, cntN m), ("place", q2, ys2, cntN n)]) = kvE [("sign", q, ys, cntN m), ("place", q2, ys2, cntN n)] := rfl
    rw [em2]
    have u6 : upd H5 d (.dK (kvE [("sign", q, ys, cntN m), ("place", q2, ys2, cntN n)])) d = some (.dK (kvE [("sign", q, ys, cntN m), ("place", q2, ys2, cntN n)])) := upd_same
    have hE6 := hE5.updK (o := .dK (kvE [("sign", q, ys, cntN m), ("place", q2, ys2, cntN n)])) ed5
    have B6 : Bag (upd H5 d (.dK (kvE [("sign", q, ys, cntN m), ("place", q2, ys2, cntN n)]))) b c := B5.upd (B.ne2 nH).1 (B.ne2 nH).2
    have tb6 : Tabs T.TL (upd H5 d (.dK (kvE [("sign", q, ys, cntN m), ("place", q2, ys2, cntN n)]))) := Tabs.updK ed5 tb5
    have K6 : KN b H (upd H5 d (.dK (kvE [("sign", q, ys, cntN m), ("place", q2, ys2, cntN n)]))) := KNn K5 nH fun a h => upd_ne h
    generalize upd H5 d (.dK (kvE [("sign", q, ys, cntN m), ("place", q2, ys2, cntN n)])) = H6 at *
    obtain ⟨es, hes, hE, hd6⟩ : ∃ es : List Ent, es.map (·.1) = (["sign", "place"] : List Str) ∧ Es K H6 es ∧ H6 d = some (.dK (kvE es)) := ⟨_, rfl, hE6, u6⟩
    clear hE6 u6 em2 K5 tb5 B5 hE5 l1 l4 s25 e5 n5 s5 f4 hG4 sg4 e3 n3 s3 f1 hG sg hD2 hD em B2 K2 s1d ed Bd hd K1' B1 tb1 nH0
    refine cut_seq (fun σ G => ∃ (x3 : Option V) (es : List Ent), σ = [some (.ref b), some (.int n), some (.ref d), x3, none, none, none, none, none, none, none, none, none, none] ∧ G d = some (.dK (kvE es)) ∧ Es K G es ∧ es.map (·.1) = (["sign", "place", "b", "a", "z9"] : List Str) ∧ Bag G b c ∧ Tabs T.TL G ∧ KN b H G) (fun N hN => ?_) ?_
    · have owns : ∀ i (y : V), ([V.str "b", V.str "a", V.str "z9"] : List V)[i]? = some y → ∃ z : Str, y = .str z ∧ z ∉ (["sign", "place"] : List Str) ++ (["b", "a", "z9"] : List Str).take i ∧ (["b", "a", "z9"] : List Str).take (i + 1) = (["b", "a", "z9"] : List Str).take i ++ [z] := by
        intro i y h
        match i with
        | 0 => exact ⟨_, (Option.some.inj h).symm, by decide +kernel, rfl⟩
        | 1 => exact ⟨_, (Option.some.inj h).symm, by decide +kernel, rfl⟩
        | 2 => exact ⟨_, (Option.some.inj h).symm, by decide +kernel, rfl⟩
        | i + 3 => simp at h
      refine ⟨by decide, fun p H7 s7 n7 e7 => ⟨p, rfl, ⟨_, .inl (.inl e7)⟩, for_tup (K := K) (a := p) (xs := [V.str "b", V.str "a", V.str "z9"]) (fun i σ G => ∃ (x3 : Option V) (es : List Ent), σ = [some (.ref b), some (.int n), some (.ref d), x3, none, none, none, none, none, none, none, none, none, none] ∧ G d = some (.dK (kvE es)) ∧ Es K G es ∧ es.map (·.1) = (["sign", "place"] : List Str) ++ (["b", "a", "z9"] : List Str).take i ∧ Bag G b c ∧ Tabs T.TL G ∧ KN b H G ∧ G p = some (.tup [V.str "b", V.str "a", V.str "z9"])) ⟨none, es, rfl, s7 _ _ hd6, hE.same s7, hes, B6.same s7, Tabs.same tb6 s7, KN.trans K6 (KN.same s7), e7⟩ (fun i σ' G _ ⟨_, _, _, _, _, _, _, _, _, h⟩ => .inl (.inl h)) ?_ ?_⟩⟩
      · rintro i y σ G hy ⟨x3, es, rfl, hdG, hEG, hes, BG, tG, KG, gp⟩
        obtain ⟨z, rfl, z1, z2⟩ := owns i y hy
        unfold sDPut
        walk_at "rs"
        refine ⟨by decide, fun p8 H8 s8 n8 e8 => of_new BG s8 n8 e8 (by simp) (by decide) fun y H9 hy B9 K9 => ?_⟩
        obtain ⟨sz, rfl, sz1, sz40⟩ : ∃ sz : Int, y = .int sz ∧ 1 ≤ sz ∧ sz ≤ 40 := by
          simp only [List.mem_cons, List.not_mem_nil, or_false] at hy
          rcases hy with h | h | h | h | h <;> exact ⟨_, h, by decide, by decide⟩
        refine ⟨b, c, sz, rfl, B9, Tabs.kp BG tG K9, sz1, sz40, fun t zs gs H10 B10 t10 K10 h10 f10 asc g1 g2 okg => ?_⟩
        have K90 : KN b G H10 := KN.trans (KN.kp K9) K10
        have hd10 : H10 d = some (.dK (kvE es)) := K90 _ _ ndb hdG fun _ z => by cases z
        have les : es.length ≤ 5 := by
          have := congrArg List.length hes
          rw [List.length_map, List.length_append, List.length_take] at this
          have e1 : (["sign", "place"] : List Str).length = 2 := rfl
          have e2 : (["b", "a", "z9"] : List Str).length = 3 := rfl
          omega
        refine ⟨_, DPut.k (k := .inr z) hd10 (by unfold kvE; rw [List.length_map]; exact Nat.lt_of_le_of_lt les (by decide)), ?_⟩
        rw [put_es (p := (zs, gs)) (by rw [hes]; exact z1)]
        have lz := f10.len
        have hE10 := (hEG.kn BG K90).updK (o := .dK (kvE (es ++ [(z, t, zs, gs)]))) hd10
        have h11 := seqT_updK (K := K) (o := .dK (kvE (es ++ [(z, t, zs, gs)]))) hd10 (.inl (.inl h10))
        have f11 := f10.updK (o := .dK (kvE (es ++ [(z, t, zs, gs)]))) hd10
        refine ⟨es ++ [(z, t, zs, gs)], upd_same, hE10.app (Es.one h11 f11 (by show 1 ≤ zs.length; omega) (by show zs.length ≤ 240; omega) okg), ?_, B10.upd (B.ne2 nH).1 (B.ne2 nH).2, Tabs.updK hd10 t10, KNn (KN.trans KG K90) nH fun a h => upd_ne h, ?_⟩
        · rw [List.map_append, hes, z2, List.append_assoc]; rfl
        · rw [upd_ne (fun e => by rw [e, hdG] at gp; cases gp)]
          exact K90 _ _ (fun e => by
            obtain ⟨yb, eb⟩ := BG.at
            rw [e, eb] at gp; cases gp) gp fun _ z => by cases z
      · rintro σ G ⟨x3, es, rfl, hdG, hEG, hes, BG, tG, KG, gp⟩
        exact hN _ _ ⟨x3, es, rfl, hdG, hEG, hes, BG, tG, KG⟩
    rintro σ G ⟨x3, es, rfl, hdG, hEG, hes, BG, tG, KG⟩
    refine seq_op fun N hN => ?_
    unfold sDPut
    walk_at "rs"
    have les : es.length = 5 := by
      have := congrArg List.length hes
      rwa [List.length_map] at this
    refine ⟨_, rfl, b, c, rfl, BG, fun q xs ns H1 B1 K1 n1' e1 f1 l1 l4 bd => ⟨q, rfl, ⟨xs, .inl (.inl e1)⟩, fun D hD => lc_it (walk_list (K := K) (a := q) (xs := xs)) (fun j G' => Same H1 G' ∧ ∃ us fs, G' D = some (.lst us) ∧ FrsT G' us fs ∧ fs.length ≤ j ∧ ∀ f ∈ fs, okB 60 f) ⟨same_upd hD, [], [], upd_same, .nil, Nat.le_refl _, fun f h => by cases h⟩ (fun j G' _ h => .inl (.inl (h.1 _ _ e1))) ?_ ?_⟩⟩
    · rintro j y G1 G2 hj ⟨s1, us, fs, g1, fu, lf, okf⟩ ⟨rfl, hy1⟩
      obtain ⟨e, f, rfl, hf, he⟩ := (f1.same s1).get' hy1
      have okf1 : okB 60 f := by
        have hm := List.mem_of_getElem? hf
        obtain ⟨v, hv, rfl⟩ := List.mem_map.mp hm
        exact ⟨Int.le_refl 1, Nat.gcd_one_right _, bd v hv, (by decide : 1 < 2 ^ 60)⟩
      have lxs := f1.len
      rw [List.length_map] at lxs
      have lu := fu.len
      walk_at "rs"
      refine ⟨_, he.pr, _, rfl, f.1, rfl, ite2 (fun _ => ?_) (fun _ => ⟨s1, us, g1, fs, fu, by omega, okf⟩)⟩
      refine ⟨us, g1, Nat.lt_of_le_of_lt (show us.length ≤ 240 by omega) (by decide), fun a o h => ?_, _, upd_same, fs ++ [f], (fu.upd g1).app (.cons (PrT.upd g1 he) .nil), by rw [List.length_append, List.length_singleton]; omega, fun g hg => ?_⟩
      · rw [upd_ne (ne_of_none h hD)]; exact s1 _ _ h
      · rcases List.mem_append.mp hg with hg | hg
        · exact okf g hg
        · rw [List.mem_singleton.mp hg]; exact okf1
    rintro G2 ⟨s1, us, fs, g1, fu, lf, okf⟩
    have lxs := f1.len
    rw [List.length_map] at lxs
    have lu := fu.len
    have ok5 : okB 60 ((5, 1) : Fr) := by unfold okB; decide +kernel
    have tG2 := Tabs.same (Tabs.kp BG tG K1) s1
    refine ⟨by decide, fun p3 H3 s3 n3 e3 => ⟨by decide, fun p4 H4 s4 n4 e4 => ⟨D, rfl, us, s4 _ _ (s3 _ _ g1), _, e4, Nat.le_trans (show us.length + 1 ≤ 100 by omega) (by decide), fun p5 H5 s5 n5 e5 => ?_⟩⟩⟩
    have s25 : Same G2 H5 := Same.trans s3 (Same.trans s4 s5)
    refine ⟨p5, _, fs ++ [(5, 1)], rfl, Tabs.same tG2 s25, .inl (.inl (.inl e5)), (fu.same s25).app (.cons (Same.trans s4 s5 _ _ e3) .nil), fun f hf => ?_, by rw [List.length_append, List.length_singleton]; omega, fun t zs gs H6 x6 t6 h6 f6 srt l6 => ⟨t, rfl, zs, .inl (.inl h6), fun q3 H7 s7 h7 => ?_⟩⟩
    · rcases List.mem_append.mp hf with hf | hf
      · exact (okf f hf).le (by decide)
      · rw [List.mem_singleton.mp hf]; exact ok5.le (by decide)
    have KG7 : KN b G H7 := KN.trans (KN.kp K1) (KN.trans (KN.same (Same.trans s1 s25)) (KN.trans (KN.ext x6) (KN.same s7)))
    have B7 : Bag H7 b c := ((B1.same (Same.trans s1 s25)).ext x6).same s7
    have t7 := Tabs.same t6 s7
    have f7 : FrsT H7 (cutV zs none (some 4)) (gs.take 4) := (f6.same s7).cutV 4
    have hd7 : H7 d = some (.dK (kvE es)) := KG7 _ _ ndb hdG fun _ z => by cases z
    have lg : 1 ≤ gs.length := List.length_pos_of_mem ((srt.2 (5, 1)).mpr (List.mem_append_right _ List.mem_cons_self))
    have lz := f7.len
    rw [List.length_take] at lz
    have okg : ∀ f ∈ gs.take 4, okB 60 f := fun f hf => by
      rcases List.mem_append.mp ((srt.2 f).mp (List.mem_of_mem_take hf)) with hf | hf
      · exact okf f hf
      · rw [List.mem_singleton.mp hf]; exact ok5
    generalize cutV zs none (some 4) = ws at *
    generalize gs.take 4 = ys2 at *
    refine ⟨_, DPut.k (k := .inr "w") hd7 (by unfold kvE; rw [List.length_map]; exact Nat.lt_of_le_of_lt (Nat.le_of_eq les) (by decide)), hN _ _ ?_⟩
    clear hN N
    rw [put_es (p := (ws, ys2)) (by rw [hes]; decide +kernel)]
    have hE8 := ((hEG.kn BG KG7).updK (o := .dK (kvE (es ++ ([("w", q3, ws, ys2)] : List Ent)))) hd7).app (Es.one (e := ("w", q3, ws, ys2)) (seqT_updK hd7 h7) (f7.updK hd7) (by show 1 ≤ ws.length; omega) (by show ws.length ≤ 240; omega) okg)
    have hd8 : upd H7 d (.dK (kvE (es ++ ([("w", q3, ws, ys2)] : List Ent)))) d = some (.dK (kvE (es ++ ([("w", q3, ws, ys2)] : List Ent)))) := upd_same
    have B8 : Bag (upd H7 d (.dK (kvE (es ++ ([("w", q3, ws, ys2)] : List Ent))))) b c := B7.upd (B.ne2 nH).1 (B.ne2 nH).2
    have t8 : Tabs T.TL (upd H7 d (.dK (kvE (es ++ ([("w", q3, ws, ys2)] : List Ent))))) := Tabs.updK hd7 t7
    have K8 : KN b H (upd H7 d (.dK (kvE (es ++ ([("w", q3, ws, ys2)] : List Ent))))) := KNn (KN.trans KG KG7) nH fun a h => upd_ne h
    have hes8 : (es ++ ([("w", q3, ws, ys2)] : List Ent)).map (·.1) = six := by rw [List.map_append, hes]; rfl
    generalize upd H7 d (.dK (kvE (es ++ ([("w", q3, ws, ys2)] : List Ent)))) = H8 at *
    generalize es ++ ([("w", q3, ws, ys2)] : List Ent) = ee at *
    clear okg lz lg hd7 f7 t7 B7 KG7 h7 s7 l6 srt f6 h6 t6 x6 s25 e5 n5 s5 e4 n4 s4 e3 n3 s3 tG2 lu lxs okf lf fu g1 s1 hD bd l4 l1 f1 e1 n1' K1 B1 les hes KG tG BG hEG hdG K6 tb6 B6 hd6 hE
    have lee : ee.length = 6 := by
      have := congrArg List.length hes8
      rwa [List.length_map] at this
    have isr : ∀ z ∈ six, (rgE ee z).isSome = true := fun z hz => by
      rw [← hes8] at hz
      obtain ⟨e, he, rfl⟩ := List.mem_map.mp hz
      clear hes8 lee hd8 hE8
      induction ee with
      | nil => cases he
      | cons x xs ih =>
        unfold rgE
        by_cases c : x.1 = e.1
        · rw [if_pos c]; rfl
        · rw [if_neg c]
          rcases List.mem_cons.mp he with h | h
          · exact absurd (congrArg (·.1) h).symm c
          · exact ih h (List.mem_map.mpr ⟨e, h, rfl⟩)
    refine seq_op fun N hN => ?_
    walk_at "rs"
    refine ⟨b, c, d, n, kvE ee, rgE ee, rfl, B8, t8, rd_es hd8 (by omega) hE8, rg_es hE8, by unfold kvE; rw [List.map_map, ← hes8, List.map_map]; rfl, isr, fun a rw9 H9 B9 t9 K9 ha ok nd us6 => hN _ _ ?_⟩
    clear hN N
    have hd9 : H9 d = some (.dK (kvE ee)) := K9 _ _ ndb hd8 fun _ z => by cases z
    have hE9 := hE8.kn B8 K9
    have KH9 : KN b H H9 := KN.trans K8 K9
    clear hd8 hE8 K9 K8 t8 B8
    have hD9 := rd_es hd9 (by omega) hE9
    have hG9 := rg_es hE9
    refine seq_op fun N hN => ?_
    walk_at "rs"
    refine ⟨rw9, ha, ok, fun pp H10 s10 n10 e10 => ⟨_, _, ⟨rfl, rfl⟩, hN _ _ ?_⟩⟩
    clear hN N
    have h6r : ∀ z ∈ six, ∃ (u : Addr) (p : List V × List Fr), rgE ee z = some p ∧ valV (kvE ee) (.inr z) = some (.ref u) ∧ SqT K H9 u p.1 ∧ 1 ≤ p.1.length ∧ p.1.length ≤ 240 := fun z hz => by
      obtain ⟨p, hp⟩ := Option.isSome_iff_exists.mp (isr z hz)
      obtain ⟨u, u1, u2, u3⟩ := hD9.get hp
      obtain ⟨g1, g2, _⟩ := hG9 z p hp
      exact ⟨u, p, hp, u1, u2, g1, g2⟩
    have rn6 : ∀ (zs : List Str), (∀ z ∈ zs, z ∈ six) → rowsN (colsV (rgE ee) zs) ≤ 240 ^ zs.length := by
      intro zs h
      have key : ∀ (zs : List Str) (m : Nat), (∀ z ∈ zs, z ∈ six) → (colsV (rgE ee) zs).foldl (fun n vs => n * vs.length) m ≤ m * 240 ^ zs.length := by
        intro zs
        induction zs with
        | nil => intro m _; exact Nat.le_of_eq (Nat.mul_one m).symm
        | cons z zs ih =>
          intro m h
          obtain ⟨u, p, h1, _, _, _, h5⟩ := h6r z (h z List.mem_cons_self)
          have e : colsV (rgE ee) (z :: zs) = p.1 :: colsV (rgE ee) zs := by unfold colsV; rw [List.map_cons, h1]; rfl
          rw [e, List.foldl_cons]
          refine Nat.le_trans (ih _ fun x hx => h x (List.mem_cons_of_mem _ hx)) ?_
          rw [List.length_cons, Nat.pow_succ, Nat.mul_comm (240 ^ zs.length) 240, ← Nat.mul_assoc]
          exact Nat.mul_le_mul_right _ (Nat.mul_le_mul_left _ h5)
      have := key zs 1 h
      rwa [Nat.one_mul] at this
    have us6n : (usesR rw9).Nodup ∧ (usesR rw9).length ≤ 6 := by
      have h : (usesR rw9).Nodup := by cases rw9 <;> exact onceS_nodup _
      exact ⟨h, nodup_lenS h us6⟩
    refine cut_seq (fun σ G => ∃ (x7 : Option V) (zs : List Str), σ = [some (.ref b), some (.int n), some (.ref d), x3, some (.ref a), some (.ref pp), some (.int (rowsN (colsV (rgE ee) zs))), x7, none, none, none, none, none, none] ∧ Same H10 G ∧ ∀ ws, rw9 = .be ws → zs = namesOf ws) (fun N hN => ?_) ?_
    · refine it_kind rfl (ha.same s10) ok (fun lk G0 hsG => ?_) (fun lk G0 hsG => ?_)
      · have hq : SqL K G0 pp ((usesR rw9).map V.str) := .inl (.inl (hsG _ _ e10))
        have hzs := us6
        have hi6 := us6n.2
        refine ⟨_, rfl, pp, rfl, ⟨_, hq⟩, for_list (K := K) (a := pp) (xs := (usesR rw9).map V.str) (fun i σ G => ∃ (x7 : Option V), σ = [some (.ref b), some (.int n), some (.ref d), x3, some (.ref a), some (.ref pp), some (.int (rowsN (colsV (rgE ee) ((usesR rw9).take i)))), x7, none, none, none, none, none, none] ∧ G = G0) ⟨none, rfl, rfl⟩ (fun i σ' G _ ⟨_, _, h⟩ => by rw [h]; exact hq) (fun i y σ G hy hp => ?_) fun σ G hp => ?_⟩
        · obtain ⟨x7, rfl, rfl⟩ := hp
          have hi := (List.getElem?_eq_some_iff.mp hy).1
          rw [List.length_map] at hi
          rw [List.getElem?_map] at hy
          obtain ⟨z, hz, rfl⟩ := Option.map_eq_some_iff.mp hy
          obtain ⟨u, p, g1, g2, g3, g4, g5⟩ := h6r z (hzs z (List.mem_of_getElem? hz))
          have et : (usesR rw9).take (i + 1) = (usesR rw9).take i ++ [z] := by rw [List.take_succ, hz]; rfl
          have bnd : rowsN (colsV (rgE ee) ((usesR rw9).take i)) ≤ 240 ^ 6 := Nat.le_trans (rn6 _ fun x hx => hzs x (List.mem_of_mem_take hx)) (Nat.pow_le_pow_right (by decide) (by rw [List.length_take]; omega))
          have sGG := Same.trans s10 hsG
          unfold tDGet
          walk_at "rs"
          refine ⟨_, .inl ⟨kvE ee, .inr z, .inl (sGG _ _ hd9), rfl, g2.symm⟩, u, rfl, p.1, .inr (Same.seqT sGG g3), .inl ⟨by omega, by omega⟩, ?_, some (.str z), rfl⟩
          rw [et, colsV_snoc g1, rowsN_snoc, Int.natCast_mul]
        · obtain ⟨x7, rfl, rfl⟩ := hp
          rw [List.length_map, List.take_length]
          exact hN _ _ ⟨x7, (usesR rw9), rfl, hsG, fun ws e => by rw [e]; rfl⟩
      · refine it_trio rfl (ha.same (Same.trans s10 hsG)) ok lk fun q G1 sG1 e1 => ?_
        replace hsG := Same.trans hsG sG1
        have hq : SqL K G1 q ([(trioR rw9).1, (trioR rw9).2].map V.str) := .inl (.inl e1)
        have hzs : ∀ z ∈ [(trioR rw9).1, (trioR rw9).2], z ∈ six := trio_six lk us6
        have hi6 : [(trioR rw9).1, (trioR rw9).2].length ≤ 6 := Nat.le_of_ble_eq_true rfl
        refine ⟨q, rfl, ⟨_, hq⟩, for_list (K := K) (a := q) (xs := [(trioR rw9).1, (trioR rw9).2].map V.str) (fun i σ G => ∃ (x7 : Option V), σ = [some (.ref b), some (.int n), some (.ref d), x3, some (.ref a), some (.ref pp), some (.int (rowsN (colsV (rgE ee) ([(trioR rw9).1, (trioR rw9).2].take i)))), x7, none, none, none, none, none, none] ∧ G = G1) ⟨none, rfl, rfl⟩ (fun i σ' G _ ⟨_, _, h⟩ => by rw [h]; exact hq) (fun i y σ G hy hp => ?_) fun σ G hp => ?_⟩
        · obtain ⟨x7, rfl, rfl⟩ := hp
          have hi := (List.getElem?_eq_some_iff.mp hy).1
          rw [List.length_map] at hi
          rw [List.getElem?_map] at hy
          obtain ⟨z, hz, rfl⟩ := Option.map_eq_some_iff.mp hy
          obtain ⟨u, p, g1, g2, g3, g4, g5⟩ := h6r z (hzs z (List.mem_of_getElem? hz))
          have et : [(trioR rw9).1, (trioR rw9).2].take (i + 1) = [(trioR rw9).1, (trioR rw9).2].take i ++ [z] := by rw [List.take_succ, hz]; rfl
          have bnd : rowsN (colsV (rgE ee) ([(trioR rw9).1, (trioR rw9).2].take i)) ≤ 240 ^ 6 := Nat.le_trans (rn6 _ fun x hx => hzs x (List.mem_of_mem_take hx)) (Nat.pow_le_pow_right (by decide) (by rw [List.length_take]; omega))
          have sGG := Same.trans s10 hsG
          unfold tDGet
          walk_at "rs"
          refine ⟨_, .inl ⟨kvE ee, .inr z, .inl (sGG _ _ hd9), rfl, g2.symm⟩, u, rfl, p.1, .inr (Same.seqT sGG g3), .inl ⟨by omega, by omega⟩, ?_, some (.str z), rfl⟩
          rw [et, colsV_snoc g1, rowsN_snoc, Int.natCast_mul]
        · obtain ⟨x7, rfl, rfl⟩ := hp
          rw [List.length_map, List.take_length]
          exact hN _ _ ⟨x7, [(trioR rw9).1, (trioR rw9).2], rfl, hsG, fun ws e => by rw [e] at lk; cases lk⟩
    rintro σ G ⟨x7, zs, rfl, sg, hbe⟩
    have bnd : rowsN (colsV (rgE ee) zs) = rowsN (colsV (rgE ee) zs) := rfl
    have s9 : Same H9 G := Same.trans s10 sg
    have haG := ha.same s9
    have eG := sg _ _ e10
    clear e10 n10 s10 sg bnd
    have nok : ∀ (kd y k q : Str) (o : Int), kd = "first" ∨ kd = "last" → y = "a" ∨ y = "w" → needR (rgE ee) (.lok kd y k q o) := fun kd y k q o h1 h2 => by
      have : y ∈ six := by rcases h2 with h | h <;> subst h <;> decide +kernel
      obtain ⟨u, p, g1, _⟩ := h6r y this
      refine ⟨p, g1, fun e => ?_⟩
      rcases h1 with h | h <;> rw [h] at e <;> exact absurd e (by decide +kernel)
    refine cut_seq (fun σ G2 => ∃ (a pp : Addr) (r : Rw) (x6 x7 : Option V), σ = [some (.ref b), some (.int n), some (.ref d), x3, some (.ref a), some (.ref pp), x6, x7, none, none, none, none, none, none] ∧ Same H9 G2 ∧ RowAt K G2 a r ∧ okRw r ∧ needR (rgE ee) r ∧ (∀ z ∈ usesR r, z ∈ six) ∧ G2 pp = some (.lst ((usesR r).map V.str))) (fun N hN => ?_) ?_
    · walk_at "rs"
      refine ite2 (fun _ => ?_) (fun hw => hN _ _ ⟨a, pp, rw9, _, x7, rfl, s9, haG, ok, ?_, us6, eG⟩)
      · refine seq_op fun N2 hN2 => ?_
        walk_at "rs"
        refine ⟨by decide, fun p H2 s2 n2 e2 => hN2 _ _ ?_⟩
        clear hN2 N2
        have sG := Same.trans s9 s2
        refine cut_seq (fun σ G3 => ∃ (a2 : Addr) (r : Rw) (x5 x6 : Option V), σ = [some (.ref b), some (.int n), some (.ref d), x3, some (.ref a2), x5, x6, x7, none, none, none, none, none, none] ∧ Same H9 G3 ∧ RowAt K G3 a2 r ∧ okRw r ∧ needR (rgE ee) r ∧ (∀ z ∈ usesR r, z ∈ six)) (fun N2 hN2 => ?_) ?_
        · obtain ⟨u, pa, g1, g2, g3, g4, g5⟩ := h6r "a" (by decide +kernel)
          unfold tDGet
          walk_at "rs"
          refine ⟨_, .inl ⟨kvE ee, .inr "a", .inl (sG _ _ hd9), rfl, g2.symm⟩, u, rfl, pa.1, .inr (Same.seqT sG g3), ite2 (fun _ => ⟨by decide, fun p3 H3 s3 n3 e3 => hN2 _ _ ⟨p3, .lok "last" "a" "w" "w" (-9), _, _, rfl, Same.trans sG s3, ⟨_, .inl (.inl e3)⟩, (by show ("last" : Str) ∈ lookL ∧ ("a" : Str) ∈ names11 ∧ ("w" : Str) ∈ names11 ∧ ("w" : Str) ∈ names11 ∧ ((-9 : Int)).natAbs ≤ 9; decide +kernel), nok _ _ _ _ _ (.inr rfl) (.inl rfl), by decide +kernel⟩⟩) (fun _ => hN2 _ _ ⟨p, .lok "first" "w" "a" "a" 3, _, _, rfl, sG, ⟨_, .inl (.inl e2)⟩, (by show ("first" : Str) ∈ lookL ∧ ("w" : Str) ∈ names11 ∧ ("a" : Str) ∈ names11 ∧ ("a" : Str) ∈ names11 ∧ ((3 : Int)).natAbs ≤ 9; decide +kernel), nok _ _ _ _ _ (.inl rfl) (.inr rfl), by decide +kernel⟩)⟩
        rintro σ G3 ⟨a2, r, x5, x6, rfl, s3, ha3, ok3, nd3, us3⟩
        walk_at "rs"
        exact ⟨r, ha3, ok3, fun t H4 s4 n4 e4 => hN _ _ ⟨a2, t, r, _, _, rfl, Same.trans s3 s4, ha3.same s4, ok3, nd3, us3, e4⟩⟩
      · cases rw9 with
        | be ws =>
          refine ⟨fun z hz => Option.isSome_iff_exists.mp (isr z (us6 z hz)), ?_⟩
          rw [← hbe ws rfl]
          omega
        | tab ps fs => trivial
        | cnt k q => trivial
        | lok z y k q o => exact nd
    clear ha ok nd us6 us6n hbe haG eG s9 h6r rn6
    rintro σ G2 ⟨a, pp, r, x6, x7, rfl, s9, ha, ok, nd, us6, ep⟩
    refine seq_op fun N hN => ?_
    walk_at "rs"
    refine fun d2 hd2 => hN _ _ ?_
    clear hN N
    have sd2 : Same G2 (upd G2 d2 (.dK [])) := same_upd hd2
    have ed2 : upd G2 d2 (.dK []) d2 = some (.dK []) := upd_same
    have n2H : G2 d2 = none := hd2
    have hEnt : ∀ z ∈ six, Es K H9 [entOf ee z] ∧ rgE ee z = some ((rgE ee z).getD ([], [])) ∧ valV (kvE ee) (.inr z) = some (.ref (entOf ee z).2.1) := fun z hz => by
      obtain ⟨p, hp⟩ := Option.isSome_iff_exists.mp (isr z hz)
      obtain ⟨u, u1, u2, u3⟩ := hD9.get hp
      have e : entOf ee z = (z, u, p) := by unfold entOf; rw [u1, hp]; rfl
      rw [e, hp]
      exact ⟨Es.one u2 u3 (hG9 z p hp).1 (hG9 z p hp).2.1 (hG9 z p hp).2.2, rfl, u1⟩
    have hEs : ∀ zs : List Str, (∀ z ∈ zs, z ∈ six) → Es K H9 (zs.map (entOf ee)) := fun zs h e he => by
      obtain ⟨z, hz, rfl⟩ := List.mem_map.mp he
      exact (hEnt z (h z hz)).1 _ List.mem_cons_self
    have usn : (usesR r).Nodup := by cases r <;> exact onceS_nodup _
    have usl : (usesR r).length ≤ 6 := nodup_lenS usn us6
    obtain ⟨zs, ezs⟩ : ∃ zs, zs = (usesR r).reverse := ⟨_, rfl⟩
    have zn : zs.Nodup := by rw [ezs]; exact (List.reverse_perm _).nodup_iff.mpr usn
    have z6 : ∀ z ∈ zs, z ∈ six := fun z hz => us6 z (by rw [ezs] at hz; exact List.mem_reverse.mp hz)
    have zl : zs.length ≤ 6 := by rw [ezs, List.length_reverse]; exact usl
    have hrev : ((usesR r).map V.str).reverse = zs.map V.str := by rw [ezs, List.map_reverse]
    refine cut_seq (fun σ G => ∃ (x7 : Option V), σ = [some (.ref b), some (.int n), some (.ref d), x3, some (.ref a), some (.ref pp), x6, x7, some (.ref d2), none, none, none, none, none] ∧ Same G2 G ∧ G d2 = some (.dK (kvE (zs.map (entOf ee))))) (fun N hN => ?_) ?_
    · refine ⟨_, rfl, pp, _, rfl, .inl (.inl (sd2 _ _ ep)), fun p2 np2 => ⟨p2, rfl, ⟨_, .inl (.inl upd_same)⟩, ?_⟩⟩
      rw [hrev]
      have sp2 : Same (upd G2 d2 (.dK [])) (upd (upd G2 d2 (.dK [])) p2 (.lst (zs.map V.str))) := same_upd np2
      have ep2 : upd (upd G2 d2 (.dK [])) p2 (.lst (zs.map V.str)) p2 = some (.lst (zs.map V.str)) := upd_same
      have ed3 := sp2 _ _ ed2
      have sd3 := Same.trans sd2 sp2
      generalize upd (upd G2 d2 (.dK [])) p2 (.lst (zs.map V.str)) = G3 at *
      refine for_list (K := K) (a := p2) (xs := zs.map V.str) (fun i σ G => ∃ (x7 : Option V), σ = [some (.ref b), some (.int n), some (.ref d), x3, some (.ref a), some (.ref pp), x6, x7, some (.ref d2), none, none, none, none, none] ∧ Same G2 G ∧ G d2 = some (.dK (kvE ((zs.take i).map (entOf ee)))) ∧ G p2 = some (.lst (zs.map V.str))) ⟨_, rfl, sd3, ed3, ep2⟩ (fun i σ' G _ ⟨_, _, _, _, h⟩ => .inl (.inl h)) ?_ ?_
      · rintro i y σ G hy ⟨x7, rfl, sG, edG, epG⟩
        have hi := (List.getElem?_eq_some_iff.mp hy).1
        rw [List.length_map] at hi
        rw [List.getElem?_map] at hy
        obtain ⟨z, hz, rfl⟩ := Option.map_eq_some_iff.mp hy
        have et : zs.take (i + 1) = zs.take i ++ [z] := by rw [List.take_succ, hz]; rfl
        have zt : z ∉ zs.take i := fun h => by
          have := (List.take_sublist (i + 1) zs).nodup zn
          rw [et] at this
          exact (List.nodup_append.mp this).2.2 z h z List.mem_cons_self rfl
        obtain ⟨_, g2, g3⟩ := hEnt z (z6 z (List.mem_of_getElem? hz))
        unfold sDPut tDGet
        walk_at "rs"
        refine ⟨_, .inl ⟨kvE ee, .inr z, .inl (sG _ _ (s9 _ _ hd9)), rfl, g3.symm⟩, _, DPut.k (k := .inr z) edG (by unfold kvE; rw [List.length_map, List.length_map, List.length_take]; exact Nat.lt_of_le_of_lt (show min i zs.length ≤ 6 by omega) (by decide)), ?_⟩
        rw [put_es (p := (entOf ee z).2.2) (by rw [List.map_map]; intro h; obtain ⟨x, hx, e⟩ := List.mem_map.mp h; cases e; exact zt hx)]
        refine ⟨fun q o e => by rw [upd_ne (ne_of_none e n2H)]; exact sG _ _ e, ?_, ?_⟩
        · rw [upd_same, et, List.map_append]; rfl
        · rw [upd_ne (fun e => by rw [e, edG] at epG; cases epG)]; exact epG
      · rintro σ G ⟨x7, rfl, sG, edG, epG⟩
        rw [List.length_map, List.take_length] at edG
        exact hN _ _ ⟨x7, rfl, sG, edG⟩
    rintro σ G ⟨x7', rfl, s2G, ed⟩
    have sG := Same.trans s9 s2G
    have haG := ha.same s2G
    have epG := s2G _ _ ep
    have hEG := (hEs zs z6).same sG
    have hdG := sG _ _ hd9
    have tG : Tabs T.TL G := Tabs.same t9 sG
    have BG : Bag G b c := B9.same sG
    have KG : KN b H G := KN.trans KH9 (KN.same sG)
    have hEeG := hE9.same sG
    have hrg : ∀ z ∈ usesR r, rgE ee z = rgE (zs.map (entOf ee)) z := fun z hz => by
      rw [rgE_map (by rw [ezs]; exact List.mem_reverse.mpr hz)]
      exact (hEnt z (us6 z hz)).2.1
    have hz6 : ∀ e ∈ zs.map (entOf ee), e.1 ∈ six := fun e he => by
      obtain ⟨z, hz, rfl⟩ := List.mem_map.mp he
      exact z6 z hz
    have lzs : (zs.map (entOf ee)).length ≤ 6 := by rw [List.length_map]; exact zl
    clear ed2 sd2 hEs usn usl ha ep s2G
    refine seq_op fun N hN => ?_
    walk_at "rs"
    refine ⟨a, d, n, r, kvE ee, rgE ee, rfl, tG, haG, ok, rd_es hdG (by omega) hEeG, hG9, nd, n1, n8, fun td tzs gs G5 x5 t5 h5 f5 asc mem => hN _ _ ?_⟩
    clear hN N
    have ha5 : RowAt K G5 a r := ha_ext x5 haG
    have ep5 := x5 _ _ epG fun _ z => by cases z
    have ed5' := x5 _ _ ed fun _ z => by cases z
    have hd5 := x5 _ _ hdG fun _ z => by cases z
    have hE5' : Es K G5 (zs.map (entOf ee)) := es_ext x5 hEG
    have B5 := BG.ext x5
    have K5 : KN b H G5 := KN.trans KG (KN.ext x5)
    clear x5 haG epG ed hdG hEG hEeG BG KG tG
    refine cut_seq (fun σ G => Same G5 G) (fun N hN => ?_) ?_
    · refine ⟨2, rfl, by decide, by decide, for_range (lo := 0) (n := 2) (fun i σ G => ∃ (y7 y10 y11 : Option V), σ = [some (.ref b), some (.int n), some (.ref d), x3, some (.ref a), some (.ref pp), x6, y7, some (.ref d2), some (.ref td), y10, y11, none, none] ∧ Same G5 G) ⟨_, _, _, rfl, Same.refl _⟩ ?_ ?_⟩
      · rintro i σ G hi ⟨y7, y10, y11, rfl, sg⟩
        have lr : ∀ (N2 : L2.St → Hp → Prop), (∀ (t : Addr) (xs : List V) G1, Same G G1 → SqT K G1 t xs → Frs K G1 xs gs → (∀ f ∈ gs, okF f) → gs.length ≤ 5000 → N2 [some (.ref b), some (.int n), some (.ref d), x3, some (.ref a), some (.ref pp), x6, y7, some (.ref d2), some (.ref td), some (.int (0 + i)), some (.ref t), none, none] G1) → sp_line_range K [.ref a, .ref d2, .int n] G (fun x H1 => N2 [some (.ref b), some (.int n), some (.ref d), x3, some (.ref a), some (.ref pp), x6, y7, some (.ref d2), some (.ref td), some (.int (0 + i)), some x, none, none] H1) E0 := fun N2 hN2 =>
          ⟨a, d2, n, r, kvE (zs.map (entOf ee)), rgE (zs.map (entOf ee)), rfl, ha5.same sg, ok, rd_es (sg _ _ ed5') (by omega) (hE5'.same sg), rg_es hE5', needR_congr hrg nd, n1, n8, fun t xs gs2 G1 s1 h1 f1 asc2 mem2 ok2 l2 => by
            have e : gs2 = gs := asc_eq asc2 asc fun x => (mem2 x).trans ((memR_congr hrg x).symm.trans (mem x).symm)
            subst e
            exact hN2 t xs G1 s1 h1 f1 ok2 l2⟩
        refine cut_seq (fun σ G1 => ∃ (t : Addr) (xs : List V), σ = [some (.ref b), some (.int n), some (.ref d), x3, some (.ref a), some (.ref pp), x6, y7, some (.ref d2), some (.ref td), some (.int (0 + i)), some (.ref t), none, none] ∧ Same G G1 ∧ SqT K G1 t xs ∧ Frs K G1 xs gs ∧ (∀ f ∈ gs, okF f) ∧ gs.length ≤ 5000) (fun N2 hN2 => ?_) ?_
        · have := lr N2 fun t xs G1 h1 h2 h3 h4 h5 => hN2 _ _ ⟨t, xs, rfl, h1, h2, h3, h4, h5⟩
          walk_at "rs"
          exact ite2 (fun _ => this) (fun _ => this)
        rintro σ G1 ⟨t, xs, rfl, s1, h1, f1, okg, lg⟩
        clear lr
        have s51 := Same.trans sg s1
        walk_at "rs"
        refine ⟨t, td, xs, tzs, gs, rfl, h1, f1, Same.seqT s51 h5, (f5.same s51).frs, asc, okg, lg, fun G6 s6 => ⟨true, rfl, iteFF (by decide) ?_⟩⟩
        have s56 := Same.trans s51 s6
        refine ⟨_, rfl, d2, _, rfl, s56 _ _ ed5', fun G7 p7 ts7 s7 n7 nt7 np7 e7 pr7 => ⟨_, rfl, pp, _, rfl, .inl (.inl (s7 _ _ (s56 _ _ ep5))), fun p8 np8 => ⟨p8, rfl, ⟨_, .inl (.inl upd_same)⟩, ?_⟩⟩⟩
        rw [hrev]
        have up8 : Same G7 (upd G7 p8 (.lst (zs.map V.str))) := same_upd np8
        have ep8 : upd G7 p8 (.lst (zs.map V.str)) p8 = some (.lst (zs.map V.str)) := upd_same
        have e78 := up8 _ _ e7
        have pr8 := (prs_items pr7).same up8
        have S8 : Same G5 (upd G7 p8 (.lst (zs.map V.str))) := Same.trans s56 (Same.trans s7 up8)
        clear pr7 e7 nt7 np7 n7
        generalize upd G7 p8 (.lst (zs.map V.str)) = G8 at *
        refine fun D hD => lc_it (walk_list (K := K) (a := p8) (xs := zs.map V.str)) (fun j G => Same G8 G ∧ ∃ us, G D = some (.lst us) ∧ Prs G us ((zs.take j).map (entOf ee))) ⟨same_upd hD, [], upd_same, .nil⟩ (fun j G _ h => .inl (.inl (h.1 _ _ ep8))) ?_ ?_
        · rintro j y G1' G9 hj ⟨s9', us, g1, pu⟩ ⟨rfl, hy1⟩
          rw [List.getElem?_map] at hy1
          obtain ⟨z, hz, rfl⟩ := Option.map_eq_some_iff.mp hy1
          have et : zs.take (j + 1) = zs.take j ++ [z] := by rw [List.take_succ, hz]; rfl
          obtain ⟨_, g2, g3⟩ := hEnt z (z6 z (List.mem_of_getElem? hz))
          have lu := pu.len
          rw [List.length_map, List.length_take] at lu
          unfold tDGet
          walk_at "rs"
          simp only [tYes, eq_self, ite_true]
          refine ⟨_, .inl ⟨kvE ee, .inr z, .inl (s9' _ _ (S8 _ _ hd5)), rfl, g3.symm⟩, by decide, fun q G10 s10 n10 e10 => ⟨us, s10 _ _ g1, Nat.lt_of_le_of_lt (show us.length ≤ 6 by omega) (by decide), fun a o e => ?_, _, upd_same, ?_⟩⟩
          · rw [upd_ne (ne_of_none e hD)]; exact s10 _ _ (s9' _ _ e)
          · rw [et, List.map_append]
            exact ((pu.same s10).upd (s10 _ _ g1)).app (.cons (by rw [upd_ne (fun e => by rw [e, s10 _ _ g1] at e10; cases e10)]; exact e10) .nil)
        · rintro G9 ⟨s9', us, g1, pu⟩
          rw [List.length_map, List.take_length] at pu
          have hE9' := hE5'.same (Same.trans S8 s9')
          exact neD_same (.lst (.inl (.inl (s9' _ _ e78))) (prs_dp (pr8.same s9') hE9')) (.lst (.inl (.inl g1)) (prs_dp pu hE9')) (lay_list (lay_ent hz6)) (by decide) ⟨false, rfl, iteFF (by decide) ⟨_, _, _, ⟨rfl, rfl, rfl⟩, Same.trans S8 s9'⟩⟩
      · rintro σ G ⟨y7, y10, y11, rfl, sg⟩
        exact hN _ _ sg
    rintro σ G sg
    walk_at "rs"
    exact k G (B5.same sg) (Tabs.same t5 sg) (KN.trans K5 (KN.same sg))
end
end LK

set_option Elab.async false
set_option linter.all false
set_option maxRecDepth 100000
namespace LK
open PySem PySem.Spec PyProof.Rows L2
local macro_rules | `(tactic| walk_at "rs") => `(tactic| simp only [cxK, cxNK, tCallZ, tAsg, tOp, rI0, rS0, rB0, rI, rU, tUn, rEq, rNe, rIxL, rIxT, rIxS, rSetL, rSlLU, rSlS, rSlU, rCatL, rCatU, rRepL, rIn, tVar, tC, gName, gSub, tIfS, tTest, tB, tAnd, tOr, tNot, tNotV, tAndV, tOrV, tIf, tCall, tCons, tNil, tCB, tDrop, tRet, tRetN, tNext, tLstU, tTupU, tM0, tM1, tPar, tPar3, tAug, ipI, tBM, tBM0, rAppend, rPop, tBreak, tCont, tChain, tSl, tPart, tNoPart, L2.start, List.map, List.length_cons, List.length_nil, List.replicate, List.cons_append, List.nil_append, List.append_nil, List.getElem?_cons_zero, List.getElem?_cons_succ, List.set_cons_zero, List.set_cons_succ, Option.some.injEq, V.int.injEq, V.ref.injEq, V.str.injEq, V.bl.injEq, exists_eq_left', exists_eq_left, exists_and_left, decide_eq_true_eq, List.cons.injEq, and_true, true_and, scal, Bool.not_eq_true', decide_eq_false_iff_not, Nat.zero_add, Nat.reduceAdd, Nat.reduceSub, reduceCtorEq, false_and, exists_false, false_or, or_false, CPow, CMul, CDiv, Int.reduceToNat, ↓reduceIte, wipe, sw, List.nil_append, List.singleton_append])
local macro_rules | `(tactic| walk_at "st") => `(tactic| (refine seq_op fun N hN => ?_; walk_at "rs"))
local macro_rules | `(tactic| walk_at "sd") => `(tactic| first | assumption | decide | omega)
local macro_rules | `(tactic| walk_at "rd") => `(tactic| repeat (first
  | refine ⟨_, SqL.of (by assumption), ?_⟩ | refine ⟨_, SqL.of upd_same, ?_⟩ | refine ⟨_, .inl (SqL.of (by assumption)), ?_⟩ | refine ⟨_, (by assumption : _ = some (HO.lst _)), ?_⟩ | refine ⟨_, upd_same, ?_⟩
  | refine ⟨_, rfl, ?_⟩ | refine And.intro (by walk_at "sd") ?_))

open LamX (Tabs TabS ExtN TabB)
section
variable {P : Program} {w : World} {K : PySem.W.Frag} {mg : Str → Option Value} {base : Heap}
def sp_law (K : PySem.W.Frag) (TL : List (Addr × Str)) : Sp := fun vs H Q _ => ∃ (a : Addr) (ns : List Int), vs = [.ref a] ∧ SqL K H a (ns.map V.int) ∧ ns.length ≤ 63 ∧ Tabs TL H ∧ ∀ H', Q (.bl true) H'
theorem ok_law (T : Txt w K mg) (hB : ∀ p ∈ T.cs, TabB base mg p.1 p.2) : FnOk P w K mg base CX0 19 T.a_law T.d_law ["script"] (sp_law K T.TL) := by
  refine T.F_law.ok sc_law (fun vs H Q E h => ?_) (fun cdv A outer s H vs Q E hr h => ?_)
  · obtain ⟨a, ns, rfl, _⟩ := h
    rfl
  · obtain ⟨a, ns, rfl, hS, hns, tb, k⟩ := h
    have hr__law_bag : Room 1 _ := hr.mono (by decide)
    have G__law_bag := ok__law_bag (P := P) (base := base) T
    have hr__law_means_right : Room 17 _ := hr.mono (by decide)
    have G__law_means_right := ok__law_means_right (P := P) (base := base) T hB
    have hr__law_rows_right : Room 6 _ := hr.mono (by decide)
    have G__law_rows_right := ok__law_rows_right (P := P) (base := base) T hB
    have hr__law_ranges_right : Room 18 _ := hr
    have G__law_ranges_right := ok__law_ranges_right (P := P) (base := base) T hB
    refine ⟨_, (pss_cons (ps_set (i := 1) sc_law.nd rfl (Or.inl rfl) (pe_call G__law_bag hr__law_bag (by rfl) T.m__law_bag T.F__law_bag.kp T.B__law_bag .nil pass0 (pa_cons (pv 0) pa_nil)))
      (pss_cons (ps_for PassesOwn.never rfl (pi_range1 (by rfl) T.n_range (pa_cons pe_int pa_nil)) (pg_name (i := 2) sc_law.nd rfl (Or.inl rfl)) (pss_one (ps_if (PW.pt (pw_or (pt_not (pt_val (pe_call G__law_means_right hr__law_means_right (by rfl) T.m__law_means_right T.F__law_means_right.kp T.B__law_means_right .nil pass0 (pa_cons (pv 1) pa_nil)))) (pw_or (pt_not (pt_val (pe_call G__law_rows_right hr__law_rows_right (by rfl) T.m__law_rows_right T.F__law_rows_right.kp T.B__law_rows_right .nil pass0 (pa_cons (pv 1) pa_nil)))) (pw_or (pt_not (pt_val (pe_call G__law_ranges_right hr__law_ranges_right (by rfl) T.m__law_ranges_right T.F__law_ranges_right.kp T.B__law_ranges_right .nil pass0 (pa_cons (pv 1) pa_nil)))) (pw_or1 (pt_not (pt_val (pe_call G__law_ranges_right hr__law_ranges_right (by rfl) T.m__law_ranges_right T.F__law_ranges_right.kp T.B__law_ranges_right .nil pass0 (pa_cons (pv 1) pa_nil))))))))) (pss_one (ps_ret pe_bl)) pss_nil)))
      (pss_one (ps_ret pe_bl)))), ?_⟩
    refine seq_op fun N hN => ?_
    walk_at "rs"
    refine ⟨a, ns, rfl, hS, hns, fun b c H1 s1 B1 nb => hN _ _ ?_⟩
    clear hN N
    refine cut_seq (fun σ G => True) (fun N hN => ?_) ?_
    · refine ⟨4, rfl, by decide, by decide, for_range (lo := 0) (n := (4 : Int).toNat) (fun i σ G => ∃ x2, σ = [some (.ref a), some (.ref b), x2] ∧ Bag G b c ∧ Tabs T.TL G) ⟨none, rfl, B1, Tabs.same tb s1⟩ ?_ (fun σ G h => hN _ _ trivial)⟩
      rintro i σ G hi ⟨x2, rfl, B, tg⟩
      walk_at "rs"
      refine ⟨b, c, rfl, B, tg, fun H2 B2 t2 _ => ⟨true, rfl, iteFF (by decide) ⟨b, c, rfl, B2, t2, fun H3 B3 t3 _ => ⟨true, rfl, iteFF (by decide) ⟨b, c, rfl, B3, t3, fun H4 B4 t4 _ => ⟨true, rfl, iteFF (by decide) ⟨b, c, rfl, B4, t4, fun H5 B5 t5 _ => ⟨true, rfl, iteFF (by decide) ?_⟩⟩⟩⟩⟩⟩⟩⟩
      exact ⟨B5, t5⟩
    rintro σ G _
    walk_at "rs"
    exact k G
end
end LK

set_option Elab.async false
set_option linter.all false
set_option maxRecDepth 100000
namespace LK
open PySem PySem.Spec PyProof.Rows L2
local macro_rules | `(tactic| walk_at "rs") => `(tactic| simp only [cxK, cxNK, tCallZ, tAsg, tOp, rI0, rS0, rB0, rI, rU, tUn, rEq, rNe, rIxL, rIxT, rIxS, rSetL, rSlLU, rSlS, rSlU, rCatL, rCatU, rRepL, rIn, tVar, tC, gName, gSub, tIfS, tTest, tB, tAnd, tOr, tNot, tNotV, tAndV, tOrV, tIf, tCall, tCons, tNil, tCB, tDrop, tRet, tRetN, tNext, tLstU, tTupU, tM0, tM1, tPar, tPar3, tAug, ipI, tBM, tBM0, rAppend, rPop, tBreak, tCont, tChain, tSl, tPart, tNoPart, L2.start, List.map, List.length_cons, List.length_nil, List.replicate, List.cons_append, List.nil_append, List.append_nil, List.getElem?_cons_zero, List.getElem?_cons_succ, List.set_cons_zero, List.set_cons_succ, Option.some.injEq, V.int.injEq, V.ref.injEq, V.str.injEq, V.bl.injEq, exists_eq_left', exists_eq_left, exists_and_left, decide_eq_true_eq, List.cons.injEq, and_true, true_and, scal, Bool.not_eq_true', decide_eq_false_iff_not, Nat.zero_add, Nat.reduceAdd, Nat.reduceSub, reduceCtorEq, false_and, exists_false, false_or, or_false, CPow, CMul, CDiv, Int.reduceToNat, ↓reduceIte, wipe, sw, List.nil_append, List.singleton_append])
local macro_rules | `(tactic| walk_at "st") => `(tactic| (refine seq_op fun N hN => ?_; walk_at "rs"))
local macro_rules | `(tactic| walk_at "sd") => `(tactic| first | assumption | decide | omega)
local macro_rules | `(tactic| walk_at "rd") => `(tactic| repeat (first
  | refine ⟨_, SqL.of (by assumption), ?_⟩ | refine ⟨_, SqL.of upd_same, ?_⟩ | refine ⟨_, .inl (SqL.of (by assumption)), ?_⟩ | refine ⟨_, (by assumption : _ = some (HO.lst _)), ?_⟩ | refine ⟨_, upd_same, ?_⟩
  | refine ⟨_, rfl, ?_⟩ | refine And.intro (by walk_at "sd") ?_))
open LamX (Tabs TabS ExtN GivesTo pe_lamcall TabB lamS_by tLam CodeO LamS lamCx lamEnv)
/-! ### what the head tells, as Bools -/
def oexB (K : PySem.W.Frag) (C : Addr) : Bool := (match K.lookup C with
  | some ⟨.type c, _, .cls cd, sl⟩ => (match cd.mro, sl.toList with
    | .ref C' :: bm, [_, _, _, _, some (.builtin n), _] => decide (c = "type") && (decide (C' = C) && (decide (n = "ValueError.__new__") && (!cd.hasDel && (cd.hasDict && PySem.HandSPX.refsVE bm))))
    | _, _ => false)
  | _ => false) && (He.eqO (PySem.W.findIn K (.ref C) "__setattr__") (some (some (.builtin "object.__setattr__"))) && (decide (PySem.W.subIn K (.ref C) (.type "BaseException") = some true) && (decide (PySem.W.typeIn K (.ref C) = some (.type "type")) && PySem.W.keepIn K (.ref C))))
theorem oexB_ok {K : PySem.W.Frag} {C : Addr} (h : oexB K C = true) : OexC K C := by
  obtain ⟨h1, h2⟩ := He.ba h
  obtain ⟨h3, h4⟩ := He.ba h2
  obtain ⟨h5, h6⟩ := He.ba h4
  obtain ⟨h7, h8⟩ := He.ba h6
  refine ⟨?_, He.eqO_ok h3, of_decide_eq_true h5, of_decide_eq_true h7, h8⟩
  cases e : K.lookup C with
  | none => rw [e] at h1; cases h1
  | some ob =>
    obtain ⟨oc, od, dt, osl⟩ := ob
    rw [e] at h1
    cases oc with
    | type c =>
      cases dt with
      | cls cd =>
        obtain ⟨nm, bs, mro, ns, qn, hd, sn, sb, ab, col, del⟩ := cd
        dsimp only at h1
        split at h1
        · rename_i xl C' bm k0 k1 k2 k3 n k5 es
          obtain ⟨a1, b1⟩ := He.ba h1
          obtain ⟨a2, b2⟩ := He.ba b1
          obtain ⟨a3, b3⟩ := He.ba b2
          obtain ⟨a4, b4⟩ := He.ba b3
          obtain ⟨a5, a6⟩ := He.ba b4
          have ec : c = "type" := of_decide_eq_true a1
          have eC : C' = C := of_decide_eq_true a2
          have en : n = "ValueError.__new__" := of_decide_eq_true a3
          have ed : del = false := by cases del with
            | false => rfl
            | true => cases a4
          have eh : hd = true := a5
          have eo : osl = #[k0, k1, k2, k3, some (.builtin n), k5] := by
            have := congrArg List.toArray es
            simpa using this
          subst ec eC en ed eh eo
          exact ⟨nm, qn, ns, bs, bm, sn, sb, ab, col, od, k0, k1, k2, k3, k5, rfl, a6⟩
        · cases h1
      | _ => cases h1
    | _ => cases dt <;> cases h1
def isxB (K : PySem.W.Frag) (C : Addr) : Bool := (PySem.W.clsIn K C).isSome && (He.eqO (PySem.W.findIn K (.ref C) "__getattribute__") (some (some (.builtin "BaseException.__getattribute__"))) && (He.eqO (PySem.W.findIn K (.ref C) "__getattr__") (some none) && (decide (PySem.W.subIn K (.ref C) (.type "BaseException") = some true) && (He.eqO (PySem.W.findIn K (.ref C) "__class__") (some (some (.builtin "object.__class__"))) && (He.eqO (PySem.W.specialIn K (.builtin "object.__class__") "__get__") (some (some (.builtin "getset_descriptor.__get__"))) && (decide (PySem.W.takesIn K (.builtin "object.__class__") = some true) && decide (PySem.W.mroIn K C (.type "object") = some true)))))))
theorem isxB_ok {K : PySem.W.Frag} {C : Addr} (h : isxB K C = true) : IsxC K C := by
  obtain ⟨h1, h⟩ := He.ba h
  obtain ⟨h2, h⟩ := He.ba h
  obtain ⟨h3, h⟩ := He.ba h
  obtain ⟨h4, h⟩ := He.ba h
  obtain ⟨h5, h⟩ := He.ba h
  obtain ⟨h6, h⟩ := He.ba h
  obtain ⟨h7, h8⟩ := He.ba h
  exact ⟨h1, He.eqO_ok h2, He.eqO_ok h3, of_decide_eq_true h4, He.eqO_ok h5, He.eqO_ok h6, of_decide_eq_true h7, of_decide_eq_true h8⟩
def bvC (K : PySem.W.Frag) : Addr := He.ga K "BadValue"
def bvI (K : PySem.W.Frag) : Addr := He.fAd K ("BadValue", some "__init__")
def nnC (K : PySem.W.Frag) : Addr := He.ga K "NoName"
def nnI (K : PySem.W.Frag) : Addr := He.fAd K ("NoName", some "__init__")
def tabP (K : PySem.W.Frag) (x : Str) : Addr := (He.cT K (x, none)).2
/-- an own exception over LookupError, one class between -/
def oelB (K : PySem.W.Frag) (C M : Addr) : Bool := (match K.lookup C with
  | some ⟨.type c, _, .cls cd, sl⟩ => (match cd.mro, sl.toList with
    | .ref C' :: bm, [_, _, _, _, some (.builtin n), _] => decide (c = "type") && (decide (C' = C) && (decide (n = "LookupError.__new__") && (!cd.hasDel && (cd.hasDict && decide (bm = Value.ref M :: leTail)))))
    | _, _ => false)
  | _ => false) && (He.eqO (PySem.W.findIn K (.ref C) "__setattr__") (some (some (.builtin "object.__setattr__"))) && (decide (PySem.W.subIn K (.ref C) (.type "BaseException") = some true) && (decide (PySem.W.typeIn K (.ref C) = some (.type "type")) && PySem.W.keepIn K (.ref C))))
theorem oelB_ok {K : PySem.W.Frag} {C M : Addr} (h : oelB K C M = true) : OexM K C "LookupError.__new__" leTail := by
  obtain ⟨h1, h2⟩ := He.ba h
  obtain ⟨h3, h4⟩ := He.ba h2
  obtain ⟨h5, h6⟩ := He.ba h4
  obtain ⟨h7, h8⟩ := He.ba h6
  refine ⟨?_, He.eqO_ok h3, of_decide_eq_true h5, of_decide_eq_true h7, h8⟩
  cases e : K.lookup C with
  | none => rw [e] at h1; cases h1
  | some ob =>
    obtain ⟨oc, od, dt, osl⟩ := ob
    rw [e] at h1
    cases oc with
    | type c =>
      cases dt with
      | cls cd =>
        obtain ⟨nm, bs, mro, ns, qn, hd, sn, sb, ab, col, del⟩ := cd
        dsimp only at h1
        split at h1
        · rename_i xl C' bm k0 k1 k2 k3 n k5 es
          obtain ⟨a1, b1⟩ := He.ba h1
          obtain ⟨a2, b2⟩ := He.ba b1
          obtain ⟨a3, b3⟩ := He.ba b2
          obtain ⟨a4, b4⟩ := He.ba b3
          obtain ⟨a5, a6⟩ := He.ba b4
          have ec : c = "type" := of_decide_eq_true a1
          have eC : C' = C := of_decide_eq_true a2
          have en : n = "LookupError.__new__" := of_decide_eq_true a3
          have ed : del = false := by cases del with
            | false => rfl
            | true => cases a4
          have eh : hd = true := a5
          have eo : osl = #[k0, k1, k2, k3, some (.builtin n), k5] := by
            have := congrArg List.toArray es
            simpa using this
          subst ec eC en ed eh eo
          exact ⟨nm, qn, ns, bs, bm, sn, sb, ab, col, od, k0, k1, k2, k3, k5, rfl, ⟨[M], of_decide_eq_true a6⟩⟩
        · cases h1
      | _ => cases h1
    | _ => cases dt <;> cases h1
/-! ### the table of operands -/
def kvOf (e : DictEntry) : Option (Str × Str) := match e.key, e.val with
  | .str k _, .str v _ => some (k, v)
  | _, _ => none
theorem kvOf_some {e : DictEntry} {p : Str × Str} (h : kvOf e = some p) : (∃ t, e.key = .str p.1 t) ∧ ∃ t, e.val = .str p.2 t := by
  unfold kvOf at h
  split at h
  · rename_i k t v u e1 e2
    obtain rfl := Option.some.inj h
    exact ⟨⟨t, e1⟩, u, e2⟩
  · cases h
theorem find_kv (z : Str) : ∀ {l : List DictEntry} {tab : List (Str × Str)}, l.map kvOf = tab.map some → ∃ r : Option Value,
    (match l.find? (fun e => e.key.isStr z) with
      | some e => some (some e.val)
      | none => if l.any (fun e => e.refKey) then none else some none) = some r ∧ (match r with | none => tab.lookup z = none | some u => ∃ y, tab.lookup z = some y ∧ RelV (.str y) u)
  | [], [], _ => ⟨none, rfl, rfl⟩
  | [], p :: tab, h => by cases h
  | e :: l, [], h => by cases h
  | e :: l, p :: tab, h => by
    rw [List.map_cons, List.map_cons, List.cons.injEq] at h
    obtain ⟨⟨t, e1⟩, u, e2⟩ := kvOf_some h.1
    have hs : e.key.isStr z = (p.1 == z) := by rw [e1]; rfl
    have hr : e.refKey = false := by unfold DictEntry.refKey; rw [e1]
    obtain ⟨k, v⟩ := p
    by_cases hz : z = k
    · have ez : (k == z) = true := beq_iff_eq.mpr hz.symm
      refine ⟨some e.val, ?_, ?_⟩
      · rw [List.find?_cons, hs, ez]
      · exact ⟨v, by rw [List.lookup_cons, beq_iff_eq.mpr hz], u, e2⟩
    · have ez : (k == z) = false := beq_eq_false_iff_ne.mpr (Ne.symm hz)
      have ez2 : (z == k) = false := beq_eq_false_iff_ne.mpr hz
      obtain ⟨r, h1, h2⟩ := find_kv z h.2
      refine ⟨r, ?_, ?_⟩
      · rw [List.find?_cons, hs, ez, List.any_cons, hr, Bool.false_or]
        exact h1
      · rw [List.lookup_cons, ez2]
        exact h2
def opB (K : PySem.W.Frag) : Bool := match K.lookup (He.ga K "OPERANDS") with
  | some ⟨_, _, .dict es _, _⟩ => decide (es.toList.map kvOf = opsTab.map some)
  | _ => false
theorem opG {K : PySem.W.Frag} {es : Array DictEntry} {n : Nat} (l : K.lookup (He.ga K "OPERANDS") = some ⟨.type "dict", none, .dict es n, #[]⟩) (h : opB K = true) (z : Str) : ∃ r, PySem.W.nsIn K (He.ga K "OPERANDS") z = some r ∧ (match r with | none => opsOf z = none | some u => ∃ y, opsOf z = some y ∧ RelV (.str y) u) := by
  unfold opB at h
  rw [l] at h
  obtain ⟨r, h1, h2⟩ := find_kv z (of_decide_eq_true h)
  refine ⟨r, ?_, h2⟩
  unfold PySem.W.nsIn
  rw [l]
  exact h1
def tsL : List He.Tab := [(fun K => He.ga K "OPERANDS", opsTab.map (·.1))]
def exB (K : PySem.W.Frag) : Bool := oexB K (bvC K) && (oelB K (nnC K) (He.ga K "Missing") && (xfB K (nnC K) && (isxB K (nnC K) && (decide (PySem.W.kitOne K (.ref (nnC K)) (.ref (nnC K)) = some true) && (He.eqO (PySem.W.nsIn K mainGlobals "gcd") (some (some (.builtin "math.gcd"))) && (He.tupB K "ZERO" [.int 0, .int 1] && (He.tupB K "ONE" [.int 1, .int 1] && (He.tupB K "RESERVED" (keptL.map He.Dv.str) && (He.tupB K "GIVEN" [.str "sign", .str "place"] && (He.tupB K "RELATIONS" (relL.map He.Dv.str) && (opB K && (decide (PySem.W.typeIn K (.ref (bvI K)) = some (.type "function")) && (He.eqO (PySem.W.findIn K (.ref (bvC K)) "__init__") (some (some (.ref (bvI K)))) && (decide (PySem.W.typeIn K (.ref (nnI K)) = some (.type "function")) && (He.eqO (PySem.W.findIn K (.ref (nnC K)) "__init__") (some (some (.ref (nnI K)))) && decide (mainGlobals ≠ tabP K "_law_so"))))))))))))))))
def dInit : He.DefD := ⟨("BadValue", some "__init__"), "__init__", "BadValue.__init__", defArgs s_BadValue, defBody s_BadValue, defScope s_BadValue, [], []⟩
def dInit2 : He.DefD := ⟨("NoName", some "__init__"), "__init__", "NoName.__init__", defArgs s_NoName, defBody s_NoName, defScope s_NoName, [], []⟩
def D_is_number : He.DefD := ⟨("is_number", none), "is_number", "is_number", defArgs s_is_number, defBody s_is_number, defScope s_is_number, [], []⟩
def D_is_fraction : He.DefD := ⟨("is_fraction", none), "is_fraction", "is_fraction", defArgs s_is_fraction, defBody s_is_fraction, defScope s_is_fraction, [], []⟩
def D_fraction : He.DefD := ⟨("fraction", none), "fraction", "fraction", defArgs s_fraction, defBody s_fraction, defScope s_fraction, [.int 1], []⟩
def D_plus : He.DefD := ⟨("plus", none), "plus", "plus", defArgs s_plus, defBody s_plus, defScope s_plus, [], []⟩
def D_minus : He.DefD := ⟨("minus", none), "minus", "minus", defArgs s_minus, defBody s_minus, defScope s_minus, [], []⟩
def D_times : He.DefD := ⟨("times", none), "times", "times", defArgs s_times, defBody s_times, defScope s_times, [], []⟩
def D_quotient : He.DefD := ⟨("quotient", none), "quotient", "quotient", defArgs s_quotient, defBody s_quotient, defScope s_quotient, [], []⟩
def D_below : He.DefD := ⟨("below", none), "below", "below", defArgs s_below, defBody s_below, defScope s_below, [], []⟩
def D_floor_of : He.DefD := ⟨("floor_of", none), "floor_of", "floor_of", defArgs s_floor_of, defBody s_floor_of, defScope s_floor_of, [], []⟩
def D_merged : He.DefD := ⟨("merged", none), "merged", "merged", defArgs s_merged, defBody s_merged, defScope s_merged, [], []⟩
def D_ascending : He.DefD := ⟨("ascending", none), "ascending", "ascending", defArgs s_ascending, defBody s_ascending, defScope s_ascending, [], []⟩
def D_is_word_name : He.DefD := ⟨("is_word_name", none), "is_word_name", "is_word_name", defArgs s_is_word_name, defBody s_is_word_name, defScope s_is_word_name, [], []⟩
def D_is_own_name : He.DefD := ⟨("is_own_name", none), "is_own_name", "is_own_name", defArgs s_is_own_name, defBody s_is_own_name, defScope s_is_own_name, [], []⟩
def D_is_name : He.DefD := ⟨("is_name", none), "is_name", "is_name", defArgs s_is_name, defBody s_is_name, defScope s_is_name, [], []⟩
def D_names_in : He.DefD := ⟨("names_in", none), "names_in", "names_in", defArgs s_names_in, defBody s_names_in, defScope s_names_in, [], []⟩
def D_truth : He.DefD := ⟨("truth", none), "truth", "truth", defArgs s_truth, defBody s_truth, defScope s_truth, [], []⟩
def D_compared : He.DefD := ⟨("compared", none), "compared", "compared", defArgs s_compared, defBody s_compared, defScope s_compared, [], []⟩
def D_whole_quotient : He.DefD := ⟨("whole_quotient", none), "whole_quotient", "whole_quotient", defArgs s_whole_quotient, defBody s_whole_quotient, defScope s_whole_quotient, [], []⟩
def D_value_of_two : He.DefD := ⟨("value_of_two", none), "value_of_two", "value_of_two", defArgs s_value_of_two, defBody s_value_of_two, defScope s_value_of_two, [], []⟩
def D_value_of_word : He.DefD := ⟨("value_of_word", none), "value_of_word", "value_of_word", defArgs s_value_of_word, defBody s_value_of_word, defScope s_value_of_word, [], []⟩
def D_evaluate : He.DefD := ⟨("evaluate", none), "evaluate", "evaluate", defArgs s_evaluate, defBody s_evaluate, defScope s_evaluate, [], []⟩
def D_is_look : He.DefD := ⟨("is_look", none), "is_look", "is_look", defArgs s_is_look, defBody s_is_look, defScope s_is_look, [], []⟩
def D_asked : He.DefD := ⟨("asked", none), "asked", "asked", defArgs s_asked, defBody s_asked, defScope s_asked, [], []⟩
def D_line_names : He.DefD := ⟨("line_names", none), "line_names", "line_names", defArgs s_line_names, defBody s_line_names, defScope s_line_names, [], []⟩
def D_means : He.DefD := ⟨("means", none), "means", "means", defArgs s_means, defBody s_means, defScope s_means, [], []⟩
def D_rows_of_values : He.DefD := ⟨("rows_of_values", none), "rows_of_values", "rows_of_values", defArgs s_rows_of_values, defBody s_rows_of_values, defScope s_rows_of_values, [], []⟩
def D_line_rows : He.DefD := ⟨("line_rows", none), "line_rows", "line_rows", defArgs s_line_rows, defBody s_line_rows, defScope s_line_rows, [], []⟩
def D_results : He.DefD := ⟨("results", none), "results", "results", defArgs s_results, defBody s_results, defScope s_results, [], []⟩
def D_line_range : He.DefD := ⟨("line_range", none), "line_range", "line_range", defArgs s_line_range, defBody s_line_range, defScope s_line_range, [], []⟩
def D__law_bag : He.DefD := ⟨("_law_bag", none), "_law_bag", "_law_bag", defArgs s__law_bag, defBody s__law_bag, defScope s__law_bag, [], []⟩
def D__law_draw : He.DefD := ⟨("_law_draw", none), "_law_draw", "_law_draw", defArgs s__law_draw, defBody s__law_draw, defScope s__law_draw, [], []⟩
def D__law_of : He.DefD := ⟨("_law_of", none), "_law_of", "_law_of", defArgs s__law_of, defBody s__law_of, defScope s__law_of, [], []⟩
def D__law_like : He.DefD := ⟨("_law_like", none), "_law_like", "_law_like", defArgs s__law_like, defBody s__law_like, defScope s__law_like, [], []⟩
def D__law_low : He.DefD := ⟨("_law_low", none), "_law_low", "_law_low", defArgs s__law_low, defBody s__law_low, defScope s__law_low, [], []⟩
def D__law_order : He.DefD := ⟨("_law_order", none), "_law_order", "_law_order", defArgs s__law_order, defBody s__law_order, defScope s__law_order, [], []⟩
def D__law_holds : He.DefD := ⟨("_law_holds", none), "_law_holds", "_law_holds", defArgs s__law_holds, defBody s__law_holds, defScope s__law_holds, [], []⟩
def D__law_two : He.DefD := ⟨("_law_two", none), "_law_two", "_law_two", defArgs s__law_two, defBody s__law_two, defScope s__law_two, [], []⟩
def D__law_worth : He.DefD := ⟨("_law_worth", none), "_law_worth", "_law_worth", defArgs s__law_worth, defBody s__law_worth, defScope s__law_worth, [], []⟩
def D__law_prefix : He.DefD := ⟨("_law_prefix", none), "_law_prefix", "_law_prefix", defArgs s__law_prefix, defBody s__law_prefix, defScope s__law_prefix, [], []⟩
def D__law_once : He.DefD := ⟨("_law_once", none), "_law_once", "_law_once", defArgs s__law_once, defBody s__law_once, defScope s__law_once, [], []⟩
def D__law_named : He.DefD := ⟨("_law_named", none), "_law_named", "_law_named", defArgs s__law_named, defBody s__law_named, defScope s__law_named, [], []⟩
def D__law_trio : He.DefD := ⟨("_law_trio", none), "_law_trio", "_law_trio", defArgs s__law_trio, defBody s__law_trio, defScope s__law_trio, [], []⟩
def D__law_uses : He.DefD := ⟨("_law_uses", none), "_law_uses", "_law_uses", defArgs s__law_uses, defBody s__law_uses, defScope s__law_uses, [], []⟩
def D__law_rising : He.DefD := ⟨("_law_rising", none), "_law_rising", "_law_rising", defArgs s__law_rising, defBody s__law_rising, defScope s__law_rising, [], []⟩
def D__law_every_mean : He.DefD := ⟨("_law_every_mean", none), "_law_every_mean", "_law_every_mean", defArgs s__law_every_mean, defBody s__law_every_mean, defScope s__law_every_mean, [], []⟩
def D__law_every_row : He.DefD := ⟨("_law_every_row", none), "_law_every_row", "_law_every_row", defArgs s__law_every_row, defBody s__law_every_row, defScope s__law_every_row, [], []⟩
def D__law_span : He.DefD := ⟨("_law_span", none), "_law_span", "_law_span", defArgs s__law_span, defBody s__law_span, defScope s__law_span, [], []⟩
def D__law_wholes : He.DefD := ⟨("_law_wholes", none), "_law_wholes", "_law_wholes", defArgs s__law_wholes, defBody s__law_wholes, defScope s__law_wholes, [], []⟩
def D__law_range : He.DefD := ⟨("_law_range", none), "_law_range", "_law_range", defArgs s__law_range, defBody s__law_range, defScope s__law_range, [], []⟩
def D__law_like_fractions : He.DefD := ⟨("_law_like_fractions", none), "_law_like_fractions", "_law_like_fractions", defArgs s__law_like_fractions, defBody s__law_like_fractions, defScope s__law_like_fractions, [], []⟩
def D__law_means_right : He.DefD := ⟨("_law_means_right", none), "_law_means_right", "_law_means_right", defArgs s__law_means_right, defBody s__law_means_right, defScope s__law_means_right, [], []⟩
def D__law_rows_right : He.DefD := ⟨("_law_rows_right", none), "_law_rows_right", "_law_rows_right", defArgs s__law_rows_right, defBody s__law_rows_right, defScope s__law_rows_right, [], []⟩
def D__law_row : He.DefD := ⟨("_law_row", none), "_law_row", "_law_row", defArgs s__law_row, defBody s__law_row, defScope s__law_row, [], []⟩
def D__law_ranges_right : He.DefD := ⟨("_law_ranges_right", none), "_law_ranges_right", "_law_ranges_right", defArgs s__law_ranges_right, defBody s__law_ranges_right, defScope s__law_ranges_right, [], []⟩
def D_law : He.DefD := ⟨("law", none), "law", "law", defArgs s_law, defBody s_law, defScope s_law, [], []⟩
def fnL : List He.DefD := [dInit, dInit2, D_is_number, D_is_fraction, D_fraction, D_plus, D_minus, D_times, D_quotient, D_below, D_floor_of, D_merged, D_ascending, D_is_word_name, D_is_own_name, D_is_name, D_names_in, D_truth, D_compared, D_whole_quotient, D_value_of_two, D_value_of_word, D_evaluate, D_is_look, D_asked, D_line_names, D_means, D_rows_of_values, D_line_rows, D_results, D_line_range, D__law_bag, D__law_draw, D__law_of, D__law_like, D__law_low, D__law_order, D__law_holds, D__law_two, D__law_worth, D__law_prefix, D__law_once, D__law_named, D__law_trio, D__law_uses, D__law_rising, D__law_every_mean, D__law_every_row, D__law_span, D__law_wholes, D__law_range, D__law_like_fractions, D__law_means_right, D__law_rows_right, D__law_row, D__law_ranges_right, D_law]
def faL : List He.Fa := [.free "len", .free "int", .free "str", .free "list", .free "tuple", .free "bool", .free "dict", .free "isinstance", .free "all", .free "range", .free "zip", .free "abs", .free "reversed", .free "sorted", .free "max", .free "min", .glo "ZERO", .glo "ONE", .glo "RESERVED", .glo "GIVEN", .glo "RELATIONS", .glo "OPERANDS", .glo "BadValue", .glo "NoName", .glo "Missing", .glo "is_number", .glo "is_fraction", .glo "fraction", .glo "plus", .glo "minus", .glo "times", .glo "quotient", .glo "below", .glo "floor_of", .glo "merged", .glo "ascending", .glo "is_word_name", .glo "is_own_name", .glo "is_name", .glo "names_in", .glo "truth", .glo "compared", .glo "whole_quotient", .glo "value_of_two", .glo "value_of_word", .glo "evaluate", .glo "is_look", .glo "asked", .glo "line_names", .glo "means", .glo "rows_of_values", .glo "line_rows", .glo "results", .glo "line_range", .glo "_law_bag", .glo "_law_draw", .glo "_law_of", .glo "_law_like", .glo "_law_low", .glo "_law_order", .glo "_law_holds", .glo "_law_two", .glo "_law_worth", .glo "_law_prefix", .glo "_law_once", .glo "_law_named", .glo "_law_trio", .glo "_law_uses", .glo "_law_rising", .glo "_law_every_mean", .glo "_law_every_row", .glo "_law_span", .glo "_law_wholes", .glo "_law_range", .glo "_law_like_fractions", .glo "_law_means_right", .glo "_law_rows_right", .glo "_law_row", .glo "_law_ranges_right", .glo "law", .str "FIGURES" FIGs, .str "LETTERS" LETs, .noat "BadValue" "value", .noat "BadValue" "code", .noat "NoName" "name", .noat "NoName" "code", .exm "NoName" "Missing" true]
def tfL : List He.Defn := [("_law_rising", none)]
theorem fun_ofD {K : PySem.W.Frag} {x q : Str} {st : Stmt} {f : Addr} {fd : FuncData} {kws : List (Str × V)} (F : FunD K x q (defArgs st) (defBody st) (defScope st) [] kws f fd) : Fun K x q st f fd := by
  obtain ⟨oc, od, dV, kV, doc, pm, an, cdv, ct, osl, rfl, lk, hcd, hD, _⟩ := F.ex
  rcases hD with ⟨_, rfl⟩ | ⟨e, _⟩
  · exact ⟨⟨oc, od, kV, doc, pm, an, cdv, ct, osl, rfl, lk, hcd⟩, F.kp⟩
  · exact absurd rfl e
theorem code_ofD {K : PySem.W.Frag} {x q : Str} {ps : Arguments} {b : List Stmt} {sc : Scope} {dv : List V} {kw : List (Str × V)} {p : He.Defn} {fd : FuncData} (F : FunD K x q ps b sc dv kw (He.fAd K p) fd) : fd.code = .ref (He.codeOf K p) := by
  obtain ⟨oc, od, dV, kV, doc, pm, an, cdv, ct, osl, rfl, lk, hcd, _, _⟩ := F.ex
  obtain ⟨c, rfl⟩ := He.codeIn_ref hcd
  rw [He.codeOf_eq lk rfl]
/-- a def with defaults called by keywords alone -/
theorem kb_ofD {K : PySem.W.Frag} {x qual : Str} {params : Arguments} {body : List Stmt} {scope : Scope} {dvs : List V} {kws : List (Str × V)} {f : Addr} {fd : FuncData} {ps : List Str} (F : FunD K x qual params body scope dvs kws f fd) (ks : List Str) (g : {α : Type} → List α → List α → List α) (hd : dvs ≠ [])
    (hrel : ∀ {ds zs : List V} {its ws : List Value}, Vals ds its → Vals zs ws → Vals (g ds zs) (g its ws))
    (h : ∀ (T : Addr) (kV doc pm : Value) (an : Option Addr) (cdv ct : Value) (its ws : List Value), its.length = dvs.length → ws.length = ks.length →
      ∃ k, bindArgs (PySem.W.fnOf x qual params body scope (.ref T) kV doc pm an cdv ct) ⟨[], ks.zip ws⟩ = seqItems? (.ref T) >>= k ∧ k (some its.toArray) = pure (ps.zip (g its ws))) :
    ∃ its : List Value, its.length = dvs.length ∧ KBn K fd ps 0 ks (fun _ ws => g its ws) (fun _ zs => g dvs zs) := by
  obtain ⟨oc, od, dV, kV, doc, pm, an, cdv, ct, osl, rfl, lk, hcd, hD, hK⟩ := F.ex
  rcases hD with ⟨e, _⟩ | ⟨_, T, ob, its, m, rfl, lT, oT, rT⟩
  · exact absurd e hd
  · have l1 : its.length = dvs.length := rT.length.symm
    refine ⟨its, l1, ⟨fun s us ws X hu hw => ?_, fun _ rz => hrel rT rz⟩⟩
    obtain rfl : us = [] := List.eq_nil_of_length_eq_zero hu
    obtain ⟨k, e1, e2⟩ := h T kV doc pm an cdv ct its ws l1 hw
    refine BindsTo.of_looks fun M => ?_
    rw [e1]
    exact looks_items X lT oT (.of_pure e2)
set_option maxHeartbeats 0 in
theorem facts {P : Program} {w : World} {K : PySem.W.Frag} {h : Heap} {mg : Str → Option Value} {f : Addr} (X : K.In h) (G : h.Ns mainGlobals mg) (hfa : mg ("law" : Str) = some (.ref f)) (c : He.SaysX faL fnL tsL tfL exB w h K) :
    ∃ (fd : FuncData) (cs : List (Addr × Addr)) (sp : Sp), (∀ p ∈ cs, h.get? p.2 = some { cls := .none, data := .fields #[] }) ∧ (∀ p ∈ cs, K.lookup p.2 = none) ∧ (∀ p ∈ cs, PySem.W.CodeHd h p.1 p.2) ∧ (∀ (s : Shared) (u : Value), BindsTo s fd ⟨[u], []⟩ [("script", u)]) ∧
      (∀ (H : Hp) (a : Addr) (ns : List Int), ns.length ≤ 63 → (∀ z ∈ ns, Builtin.Int.intBits z ≤ 1048576) → (∀ p ∈ cs, H p.2 = some (.tbl #[])) → SqL K H a (ns.map V.int) → sp [.ref a] H (fun v _ => v = .bl true) fun _ _ _ => False) ∧
      ∀ base : Heap, K.In base → base.Ns mainGlobals mg → (∀ p ∈ cs, LamX.TabB base mg p.1 p.2) → FnOk P w K mg base CX0 19 f fd ["script"] sp := by
  have d := c.t.d
  obtain ⟨e1, ex⟩ := He.ba c.more
  obtain ⟨e2, ex⟩ := He.ba ex
  obtain ⟨e3, ex⟩ := He.ba ex
  obtain ⟨e4, ex⟩ := He.ba ex
  obtain ⟨e5, ex⟩ := He.ba ex
  obtain ⟨e6, ex⟩ := He.ba ex
  obtain ⟨e7, ex⟩ := He.ba ex
  obtain ⟨e8, ex⟩ := He.ba ex
  obtain ⟨e9, ex⟩ := He.ba ex
  obtain ⟨e10, ex⟩ := He.ba ex
  obtain ⟨e11, ex⟩ := He.ba ex
  obtain ⟨e12, ex⟩ := He.ba ex
  obtain ⟨e13, ex⟩ := He.ba ex
  obtain ⟨e14, ex⟩ := He.ba ex
  obtain ⟨e15, ex⟩ := He.ba ex
  obtain ⟨e16, e17⟩ := He.ba ex
  obtain ⟨esO, nO, hO⟩ := c.t.tab 0 (t := (fun K => He.ga K "OPERANDS", opsTab.map (·.1))) rfl
  obtain ⟨d_init, FD_init⟩ := d.def_ 0 (d := dInit) rfl
  obtain ⟨d_init2, FD_init2⟩ := d.def_ 1 (d := dInit2) rfl
  obtain ⟨d_is_number, FD_is_number⟩ := d.def_ 2 (d := D_is_number) rfl
  obtain ⟨d_is_fraction, FD_is_fraction⟩ := d.def_ 3 (d := D_is_fraction) rfl
  obtain ⟨d_fraction, FD_fraction⟩ := d.def_ 4 (d := D_fraction) rfl
  obtain ⟨d_plus, FD_plus⟩ := d.def_ 5 (d := D_plus) rfl
  obtain ⟨d_minus, FD_minus⟩ := d.def_ 6 (d := D_minus) rfl
  obtain ⟨d_times, FD_times⟩ := d.def_ 7 (d := D_times) rfl
  obtain ⟨d_quotient, FD_quotient⟩ := d.def_ 8 (d := D_quotient) rfl
  obtain ⟨d_below, FD_below⟩ := d.def_ 9 (d := D_below) rfl
  obtain ⟨d_floor_of, FD_floor_of⟩ := d.def_ 10 (d := D_floor_of) rfl
  obtain ⟨d_merged, FD_merged⟩ := d.def_ 11 (d := D_merged) rfl
  obtain ⟨d_ascending, FD_ascending⟩ := d.def_ 12 (d := D_ascending) rfl
  obtain ⟨d_is_word_name, FD_is_word_name⟩ := d.def_ 13 (d := D_is_word_name) rfl
  obtain ⟨d_is_own_name, FD_is_own_name⟩ := d.def_ 14 (d := D_is_own_name) rfl
  obtain ⟨d_is_name, FD_is_name⟩ := d.def_ 15 (d := D_is_name) rfl
  obtain ⟨d_names_in, FD_names_in⟩ := d.def_ 16 (d := D_names_in) rfl
  obtain ⟨d_truth, FD_truth⟩ := d.def_ 17 (d := D_truth) rfl
  obtain ⟨d_compared, FD_compared⟩ := d.def_ 18 (d := D_compared) rfl
  obtain ⟨d_whole_quotient, FD_whole_quotient⟩ := d.def_ 19 (d := D_whole_quotient) rfl
  obtain ⟨d_value_of_two, FD_value_of_two⟩ := d.def_ 20 (d := D_value_of_two) rfl
  obtain ⟨d_value_of_word, FD_value_of_word⟩ := d.def_ 21 (d := D_value_of_word) rfl
  obtain ⟨d_evaluate, FD_evaluate⟩ := d.def_ 22 (d := D_evaluate) rfl
  obtain ⟨d_is_look, FD_is_look⟩ := d.def_ 23 (d := D_is_look) rfl
  obtain ⟨d_asked, FD_asked⟩ := d.def_ 24 (d := D_asked) rfl
  obtain ⟨d_line_names, FD_line_names⟩ := d.def_ 25 (d := D_line_names) rfl
  obtain ⟨d_means, FD_means⟩ := d.def_ 26 (d := D_means) rfl
  obtain ⟨d_rows_of_values, FD_rows_of_values⟩ := d.def_ 27 (d := D_rows_of_values) rfl
  obtain ⟨d_line_rows, FD_line_rows⟩ := d.def_ 28 (d := D_line_rows) rfl
  obtain ⟨d_results, FD_results⟩ := d.def_ 29 (d := D_results) rfl
  obtain ⟨d_line_range, FD_line_range⟩ := d.def_ 30 (d := D_line_range) rfl
  obtain ⟨d__law_bag, FD__law_bag⟩ := d.def_ 31 (d := D__law_bag) rfl
  obtain ⟨d__law_draw, FD__law_draw⟩ := d.def_ 32 (d := D__law_draw) rfl
  obtain ⟨d__law_of, FD__law_of⟩ := d.def_ 33 (d := D__law_of) rfl
  obtain ⟨d__law_like, FD__law_like⟩ := d.def_ 34 (d := D__law_like) rfl
  obtain ⟨d__law_low, FD__law_low⟩ := d.def_ 35 (d := D__law_low) rfl
  obtain ⟨d__law_order, FD__law_order⟩ := d.def_ 36 (d := D__law_order) rfl
  obtain ⟨d__law_holds, FD__law_holds⟩ := d.def_ 37 (d := D__law_holds) rfl
  obtain ⟨d__law_two, FD__law_two⟩ := d.def_ 38 (d := D__law_two) rfl
  obtain ⟨d__law_worth, FD__law_worth⟩ := d.def_ 39 (d := D__law_worth) rfl
  obtain ⟨d__law_prefix, FD__law_prefix⟩ := d.def_ 40 (d := D__law_prefix) rfl
  obtain ⟨d__law_once, FD__law_once⟩ := d.def_ 41 (d := D__law_once) rfl
  obtain ⟨d__law_named, FD__law_named⟩ := d.def_ 42 (d := D__law_named) rfl
  obtain ⟨d__law_trio, FD__law_trio⟩ := d.def_ 43 (d := D__law_trio) rfl
  obtain ⟨d__law_uses, FD__law_uses⟩ := d.def_ 44 (d := D__law_uses) rfl
  obtain ⟨d__law_rising, FD__law_rising⟩ := d.def_ 45 (d := D__law_rising) rfl
  obtain ⟨d__law_every_mean, FD__law_every_mean⟩ := d.def_ 46 (d := D__law_every_mean) rfl
  obtain ⟨d__law_every_row, FD__law_every_row⟩ := d.def_ 47 (d := D__law_every_row) rfl
  obtain ⟨d__law_span, FD__law_span⟩ := d.def_ 48 (d := D__law_span) rfl
  obtain ⟨d__law_wholes, FD__law_wholes⟩ := d.def_ 49 (d := D__law_wholes) rfl
  obtain ⟨d__law_range, FD__law_range⟩ := d.def_ 50 (d := D__law_range) rfl
  obtain ⟨d__law_like_fractions, FD__law_like_fractions⟩ := d.def_ 51 (d := D__law_like_fractions) rfl
  obtain ⟨d__law_means_right, FD__law_means_right⟩ := d.def_ 52 (d := D__law_means_right) rfl
  obtain ⟨d__law_rows_right, FD__law_rows_right⟩ := d.def_ 53 (d := D__law_rows_right) rfl
  obtain ⟨d__law_row, FD__law_row⟩ := d.def_ 54 (d := D__law_row) rfl
  obtain ⟨d__law_ranges_right, FD__law_ranges_right⟩ := d.def_ 55 (d := D__law_ranges_right) rfl
  obtain ⟨d_law, FD_law⟩ := d.def_ 56 (d := D_law) rfl
  have F_init : Fun K "__init__" "BadValue.__init__" s_BadValue (bvI K) d_init := fun_ofD FD_init
  have F_init2 : Fun K "__init__" "NoName.__init__" s_NoName (nnI K) d_init2 := fun_ofD FD_init2
  have F_is_number : Fun K "is_number" "is_number" s_is_number (He.ga K "is_number") d_is_number := fun_ofD FD_is_number
  have F_is_fraction : Fun K "is_fraction" "is_fraction" s_is_fraction (He.ga K "is_fraction") d_is_fraction := fun_ofD FD_is_fraction
  have F_plus : Fun K "plus" "plus" s_plus (He.ga K "plus") d_plus := fun_ofD FD_plus
  have F_minus : Fun K "minus" "minus" s_minus (He.ga K "minus") d_minus := fun_ofD FD_minus
  have F_times : Fun K "times" "times" s_times (He.ga K "times") d_times := fun_ofD FD_times
  have F_quotient : Fun K "quotient" "quotient" s_quotient (He.ga K "quotient") d_quotient := fun_ofD FD_quotient
  have F_below : Fun K "below" "below" s_below (He.ga K "below") d_below := fun_ofD FD_below
  have F_floor_of : Fun K "floor_of" "floor_of" s_floor_of (He.ga K "floor_of") d_floor_of := fun_ofD FD_floor_of
  have F_merged : Fun K "merged" "merged" s_merged (He.ga K "merged") d_merged := fun_ofD FD_merged
  have F_ascending : Fun K "ascending" "ascending" s_ascending (He.ga K "ascending") d_ascending := fun_ofD FD_ascending
  have F_is_word_name : Fun K "is_word_name" "is_word_name" s_is_word_name (He.ga K "is_word_name") d_is_word_name := fun_ofD FD_is_word_name
  have F_is_own_name : Fun K "is_own_name" "is_own_name" s_is_own_name (He.ga K "is_own_name") d_is_own_name := fun_ofD FD_is_own_name
  have F_is_name : Fun K "is_name" "is_name" s_is_name (He.ga K "is_name") d_is_name := fun_ofD FD_is_name
  have F_names_in : Fun K "names_in" "names_in" s_names_in (He.ga K "names_in") d_names_in := fun_ofD FD_names_in
  have F_truth : Fun K "truth" "truth" s_truth (He.ga K "truth") d_truth := fun_ofD FD_truth
  have F_compared : Fun K "compared" "compared" s_compared (He.ga K "compared") d_compared := fun_ofD FD_compared
  have F_whole_quotient : Fun K "whole_quotient" "whole_quotient" s_whole_quotient (He.ga K "whole_quotient") d_whole_quotient := fun_ofD FD_whole_quotient
  have F_value_of_two : Fun K "value_of_two" "value_of_two" s_value_of_two (He.ga K "value_of_two") d_value_of_two := fun_ofD FD_value_of_two
  have F_value_of_word : Fun K "value_of_word" "value_of_word" s_value_of_word (He.ga K "value_of_word") d_value_of_word := fun_ofD FD_value_of_word
  have F_evaluate : Fun K "evaluate" "evaluate" s_evaluate (He.ga K "evaluate") d_evaluate := fun_ofD FD_evaluate
  have F_is_look : Fun K "is_look" "is_look" s_is_look (He.ga K "is_look") d_is_look := fun_ofD FD_is_look
  have F_asked : Fun K "asked" "asked" s_asked (He.ga K "asked") d_asked := fun_ofD FD_asked
  have F_line_names : Fun K "line_names" "line_names" s_line_names (He.ga K "line_names") d_line_names := fun_ofD FD_line_names
  have F_means : Fun K "means" "means" s_means (He.ga K "means") d_means := fun_ofD FD_means
  have F_rows_of_values : Fun K "rows_of_values" "rows_of_values" s_rows_of_values (He.ga K "rows_of_values") d_rows_of_values := fun_ofD FD_rows_of_values
  have F_line_rows : Fun K "line_rows" "line_rows" s_line_rows (He.ga K "line_rows") d_line_rows := fun_ofD FD_line_rows
  have F_results : Fun K "results" "results" s_results (He.ga K "results") d_results := fun_ofD FD_results
  have F_line_range : Fun K "line_range" "line_range" s_line_range (He.ga K "line_range") d_line_range := fun_ofD FD_line_range
  have F__law_bag : Fun K "_law_bag" "_law_bag" s__law_bag (He.ga K "_law_bag") d__law_bag := fun_ofD FD__law_bag
  have F__law_draw : Fun K "_law_draw" "_law_draw" s__law_draw (He.ga K "_law_draw") d__law_draw := fun_ofD FD__law_draw
  have F__law_of : Fun K "_law_of" "_law_of" s__law_of (He.ga K "_law_of") d__law_of := fun_ofD FD__law_of
  have F__law_like : Fun K "_law_like" "_law_like" s__law_like (He.ga K "_law_like") d__law_like := fun_ofD FD__law_like
  have F__law_low : Fun K "_law_low" "_law_low" s__law_low (He.ga K "_law_low") d__law_low := fun_ofD FD__law_low
  have F__law_order : Fun K "_law_order" "_law_order" s__law_order (He.ga K "_law_order") d__law_order := fun_ofD FD__law_order
  have F__law_holds : Fun K "_law_holds" "_law_holds" s__law_holds (He.ga K "_law_holds") d__law_holds := fun_ofD FD__law_holds
  have F__law_two : Fun K "_law_two" "_law_two" s__law_two (He.ga K "_law_two") d__law_two := fun_ofD FD__law_two
  have F__law_worth : Fun K "_law_worth" "_law_worth" s__law_worth (He.ga K "_law_worth") d__law_worth := fun_ofD FD__law_worth
  have F__law_prefix : Fun K "_law_prefix" "_law_prefix" s__law_prefix (He.ga K "_law_prefix") d__law_prefix := fun_ofD FD__law_prefix
  have F__law_once : Fun K "_law_once" "_law_once" s__law_once (He.ga K "_law_once") d__law_once := fun_ofD FD__law_once
  have F__law_named : Fun K "_law_named" "_law_named" s__law_named (He.ga K "_law_named") d__law_named := fun_ofD FD__law_named
  have F__law_trio : Fun K "_law_trio" "_law_trio" s__law_trio (He.ga K "_law_trio") d__law_trio := fun_ofD FD__law_trio
  have F__law_uses : Fun K "_law_uses" "_law_uses" s__law_uses (He.ga K "_law_uses") d__law_uses := fun_ofD FD__law_uses
  have F__law_rising : Fun K "_law_rising" "_law_rising" s__law_rising (He.ga K "_law_rising") d__law_rising := fun_ofD FD__law_rising
  have F__law_every_mean : Fun K "_law_every_mean" "_law_every_mean" s__law_every_mean (He.ga K "_law_every_mean") d__law_every_mean := fun_ofD FD__law_every_mean
  have F__law_every_row : Fun K "_law_every_row" "_law_every_row" s__law_every_row (He.ga K "_law_every_row") d__law_every_row := fun_ofD FD__law_every_row
  have F__law_span : Fun K "_law_span" "_law_span" s__law_span (He.ga K "_law_span") d__law_span := fun_ofD FD__law_span
  have F__law_wholes : Fun K "_law_wholes" "_law_wholes" s__law_wholes (He.ga K "_law_wholes") d__law_wholes := fun_ofD FD__law_wholes
  have F__law_range : Fun K "_law_range" "_law_range" s__law_range (He.ga K "_law_range") d__law_range := fun_ofD FD__law_range
  have F__law_like_fractions : Fun K "_law_like_fractions" "_law_like_fractions" s__law_like_fractions (He.ga K "_law_like_fractions") d__law_like_fractions := fun_ofD FD__law_like_fractions
  have F__law_means_right : Fun K "_law_means_right" "_law_means_right" s__law_means_right (He.ga K "_law_means_right") d__law_means_right := fun_ofD FD__law_means_right
  have F__law_rows_right : Fun K "_law_rows_right" "_law_rows_right" s__law_rows_right (He.ga K "_law_rows_right") d__law_rows_right := fun_ofD FD__law_rows_right
  have F__law_row : Fun K "_law_row" "_law_row" s__law_row (He.ga K "_law_row") d__law_row := fun_ofD FD__law_row
  have F__law_ranges_right : Fun K "_law_ranges_right" "_law_ranges_right" s__law_ranges_right (He.ga K "_law_ranges_right") d__law_ranges_right := fun_ofD FD__law_ranges_right
  have F_law : Fun K "law" "law" s_law (He.ga K "law") d_law := fun_ofD FD_law
  have b_init2 := F_init2.binds (ps := ["self", "name"]) fun _ _ _ _ _ _ us hl => match us, hl with | [_, _], _ => rfl
  have b_init := F_init.binds (ps := ["self", "value"]) fun _ _ _ _ _ _ us hl => match us, hl with | [_, _], _ => rfl
  have b_is_number := F_is_number.binds (ps := ["value"]) fun _ _ _ _ _ _ us hl => match us, hl with | [_], _ => rfl
  have b_is_fraction := F_is_fraction.binds (ps := ["value"]) fun _ _ _ _ _ _ us hl => match us, hl with | [_], _ => rfl
  have b_plus := F_plus.binds (ps := ["a", "b"]) fun _ _ _ _ _ _ us hl => match us, hl with | [_, _], _ => rfl
  have b_minus := F_minus.binds (ps := ["a", "b"]) fun _ _ _ _ _ _ us hl => match us, hl with | [_, _], _ => rfl
  have b_times := F_times.binds (ps := ["a", "b"]) fun _ _ _ _ _ _ us hl => match us, hl with | [_, _], _ => rfl
  have b_quotient := F_quotient.binds (ps := ["a", "b"]) fun _ _ _ _ _ _ us hl => match us, hl with | [_, _], _ => rfl
  have b_below := F_below.binds (ps := ["a", "b"]) fun _ _ _ _ _ _ us hl => match us, hl with | [_, _], _ => rfl
  have b_floor_of := F_floor_of.binds (ps := ["a"]) fun _ _ _ _ _ _ us hl => match us, hl with | [_], _ => rfl
  have b_merged := F_merged.binds (ps := ["low", "high"]) fun _ _ _ _ _ _ us hl => match us, hl with | [_, _], _ => rfl
  have b_ascending := F_ascending.binds (ps := ["values"]) fun _ _ _ _ _ _ us hl => match us, hl with | [_], _ => rfl
  have b_is_word_name := F_is_word_name.binds (ps := ["value"]) fun _ _ _ _ _ _ us hl => match us, hl with | [_], _ => rfl
  have b_is_own_name := F_is_own_name.binds (ps := ["value"]) fun _ _ _ _ _ _ us hl => match us, hl with | [_], _ => rfl
  have b_is_name := F_is_name.binds (ps := ["value"]) fun _ _ _ _ _ _ us hl => match us, hl with | [_], _ => rfl
  have b_names_in := F_names_in.binds (ps := ["words"]) fun _ _ _ _ _ _ us hl => match us, hl with | [_], _ => rfl
  have b_truth := F_truth.binds (ps := ["holds"]) fun _ _ _ _ _ _ us hl => match us, hl with | [_], _ => rfl
  have b_compared := F_compared.binds (ps := ["relation", "a", "b"]) fun _ _ _ _ _ _ us hl => match us, hl with | [_, _, _], _ => rfl
  have b_whole_quotient := F_whole_quotient.binds (ps := ["a", "b"]) fun _ _ _ _ _ _ us hl => match us, hl with | [_, _], _ => rfl
  have b_value_of_two := F_value_of_two.binds (ps := ["word", "a", "b"]) fun _ _ _ _ _ _ us hl => match us, hl with | [_, _, _], _ => rfl
  have b_value_of_word := F_value_of_word.binds (ps := ["word", "operands", "values"]) fun _ _ _ _ _ _ us hl => match us, hl with | [_, _, _], _ => rfl
  have b_evaluate := F_evaluate.binds (ps := ["words", "values"]) fun _ _ _ _ _ _ us hl => match us, hl with | [_, _], _ => rfl
  have b_is_look := F_is_look.binds (ps := ["line"]) fun _ _ _ _ _ _ us hl => match us, hl with | [_], _ => rfl
  have b_asked := F_asked.binds (ps := ["line"]) fun _ _ _ _ _ _ us hl => match us, hl with | [_], _ => rfl
  have b_line_names := F_line_names.binds (ps := ["line"]) fun _ _ _ _ _ _ us hl => match us, hl with | [_], _ => rfl
  have b_means := F_means.binds (ps := ["values", "n"]) fun _ _ _ _ _ _ us hl => match us, hl with | [_, _], _ => rfl
  have b_rows_of_values := F_rows_of_values.binds (ps := ["ranges"]) fun _ _ _ _ _ _ us hl => match us, hl with | [_], _ => rfl
  have b_line_rows := F_line_rows.binds (ps := ["line", "ranges"]) fun _ _ _ _ _ _ us hl => match us, hl with | [_, _], _ => rfl
  have b_results := F_results.binds (ps := ["line", "ranges"]) fun _ _ _ _ _ _ us hl => match us, hl with | [_, _], _ => rfl
  have b_line_range := F_line_range.binds (ps := ["line", "ranges", "n"]) fun _ _ _ _ _ _ us hl => match us, hl with | [_, _, _], _ => rfl
  have b__law_bag := F__law_bag.binds (ps := ["script"]) fun _ _ _ _ _ _ us hl => match us, hl with | [_], _ => rfl
  have b__law_draw := F__law_draw.binds (ps := ["bag", "size"]) fun _ _ _ _ _ _ us hl => match us, hl with | [_, _], _ => rfl
  have b__law_of := F__law_of.binds (ps := ["bag", "things"]) fun _ _ _ _ _ _ us hl => match us, hl with | [_, _], _ => rfl
  have b__law_like := F__law_like.binds (ps := ["got", "due"]) fun _ _ _ _ _ _ us hl => match us, hl with | [_, _], _ => rfl
  have b__law_low := F__law_low.binds (ps := ["top", "low"]) fun _ _ _ _ _ _ us hl => match us, hl with | [_, _], _ => rfl
  have b__law_order := F__law_order.binds (ps := ["one", "two"]) fun _ _ _ _ _ _ us hl => match us, hl with | [_, _], _ => rfl
  have b__law_holds := F__law_holds.binds (ps := ["mark", "one", "two"]) fun _ _ _ _ _ _ us hl => match us, hl with | [_, _, _], _ => rfl
  have b__law_two := F__law_two.binds (ps := ["sign", "one", "two"]) fun _ _ _ _ _ _ us hl => match us, hl with | [_, _, _], _ => rfl
  have b__law_worth := F__law_worth.binds (ps := ["prefix", "table"]) fun _ _ _ _ _ _ us hl => match us, hl with | [_, _], _ => rfl
  have b__law_prefix := F__law_prefix.binds (ps := ["bag", "parts", "size"]) fun _ _ _ _ _ _ us hl => match us, hl with | [_, _, _], _ => rfl
  have b__law_once := F__law_once.binds (ps := ["things"]) fun _ _ _ _ _ _ us hl => match us, hl with | [_], _ => rfl
  have b__law_named := F__law_named.binds (ps := ["prefix"]) fun _ _ _ _ _ _ us hl => match us, hl with | [_], _ => rfl
  have b__law_trio := F__law_trio.binds (ps := ["row"]) fun _ _ _ _ _ _ us hl => match us, hl with | [_], _ => rfl
  have b__law_uses := F__law_uses.binds (ps := ["row"]) fun _ _ _ _ _ _ us hl => match us, hl with | [_], _ => rfl
  have b__law_rising := F__law_rising.binds (ps := ["things"]) fun _ _ _ _ _ _ us hl => match us, hl with | [_], _ => rfl
  have b__law_every_mean := F__law_every_mean.binds (ps := ["span", "many"]) fun _ _ _ _ _ _ us hl => match us, hl with | [_, _], _ => rfl
  have b__law_every_row := F__law_every_row.binds (ps := ["some"]) fun _ _ _ _ _ _ us hl => match us, hl with | [_], _ => rfl
  have b__law_span := F__law_span.binds (ps := ["row", "spans", "many"]) fun _ _ _ _ _ _ us hl => match us, hl with | [_, _, _], _ => rfl
  have b__law_wholes := F__law_wholes.binds (ps := ["bag"]) fun _ _ _ _ _ _ us hl => match us, hl with | [_], _ => rfl
  have b__law_range := F__law_range.binds (ps := ["bag", "size"]) fun _ _ _ _ _ _ us hl => match us, hl with | [_, _], _ => rfl
  have b__law_like_fractions := F__law_like_fractions.binds (ps := ["got", "due"]) fun _ _ _ _ _ _ us hl => match us, hl with | [_, _], _ => rfl
  have b__law_means_right := F__law_means_right.binds (ps := ["bag"]) fun _ _ _ _ _ _ us hl => match us, hl with | [_], _ => rfl
  have b__law_rows_right := F__law_rows_right.binds (ps := ["bag"]) fun _ _ _ _ _ _ us hl => match us, hl with | [_], _ => rfl
  have b__law_row := F__law_row.binds (ps := ["bag", "spans", "many"]) fun _ _ _ _ _ _ us hl => match us, hl with | [_, _, _], _ => rfl
  have b__law_ranges_right := F__law_ranges_right.binds (ps := ["bag"]) fun _ _ _ _ _ _ us hl => match us, hl with | [_], _ => rfl
  have b_law := F_law.binds (ps := ["script"]) fun _ _ _ _ _ _ us hl => match us, hl with | [_], _ => rfl
  have b_fraction : Binds K d_fraction ["p", "q"] [] := by
    obtain ⟨ds, hv, hb⟩ := FunD.binds1 (ps := ["p", "q"]) FD_fraction 2 1 (List.cons_ne_nil _ _) rfl fun _ _ _ _ _ _ _ us its h1 h2 => match us, its, h1, h2 with | [_, _], [_], _, _ => ⟨_, rfl, rfl⟩
    cases hv
    exact hb
  have dfl_fraction : ∃ ds, Vals [.int 1] ds ∧ Binds K d_fraction ["p", "q"] ds := FunD.binds1 (ps := ["p", "q"]) FD_fraction 1 0 (List.cons_ne_nil _ _) rfl fun _ _ _ _ _ _ _ us its h1 h2 => match us, its, h1, h2 with | [_], [_], _, _ => ⟨_, rfl, rfl⟩
  have z_means : KBn K d_means ["values", "n"] 0 ["n", "values"] (fun _ ws => sw ws) (fun _ zs => sw zs) := kb_of F_means (n := 0) (ks := ["n", "values"]) (ps := ["values", "n"]) (fun _ ws => sw ws) (fun _ h => sw_rel h) fun _ _ _ _ _ _ us ws h1 h2 => match us, ws, h1, h2 with | [], [_, _], _, _ => rfl
  have z_rows_of_values : KBn K d_rows_of_values ["ranges"] 0 ["ranges"] (fun _ ws => ws) (fun _ zs => zs) := kb_of F_rows_of_values (n := 0) (ks := ["ranges"]) (ps := ["ranges"]) (fun _ ws => ws) (fun _ h => h) fun _ _ _ _ _ _ us ws h1 h2 => match us, ws, h1, h2 with | [], [_], _, _ => rfl
  have z_line_range : KBn K d_line_range ["line", "ranges", "n"] 0 ["n", "ranges", "line"] (fun _ ws => rot3 ws) (fun _ zs => rot3 zs) := kb_of F_line_range (n := 0) (ks := ["n", "ranges", "line"]) (ps := ["line", "ranges", "n"]) (fun _ ws => rot3 ws) (fun _ h => rot3_rel h) fun _ _ _ _ _ _ us ws h1 h2 => match us, ws, h1, h2 with | [], [_, _, _], _, _ => rfl
  obtain ⟨tFIG, hFIG⟩ := He.str_ok X G (d.fact 80 (f := .str "FIGURES" FIGs) rfl)
  obtain ⟨tLET, hLET⟩ := He.str_ok X G (d.fact 81 (f := .str "LETTERS" LETs) rfl)
  let T : Txt w K mg := {
    n_len := He.free_ok X G (d.fact 0 (f := .free "len") rfl)
    n_int := He.free_ok X G (d.fact 1 (f := .free "int") rfl)
    n_str := He.free_ok X G (d.fact 2 (f := .free "str") rfl)
    n_list := He.free_ok X G (d.fact 3 (f := .free "list") rfl)
    n_tuple := He.free_ok X G (d.fact 4 (f := .free "tuple") rfl)
    n_bool := He.free_ok X G (d.fact 5 (f := .free "bool") rfl)
    n_dict := He.free_ok X G (d.fact 6 (f := .free "dict") rfl)
    n_isinstance := He.free_ok X G (d.fact 7 (f := .free "isinstance") rfl)
    n_all := He.free_ok X G (d.fact 8 (f := .free "all") rfl)
    n_range := He.free_ok X G (d.fact 9 (f := .free "range") rfl)
    n_zip := He.free_ok X G (d.fact 10 (f := .free "zip") rfl)
    n_abs := He.free_ok X G (d.fact 11 (f := .free "abs") rfl)
    n_reversed := He.free_ok X G (d.fact 12 (f := .free "reversed") rfl)
    n_sorted := He.free_ok X G (d.fact 13 (f := .free "sorted") rfl)
    n_max := He.free_ok X G (d.fact 14 (f := .free "max") rfl)
    n_min := He.free_ok X G (d.fact 15 (f := .free "min") rfl)
    m_gcd := PySem.W.mg_of X G (He.eqO_ok e6)
    a_ZERO := He.ga K "ZERO"
    m_ZERO := He.glo_ok X G (d.fact 16 (f := .glo "ZERO") rfl)
    s_ZERO := fun H => He.tupB_ok e7 H
    a_ONE := He.ga K "ONE"
    m_ONE := He.glo_ok X G (d.fact 17 (f := .glo "ONE") rfl)
    s_ONE := fun H => He.tupB_ok e8 H
    t_FIGURES := tFIG
    m_FIGURES := hFIG
    t_LETTERS := tLET
    m_LETTERS := hLET
    a_RESERVED := He.ga K "RESERVED"
    m_RESERVED := He.glo_ok X G (d.fact 18 (f := .glo "RESERVED") rfl)
    s_RESERVED := fun H => He.tupB_ok e9 H
    a_GIVEN := He.ga K "GIVEN"
    m_GIVEN := He.glo_ok X G (d.fact 19 (f := .glo "GIVEN") rfl)
    s_GIVEN := fun H => He.tupB_ok e10 H
    a_RELATIONS := He.ga K "RELATIONS"
    m_RELATIONS := He.glo_ok X G (d.fact 20 (f := .glo "RELATIONS") rfl)
    s_RELATIONS := fun H => He.tupB_ok e11 H
    a_OPERANDS := He.ga K "OPERANDS"
    m_OPERANDS := He.glo_ok X G (d.fact 21 (f := .glo "OPERANDS") rfl)
    es_OPERANDS := esO
    n_es_OPERANDS := nO
    D_OPERANDS := hO
    g_OPERANDS := opG hO.at_ e12
    C_BadValue := bvC K
    f_BadValue := bvI K
    d_BadValue := d_init
    m_BadValue := He.glo_ok X G (d.fact 22 (f := .glo "BadValue") rfl)
    X_BadValue := oexB_ok e1
    i_BadValue := He.eqO_ok e14
    t_BadValue := of_decide_eq_true e13
    F_BadValue := F_init
    B_BadValue__init := b_init
    v_BadValue := He.noat_ok (d.fact 82 (f := .noat "BadValue" "value") rfl)
    c_BadValue := He.noat_ok (d.fact 83 (f := .noat "BadValue" "code") rfl)
    C_NoName := nnC K
    f_NoName := nnI K
    d_NoName := d_init2
    m_NoName := He.glo_ok X G (d.fact 23 (f := .glo "NoName") rfl)
    X_NoName := oelB_ok e2
    i_NoName := He.eqO_ok e16
    t_NoName := of_decide_eq_true e15
    F_NoName := F_init2
    B_NoName__init := b_init2
    v_NoName := He.noat_ok (d.fact 84 (f := .noat "NoName" "name") rfl)
    c_NoName := He.noat_ok (d.fact 85 (f := .noat "NoName" "code") rfl)
    C_Missing := He.ga K "Missing"
    m_Missing := He.glo_ok X G (d.fact 24 (f := .glo "Missing") rfl)
    e_NoName := He.exm_ok (d.fact 86 (f := .exm "NoName" "Missing" true) rfl)
    x_NoName := xfB_ok e3
    y_NoName := isxB_ok e4
    k_NoName := of_decide_eq_true e5
    a_is_number := He.ga K "is_number"
    d_is_number := d_is_number
    F_is_number := F_is_number
    m_is_number := He.glo_ok X G (d.fact 25 (f := .glo "is_number") rfl)
    B_is_number := b_is_number
    a_is_fraction := He.ga K "is_fraction"
    d_is_fraction := d_is_fraction
    F_is_fraction := F_is_fraction
    m_is_fraction := He.glo_ok X G (d.fact 26 (f := .glo "is_fraction") rfl)
    B_is_fraction := b_is_fraction
    a_fraction := He.ga K "fraction"
    d_fraction := d_fraction
    F_fraction := FD_fraction
    m_fraction := He.glo_ok X G (d.fact 27 (f := .glo "fraction") rfl)
    B_fraction := b_fraction
    a_plus := He.ga K "plus"
    d_plus := d_plus
    F_plus := F_plus
    m_plus := He.glo_ok X G (d.fact 28 (f := .glo "plus") rfl)
    B_plus := b_plus
    a_minus := He.ga K "minus"
    d_minus := d_minus
    F_minus := F_minus
    m_minus := He.glo_ok X G (d.fact 29 (f := .glo "minus") rfl)
    B_minus := b_minus
    a_times := He.ga K "times"
    d_times := d_times
    F_times := F_times
    m_times := He.glo_ok X G (d.fact 30 (f := .glo "times") rfl)
    B_times := b_times
    a_quotient := He.ga K "quotient"
    d_quotient := d_quotient
    F_quotient := F_quotient
    m_quotient := He.glo_ok X G (d.fact 31 (f := .glo "quotient") rfl)
    B_quotient := b_quotient
    a_below := He.ga K "below"
    d_below := d_below
    F_below := F_below
    m_below := He.glo_ok X G (d.fact 32 (f := .glo "below") rfl)
    B_below := b_below
    a_floor_of := He.ga K "floor_of"
    d_floor_of := d_floor_of
    F_floor_of := F_floor_of
    m_floor_of := He.glo_ok X G (d.fact 33 (f := .glo "floor_of") rfl)
    B_floor_of := b_floor_of
    a_merged := He.ga K "merged"
    d_merged := d_merged
    F_merged := F_merged
    m_merged := He.glo_ok X G (d.fact 34 (f := .glo "merged") rfl)
    B_merged := b_merged
    a_ascending := He.ga K "ascending"
    d_ascending := d_ascending
    F_ascending := F_ascending
    m_ascending := He.glo_ok X G (d.fact 35 (f := .glo "ascending") rfl)
    B_ascending := b_ascending
    a_is_word_name := He.ga K "is_word_name"
    d_is_word_name := d_is_word_name
    F_is_word_name := F_is_word_name
    m_is_word_name := He.glo_ok X G (d.fact 36 (f := .glo "is_word_name") rfl)
    B_is_word_name := b_is_word_name
    a_is_own_name := He.ga K "is_own_name"
    d_is_own_name := d_is_own_name
    F_is_own_name := F_is_own_name
    m_is_own_name := He.glo_ok X G (d.fact 37 (f := .glo "is_own_name") rfl)
    B_is_own_name := b_is_own_name
    a_is_name := He.ga K "is_name"
    d_is_name := d_is_name
    F_is_name := F_is_name
    m_is_name := He.glo_ok X G (d.fact 38 (f := .glo "is_name") rfl)
    B_is_name := b_is_name
    a_names_in := He.ga K "names_in"
    d_names_in := d_names_in
    F_names_in := F_names_in
    m_names_in := He.glo_ok X G (d.fact 39 (f := .glo "names_in") rfl)
    B_names_in := b_names_in
    a_truth := He.ga K "truth"
    d_truth := d_truth
    F_truth := F_truth
    m_truth := He.glo_ok X G (d.fact 40 (f := .glo "truth") rfl)
    B_truth := b_truth
    a_compared := He.ga K "compared"
    d_compared := d_compared
    F_compared := F_compared
    m_compared := He.glo_ok X G (d.fact 41 (f := .glo "compared") rfl)
    B_compared := b_compared
    a_whole_quotient := He.ga K "whole_quotient"
    d_whole_quotient := d_whole_quotient
    F_whole_quotient := F_whole_quotient
    m_whole_quotient := He.glo_ok X G (d.fact 42 (f := .glo "whole_quotient") rfl)
    B_whole_quotient := b_whole_quotient
    a_value_of_two := He.ga K "value_of_two"
    d_value_of_two := d_value_of_two
    F_value_of_two := F_value_of_two
    m_value_of_two := He.glo_ok X G (d.fact 43 (f := .glo "value_of_two") rfl)
    B_value_of_two := b_value_of_two
    a_value_of_word := He.ga K "value_of_word"
    d_value_of_word := d_value_of_word
    F_value_of_word := F_value_of_word
    m_value_of_word := He.glo_ok X G (d.fact 44 (f := .glo "value_of_word") rfl)
    B_value_of_word := b_value_of_word
    a_evaluate := He.ga K "evaluate"
    d_evaluate := d_evaluate
    F_evaluate := F_evaluate
    m_evaluate := He.glo_ok X G (d.fact 45 (f := .glo "evaluate") rfl)
    B_evaluate := b_evaluate
    a_is_look := He.ga K "is_look"
    d_is_look := d_is_look
    F_is_look := F_is_look
    m_is_look := He.glo_ok X G (d.fact 46 (f := .glo "is_look") rfl)
    B_is_look := b_is_look
    a_asked := He.ga K "asked"
    d_asked := d_asked
    F_asked := F_asked
    m_asked := He.glo_ok X G (d.fact 47 (f := .glo "asked") rfl)
    B_asked := b_asked
    a_line_names := He.ga K "line_names"
    d_line_names := d_line_names
    F_line_names := F_line_names
    m_line_names := He.glo_ok X G (d.fact 48 (f := .glo "line_names") rfl)
    B_line_names := b_line_names
    a_means := He.ga K "means"
    d_means := d_means
    F_means := F_means
    m_means := He.glo_ok X G (d.fact 49 (f := .glo "means") rfl)
    B_means := b_means
    a_rows_of_values := He.ga K "rows_of_values"
    d_rows_of_values := d_rows_of_values
    F_rows_of_values := F_rows_of_values
    m_rows_of_values := He.glo_ok X G (d.fact 50 (f := .glo "rows_of_values") rfl)
    B_rows_of_values := b_rows_of_values
    a_line_rows := He.ga K "line_rows"
    d_line_rows := d_line_rows
    F_line_rows := F_line_rows
    m_line_rows := He.glo_ok X G (d.fact 51 (f := .glo "line_rows") rfl)
    B_line_rows := b_line_rows
    a_results := He.ga K "results"
    d_results := d_results
    F_results := F_results
    m_results := He.glo_ok X G (d.fact 52 (f := .glo "results") rfl)
    B_results := b_results
    a_line_range := He.ga K "line_range"
    d_line_range := d_line_range
    F_line_range := F_line_range
    m_line_range := He.glo_ok X G (d.fact 53 (f := .glo "line_range") rfl)
    B_line_range := b_line_range
    a__law_bag := He.ga K "_law_bag"
    d__law_bag := d__law_bag
    F__law_bag := F__law_bag
    m__law_bag := He.glo_ok X G (d.fact 54 (f := .glo "_law_bag") rfl)
    B__law_bag := b__law_bag
    a__law_draw := He.ga K "_law_draw"
    d__law_draw := d__law_draw
    F__law_draw := F__law_draw
    m__law_draw := He.glo_ok X G (d.fact 55 (f := .glo "_law_draw") rfl)
    B__law_draw := b__law_draw
    a__law_of := He.ga K "_law_of"
    d__law_of := d__law_of
    F__law_of := F__law_of
    m__law_of := He.glo_ok X G (d.fact 56 (f := .glo "_law_of") rfl)
    B__law_of := b__law_of
    a__law_like := He.ga K "_law_like"
    d__law_like := d__law_like
    F__law_like := F__law_like
    m__law_like := He.glo_ok X G (d.fact 57 (f := .glo "_law_like") rfl)
    B__law_like := b__law_like
    a__law_low := He.ga K "_law_low"
    d__law_low := d__law_low
    F__law_low := F__law_low
    m__law_low := He.glo_ok X G (d.fact 58 (f := .glo "_law_low") rfl)
    B__law_low := b__law_low
    a__law_order := He.ga K "_law_order"
    d__law_order := d__law_order
    F__law_order := F__law_order
    m__law_order := He.glo_ok X G (d.fact 59 (f := .glo "_law_order") rfl)
    B__law_order := b__law_order
    a__law_holds := He.ga K "_law_holds"
    d__law_holds := d__law_holds
    F__law_holds := F__law_holds
    m__law_holds := He.glo_ok X G (d.fact 60 (f := .glo "_law_holds") rfl)
    B__law_holds := b__law_holds
    a__law_two := He.ga K "_law_two"
    d__law_two := d__law_two
    F__law_two := F__law_two
    m__law_two := He.glo_ok X G (d.fact 61 (f := .glo "_law_two") rfl)
    B__law_two := b__law_two
    a__law_worth := He.ga K "_law_worth"
    d__law_worth := d__law_worth
    F__law_worth := F__law_worth
    m__law_worth := He.glo_ok X G (d.fact 62 (f := .glo "_law_worth") rfl)
    B__law_worth := b__law_worth
    a__law_prefix := He.ga K "_law_prefix"
    d__law_prefix := d__law_prefix
    F__law_prefix := F__law_prefix
    m__law_prefix := He.glo_ok X G (d.fact 63 (f := .glo "_law_prefix") rfl)
    B__law_prefix := b__law_prefix
    a__law_once := He.ga K "_law_once"
    d__law_once := d__law_once
    F__law_once := F__law_once
    m__law_once := He.glo_ok X G (d.fact 64 (f := .glo "_law_once") rfl)
    B__law_once := b__law_once
    a__law_named := He.ga K "_law_named"
    d__law_named := d__law_named
    F__law_named := F__law_named
    m__law_named := He.glo_ok X G (d.fact 65 (f := .glo "_law_named") rfl)
    B__law_named := b__law_named
    a__law_trio := He.ga K "_law_trio"
    d__law_trio := d__law_trio
    F__law_trio := F__law_trio
    m__law_trio := He.glo_ok X G (d.fact 66 (f := .glo "_law_trio") rfl)
    B__law_trio := b__law_trio
    a__law_uses := He.ga K "_law_uses"
    d__law_uses := d__law_uses
    F__law_uses := F__law_uses
    m__law_uses := He.glo_ok X G (d.fact 67 (f := .glo "_law_uses") rfl)
    B__law_uses := b__law_uses
    a__law_rising := He.ga K "_law_rising"
    d__law_rising := d__law_rising
    F__law_rising := F__law_rising
    m__law_rising := He.glo_ok X G (d.fact 68 (f := .glo "_law_rising") rfl)
    B__law_rising := b__law_rising
    a__law_every_mean := He.ga K "_law_every_mean"
    d__law_every_mean := d__law_every_mean
    F__law_every_mean := F__law_every_mean
    m__law_every_mean := He.glo_ok X G (d.fact 69 (f := .glo "_law_every_mean") rfl)
    B__law_every_mean := b__law_every_mean
    a__law_every_row := He.ga K "_law_every_row"
    d__law_every_row := d__law_every_row
    F__law_every_row := F__law_every_row
    m__law_every_row := He.glo_ok X G (d.fact 70 (f := .glo "_law_every_row") rfl)
    B__law_every_row := b__law_every_row
    a__law_span := He.ga K "_law_span"
    d__law_span := d__law_span
    F__law_span := F__law_span
    m__law_span := He.glo_ok X G (d.fact 71 (f := .glo "_law_span") rfl)
    B__law_span := b__law_span
    a__law_wholes := He.ga K "_law_wholes"
    d__law_wholes := d__law_wholes
    F__law_wholes := F__law_wholes
    m__law_wholes := He.glo_ok X G (d.fact 72 (f := .glo "_law_wholes") rfl)
    B__law_wholes := b__law_wholes
    a__law_range := He.ga K "_law_range"
    d__law_range := d__law_range
    F__law_range := F__law_range
    m__law_range := He.glo_ok X G (d.fact 73 (f := .glo "_law_range") rfl)
    B__law_range := b__law_range
    a__law_like_fractions := He.ga K "_law_like_fractions"
    d__law_like_fractions := d__law_like_fractions
    F__law_like_fractions := F__law_like_fractions
    m__law_like_fractions := He.glo_ok X G (d.fact 74 (f := .glo "_law_like_fractions") rfl)
    B__law_like_fractions := b__law_like_fractions
    a__law_means_right := He.ga K "_law_means_right"
    d__law_means_right := d__law_means_right
    F__law_means_right := F__law_means_right
    m__law_means_right := He.glo_ok X G (d.fact 75 (f := .glo "_law_means_right") rfl)
    B__law_means_right := b__law_means_right
    a__law_rows_right := He.ga K "_law_rows_right"
    d__law_rows_right := d__law_rows_right
    F__law_rows_right := F__law_rows_right
    m__law_rows_right := He.glo_ok X G (d.fact 76 (f := .glo "_law_rows_right") rfl)
    B__law_rows_right := b__law_rows_right
    a__law_row := He.ga K "_law_row"
    d__law_row := d__law_row
    F__law_row := F__law_row
    m__law_row := He.glo_ok X G (d.fact 77 (f := .glo "_law_row") rfl)
    B__law_row := b__law_row
    a__law_ranges_right := He.ga K "_law_ranges_right"
    d__law_ranges_right := d__law_ranges_right
    F__law_ranges_right := F__law_ranges_right
    m__law_ranges_right := He.glo_ok X G (d.fact 78 (f := .glo "_law_ranges_right") rfl)
    B__law_ranges_right := b__law_ranges_right
    a_law := He.ga K "law"
    d_law := d_law
    F_law := F_law
    m_law := He.glo_ok X G (d.fact 79 (f := .glo "law") rfl)
    B_law := b_law
    D_fraction := dfl_fraction
    c__law_rising := He.codeOf K ("_law_rising", none)
    P__law_rising := tabP K "_law_rising"
    k__law_rising := code_ofD FD__law_rising
    Z_means := z_means
    Z_rows_of_values := z_rows_of_values
    Z_line_range := z_line_range
  }
  have ef : f = He.ga K "law" := by
    have e := hfa.symm.trans T.m_law
    cases e
    rfl
  have at_ : ∀ p ∈ T.cs, ∃ x ∈ tfL, p = He.cT K x := fun p hp => by
    have hp : p ∈ [He.cT K ("_law_rising", none)] := hp
    simp only [List.mem_cons, List.mem_nil_iff, or_false] at hp
    subst hp
    exact ⟨_, by simp [tfL], rfl⟩
  refine ⟨d_law, T.cs, sp_law K T.TL, fun p hp => ?_, fun p hp => ?_, fun p hp => ?_, fun s u => FunD.bindsA (ps := ["script"]) FD_law (fun _ _ _ _ _ _ us hl => match us, hl with | [_], _ => rfl) s [u] rfl, fun H a ns hl _ hT hS => ⟨a, ns, rfl, hS, hl, fun p hp => ?_, fun _ => rfl⟩, fun base _ _ hB => ?_⟩
  · obtain ⟨x, hx, rfl⟩ := at_ p hp
    exact c.empty x hx
  · obtain ⟨x, hx, rfl⟩ := at_ p hp
    exact c.out x hx
  · obtain ⟨x, hx, rfl⟩ := at_ p hp
    exact PySem.W.codeHd_of_K X (c.hd x hx)
  · have hp : p ∈ [(T.P__law_rising, lamQ "_law_rising")] := hp
    simp only [List.mem_cons, List.mem_nil_iff, or_false] at hp
    subst hp
    exact LamX.TabS.nil (hT _ (T.cs1))
  · rw [ef]
    exact ok_law (P := P) (base := base) T hB
end LK

set_option Elab.async false
set_option linter.all false
set_option maxRecDepth 100000
namespace LK
open PySem PySem.Spec PyProof.Rows L2
/-- what the head's facts tell, from what it has laid down -/
theorem says_of {K : Params → PySem.W.Frag} {as : List Addr} {e : ∀ P, as = (K P).map (·.1)} {ts : List Addr} {w : World} {h : Heap} (Y : (PySem.W.kmHook K as e ts).says w h) (ht : He.obsT faL fnL tsL (K w.params) = He.valT fnL tsL w) (hm : exB (K w.params) = true)
    (hh : (tfL.all fun p => PySem.W.codeHdIn (K w.params) (He.cT (K w.params) p).1 (He.cT (K w.params) p).2) = true) (ho : (tfL.all fun p => ((K w.params).lookup (He.cT (K w.params) p).2).isNone) = true) (he : (tfL.all fun p => decide ((He.cT (K w.params) p).2 ∈ ts)) = true) :
    (K w.params).In h ∧ He.SaysX faL fnL tsL tfL exB w h (K w.params) :=
  ⟨PySem.W.km_in_of Y, ht, hm, fun p hp => List.all_eq_true.mp hh p hp, fun p hp => Option.isNone_iff_eq_none.mp (List.all_eq_true.mp ho p hp), fun p hp => PySem.W.km_tabs_of Y _ (of_decide_eq_true (List.all_eq_true.mp he p hp))⟩
end LK

open PySem PySem.W PySem.Calls PyProof.Rows
set_option maxRecDepth 100000 in
set_option maxHeartbeats 0 in
theorem PySem.Challenge.cw_lookingnets_k06_means_and_rows_holds : PySem.Challenge.rw_lookingnets_k06_means_and_rows.Holds := by
  w_on; o_law; k_head; (case hw => w_witness2)
  refine LamX.walk_ofTsE (l := PySem.Challenge.rw_lookingnets_k06_means_and_rows) (n := 63) (k := 19) (x := "script") (CX := fun _ => L2.CX0) rfl (by decide) (by kernel_rfl) ⟨rfl, by decide, by decide⟩ ?F (fun _ _ _ _ _ z => z)
  intro w mg fa h Y G hmg0
  have hmg : mg ("law" : PySem.Str) = some (.ref fa) := hmg0
  have q := LK.says_of Y
    (by kernel_rfl)
    (by kernel_rfl)
    (by kernel_rfl)
    (by kernel_rfl)
    (by kernel_rfl)
  exact ⟨_, q.1, LK.facts q.1 G hmg q.2⟩
