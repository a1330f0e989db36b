import PyProof.Rows.All
import Wide.All
import OpenK.AllK
import Wide.FinOn
import HandS.ForMost
import HandS.IsInst
import HandS.Zip
import HandS.TupAny
import HandS.Style
import HandS.More
import HandS.Defaults
import HandS.Walk
import KE.GoesMore
import HandS.Deep
import HandS.TupSets
import HandS.Conv
import HandS.OwnEq
import PyProof.InstNe
import HandS.MakeKwOnly
import HandS.Property
import HandS.FStr
import HandS.ExcInit
import HandS.Gcd
import HandS.Wide
import HandS.WordsExc
import HandS.TryOnly
import HandS.HeadHook4
import HandS.HeadWalk
import HandS.Head2
import HandS.Head3
import PySem.Challenge.RW_lookingnets_k14_nets_told
set_option Elab.async false
set_option linter.all false
set_option maxRecDepth 100000
namespace LK
open PySem PySem.Spec PyProof.Rows L2
/-! ### heaps but for one object -/
def hb (H : Hp) (b : Addr) : Hp := fun a => if a = b then none else H a
theorem hb_ne {H : Hp} {a b : Addr} (h : a ≠ b) : hb H b a = H a := if_neg h
theorem hb_same {H : Hp} {b : Addr} : hb H b b = none := if_pos rfl
theorem hb_some {H : Hp} {a b : Addr} {o : HO} (h : hb H b a = some o) : a ≠ b ∧ H a = some o := by
  unfold hb at h
  split at h
  · cases h
  · exact ⟨by assumption, h⟩
theorem hb_le (H : Hp) (b : Addr) : Same (hb H b) H := fun _ _ h => (hb_some h).2
/-- all but b stays -/
abbrev Kp (b : Addr) (H H' : Hp) : Prop := Same (hb H b) (hb H' b)
theorem Kp.of {b : Addr} {H H' : Hp} (s : Same H H') : Kp b H H' := fun a o h => by
  obtain ⟨h1, h2⟩ := hb_some h
  rw [hb_ne h1]
  exact s _ _ h2
theorem Kp.refl (b : Addr) (H : Hp) : Kp b H H := Same.refl _
theorem Kp.upd {b : Addr} {H : Hp} {o : HO} : Kp b H (upd H b o) := fun a u h => by
  obtain ⟨h1, h2⟩ := hb_some h
  rw [hb_ne h1, upd_ne h1]
  exact h2
theorem Kp.hd {b a : Addr} {H H' : Hp} {o : HO} (k : Kp b H H') (h : H a = some o) (n : a ≠ b) : H' a = some o := (hb_some (k a o (by rw [hb_ne n]; exact h))).2
/-- a new object -/
theorem al {H : Hp} {R : Addr → Hp → Prop} {o : HO} (h : ∀ p H1, Same H H1 → H1 p = some o → H p = none → R p H1) : ∀ p, H p = none → R p (upd H p o) := fun p hp =>
  h p _ (fun a u e => by rw [upd_ne (ne_of_none e hp)]; exact e) upd_same hp
theorem same_upd {H : Hp} {p : Addr} {o : HO} (hp : H p = none) : Same H (upd H p o) := fun a u e => by rw [upd_ne (ne_of_none e hp)]; exact e
theorem at_ofN {α : Type} {xs : List α} {z : Int} {j : Nat} {v : α} (e : z = (j : Int)) (h : xs[j]? = some v) : atI xs z = some v := by
  subst e
  exact atI_nat h
/-! ### the bag of a law -/
def Bag (N : Nat) (H : Hp) (b c : Addr) : Prop := ∃ (cells : List Int) (i g m n : Int), H b = some (.lst [.ref c, .int i, .int g, .int m, .int n]) ∧ H c = some (.lst (cells.map V.int)) ∧ c ≠ b ∧ 0 ≤ i ∧ 0 ≤ m ∧ m < 2305843009213693951 ∧ 0 ≤ n ∧ n + N ≤ 1099511627776
theorem Bag.le {N M : Nat} {H : Hp} {b c : Addr} (B : Bag N H b c) (h : M ≤ N) : Bag M H b c := by
  obtain ⟨cells, i, g, m, n, h1, h2, h3, h4, h5, h6, h7, h8⟩ := B
  exact ⟨cells, i, g, m, n, h1, h2, h3, h4, h5, h6, h7, by omega⟩
theorem Bag.same {N : Nat} {H H' : Hp} {b c : Addr} (B : Bag N H b c) (s : Same H H') : Bag N H' b c := by
  obtain ⟨cells, i, g, m, n, h1, h2, h3⟩ := B
  exact ⟨cells, i, g, m, n, s _ _ h1, s _ _ h2, h3⟩
theorem Bag.at {N : Nat} {H : Hp} {b c : Addr} (B : Bag N H b c) : ∃ xs, H b = some (.lst xs) := by
  obtain ⟨cells, i, g, m, n, h1, _⟩ := B
  exact ⟨_, h1⟩
theorem Bag.at2 {N : Nat} {H : Hp} {b c : Addr} (B : Bag N H b c) : ∃ xs, H c = some (.lst xs) := by
  obtain ⟨cells, i, g, m, n, h1, h2, _⟩ := B
  exact ⟨_, h2⟩
/-- another object is stored -/
theorem Bag.upd {N : Nat} {H : Hp} {b c p : Addr} {o : HO} (B : Bag N H b c) (n1 : b ≠ p) (n2 : c ≠ p) : Bag N (upd H p o) b c := by
  obtain ⟨cells, i, g, m, n, h1, h2, h3⟩ := B
  exact ⟨cells, i, g, m, n, by rw [upd_ne n1]; exact h1, by rw [upd_ne n2]; exact h2, h3⟩
/-- a new object beside a bag -/
theorem alB {N : Nat} {H : Hp} {R : Addr → Hp → Prop} {o : HO} {b c : Addr} (B : Bag N H b c) (h : ∀ p H1, Kp b H H1 → Bag N H1 b c → hb H1 b p = some o → Same H H1 → H p = none → R p H1) : ∀ p, H p = none → R p (upd H p o) :=
  al fun p H1 s h1 h0 => h p H1 (Kp.of s) (B.same s) (by
    have n : p ≠ b := fun e => by
      obtain ⟨xs, q⟩ := B.at
      rw [e, q] at h0; cases h0
    rw [hb_ne n]; exact h1) s h0
/-! ### data -/
theorem Same.seqT {K : PySem.W.Frag} {H H' : Hp} {a : Addr} {xs : List V} (e : Same H H') (h : SqT K H a xs) : SqT K H' a xs := by
  rcases h with (h | ⟨o, h⟩) | h
  · exact .inl (.inl (e _ _ h))
  · exact .inl (.inr ⟨o, e _ _ h⟩)
  · exact .inr h
mutual
theorem dp_same {K : PySem.W.Frag} {H H' : Hp} (e : Same H H') : ∀ {d : PyData} {v : V}, Dp K H v d → Dp K H' v d
  | .none, _, h => by cases h; exact .non
  | .bool _, _, h => by cases h; exact .bl _
  | .int _, _, h => by cases h; exact .int _
  | .str _, _, h => by cases h; exact .str _
  | .list ds, _, h => by cases h with | lst a b => exact .lst (L2.Same.seq e a) (dpa_same e b)
  | .tuple ds, _, h => by cases h with | tup a b => exact .tup (Same.seqT e a) (dpa_same e b)
  | .dict _, _, h => by cases h
theorem dpa_same {K : PySem.W.Frag} {H H' : Hp} (e : Same H H') : ∀ {ds : List PyData} {vs : List V}, DpAll K H vs ds → DpAll K H' vs ds
  | [], _, h => by cases h; exact .nil
  | _ :: _, _, h => by cases h with | cons a b => exact .cons (dp_same e a) (dpa_same e b)
end
end LK
namespace LK
open PySem PySem.Spec PyProof.Rows L2
section
variable {CX : CXT} {P : Program} {w : World} {K : PySem.W.Frag} {mg : Str → Option Value} {base : Heap} {N : List Str} {q : Str} {sc : Scope} {f : Addr} {cd : Value} {A : Around} {outer : List Env} {s : Shared} {H : Hp} {E : XK}
theorem cxK : (cxOf CX P w K mg base N q sc f cd A outer s H E).K = K := rfl
theorem cxNK : (cxOf CX P w K mg base N q sc f cd A outer s H E).nox.K = K := rfl
theorem cxW : (cxOf CX P w K mg base N q sc f cd A outer s H E).w = w := rfl
end
theorem cut_seq {t u : TS} {D : Ends} {σ : L2.St} {H : Hp} (Mid : L2.St → Hp → Prop) (h1 : ∀ N : L2.St → Hp → Prop, (∀ σ' H', Mid σ' H' → N σ' H') → t { D with nx := N } σ H) (h2 : ∀ σ' H', Mid σ' H' → u D σ' H') : tSeq t u D σ H := h1 _ h2
end LK
namespace LK
open PySem PySem.Spec PyProof.Rows L2
theorem seq_op {t u : TS} {D : Ends} {σ : L2.St} {H : Hp} (h : ∀ N : L2.St → Hp → Prop, (∀ σ' H', u D σ' H' → N σ' H') → t { D with nx := N } σ H) : tSeq t u D σ H := h _ fun _ _ z => z
end LK
namespace LK
open PySem PySem.Spec PyProof.Rows L2
section
variable {X : Cx}
theorem opr_imp {f : Value → Value → Sem Value} {r r' : R2} (h : OpR X f r) (i : ∀ x y H Q, r' x y H Q → r x y H Q) : OpR X f r' := fun pins s σ H x y v u Q I rx ry q => h pins s σ H x y v u Q I rx ry (i _ _ _ _ q)
theorem cr_imp {f : Value} {r r' : List V → Hp → VK → Prop} (h : CallR X f r) (i : ∀ x H Q, r' x H Q → r x H Q) : CallR X f r' := fun pins s σ H xs us Q I rx q => h pins s σ H xs us Q I rx (i _ _ _ q)
theorem op_eqI : OpR X (compareOp .Eq) (rI0 fun i j => .bl (decide (i = j))) := opr_imp op_eq fun x y H Q h => by
  obtain ⟨i, j, rfl, rfl, q⟩ := h
  refine ⟨rfl, ?_⟩
  rw [L2.dec_int, Bool.beq_eq_decide_eq]; exact q
theorem op_neI : OpR X (compareOp .NotEq) (rI0 fun i j => .bl (!decide (i = j))) := opr_imp op_ne fun x y H Q h => by
  obtain ⟨i, j, rfl, rfl, q⟩ := h
  refine ⟨rfl, ?_⟩
  rw [L2.dec_int, Bool.beq_eq_decide_eq]; exact q
def rS0 (g : Str → Str → V) : R2 := fun x y H Q => ∃ i j, x = .str i ∧ y = .str j ∧ Q (g i j) H
theorem op_eqS : OpR X (compareOp .Eq) (rS0 fun i j => .bl (decide (i = j))) := opr_imp op_eq fun x y H Q h => by
  obtain ⟨i, j, rfl, rfl, q⟩ := h
  refine ⟨rfl, ?_⟩
  have e : decide (V.str i = V.str j) = decide (i = j) := by
    by_cases c : i = j
    · subst c; simp
    · rw [decide_eq_false c, decide_eq_false (fun z => c (V.str.inj z))]
  rw [e]; exact q
theorem op_neS : OpR X (compareOp .NotEq) (rS0 fun i j => .bl (!decide (i = j))) := opr_imp op_ne fun x y H Q h => by
  obtain ⟨i, j, rfl, rfl, q⟩ := h
  refine ⟨rfl, ?_⟩
  have e : decide (V.str i = V.str j) = decide (i = j) := by
    by_cases c : i = j
    · subst c; simp
    · rw [decide_eq_false c, decide_eq_false (fun z => c (V.str.inj z))]
  rw [e]; exact q
def rB0 (g : Bool → Bool → V) : R2 := fun x y H Q => ∃ i j, x = .bl i ∧ y = .bl j ∧ Q (g i j) H
theorem op_eqB : OpR X (compareOp .Eq) (rB0 fun i j => .bl (i == j)) := opr_imp op_eq fun x y H Q h => by
  obtain ⟨i, j, rfl, rfl, q⟩ := h
  refine ⟨rfl, ?_⟩
  rw [L2.dec_bl]; exact q
theorem op_neB : OpR X (compareOp .NotEq) (rB0 fun i j => .bl (!(i == j))) := opr_imp op_ne fun x y H Q h => by
  obtain ⟨i, j, rfl, rfl, q⟩ := h
  refine ⟨rfl, ?_⟩
  rw [L2.dec_bl]; exact q
/-- int(n) of an int -/
theorem call_intI : CallR X (.type "int") (fun xs H Q => ∃ i, xs = [.int i] ∧ Q (.int i) H) := cr_imp call_int1 fun xs H Q h => .inl h
end
end LK
namespace LK
open PySem PySem.Spec PyProof.Rows L2
/-! ### isinstance of data -/
def tyN : PyData → String
  | .none => "NoneType" | .bool _ => "bool" | .int _ => "int" | .str _ => "str" | .list _ => "list" | .tuple _ => "tuple" | .dict _ => "dict"
def isTy (T : String) : PyData → Bool
  | .none => false | .bool _ => T == "bool" || T == "int" | .int _ => T == "int" | .str _ => T == "str" | .list _ => T == "list" | .tuple _ => T == "tuple" | .dict _ => false
theorem dp_ty {K : PySem.W.Frag} {H : Hp} {v : V} {d : PyData} (h : Dp K H v d) : TyX K H v (.type (tyN d)) := by
  cases h with
  | non => exact .base .non
  | bl b => exact .base (.bl b)
  | int i => exact .base (.int i)
  | str x => exact .base (.str x)
  | lst hs _ =>
    rcases hs with (h | ⟨o, h⟩) | ⟨o, its, n, h1, h2, _⟩
    · exact .base (.lst h)
    · exact .base (.frz h)
    · exact .kList h1 h2
  | tup hs _ =>
    rcases hs with (h | ⟨o, h⟩) | ⟨o, its, n, h1, h2, _⟩
    · exact .base (.tup h)
    · exact .fTuple h
    · exact .kTuple h1 h2
theorem dp_kit {K : PySem.W.Frag} {H : Hp} {v : V} {d : PyData} (h : Dp K H v d) {T : String} (hT : T ∈ ["str", "int", "bool", "list", "tuple"]) : PySem.W.kitOne K (.type (tyN d)) (.type T) = some (isTy T d) := by
  refine kit_ty ?_
  simp only [List.mem_cons, List.mem_nil_iff, or_false] at hT
  cases h <;> rcases hT with rfl | rfl | rfl | rfl | rfl <;> (simp only [tyN, isTy]; decide +kernel)
section
variable {X : Cx}
theorem call_isiD : CallR X (.builtin "isinstance") (fun xs H Q => ∃ x T d, xs = [x, .ty T] ∧ Dp X.K H x d ∧ T ∈ ["str", "int", "bool", "list", "tuple"] ∧ Q (.bl (isTy T d)) H) := cr_imp call_isi fun xs H Q h => by
  obtain ⟨x, T, d, rfl, hd, hT, q⟩ := h
  exact ⟨x, .ty T, _, _, _, rfl, .ty T, dp_ty hd, dp_kit hd hT, q⟩
theorem call_isiDT : CallR X (.builtin "isinstance") (fun xs H Q => ∃ x tp d, xs = [x, .ref tp] ∧ H tp = some (.tup [.ty "list", .ty "tuple"]) ∧ Dp X.K H x d ∧ Q (.bl (isTy "list" d || isTy "tuple" d)) H) := cr_imp call_isiT fun xs H Q h => by
  obtain ⟨x, tp, d, rfl, ht, hd, q⟩ := h
  refine ⟨x, tp, _, .type (tyN d), [.type "list", .type "tuple"], _, rfl, ht, .cons (.ty _) (.cons (.ty _) .nil), dp_ty hd, ?_, q⟩
  have h1 := dp_kit hd (T := "list") (by simp)
  have h2 := dp_kit hd (T := "tuple") (by simp)
  unfold PySem.W.kitAny PySem.W.kitAny PySem.W.kitAny
  rw [h1, h2]
  cases isTy "list" d <;> cases isTy "tuple" d <;> rfl
/-- len of data -/
theorem call_lenD : CallR X (.builtin "len") (fun xs H Q => ∃ x d, xs = [x] ∧ Dp X.K H x d ∧ ((∃ ds, (d = .list ds ∨ d = .tuple ds) ∧ Q (.int ds.length) H) ∨ ∃ z, d = .str z ∧ z.length ≤ sizeLine ∧ Q (.int z.length) H)) := cr_imp call_len fun xs H Q h => by
  obtain ⟨x, d, rfl, hd, ⟨ds, e, q⟩ | ⟨z, rfl, hz, q⟩⟩ := h
  · have ln : ∀ {vs : List V} {es : List PyData}, DpAll X.K H vs es → vs.length = es.length := by
      intro vs es h
      induction es generalizing vs with
      | nil => cases h; rfl
      | cons a r ih => cases h with | cons _ h2 => simp [ih h2]
    rcases e with rfl | rfl
    · cases hd with
      | lst hs ha => exact ⟨_, ds.length, rfl, .inl ⟨_, hs, (ln ha).symm⟩, q⟩
    · cases hd with
      | tup hs ha => exact ⟨_, ds.length, rfl, .inr ⟨_, hs, (ln ha).symm⟩, q⟩
  · cases hd
    exact ⟨_, z.length, rfl, ⟨hz, rfl⟩, q⟩
/-- t[lo:hi] of a tuple: some tuple of that content -/
def rSlU (K : PySem.W.Frag) : V → Option Int → Option Int → Hp → VK → Prop := fun x lo hi H Q => ∃ a xs, x = .ref a ∧ SqT K H a xs ∧ ∀ q H', Same H H' → SqT K H' q (cutV xs lo hi) → Q (.ref q) H'
theorem sl_tupU : SlR X (rSlU X.K) := by
  intro pins s σ H x v vl vu lo hi sl Q I rx hs pl pu h
  obtain ⟨a, xs, rfl, hx, q⟩ := h
  refine sl_tupA pins s σ H _ v vl vu lo hi sl Q I rx hs pl pu ⟨a, xs, rfl, hx, fun hw => q a H (Same.refl H) ?_, fun hw p hp => q p _ (fun b o e => ?_) (.inl (.inl upd_same))⟩
  · have e : cutV xs lo hi = xs := by
      unfold cutV
      rw [hw.1, hw.2]
      simp
    rw [e]; exact hx
  · rw [upd_ne (ne_of_none e hp)]; exact e
def rCatU (K : PySem.W.Frag) : R2 := fun x y H Q => ∃ a b xs ys, x = .ref a ∧ y = .ref b ∧ SqT K H a xs ∧ SqT K H b ys ∧ xs.length + ys.length ≤ sizeLine ∧ ∀ q H', Same H H' → SqT K H' q (xs ++ ys) → Q (.ref q) H'
theorem op_catU : OpR X (binaryOp .Add) (rCatU X.K) := opr_imp op_catA fun x y H Q h => by
  obtain ⟨a, b, xs, ys, rfl, rfl, ha, hb, hz, q⟩ := h
  refine ⟨a, b, xs, ys, rfl, rfl, ha, hb, hz, fun e => q b H (Same.refl H) ?_, fun _ e => q a H (Same.refl H) ?_, fun _ _ p hp => q p _ (fun c o e => ?_) (.inl (.inl upd_same))⟩
  · subst e; exact hb
  · subst e; rw [List.append_nil]; exact ha
  · rw [upd_ne (ne_of_none e hp)]; exact e
/-- tuple(x) of a list or tuple -/
theorem call_tupleU : CallR X (.type "tuple") (fun xs H Q => ∃ p ys, xs = [.ref p] ∧ (SqL X.K H p ys ∨ SqT X.K H p ys) ∧ ∀ q H', Same H H' → SqT X.K H' q ys → Q (.ref q) H') := cr_imp call_tuple_of fun xs H Q h => by
  obtain ⟨p, ys, rfl, h, q⟩ := h
  refine ⟨p, ys, rfl, ?_⟩
  rcases h with h | h
  · exact .inl ⟨h, fun l hl => q l _ (fun c o e => by rw [upd_ne (ne_of_none e hl)]; exact e) (.inl (.inl upd_same))⟩
  · exact .inr ⟨h, q p H (Same.refl H) h⟩
end
/-! ### calls by keywords alone -/
def tCallZ (m : Nat) (sp : Sp) (gV : List V → List V) (E : XK) (tk : TA) : TE := fun σ H Q => tk σ H fun zs H2 => zs.length = m ∧ sp (gV zs) H2 Q E
section
variable {X : Cx} {CX : CXT} {k : Nat} {f : Addr} {fd : FuncData} {ps ks : List Str} {sp : Sp} {E : XK} {x : Str} {p pos : Pos} {kws : List Keyword} {tk : TA} {g : List Value → List Value} {gV : List V → List V}
/-- f(k = v, ..) -/
theorem pe_callZ (F : FnOk X.prog X.w X.K X.mg X.base CX k f fd ps sp) (hr : Room k X.A) (hg : Gl X x) (hm : X.mg x = some (.ref f)) (hk : PySem.W.keepIn X.K (.ref f) = true) (hb : KBn X.K fd ps 0 ks (fun _ ws => g ws) (fun _ zs => gV zs)) (hx : Passes CX X E)
    (hkw : PK X kws tk) (hall : (backToKw pos (keywordEach kws X.env)).all (·.1.isSome) = true := by rfl) (hks : (backToKw pos (keywordEach kws X.env)).filterMap (·.1) = ks := by rfl)
    (hdb : (x == ("__debug__" : Str)) = false := by decide)
    (hpl : ((backTo pos (starEach [] X.env)).any (·.1) || (backToKw pos (keywordEach kws X.env)).any (·.1.isNone)) = false := by rfl) :
    PE X (.Call (.Name x p) [] kws pos) (tCallZ ks.length sp gV E tk) := by
  refine ⟨fun pins s σ H Q I h => ?_⟩
  refine wpAny_Call_Name_kw (ld_glob I hg hm ?_ hdb)
  refine PySem.W.callWith_KW0 (h₀ := X.base) I.ok.mod.kin hk hall (thn (hkw.run pos pins s σ H _ I h) fun ws s2 ⟨zs, H2, I2, rz, l2, q2⟩ => ⟨I2.kIn, ?_⟩) hpl
  rw [hks]
  exact run_fnN F hr hb hx I2 .nil rz rfl l2 q2
end
theorem kb_of {K : PySem.W.Frag} {x qual : Str} {st : Stmt} {f : Addr} {fd : FuncData} {ps : List Str} (F : Fun K x qual st f fd) {n : Nat} {ks : List Str} (g : {α : Type} → List α → List α → List α)
    (hrel : ∀ {vs zs : List V} {us ws : List Value}, Vals vs us → Vals zs ws → Vals (g vs zs) (g us ws))
    (h : ∀ (kV doc pm : Value) (an : Option Addr) (cdv ct : Value) (us ws : List Value), us.length = n → ws.length = ks.length → bindArgs (PySem.W.fnOf x qual (defArgs st) (defBody st) (defScope st) .none kV doc pm an cdv ct) ⟨us, ks.zip ws⟩ = pure (ps.zip (g us ws))) : KBn K fd ps n ks (fun us ws => g us ws) (fun vs zs => g vs zs) := by
  obtain ⟨oc, od, kV, doc, pm, an, cdv, ct, osl, rfl, lk, hcd⟩ := F.ex
  exact ⟨fun s us ws _ l1 l2 => .of_eq (h kV doc pm an cdv ct us ws l1 l2), hrel⟩
end LK

namespace LK
open PySem PySem.Spec PyProof.Rows L2
/-! ### t[::-1] of a tuple -/
theorem fm_map {α β : Type} {f : α → Option β} {g : α → β} : ∀ {l : List α}, (∀ m ∈ l, f m = some (g m)) → l.filterMap f = l.map g
  | [], _ => rfl
  | a :: l, h => by
    rw [List.filterMap_cons, h a List.mem_cons_self]
    exact congrArg (g a :: ·) (fm_map fun m hm => h m (List.mem_cons_of_mem _ hm))
theorem rev_pick (xs : Array Value) : ((List.range xs.size).filterMap fun (m : Nat) => xs[(((xs.size : Int) - 1) + (m : Int) * (-1)).toNat]?).toArray = xs.toList.reverse.toArray := by
  have e : ((List.range xs.size).filterMap fun (m : Nat) => xs[(((xs.size : Int) - 1) + (m : Int) * (-1)).toNat]?) = xs.toList.reverse := by
    have h : ∀ m ∈ List.range xs.size, (xs[(((xs.size : Int) - 1) + (m : Int) * (-1)).toNat]?) = some (xs.toList.reverse.getD m .none) := by
      intro m hm
      have hm := List.mem_range.mp hm
      have e1 : (((xs.size : Int) - 1) + (m : Int) * (-1)).toNat = xs.size - 1 - m := by omega
      rw [e1, List.getD_eq_getElem?_getD, List.getElem?_reverse (by simpa using hm)]
      rw [Array.getElem?_eq_getElem (by omega), Array.length_toList, List.getElem?_eq_getElem (by rw [Array.length_toList]; omega)]
      rfl
    rw [fm_map h]
    refine List.ext_getElem? fun i => ?_
    rw [List.getElem?_map]
    by_cases hi : i < xs.size
    · rw [List.getElem?_range hi, List.getElem?_eq_getElem (by simpa using hi)]
      simp [List.getElem?_eq_getElem, hi]
    · rw [List.getElem?_eq_none (by simpa using hi), List.getElem?_eq_none (by simpa using hi)]
      rfl
  rw [e]
section
variable {prog : Program} {w : World} {A : Around} {E : Value → Shared → Prop} {s : Shared}
theorem sliceApplied_rev {sl : Addr} {vl vu vs : Value} {n : Nat} {Q : Int × Int × Nat → Shared → Prop} (hs : s.heap.IsSliceOf sl vl vu vs) (pl : IsPart vl none) (pu : IsPart vu none) (ps : IsPart vs (some (-1)))
    (h : Q ((n : Int) - 1, -1, n) s) : wpAny (model prog w) A (Builtin.Slice.sliceApplied (.ref sl) (pure (n : Int))) Q E s := by
  obtain ⟨os, hos, hcs, hds⟩ := id hs
  unfold Builtin.Slice.sliceApplied Builtin.Slice.sliceFields
  refine wpAny_bind (wpAny_bind (wpAny_field hos hds (x := vl) rfl (wpAny_bind (wpAny_field hos hds (x := vu) rfl (wpAny_bind (wpAny_field hos hds (x := vs) rfl (wpAny_pure ?_)))))))
  refine wpAny_bind (HT.slicePart_ ps ?_)
  show wpAny _ _ (if ((-1 : Int) == 0) = true then _ else _) _ _ s
  rw [if_neg (by decide)]
  refine wpAny_bind (HT.slicePart_ pl (wpAny_bind (HT.slicePart_ pu (wpAny_bind (wpAny_pure ?_)))))
  show wpAny _ _ (match Builtin.Slice.sliceAdjust none none (-1) (n : Int) with | (lo, hi) => pure (lo, (-1 : Int), Builtin.Slice.slicePlaces lo hi (-1))) _ _ s
  have e1 : Builtin.Slice.sliceAdjust none none (-1) (n : Int) = ((n : Int) - 1, -1) := rfl
  rw [e1]
  show wpAny _ _ (pure ((n : Int) - 1, (-1 : Int), Builtin.Slice.slicePlaces ((n : Int) - 1) (-1) (-1))) _ _ s
  have e2 : Builtin.Slice.slicePlaces ((n : Int) - 1) (-1) (-1) = n := by
    unfold Builtin.Slice.slicePlaces
    rw [if_neg (by decide)]
    by_cases c : n = 0
    · subst c; rfl
    · rw [if_pos (by omega)]
      show (((n : Int) - 1 - -1 - 1) / 1 + 1).toNat = n
      rw [Int.ediv_one]; omega
  rw [e2]
  exact wpAny_pure h
theorem getItem_tuple_rev {t sl : Addr} {items : Array Value} {vl vu vs : Value} {Q : Value → Shared → Prop} (ht : IsTup s.heap t items) (hs : s.heap.IsSliceOf sl vl vu vs) (pl : IsPart vl none) (pu : IsPart vu none) (ps : IsPart vs (some (-1)))
    (h : Q (.ref s.heap.objs.size) { s with heap := s.heap.push { cls := .type "tuple", data := .seq items.toList.reverse.toArray } })
    (hsz : items.size ≤ sizeLine) : wpAny (model prog w) A (getItem (.ref t) (.ref sl)) Q E s := by
  have htake : sizeOk (.seq items.toList.reverse.toArray) := by
    show items.toList.reverse.toArray.size ≤ sizeLine
    simpa using hsz
  obtain ⟨os, hos, hcs, hds⟩ := id hs
  have hTs : s.TypeIs (.ref sl) "slice" := ⟨os, hos, hcs⟩
  unfold getItem
  try with_reducible refine wpAny_holding ?_
  first | refine wpAny_bind (wpAny_pure ?_) | skip
  refine wpAny_bind (wpAny_sequenceKey ht.typeIs (by decide) ?_)
  refine wpAny_bind (wpAny_callSpecial?_slot (name := Str.ofString "__getitem__") ht.typeIs PyProof.Rows.slot_tuple_getitem
    (wpAny_call_entry PyProof.Rows.slot_tuple_getitem ht.typeIs PyProof.Rows.entry_tuple_getitem ?_ (PyProof.Rows.args_tuple_getitem _ _)))
  show wpAny _ _ (Builtin.Tuple.tupleItemsOf (.ref t) >>= _) _ _ s
  refine wpAny_bind (PyProof.Rows.tupleItemsOf_ ht ?_)
  refine wpAny_bind (wpAny_typeOf hTs ?_)
  rw [if_pos (by decide)]
  refine wpAny_bind (sliceApplied_rev hs pl pu ps ?_)
  have hno : ¬ ((((items.size : Int) - 1) == 0 && (-1 : Int) == 1 && items.size == items.size) = true) := by
    intro q
    rw [Bool.and_eq_true, Bool.and_eq_true] at q
    exact absurd (eq_of_beq q.1.2) (by decide)
  show wpAny _ _ (if (((items.size : Int) - 1) == 0 && (-1 : Int) == 1 && items.size == items.size) = true then _ else _) _ _ s
  rw [if_neg hno, rev_pick]
  first
    | exact wpAny_bind (m := Builtin.Tuple.tupleExact _) (wpAny_newObj_type (wpAny_pure ⟨_, rfl, wpAny_pure h⟩) htake)
    | exact wpAny_bind (m := Builtin.Tuple.tupleExact _) (wpAny_newObj_type (wpAny_bind (wpAny_pure (wpAny_pure ⟨_, rfl, wpAny_pure h⟩))) htake)
    | exact wpAny_bind (wpAny_bind (m := Builtin.Tuple.tupleExact _) (wpAny_newObj_type (wpAny_pure (wpAny_pure ⟨_, rfl, wpAny_pure h⟩)) htake))
    | exact wpAny_bind (wpAny_bind (m := Builtin.Tuple.tupleExact _) (wpAny_newObj_type (wpAny_pure ⟨_, rfl, wpAny_pure h⟩) htake))
end
section
variable {X : Cx}
def tRevT (K : PySem.W.Frag) (te : TE) : TE := fun σ H Q => te σ H fun x H1 => ∃ a xs, x = .ref a ∧ SqT K H1 a xs ∧ ∀ p H2, Same H1 H2 → H1 p = none → H2 p = some (.tup xs.reverse) → Q (.ref p) H2
theorem pe_revT {e : Expr} {te : TE} {k : Nat} {p1 p2 p3 pos : Pos} (he : PE X e te) : PE X (.Subscript e (.Slice none none (some (.UnaryOp .USub (.Constant (.int 1) k p1) p2)) p3) pos) (tRevT X.K te) := by
  refine ⟨fun pins s σ H Q I h => ?_⟩
  refine Subscript_ (thn (he.run pins s σ H _ I h) fun v s1 ⟨x, H1, I1, r1, q1⟩ => ?_)
  obtain ⟨a, xs, ex, hx, q⟩ := q1
  subst ex
  cases r1
  have hst : PO X (some (.UnaryOp .USub (.Constant (.int 1) k p1) p2)) (tPart (tUn (rU fun i => .int (-i)) (tC (.int 1)))) := po_some (pe_un un_neg pe_int)
  refine wpAny_Slice (thn (po_none.run pins s1 σ H1 (fun o H2 => o = none ∧ H2 = H1) I1 ⟨rfl, rfl⟩) fun vl s2 ⟨l, H2, I2, pl, el, e2⟩ => ?_)
  subst el e2
  refine thn (po_none.run pins s2 σ H2 (fun o H3 => o = none ∧ H3 = H2) I2 ⟨rfl, rfl⟩) fun vu s3 ⟨u, H3, I3, pu, eu, e3⟩ => ?_
  subst eu e3
  refine thn (hst.run pins s3 σ H3 (fun o H4 => o = some (-1) ∧ H4 = H3) I3 ⟨1, rfl, -1, rfl, rfl, rfl⟩) fun vs s4 ⟨o, H4, I4, ps, eo, e4⟩ => ?_
  subst eo e4
  have I5 : Inv X pins σ H4 { s4 with heap := s4.heap.push { cls := .type "slice", data := .fields #[vl, vu, vs] } } := I4.kept (t' := s4.toks) fun b ob q => Heap.get?_push_of_some _ q
  obtain ⟨its, r, ht, hz⟩ := I5.tuple hx
  have hlen := r.length
  show wpAny (model X.prog X.w) X.A (subscriptTail e (.Slice none none (some (.UnaryOp .USub (.Constant (.int 1) k p1) p2)) p3) (.ref a) (.ref s4.heap.objs.size)) (EP X pins σ Q) X.xe { s4 with heap := s4.heap.push { cls := .type "slice", data := .fields #[vl, vu, vs] } }
  refine tail_any (ops := [.ref a, .ref s4.heap.objs.size]) ht.typeIs (PyProof.Rows.slot_tuple_getitem.lookup) ?_ (by with_unfolding_all rfl)
  refine getItem_tuple_rev ht (Heap.IsSliceOf.new _ vl vu vs) pl pu ps ?_ (by rw [List.size_toArray]; omega)
  refine ⟨.ref _, _, I5.laid (t' := s4.toks) (o := .tup xs.reverse) (fun b ob q => Heap.get?_push_of_some _ q) (Nat.le_refl _) ?_, rfl, q _ _ (same_upd (I5.hok.fresh (Nat.le_refl _))) (I5.hok.fresh (Nat.le_refl _)) upd_same⟩
  exact ⟨by rw [List.length_reverse]; exact hz, _, r.reverse, IsTup.new _ _⟩
end
end LK
namespace LK
open PySem PySem.Spec PyProof.Rows L2
/-! ### d.get(k) of a written dict with text keys -/
section
variable {X : Cx} {d : Addr} {es : Array DictEntry} {n : Nat} {o e : Expr} {apos cpos : Pos} {td ty : TE}
def tWget (K : PySem.W.Frag) (d : Addr) (td ty : TE) : TE := fun σ H Q => td σ H fun x H1 => x = .ref d ∧ ty σ H1 fun y H2 => ∃ (z : Str) (r : Option Value) (v : V), y = .str z ∧ PySem.W.nsIn K d z = some r ∧ RelV v (r.getD .none) ∧ Q v H2
theorem pe_wget (D : KDict X.K X.w d es n) (ho : PE X o td) (he : PE X e ty) (hbase : attributeBase o "get" X.env (eval o X.env) = eval o X.env := by rfl)
    (hfew : ((backTo cpos (starEach [e] X.env)).all (fun x => !x.1) && (backToKw cpos (keywordEach [] X.env)).all (fun x => x.1.isSome)
    && decide (([e] : List Expr).length + ([] : List Keyword).length + (if ([] : List Keyword).isEmpty then 0 else 1) < 30)) = true := by rfl)
    (hline : (apos.endLine == cpos.line) = true := by rfl) (htr : backTo cpos (starEach [e] X.env) = [(false, eval e X.env)] := by rfl) : PE X (.Call (.Attribute o "get" apos) [e] [] cpos) (tWget X.K d td ty) := by
  refine ⟨fun pins s σ H Q I h => ?_⟩
  refine wpAny_Call_method hbase hfew hline PySem.F.plainAttrs_dict PySem.F.slot_dict_get PySem.F.type_dict_get (thn (ho.run pins s σ H _ I h) fun u s1 ⟨x, H1, I1, rx, ex, q1⟩ => ?_)
  subst ex
  obtain rfl : u = Value.ref d := rx
  have ob := I1.kIn _ _ D.at_
  refine ⟨kd_type D I1, fun b q => ?_, ?_⟩
  · cases q
    exact ⟨_, ob, rfl⟩
  rw [htr]
  refine Calls.callWith_builtin rfl (Calls.evalArgs_plain (Calls.spliced_cons (thn (he.run pins s1 σ H1 _ I1 q1) fun iv s2 ⟨y, H2, I2, ry, z, r, v, ey, hn, rv, q2⟩ => Calls.spliced_nil ?_)))
  subst ey
  obtain ⟨t, rfl⟩ := ry
  refine call_meetsIn PySem.F.slot_dict_get (kd_type D I2) PySem.F.entry_dict_get (PySem.F.args_dict_get_2 _ _) (meets_dict_get (strKind X.prog X.w) d (PySem.strKind_is X.prog X.w z t) D.low)
    ⟨_, PySem.W.mapOf_K (prog := X.prog) I2.kIn D.at_ D.lit, v, H2, I2.tok _, ?_, q2⟩
  rw [PySem.W.find_K D.at_ hn]
  exact rv
end
end LK
namespace LK
open PySem PySem.Spec PyProof.Rows L2
/-! ### comprehensions without tests -/
/-- what is new since H -/
def nw (H H' : Hp) : Hp := fun a => if H a = none then H' a else none
theorem nw_some {H H' : Hp} {a : Addr} {o : HO} (h : nw H H' a = some o) : H a = none ∧ H' a = some o := by
  unfold nw at h
  split at h
  · exact ⟨by assumption, h⟩
  · cases h
theorem nw_of {H H' : Hp} {a : Addr} {o : HO} (h0 : H a = none) (h : H' a = some o) : nw H H' a = some o := by
  unfold nw
  rw [if_pos h0]; exact h
theorem nw_le (H H' : Hp) : Same (nw H H') H' := fun _ _ h => (nw_some h).2
theorem nw_hb {H H' : Hp} {b : Addr} {o : HO} (h : H b = some o) : Same (nw H H') (hb H' b) := fun a u e => by
  obtain ⟨h1, h2⟩ := nw_some e
  have n : a ≠ b := fun q => by rw [q, h] at h1; cases h1
  rw [hb_ne n]; exact h2
/-- new since a later heap is new since an earlier one -/
theorem nw_anti {H0 H H' : Hp} (d : ∀ a, H a = none → H0 a = none) : Same (nw H H') (nw H0 H') := fun a u e => by
  obtain ⟨h1, h2⟩ := nw_some e
  exact nw_of (d a h1) h2
theorem nw_same {H H' H'' : Hp} (s : ∀ a o, H a = none → H' a = some o → H'' a = some o) : Same (nw H H') (nw H H'') := fun a u e => by
  obtain ⟨h1, h2⟩ := nw_some e
  exact nw_of h1 (s _ _ h1 h2)
theorem Kp.dom {b : Addr} {H H' : Hp} {o : HO} (k : Kp b H H') (hb' : H' b = some o) : ∀ a, H' a = none → H a = none := fun a h => by
  cases q : H a with
  | none => rfl
  | some u =>
    by_cases e : a = b
    · subst e; rw [hb'] at h; cases h
    · rw [k.hd q e] at h; cases h
theorem Same.dom {H H' : Hp} (k : Same H H') : ∀ a, H' a = none → H a = none := fun a h => k.free h

/-- a pure one -/
theorem lc_pure {J : It} {n : Nat} {G : Hp → Prop} {Y : Nat → Hp → V → Hp → Prop} (w : Walk J n G Y) {g : TG} {te : TE} {vs : List Nat} {σ : L2.St} {H1 : Hp} {D : Addr} {Qd : Hp → Prop} (hD : H1 D = none) (hn : n ≤ 1000000) (y : Nat → V)
    (hG : ∀ H, Same H1 H → G H)
    (hs : ∀ i x H H', i < n → Same H1 H → Y i H x H' → g x (wipe σ vs) H' fun σ2 H2 => Same H H2 ∧ wipe σ2 vs = wipe σ vs ∧ ∀ Q2 : V → Hp → Prop, (∀ H3, Same H2 H3 → Q2 (y i) H3) → te σ2 H2 Q2)
    (gm : ∀ x σ0 H0 Q0 Q1, (∀ σ2 H2, Q0 σ2 H2 → Q1 σ2 H2) → g x σ0 H0 Q0 → g x σ0 H0 Q1)
    (hq : ∀ H', Same H1 H' → H' D = some (.lst ((List.range n).map y)) → Qd H') :
    ∃ W : Nat → Nat → Hp → Prop, (∃ m, W 0 m (upd H1 D (.lst []))) ∧ ∀ i m H, W i m H →
      (J.stop i H ∧ Qd H) ∨ (J.go i H ∧ ∃ Nx : Hp → Prop, (∀ H', Nx H' → ∃ m', m' < m ∧ W (i + 1) m' H') ∧ ∀ x H', J.yld i H x H' → g x (wipe σ vs) H' fun σ2 H2 => wipe σ2 vs = wipe σ vs ∧ tYes σ2 H2 fun b H3 =>
        if b = true then te σ2 H3 fun y H4 => ∃ acc, H4 D = some (.lst acc) ∧ acc.length < sizeLine ∧ Nx (upd H4 D (.lst (acc ++ [y]))) else Nx H3) := by
  have up : ∀ {H : Hp} {o : HO}, Same H1 H → Same H1 (upd H D o) := fun s a u e => by
    rw [upd_ne (ne_of_none e hD)]; exact s _ _ e
  refine lc_it w (fun i H => Same H1 H ∧ H D = some (.lst ((List.range i).map y))) ⟨up (Same.refl _), upd_same⟩ (fun i H _ h => hG H h.1) (fun i x H H' hi ⟨s1, h1⟩ hY => ?_) (fun H h => hq H h.1 h.2)
  refine gm _ _ _ _ _ (fun σ2 H2 ⟨s2, e2, k⟩ => ⟨e2, ?_⟩) (hs i x H H' hi s1 hY)
  simp only [tYes, eq_self, ite_true]
  refine k _ fun H3 s3 => ⟨_, s3 _ _ (s2 _ _ h1), ?_, up (Same.trans (Same.trans s1 s2) s3), ?_⟩
  · rw [List.length_map, List.length_range]
    exact Nat.lt_of_lt_of_le (Nat.lt_of_lt_of_le hi hn) (by decide)
  · rw [upd_same, List.range_succ, List.map_append]
    rfl
/-- one that draws from a bag -/
theorem lc_bag {J : It} {n k N : Nat} {G : Hp → Prop} {Y : Nat → Hp → V → Hp → Prop} (w : Walk J n G Y) {g : TG} {te : TE} {vs : List Nat} {σ : L2.St} {H1 : Hp} {D b c : Addr} {Qd : Hp → Prop} (hD : H1 D = none) (hB : Bag (N + n * k) H1 b c) (hn : n ≤ 1000000) (Φ : Hp → V → Prop) (mono : ∀ G G' v, Same G G' → Φ G v → Φ G' v)
    (hG : ∀ H, Kp b H1 H → G H)
    (hs : ∀ i x H H' M, i < n → Kp b H1 H → Bag (M + k) H b c → Y i H x H' → g x (wipe σ vs) H' fun σ2 H2 => Same H H2 ∧ wipe σ2 vs = wipe σ vs ∧ ∀ Q2 : V → Hp → Prop, (∀ v H3, Bag M H3 b c → Kp b H2 H3 → Φ (nw H2 H3) v → Q2 v H3) → te σ2 H2 Q2)
    (gm : ∀ x σ0 H0 Q0 Q1, (∀ σ2 H2, Q0 σ2 H2 → Q1 σ2 H2) → g x σ0 H0 Q0 → g x σ0 H0 Q1)
    (hq : ∀ H' ys, Bag N H' b c → Kp b H1 H' → H' D = some (.lst ys) → ys.length = n → (∀ v ∈ ys, Φ (nw (upd H1 D (.lst [])) H') v) → Qd H') :
    ∃ W : Nat → Nat → Hp → Prop, (∃ m, W 0 m (upd H1 D (.lst []))) ∧ ∀ i m H, W i m H →
      (J.stop i H ∧ Qd H) ∨ (J.go i H ∧ ∃ Nx : Hp → Prop, (∀ H', Nx H' → ∃ m', m' < m ∧ W (i + 1) m' H') ∧ ∀ x H', J.yld i H x H' → g x (wipe σ vs) H' fun σ2 H2 => wipe σ2 vs = wipe σ vs ∧ tYes σ2 H2 fun b H3 =>
        if b = true then te σ2 H3 fun y H4 => ∃ acc, H4 D = some (.lst acc) ∧ acc.length < sizeLine ∧ Nx (upd H4 D (.lst (acc ++ [y]))) else Nx H3) := by
  obtain ⟨xb, eb⟩ := hB.at
  obtain ⟨xc, ec⟩ := hB.at2
  have nbD : b ≠ D := fun e => by rw [← e, eb] at hD; cases hD
  have ncD : c ≠ D := fun e => by rw [← e, ec] at hD; cases hD
  have up : ∀ {H : Hp} {o : HO}, Kp b H1 H → Kp b H1 (upd H D o) := fun s a u e => by
    obtain ⟨h1, h2⟩ := hb_some e
    rw [hb_ne h1, upd_ne (ne_of_none h2 hD)]
    exact s.hd h2 h1
  refine lc_it w (fun i H => Kp b H1 H ∧ Bag (N + (n - i) * k) H b c ∧ ∃ ys, H D = some (.lst ys) ∧ ys.length = i ∧ ∀ v ∈ ys, Φ (nw (upd H1 D (.lst [])) H) v) ⟨up (Kp.refl _ _), hB.upd nbD ncD, [], upd_same, rfl, fun v hv => absurd hv (by simp)⟩ (fun i H _ h => hG H h.1) (fun i x H H' hi ⟨s1, B1, ys, h1, hl, hp⟩ hY => ?_) (fun H ⟨s1, B1, ys, h1, hl, hp⟩ => hq H ys (B1.le (Nat.le_add_right _ _)) s1 h1 hl hp)
  refine gm _ _ _ _ _ (fun σ2 H2 ⟨s2, e2, kq⟩ => ⟨e2, ?_⟩) (hs i x H H' (N + (n - (i + 1)) * k) hi s1 (B1.le (by
    have e : n - i = (n - (i + 1)) + 1 := by omega
    rw [e, Nat.add_mul, Nat.one_mul, Nat.add_assoc]; exact Nat.le_refl _)) hY)
  simp only [tYes, eq_self, ite_true]
  have B2 := B1.same s2
  refine kq _ fun v H3 B3 k3 hv => ⟨ys, k3.hd (s2 _ _ h1) nbD.symm, ?_, up (Same.trans (Same.trans s1 (Kp.of s2)) k3), B3.upd nbD ncD, ys ++ [v], upd_same, by rw [List.length_append, hl]; rfl, fun u hu => ?_⟩
  · rw [hl]
    exact Nat.lt_of_lt_of_le (Nat.lt_of_lt_of_le hi hn) (by decide)
  · have kk : ∀ a o, upd H1 D (.lst []) a = none → H3 a = some o → upd H3 D (.lst (ys ++ [v])) a = some o := fun a o q e => by
      have n : a ≠ D := fun z => by rw [z, upd_same] at q; cases q
      rw [upd_ne n]; exact e
    rcases List.mem_append.mp hu with hu | hu
    · refine mono _ _ _ (fun a o e => ?_) (hp u hu)
      obtain ⟨q1, q2⟩ := nw_some e
      have n : a ≠ b := fun z => by rw [z, upd_ne nbD, eb] at q1; cases q1
      exact nw_of q1 (kk _ _ q1 (k3.hd (s2 _ _ q2) n))
    · obtain rfl : u = v := by simpa using hu
      refine mono _ _ _ (fun a o e => ?_) hv
      obtain ⟨q1, q2⟩ := nw_some e
      have d1 : upd H1 D (.lst []) a = none := by
        by_cases n : a = D
        · rw [n, s2 _ _ h1] at q1; cases q1
        · rw [upd_ne n]
          exact Kp.dom (Same.trans s1 (Kp.of s2)) (B2.at.choose_spec) a q1
      exact nw_of d1 (kk _ _ d1 q2)
end LK
namespace LK
open PySem PySem.Spec PyProof.Rows L2
theorem cutV_take (xs : List V) (k : Nat) : cutV xs none (some (k : Int)) = xs.take k := by
  unfold cutV HT.sIx
  simp only [List.drop_zero, Nat.sub_zero]
  by_cases h : (k : Int) < 0
  · omega
  · rw [if_neg h]
    have e : ((k : Int)).toNat = k := Int.toNat_natCast k
    by_cases c : k ≤ xs.length
    · congr 1
      omega
    · rw [List.take_of_length_le (by omega), List.take_of_length_le (by omega)]
theorem cutV_drop (xs : List V) (k : Nat) : cutV xs (some (k : Int)) none = xs.drop k := by
  unfold cutV
  rw [HT.sIx_nat, HT.sIx_none]
  by_cases c : k ≤ xs.length
  · rw [Nat.min_eq_left c, List.take_of_length_le (by simp)]
  · rw [Nat.min_eq_right (by omega), List.drop_eq_nil_of_le (by omega), List.drop_eq_nil_of_le (by omega)]
    simp
end LK
namespace LK
open PySem PySem.Spec PyProof.Rows L2
/-! ### new objects, the heap behind them by a name -/
section
variable {X : Cx} {es : List Expr} {t : TA} {pos : Pos}
def tTupU (t : TA) : TE := fun σ H Q => t σ H fun xs H1 => xs.length ≤ sizeLine ∧ ∀ p H2, Same H1 H2 → H1 p = none → H2 p = some (.tup xs) → Q (.ref p) H2
def tLstU (t : TA) : TE := fun σ H Q => t σ H fun xs H1 => xs.length ≤ sizeLine ∧ ∀ p H2, Same H1 H2 → H1 p = none → H2 p = some (.lst xs) → Q (.ref p) H2
theorem pe_tupU {x1} (h : PA X es t) : PE X (.Tuple es x1 pos) (tTupU t) := by
  refine ⟨fun pins s σ H Q I hq => ?_⟩
  refine wpAny_Tuple_spliced (thn (h.run pos pins s σ H _ I hq) fun us s1 ⟨xs, H1, I1, r, z, q⟩ => ⟨by rw [← r.length]; exact z, ?_⟩)
  have hf : H1 s1.heap.objs.size = none := I1.hok.fresh (Nat.le_refl _)
  refine ⟨.ref s1.heap.objs.size, L2.upd H1 s1.heap.objs.size (.tup xs), I1.laid (t' := s1.toks) (fun b u e => Heap.get?_push_of_some _ e) (Nat.le_refl _) ?_, rfl, q _ _ (same_upd hf) hf upd_same⟩
  exact ⟨z, us, r, ⟨_, Heap.get?_push_size _ rfl, rfl, _, rfl⟩⟩
theorem pe_lstU (h : PA X es t) : PE X (.List es pos) (tLstU t) := by
  refine ⟨fun pins s σ H Q I hq => ?_⟩
  refine wpAny_List_spliced (thn (h.run pos pins s σ H _ I hq) fun us s1 ⟨xs, H1, I1, r, z, q⟩ => ⟨by rw [← r.length]; exact z, ?_⟩)
  have hf : H1 s1.heap.objs.size = none := I1.hok.fresh (Nat.le_refl _)
  refine ⟨.ref s1.heap.objs.size, L2.upd H1 s1.heap.objs.size (.lst xs), I1.laid (t' := s1.toks) (fun b u e => Heap.get?_push_of_some _ e) (Nat.le_refl _) ?_, rfl, q _ _ (same_upd hf) hf upd_same⟩
  exact ⟨z, us, 0, r, Heap.get?_push_size _ rfl⟩
def rSlLU (K : PySem.W.Frag) : V → Option Int → Option Int → Hp → VK → Prop := fun x lo hi H Q => ∃ a xs, x = .ref a ∧ SqL K H a xs ∧ ∀ p H2, Same H H2 → H p = none → H2 p = some (.lst (cutV xs lo hi)) → Q (.ref p) H2
theorem sl_listU : SlR X (rSlLU X.K) := by
  intro pins s σ H x v vl vu lo hi sl Q I rx hs pl pu h
  obtain ⟨a, xs, rfl, hx, q⟩ := h
  exact sl_list pins s σ H _ v vl vu lo hi sl Q I rx hs pl pu ⟨a, xs, rfl, hx, fun p hp => q p _ (same_upd hp) hp upd_same⟩
theorem call_listU : CallR X (.type "list") (fun xs H Q => ∃ p ys, xs = [.ref p] ∧ (SqL X.K H p ys ∨ SqT X.K H p ys) ∧ ∀ l H2, Same H H2 → H l = none → H2 l = some (.lst ys) → Q (.ref l) H2) := cr_imp call_list_of fun xs H Q h => by
  obtain ⟨p, ys, rfl, h, q⟩ := h
  exact ⟨p, ys, rfl, h, fun l hl => q l _ (same_upd hl) hl upd_same⟩
def rCatL : R2 := fun x y H Q => ∃ l b xs zs, x = .ref l ∧ y = .ref b ∧ H l = some (.lst xs) ∧ H b = some (.lst zs) ∧ xs.length + zs.length ≤ sizeLine ∧ ∀ p H2, Same H H2 → H p = none → H2 p = some (.lst (xs ++ zs)) → Q (.ref p) H2
theorem op_catL : OpR X (binaryOp .Add) rCatL := opr_imp op_cat fun x y H Q h => by
  obtain ⟨l, b, xs, zs, rfl, rfl, h1, h2, hz, q⟩ := h
  exact ⟨l, b, xs, zs, rfl, rfl, h1, h2, hz, fun p hp => q p _ (same_upd hp) hp upd_same⟩
def rRepL : R2 := fun x y H Q => ∃ l k xs, x = .ref l ∧ y = .int k ∧ H l = some (.lst xs) ∧ -(2 ^ 63) ≤ k ∧ k < 2 ^ 63 ∧ xs.length * k.toNat ≤ sizeLine ∧ ∀ p H2, Same H H2 → H p = none → H2 p = some (.lst (List.replicate k.toNat xs).flatten) → Q (.ref p) H2
theorem op_repL : OpR X (binaryOp .Mult) rRepL := opr_imp op_rep fun x y H Q h => by
  obtain ⟨l, k, xs, rfl, rfl, h1, h2, h3, hz, q⟩ := h
  exact ⟨l, k, xs, rfl, rfl, h1, h2, h3, hz, fun p hp => q p _ (same_upd hp) hp upd_same⟩
end
end LK
namespace LK
open PySem PySem.Spec PyProof.Rows L2
/-- [f(x) for x in ..], the items known -/
theorem lc_map {J : It} {n : Nat} {G : Hp → Prop} {Y : Nat → Hp → V → Hp → Prop} (w : Walk J n G Y) {te : TE} {i : Nat} {σ : L2.St} {H1 : Hp} {D : Addr} {Qd : Hp → Prop} (xs : List V) (f : V → V) (hD : H1 D = none) (hn : n ≤ 1000000) (hx : xs.length = n)
    (hY : ∀ k H x H', k < n → Y k H x H' → H' = H ∧ xs[k]? = some x) (hG : ∀ H, Same H1 H → G H)
    (hs : ∀ x H, x ∈ xs → Same H1 H → ∀ Q2 : V → Hp → Prop, (∀ H3, Same H H3 → Q2 (f x) H3) → te ((wipe σ [i]).set i (some x)) H Q2)
    (hq : ∀ H', Same H1 H' → H' D = some (.lst (xs.map f)) → Qd H') :
    ∃ W : Nat → Nat → Hp → Prop, (∃ m, W 0 m (L2.upd H1 D (.lst []))) ∧ ∀ i' m H, W i' m H →
      (J.stop i' H ∧ Qd H) ∨ (J.go i' H ∧ ∃ Nx : Hp → Prop, (∀ H', Nx H' → ∃ m', m' < m ∧ W (i' + 1) m' H') ∧ ∀ x H', J.yld i' H x H' → gName i x (wipe σ [i]) H' fun σ2 H2 => wipe σ2 [i] = wipe σ [i] ∧ tYes σ2 H2 fun b H3 =>
        if b = true then te σ2 H3 fun y H4 => ∃ acc, H4 D = some (.lst acc) ∧ acc.length < sizeLine ∧ Nx (L2.upd H4 D (.lst (acc ++ [y]))) else Nx H3) := by
  have e : (List.range n).map (fun k => f (xs.getD k .non)) = xs.map f := by
    refine List.ext_getElem? fun k => ?_
    rw [List.getElem?_map, List.getElem?_map]
    by_cases hk : k < n
    · rw [List.getElem?_range hk, List.getElem?_eq_getElem (by omega)]
      simp [List.getD_eq_getElem?_getD, List.getElem?_eq_getElem (show k < xs.length by omega)]
    · rw [List.getElem?_eq_none (by simpa using hk), List.getElem?_eq_none (by omega)]
      rfl
  refine lc_pure w hD hn (fun k => f (xs.getD k .non)) hG (fun k x H H' hk s1 y => ?_) (fun x σ0 H0 Q0 Q1 h q => h _ _ q) (fun H' s h => hq H' s (by rw [← e]; exact h))
  obtain ⟨rfl, hx2⟩ := hY _ _ _ _ hk y
  refine ⟨Same.refl _, ?_, fun Q2 h2 => hs x H' (List.mem_of_getElem? hx2) s1 Q2 fun H3 s3 => ?_⟩
  · show ((σ.set i none).set i (some x)).set i none = σ.set i none
    rw [List.set_set, List.set_set]
  · have e2 : xs.getD k .non = x := by rw [List.getD_eq_getElem?_getD, hx2]; rfl
    have := h2 H3 s3
    rw [e2] at this
    exact this
/-- the same, drawing from a bag -/
theorem lc_draw {J : It} {n k N : Nat} {G : Hp → Prop} {Y : Nat → Hp → V → Hp → Prop} (w : Walk J n G Y) {te : TE} {i : Nat} {σ : L2.St} {H1 : Hp} {D b c : Addr} {Qd : Hp → Prop} (Φ : Hp → V → Prop) (mono : ∀ G G' v, Same G G' → Φ G v → Φ G' v) (hD : H1 D = none) (hB : Bag (N + n * k) H1 b c) (hn : n ≤ 1000000)
    (hY : ∀ k H x H', Y k H x H' → H' = H) (hG : ∀ H, Kp b H1 H → G H)
    (hs : ∀ x H M, Kp b H1 H → Bag (M + k) H b c → ∀ Q2 : V → Hp → Prop, (∀ v H3, Bag M H3 b c → Kp b H H3 → Φ (nw H H3) v → Q2 v H3) → te ((wipe σ [i]).set i (some x)) H Q2)
    (hq : ∀ H' ys, Bag N H' b c → Kp b H1 H' → H' D = some (.lst ys) → ys.length = n → (∀ v ∈ ys, Φ (nw (L2.upd H1 D (.lst [])) H') v) → Qd H') :
    ∃ W : Nat → Nat → Hp → Prop, (∃ m, W 0 m (L2.upd H1 D (.lst []))) ∧ ∀ i' m H, W i' m H →
      (J.stop i' H ∧ Qd H) ∨ (J.go i' H ∧ ∃ Nx : Hp → Prop, (∀ H', Nx H' → ∃ m', m' < m ∧ W (i' + 1) m' H') ∧ ∀ x H', J.yld i' H x H' → gName i x (wipe σ [i]) H' fun σ2 H2 => wipe σ2 [i] = wipe σ [i] ∧ tYes σ2 H2 fun b H3 =>
        if b = true then te σ2 H3 fun y H4 => ∃ acc, H4 D = some (.lst acc) ∧ acc.length < sizeLine ∧ Nx (L2.upd H4 D (.lst (acc ++ [y]))) else Nx H3) := by
  refine lc_bag w hD hB hn Φ mono hG (fun j x H H' M hk s1 B1 y => ?_) (fun x σ0 H0 Q0 Q1 h q => h _ _ q) hq
  have e := hY _ _ _ _ y
  subst e
  refine ⟨Same.refl _, ?_, fun Q2 h2 => hs x H' M s1 B1 Q2 h2⟩
  show ((σ.set i none).set i (some x)).set i none = σ.set i none
  rw [List.set_set, List.set_set]
def signsV (z : Str) : List V := z.cps.toList.map fun c => V.str ⟨#[c]⟩
theorem signsV_at {z : Str} : ∀ (k : Nat) (H : Hp) (x : V) (H' : Hp), (H' = H ∧ ∃ c, z.cps[k]? = some c ∧ x = V.str ⟨#[c]⟩) → H' = H ∧ (signsV z)[k]? = some x := by
  rintro k H x H' ⟨rfl, c, h, rfl⟩
  refine ⟨rfl, ?_⟩
  unfold signsV
  rw [List.getElem?_map, Array.getElem?_toList, h]
  rfl
theorem signsV_length (z : Str) : (signsV z).length = z.cps.size := by simp [signsV]
theorem all_map_id {α : Type} (p : α → Bool) (l : List α) : (l.map p).all id = l.all p := by
  rw [List.all_map]; rfl
end LK
namespace LK
open PySem PySem.Spec PyProof.Rows L2
/-- [p(c) for c in z], z a text -/
theorem lc_signs {z : Str} {te : TE} {i : Nat} {σ : L2.St} {H1 : Hp} {D : Addr} {Qd : Hp → Prop} (p : Nat → Bool) (hD : H1 D = none) (hz : z.length ≤ 1000000)
    (hs : ∀ c H, c ∈ z.cps.toList → Same H1 H → ∀ Q2 : V → Hp → Prop, (∀ H3, Same H H3 → Q2 (.bl (p c)) H3) → te ((wipe σ [i]).set i (some (.str ⟨#[c]⟩))) H Q2)
    (hq : ∀ H', Same H1 H' → H' D = some (.lst ((z.cps.toList.map p).map V.bl)) → Qd H') :
    ∃ W : Nat → Nat → Hp → Prop, (∃ m, W 0 m (L2.upd H1 D (.lst []))) ∧ ∀ i' m H, W i' m H →
      ((Its z).stop i' H ∧ Qd H) ∨ ((Its z).go i' H ∧ ∃ Nx : Hp → Prop, (∀ H', Nx H' → ∃ m', m' < m ∧ W (i' + 1) m' H') ∧ ∀ x H', (Its z).yld i' H x H' → gName i x (wipe σ [i]) H' fun σ2 H2 => wipe σ2 [i] = wipe σ [i] ∧ tYes σ2 H2 fun b H3 =>
        if b = true then te σ2 H3 fun y H4 => ∃ acc, H4 D = some (.lst acc) ∧ acc.length < sizeLine ∧ Nx (L2.upd H4 D (.lst (acc ++ [y]))) else Nx H3) := by
  refine lc_map walk_str (signsV z) (fun v => match v with | .str y => .bl (p (y.cps.toList.headD 0)) | _ => .non) hD hz (signsV_length z) (fun k H x H' _ y => signsV_at k H x H' y) (fun _ _ => trivial) (fun x H hx s1 Q2 h2 => ?_) (fun H' s h => hq H' s ?_)
  · obtain ⟨c, hc, rfl⟩ := List.mem_map.mp hx
    exact hs c H hc s1 Q2 h2
  · rw [h]
    unfold signsV
    rw [List.map_map, List.map_map]
    rfl
theorem starts_minus {z : Str} (h : Txt.startswith z "-" = true) : ∃ r, z.cps.toList = 45 :: r := by
  have h2 : PySem.StrLaws.At z "-" z.length 0 := by
    unfold Txt.startswith at h
    rw [Bool.and_eq_true] at h
    exact ⟨of_decide_eq_true h.1, h.2⟩
  have e : TL.tl "-" = [45] := by decide +kernel
  have q := (TL.at_iff (by rw [e]; simp) 0).mp h2
  rw [e, List.drop_zero] at q
  unfold TL.pre at q
  have q2 : z.cps.toList.take 1 = [45] := eq_of_beq q
  cases hz : z.cps.toList with
  | nil => rw [hz] at q2; simp at q2
  | cons c r => rw [hz] at q2; simp at q2; rw [q2]; exact ⟨r, rfl⟩
theorem cutS_tail (z : Str) : (cutS z (some 1) none).cps.toList = z.cps.toList.drop 1 := by
  unfold cutS
  have e1 := HT.sIx_nat z.length 0 1
  have l : z.length = z.cps.toList.length := by rw [Array.length_toList]; rfl
  show ((z.cps.toList.drop (HT.sIx z.length 0 (some ((1 : Nat) : Int)))).take (HT.sIx z.length z.length none - HT.sIx z.length 0 (some ((1 : Nat) : Int)))) = _
  rw [e1, HT.sIx_none]
  by_cases c : 1 ≤ z.length
  · rw [Nat.min_eq_left c, List.take_of_length_le (by rw [List.length_drop]; omega)]
  · rw [List.drop_eq_nil_of_le (by omega), List.drop_eq_nil_of_le (by omega)]
    simp
theorem len_cps (z : Str) : z.cps.toList.length = z.length := by rw [Array.length_toList]; rfl
end LK
namespace LK
theorem iteTT {c A B : Prop} [Decidable c] (hc : c) (h : A) : if c then A else B := by rw [if_pos hc]; exact h
theorem iteFF {c A B : Prop} [Decidable c] (hc : ¬ c) (h : B) : if c then A else B := by rw [if_neg hc]; exact h
end LK
namespace LK
open PySem PySem.Spec PyProof.Rows L2
theorem str_append (a b : Str) : (a ++ b).cps.toList = a.cps.toList ++ b.cps.toList := by
  show (a.cps ++ b.cps).toList = _
  exact Array.toList_append
theorem str_append_len (a b : Str) : (a ++ b).length = a.length + b.length := by
  rw [← len_cps, str_append, List.length_append, len_cps, len_cps]
theorem cutS_tail_len (z : Str) : (cutS z (some 1) none).length = z.length - 1 := by
  rw [← len_cps, cutS_tail, List.length_drop, len_cps]
theorem cutS_len (z : Str) (lo hi : Option Int) : (cutS z lo hi).length ≤ z.length := by
  rw [← len_cps, ← len_cps z]
  unfold cutS
  show (List.take _ (List.drop _ _)).length ≤ _
  rw [List.length_take, List.length_drop]
  omega
end LK
namespace LK
open PySem PySem.Spec PyProof.Rows L2
/-- [f(k) for k in range(n)] -/
theorem lc_rng {lo : Int} {n : Nat} {te : TE} {i : Nat} {σ : L2.St} {H1 : Hp} {D : Addr} {Qd : Hp → Prop} (f : Int → V) (hD : H1 D = none) (hn : n ≤ 1000000)
    (hs : ∀ (k : Nat) H, k < n → Same H1 H → ∀ Q2 : V → Hp → Prop, (∀ H3, Same H H3 → Q2 (f (lo + (k : Int))) H3) → te ((wipe σ [i]).set i (some (.int (lo + (k : Int))))) H Q2)
    (hq : ∀ H', Same H1 H' → H' D = some (.lst ((List.range n).map fun (k : Nat) => f (lo + (k : Int)))) → Qd H') :
    ∃ W : Nat → Nat → Hp → Prop, (∃ m, W 0 m (L2.upd H1 D (.lst []))) ∧ ∀ i' m H, W i' m H →
      ((Itr lo n).stop i' H ∧ Qd H) ∨ ((Itr lo n).go i' H ∧ ∃ Nx : Hp → Prop, (∀ H', Nx H' → ∃ m', m' < m ∧ W (i' + 1) m' H') ∧ ∀ x H', (Itr lo n).yld i' H x H' → gName i x (wipe σ [i]) H' fun σ2 H2 => wipe σ2 [i] = wipe σ [i] ∧ tYes σ2 H2 fun b H3 =>
        if b = true then te σ2 H3 fun y H4 => ∃ acc, H4 D = some (.lst acc) ∧ acc.length < sizeLine ∧ Nx (L2.upd H4 D (.lst (acc ++ [y]))) else Nx H3) := by
  refine lc_map walk_range ((List.range n).map fun (k : Nat) => V.int (lo + (k : Int))) (fun v => match v with | .int j => f j | _ => .non) hD hn (by rw [List.length_map, List.length_range]) (fun k H x H' hk y => ?_) (fun _ _ => trivial) (fun x H hx s1 Q2 h2 => ?_) (fun H' s h => hq H' s ?_)
  · refine ⟨y.1, ?_⟩
    rw [List.getElem?_map, List.getElem?_range hk, y.2]
    rfl
  · obtain ⟨k, hk, rfl⟩ := List.mem_map.mp hx
    exact hs k H (List.mem_range.mp hk) s1 Q2 h2
  · rw [h, List.map_map]
    rfl
end LK
namespace LK
open PySem PySem.Spec PyProof.Rows L2
section
variable {X : Cx} {K : PySem.W.Frag}
theorem call_isiDK (hK : X.K = K) : CallR X (.builtin "isinstance") (fun xs H Q => ∃ x T d, xs = [x, .ty T] ∧ Dp K H x d ∧ T ∈ ["str", "int", "bool", "list", "tuple"] ∧ Q (.bl (isTy T d)) H) := by
  subst hK
  exact call_isiD
end
end LK
namespace LK
open PySem PySem.Spec PyProof.Rows L2
section
variable {X : Cx}
/-- tuple(x) of a list: a new tuple -/
theorem call_tupleN : CallR X (.type "tuple") (fun xs H Q => ∃ p ys, xs = [.ref p] ∧ SqL X.K H p ys ∧ ∀ q H', Same H H' → H q = none → H' q = some (.tup ys) → Q (.ref q) H') := cr_imp call_tuple_of fun xs H Q h => by
  obtain ⟨p, ys, rfl, h, q⟩ := h
  exact ⟨p, ys, rfl, .inl ⟨h, fun l hl => q l _ (same_upd hl) hl upd_same⟩⟩
end
theorem strs_of {m : Nat} : ∀ {l : List V}, (∀ v ∈ l, ∃ z, v = V.str z ∧ z.length ≤ m) → ∃ zs : List Str, l = zs.map V.str ∧ ∀ z ∈ zs, z.length ≤ m
  | [], _ => ⟨[], rfl, fun z h => absurd h (by simp)⟩
  | v :: l, h => by
    obtain ⟨z, rfl, hz⟩ := h v List.mem_cons_self
    obtain ⟨zs, rfl, hzs⟩ := strs_of (l := l) fun v hv => h v (List.mem_cons_of_mem _ hv)
    refine ⟨z :: zs, rfl, fun y hy => ?_⟩
    rcases List.mem_cons.mp hy with rfl | hy
    · exact hz
    · exact hzs y hy
theorem sum_le {m : Nat} : ∀ {zs : List Str}, (∀ z ∈ zs, z.length ≤ m) → (zs.map (·.length)).sum ≤ zs.length * m
  | [], _ => by simp
  | z :: zs, h => by
    rw [List.map_cons, List.sum_cons, List.length_cons, Nat.succ_mul]
    have h1 := h z List.mem_cons_self
    have h2 := sum_le (zs := zs) fun y hy => h y (List.mem_cons_of_mem _ hy)
    omega
end LK
namespace LK
open PySem PySem.Spec PyProof.Rows L2
theorem joinL_len (S : List Nat) : ∀ ps : List (List Nat), (TL.joinL S ps).length ≤ (ps.map List.length).sum + ps.length * S.length
  | [] => by simp [TL.joinL]
  | [p] => by simp [TL.joinL]
  | p :: q :: r => by
    have ih := joinL_len S (q :: r)
    show (p ++ (S ++ TL.joinL S (q :: r))).length ≤ _
    rw [List.length_append, List.length_append, List.map_cons, List.sum_cons, List.length_cons, Nat.succ_mul]
    omega
theorem join_len (y : Str) (zs : List Str) : (Txt.join y zs).length ≤ (zs.map (·.length)).sum + zs.length * y.length := by
  rw [TL.join_eq, ← len_cps]
  have e := TL.tl_join y zs
  show (TL.tl (Str.join y zs)).length ≤ _
  rw [e]
  refine Nat.le_trans (joinL_len _ _) ?_
  rw [List.map_map, List.length_map]
  have e1 : ((zs.map (List.length ∘ TL.tl))) = zs.map (·.length) := List.map_congr_left fun z _ => len_cps z
  rw [e1]
  show _ + zs.length * (y.cps.toList).length ≤ _
  rw [len_cps]
  exact Nat.le_refl _
/-- the list that lc_draw has made, as texts -/
theorem kp_new {N : Nat} {b c : Addr} {H H1 : Hp} (B : Bag N H b c) (s : Same H H1) : Kp b H H1 ∧ Bag N H1 b c := ⟨Kp.of s, B.same s⟩
theorem hb_new {N : Nat} {b c p : Addr} {H H1 : Hp} {o : HO} (B : Bag N H b c) (h0 : H p = none) (h1 : H1 p = some o) : hb H1 b p = some o := by
  have n : p ≠ b := fun e => by
    obtain ⟨xs, q⟩ := B.at
    rw [e, q] at h0; cases h0
  rw [hb_ne n]; exact h1
end LK
namespace LK
open PySem PySem.Spec PyProof.Rows L2
def isIntV : V → Bool
  | .int _ => true
  | _ => false
theorem ints_of {l : List V} (h : l.all isIntV = true) : ∀ y ∈ l, ∃ i, y = V.int i := fun y hy => by
  have q := List.all_eq_true.mp h y hy
  cases y <;> first | exact ⟨_, rfl⟩ | simp [isIntV] at q
end LK
namespace LK
open PySem PySem.Spec PyProof.Rows L2
theorem nx_op {t : TS} {D : Ends} {σ : L2.St} {H : Hp} (h : ∀ N : L2.St → Hp → Prop, (∀ σ' H', D.nx σ' H' → N σ' H') → t { D with nx := N } σ H) : t D σ H := h D.nx fun _ _ z => z
/-- a test that changes nothing and whose answer does not matter -/
theorem if_any {c : TT} {t u : TS} {D : Ends} {σ : L2.St} {H : Hp} (hc : ∀ K : Bool → Hp → Prop, (∀ b, K b H) → c σ H K) (hA : t D σ H) (hB : u D σ H) : tIfS c t u D σ H := hc _ fun b => by
  cases b
  · exact iteFF (by decide) hB
  · exact iteTT rfl hA
end LK
namespace LK
open PySem PySem.Spec PyProof.Rows L2
theorem if_anyS {c : TT} {t u : TS} {D : Ends} {σ : L2.St} {H : Hp} (hc : ∀ K : Bool → Hp → Prop, (∀ b H1, Same H H1 → K b H1) → c σ H K) (hA : ∀ H1, Same H H1 → t D σ H1) (hB : ∀ H1, Same H H1 → u D σ H1) : tIfS c t u D σ H := hc _ fun b H1 s => by
  cases b
  · exact iteFF (by decide) (hB H1 s)
  · exact iteTT rfl (hA H1 s)
end LK
namespace LK
open PySem PySem.Spec PyProof.Rows L2
theorem if_of {c : TT} {t u : TS} {D : Ends} {σ : L2.St} {H : Hp} (R : Bool → Prop) (hc : ∀ K : Bool → Hp → Prop, (∀ b H1, R b → Same H H1 → K b H1) → c σ H K) (hA : ∀ H1, R true → Same H H1 → t D σ H1) (hB : ∀ H1, R false → Same H H1 → u D σ H1) : tIfS c t u D σ H := hc _ fun b H1 r s => by
  cases b
  · exact iteFF (by decide) (hB H1 r s)
  · exact iteTT rfl (hA H1 r s)
end LK

set_option Elab.async false
set_option linter.all false
set_option maxRecDepth 100000
namespace PySem
open Sem (wp)
open AutoSeq1 (wpAny_loadPart')
/-! ### enumerate of a tuple -/
theorem meets_enumerate_newT (l : Addr) (items : Array Value) (n : Nat) (dct : Option Addr) (sl : Array (Option Value)) :
    Meets (Builtin.«enumerate.__new__» ⟨[.type "enumerate", .ref l], []⟩) (fun _ R s => s.heap.get? l = some { cls := .type "tuple", dict := dct, data := .seq items n, slots := sl } ∧
      R (.ok (.ret (.ref (s.heap.push { cls := .type "tuple_iterator", data := .fields #[.ref l, .int 0 0] }).objs.size)))
        { s with heap := (s.heap.push { cls := .type "tuple_iterator", data := .fields #[.ref l, .int 0 0] }).push { cls := .type "enumerate", data := .fields #[.none, .bool false, .ref s.heap.objs.size, rawInt 0, .none, .none] } }) :=
  .of_wp fun prog w A R s h => by
    obtain ⟨hp, g, d, tk, os⟩ := s; obtain ⟨hl, h⟩ := h
    have hsub := sub_enumerate
    have hL : Heap.IsTuple (Shared.heap ⟨hp, g, d, tk, os⟩) l items := ⟨_, hl, rfl, n, rfl⟩
    wp_walk using wpAny_loadPart' hl
    refine wpAny_stack_any fun st => wpAny_pure ?_
    split
    · rename_i c _ _ _ _ _
      cases (c == Value.type "enumerate")
      · wp_walk using wpAny_loadPart' hl, wpAny_pyIter_tuple hL
        exact ⟨_, rfl, h⟩
      · wp_walk using wpAny_loadPart' hl, wpAny_pyIter_tuple hL
        exact ⟨_, rfl, h⟩
    · wp_walk using wpAny_loadPart' hl, wpAny_pyIter_tuple hL
      exact ⟨_, rfl, h⟩
theorem call_enumerate_tuple {prog : Program} {w : World} {A : Around} {E : Value → Shared → Prop} {s : Shared} {l : Addr} {items : Array Value} {Q : Value → Shared → Prop} (hL : s.heap.IsTuple l items)
    (h : ∀ h', IsEnum h' (s.heap.objs.size + 1) s.heap.objs.size 0 .none → h'.IsTupleIter s.heap.objs.size l 0 → h'.objs.size = s.heap.objs.size + 2 →
      (∀ b o, s.heap.get? b = some o → h'.get? b = some o) → Q (.ref (s.heap.objs.size + 1)) { s with heap := h' }) :
    wpAny (model prog w) A (call (.type "enumerate") [.ref l]) Q E s := by
  obtain ⟨⟨c, dct, dt, sl⟩, hl, hc, n, hd⟩ := hL
  replace hc : c = .type "tuple" := hc
  replace hd : dt = .seq items n := hd
  subst hc hd
  refine callType_new F.called_enumerate (by decide) (F.typeCall_enumerate_1 _) (F.newCall_enumerate_1 _) (fun obj => F.args_object_init_2 obj _) F.entry_enumerate_new
    (meets_enumerate_newT l items n dct sl) ⟨hl, ?_⟩
  have hz : (s.heap.push { cls := .type "tuple_iterator", data := .fields #[.ref l, .int 0 0] }).objs.size = s.heap.objs.size + 1 := Heap.size_push ..
  show _ ∧ _
  rw [hz]
  have he : IsEnum ((s.heap.push { cls := .type "tuple_iterator", data := .fields #[.ref l, .int 0 0] }).push
      { cls := .type "enumerate", data := .fields #[.none, .bool false, .ref s.heap.objs.size, rawInt 0, .none, .none] }) (s.heap.objs.size + 1) s.heap.objs.size 0 .none := by
    have := Heap.get?_push_size (s.heap.push { cls := .type "tuple_iterator", data := .fields #[.ref l, .int 0 0] })
      (o := { cls := .type "enumerate", data := .fields #[.none, .bool false, .ref s.heap.objs.size, rawInt 0, .none, .none] }) rfl
    rw [hz] at this; exact this
  refine ⟨⟨_, he, rfl⟩, h _ he ⟨_, Heap.get?_push_of_some _ (Heap.get?_push_size _ rfl), rfl, rfl⟩ (by rw [Heap.size_push, hz]) fun b o x => Heap.get?_push_of_some _ (Heap.get?_push_of_some _ x)⟩
end PySem
namespace LK
open PySem PySem.Spec PyProof.Rows L2
def Itet (K : PySem.W.Frag) (a : Addr) : It :=
  ⟨fun i H => ∃ (xs : List V) (x : V), SqT K H a xs ∧ xs[i]? = some x, fun i H v H' => ∃ T x, v = .ref T ∧ H T = none ∧ H' = L2.upd H T (.tup [.int (i : Nat), x]) ∧ ∀ xs, SqT K H a xs → xs[i]? = some x, fun i H => ∃ xs : List V, SqT K H a xs ∧ xs.length ≤ i⟩
theorem turn_enumT {P : Program} {w : World} {K : PySem.W.Frag} {elts : List Expr} {kk : Nat} {tpos : Pos} (a e it : Addr) :
    Turn P w K (.Tuple elts kk tpos) (Itet K a) [e, it] e (fun i h => (∃ old, IsEnum h e it ((i : Nat) : Int) old) ∧ h.IsTupleIter it a i ∧ e ≠ it ∧ a ≠ it ∧ a ≠ e) where
  mem := by simp
  obj := fun i h st b hb => by
    obtain ⟨⟨old, he⟩, ⟨o, ho, hc, hd⟩, _⟩ := st
    have e' : b = e ∨ b = it := by simpa using hb
    rcases e' with z | z
    · rw [z]; exact ⟨_, he, fun v q => nomatch q⟩
    · rw [z]; exact ⟨o, ho, fun v q => by rw [hd] at q; cases q⟩
  keep := fun i h h' st k => let ⟨⟨old, he⟩, hi, hne⟩ := st; ⟨⟨old, k e (by simp) _ he⟩, hi.at fun o q => k it (by simp) o q, hne⟩
  item := by
    intro X hP hw hK hc i pins s σ H E I hf st hg
    subst hP hw hK
    obtain ⟨⟨old, he⟩, hit, hne, hai, hae⟩ := st
    obtain ⟨xs, x, hq, hx⟩ := hg
    obtain ⟨its, rv, p, hz⟩ := I.tuple hq
    obtain ⟨u, hu, ru⟩ := rv.get hx
    have hel : e < s.heap.objs.size := Heap.lt_size he
    have hil : it < s.heap.objs.size := by obtain ⟨_, q, _⟩ := hit; exact Heap.lt_size q
    have hil2 : i < its.toArray.size := by
      have := (List.getElem?_eq_some_iff.mp hu).1
      simpa using this
    refine wpAny_pyNext_enum_itemD (Draws.tuple (A := X.A.in1) (I.ok.hd hc) it a hai its.toArray) he ⟨hit, p⟩ hil2 hne (by simp [hne, hae.symm]) fun y h' tk hy ho hit' hT hsz hk => ?_
    have hy : its.toArray[i]? = some y := hy
    rw [show its.toArray[i]? = some u by simpa using hu] at hy
    cases hy
    obtain ⟨hit1, _⟩ := hit'
    refine ⟨_, rfl, wpAny_letOwnedTupleGo_enum (s := { s with heap := h', toks := tk + 1 }) ho fun h'' he' sb => ?_⟩
    have hT2 : h''.get? s.heap.objs.size = some { cls := .type "tuple", data := .seq #[.int i tk, u] } := (sb.2 _ (Nat.ne_of_gt hel)).trans hT
    have new : ObjOk X.prog X.w (L2.upd H s.heap.objs.size (.tup [.int (i : Nat), x])) h'' s.heap.objs.size (.tup [.int (i : Nat), x]) :=
      ⟨by show 2 ≤ sizeLine; decide, [.int i tk, u], .cons ⟨_, rfl⟩ (.cons ru .nil), ⟨_, hT2, rfl, _, rfl⟩⟩
    have I1 : Inv X pins σ (L2.upd H s.heap.objs.size (.tup [.int (i : Nat), x])) { s with heap := h'', toks := tk + 1 } :=
      I.turnedNew (ch := [e, it]) (fun b ob hb q => (sb.2 b (fun z => hb (by simp [z]))).trans (hk b ob (fun z => hb (by simp [z])) (fun z => hb (by simp [z])) q)) hf (Nat.le_refl _) new
    refine ⟨.ref s.heap.objs.size, _, I1, rfl, ⟨_, x, rfl, I.hok.fresh (Nat.le_refl _), rfl, fun ys hy => by rw [I.tuple_inj hy hq]; exact hx⟩, ⟨⟨u, ?_⟩, hit1.at fun o q => (sb.2 it (Ne.symm hne)).trans q, hne, hai, hae⟩, fun b hb => ?_⟩
    · have e1 : ((i + 1 : Nat) : Int) = (i : Int) + 1 := by omega
      rw [e1]; exact he'
    · have hb' : b < s.heap.objs.size := by
        have e' : b = e ∨ b = it := by simpa using hb
        rcases e' with z | z
        · rw [z]; exact hel
        · rw [z]; exact hil
      rw [upd_ne (Nat.ne_of_lt hb')]
      exact (hf b hb).1
  done := by
    intro X hP hw hK hc i pins s σ H E I hf st hg
    subst hP hw hK
    obtain ⟨⟨old, he⟩, hit, hne, hai, hae⟩ := st
    obtain ⟨xs, hq, hx⟩ := hg
    obtain ⟨its, rv, p, hz⟩ := I.tuple hq
    obtain ⟨f0, f1, f2, f3, f4, f5⟩ := hf it (by simp)
    have hl := rv.length
    have hn : its.toArray[i]? = none := by simp; omega
    have hT : s.TypeIs (.ref e) "enumerate" := ⟨_, he, rfl⟩
    unfold pyNext
    refine wpAny_bind (wpAny_attempt (wpAny_callSpecial?_slot (name := Str.ofString "__next__") hT PySem.F.slot_enumerate_next
      (wpAny_call_entry PySem.F.slot_enumerate_next hT PySem.F.entry_enumerate_next ?_ (PySem.F.args_enumerate_next_1 _))))
    show wpAny _ _ (field (.ref e) 2 >>= _) _ _ _
    refine wpAny_bind (wpAny_field he rfl (x := .ref it) rfl ?_)
    refine wpAny_bind (RZ.nextOf_tuple_end (I.ok.hd hc) hit p hn fun h' x eb hx' => ?_)
    obtain ⟨o, ho, hc'⟩ := hx'
    refine wpAny_bind (wpAny_isInstance (T := "StopIteration") (b := true) ⟨o, ho, hc'⟩ isSubtype_stop ?_)
    exact wpAny_pure ⟨rfl, I.turned (t' := s.toks) (fun b o hb q => eb b o hb q) f0 f1 f3 f4 f5⟩
  self := fun A i s Q E st h => let ⟨⟨_, he⟩, _⟩ := st; wpAny_pyIter_enum he h
def iEnumT (K : PySem.W.Frag) (ta : TA) : TI := fun σ H R => ta σ H fun vs H1 => ∃ a xs, vs = [.ref a] ∧ SqT K H1 a xs ∧ R (Itet K a) H1
theorem pi_enumT {X : Cx} {e : Expr} {ta : TA} {p pos tpos : Pos} {elts : List Expr} {kk : Nat} (hg : Gl X "enumerate") (hm : X.mg "enumerate" = none) (ha : PA X [e] ta) (hs : starEach [e] X.env = [(false, eval e X.env)] := by rfl) :
    PI X (.Tuple elts kk tpos) (.Call (.Name "enumerate" p) [e] [] pos) (iEnumT X.K ta) := by
  refine ⟨fun pins s σ H R I h => ?_⟩
  refine Call_ (ld_blt I hg hm boot_enumerate (PyProof.Rows.callWith_type1 (thn (ha.run pos pins s σ H _ I h) fun us s1 ⟨vs, H1, I1, r1, q1⟩ => ?_) hs rfl))
  obtain ⟨a, xs, ex, hq, q⟩ := q1
  subst ex
  cases r1 with
  | cons r rr =>
    cases rr
    cases r
    obtain ⟨its, rv, p', hz⟩ := I1.tuple hq
    have al : a < s1.heap.objs.size := by obtain ⟨_, q, _⟩ := id p'; exact Heap.lt_size q
    refine call_enumerate_tuple p' fun h' he hit hsz hk => wpAny_pyIter_enum he ?_
    have I2 : Inv X pins σ H1 { s1 with heap := h' } := I1.kept (t' := s1.toks) hk
    refine ⟨s1.heap.objs.size + 1, [s1.heap.objs.size + 1, s1.heap.objs.size], _, _, H1, rfl, I2, turn_enumT a (s1.heap.objs.size + 1) s1.heap.objs.size, ⟨⟨.none, he⟩, hit, Nat.succ_ne_self _, Nat.ne_of_lt al, Nat.ne_of_lt (Nat.lt_succ_of_lt al)⟩, fun b hb => ?_, q⟩
    have e' : b = s1.heap.objs.size + 1 ∨ b = s1.heap.objs.size := by simpa using hb
    have hle : s1.heap.objs.size ≤ b := by
      rcases e' with z | z
      · rw [z]; exact Nat.le_add_right _ _
      · rw [z]; exact Nat.le_refl _
    exact I1.fpOk hle (I1.hok.fresh hle)
/-- of a list or a tuple -/
def iEnumLT (K : PySem.W.Frag) (ta : TA) : TI := fun σ H R => iEnum K ta σ H R ∨ iEnumT K ta σ H R
theorem pi_enumLT {X : Cx} {e : Expr} {ta : TA} {p pos tpos : Pos} {elts : List Expr} {kk : Nat} (hg : Gl X "enumerate") (hm : X.mg "enumerate" = none) (ha : PA X [e] ta) (hs : starEach [e] X.env = [(false, eval e X.env)] := by rfl) :
    PI X (.Tuple elts kk tpos) (.Call (.Name "enumerate" p) [e] [] pos) (iEnumLT X.K ta) :=
  ⟨fun pins s σ H R I h => h.elim ((pi_enum hg hm ha hs).run pins s σ H R I) ((pi_enumT hg hm ha hs).run pins s σ H R I)⟩
theorem pi_enumK {X : Cx} {K : PySem.W.Frag} (hK : X.K = K) {e : Expr} {ta : TA} {p pos tpos : Pos} {elts : List Expr} {kk : Nat} (hg : Gl X "enumerate") (hm : X.mg "enumerate" = none) (ha : PA X [e] ta) (hs : starEach [e] X.env = [(false, eval e X.env)] := by rfl) :
    PI X (.Tuple elts kk tpos) (.Call (.Name "enumerate" p) [e] [] pos) (iEnum K ta) := by subst hK; exact pi_enum hg hm ha hs
theorem walk_enumT {K : PySem.W.Frag} {a : Addr} {xs : List V} : Walk (Itet K a) xs.length (fun H => SqT K H a xs) (YPair (fun i => some (.int (i : Nat))) (fun i => xs[i]?)) := by
  refine ⟨fun i _ hi q => ⟨xs, xs[i], q, by simp [hi]⟩, fun _ q => ⟨xs, q, Nat.le_refl _⟩, fun i H v H' _ q y => ?_⟩
  obtain ⟨T, x, h1, h2, h3, h4⟩ := y
  exact ⟨T, _, x, h1, h2, h3, rfl, h4 xs q⟩
end LK

set_option Elab.async false
set_option linter.all false
set_option maxRecDepth 100000
namespace LK
open PySem PySem.Spec PyProof.Rows L2
/-! ### zip of a tuple and a list: two sources of any kind -/
structure Src (p : Program) (w : World) (it l : Addr) (It : Nat → Heap → Prop) (Con : Array Value → Heap → Prop) : Prop where
  mvI : ∀ {i : Nat} {h g : Heap}, It i h → (∀ o, h.get? it = some o → g.get? it = some o) → It i g
  mvC : ∀ {xs : Array Value} {h g : Heap}, Con xs h → (∀ o, h.get? l = some o → g.get? l = some o) → Con xs g
  fld : ∀ {i : Nat} {h : Heap}, It i h → ∃ o fs, h.get? it = some o ∧ o.data = .fields fs
  more : ∀ {A : Around} {E : Value → Shared → Prop} {s : Shared} {i : Nat} {xs : Array Value} {x : Value} {Q : Value → Shared → Prop}, It i s.heap → Con xs s.heap → xs[i]? = some x →
    (∀ g, It (i + 1) g → Heap.SameBut it s.heap g → Q x { s with heap := g }) → wpAny (model p w) A (Builtin.SmallTypes.nextOf (.ref it)) Q E s
  over : ∀ {A : Around} {E : Value → Shared → Prop} {s : Shared} {i : Nat} {xs : Array Value} {Q : Value → Shared → Prop}, A.handled = none → It i s.heap → Con xs s.heap → xs[i]? = none →
    (∀ g e, Heap.ExtBut it s.heap g → (∃ o, g.get? e = some o ∧ o.cls = .type "StopIteration") → E (.ref e) { s with heap := g }) → wpAny (model p w) A (Builtin.SmallTypes.nextOf (.ref it)) Q E s
theorem src_tup (p : Program) (w : World) (it l : Addr) : Src p w it l (fun i h => h.IsTupleIter it l i) (fun xs h => h.IsTuple l xs) where
  mvI := fun a b => a.at b
  mvC := fun a b => a.at b
  fld := fun ⟨o, e, _, d⟩ => ⟨o, _, e, d⟩
  more := fun a b c k => RZ.nextOf_tuple_item a b c k
  over := fun a b c d k => RZ.nextOf_tuple_end a b c d k
theorem src_lst (p : Program) (w : World) (it l : Addr) : Src p w it l (fun i h => h.IsListIter it l i) (fun xs h => h.IsList l xs) where
  mvI := fun a b => a.at b
  mvC := fun a b => a.at b
  fld := fun ⟨o, e, _, d⟩ => ⟨o, _, e, d⟩
  more := fun a b c k => wpAny_nextOf_list_item a b c k
  over := fun a b c d k => wpAny_nextOf_list_end a b c d k
/-- all that a zip holds, at one point of time -/
structure ZS (z TI TO i1 i2 : Addr) (I1 I2 : Nat → Heap → Prop) (C1 C2 : Array Value → Heap → Prop) (xs ys : Array Value) (h : Heap) (f a b : Value) (k1 k2 : Nat) : Prop where
  oz : IsZip h z TI TO f
  ti : IsPair h TI (.ref i1) (.ref i2)
  tt : IsPair h TO a b
  j1 : I1 k1 h
  j2 : I2 k2 h
  c1 : C1 xs h
  c2 : C2 ys h
section
variable {prog : Program} {w : World} {A : Around} {E : Value → Shared → Prop} {s : Shared} {z TI TO i1 i2 l1 l2 : Addr} {I1 I2 : Nat → Heap → Prop} {C1 C2 : Array Value → Heap → Prop} {xs ys : Array Value} {f a b : Value} {k1 k2 : Nat} {h g : Heap}
theorem ZS.atZ (D : ZipApart z TI TO i1 i2 l1 l2) (S1 : Src prog w i1 l1 I1 C1) (S2 : Src prog w i2 l2 I2 C2) (q : ZS z TI TO i1 i2 I1 I2 C1 C2 xs ys h f a b k1 k2) (e : Heap.ExtBut z h g) {f' : Value} (n : IsZip g z TI TO f') : ZS z TI TO i1 i2 I1 I2 C1 C2 xs ys g f' a b k1 k2 :=
  ⟨n, e _ _ D.TIz q.ti, e _ _ D.TOz q.tt, S1.mvI q.j1 fun o => e _ o D.i1z, S2.mvI q.j2 fun o => e _ o D.i2z, S1.mvC q.c1 fun o => e _ o D.l1z, S2.mvC q.c2 fun o => e _ o D.l2z⟩
theorem ZS.atO (D : ZipApart z TI TO i1 i2 l1 l2) (S1 : Src prog w i1 l1 I1 C1) (S2 : Src prog w i2 l2 I2 C2) (q : ZS z TI TO i1 i2 I1 I2 C1 C2 xs ys h f a b k1 k2) (e : Heap.ExtBut TO h g) {a' b' : Value} (n : IsPair g TO a' b') : ZS z TI TO i1 i2 I1 I2 C1 C2 xs ys g f a' b' k1 k2 :=
  ⟨e _ _ D.TOz.symm q.oz, e _ _ D.TITO q.ti, n, S1.mvI q.j1 fun o => e _ o D.TOi1.symm, S2.mvI q.j2 fun o => e _ o D.TOi2.symm, S1.mvC q.c1 fun o => e _ o D.l1TO, S2.mvC q.c2 fun o => e _ o D.l2TO⟩
theorem ZS.at1 (D : ZipApart z TI TO i1 i2 l1 l2) (S1 : Src prog w i1 l1 I1 C1) (S2 : Src prog w i2 l2 I2 C2) (q : ZS z TI TO i1 i2 I1 I2 C1 C2 xs ys h f a b k1 k2) (e : Heap.ExtBut i1 h g) {k : Nat} (n : I1 k g) : ZS z TI TO i1 i2 I1 I2 C1 C2 xs ys g f a b k k2 :=
  ⟨e _ _ D.i1z.symm q.oz, e _ _ D.TIi1 q.ti, e _ _ D.TOi1 q.tt, n, S2.mvI q.j2 fun o => e _ o D.i12.symm, S1.mvC q.c1 fun o => e _ o D.l1i1, S2.mvC q.c2 fun o => e _ o D.l2i1⟩
theorem ZS.at2 (D : ZipApart z TI TO i1 i2 l1 l2) (S1 : Src prog w i1 l1 I1 C1) (S2 : Src prog w i2 l2 I2 C2) (q : ZS z TI TO i1 i2 I1 I2 C1 C2 xs ys h f a b k1 k2) (e : Heap.ExtBut i2 h g) {k : Nat} (n : I2 k g) : ZS z TI TO i1 i2 I1 I2 C1 C2 xs ys g f a b k1 k :=
  ⟨e _ _ D.i2z.symm q.oz, e _ _ D.TIi2 q.ti, e _ _ D.TOi2 q.tt, S1.mvI q.j1 fun o => e _ o D.i12, n, S1.mvC q.c1 fun o => e _ o D.l1i2, S2.mvC q.c2 fun o => e _ o D.l2i2⟩
/-- what lies beside the zip stays -/
def Stay (z TO i1 i2 : Addr) (h g : Heap) : Prop := ∀ c o, c ≠ z → c ≠ TO → c ≠ i1 → c ≠ i2 → h.get? c = some o → g.get? c = some o
theorem Stay.tr {h1 h2 h3 : Heap} (p : Stay z TO i1 i2 h1 h2) (q : Stay z TO i1 i2 h2 h3) : Stay z TO i1 i2 h1 h3 := fun c o n1 n2 n3 n4 e => q c o n1 n2 n3 n4 (p c o n1 n2 n3 n4 e)
theorem Stay.zz (e : Heap.ExtBut z h g) : Stay z TO i1 i2 h g := fun c o n1 _ _ _ => e c o n1
theorem Stay.o (e : Heap.ExtBut TO h g) : Stay z TO i1 i2 h g := fun c o _ n2 _ _ => e c o n2
theorem Stay.i (e : Heap.ExtBut i1 h g) : Stay z TO i1 i2 h g := fun c o _ _ n3 _ => e c o n3
theorem Stay.j (e : Heap.ExtBut i2 h g) : Stay z TO i1 i2 h g := fun c o _ _ _ n4 => e c o n4
theorem zm_item {x y : Value} {Q : Value → Shared → Prop} (D : ZipApart z TI TO i1 i2 l1 l2) (S1 : Src prog w i1 l1 I1 C1) (S2 : Src prog w i2 l2 I2 C2) (q0 : ZS z TI TO i1 i2 I1 I2 C1 C2 xs ys s.heap .none a b k1 k2) (hx : xs[k1]? = some x) (hy : ys[k2]? = some y)
    (k : ∀ g, ZS z TI TO i1 i2 I1 I2 C1 C2 xs ys g (rawInt s.heap.objs.size) x y (k1 + 1) (k2 + 1) → IsPair g s.heap.objs.size x y → g.objs.size = s.heap.objs.size + 1 → Stay z TO i1 i2 s.heap g → Q (.ref s.heap.objs.size) { s with heap := g }) :
    wpAny (model prog w) A (Builtin.«zip.__next__» ⟨[.ref z], []⟩) (fun r s' => ∃ v, r = .done (.ret v) ∧ Q v s') E s := by
  have oz := q0.oz
  show wpAny (model prog w) _ (field (.ref z) 2 >>= _) _ E _
  refine wpAny_bind (wpAny_field oz rfl (x := .bool false) rfl ?_)
  show wpAny (model prog w) _ (field (.ref z) 3 >>= _) _ E _
  refine wpAny_bind (wpAny_field oz rfl (x := .ref TI) rfl (wpAny_bind (wpAny_seqItems q0.ti rfl ?_)))
  show wpAny (model prog w) _ (Builtin.SmallTypes.ownedTupleIsFree (.ref z) >>= _) _ E _; unfold Builtin.SmallTypes.ownedTupleIsFree
  refine wpAny_bind (wpAny_bind (wpAny_field oz rfl (x := .none) rfl (wpAny_pure ?_)))
  simp only [if_true]
  refine wpAny_bind (wpAny_rule (wpAny_bind (wpAny_field oz rfl (x := .ref TO) rfl (wpAny_bind (wpAny_setField_rec oz (by simp) fun g1 z1 e1 => ?_)))))
  have q1 := q0.atZ D S1 S2 e1.extBut (f' := .ellipsis) z1
  have t1 : Stay z TO i1 i2 s.heap g1 := .zz e1.extBut
  simp only [List.forIn_cons, List.forIn_nil, List.zipIdx_cons, List.zipIdx_nil]
  refine wpAny_bind (wpAny_bind (wpAny_bind (wpAny_onRaise ?_)))
  show wpAny (model prog w) _ (Builtin.SmallTypes.nextOf (.ref i1) >>= _) _ _ _
  refine wpAny_bind (S1.more q1.j1 q1.c1 hx fun g2 n2 e2 => wpAny_pure ?_)
  have q2 := q1.at1 D S1 S2 e2.extBut n2
  have t2 := t1.tr (.i e2.extBut)
  refine wpAny_bind (wpAny_seqItems q2.tt rfl (wpAny_bind (wpAny_updateSeq_pair q2.tt fun g3 n3 e3 => ?_)))
  have q3 := q2.atO D S1 S2 e3.extBut (a' := x) (b' := b) n3
  have t3 := t2.tr (.o e3.extBut)
  refine wpAny_bind (wpAny_letGo (wpAny_pure (wpAny_bind (wpAny_bind (wpAny_onRaise ?_)))))
  show wpAny (model prog w) _ (Builtin.SmallTypes.nextOf (.ref i2) >>= _) _ _ _
  refine wpAny_bind (S2.more q3.j2 q3.c2 hy fun g4 n4 e4 => wpAny_pure ?_)
  have q4 := q3.at2 D S1 S2 e4.extBut n4
  have t4 := t3.tr (.j e4.extBut)
  refine wpAny_bind (wpAny_seqItems q4.tt rfl (wpAny_bind (wpAny_updateSeq_pair q4.tt fun g5 n5 e5 => ?_)))
  have q5 := q4.atO D S1 S2 e5.extBut (a' := x) (b' := y) n5
  have t5 := t4.tr (.o e5.extBut)
  have sz : g5.objs.size = s.heap.objs.size := by rw [e5.1, e4.1, e3.1, e2.1, e1.1]
  refine wpAny_bind (wpAny_letGo (wpAny_pure (wpAny_pure (wpAny_bind (wpAny_seqItems q5.tt rfl (wpAny_bind (wpAny_newTuple ?_)))))))
  show wpAny (model prog w) _ (Builtin.SmallTypes.ownedTupleHandOut (.ref z) (.ref g5.objs.size) >>= _) _ E _; unfold Builtin.SmallTypes.ownedTupleHandOut
  have pz : IsZip (g5.push { cls := .type "tuple", data := .seq #[x, y] }) z TI TO .ellipsis := Heap.get?_push_of_some _ q5.oz
  refine wpAny_bind (wpAny_bind (wpAny_setField_rec pz (by simp) fun g7 z7 e7 => ?_))
  have z7' : IsZip g7 z TI TO (rawInt g5.objs.size) := z7
  refine wpAny_setField_rec z7' (by simp) fun g8 z8 e8 => ?_
  have z8' : IsZip g8 z TI TO (rawInt g5.objs.size) := z8
  have e58 : Heap.ExtBut z g5 g8 := fun c o n e => e8.extBut _ _ n (e7.extBut _ _ n (Heap.get?_push_of_some _ e))
  have q8 := q5.atZ D S1 S2 e58 z8'
  have nz : g5.objs.size ≠ z := Nat.ne_of_gt (Heap.lt_size q5.oz)
  have p8 : IsPair g8 g5.objs.size x y := e8.extBut _ _ nz (e7.extBut _ _ nz (Heap.get?_push_size _ rfl))
  have s8 : g8.objs.size = g5.objs.size + 1 := by rw [e8.1, e7.1, Heap.size_push]
  refine wpAny_pure ⟨.ref g5.objs.size, rfl, ?_⟩
  rw [sz] at q8 p8 s8 ⊢
  exact k g8 q8 p8 s8 (t5.tr (.zz e58))
/-- the last turn: one of the two has no more -/
theorem zm_end {Q : Fin → Shared → Prop} (hh : A.handled = none) (D : ZipApart z TI TO i1 i2 l1 l2) (S1 : Src prog w i1 l1 I1 C1) (S2 : Src prog w i2 l2 I2 C2) (q0 : ZS z TI TO i1 i2 I1 I2 C1 C2 xs ys s.heap .none a b k1 k2) (he : xs[k1]? = none ∨ ys[k2]? = none)
    (k : ∀ g e, Stay z TO i1 i2 s.heap g → (∃ o, g.get? e = some o ∧ o.cls = .type "StopIteration") → E (.ref e) { s with heap := g }) : wpAny (model prog w) A (Builtin.«zip.__next__» ⟨[.ref z], []⟩) Q E s := by
  have oz := q0.oz
  show wpAny (model prog w) _ (field (.ref z) 2 >>= _) _ E _
  refine wpAny_bind (wpAny_field oz rfl (x := .bool false) rfl ?_)
  show wpAny (model prog w) _ (field (.ref z) 3 >>= _) _ E _
  refine wpAny_bind (wpAny_field oz rfl (x := .ref TI) rfl (wpAny_bind (wpAny_seqItems q0.ti rfl ?_)))
  show wpAny (model prog w) _ (Builtin.SmallTypes.ownedTupleIsFree (.ref z) >>= _) _ E _; unfold Builtin.SmallTypes.ownedTupleIsFree
  refine wpAny_bind (wpAny_bind (wpAny_field oz rfl (x := .none) rfl (wpAny_pure ?_)))
  simp only [if_true]
  refine wpAny_bind (wpAny_rule (wpAny_bind (wpAny_field oz rfl (x := .ref TO) rfl (wpAny_bind (wpAny_setField_rec oz (by simp) fun g1 z1 e1 => ?_)))))
  have q1 := q0.atZ D S1 S2 e1.extBut (f' := .ellipsis) z1
  have t1 : Stay z TO i1 i2 s.heap g1 := .zz e1.extBut
  have fin : ∀ {g2 : Heap} {e : Addr}, IsZip g2 z TI TO .ellipsis → Stay z TO i1 i2 s.heap g2 → (∃ o, g2.get? e = some o ∧ o.cls = .type "StopIteration") → ∀ g3, Heap.SameBut z g2 g3 → E (.ref e) { s with heap := g3 } := fun z2 t2 ⟨o, h1, h2⟩ g3 e3 =>
    k _ _ (t2.tr (.zz e3.extBut)) ⟨o, e3.extBut _ _ (fun n => by subst n; rw [z2] at h1; cases h1; simp at h2) h1, h2⟩
  simp only [List.forIn_cons, List.forIn_nil, List.zipIdx_cons, List.zipIdx_nil]
  refine wpAny_bind (wpAny_bind (wpAny_bind (wpAny_onRaise ?_)))
  show wpAny (model prog w) _ (Builtin.SmallTypes.nextOf (.ref i1) >>= _) _ _ _
  by_cases hx : xs[k1]? = none
  · refine wpAny_bind (S1.over hh q1.j1 q1.c1 hx fun g2 e e2 so => ?_)
    have z2 := e2 _ _ D.i1z.symm q1.oz
    exact wpAny_setField_rec z2 (by simp) fun g3 _ e3 => fin z2 (t1.tr (.i e2)) so g3 e3
  · obtain ⟨x, hx1⟩ := Option.ne_none_iff_exists'.mp hx
    have hy := he.resolve_left hx
    refine wpAny_bind (S1.more q1.j1 q1.c1 hx1 fun g2 n2 e2 => wpAny_pure ?_)
    have q2 := q1.at1 D S1 S2 e2.extBut n2
    refine wpAny_bind (wpAny_seqItems q2.tt rfl (wpAny_bind (wpAny_updateSeq_pair q2.tt fun g3 n3 e3 => ?_)))
    have q3 := q2.atO D S1 S2 e3.extBut (a' := x) (b' := b) n3
    refine wpAny_bind (wpAny_letGo (wpAny_pure (wpAny_bind (wpAny_bind (wpAny_onRaise ?_)))))
    show wpAny (model prog w) _ (Builtin.SmallTypes.nextOf (.ref i2) >>= _) _ _ _
    refine wpAny_bind (S2.over hh q3.j2 q3.c2 hy fun g4 e e4 so => ?_)
    have z4 := e4 _ _ D.i2z.symm q3.oz
    exact wpAny_setField_rec z4 (by simp) fun g5 _ e5 => fin z4 (((t1.tr (.i e2.extBut)).tr (.o e3.extBut)).tr (.j e4)) so g5 e5
theorem zm_next {x y : Value} {Q : Option Value → Shared → Prop} (D : ZipApart z TI TO i1 i2 l1 l2) (S1 : Src prog w i1 l1 I1 C1) (S2 : Src prog w i2 l2 I2 C2) (q0 : ZS z TI TO i1 i2 I1 I2 C1 C2 xs ys s.heap .none a b k1 k2) (hx : xs[k1]? = some x) (hy : ys[k2]? = some y)
    (k : ∀ g, ZS z TI TO i1 i2 I1 I2 C1 C2 xs ys g (rawInt s.heap.objs.size) x y (k1 + 1) (k2 + 1) → IsPair g s.heap.objs.size x y → g.objs.size = s.heap.objs.size + 1 → Stay z TO i1 i2 s.heap g → Q (some (.ref s.heap.objs.size)) { s with heap := g }) : wpAny (model prog w) A (pyNext (.ref z)) Q E s := by
  have ty : s.TypeIs (.ref z) "zip" := ⟨_, q0.oz, rfl⟩
  unfold pyNext
  exact wpAny_bind (wpAny_attempt (wpAny_callSpecial?_slot (name := Str.ofString "__next__") ty F.slot_zip_next (wpAny_call_entry F.slot_zip_next ty F.entry_zip_next (zm_item D S1 S2 q0 hx hy fun g p1 p2 p3 p4 => wpAny_pure (k g p1 p2 p3 p4)) (F.args_zip_next_1 _))))
theorem zm_stop {Q : Option Value → Shared → Prop} (hh : A.handled = none) (D : ZipApart z TI TO i1 i2 l1 l2) (S1 : Src prog w i1 l1 I1 C1) (S2 : Src prog w i2 l2 I2 C2) (q0 : ZS z TI TO i1 i2 I1 I2 C1 C2 xs ys s.heap .none a b k1 k2) (he : xs[k1]? = none ∨ ys[k2]? = none)
    (k : ∀ g, Stay z TO i1 i2 s.heap g → Q none { s with heap := g }) : wpAny (model prog w) A (pyNext (.ref z)) Q E s := by
  have ty : s.TypeIs (.ref z) "zip" := ⟨_, q0.oz, rfl⟩
  unfold pyNext
  refine wpAny_bind (wpAny_attempt (wpAny_callSpecial?_slot (name := Str.ofString "__next__") ty F.slot_zip_next (wpAny_call_entry F.slot_zip_next ty F.entry_zip_next (zm_end hh D S1 S2 q0 he fun g e st so => ?_) (F.args_zip_next_1 _))))
  obtain ⟨o, h1, h2⟩ := so
  exact wpAny_bind (wpAny_isInstance (T := "StopIteration") (b := true) ⟨o, h1, h2⟩ isSubtype_stop (wpAny_pure (k _ st)))
end
/-- the five new objects of zip(tuple, list) -/
def zp1 (h : Heap) (l1 : Addr) : Heap := h.push { cls := .type "tuple_iterator", data := .fields #[.ref l1, .int 0 0] }
def zp2 (h : Heap) (l1 l2 : Addr) : Heap := (zp1 h l1).push { cls := .type "list_iterator", data := .fields #[.ref l2, .int 0 0] }
def zp3 (h : Heap) (l1 l2 : Addr) : Heap := (zp2 h l1 l2).push { cls := .type "tuple", data := .seq #[.ref h.objs.size, .ref (zp1 h l1).objs.size] }
def zp4 (h : Heap) (l1 l2 : Addr) : Heap := (zp3 h l1 l2).push { cls := .type "tuple", data := .seq #[.none, .none] }
def zp5 (h : Heap) (l1 l2 : Addr) : Heap := (zp4 h l1 l2).push { cls := .type "zip", data := .fields #[.none, .bool false, .bool false, .ref (zp2 h l1 l2).objs.size, .ref (zp3 h l1 l2).objs.size] }
theorem zp_new (l1 l2 : Addr) (xs ys : Array Value) : Meets (Builtin.«zip.__new__» ⟨[.type "zip", .ref l1, .ref l2], []⟩) fun _ R s => s.heap.IsTuple l1 xs ∧ s.heap.IsList l2 ys ∧ R (.ok (.ret (.ref (zp4 s.heap l1 l2).objs.size))) { s with heap := zp5 s.heap l1 l2 } :=
  .of_wp fun pr wd ar R s h => by
    obtain ⟨hp, gl, dd, tk, os⟩ := s
    obtain ⟨h1, h2, h⟩ := h
    have hsub := sub_zip
    have t1 : Heap.IsTuple (Shared.heap ⟨hp, gl, dd, tk, os⟩) l1 xs := h1
    have t2 : Heap.IsList (Shared.heap ⟨hp.push { cls := .type "tuple_iterator", data := .fields #[.ref l1, .int 0 0] }, gl, dd, tk, os⟩) l2 ys := Heap.IsList.push h2 _
    wp_walk using wpAny_pyIter_tuple t1, wpAny_pyIter_list t2
    exact ⟨_, rfl, h⟩
section
variable {prog : Program} {w : World} {s : Shared} {A : Around} {E : Value → Shared → Prop}
theorem call_zipM {l1 l2 : Addr} {xs ys : Array Value} {Q : Value → Shared → Prop} (h1 : s.heap.IsTuple l1 xs) (h2 : s.heap.IsList l2 ys)
    (k : ∀ g, IsZip g (s.heap.objs.size + 4) (s.heap.objs.size + 2) (s.heap.objs.size + 3) .none → IsPair g (s.heap.objs.size + 2) (.ref s.heap.objs.size) (.ref (s.heap.objs.size + 1)) → IsPair g (s.heap.objs.size + 3) .none .none →
      g.IsTupleIter s.heap.objs.size l1 0 → g.IsListIter (s.heap.objs.size + 1) l2 0 → (∀ c o, s.heap.get? c = some o → g.get? c = some o) → Q (.ref (s.heap.objs.size + 4)) { s with heap := g }) : wpAny (model prog w) A (call (.type "zip") [.ref l1, .ref l2]) Q E s := by
  refine callType_new F.called_zip (by decide) (F.typeCall_zip_2 _ _) (F.newCall_zip_2 _ _) (fun obj => F.args_object_init_3 obj _ _) F.entry_zip_new (zp_new l1 l2 xs ys) ⟨h1, h2, ?_⟩
  have n1 : (zp1 s.heap l1).objs.size = s.heap.objs.size + 1 := Heap.size_push _ _
  have n2 : (zp2 s.heap l1 l2).objs.size = s.heap.objs.size + 2 := (Heap.size_push _ _).trans (by rw [n1])
  have n3 : (zp3 s.heap l1 l2).objs.size = s.heap.objs.size + 3 := (Heap.size_push _ _).trans (by rw [n2])
  have n4 : (zp4 s.heap l1 l2).objs.size = s.heap.objs.size + 4 := (Heap.size_push _ _).trans (by rw [n3])
  have m5 : IsZip (zp5 s.heap l1 l2) (zp4 s.heap l1 l2).objs.size (zp2 s.heap l1 l2).objs.size (zp3 s.heap l1 l2).objs.size .none := Heap.get?_push_size _ rfl
  have m4 : IsPair (zp5 s.heap l1 l2) (zp3 s.heap l1 l2).objs.size .none .none := Heap.get?_push_of_some _ (Heap.get?_push_size _ rfl)
  have m3 : IsPair (zp5 s.heap l1 l2) (zp2 s.heap l1 l2).objs.size (.ref s.heap.objs.size) (.ref (zp1 s.heap l1).objs.size) := Heap.get?_push_of_some _ (Heap.get?_push_of_some _ (Heap.get?_push_size _ rfl))
  have m2 : (zp5 s.heap l1 l2).IsListIter (zp1 s.heap l1).objs.size l2 0 := ⟨_, Heap.get?_push_of_some _ (Heap.get?_push_of_some _ (Heap.get?_push_of_some _ (Heap.get?_push_size _ rfl))), rfl, rfl⟩
  have m1 : (zp5 s.heap l1 l2).IsTupleIter s.heap.objs.size l1 0 := ⟨_, Heap.get?_push_of_some _ (Heap.get?_push_of_some _ (Heap.get?_push_of_some _ (Heap.get?_push_of_some _ (Heap.get?_push_size _ rfl)))), rfl, rfl⟩
  have m0 : ∀ c o, s.heap.get? c = some o → (zp5 s.heap l1 l2).get? c = some o := fun c o e => Heap.get?_push_of_some _ (Heap.get?_push_of_some _ (Heap.get?_push_of_some _ (Heap.get?_push_of_some _ (Heap.get?_push_of_some _ e))))
  rw [n2, n3, n4] at m5
  rw [n3] at m4
  rw [n2, n1] at m3
  rw [n1] at m2
  show _ ∧ _
  rw [n4]
  exact ⟨⟨_, m5, rfl⟩, k _ m5 m3 m4 m1 m2 m0⟩
end
def ItzM (K : PySem.W.Frag) (a b : Addr) : It where
  go := fun i H => ∃ (xs ys : List V) (x y : V), SqT K H a xs ∧ SqL K H b ys ∧ xs[i]? = some x ∧ ys[i]? = some y
  yld := fun i H v H' => ∃ T x y, v = .ref T ∧ H T = none ∧ H' = L2.upd H T (.tup [x, y]) ∧ (∀ xs, SqT K H a xs → xs[i]? = some x) ∧ ∀ ys, SqL K H b ys → ys[i]? = some y
  stop := fun i H => ∃ xs ys : List V, SqT K H a xs ∧ SqL K H b ys ∧ (xs.length ≤ i ∨ ys.length ≤ i)
def tnM (z TI TO i1 i2 a b : Addr) (i : Nat) (h : Heap) : Prop := ∃ x y, IsZip h z TI TO .none ∧ IsPair h TI (.ref i1) (.ref i2) ∧ IsPair h TO x y ∧ h.IsTupleIter i1 a i ∧ h.IsListIter i2 b i
theorem turn_zipM {P : Program} {w : World} {K : PySem.W.Frag} {elts : List Expr} {kk : Nat} {tpos : Pos} {a b z TI TO i1 i2 : Addr} (D : ZipApart z TI TO i1 i2 a b) : Turn P w K (.Tuple elts kk tpos) (ItzM K a b) [z, TI, TO, i1, i2] z (tnM z TI TO i1 i2 a b) where
  mem := List.mem_cons_self
  obj := fun i h ⟨x, y, h1, h2, h3, h4, h5⟩ c hc => by
    obtain ⟨o4, f4, e4, d4⟩ := (src_tup P w i1 a).fld h4
    obtain ⟨o5, f5, e5, d5⟩ := (src_lst P w i2 b).fld h5
    simp only [List.mem_cons, List.not_mem_nil, or_false] at hc
    rcases hc with rfl | rfl | rfl | rfl | rfl
    · exact ⟨_, h1, fun v q => nomatch q⟩
    · exact ⟨_, h2, fun v q => nomatch q⟩
    · exact ⟨_, h3, fun v q => nomatch q⟩
    · exact ⟨o4, e4, fun v q => by rw [d4] at q; cases q⟩
    · exact ⟨o5, e5, fun v q => by rw [d5] at q; cases q⟩
  keep := fun i h g ⟨x, y, h1, h2, h3, h4, h5⟩ k => ⟨x, y, k z (by simp) _ h1, k TI (by simp) _ h2, k TO (by simp) _ h3, (src_tup P w i1 a).mvI h4 fun o => k i1 (by simp) o, (src_lst P w i2 b).mvI h5 fun o => k i2 (by simp) o⟩
  item := by
    rintro X rfl rfl rfl hc i pins s σ H E I hf ⟨x0, y0, h1, h2, h3, h4, h5⟩ ⟨xs, ys, x, y, qx, qy, ex, ey⟩
    obtain ⟨its, rv, p, _⟩ := I.tuple qx
    obtain ⟨jts, rw', p', _⟩ := I.list qy
    obtain ⟨u, eu, ru⟩ := rv.get ex
    obtain ⟨v, ev, rvv⟩ := rw'.get ey
    refine zm_next D (src_tup X.prog X.w i1 a) (src_lst X.prog X.w i2 b) ⟨h1, h2, h3, h4, h5, (show s.heap.IsTuple a its.toArray from p), p'.isList⟩ (x := u) (y := v) (by simpa using eu) (by simpa using ev) fun g q pp sz st => ⟨_, rfl, wpAny_letOwnedTupleGo_zip (s := { s with heap := g }) q.oz fun g2 z2 e2 => ?_⟩
    have q2 := q.atZ D (src_tup X.prog X.w i1 a) (src_lst X.prog X.w i2 b) e2.extBut z2
    have nz : s.heap.objs.size ≠ z := Nat.ne_of_gt (Heap.lt_size h1)
    have pp2 : IsPair g2 s.heap.objs.size u v := e2.extBut _ _ nz pp
    have ok : ObjOk X.prog X.w (L2.upd H s.heap.objs.size (.tup [x, y])) g2 s.heap.objs.size (.tup [x, y]) := ⟨by show 2 ≤ sizeLine; decide, [u, v], .cons ru (.cons rvv .nil), ⟨_, pp2, rfl, _, rfl⟩⟩
    have st2 : Stay z TO i1 i2 s.heap g2 := st.tr (.zz e2.extBut)
    have I2 : Inv X pins σ (L2.upd H s.heap.objs.size (.tup [x, y])) { s with heap := g2 } := I.turnedNew (t' := s.toks) (ch := [z, TI, TO, i1, i2]) (fun c o hb e => st2 c o (fun n => hb (by simp [n])) (fun n => hb (by simp [n])) (fun n => hb (by simp [n])) (fun n => hb (by simp [n])) e) hf (Nat.le_refl _) ok
    refine ⟨.ref s.heap.objs.size, _, I2, rfl, ⟨_, x, y, rfl, I.hok.fresh (Nat.le_refl _), rfl, fun l hl => by rw [I.tuple_inj hl qx]; exact ex, fun l hl => by rw [I.list_inj hl qy]; exact ey⟩, ⟨u, v, q2.oz, q2.ti, q2.tt, q2.j1, q2.j2⟩, fun c hcm => ?_⟩
    have lt : c < s.heap.objs.size := by
      obtain ⟨o4, _, e4, _⟩ := (src_tup X.prog X.w i1 a).fld h4
      obtain ⟨o5, _, e5, _⟩ := (src_lst X.prog X.w i2 b).fld h5
      have m := hcm
      simp only [List.mem_cons, List.not_mem_nil, or_false] at m
      rcases m with rfl | rfl | rfl | rfl | rfl
      · exact Heap.lt_size h1
      · exact Heap.lt_size h2
      · exact Heap.lt_size h3
      · exact Heap.lt_size e4
      · exact Heap.lt_size e5
    rw [upd_ne (Nat.ne_of_lt lt)]
    exact (hf c hcm).1
  done := by
    rintro X rfl rfl rfl hc i pins s σ H E I hf ⟨x0, y0, h1, h2, h3, h4, h5⟩ ⟨xs, ys, qx, qy, he⟩
    obtain ⟨its, rv, p, _⟩ := I.tuple qx
    obtain ⟨jts, rw', p', _⟩ := I.list qy
    have l1 := rv.length
    have l2 := rw'.length
    refine zm_stop (I.ok.hd hc) D (src_tup X.prog X.w i1 a) (src_lst X.prog X.w i2 b) ⟨h1, h2, h3, h4, h5, (show s.heap.IsTuple a its.toArray from p), p'.isList⟩ (he.imp (fun l => by simp; omega) fun l => by simp; omega) fun g st => ⟨rfl, I.turnedL (t' := s.toks) (ch := [z, TI, TO, i1, i2]) (fun c o hb e => st c o (fun n => hb (by simp [n])) (fun n => hb (by simp [n])) (fun n => hb (by simp [n])) (fun n => hb (by simp [n])) e) hf⟩
  self := fun A i s Q E ⟨_, _, h1, _⟩ k => wpAny_pyIter_zip h1 k
def iZipM (K : PySem.W.Frag) (ta : TA) : TI := fun σ H R => ta σ H fun vs H1 => ∃ a b xs ys, vs = [.ref a, .ref b] ∧ SqT K H1 a xs ∧ SqL K H1 b ys ∧ R (ItzM K a b) H1
theorem pi_zipM {X : Cx} {e e2 : Expr} {ta : TA} {p pos tpos : Pos} {elts : List Expr} {kk : Nat} (hg : Gl X "zip") (hm : X.mg "zip" = none) (ha : PA X [e, e2] ta) (hs : starEach [e, e2] X.env = (false, eval e X.env) :: starEach [e2] X.env := by rfl) (hpl : (backTo pos (starEach [e2] X.env)).any (·.1) = false := by rfl) :
    PI X (.Tuple elts kk tpos) (.Call (.Name "zip" p) [e, e2] [] pos) (iZipM X.K ta) := by
  refine ⟨fun pins s σ H R I h => Call_ (ld_blt I hg hm PyProof.Rows.boot_zip (PyProof.Rows.callWith_type1 (thn (ha.run pos pins s σ H _ I h) fun us s1 ⟨vs, H1, I1, r1, a, b, xs, ys, ex, qx, qy, q⟩ => ?_) hs hpl))⟩
  subst ex
  obtain _ | ⟨r, r'⟩ := r1
  obtain _ | ⟨r2, r''⟩ := r'
  cases r''
  cases r
  cases r2
  obtain ⟨its, rv, p1, _⟩ := I1.tuple qx
  obtain ⟨jts, rw', p2, _⟩ := I1.list qy
  obtain ⟨o1, ho1, _⟩ := id p1
  refine call_zipM (show s1.heap.IsTuple a its.toArray from p1) p2.isList fun g z1 z2 z3 z4 z5 k => wpAny_pyIter_zip z1 ?_
  have I2 : Inv X pins σ H1 { s1 with heap := g } := I1.kept (t' := s1.toks) k
  refine ⟨s1.heap.objs.size + 4, [s1.heap.objs.size + 4, s1.heap.objs.size + 2, s1.heap.objs.size + 3, s1.heap.objs.size, s1.heap.objs.size + 1], _, _, H1, rfl, I2, turn_zipM (PySem.W.ktu_apart s1.heap.objs.size a b (Heap.lt_size ho1) p2.lt), ⟨_, _, z1, z2, z3, z4, z5⟩, fun c hc => ?_, q⟩
  have le : s1.heap.objs.size ≤ c := by
    simp only [List.mem_cons, List.not_mem_nil, or_false] at hc
    rcases hc with rfl | rfl | rfl | rfl | rfl
    · exact Nat.le_add_right _ _
    · exact Nat.le_add_right _ _
    · exact Nat.le_add_right _ _
    · exact Nat.le_refl _
    · exact Nat.le_add_right _ _
  exact I1.fpOk le (I1.hok.fresh le)
theorem walk_zipM {K : PySem.W.Frag} {a b : Addr} {xs ys : List V} {n : Nat} (hx : xs.length = n) (hy : ys.length = n) : Walk (ItzM K a b) n (fun H => SqT K H a xs ∧ SqL K H b ys) (YPair (fun i => xs[i]?) fun i => ys[i]?) where
  goes := fun i _ hi q => ⟨xs, ys, xs[i]'(by omega), ys[i]'(by omega), q.1, q.2, List.getElem?_eq_getElem _, List.getElem?_eq_getElem _⟩
  stops := fun _ q => ⟨xs, ys, q.1, q.2, .inl (by omega)⟩
  yields := fun i H v H' _ q ⟨T, x, y, h1, h2, h3, h4, h5⟩ => ⟨T, x, y, h1, h2, h3, h4 xs q.1, h5 ys q.2⟩
end LK

set_option Elab.async false
set_option linter.all false
set_option maxRecDepth 100000
namespace LK
open PySem PySem.Spec PyProof.Rows L2
/-! ### rules with K in the place of X.K -/
section
variable {X : Cx} {K : PySem.W.Frag}
/-- of a list or a tuple -/
def rIxLT (K : PySem.W.Frag) : R2 := fun x y H Q => ∃ p xs i z, x = .ref p ∧ y = .int i ∧ (SqL K H p xs ∨ SqT K H p xs) ∧ atI xs i = some z ∧ Q z H
theorem ix_lt : IxR X (rIxLT X.K) := by
  intro value slice pins s σ H x y v u Q I rx ry h hs
  obtain ⟨p, xs, i, z, e1, e2, hq | hq, he, q⟩ := h
  · exact ix_list value slice pins s σ H x y v u Q I rx ry ⟨p, xs, i, z, e1, e2, hq, he, q⟩ hs
  · exact ix_tup value slice pins s σ H x y v u Q I rx ry ⟨p, xs, i, z, e1, e2, hq, he, q⟩ hs
theorem ix_ltK (hK : X.K = K) : IxR X (rIxLT K) := by subst hK; exact ix_lt
theorem ix_listK (hK : X.K = K) : IxR X (rIxL K) := by subst hK; exact ix_list
theorem ix_tupK (hK : X.K = K) : IxR X (rIxT K) := by subst hK; exact ix_tup
theorem sl_tupUK (hK : X.K = K) : SlR X (rSlU K) := by subst hK; exact sl_tupU
theorem sl_listUK (hK : X.K = K) : SlR X (rSlLU K) := by subst hK; exact sl_listU
theorem op_catUK (hK : X.K = K) : OpR X (binaryOp .Add) (rCatU K) := by subst hK; exact op_catU
theorem op_eqDK (hK : X.K = K) (hu : X.A.units + 64 < cLine) : OpR X (compareOp .Eq) (rEqD K) := by subst hK; exact op_eqD hu
theorem op_neDK (hK : X.K = K) (hu : X.A.units + 64 < cLine) : OpR X (compareOp .NotEq) (rNeD K) := by subst hK; exact op_neD hu
theorem call_tupleNK (hK : X.K = K) : CallR X (.type "tuple") (fun xs H Q => ∃ p ys, xs = [.ref p] ∧ SqL K H p ys ∧ ∀ q H', Same H H' → H q = none → H' q = some (.tup ys) → Q (.ref q) H') := by subst hK; exact call_tupleN
theorem call_tupleUK (hK : X.K = K) : CallR X (.type "tuple") (fun xs H Q => ∃ p ys, xs = [.ref p] ∧ (SqL K H p ys ∨ SqT K H p ys) ∧ ∀ q H', Same H H' → SqT K H' q ys → Q (.ref q) H') := by subst hK; exact call_tupleU
theorem call_listUK (hK : X.K = K) : CallR X (.type "list") (fun xs H Q => ∃ p ys, xs = [.ref p] ∧ (SqL K H p ys ∨ SqT K H p ys) ∧ ∀ l H2, Same H H2 → H l = none → H2 l = some (.lst ys) → Q (.ref l) H2) := by subst hK; exact call_listU
theorem call_len_seqK (hK : X.K = K) : CallR X (.builtin "len") (fun xs H Q => ∃ p ys, xs = [.ref p] ∧ (SqL K H p ys ∨ SqT K H p ys) ∧ Q (.int ys.length) H) := by subst hK; exact call_len_seq
theorem cr_sumK (hK : X.K = K) (hc : X.calm = true) : CallR X (.builtin "sum") (rSum K) := by subst hK; exact cr_sum hc
theorem cr_maxK (hK : X.K = K) (hc : X.calm = true) : CallR X (.builtin "max") (rMax K) := by subst hK; exact cr_max hc
theorem cr_allK (hK : X.K = K) (hc : X.calm = true) : CallR X (.builtin "all") (rAll K) := by subst hK; exact cr_all hc
theorem pi_listK (hK : X.K = K) {tg l : Expr} {tl : TE} (hl : PE X l tl) : PI X tg l (iList K tl) := by subst hK; exact pi_list hl
theorem pi_tupK (hK : X.K = K) {tg l : Expr} {tl : TE} (hl : PE X l tl) : PI X tg l (iTup K tl) := by subst hK; exact pi_tup hl
def iLT (K : PySem.W.Frag) (tl : TE) : TI := fun σ H R => iList K tl σ H R ∨ iTup K tl σ H R
theorem pi_lt {tg l : Expr} {tl : TE} (hl : PE X l tl) : PI X tg l (iLT X.K tl) :=
  ⟨fun pins s σ H R I h => h.elim ((pi_list hl).run pins s σ H R I) ((pi_tup hl).run pins s σ H R I)⟩
theorem pi_ltK (hK : X.K = K) {tg l : Expr} {tl : TE} (hl : PE X l tl) : PI X tg l (iLT K tl) := by subst hK; exact pi_lt hl
end
end LK

set_option Elab.async false
set_option linter.all false
set_option maxRecDepth 100000
namespace LK
open PySem PySem.Spec PyProof.Rows L2
/-! ### sorted(d) of a dict whose keys are tuples of whole numbers -/
theorem perm_lift {α β : Type} {f : α → β} {l m : List β} (h : l.Perm m) : ∀ {L : List α}, m = L.map f → ∃ L' : List α, l = L'.map f ∧ L'.Perm L := by
  induction h with
  | nil =>
    intro L e
    cases L with
    | nil => exact ⟨[], rfl, .nil⟩
    | cons _ _ => cases e
  | cons x _ ih =>
    intro L e
    cases L with
    | nil => cases e
    | cons a L =>
      injection e with e1 e2
      obtain ⟨L', h1, h2⟩ := ih e2
      exact ⟨a :: L', by rw [List.map_cons, ← e1, ← h1], .cons a h2⟩
  | swap x y l =>
    intro L e
    cases L with
    | nil => cases e
    | cons a L =>
      cases L with
      | nil => cases e
      | cons b L =>
        injection e with e1 e2
        injection e2 with e2 e3
        exact ⟨b :: a :: L, by rw [List.map_cons, List.map_cons, ← e1, ← e2, ← e3], .swap a b L⟩
  | trans _ _ ih1 ih2 =>
    intro L e
    obtain ⟨L1, h1, h2⟩ := ih2 e
    obtain ⟨L2, h3, h4⟩ := ih1 h1
    exact ⟨L2, h3, h4.trans h2⟩
section
variable {X : Cx}
theorem call_sortedDT (hcalm : X.calm = true) : CallR X (.builtin "sorted") (fun xs H Q => ∃ (a : Addr) (kvs : List (List L2.Key × V)) (ks : List (List Int)) (d : Nat) (B : Int), xs = [.ref a] ∧ Rd H a (.dT kvs) ∧ kvs.map (·.1) = ks.map (fun k => k.map Sum.inl) ∧ ks.length < 64 ∧ 1 ≤ d ∧ (∀ k ∈ ks, k.length = d ∧ TS.Bd B k) ∧
    ∀ (L' : List (Addr × List Int)) (p : Addr), (L'.map (·.2)).Perm ks → (∀ q ∈ L', H q.1 = some (.tup (q.2.map V.int))) → L'.Pairwise (fun q r => TS.code B q.2 ≤ TS.code B r.2) → H p = none → Q (.ref p) (upd H p (.lst (L'.map fun q => V.ref q.1)))) := by
  intro pins s σ H xs us Q I r q
  obtain ⟨a, kvs, ks, d, B, ex, hd, hks, h64, hd1, hB, q⟩ := q
  subst ex
  obtain ⟨u, eu, rx⟩ := vals1 r
  subst eu
  cases rx
  obtain ⟨z, hs, ts, pr, o, es, ep, ho, hx, hdt, he, hn⟩ := (show ObjOk X.prog X.w H s.heap a (.dT kvs) from hd.ok I.hok)
  have l1 : es.size = ts.length := size_of_entries he
  have l2 : kvs.length = ts.length := Paired.length pr
  have l3 : kvs.length = ks.length := by
    have e := congrArg List.length hks
    rw [List.length_map, List.length_map] at e
    exact e
  -- the keys with their addresses
  have keys : ∀ {kvs : List (List L2.Key × V)} {ts : List (List L2.Key × Addr × Value)} {ks : List (List Int)}, KT H kvs ts → kvs.map (·.1) = ks.map (fun k => k.map Sum.inl) →
      ∃ L : List (Addr × List Int), (ts.map fun x => x.2.1) = L.map (·.1) ∧ L.map (·.2) = ks ∧ ∀ q ∈ L, H q.1 = some (.tup (q.2.map V.int)) := by
    intro kvs ts ks pr
    induction pr generalizing ks with
    | nil =>
      intro e
      cases ks with
      | nil => exact ⟨[], rfl, rfl, fun q hq => nomatch hq⟩
      | cons _ _ => cases e
    | @cons p x ps xs hp _ ih =>
      intro e
      cases ks with
      | nil => cases e
      | cons k ks =>
        injection e with e1 e2
        obtain ⟨L, h1, h2, h3⟩ := ih e2
        refine ⟨(x.2.1, k) :: L, by rw [List.map_cons, List.map_cons, h1], by rw [List.map_cons, h2], fun q hq => ?_⟩
        rcases List.mem_cons.mp hq with rfl | hq
        · have := hp.2.1
          rw [show p.1 = k.map Sum.inl from e1, List.map_map] at this
          exact this
        · exact h3 q hq
  obtain ⟨L, hL1, hL2, hL3⟩ := keys pr hks
  have lL : L.length = ks.length := by rw [← hL2, List.length_map]
  have h16 : es.size ≤ sizeLine := by rw [l1, ← l2, l3, sizeLine_eq]; omega
  refine Calls.call_function_entry PyProof.Rows.kind_sorted PyProof.Rows.plain_sorted PyProof.Rows.entry_sorted (PyProof.Rows.args_sorted1 _) ?_
  unfold Builtin.«sorted»
  refine wpAny_bind (m := checkCount "sorted" 1 1 _) (wpAny_pure ?_)
  refine wpAny_bind (PySem.W.kdu_collect (A := X.A.in1) (kdl_raw hs hx hdt) (I.ok.hd hcalm) ho h16 fun h' tk acc hk it => ?_)
  have ea : acc.toList = L.map fun q => Value.ref q.1 := by
    have e0 : (L.map fun q => Value.ref q.1) = ts.map fun x => Value.ref x.2.1 := by
      have : (L.map fun q => Value.ref q.1) = (L.map (·.1)).map Value.ref := by rw [List.map_map]; rfl
      rw [this, ← hL1, List.map_map]; rfl
    rw [e0]
    have hl : acc.toList.length = ts.length := by rw [Array.length_toList, it.1]; exact l1
    apply List.ext_getElem?
    intro j
    rw [List.getElem?_map]
    cases hj : acc.toList[j]? with
    | none =>
      have h1 := List.getElem?_eq_none_iff.mp hj
      rw [List.getElem?_eq_none (by omega)]
      rfl
    | some v =>
      obtain ⟨en, hen, hv⟩ := it.2 j v (by rw [← Array.getElem?_toList]; exact hj)
      have qe := entry_at he j
      rw [hen] at qe
      cases hb : ts[j]? with
      | none =>
        rw [hb] at qe
        exact nomatch (show some en = none from qe)
      | some b =>
        rw [hb] at qe
        have e2 : en = entryOfKey (tupleKind (mixKind X.prog X.w)) b := Option.some.inj qe
        rw [hv, e2]
        rfl
  have hal : acc.toList.length = ks.length := by rw [ea, List.length_map, lL]
  have I1 : Inv X pins σ H { s with heap := h', toks := tk } := I.kept hk
  refine wpAny_bind (wpAny_newList ?_ (by rw [hal, sizeLine_eq]; omega))
  have hoL : (h'.push (seqObj "list" acc.toList.toArray 0)).get? h'.objs.size = some (seqObj "list" acc.toList.toArray 0) := Heap.get?_push_size _ rfl
  show wpAny _ _ _ _ _ { s with heap := h'.push (seqObj "list" acc.toList.toArray 0), toks := tk }
  have tk2 : ∀ q ∈ L, TS.TupInts (h'.push (seqObj "list" acc.toList.toArray 0)) (.ref q.1) q.2 := fun q hq => tupInts_of (P := X.prog) (w := X.w) (isT_keep (I.isT (.inl (.inl (hL3 q hq)))) fun b u e => Heap.get?_push_of_some _ (hk b u e))
  have x : TS.TupsOk (h'.push (seqObj "list" acc.toList.toArray 0)) d B acc.toList := fun v hv => by
    rw [ea] at hv
    obtain ⟨q, hq, e⟩ := List.mem_map.mp hv
    rw [← e]
    have := hB q.2 (by rw [← hL2]; exact List.mem_map_of_mem hq)
    exact ⟨q.2, tk2 q hq, this.1, this.2⟩
  refine wpAny_bind (wpAny_holding (TS.call_sort_tups (s := { s with heap := h'.push (seqObj "list" acc.toList.toArray 0), toks := tk }) hoL (by rw [hal]; exact h64) hd1 x fun out a1 a2 => ?_))
  obtain ⟨e', he'⟩ := PyProof.Rows.sortedHeap_at (vs := acc.toList) (out := out) hoL
  obtain ⟨L', hL', pm⟩ := perm_lift a1 ea
  have pw : L'.Pairwise (fun q r => TS.code B q.2 ≤ TS.code B r.2) := by
    rw [hL'] at a2
    refine List.Pairwise.imp_of_mem (fun {q r} hq hr hle => ?_) (List.pairwise_map.mp a2)
    have f1 : TS.intsOf (h'.push (seqObj "list" acc.toList.toArray 0)) (.ref q.1) = q.2 := (tk2 q (pm.mem_iff.mp hq)).ints
    have f2 : TS.intsOf (h'.push (seqObj "list" acc.toList.toArray 0)) (.ref r.1) = r.2 := (tk2 r (pm.mem_iff.mp hr)).ints
    rw [← f1, ← f2]
    exact hle
  have hlen : (L'.map fun q => V.ref q.1).length ≤ sizeLine := by
    rw [List.length_map, pm.length_eq, lL, sizeLine_eq]; omega
  refine wpAny_pure ⟨_, rfl, .ref h'.objs.size, upd H h'.objs.size (.lst (L'.map fun q => V.ref q.1)), I1.laid (t' := tk) (fun b u e => ?_) (Nat.le_refl _)
    (show ObjOk X.prog X.w _ _ _ (.lst (L'.map fun q => V.ref q.1)) from ⟨hlen, out.toList, e', by rw [hL']; exact vals_of_refs L', by rw [Array.toArray_toList]; exact he'⟩), rfl, q L' _ (by rw [← hL2]; exact pm.map _) (fun q hq => hL3 q (pm.mem_iff.mp hq)) pw (I1.hok.fresh (Nat.le_refl _))⟩
  have hb : b < h'.objs.size := Heap.lt_size e
  rw [PyProof.Rows.sortedHeap_old (Nat.ne_of_lt hb) (by rw [size_push']; exact Nat.lt_succ_of_lt hb)]
  exact Heap.get?_push_of_some _ e
end
end LK

set_option Elab.async false
set_option linter.all false
set_option maxRecDepth 100000
namespace LK
open PySem PySem.Spec PyProof.Rows L2
/-! ### set(xs) of a long list of tuples, of which few are distinct -/
theorem pigeon {α : Type} [DecidableEq α] : ∀ {l S : List α}, l.Nodup → (∀ x ∈ l, x ∈ S) → l.length ≤ S.length
  | [], _, _, _ => Nat.zero_le _
  | a :: l, S, h, hs => by
    rw [List.nodup_cons] at h
    have ha := hs a List.mem_cons_self
    have := pigeon (l := l) (S := S.erase a) h.2 fun x hx => by
      have ne : x ≠ a := fun e => h.1 (e ▸ hx)
      exact (List.mem_erase_of_ne ne).mpr (hs x (List.mem_cons_of_mem _ hx))
    rw [List.length_erase_of_mem ha] at this
    have p : 0 < S.length := List.length_pos_of_mem ha
    rw [List.length_cons]
    omega
def Stays (h h' : Heap) : Prop := ∀ b o, h.get? b = some o → h'.get? b = some o
abbrev noSet (w : World) : Obj := { cls := .type "set", dict := none, data := .set #[] 0 (.fresh 0 0 (!w.params.followText "set-order")) }
section
variable {P : Program} {w : World} {A : Around} {E : Value → Shared → Prop} {s : Shared}
def InSet (P : Program) (w : World) (h : Heap) (S : Addr) (ks : List (Addr × List Int)) (i : Nat) : Prop := ∃ L es ep t, SetTR P w h S L es ep t ∧ Got ks i L
section
variable {I S : Addr} {fp wr : List Addr} {G : Array GenState → Array GenState → Prop} {Pv : Nat → Value → Prop} {St : Nat → Shared → Prop} {R : Result → Shared → Prop} {ks : List (Addr × List Int)} {D : List (List Int)} {h0 : Heap}
theorem rounds (W : WalksS P w A.in1 I fp wr G ks.length Pv St) (nS : S ∉ fp) (few : D.length ≤ 62) (mem : ∀ p ∈ ks, p.2 ∈ D) (val : ∀ i v, Pv i v → ∃ p, ks[i]? = some p ∧ v = .ref p.1)
    (tup : ∀ p ∈ ks, IsT P w h0 p.2 p.1) (newS : h0.get? S = none) (newW : ∀ b ∈ wr, h0.get? b = none) (un : A.in1.units < cLine) : ∀ (left i : Nat) (s : Shared), i + left = ks.length → St i s → Stays h0 s.heap → InSet P w s.heap S ks i →
    (∀ s', Moved (S :: wr) G s s' → InSet P w s'.heap S ks ks.length → Stays h0 s'.heap → R (.ok (.ret .none)) s') → codeAny (model P w) A (.builtin "set.update.loop" ⟨[.ref S, .ref I], []⟩) R s := by
  have out : S ∉ wr := fun h => nS (W.sub _ h)
  have wide : ∀ b ∈ wr, b ∈ S :: wr := fun b hb => List.mem_cons_of_mem _ hb
  have hold : ∀ {s s' : Shared}, Moved wr G s s' → Stays h0 s.heap → Stays h0 s'.heap := fun m k b o e => m.heap b o (fun hb => nomatch (newW b hb).symm.trans e) (k b o e)
  have take : ∀ {s s' : Shared} {i : Nat} {L : List (Addr × List Int)} {es : Array (Int × Value)} {ep : Nat} {t : SetTable}, Moved wr G s s' → Stays h0 s.heap → SetTR P w s.heap S L es ep t → Got ks i L → SetTR P w s'.heap S L es ep t := fun m k R g =>
    R.keep (fun o e => m.heap S o out e) fun q hq => isT_keep (tup q (List.mem_of_mem_take (g.sub q hq))) (hold m k)
  intro left
  induction left with
  | zero =>
    intro i s hi st kp inn fin
    obtain rfl : i = ks.length := hi
    obtain ⟨L, es, ep, t, R0, g⟩ := inn
    refine codeAny_builtin F.entry_set_update_loop ?_
    rw [Around.under_plainId F.plain_set_update_loop _]
    change wpAny _ A.in1 (pyNext (.ref I) >>= _) _ _ s
    refine wpAny_bind (W.done s _ _ st fun s' m => ?_)
    change wpAny _ A.in1 (ret Value.none) _ _ s'
    exact wpAny_pure (fin s' (m.mono wide) ⟨L, es, ep, t, take m kp R0 g, g⟩ (hold m kp))
  | succ left ih =>
    intro i s hi st kp inn fin
    obtain ⟨L, es, ep, t, R0, g⟩ := inn
    refine codeAny_builtin F.entry_set_update_loop ?_
    rw [Around.under_plainId F.plain_set_update_loop _]
    change wpAny _ A.in1 (pyNext (.ref I) >>= _) _ _ s
    refine wpAny_bind (W.item i s _ _ (by omega) st fun v s1 pv st1 m => ?_)
    obtain ⟨q, hq, rfl⟩ := val i v pv
    have kp1 := hold m kp
    have R1 := take m kp R0 g
    have isq : IsT P w s1.heap q.2 q.1 := isT_keep (tup q (List.mem_of_getElem? hq)) kp1
    have small : L.length ≤ 62 := by
      have := pigeon R1.nd fun x hx => by
        obtain ⟨y, hy, rfl⟩ := List.mem_map.mp hx
        exact mem y (List.mem_of_mem_take (g.sub y hy))
      rw [List.length_map] at this
      exact Nat.le_trans this few
    change wpAny _ A.in1 (holding [Value.ref q.1] (setAdd S (.ref q.1)) >>= _) _ _ s1
    refine wpAny_bind (wpAny_holding ?_)
    unfold setAdd
    refine wpAny_holding ?_
    refine wpAny_bind (wpAny_pyHash_tuple un isq ?_)
    refine add_at (s := { s1 with toks := s1.toks + (q.2.length + 1) }) R1 isq un (by omega) fun b h2 L2 es2 ep2 t2 same R2 c1 c2 => ?_
    have g2 : Got ks (i + 1) L2 := (Classical.em (q.2 ∈ L.map (·.2))).elim (fun c => by rw [c1 c]; exact g.same hq c) fun c => g.more hq (c2 c)
    have kp2 : Stays h0 h2 := fun b o e => (same.2 b fun z => by subst z; exact nomatch newS.symm.trans e).trans (kp1 b o e)
    refine wpAny_pure ⟨plainId_quiet F.plain_set_update_loop _, ih (i + 1) _ (by omega) (W.frame _ s1 _ _ st1 (Nat.le_add_right _ _) fun b hb o e => ?_) kp2 ⟨L2, es2, ep2, t2, R2, g2⟩ fun s3 m3 in3 kp3 => ?_⟩
    · exact (same.2 b (fun z : b = S => nS (z ▸ hb))).trans e
    · refine fin s3 (Moved.trans W.gtrans ((m.mono wide).then_heap (Nat.le_add_right _ _) fun b o nb e => ?_) m3) in3 kp3
      exact (same.2 b (fun z : b = S => nb (by rw [z]; exact List.mem_cons_self))).trans e
end
set_option maxHeartbeats 3200000 in
theorem call_setW {l : Addr} {items : Array Value} {ks : List (Addr × List Int)} {D : List (List Int)} {Q : Value → Shared → Prop} (hh : A.handled = none) (hl : s.heap.IsList l items) (hit : items.toList = ks.map fun q => Value.ref q.1)
    (tup : ∀ q ∈ ks, IsT P w s.heap q.2 q.1) (few : D.length ≤ 62) (mem : ∀ q ∈ ks, q.2 ∈ D) (un : A.units + 3 < cLine)
    (fin : ∀ (h' : Heap) (tk : Nat), InSet P w h' s.heap.objs.size ks ks.length → Stays s.heap h' → Q (.ref s.heap.objs.size) { s with heap := h', toks := tk }) : wpAny (model P w) A (call (.type "set") [.ref l]) Q E s := by
  have size : items.size = ks.length := by rw [← Array.length_toList, hit, List.length_map]
  obtain ⟨c, tl, hmro⟩ := F.called_set.mro
  have fact1 := F.called_set.made
  have fact2 := F.called_set.sub
  refine wpAny_call (codeAny_of_tree ?_)
  change wpAny _ _ (callAny (.type "set") _) _ _ _
  refine wpAny_pure ⟨Code.quiet_builtin _ (by decide +kernel), codeAny_builtin F.entry_type_call ?_⟩
  rw [Around.under_plain (weight_type_call_type "set" [.ref l] []) rfl]
  have fact3 := F.called_set.notType
  have fact4 := F.called_set.canCreate
  have fact5 := F.typeCall_set_1 (.ref l)
  repeat (any_goals (first | assumption | wp_step))

  refine codeAny_mono (code_set_led1 (.ref l) (E := E) (Q₁ := fun obj s1 => obj = .ref s.heap.objs.size ∧ s1 = { s with heap := s.heap.push (noSet w) }) ⟨rfl, rfl⟩) fun r s1 hr => ?_
  rcases r with e | fl
  · exact hr
  · cases fl with
    | ret obj =>
      obtain ⟨rfl, rfl⟩ := hr
      have atS : (s.heap.push (noSet w)).get? s.heap.objs.size = some (noSet w) := Heap.get?_push_size _ rfl
      have hT : Shared.TypeIs { s with heap := s.heap.push (noSet w) } (.ref s.heap.objs.size) "set" := ⟨_, atS, rfl⟩
      have fact6 := F.called_set.init.lookup
      have fact7 := F.called_set.init.bind (.ref s.heap.objs.size)
      repeat (any_goals (first | assumption | wp_step))

      refine codeAny_mono (codeAny_call_builtin (R := wants (fun r s2 => r = .none ∧ ∃ h' tk, s2 = { s with heap := h', toks := tk } ∧ InSet P w h' s.heap.objs.size ks ks.length ∧ Stays s.heap h') E) F.called_set.init.plain F.entry_set_init (check_set_init_1 hT ?_)) fun r2 s2 hr2 => ?_
      · obtain ⟨⟨_, _, _, _⟩, hol, hcl, nl, hdl⟩ := hl
        simp only at hcl hdl
        subst hcl hdl
        have before : l < s.heap.objs.size := Heap.lt_size hol
        have hol1 := Heap.get?_push_of_some (noSet w) hol
        have fact8 := F.sub_list_set
        have fact9 := F.sub_list_frozenset
        have factA : (Value.type "list" == Value.type "dict") = false := by decide
        have hl1 : (s.heap.push (noSet w)).IsList l items := ⟨_, hol1, rfl, nl, rfl⟩
        unfold Builtin.«set.__init__» noKeywords Builtin.Frozenset.updateFrom
        generalize hPI : pyIter = PI
        wp_walk
        subst hPI

        refine wpAny_pyIter_list hl1 (wpAny_bind (wpAny_runValue ?_))
        have hd3 : A.in1.in1.in1.handled = none := by simp [hh]
        have sz : (s.heap.push (noSet w)).objs.size = s.heap.objs.size + 1 := Heap.size_push ..
        have ne1 : l ≠ (s.heap.push (noSet w)).objs.size := Nat.ne_of_lt (Nat.lt_of_lt_of_eq (Nat.lt_succ_of_lt before) sz.symm)
        have free : ∀ b, s.heap.objs.size ≤ b → s.heap.get? b = none := fun b hb => by
          rcases q : s.heap.get? b with _ | o
          · rfl
          · exact (Nat.lt_irrefl _ (Nat.lt_of_le_of_lt hb (Heap.lt_size q))).elim
        have W0 := (Walks.list (prog := P) (w := w) hd3 _ l ne1 items).toS
        rw [size] at W0
        refine rounds (P := P) (w := w) (h0 := s.heap) (S := s.heap.objs.size) W0 (fun z => by
          rcases List.mem_cons.mp z with z | z
          · exact Nat.ne_of_lt (Nat.lt_of_lt_of_eq (Nat.lt_succ_self _) sz.symm) z
          · exact Nat.ne_of_gt before (List.mem_singleton.mp z)) few mem (fun i v hv => ?_) tup (free _ (Nat.le_refl _)) (fun b hb => free b (by rw [List.mem_singleton.mp hb, sz]; exact Nat.le_succ _)) un ks.length 0 _ (Nat.zero_add _) ⟨⟨_, Heap.get?_push_size _ rfl, rfl, rfl⟩, hl1.push _⟩ (fun b o e => Heap.get?_push_of_some _ (Heap.get?_push_of_some _ e)) ⟨[], #[], 0, _, setTR_fresh (Heap.get?_push_of_some _ atS), Got.zero ks⟩ ?_
        · have q : items.toList[i]? = some v := by rw [Array.getElem?_toList]; exact hv
          rw [hit, List.getElem?_map] at q
          obtain ⟨p, hp, e⟩ := Option.map_eq_some_iff.mp q
          exact ⟨p, hp, e.symm⟩
        · rintro ⟨h', g2, d2, tk, os2⟩ m inn kp
          obtain rfl : g2 = s.gens := m.gens
          obtain rfl : d2 = s.drawn := m.drawn
          obtain rfl : os2 = s.os := m.os
          change wpAny _ _ _ _ _ _
          refine wpAny_pure ?_
          change wpAny _ _ (ret Value.none) _ _ _
          exact wpAny_pure ⟨rfl, h', tk, rfl, inn, kp⟩
      · rcases r2 with e | fl2
        · exact hr2
        · cases fl2 with
          | ret r =>
            obtain ⟨rfl, h', tk, rfl, inn, kp⟩ := hr2
            repeat (any_goals (first | assumption | wp_step))
            exact fin h' tk inn kp
          | _ => exact hr2.elim
    | _ => exact hr.elim
end
section
variable {X : Cx}
def rSetW (K : PySem.W.Frag) (P : Program) (w : World) : List V → Hp → VK → Prop := fun xs H Q => ∃ (l : Addr) (ks : List (Addr × List Int)), xs = [V.ref l] ∧ SqL K H l (ks.map fun q => V.ref q.1) ∧ (∀ q ∈ ks, SqT K H q.1 (q.2.map V.int)) ∧ (∃ D : List (List Int), D.length ≤ 62 ∧ ∀ q ∈ ks, q.2 ∈ D) ∧
  ∀ sa L, H sa = none → (∀ q ∈ L, q ∈ ks) → (∀ q ∈ ks, q.2 ∈ L.map (·.2)) → Q (.ref sa) (upd H sa (SetTO P w sa L))
theorem cr_setW (hc : X.calm = true) (hu : X.A.units + 64 < cLine) : CallR X (.type "set") (rSetW X.K X.prog X.w) := by
  intro pins s σ H xs us Q I r h
  obtain ⟨l, ks, rfl, hl, hk, ⟨D, hD, mD⟩, q⟩ := h
  obtain ⟨its, rv, pl, _⟩ := I.list hl
  rw [Vals.ref1 r]
  refine call_setW (P := X.prog) (w := X.w) (ks := ks) (I.ok.hd hc) pl.isList (by simpa using refs_of_vals rv) (fun q hq => I.isT (hk q hq)) hD mD (by omega) fun h' tk inn kp => ?_
  obtain ⟨L, es, ep, t, R, g⟩ := inn
  refine ⟨.ref s.heap.objs.size, upd H s.heap.objs.size (SetTO X.prog X.w s.heap.objs.size L), I.laid (t' := tk) kp (Nat.le_refl _) (setTO_new R.t0), rfl, q _ L (I.hok.fresh (Nat.le_refl _)) (fun p hp => List.mem_of_mem_take (g.sub p hp)) fun p hp => ?_⟩
  exact g.all p (by rw [List.take_length]; exact hp)
end
end LK

set_option Elab.async false
set_option linter.all false
set_option maxRecDepth 100000
namespace LK
open PySem PySem.Spec PyProof.Rows L2
/-! ### ==, != and repr of own objects, by their own methods -/
section
variable {prog : Program} {w : World} {A : Around} {E : Value → Shared → Prop} {s : Shared} {K : PySem.W.Frag} {x C : Addr} {ox : Obj} {od : Option Obj} {name : Str} {b tb : Value}
theorem ifBoundB_K {M : Model} {id : String} {args : List Value} {Q : Option Value → Shared → Prop} (X : K.In s.heap) (I : PySem.W.InstAt s.heap x ox C od) (hs : PySem.W.findIn K (.ref C) name = some (some (.builtin id)))
    (S : ∀ self, bindSpecial (.builtin id) self = pure (.builtin id, [self]))
    (h : wpAny M A (call (.builtin id) (.ref x :: args)) (fun v => Q (some v)) E s) : wpAny M A (callSpecialIfBound? (.ref x) name args) Q E s := by
  simp only [callSpecialIfBound?, bindSpecialIfBound?]
  refine wpAny_holding (wpAny_bind (wpAny_bind (wpAny_bind (I.type.here ((PySem.W.looks_findIn X hs).here ?_)))))
  simp only [S]
  refine wpAny_bind (wpAny_askSetting (wpAny_ite ?_))
  have fin : wpAny M A (call (.builtin id) ([.ref x] ++ args) >>= fun v => pure (some v)) Q E s := wpAny_bind (wpAny_mono h (fun v s' h' => wpAny_pure h') fun _ _ h' => h')
  split
  · exact wpAny_bind (wpAny_pure (wpAny_pure (by exact fin)))
  · exact wpAny_tryCatch (wpAny_bind (wpAny_pure (wpAny_pure (by exact fin))))
theorem cmpB_K {op : CmpOp} {id : String} {Q : Value → Shared → Prop} (hu : A.units < cLine) (X : K.In s.heap) (I : PySem.W.InstAt s.heap x ox C od) (hb : PySem.W.Looks (model prog w) s.heap (typeOf b) tb) (hn : PySem.W.notFirst K C tb = true)
    (hs : PySem.W.findIn K (.ref C) (cmpInfo op).2.1 = some (some (.builtin id))) (S : ∀ self, bindSpecial (.builtin id) self = pure (.builtin id, [self]))
    (h : wpAny (model prog w) A (call (.builtin id) [.ref x, b]) (PySem.W.CmpBack Q) E s) : wpAny (model prog w) A (richCompare op (.ref x) b) Q E s := by
  have one : wpAny (model prog w) A (tryCompare (.ref x) (cmpInfo op).2.1 b) (fun r s' => ∃ v, r = some v ∧ Q v s') E s := by
    unfold tryCompare
    refine wpAny_bind (ifBoundB_K X I hs S (wpAny_mono h (fun v s' hv => ?_) fun _ _ e => e))
    cases v <;> first | exact hv.elim | exact wpAny_pure ⟨_, rfl, hv⟩
  unfold richCompare
  simp only [oneThing_ref]
  refine wpAny_holding (wpAny_bind (wpAny_cRoomFor hu ?_))
  refine wpAny_bind (I.type.here (wpAny_bind (hb.here ?_)))
  split
  · rename_i q
    have e : PySem.W.subIn K tb (.ref C) = some false := by
      rcases Bool.or_eq_true_iff.mp hn with e | e
      · rw [beq_iff_eq.mp e] at q; simp at q
      · exact beq_iff_eq.mp e
    refine wpAny_bind ((PySem.W.looks_subIn X e).here ?_)
    simp only [Bool.false_eq_true, if_false]
    refine wpAny_bind (wpAny_mono one (fun r s' z => ?_) fun _ _ e => e)
    obtain ⟨v, rfl, hq⟩ := z
    exact wpAny_pure hq
  · refine wpAny_bind (wpAny_pure ?_)
    simp only [Bool.false_eq_true, if_false]
    refine wpAny_bind (wpAny_mono one (fun r s' z => ?_) fun _ _ e => e)
    obtain ⟨v, rfl, hq⟩ := z
    exact wpAny_pure hq
theorem objNe_K {f : Addr} (X : K.In s.heap) (I : PySem.W.InstAt s.heap x ox C od) (hs : PySem.W.findIn K (.ref C) "__eq__" = some (some (.ref f))) (hf : PySem.W.isFn K (.ref f) = true) (ht : PySem.W.mroIn K C (.type "object") = some true) (hu : A.in1.units < cLine) {Q : Value → Shared → Prop}
    (hcall : wpAny (model prog w) A.in1 (call (.ref f) [.ref x, b]) (fun v s' => ∃ k, v = .bool k ∧ Q (.bool (!k)) s') E s) :
    wpAny (model prog w) A (call (.builtin "object.__ne__") [.ref x, b]) Q E s := by
  have FB := F.cmp_object
  have sub : PySem.W.Looks (model prog w) s.heap (isInstance (.ref x) (.type "object")) true := I.type.andThen (PySem.W.looks_mroIn X ht)
  refine wpAny_call (codeAny_call_builtin FB.ne.plain F.cmpEntry_ne (@PySem.W.check_slot (model prog w) _ _ s "object.__ne__" "object" "__ne__" (.ref x) [b] [] _ F.cmpKind_ne F.cmpSplit_ne sub (F.cmpArgs_ne (.ref x) b) ?_))
  unfold Builtin.«object.__ne__»
  refine wpAny_bind (wpAny_pure ?_)
  refine wpAny_bind (wpAny_cRoomFor hu ?_)
  refine wpAny_bind (m := callSpecialIfBound? (.ref x) (Str.ofString "__eq__") [b]) (PySem.W.ifBound_K X I hs hf (wpAny_mono hcall (fun r s' hr => ?_) fun _ _ e => e))
  obtain ⟨k, rfl, hq⟩ := hr
  refine wpAny_bind (m := truthy (.bool _)) (wpAny_truthy_bool ?_)
  first | exact wpAny_pure hq | exact wpAny_pure ⟨_, rfl, hq⟩ | exact wpAny_pure (wpAny_pure hq)
theorem repr_K {f : Addr} {Q : Value → Shared → Prop} (X : K.In s.heap) (I : PySem.W.InstAt s.heap x ox C od) (hs : PySem.W.findIn K (.ref C) "__repr__" = some (some (.ref f))) (hf : PySem.W.isFn K (.ref f) = true) (hu : A.in1.units < cLine)
    (hcall : wpAny (model prog w) A.in1 (call (.ref f) [.ref x]) (fun r s' => ∃ m tk, r = .str m tk ∧ Q (.str m tk) s') E s) :
    wpAny (model prog w) A (call (.builtin "repr") [.ref x]) Q E s := by
  refine Calls.call_function_entry F.kind_repr F.plain_repr F.entry_repr (F.args_repr1 _) ?_
  unfold Builtin.«repr»
  refine wpAny_bind (m := oneArg "repr" _) (wpAny_pure ?_)
  refine wpAny_bind (wpAny_cRoomFor hu ?_)
  refine wpAny_bind (m := specialOf (.ref x) (Str.ofString "__repr__")) (wpAny_bind (I.type.here ((PySem.W.looks_findIn X hs).here ?_)))
  show wpAny _ _ (if (some (Value.ref f)).isNone = true then _ else _) _ _ _
  rw [if_neg (by simp)]
  refine wpAny_bind (m := callSpecialIfBound? (.ref x) (Str.ofString "__repr__") _) (PySem.W.ifBound_K X I hs hf (wpAny_mono hcall (fun r s' hr => ?_) fun _ _ y => y))
  obtain ⟨m, tk, rfl, hq⟩ := hr
  refine wpAny_bind (wpAny_isInstance (typeIs_str _ _ _) isSubtype_str_str ?_)
  first
    | exact wpAny_pure ⟨_, rfl, hq⟩
    | (rw [if_pos rfl]; exact wpAny_pure ⟨_, rfl, hq⟩)
    | (simp only [if_true]; exact wpAny_pure ⟨_, rfl, hq⟩)
end
section
variable {X : Cx} {CX : CXT} {n : Nat} {C f : Addr} {fd : FuncData} {ps : List Str} {sp : Sp} {E : XK}
/-- a def is called from within a builtin -/
theorem own_call (F : FnOk X.prog X.w X.K X.mg X.base CX n f fd ps sp) (hb : Binds X.K fd ps []) (hx : Passes CX X E) {A : Around} (hr : Room n A) (hf : A.frames = X.A.frames) {pins : List (Addr × Obj)} {σ : L2.St} {H : Hp} {s : Shared} {xs : List V} {us : List Value} {Q : VK} (I : Inv X pins σ H s) (r : Vals xs us) (h : sp xs H Q E) :
    wpAny (model X.prog X.w) A (call (.ref f) us) (EP X pins σ Q) X.xe s := by
  have e0 : Env0 X.prog X.w X.K X.mg X.base A X.stack s H := by
    have e := I.env0
    exact ⟨by rw [hf]; exact e.frames, e.mod, e.bs, e.bsz, e.funs, e.frf, e.hok, e.bare⟩
  have hl := F.len _ _ _ _ h
  refine wpAny_call (codeAny_mono (F.run A X.stack s H ⟨us, []⟩ us xs Q E hr e0 (by
    have := hb s us I.kIn (by rw [List.append_nil, ← r.length]; exact hl)
    simpa using this) r h) fun r s' hq => ?_)
  cases r with
  | error e => exact hx pins σ H s e s' I hq
  | ok fl =>
    cases fl with
    | ret w => exact I.after hq
    | next => exact False.elim hq
    | brk => exact False.elim hq
    | cont => exact False.elim hq
def rEqO (K : PySem.W.Frag) (C : Addr) (sp : Sp) (E : XK) : R2 := fun x y H Q => ∃ a dx fs t, x = .ref a ∧ H a = some (.ins C dx fs) ∧ TyX K H y t ∧ PySem.W.notFirst K C t = true ∧ sp [x, y] H (fun v H' => ∃ k, v = .bl k ∧ Q (.bl k) H') E
def rNeO (K : PySem.W.Frag) (C : Addr) (sp : Sp) (E : XK) : R2 := fun x y H Q => ∃ a dx fs t, x = .ref a ∧ H a = some (.ins C dx fs) ∧ TyX K H y t ∧ PySem.W.notFirst K C t = true ∧ sp [x, y] H (fun v H' => ∃ k, v = .bl k ∧ Q (.bl (!k)) H') E
theorem op_eqO (F : FnOk X.prog X.w X.K X.mg X.base CX n f fd ps sp) (hr : Room n X.A) (hs : PySem.W.findIn X.K (.ref C) "__eq__" = some (some (.ref f))) (hf : PySem.W.isFn X.K (.ref f) = true) (hb : Binds X.K fd ps []) (hx : Passes CX X E) : OpR X (compareOp .Eq) (rEqO X.K C sp E) := by
  intro pins s σ H x y v u Q I rx ry h
  obtain ⟨a, dx, fs, t, rfl, ha, ty, nf, h⟩ := h
  obtain rfl : v = Value.ref a := rx
  obtain ⟨mA, J, _⟩ := ins_get I.hok ha
  obtain ⟨od, J, _⟩ := J.look
  obtain ⟨P, Z, p, _⟩ := kit_of I ry ty
  obtain ⟨m, hF⟩ := I.fr
  show wpAny (model X.prog X.w) X.A (richCompare .Eq (.ref a) u) (EP X pins σ Q) X.xe s
  refine PySem.W.cmp_K (op := .Eq) hr.units0 hF I.ok.mod.kin J (Z.ty _ _ I.kIn p) nf hs hf ?_
  have rv : Vals [V.ref a, y] [Value.ref a, u] := .cons rfl (.cons ry .nil)
  refine wpAny_mono (own_call F hb hx hr rfl I rv h) (fun r s' q => ?_) fun _ _ x => x
  obtain ⟨z, H', I', rz, k, rfl, q⟩ := q
  obtain rfl : r = Value.bool k := rz
  exact ⟨.bl k, H', I', rfl, q⟩
theorem op_neO (F : FnOk X.prog X.w X.K X.mg X.base CX n f fd ps sp) (hr : Room (n + 1) X.A) (hs : PySem.W.findIn X.K (.ref C) "__eq__" = some (some (.ref f))) (hf : PySem.W.isFn X.K (.ref f) = true) (hn : PySem.W.findIn X.K (.ref C) "__ne__" = some (some (.builtin "object.__ne__")))
    (ht : PySem.W.mroIn X.K C (.type "object") = some true) (hb : Binds X.K fd ps []) (hx : Passes CX X E) : OpR X (compareOp .NotEq) (rNeO X.K C sp E) := by
  intro pins s σ H x y v u Q I rx ry h
  obtain ⟨a, dx, fs, t, rfl, ha, ty, nf, h⟩ := h
  obtain rfl : v = Value.ref a := rx
  obtain ⟨mA, J, _⟩ := ins_get I.hok ha
  obtain ⟨od, J, _⟩ := J.look
  obtain ⟨P, Z, p, _⟩ := kit_of I ry ty
  show wpAny (model X.prog X.w) X.A (richCompare .NotEq (.ref a) u) (EP X pins σ Q) X.xe s
  refine cmpB_K (op := .NotEq) hr.units0 I.kIn J (Z.ty _ _ I.kIn p) nf hn PySem.F.cmp_object.ne.bind ?_
  refine objNe_K I.kIn J hs hf ht hr.in1.units0 ?_
  have rv : Vals [V.ref a, y] [Value.ref a, u] := .cons rfl (.cons ry .nil)
  refine wpAny_mono (own_call F hb hx hr.in1 rfl I rv h) (fun r s' q => ?_) fun _ _ x => x
  obtain ⟨z, H', I', rz, k, rfl, q⟩ := q
  obtain rfl : r = Value.bool k := rz
  exact ⟨k, rfl, .bl (!k), H', I', rfl, q⟩
theorem call_reprO (F : FnOk X.prog X.w X.K X.mg X.base CX n f fd ps sp) (hr : Room (n + 1) X.A) (hs : PySem.W.findIn X.K (.ref C) "__repr__" = some (some (.ref f))) (hf : PySem.W.isFn X.K (.ref f) = true) (hb : Binds X.K fd ps []) (hx : Passes CX X E) :
    CallR X (.builtin "repr") (fun xs H Q => ∃ a dx fs, xs = [.ref a] ∧ H a = some (.ins C dx fs) ∧ sp xs H (fun v H' => ∃ z : Str, v = .str z ∧ Q (.str z) H') E) := by
  intro pins s σ H xs us Q I r h
  obtain ⟨a, dx, fs, rfl, ha, h⟩ := h
  obtain ⟨u, rfl, ru⟩ := vals1 r
  obtain rfl : u = Value.ref a := ru
  obtain ⟨mA, J, _⟩ := ins_get I.hok ha
  obtain ⟨od, J, _⟩ := J.look
  refine repr_K I.kIn J hs hf hr.in1.units0 ?_
  have rv : Vals [V.ref a] [Value.ref a] := .cons rfl .nil
  refine wpAny_mono (own_call F hb hx hr.in1 rfl I rv h) (fun r s' q => ?_) fun _ _ x => x
  obtain ⟨z, H', I', rz, y, rfl, q⟩ := q
  obtain ⟨tk, rfl⟩ := rz
  exact ⟨y, tk, rfl, .str y, H', I', ⟨tk, rfl⟩, q⟩
end
/-- o.m(k = v, ..) -/
def tMethZ (C : Addr) (m : Str) (k : Nat) (sp : Sp) (gV : List V → List V → List V) (E : XK) (ta : TE) (tk : TA) : TE := fun σ H Q => ta σ H fun x H1 => ∃ a dx fs, x = .ref a ∧ H1 a = some (.ins C dx fs) ∧ fs.lookup m = none ∧ tk σ H1 fun zs H2 => zs.length = k ∧ sp (gV [.ref a] zs) H2 Q E
theorem pe_methZ {X : Cx} {CX : CXT} {k : Nat} {C f : Addr} {m : Str} {fd : FuncData} {ps ks : List Str} {sp : Sp} {E : XK} {o : Expr} {apos pos : Pos} {ta : TE} {kws : List Keyword} {tk : TA} {g : List Value → List Value → List Value} {gV : List V → List V → List V} {pl : Sem Bool}
    (he : PE X o ta) (c : Cls X.K C) (hm : Meth X.K C m f) (F : FnOk X.prog X.w X.K X.mg X.base CX k f fd ps sp) (hr : Room k X.A) (hb : KBn X.K fd ps 1 ks g gV) (hx : Passes CX X E) (hkw : PK X kws tk)
    (hall : (backToKw pos (keywordEach kws X.env)).all (·.1.isSome) = true := by rfl) (hks : (backToKw pos (keywordEach kws X.env)).filterMap (·.1) = ks := by rfl)
    (hpl : ((backTo pos (starEach [] X.env)).any (·.1) || (backToKw pos (keywordEach kws X.env)).any (·.1.isNone)) = false := by rfl)
    (ht : eval (.Call (.Attribute o m apos) [] kws pos) X.env = (do
      let ov ← eval o X.env
      standAt apos.atName
      let (f, first) ← holding [ov] (getMethod ov m pl)
      callWith pos f first (backTo pos (starEach [] X.env)) (backToKw pos (keywordEach kws X.env))) := by rfl) :
    PE X (.Call (.Attribute o m apos) [] kws pos) (tMethZ C m ks.length sp gV E ta tk) := by
  refine ⟨fun pins s σ H Q I h => ?_⟩
  refine PySem.W.methodCall_KW (pl := pl) (thn (he.run pins s σ H _ I h) fun u s1 ⟨x, H1, I1, rx, a, dx, fs, ex, ea, l, q⟩ => ?_) ht
  subst ex
  obtain rfl : u = Value.ref a := rx
  refine getmeth_ok I1 ea c hm l ?_
  refine PySem.W.callWith_KW0 (first := [.ref a]) (h₀ := X.base) I.ok.mod.kin hm.kp hall (thn (hkw.run pos pins s1 σ H1 _ I1 q) fun ws s2 ⟨zs, H2, I2, rz, l2, q2⟩ => ⟨I2.kIn, ?_⟩) hpl
  rw [hks]
  have ra : Vals [V.ref a] [Value.ref a] := .cons rfl .nil
  exact run_fnN (us := [.ref a]) (vs := [.ref a]) F hr hb hx I2 ra rz rfl l2 q2
end LK

set_option Elab.async false
set_option linter.all false
set_option maxRecDepth 100000
namespace LK
open PySem PySem.Spec PyProof.Rows L2
def top (i : Nat) : Stmt := PySem.Challenge.pw_lookingnets_k14_nets_told.main.body.getD i (.Pass ⟨0, 0, 0, 0⟩)
local macro_rules | `(tactic| walk_at "rs") => `(tactic| simp only [tFld, sFld, tMeth, tMethZ, tMakeK, tProp, tFmt, rEqO, rNeO, cxK, cxNK, tCallZ, tAsg, tOp, rI0, rS0, rB0, rI, rU, tUn, rEq, rNe, rIxL, rIxT, rIxS, rSetL, rSlLU, rSlS, rSlU, rCatL, rCatU, rRepL, rIn, tVar, tC, gName, gSub, tIfS, tTest, tB, tAnd, tOr, tNot, tNotV, tAndV, tOrV, tIf, tCall, tCons, tNil, tCB, tDrop, tRet, tRetN, tNext, tLstU, tTupU, tM0, tM1, tPar, tPar3, tAug, ipI, tBM, tBM0, rAppend, rPop, tBreak, sDPut, tDGet, tDGet2, tCont, tChain, tSl, tPart, tNoPart, L2.start, List.map, List.length_cons, List.length_nil, List.replicate, List.cons_append, List.nil_append, List.append_nil, List.getElem?_cons_zero, List.getElem?_cons_succ, List.set_cons_zero, List.set_cons_succ, Option.some.injEq, V.int.injEq, V.ref.injEq, V.str.injEq, V.bl.injEq, exists_eq_left', exists_eq_left, exists_and_left, decide_eq_true_eq, List.cons.injEq, and_true, true_and, scal, Bool.not_eq_true', decide_eq_false_iff_not, Nat.zero_add, Nat.reduceAdd, Nat.reduceSub, reduceCtorEq, false_and, exists_false, false_or, or_false, CPow, CPowW, CMul, CDiv, Int.reduceToNat, ↓reduceIte, wipe, sw, List.nil_append, List.singleton_append])
local macro_rules | `(tactic| walk_at "st") => `(tactic| (refine seq_op fun N hN => ?_; walk_at "rs"))
local macro_rules | `(tactic| walk_at "sd") => `(tactic| first | assumption | decide | omega)
local macro_rules | `(tactic| walk_at "rd") => `(tactic| repeat (first
  | refine ⟨_, SqL.of (by assumption), ?_⟩ | refine ⟨_, SqL.of upd_same, ?_⟩ | refine ⟨_, .inl (SqL.of (by assumption)), ?_⟩ | refine ⟨_, (by assumption : _ = some (HO.lst _)), ?_⟩ | refine ⟨_, upd_same, ?_⟩
  | refine ⟨_, rfl, ?_⟩ | refine And.intro (by walk_at "sd") ?_))

abbrev s_BadValue : Stmt := inClass (top 4) 0
abbrev N_BadValue : List Str := ["self", "value"]
theorem sc_BadValue : FnScope N_BadValue ["self", "value"] (defScope s_BadValue) := ⟨rfl, rfl, rfl, by decide +kernel, rfl, by decide +kernel, by decide +kernel⟩
abbrev s_is_number : Stmt := top 11
abbrev N_is_number : List Str := ["value"]
theorem sc_is_number : FnScope N_is_number ["value"] (defScope s_is_number) := ⟨rfl, rfl, rfl, by decide +kernel, rfl, by decide +kernel, by decide +kernel⟩

abbrev s_is_fraction : Stmt := top 12
abbrev N_is_fraction : List Str := ["value", "p", "q"]
theorem sc_is_fraction : FnScope N_is_fraction ["value"] (defScope s_is_fraction) := ⟨rfl, rfl, rfl, by decide +kernel, rfl, by decide +kernel, by decide +kernel⟩

abbrev s_fraction : Stmt := top 13
abbrev N_fraction : List Str := ["p", "q", "divisor"]
theorem sc_fraction : FnScope N_fraction ["p", "q"] (defScope s_fraction) := ⟨rfl, rfl, rfl, by decide +kernel, rfl, by decide +kernel, by decide +kernel⟩

abbrev s_plus : Stmt := top 14
abbrev N_plus : List Str := ["a", "b"]
theorem sc_plus : FnScope N_plus ["a", "b"] (defScope s_plus) := ⟨rfl, rfl, rfl, by decide +kernel, rfl, by decide +kernel, by decide +kernel⟩

abbrev s_are_sizes : Stmt := top 19
abbrev N_are_sizes : List Str := ["signs", "n"]
theorem sc_are_sizes : FnScope N_are_sizes ["signs", "n"] (defScope s_are_sizes) := ⟨rfl, rfl, rfl, by decide +kernel, rfl, by decide +kernel, by decide +kernel⟩

abbrev s_normal_entries : Stmt := top 23
abbrev N_normal_entries : List Str := ["entries", "sums", "column", "factor"]
theorem sc_normal_entries : FnScope N_normal_entries ["entries"] (defScope s_normal_entries) := ⟨rfl, rfl, rfl, by decide +kernel, rfl, by decide +kernel, by decide +kernel⟩

abbrev s_normal_triples : Stmt := top 24
abbrev N_normal_triples : List Str := ["triples", "sums", "left", "right", "factor", "pair"]
theorem sc_normal_triples : FnScope N_normal_triples ["triples"] (defScope s_normal_triples) := ⟨rfl, rfl, rfl, by decide +kernel, rfl, by decide +kernel, by decide +kernel⟩

abbrev s_normal_part : Stmt := top 25
abbrev N_normal_part : List Str := ["kind", "part"]
theorem sc_normal_part : FnScope N_normal_part ["kind", "part"] (defScope s_normal_part) := ⟨rfl, rfl, rfl, by decide +kernel, rfl, by decide +kernel, by decide +kernel⟩

abbrev s_normal_stage : Stmt := top 26
abbrev N_normal_stage : List Str := ["stage", "kind", "parts", "part"]
theorem sc_normal_stage : FnScope N_normal_stage ["stage"] (defScope s_normal_stage) := ⟨rfl, rfl, rfl, by decide +kernel, rfl, by decide +kernel, by decide +kernel⟩

abbrev s_is_column : Stmt := top 27
abbrev N_is_column : List Str := ["value", "width"]
theorem sc_is_column : FnScope N_is_column ["value", "width"] (defScope s_is_column) := ⟨rfl, rfl, rfl, by decide +kernel, rfl, by decide +kernel, by decide +kernel⟩

abbrev s_are_items : Stmt := top 28
abbrev N_are_items : List Str := ["value", "many", "width", "item"]
theorem sc_are_items : FnScope N_are_items ["value", "many", "width"] (defScope s_are_items) := ⟨rfl, rfl, rfl, by decide +kernel, rfl, by decide +kernel, by decide +kernel⟩

abbrev s_is_item : Stmt := top 29
abbrev N_is_item : List Str := ["value", "many", "width", "column"]
theorem sc_is_item : FnScope N_is_item ["value", "many", "width"] (defScope s_is_item) := ⟨rfl, rfl, rfl, by decide +kernel, rfl, by decide +kernel, by decide +kernel⟩

abbrev s_are_rows : Stmt := top 30
abbrev N_are_rows : List Str := ["value", "many", "width", "entries"]
theorem sc_are_rows : FnScope N_are_rows ["value", "many", "width"] (defScope s_are_rows) := ⟨rfl, rfl, rfl, by decide +kernel, rfl, by decide +kernel, by decide +kernel⟩

abbrev s_is_part : Stmt := top 31
abbrev N_is_part : List Str := ["kind", "value", "width"]
theorem sc_is_part : FnScope N_is_part ["kind", "value", "width"] (defScope s_is_part) := ⟨rfl, rfl, rfl, by decide +kernel, rfl, by decide +kernel, by decide +kernel⟩

abbrev s_is_stage : Stmt := top 32
abbrev N_is_stage : List Str := ["value", "width", "kind", "parts", "part"]
theorem sc_is_stage : FnScope N_is_stage ["value", "width"] (defScope s_is_stage) := ⟨rfl, rfl, rfl, by decide +kernel, rfl, by decide +kernel, by decide +kernel⟩

abbrev s_check_stages : Stmt := top 33
abbrev N_check_stages : List Str := ["stages", "width", "at", "stage"]
theorem sc_check_stages : FnScope N_check_stages ["stages", "width"] (defScope s_check_stages) := ⟨rfl, rfl, rfl, by decide +kernel, rfl, by decide +kernel, by decide +kernel⟩

abbrev s__law_bag : Stmt := top 46
abbrev N__law_bag : List Str := ["script", "mixed", "cell"]
theorem sc__law_bag : FnScope N__law_bag ["script"] (defScope s__law_bag) := ⟨rfl, rfl, rfl, by decide +kernel, rfl, by decide +kernel, by decide +kernel⟩

abbrev s__law_draw : Stmt := top 47
abbrev N__law_draw : List Str := ["bag", "many", "cell", "digit"]
theorem sc__law_draw : FnScope N__law_draw ["bag", "many"] (defScope s__law_draw) := ⟨rfl, rfl, rfl, by decide +kernel, rfl, by decide +kernel, by decide +kernel⟩

abbrev s__law_of : Stmt := top 48
abbrev N__law_of : List Str := ["bag", "things"]
theorem sc__law_of : FnScope N__law_of ["bag", "things"] (defScope s__law_of) := ⟨rfl, rfl, rfl, by decide +kernel, rfl, by decide +kernel, by decide +kernel⟩

abbrev s__law_either : Stmt := top 49
abbrev N__law_either : List Str := ["bag", "things"]
theorem sc__law_either : FnScope N__law_either ["bag", "things"] (defScope s__law_either) := ⟨rfl, rfl, rfl, by decide +kernel, rfl, by decide +kernel, by decide +kernel⟩

abbrev s__law_like : Stmt := top 50
abbrev N__law_like : List Str := ["found", "due", "one", "two"]
theorem sc__law_like : FnScope N__law_like ["found", "due"] (defScope s__law_like) := ⟨rfl, rfl, rfl, by decide +kernel, rfl, by decide +kernel, by decide +kernel⟩

abbrev s__law_gcd : Stmt := top 51
abbrev N__law_gcd : List Str := ["a", "b"]
theorem sc__law_gcd : FnScope N__law_gcd ["a", "b"] (defScope s__law_gcd) := ⟨rfl, rfl, rfl, by decide +kernel, rfl, by decide +kernel, by decide +kernel⟩

abbrev s__law_low : Stmt := top 52
abbrev N__law_low : List Str := ["p", "q", "g"]
theorem sc__law_low : FnScope N__law_low ["p", "q"] (defScope s__law_low) := ⟨rfl, rfl, rfl, by decide +kernel, rfl, by decide +kernel, by decide +kernel⟩

abbrev s__law_plus : Stmt := top 53
abbrev N__law_plus : List Str := ["a", "b"]
theorem sc__law_plus : FnScope N__law_plus ["a", "b"] (defScope s__law_plus) := ⟨rfl, rfl, rfl, by decide +kernel, rfl, by decide +kernel, by decide +kernel⟩

abbrev s__law_great : Stmt := top 54
abbrev N__law_great : List Str := ["bag"]
theorem sc__law_great : FnScope N__law_great ["bag"] (defScope s__law_great) := ⟨rfl, rfl, rfl, by decide +kernel, rfl, by decide +kernel, by decide +kernel⟩

abbrev s__law_factor : Stmt := top 55
abbrev N__law_factor : List Str := ["bag", "way", "sign"]
theorem sc__law_factor : FnScope N__law_factor ["bag"] (defScope s__law_factor) := ⟨rfl, rfl, rfl, by decide +kernel, rfl, by decide +kernel, by decide +kernel⟩

abbrev s__law_items : Stmt := top 56
abbrev N__law_items : List Str := ["bag", "many", "width_z", "most", "found", "k", "spot", "one", "again", "j"]
theorem sc__law_items : FnScope N__law_items ["bag", "many", "width_z", "most"] (defScope s__law_items) := ⟨rfl, rfl, rfl, by decide +kernel, rfl, by decide +kernel, by decide +kernel⟩

abbrev s__law_normal : Stmt := top 57
abbrev N__law_normal : List Str := ["items", "found", "spot", "total", "one"]
theorem sc__law_normal : FnScope N__law_normal ["items"] (defScope s__law_normal) := ⟨rfl, rfl, rfl, by decide +kernel, rfl, by decide +kernel, by decide +kernel⟩

abbrev s__law_stage : Stmt := top 58
abbrev N__law_stage : List Str := ["bag", "width_z", "most", "made", "k", "terms"]
theorem sc__law_stage : FnScope N__law_stage ["bag", "width_z", "most"] (defScope s__law_stage) := ⟨rfl, rfl, rfl, by decide +kernel, rfl, by decide +kernel, by decide +kernel⟩

abbrev s__law_settled_stage : Stmt := top 59
abbrev N__law_settled_stage : List Str := ["stage", "one"]
theorem sc__law_settled_stage : FnScope N__law_settled_stage ["stage"] (defScope s__law_settled_stage) := ⟨rfl, rfl, rfl, by decide +kernel, rfl, by decide +kernel, by decide +kernel⟩

abbrev s__law_sheet : Stmt := top 60
abbrev N__law_sheet : List Str := ["bag", "signs_z", "n_z", "width_z", "stages_y", "found", "k"]
theorem sc__law_sheet : FnScope N__law_sheet ["bag", "signs_z", "n_z", "width_z", "stages_y"] (defScope s__law_sheet) := ⟨rfl, rfl, rfl, by decide +kernel, rfl, by decide +kernel, by decide +kernel⟩

abbrev s__law_settled : Stmt := top 61
abbrev N__law_settled : List Str := ["sheet", "found", "one"]
theorem sc__law_settled : FnScope N__law_settled ["sheet"] (defScope s__law_settled) := ⟨rfl, rfl, rfl, by decide +kernel, rfl, by decide +kernel, by decide +kernel⟩

abbrev s__law_loose : Stmt := top 62
abbrev N__law_loose : List Str := ["bag", "stage", "made", "one", "parts", "part"]
theorem sc__law_loose : FnScope N__law_loose ["bag", "stage"] (defScope s__law_loose) := ⟨rfl, rfl, rfl, by decide +kernel, rfl, by decide +kernel, by decide +kernel⟩

abbrev s__law_handed : Stmt := top 63
abbrev N__law_handed : List Str := ["bag", "sheet", "found", "one"]
theorem sc__law_handed : FnScope N__law_handed ["bag", "sheet"] (defScope s__law_handed) := ⟨rfl, rfl, rfl, by decide +kernel, rfl, by decide +kernel, by decide +kernel⟩

abbrev s__law_net : Stmt := top 64
abbrev N__law_net : List Str := ["bag", "handed", "a", "b", "c"]
theorem sc__law_net : FnScope N__law_net ["bag", "handed"] (defScope s__law_net) := ⟨rfl, rfl, rfl, by decide +kernel, rfl, by decide +kernel, by decide +kernel⟩

abbrev s__law_told : Stmt := top 65
abbrev N__law_told : List Str := ["net", "due", "found", "many", "one"]
theorem sc__law_told : FnScope N__law_told ["net", "due"] (defScope s__law_told) := ⟨rfl, rfl, rfl, by decide +kernel, rfl, by decide +kernel, by decide +kernel⟩

abbrev s__law_spoil : Stmt := top 66
abbrev N__law_spoil : List Str := ["handed", "k", "one", "part"]
theorem sc__law_spoil : FnScope N__law_spoil ["handed"] (defScope s__law_spoil) := ⟨rfl, rfl, rfl, by decide +kernel, rfl, by decide +kernel, by decide +kernel⟩

abbrev s__law_altered : Stmt := top 67
abbrev N__law_altered : List Str := ["bag", "sheet", "way", "found", "k", "one"]
theorem sc__law_altered : FnScope N__law_altered ["bag", "sheet"] (defScope s__law_altered) := ⟨rfl, rfl, rfl, by decide +kernel, rfl, by decide +kernel, by decide +kernel⟩

abbrev s_law : Stmt := top 68
abbrev N_law : List Str := ["script", "bag", "signs_z", "n_z", "width_z", "sheet", "many", "due", "handed", "net", "twin", "other", "second", "alike", "found", "stages_y", "handed_y", "changed", "due_y", "k", "one"]
theorem sc_law : FnScope N_law ["script"] (defScope s_law) := ⟨rfl, rfl, rfl, by decide +kernel, rfl, by decide +kernel, by decide +kernel⟩

abbrev s_Net__init : Stmt := inClass (top 44) 0
abbrev N_Net__init : List Str := ["self", "signs", "n", "width", "rest", "sign_rows", "place_rows", "stages", "entries", "stage"]
theorem sc_Net__init : FnScope N_Net__init ["self", "signs", "n", "width", "rest", "sign_rows", "place_rows", "stages"] (defScope s_Net__init) := ⟨rfl, rfl, rfl, by decide +kernel, rfl, by decide +kernel, by decide +kernel⟩

abbrev s_Net__rest_row : Stmt := inClass (top 44) 1
abbrev N_Net__rest_row : List Str := ["self"]
theorem sc_Net__rest_row : FnScope N_Net__rest_row ["self"] (defScope s_Net__rest_row) := ⟨rfl, rfl, rfl, by decide +kernel, rfl, by decide +kernel, by decide +kernel⟩

abbrev s_Net__sign_rows : Stmt := inClass (top 44) 2
abbrev N_Net__sign_rows : List Str := ["self"]
theorem sc_Net__sign_rows : FnScope N_Net__sign_rows ["self"] (defScope s_Net__sign_rows) := ⟨rfl, rfl, rfl, by decide +kernel, rfl, by decide +kernel, by decide +kernel⟩

abbrev s_Net__place_rows : Stmt := inClass (top 44) 3
abbrev N_Net__place_rows : List Str := ["self"]
theorem sc_Net__place_rows : FnScope N_Net__place_rows ["self"] (defScope s_Net__place_rows) := ⟨rfl, rfl, rfl, by decide +kernel, rfl, by decide +kernel, by decide +kernel⟩

abbrev s_Net__stages : Stmt := inClass (top 44) 4
abbrev N_Net__stages : List Str := ["self"]
theorem sc_Net__stages : FnScope N_Net__stages ["self"] (defScope s_Net__stages) := ⟨rfl, rfl, rfl, by decide +kernel, rfl, by decide +kernel, by decide +kernel⟩

abbrev s_Net__layers : Stmt := inClass (top 44) 5
abbrev N_Net__layers : List Str := ["self", "kind", "_"]
theorem sc_Net__layers : FnScope N_Net__layers ["self"] (defScope s_Net__layers) := ⟨rfl, rfl, rfl, by decide +kernel, rfl, by decide +kernel, by decide +kernel⟩

abbrev s_Net__with_stages : Stmt := inClass (top 44) 6
abbrev N_Net__with_stages : List Str := ["self", "stages"]
theorem sc_Net__with_stages : FnScope N_Net__with_stages ["self", "stages"] (defScope s_Net__with_stages) := ⟨rfl, rfl, rfl, by decide +kernel, rfl, by decide +kernel, by decide +kernel⟩

abbrev s_Net__eq : Stmt := inClass (top 44) 10
abbrev N_Net__eq : List Str := ["self", "other"]
theorem sc_Net__eq : FnScope N_Net__eq ["self", "other"] (defScope s_Net__eq) := ⟨rfl, rfl, rfl, by decide +kernel, rfl, by decide +kernel, by decide +kernel⟩

abbrev s_Net__repr : Stmt := inClass (top 44) 11
abbrev N_Net__repr : List Str := ["self"]
theorem sc_Net__repr : FnScope N_Net__repr ["self"] (defScope s_Net__repr) := ⟨rfl, rfl, rfl, by decide +kernel, rfl, by decide +kernel, by decide +kernel⟩

mutual
def okD : PyData → Bool
  | .none => true | .bool _ => true | .int _ => true
  | .str z => decide (z.length ≤ 100000)
  | .list ds => decide (ds.length ≤ 100000) && okAll ds
  | .tuple ds => decide (ds.length ≤ 100000) && okAll ds
  | .dict _ => false
def okAll : List PyData → Bool
  | [] => true
  | d :: ds => okD d && okAll ds
end
theorem okD_tup {ds : List PyData} : okD (.tuple ds) = true ↔ ds.length ≤ 100000 ∧ okAll ds = true := by
  show (decide (ds.length ≤ 100000) && okAll ds) = true ↔ _
  rw [Bool.and_eq_true, decide_eq_true_iff]
theorem okD_lst {ds : List PyData} : okD (.list ds) = true ↔ ds.length ≤ 100000 ∧ okAll ds = true := by
  show (decide (ds.length ≤ 100000) && okAll ds) = true ↔ _
  rw [Bool.and_eq_true, decide_eq_true_iff]
mutual
def dep : PyData → Nat
  | .none => 0 | .bool _ => 0 | .int _ => 0 | .str _ => 0
  | .list ds => depAll ds + 1
  | .tuple ds => depAll ds + 1
  | .dict _ => 0
def depAll : List PyData → Nat
  | [] => 0
  | d :: ds => max (dep d) (depAll ds)
end
def spP (K : PySem.W.Frag) (F : PyData → V) : Sp := fun vs H Q _ => ∃ v d, vs = [v] ∧ Dp K H v d ∧ okD d = true ∧ ∀ H', Same H H' → Q (F d) H'
def SeqV (K : PySem.W.Frag) (G : Hp) (x : V) (ys : List V) : Prop := (∃ p, x = .ref p ∧ SqL K G p ys) ∨ (∃ p, x = .ref p ∧ SqT K G p ys) ∨ ∃ z, x = .str z ∧ z.length ≤ 100000 ∧ ys = z.cps.toList.map fun c => V.str ⟨#[c]⟩
def sp__law_bag (K : PySem.W.Frag) : Sp := fun vs H Q _ => ∃ (a : Addr) (ns : List Int), vs = [.ref a] ∧ SqL K H a (ns.map V.int) ∧ ns.length ≤ 63 ∧ ∀ b c H', Same H H' → Bag 1099511627776 H' b c → H b = none → Q (.ref b) H'
def sp__law_draw : Sp := fun vs H Q _ => ∃ (b c : Addr) (n : Int) (N : Nat), vs = [.ref b, .int n] ∧ Bag (N + 1) H b c ∧ 0 < n ∧ n < 1073741824 ∧ ∀ (r : Int) H', 0 ≤ r → r < n → Bag N H' b c → Kp b H H' → Q (.int r) H'
def sp__law_of (K : PySem.W.Frag) : Sp := fun vs H Q _ => ∃ (b c : Addr) (x : V) (ys : List V) (N : Nat), vs = [.ref b, x] ∧ Bag (N + 1) H b c ∧ SeqV K H x ys ∧ SeqV K (hb H b) x ys ∧ ys ≠ [] ∧ ys.length ≤ 1000000 ∧ ∀ y H', y ∈ ys → Bag N H' b c → Kp b H H' → Q y H'
def sp__law_like (K : PySem.W.Frag) (n : Nat) : Sp := fun vs H Q _ => ∃ v u d, vs = [v, u] ∧ Dp K H v d ∧ Dp K H u d ∧ okD d = true ∧ dep d ≤ n ∧ ∀ H', Same H H' → Q (.bl true) H'
def sw {α : Type} : List α → List α
  | [x, y] => [y, x]
  | l => l
theorem sw_rel : ∀ {zs : List V} {ws : List Value}, Vals zs ws → Vals (sw zs) (sw ws)
  | _, _, .nil => .nil
  | _, _, .cons a .nil => .cons a .nil
  | _, _, .cons a (.cons b .nil) => .cons b (.cons a .nil)
  | _, _, .cons a (.cons b (.cons c r)) => .cons a (.cons b (.cons c r))
/-! ### wide whole numbers -/
def CDivF (_ j : Int) : Prop := j ≠ 0 ∧ j.natAbs.log2 < 9000
theorem op_fdivF {X : Cx} : OpR X (binaryOp .FloorDiv) (rI CDivF fun i j => .int (i.fdiv j)) := opI fun _ _ _ _ _ _ _ hc q => floordiv_int hc.1 q (.inl (PyProof.noPylong_of_log2 hc.2))
/-- powers of wide numbers -/
def CPowW (i j : Int) : Prop := 0 ≤ j ∧ j ≤ 100 ∧ i.natAbs < 2 ^ 100
theorem op_powW {X : Cx} : OpR X (binaryOp .Pow) (rI CPowW fun i j => .int (i ^ j.toNat)) := opI fun i j _ _ _ _ _ hc q => by
  obtain ⟨h0, h1, h2⟩ := hc
  refine pow_int h0 ?_ q
  have hb : Builtin.Int.intBits i ≤ 100 := by
    unfold Builtin.Int.intBits
    split
    · exact Nat.zero_le _
    · have := PySem.Flt.log2_lt_of (n := i.natAbs) (by decide : 0 < 100) h2
      omega
  have : (Builtin.Int.intBits i : Int) * j ≤ 100 * 100 := Int.mul_le_mul (by omega) h1 h0 (by decide)
  exact Int.le_trans this (by decide)
theorem op_fdivU {X : Cx} : OpR X (binaryOp .FloorDiv) (rI CDivW fun i j => .int (i / j)) := op_fdivW
def gA {α : Type} : List α → List α → List α → List α
  | us, [m0, m1], [w0, w1] => us ++ [m0, w0, w1, m1]
  | us, _, _ => us
def gB {α : Type} : List α → List α → List α → List α
  | us, [m0], [w0, w1, w2] => us ++ [w0, w1, w2, m0]
  | us, _, _ => us
def gC {α : Type} : List α → List α → List α → List α
  | us, [m0], [w0, w1, w2] => us ++ [m0, w2, w1, w0]
  | us, _, _ => us
def gD {α : Type} (us _ws zs : List α) : List α := us ++ zs
set_option maxHeartbeats 0 in
structure Txt (w : World) (K : PySem.W.Frag) (mg : Str → Option Value) where
  n_len : mg "len" = none
  n_int : mg "int" = none
  n_list : mg "list" = none
  n_tuple : mg "tuple" = none
  n_bool : mg "bool" = none
  n_str : mg "str" = none
  n_dict : mg "dict" = none
  n_isinstance : mg "isinstance" = none
  n_all : mg "all" = none
  n_range : mg "range" = none
  n_zip : mg "zip" = none
  n_abs : mg "abs" = none
  n_sorted : mg "sorted" = none
  n_set : mg "set" = none
  n_enumerate : mg "enumerate" = none
  n_repr : mg "repr" = none
  m_gcd : mg "gcd" = some (.builtin "math.gcd")
  a_ZERO : Addr
  m_ZERO : mg "ZERO" = some (.ref a_ZERO)
  s_ZERO : ∀ H, SqT K H a_ZERO [.int 0, .int 1]
  t_MOST_WIDTH : Tok
  m_MOST_WIDTH : mg "MOST_WIDTH" = some (.int 2000 t_MOST_WIDTH)
  t_MOST_STAGES : Tok
  m_MOST_STAGES : mg "MOST_STAGES" = some (.int 100 t_MOST_STAGES)
  C_BadValue : Addr
  f_BadValue : Addr
  d_BadValue : FuncData
  m_BadValue : mg "BadValue" = some (.ref C_BadValue)
  X_BadValue : OexC K C_BadValue
  i_BadValue : PySem.W.findIn K (.ref C_BadValue) "__init__" = some (some (.ref f_BadValue))
  t_BadValue : PySem.W.typeIn K (.ref f_BadValue) = some (.type "function")
  F_BadValue : Fun K "__init__" "BadValue.__init__" s_BadValue f_BadValue d_BadValue
  B_BadValue__init : Binds K d_BadValue ["self", "value"] []
  v_BadValue : PySem.W.findIn K (.ref C_BadValue) "value" = some none
  c_BadValue : PySem.W.findIn K (.ref C_BadValue) "code" = some none
  A_Net : Addr
  m_Net : mg "Net" = some (.ref A_Net)
  C_Net : Cls K A_Net
  cl_Net : PySem.W.findIn K (.ref A_Net) "__class__" = some (some (.builtin "object.__class__"))
  cg_Net : PySem.W.specialIn K (.builtin "object.__class__") "__get__" = some (some (.builtin "getset_descriptor.__get__"))
  ct_Net : PySem.W.takesIn K (.builtin "object.__class__") = some true
  mr_Net : PySem.W.mroIn K A_Net (.type "object") = some true
  kk_Net : PySem.W.kitOne K (.ref A_Net) (.ref A_Net) = some true
  kl_Net : PySem.W.kitOne K (.type "list") (.ref A_Net) = some false
  kn_Net : PySem.W.kitOne K (.type "NoneType") (.ref A_Net) = some false
  nf_Net : PySem.W.notFirst K A_Net (.ref A_Net) = true
  nl_Net : PySem.W.notFirst K A_Net (.type "list") = true
  nn_Net : PySem.W.notFirst K A_Net (.type "NoneType") = true
  ne_Net : PySem.W.findIn K (.ref A_Net) "__ne__" = some (some (.builtin "object.__ne__"))
  D_rest : Addr
  s_rest : ∀ H, SqT K H D_rest []
  D_stages : Addr
  s_stages : ∀ H, SqT K H D_stages []
  a_is_number : Addr
  d_is_number : FuncData
  F_is_number : Fun K "is_number" "is_number" s_is_number a_is_number d_is_number
  m_is_number : mg "is_number" = some (.ref a_is_number)
  B_is_number : Binds K d_is_number ["value"] []
  a_is_fraction : Addr
  d_is_fraction : FuncData
  F_is_fraction : Fun K "is_fraction" "is_fraction" s_is_fraction a_is_fraction d_is_fraction
  m_is_fraction : mg "is_fraction" = some (.ref a_is_fraction)
  B_is_fraction : Binds K d_is_fraction ["value"] []
  a_fraction : Addr
  d_fraction : FuncData
  F_fraction : FunD K "fraction" "fraction" (defArgs s_fraction) (defBody s_fraction) (defScope s_fraction) [.int 1] [] a_fraction d_fraction
  m_fraction : mg "fraction" = some (.ref a_fraction)
  B_fraction : Binds K d_fraction ["p", "q"] []
  a_plus : Addr
  d_plus : FuncData
  F_plus : Fun K "plus" "plus" s_plus a_plus d_plus
  m_plus : mg "plus" = some (.ref a_plus)
  B_plus : Binds K d_plus ["a", "b"] []
  a_are_sizes : Addr
  d_are_sizes : FuncData
  F_are_sizes : Fun K "are_sizes" "are_sizes" s_are_sizes a_are_sizes d_are_sizes
  m_are_sizes : mg "are_sizes" = some (.ref a_are_sizes)
  B_are_sizes : Binds K d_are_sizes ["signs", "n"] []
  a_normal_entries : Addr
  d_normal_entries : FuncData
  F_normal_entries : Fun K "normal_entries" "normal_entries" s_normal_entries a_normal_entries d_normal_entries
  m_normal_entries : mg "normal_entries" = some (.ref a_normal_entries)
  B_normal_entries : Binds K d_normal_entries ["entries"] []
  a_normal_triples : Addr
  d_normal_triples : FuncData
  F_normal_triples : Fun K "normal_triples" "normal_triples" s_normal_triples a_normal_triples d_normal_triples
  m_normal_triples : mg "normal_triples" = some (.ref a_normal_triples)
  B_normal_triples : Binds K d_normal_triples ["triples"] []
  a_normal_part : Addr
  d_normal_part : FuncData
  F_normal_part : Fun K "normal_part" "normal_part" s_normal_part a_normal_part d_normal_part
  m_normal_part : mg "normal_part" = some (.ref a_normal_part)
  B_normal_part : Binds K d_normal_part ["kind", "part"] []
  a_normal_stage : Addr
  d_normal_stage : FuncData
  F_normal_stage : Fun K "normal_stage" "normal_stage" s_normal_stage a_normal_stage d_normal_stage
  m_normal_stage : mg "normal_stage" = some (.ref a_normal_stage)
  B_normal_stage : Binds K d_normal_stage ["stage"] []
  a_is_column : Addr
  d_is_column : FuncData
  F_is_column : Fun K "is_column" "is_column" s_is_column a_is_column d_is_column
  m_is_column : mg "is_column" = some (.ref a_is_column)
  B_is_column : Binds K d_is_column ["value", "width"] []
  a_are_items : Addr
  d_are_items : FuncData
  F_are_items : Fun K "are_items" "are_items" s_are_items a_are_items d_are_items
  m_are_items : mg "are_items" = some (.ref a_are_items)
  B_are_items : Binds K d_are_items ["value", "many", "width"] []
  a_is_item : Addr
  d_is_item : FuncData
  F_is_item : Fun K "is_item" "is_item" s_is_item a_is_item d_is_item
  m_is_item : mg "is_item" = some (.ref a_is_item)
  B_is_item : Binds K d_is_item ["value", "many", "width"] []
  a_are_rows : Addr
  d_are_rows : FuncData
  F_are_rows : Fun K "are_rows" "are_rows" s_are_rows a_are_rows d_are_rows
  m_are_rows : mg "are_rows" = some (.ref a_are_rows)
  B_are_rows : Binds K d_are_rows ["value", "many", "width"] []
  a_is_part : Addr
  d_is_part : FuncData
  F_is_part : Fun K "is_part" "is_part" s_is_part a_is_part d_is_part
  m_is_part : mg "is_part" = some (.ref a_is_part)
  B_is_part : Binds K d_is_part ["kind", "value", "width"] []
  a_is_stage : Addr
  d_is_stage : FuncData
  F_is_stage : Fun K "is_stage" "is_stage" s_is_stage a_is_stage d_is_stage
  m_is_stage : mg "is_stage" = some (.ref a_is_stage)
  B_is_stage : Binds K d_is_stage ["value", "width"] []
  a_check_stages : Addr
  d_check_stages : FuncData
  F_check_stages : Fun K "check_stages" "check_stages" s_check_stages a_check_stages d_check_stages
  m_check_stages : mg "check_stages" = some (.ref a_check_stages)
  B_check_stages : Binds K d_check_stages ["stages", "width"] []
  a__law_bag : Addr
  d__law_bag : FuncData
  F__law_bag : Fun K "_law_bag" "_law_bag" s__law_bag a__law_bag d__law_bag
  m__law_bag : mg "_law_bag" = some (.ref a__law_bag)
  B__law_bag : Binds K d__law_bag ["script"] []
  a__law_draw : Addr
  d__law_draw : FuncData
  F__law_draw : Fun K "_law_draw" "_law_draw" s__law_draw a__law_draw d__law_draw
  m__law_draw : mg "_law_draw" = some (.ref a__law_draw)
  B__law_draw : Binds K d__law_draw ["bag", "many"] []
  a__law_of : Addr
  d__law_of : FuncData
  F__law_of : Fun K "_law_of" "_law_of" s__law_of a__law_of d__law_of
  m__law_of : mg "_law_of" = some (.ref a__law_of)
  B__law_of : Binds K d__law_of ["bag", "things"] []
  a__law_either : Addr
  d__law_either : FuncData
  F__law_either : Fun K "_law_either" "_law_either" s__law_either a__law_either d__law_either
  m__law_either : mg "_law_either" = some (.ref a__law_either)
  B__law_either : Binds K d__law_either ["bag", "things"] []
  a__law_like : Addr
  d__law_like : FuncData
  F__law_like : Fun K "_law_like" "_law_like" s__law_like a__law_like d__law_like
  m__law_like : mg "_law_like" = some (.ref a__law_like)
  B__law_like : Binds K d__law_like ["found", "due"] []
  a__law_gcd : Addr
  d__law_gcd : FuncData
  F__law_gcd : Fun K "_law_gcd" "_law_gcd" s__law_gcd a__law_gcd d__law_gcd
  m__law_gcd : mg "_law_gcd" = some (.ref a__law_gcd)
  B__law_gcd : Binds K d__law_gcd ["a", "b"] []
  a__law_low : Addr
  d__law_low : FuncData
  F__law_low : Fun K "_law_low" "_law_low" s__law_low a__law_low d__law_low
  m__law_low : mg "_law_low" = some (.ref a__law_low)
  B__law_low : Binds K d__law_low ["p", "q"] []
  a__law_plus : Addr
  d__law_plus : FuncData
  F__law_plus : Fun K "_law_plus" "_law_plus" s__law_plus a__law_plus d__law_plus
  m__law_plus : mg "_law_plus" = some (.ref a__law_plus)
  B__law_plus : Binds K d__law_plus ["a", "b"] []
  a__law_great : Addr
  d__law_great : FuncData
  F__law_great : Fun K "_law_great" "_law_great" s__law_great a__law_great d__law_great
  m__law_great : mg "_law_great" = some (.ref a__law_great)
  B__law_great : Binds K d__law_great ["bag"] []
  a__law_factor : Addr
  d__law_factor : FuncData
  F__law_factor : Fun K "_law_factor" "_law_factor" s__law_factor a__law_factor d__law_factor
  m__law_factor : mg "_law_factor" = some (.ref a__law_factor)
  B__law_factor : Binds K d__law_factor ["bag"] []
  a__law_items : Addr
  d__law_items : FuncData
  F__law_items : Fun K "_law_items" "_law_items" s__law_items a__law_items d__law_items
  m__law_items : mg "_law_items" = some (.ref a__law_items)
  B__law_items : Binds K d__law_items ["bag", "many", "width_z", "most"] []
  a__law_normal : Addr
  d__law_normal : FuncData
  F__law_normal : Fun K "_law_normal" "_law_normal" s__law_normal a__law_normal d__law_normal
  m__law_normal : mg "_law_normal" = some (.ref a__law_normal)
  B__law_normal : Binds K d__law_normal ["items"] []
  a__law_stage : Addr
  d__law_stage : FuncData
  F__law_stage : Fun K "_law_stage" "_law_stage" s__law_stage a__law_stage d__law_stage
  m__law_stage : mg "_law_stage" = some (.ref a__law_stage)
  B__law_stage : Binds K d__law_stage ["bag", "width_z", "most"] []
  a__law_settled_stage : Addr
  d__law_settled_stage : FuncData
  F__law_settled_stage : Fun K "_law_settled_stage" "_law_settled_stage" s__law_settled_stage a__law_settled_stage d__law_settled_stage
  m__law_settled_stage : mg "_law_settled_stage" = some (.ref a__law_settled_stage)
  B__law_settled_stage : Binds K d__law_settled_stage ["stage"] []
  a__law_sheet : Addr
  d__law_sheet : FuncData
  F__law_sheet : Fun K "_law_sheet" "_law_sheet" s__law_sheet a__law_sheet d__law_sheet
  m__law_sheet : mg "_law_sheet" = some (.ref a__law_sheet)
  B__law_sheet : Binds K d__law_sheet ["bag", "signs_z", "n_z", "width_z", "stages_y"] []
  a__law_settled : Addr
  d__law_settled : FuncData
  F__law_settled : Fun K "_law_settled" "_law_settled" s__law_settled a__law_settled d__law_settled
  m__law_settled : mg "_law_settled" = some (.ref a__law_settled)
  B__law_settled : Binds K d__law_settled ["sheet"] []
  a__law_loose : Addr
  d__law_loose : FuncData
  F__law_loose : Fun K "_law_loose" "_law_loose" s__law_loose a__law_loose d__law_loose
  m__law_loose : mg "_law_loose" = some (.ref a__law_loose)
  B__law_loose : Binds K d__law_loose ["bag", "stage"] []
  a__law_handed : Addr
  d__law_handed : FuncData
  F__law_handed : Fun K "_law_handed" "_law_handed" s__law_handed a__law_handed d__law_handed
  m__law_handed : mg "_law_handed" = some (.ref a__law_handed)
  B__law_handed : Binds K d__law_handed ["bag", "sheet"] []
  a__law_net : Addr
  d__law_net : FuncData
  F__law_net : Fun K "_law_net" "_law_net" s__law_net a__law_net d__law_net
  m__law_net : mg "_law_net" = some (.ref a__law_net)
  B__law_net : Binds K d__law_net ["bag", "handed"] []
  a__law_told : Addr
  d__law_told : FuncData
  F__law_told : Fun K "_law_told" "_law_told" s__law_told a__law_told d__law_told
  m__law_told : mg "_law_told" = some (.ref a__law_told)
  B__law_told : Binds K d__law_told ["net", "due"] []
  a__law_spoil : Addr
  d__law_spoil : FuncData
  F__law_spoil : Fun K "_law_spoil" "_law_spoil" s__law_spoil a__law_spoil d__law_spoil
  m__law_spoil : mg "_law_spoil" = some (.ref a__law_spoil)
  B__law_spoil : Binds K d__law_spoil ["handed"] []
  a__law_altered : Addr
  d__law_altered : FuncData
  F__law_altered : Fun K "_law_altered" "_law_altered" s__law_altered a__law_altered d__law_altered
  m__law_altered : mg "_law_altered" = some (.ref a__law_altered)
  B__law_altered : Binds K d__law_altered ["bag", "sheet"] []
  a_law : Addr
  d_law : FuncData
  F_law : Fun K "law" "law" s_law a_law d_law
  m_law : mg "law" = some (.ref a_law)
  B_law : Binds K d_law ["script"] []
  na_signs : NoAttr K A_Net "signs"
  na_n : NoAttr K A_Net "n"
  na_width : NoAttr K A_Net "width"
  na__rest_row : NoAttr K A_Net "_rest_row"
  na__sign_rows : NoAttr K A_Net "_sign_rows"
  na__place_rows : NoAttr K A_Net "_place_rows"
  na__stages : NoAttr K A_Net "_stages"
  a_Net__init : Addr
  d_Net__init : FuncData
  F_Net__init : FunD K "__init__" "Net.__init__" (defArgs s_Net__init) (defBody s_Net__init) (defScope s_Net__init) [] [("rest", .ref D_rest), ("stages", .ref D_stages)] a_Net__init d_Net__init
  a_Net__rest_row : Addr
  d_Net__rest_row : FuncData
  F_Net__rest_row : Fun K "rest_row" "Net.rest_row" s_Net__rest_row a_Net__rest_row d_Net__rest_row
  B_Net__rest_row : Binds K d_Net__rest_row ["self"] []
  mt_Net__rest_row : Meth K A_Net "rest_row" a_Net__rest_row
  a_Net__sign_rows : Addr
  d_Net__sign_rows : FuncData
  F_Net__sign_rows : Fun K "sign_rows" "Net.sign_rows" s_Net__sign_rows a_Net__sign_rows d_Net__sign_rows
  B_Net__sign_rows : Binds K d_Net__sign_rows ["self"] []
  mt_Net__sign_rows : Meth K A_Net "sign_rows" a_Net__sign_rows
  a_Net__place_rows : Addr
  d_Net__place_rows : FuncData
  F_Net__place_rows : Fun K "place_rows" "Net.place_rows" s_Net__place_rows a_Net__place_rows d_Net__place_rows
  B_Net__place_rows : Binds K d_Net__place_rows ["self"] []
  mt_Net__place_rows : Meth K A_Net "place_rows" a_Net__place_rows
  a_Net__stages : Addr
  d_Net__stages : FuncData
  F_Net__stages : Fun K "stages" "Net.stages" s_Net__stages a_Net__stages d_Net__stages
  B_Net__stages : Binds K d_Net__stages ["self"] []
  mt_Net__stages : Meth K A_Net "stages" a_Net__stages
  a_Net__layers : Addr
  d_Net__layers : FuncData
  F_Net__layers : Fun K "layers" "Net.layers" s_Net__layers a_Net__layers d_Net__layers
  B_Net__layers : Binds K d_Net__layers ["self"] []
  a_Net__with_stages : Addr
  d_Net__with_stages : FuncData
  F_Net__with_stages : Fun K "with_stages" "Net.with_stages" s_Net__with_stages a_Net__with_stages d_Net__with_stages
  B_Net__with_stages : Binds K d_Net__with_stages ["self", "stages"] []
  mt_Net__with_stages : Meth K A_Net "with_stages" a_Net__with_stages
  a_Net__eq : Addr
  d_Net__eq : FuncData
  F_Net__eq : Fun K "__eq__" "Net.__eq__" s_Net__eq a_Net__eq d_Net__eq
  B_Net__eq : Binds K d_Net__eq ["self", "other"] []
  a_Net__repr : Addr
  d_Net__repr : FuncData
  F_Net__repr : Fun K "__repr__" "Net.__repr__" s_Net__repr a_Net__repr d_Net__repr
  B_Net__repr : Binds K d_Net__repr ["self"] []
  mk_Net : Mk K A_Net a_Net__init
  p_Net__layers : Addr
  P_Net__layers : PropOf K A_Net "layers" p_Net__layers a_Net__layers
  fi_eq : PySem.W.findIn K (.ref A_Net) "__eq__" = some (some (.ref a_Net__eq))
  ff_eq : PySem.W.isFn K (.ref a_Net__eq) = true
  fi_repr : PySem.W.findIn K (.ref A_Net) "__repr__" = some (some (.ref a_Net__repr))
  ff_repr : PySem.W.isFn K (.ref a_Net__repr) = true
  mv_Net__init_3_sign_rows_place_rows : List Value
  Z_Net__init_3_sign_rows_place_rows : KBn K d_Net__init ["self", "signs", "n", "width", "rest", "sign_rows", "place_rows", "stages"] 4 ["sign_rows", "place_rows"] (fun us ws => gA us mv_Net__init_3_sign_rows_place_rows ws) (fun vs zs => gA vs [.ref D_rest, .ref D_stages] zs)
  mv_Net__init_3_rest_sign_rows_place_rows : List Value
  Z_Net__init_3_rest_sign_rows_place_rows : KBn K d_Net__init ["self", "signs", "n", "width", "rest", "sign_rows", "place_rows", "stages"] 4 ["rest", "sign_rows", "place_rows"] (fun us ws => gB us mv_Net__init_3_rest_sign_rows_place_rows ws) (fun vs zs => gB vs [.ref D_stages] zs)
  mv_Net__init_3_stages_place_rows_sign_rows : List Value
  Z_Net__init_3_stages_place_rows_sign_rows : KBn K d_Net__init ["self", "signs", "n", "width", "rest", "sign_rows", "place_rows", "stages"] 4 ["stages", "place_rows", "sign_rows"] (fun us ws => gC us mv_Net__init_3_stages_place_rows_sign_rows ws) (fun vs zs => gC vs [.ref D_rest] zs)
  mv_Net__init_0_signs_n_width_rest_sign_rows_place_rows_stages : List Value
  Z_Net__init_0_signs_n_width_rest_sign_rows_place_rows_stages : KBn K d_Net__init ["self", "signs", "n", "width", "rest", "sign_rows", "place_rows", "stages"] 1 ["signs", "n", "width", "rest", "sign_rows", "place_rows", "stages"] (fun us ws => gD us mv_Net__init_0_signs_n_width_rest_sign_rows_place_rows_stages ws) (fun vs zs => gD vs [] zs)
  mv_Net__init_3_rest_sign_rows_place_rows_stages : List Value
  Z_Net__init_3_rest_sign_rows_place_rows_stages : KBn K d_Net__init ["self", "signs", "n", "width", "rest", "sign_rows", "place_rows", "stages"] 4 ["rest", "sign_rows", "place_rows", "stages"] (fun us ws => gD us mv_Net__init_3_rest_sign_rows_place_rows_stages ws) (fun vs zs => gD vs [] zs)
  Z_Net__with_stages : KBn K d_Net__with_stages ["self", "stages"] 1 ["stages"] (fun us ws => us ++ ws) (fun vs zs => vs ++ zs)

end LK

set_option Elab.async false
set_option linter.all false
set_option maxRecDepth 100000
namespace LK
open PySem PySem.Spec PyProof.Rows L2
local macro_rules | `(tactic| walk_at "rs") => `(tactic| simp only [tFld, sFld, tMeth, tMethZ, tMakeK, tProp, tFmt, rEqO, rNeO, cxK, cxNK, tCallZ, tAsg, tOp, rI0, rS0, rB0, rI, rU, tUn, rEq, rNe, rIxL, rIxT, rIxS, rSetL, rSlLU, rSlS, rSlU, rCatL, rCatU, rRepL, rIn, tVar, tC, gName, gSub, tIfS, tTest, tB, tAnd, tOr, tNot, tNotV, tAndV, tOrV, tIf, tCall, tCons, tNil, tCB, tDrop, tRet, tRetN, tNext, tLstU, tTupU, tM0, tM1, tPar, tPar3, tAug, ipI, tBM, tBM0, rAppend, rPop, tBreak, sDPut, tDGet, tDGet2, tCont, tChain, tSl, tPart, tNoPart, L2.start, List.map, List.length_cons, List.length_nil, List.replicate, List.cons_append, List.nil_append, List.append_nil, List.getElem?_cons_zero, List.getElem?_cons_succ, List.set_cons_zero, List.set_cons_succ, Option.some.injEq, V.int.injEq, V.ref.injEq, V.str.injEq, V.bl.injEq, exists_eq_left', exists_eq_left, exists_and_left, decide_eq_true_eq, List.cons.injEq, and_true, true_and, scal, Bool.not_eq_true', decide_eq_false_iff_not, Nat.zero_add, Nat.reduceAdd, Nat.reduceSub, reduceCtorEq, false_and, exists_false, false_or, or_false, CPow, CPowW, CMul, CDiv, Int.reduceToNat, ↓reduceIte, wipe, sw, List.nil_append, List.singleton_append])
local macro_rules | `(tactic| walk_at "st") => `(tactic| (refine seq_op fun N hN => ?_; walk_at "rs"))
local macro_rules | `(tactic| walk_at "sd") => `(tactic| first | assumption | decide | omega)
local macro_rules | `(tactic| walk_at "rd") => `(tactic| repeat (first
  | refine ⟨_, SqL.of (by assumption), ?_⟩ | refine ⟨_, SqL.of upd_same, ?_⟩ | refine ⟨_, .inl (SqL.of (by assumption)), ?_⟩ | refine ⟨_, (by assumption : _ = some (HO.lst _)), ?_⟩ | refine ⟨_, upd_same, ?_⟩
  | refine ⟨_, rfl, ?_⟩ | refine And.intro (by walk_at "sd") ?_))

def spV (sp : List V → Hp → VK → Prop) : Sp := fun vs H Q _ => sp vs H Q
/-- the two fields of a BadValue -/
def badF (v : V) : List (Str × V) := [("code", .str "BadValue"), ("value", v)]
def sp_BadValue (C : Addr) : Sp := fun vs H Q _ => ∃ (a : Addr) (v : V), vs = [.ref a, v] ∧ H a = some (exo a C none) ∧
  ∀ dx, H dx = none → dx ≠ a → Q .non (L2.upd (L2.upd (L2.upd H dx (exd dx [("value", v)])) a (exo a C (some dx))) dx (exd dx (badF v)))
def isNum : PyData → Bool
  | .int _ => true
  | _ => false
def spP1 (K : PySem.W.Frag) (F : PyData → V) : Sp := fun vs H Q _ => ∃ v d, vs = [v] ∧ Dp K H v d ∧ ∀ H', Same H H' → Q (F d) H'
section
variable {P : Program} {w : World} {K : PySem.W.Frag} {mg : Str → Option Value} {base : Heap}
theorem ok_BadValue (T : Txt w K mg) : FnOk P w K mg base CX0 1 T.f_BadValue T.d_BadValue ["self", "value"] (sp_BadValue T.C_BadValue) := by
  refine T.F_BadValue.ok sc_BadValue (fun vs H Q E h => ?_) (fun cdv A outer s H vs Q E hr h => ?_)
  · obtain ⟨a, v, rfl, _⟩ := h
    rfl
  · obtain ⟨a, v, rfl, ha, k⟩ := h
    refine ⟨_, pss_cons (ps_ost (pv 0) (pv 1)) (pss_one (ps_ost (pv 0) pe_str)), ?_⟩
    refine seq_op fun N hN => ?_
    unfold tOst
    walk_at "rs"
    refine ⟨T.C_BadValue, T.X_BadValue, T.v_BadValue, .inl ⟨ha, fun dx hdx ne => hN _ _ ?_⟩⟩
    clear hN N
    unfold tOst
    walk_at "rs"
    refine ⟨T.C_BadValue, T.X_BadValue, T.c_BadValue, .inr ⟨dx, upd_same, [("value", v)], by rw [upd_ne ne]; exact upd_same, by simp, k dx hdx ne⟩⟩
theorem ok_is_number (T : Txt w K mg) : FnOk P w K mg base CX0 1 T.a_is_number T.d_is_number ["value"] (spP1 K fun d => .bl (isNum d)) := by
  refine T.F_is_number.ok sc_is_number (fun vs H Q E h => ?_) (fun cdv A outer s H vs Q E hr h => ?_)
  · obtain ⟨v, d, rfl, _⟩ := h
    rfl
  · obtain ⟨v, d, rfl, hD, k⟩ := h
    refine ⟨_, (pss_one (ps_ret (pe_and (pe_callB (call_isiDK (K := K) rfl) (by rfl) T.n_isinstance (by decide +kernel) (pa_cons (pv 0) (pa_cons (pe_bltn (v := .ty "int") (u := .type "int") (by rfl) T.n_int (by decide +kernel) rfl) pa_nil))) (pe_one (pe_not (pe_callB (call_isiDK (K := K) rfl) (by rfl) T.n_isinstance (by decide +kernel) (pa_cons (pv 0) (pa_cons (pe_bltn (v := .ty "bool") (u := .type "bool") (by rfl) T.n_bool (by decide +kernel) rfl) pa_nil)))))))), ?_⟩
    walk_at "rs"
    refine ⟨v, "int", ⟨rfl, rfl⟩, d, hD, by decide, ite2 (fun h => ⟨v, "bool", ⟨rfl, rfl⟩, d, hD, by decide, ?_⟩) (fun h => ?_)⟩
    · have e : isNum d = !isTy "bool" d := by cases d <;> first | rfl | cases h
      rw [← e]; exact k H (Same.refl _)
    · have e : isNum d = false := by cases d <;> first | rfl | (exact absurd rfl h)
      have q : Q (.bl (isNum d)) H := k H (Same.refl _)
      rw [e] at q; exact q
/-! ### lowest terms -/
def frG (p q : Int) : Int := if q < 0 then -((Nat.gcd p.natAbs q.natAbs : Nat) : Int) else ((Nat.gcd p.natAbs q.natAbs : Nat) : Int)
def frP (p q : Int) : Int := p.fdiv (frG p q)
def frQ (p q : Int) : Int := q.fdiv (frG p q)
def sp_fraction (C : Addr) : Sp := fun vs H Q E => ∃ p q : Int, vs = [.int p, .int q] ∧ p.natAbs.log2 < 9000 ∧ q.natAbs.log2 < 9000 ∧
  (q ≠ 0 → ∀ t H', Same H H' → H t = none → H' t = some (.tup [.int (frP p q), .int (frQ p q)]) → Q (.ref t) H') ∧
  (q = 0 → ∀ d H', Same H H' → H d = none → H' d = some (.xd (badF (.int q))) → E (.ref C) (some d) H')
theorem gcd_log {p q : Int} (h : q ≠ 0) : (Nat.gcd p.natAbs q.natAbs).log2 ≤ q.natAbs.log2 := by
  have h0 : q.natAbs ≠ 0 := by omega
  have le : Nat.gcd p.natAbs q.natAbs ≤ q.natAbs := Nat.le_of_dvd (by omega) (Nat.gcd_dvd_right _ _)
  have g0 : Nat.gcd p.natAbs q.natAbs ≠ 0 := fun e => h0 (Nat.eq_zero_of_gcd_eq_zero_right e)
  exact (Nat.le_log2 h0).mpr (Nat.le_trans (Nat.log2_self_le g0) le)
theorem mk_bad {C : Addr} {H1 : Hp} {v : V} {Qx : XK} (k : ∀ d H', Same H1 H' → H1 d = none → H' d = some (.xd (badF v)) → Qx (.ref C) (some d) H') : ∀ a, H1 a = none → sp_BadValue C (.ref a :: ([v] ++ [])) (L2.upd H1 a (exo a C none)) (fun v2 H2 => v2 = .non ∧ ∃ (d : Addr) (fs : List (Str × V)), H2 a = some (exo a C (some d)) ∧ H2 d = some (exd d fs) ∧ H1 d = none ∧ Qx (.ref C) (some d) (L2.upd (del H2 a) d (.xd fs))) E0 := by
  intro a ha
  refine ⟨a, v, rfl, upd_same, fun dx hdx ne => ⟨rfl, dx, badF v, ?_, upd_same, ?_, k dx _ ?_ ?_ upd_same⟩⟩
  · rw [upd_ne (Ne.symm ne), upd_same]
  · rw [upd_ne ne] at hdx; exact hdx
  · intro b o e
    rw [upd_ne ne] at hdx
    have n1 : b ≠ a := fun z => by rw [z, ha] at e; cases e
    have n2 : b ≠ dx := fun z => by rw [z, hdx] at e; cases e
    rw [upd_ne n2, del_ne n1, upd_ne n2, upd_ne n1, upd_ne n2, upd_ne n1]
    exact e
  · rw [upd_ne ne] at hdx; exact hdx
theorem mk_badT {C : Addr} {ta : TA} {σ : L2.St} {H0 H1 : Hp} {v : V} {Qx : XK} (ht : ∀ K : List V → Hp → Prop, K [v] H1 → ta σ H0 K) (k : ∀ d H', Same H1 H' → H1 d = none → H' d = some (.xd (badF v)) → Qx (.ref C) (some d) H') : tMkO C (sp_BadValue C) [] ta σ H0 Qx :=
  ht _ ⟨by simp, mk_bad k⟩
theorem ok_fraction (T : Txt w K mg) : FnOk P w K mg base (L2.CX P w) 3 T.a_fraction T.d_fraction ["p", "q"] (sp_fraction T.C_BadValue) := by
  refine T.F_fraction.ok sc_fraction (fun vs H Q E h => ?_) (fun cdv A outer s H vs Q E hr h => ?_)
  · obtain ⟨p, q, rfl, _⟩ := h
    rfl
  · obtain ⟨p, q, rfl, lp, lq, k, kE⟩ := h
    have hr_is_number : Room 1 _ := hr.mono (by decide)
    have G_is_number := ok_is_number (P := P) (base := base) T
    have hr_BadValue : Room 2 _ := hr.mono (by decide)
    have G_BadValue := ok_BadValue (P := P) (base := base) T
    refine ⟨_, (pss_cons (ps_if (PW.pt (pw_or (pt_not (pt_val (pe_call G_is_number hr_is_number (by rfl) T.m_is_number T.F_is_number.kp T.B_is_number .nil pass0 (pa_cons (pv 1) pa_nil)))) (pw_or1 (pt_cmpR op_eqI (pv 1) pe_int (nomark _))))) (pss_one (ps_raise rfl (takes_of rfl rfl rfl rfl) (pmk_oex T.X_BadValue T.i_BadValue T.t_BadValue G_BadValue hr_BadValue T.B_BadValue__init .nil pass0 (by rfl) T.m_BadValue (pa_cons (pv 1) pa_nil)))) pss_nil)
      (pss_cons (ps_set (i := 2) sc_fraction.nd rfl (Or.inl rfl) (pe_callBfun cr_gcd (by rfl) T.m_gcd (pa_cons (pv 0) (pa_cons (pv 1) pa_nil))))
      (pss_cons (ps_if (pt_cmpR op_lt (pv 1) pe_int (nomark _)) (pss_one (ps_set (i := 2) sc_fraction.nd rfl (Or.inl rfl) (pe_un un_neg (pv 2)))) pss_nil)
      (pss_one (ps_ret (pe_tupU (pa_cons (pe_op op_fdivF (pv 0) (pv 2)) (pa_cons (pe_op op_fdivF (pv 1) (pv 2)) pa_nil)))))))), ?_⟩
    refine seq_op fun N hN => ?_
    walk_at "rs"
    refine ⟨_, .int q, rfl, .int q, fun H1 s1 => ⟨true, rfl, iteFF (by decide) (ite2 (fun e => ?_) (fun e => hN _ _ ?_))⟩⟩
    · subst e
      exact mk_badT (fun K h => by walk_at "rs"; exact h) fun d H2 s2 hd h2 => kE rfl d H2 (Same.trans s1 s2) (Same.dom s1 d hd) h2
    clear hN N
    replace k := k e
    clear kE
    have g0 : (Nat.gcd p.natAbs q.natAbs : Nat) ≠ 0 := fun z => e (by have := Nat.eq_zero_of_gcd_eq_zero_right z; omega)
    have gl := gcd_log (p := p) e
    refine seq_op fun N hN => ?_
    walk_at "rs"
    refine ⟨p, q, rfl, hN _ _ ?_⟩
    clear hN N
    refine cut_seq (fun σ H2 => σ = [some (.int p), some (.int q), some (.int (frG p q))] ∧ H2 = H1) (fun N hN => ?_) ?_
    · walk_at "rs"
      unfold frG at hN
      refine ite2 (fun c => ?_) (fun c => ?_)
      · rw [if_pos c] at hN; exact hN _ _ ⟨rfl, rfl⟩
      · rw [if_neg c] at hN; exact hN _ _ ⟨rfl, rfl⟩
    · rintro σ H2 ⟨rfl, rfl⟩
      have n0 : frG p q ≠ 0 := by unfold frG; split <;> omega
      have nl : (frG p q).natAbs.log2 < 9000 := by
        have : (frG p q).natAbs = Nat.gcd p.natAbs q.natAbs := by unfold frG; split <;> omega
        rw [this]; omega
      walk_at "rs"
      exact ⟨⟨n0, nl⟩, ⟨n0, nl⟩, by decide, fun t H3 s3 h03 h3 => k t H3 (Same.trans s1 s3) (Same.dom s1 t h03) h3⟩
/-! ### the reckoning -/
def FrT (p q : Int) : V × V := (.int (frP p q), .int (frQ p q))
/-- a pair of whole numbers at a -/
def Pr (K : PySem.W.Frag) (H : Hp) (a : Addr) (p q : Int) : Prop := SqT K H a [.int p, .int q]
def sp_two (K : PySem.W.Frag) (f g : Int → Int → Int → Int → Int) : Sp := fun vs H Q _ => ∃ (a b : Addr) (p q r s : Int), vs = [.ref a, .ref b] ∧ Pr K H a p q ∧ Pr K H b r s ∧ p.natAbs < 2 ^ 4000 ∧ q.natAbs < 2 ^ 4000 ∧ r.natAbs < 2 ^ 4000 ∧ s.natAbs < 2 ^ 4000 ∧ g p q r s ≠ 0 ∧
  ∀ t H', Same H H' → H t = none → H' t = some (.tup [.int (frP (f p q r s) (g p q r s)), .int (frQ (f p q r s) (g p q r s))]) → Q (.ref t) H'
theorem two_add {i j : Int} {a : Nat} (hi : i.natAbs < 2 ^ a) (hj : j.natAbs < 2 ^ a) : (i + j).natAbs < 2 ^ (a + 1) := by
  have e : 2 ^ (a + 1) = 2 * 2 ^ a := Nat.pow_succ'
  omega
theorem two_sub {i j : Int} {a : Nat} (hi : i.natAbs < 2 ^ a) (hj : j.natAbs < 2 ^ a) : (i - j).natAbs < 2 ^ (a + 1) := by
  have e : 2 ^ (a + 1) = 2 * 2 ^ a := Nat.pow_succ'
  omega
theorem mulW {i j : Int} (hi : i.natAbs < 2 ^ 4000) (hj : j.natAbs < 2 ^ 4000) : CMulW i j := wide_mul hi hj (by decide) (by decide) (by decide)
theorem mulL {i j : Int} (hi : i.natAbs < 2 ^ 4000) (hj : j.natAbs < 2 ^ 4000) : (i * j).natAbs < 2 ^ 8000 := wide_lt (a := 4000) (b := 4000) hi hj
theorem logL {i : Int} {a : Nat} (h : i.natAbs < 2 ^ a) (h0 : 0 < a) (h9 : a ≤ 9000) : i.natAbs.log2 < 9000 := Nat.lt_of_lt_of_le (PySem.Flt.log2_lt_of h0 h) h9
theorem ok_plus (T : Txt w K mg) : FnOk P w K mg base CX0 4 T.a_plus T.d_plus ["a", "b"] (sp_two K (fun p q r s => p * s + r * q) fun _ q _ s => q * s) := by
  refine T.F_plus.ok sc_plus (fun vs H Q E h => ?_) (fun cdv A outer s H vs Q E hr h => ?_)
  · obtain ⟨a, b, p, q, r, s', rfl, _⟩ := h
    rfl
  · obtain ⟨a, b, p, q, r, s', rfl, ha, hb, lp, lq, lr, ls, n0, k⟩ := h
    have hr_fraction : Room 3 _ := hr.mono (by decide)
    have G_fraction := ok_fraction (P := P) (base := base) T
    refine ⟨_, (pss_one (ps_ret (pe_call G_fraction hr_fraction (by rfl) T.m_fraction T.F_fraction.kp T.B_fraction .nil passL (pa_cons (pe_op op_add (pe_op op_mulW (pe_ix ix_tup (pv 0) pe_int (fun _ _ => rfl)) (pe_ix ix_tup (pv 1) pe_int (fun _ _ => rfl))) (pe_op op_mulW (pe_ix ix_tup (pv 1) pe_int (fun _ _ => rfl)) (pe_ix ix_tup (pv 0) pe_int (fun _ _ => rfl)))) (pa_cons (pe_op op_mulW (pe_ix ix_tup (pv 0) pe_int (fun _ _ => rfl)) (pe_ix ix_tup (pv 1) pe_int (fun _ _ => rfl))) pa_nil))))), ?_⟩
    walk_at "rs"
    refine ⟨_, ha, _, rfl, _, hb, _, rfl, _, rfl, _, rfl, mulW lp ls, _, hb, _, rfl, _, ha, _, rfl, _, rfl, _, rfl, mulW lr lq, _, ha, _, rfl, _, hb, _, rfl, _, rfl, _, rfl, mulW lq ls, ?_⟩
    exact ⟨_, _, rfl, logL (two_add (mulL lp ls) (mulL lr lq)) (by decide) (by decide), logL (mulL lq ls) (by decide) (by decide), fun _ => k, fun e => absurd e n0⟩
end
end LK

set_option Elab.async false
set_option linter.all false
set_option maxRecDepth 100000
namespace LK
open PySem PySem.Spec PyProof.Rows L2
local macro_rules | `(tactic| walk_at "rs") => `(tactic| simp only [tFld, sFld, tMeth, tMethZ, tMakeK, tProp, tFmt, rEqO, rNeO, cxK, cxNK, tCallZ, tAsg, tOp, rI0, rS0, rB0, rI, rU, tUn, rEq, rNe, rIxL, rIxT, rIxS, rSetL, rSlLU, rSlS, rSlU, rCatL, rCatU, rRepL, rIn, tVar, tC, gName, gSub, tIfS, tTest, tB, tAnd, tOr, tNot, tNotV, tAndV, tOrV, tIf, tCall, tCons, tNil, tCB, tDrop, tRet, tRetN, tNext, tLstU, tTupU, tM0, tM1, tPar, tPar3, tAug, ipI, tBM, tBM0, rAppend, rPop, tBreak, sDPut, tDGet, tDGet2, tCont, tChain, tSl, tPart, tNoPart, L2.start, List.map, List.length_cons, List.length_nil, List.replicate, List.cons_append, List.nil_append, List.append_nil, List.getElem?_cons_zero, List.getElem?_cons_succ, List.set_cons_zero, List.set_cons_succ, Option.some.injEq, V.int.injEq, V.ref.injEq, V.str.injEq, V.bl.injEq, exists_eq_left', exists_eq_left, exists_and_left, decide_eq_true_eq, List.cons.injEq, and_true, true_and, scal, Bool.not_eq_true', decide_eq_false_iff_not, Nat.zero_add, Nat.reduceAdd, Nat.reduceSub, reduceCtorEq, false_and, exists_false, false_or, or_false, CPow, CPowW, CMul, CDiv, Int.reduceToNat, ↓reduceIte, wipe, sw, List.nil_append, List.singleton_append])
local macro_rules | `(tactic| walk_at "st") => `(tactic| (refine seq_op fun N hN => ?_; walk_at "rs"))
local macro_rules | `(tactic| walk_at "sd") => `(tactic| first | assumption | decide | omega)
local macro_rules | `(tactic| walk_at "rd") => `(tactic| repeat (first
  | refine ⟨_, SqL.of (by assumption), ?_⟩ | refine ⟨_, SqL.of upd_same, ?_⟩ | refine ⟨_, .inl (SqL.of (by assumption)), ?_⟩ | refine ⟨_, (by assumption : _ = some (HO.lst _)), ?_⟩ | refine ⟨_, upd_same, ?_⟩
  | refine ⟨_, rfl, ?_⟩ | refine And.intro (by walk_at "sd") ?_))

theorem eqv_zero (r s : Int) : PyData.eqv (.tuple [.int r, .int s]) (.tuple [.int 0, .int 1]) = (decide (r = 0) && decide (s = 1)) := by
  simp [PyData.eqv, PyData.eqvAll]
  rfl
theorem shaped2 (r s : Int) : SeqAt.shaped (.tuple [.int r, .int s]) = true := by rfl
theorem dp_pair {K : PySem.W.Frag} {H : Hp} {a : Addr} {p q : Int} (h : Pr K H a p q) : Dp K H (.ref a) (.tuple [.int p, .int q]) := .tup h (.cons (.int p) (.cons (.int q) .nil))
theorem abs_if (p : Int) : (if p < 0 then -p else p) = ((p.natAbs : Nat) : Int) := by split <;> omega
theorem fr_spec (p : Int) {q : Int} (h : q ≠ 0) : frP p q * frG p q = p ∧ frQ p q * frG p q = q ∧ 1 ≤ frQ p q ∧ Nat.gcd (frP p q).natAbs (frQ p q).natAbs = 1 ∧ (frP p q).natAbs ≤ p.natAbs ∧ (frQ p q).natAbs ≤ q.natAbs ∧ frG p q ≠ 0 := by
  have g0 : Nat.gcd p.natAbs q.natAbs ≠ 0 := fun z => h (by have := Nat.eq_zero_of_gcd_eq_zero_right z; omega)
  have ga : (frG p q).natAbs = Nat.gcd p.natAbs q.natAbs := by unfold frG; split <;> omega
  have gs : (0 < q ∧ 0 < frG p q) ∨ (q < 0 ∧ frG p q < 0) := by unfold frG; split <;> omega
  have gn : frG p q ≠ 0 := by omega
  have d1 : frG p q ∣ p := Int.natAbs_dvd_natAbs.mp (by rw [ga]; exact Nat.gcd_dvd_left _ _)
  have d2 : frG p q ∣ q := Int.natAbs_dvd_natAbs.mp (by rw [ga]; exact Nat.gcd_dvd_right _ _)
  obtain ⟨a, ea⟩ := d1
  obtain ⟨b, eb⟩ := d2
  have pa : frP p q = a := by
    unfold frP
    generalize frG p q = G at ea gn
    rw [ea, Int.mul_comm]
    exact Int.mul_fdiv_cancel _ gn
  have qb : frQ p q = b := by
    unfold frQ
    generalize frG p q = G at eb gn
    rw [eb, Int.mul_comm]
    exact Int.mul_fdiv_cancel _ gn
  rw [pa, qb]
  have na : p.natAbs = a.natAbs * Nat.gcd p.natAbs q.natAbs := by
    rw [← ga, ← Int.natAbs_mul, Int.mul_comm]; exact congrArg Int.natAbs ea
  have nb : q.natAbs = b.natAbs * Nat.gcd p.natAbs q.natAbs := by
    rw [← ga, ← Int.natAbs_mul, Int.mul_comm]; exact congrArg Int.natAbs eb
  have hg : Nat.gcd a.natAbs b.natAbs = 1 := by
    have e : Nat.gcd (a.natAbs * Nat.gcd p.natAbs q.natAbs) (b.natAbs * Nat.gcd p.natAbs q.natAbs) = Nat.gcd p.natAbs q.natAbs := by rw [← na, ← nb]
    rw [Nat.gcd_mul_right] at e
    exact Nat.eq_of_mul_eq_mul_right (Nat.pos_of_ne_zero g0) (by rw [e, Nat.one_mul])
  refine ⟨by rw [Int.mul_comm]; exact ea.symm, by rw [Int.mul_comm]; exact eb.symm, ?_, hg, ?_, ?_, gn⟩
  · generalize frG p q = G at eb gs
    rcases Int.lt_trichotomy b 0 with c | c | c
    · rcases gs with ⟨h1, h2⟩ | ⟨h1, h2⟩
      · have := Int.mul_neg_of_pos_of_neg h2 c; omega
      · have := Int.mul_pos_of_neg_of_neg h2 c; omega
    · rw [c, Int.mul_zero] at eb; omega
    · omega
  · rw [na]; exact Nat.le_mul_of_pos_right _ (Nat.pos_of_ne_zero g0)
  · rw [nb]; exact Nat.le_mul_of_pos_right _ (Nat.pos_of_ne_zero g0)
theorem pow_le {n a b : Nat} (h : n < 2 ^ a) (hab : a ≤ b) : n < 2 ^ b := Nat.lt_of_lt_of_le h (Nat.pow_le_pow_right (by decide) hab)
theorem abs_div (p : Int) {q : Int} (h : 1 ≤ q) : (p.fdiv q).natAbs ≤ p.natAbs := by
  rw [Int.fdiv_eq_ediv_of_nonneg p (by omega)]
  exact Int.natAbs_ediv_le_natAbs p q
theorem eqv_pair (p q r s : Int) : PyData.eqv (.tuple [.int p, .int q]) (.tuple [.int r, .int s]) = (decide (p = r) && decide (q = s)) := by
  simp [PyData.eqv, PyData.eqvAll]
  rfl
theorem fr_low {p q : Int} (h : 1 ≤ q) (hg : Nat.gcd p.natAbs q.natAbs = 1) : frP p q = p ∧ frQ p q = q := by
  have e : frG p q = 1 := by unfold frG; rw [hg, if_neg (by omega)]; rfl
  obtain ⟨h1, h2, _⟩ := fr_spec p (q := q) (by omega)
  rw [e, Int.mul_one] at h1 h2
  exact ⟨h1, h2⟩
theorem fr_unique {P Q p q : Int} (hQ : Q ≠ 0) (h : P * q = p * Q) (hq : 1 ≤ q) (hg : Nat.gcd p.natAbs q.natAbs = 1) : frP P Q = p ∧ frQ P Q = q := by
  obtain ⟨e1, e2, e3, e4, _, _, g0⟩ := fr_spec P hQ
  have h2 : frP P Q * q = p * frQ P Q := by
    have e : (frP P Q * q) * frG P Q = (p * frQ P Q) * frG P Q := by
      have a : (frP P Q * q) * frG P Q = (frP P Q * frG P Q) * q := by
        rw [Int.mul_assoc, Int.mul_comm q, ← Int.mul_assoc]
      have b : (p * frQ P Q) * frG P Q = p * (frQ P Q * frG P Q) := Int.mul_assoc _ _ _
      rw [a, b, e1, e2, h]
    exact Int.eq_of_mul_eq_mul_right g0 e
  have hn : (frP P Q).natAbs * q.natAbs = p.natAbs * (frQ P Q).natAbs := by rw [← Int.natAbs_mul, ← Int.natAbs_mul, h2]
  have d1 : q.natAbs ∣ (frQ P Q).natAbs := by
    have d : q.natAbs ∣ p.natAbs * (frQ P Q).natAbs := ⟨(frP P Q).natAbs, by rw [← hn, Nat.mul_comm]⟩
    exact Nat.Coprime.dvd_of_dvd_mul_left (Nat.Coprime.symm hg) d
  have d2 : (frQ P Q).natAbs ∣ q.natAbs := by
    have d : (frQ P Q).natAbs ∣ (frP P Q).natAbs * q.natAbs := ⟨p.natAbs, by rw [hn, Nat.mul_comm]⟩
    exact Nat.Coprime.dvd_of_dvd_mul_left (Nat.Coprime.symm e4) d
  have en := Nat.dvd_antisymm d1 d2
  have eq : frQ P Q = q := by omega
  refine ⟨?_, eq⟩
  rw [eq] at h2
  exact Int.eq_of_mul_eq_mul_right (by omega) h2
/-- what a fraction of P and Q is worth -/
theorem fr_worth (P : Int) {Q : Int} (hQ : Q ≠ 0) : frP P Q * Q = P * frQ P Q := by
  obtain ⟨e1, e2, _⟩ := fr_spec P hQ
  have : frP P Q * Q = frP P Q * (frQ P Q * frG P Q) := by rw [e2]
  rw [this, Int.mul_comm (frQ P Q), ← Int.mul_assoc, e1]
end LK

set_option Elab.async false
set_option linter.all false
set_option maxRecDepth 100000
namespace LK
open PySem PySem.Spec PyProof.Rows L2
local macro_rules | `(tactic| walk_at "rs") => `(tactic| simp only [tFld, sFld, tMeth, tMethZ, tMakeK, tProp, tFmt, rEqO, rNeO, cxK, cxNK, tCallZ, tAsg, tOp, rI0, rS0, rB0, rI, rU, tUn, rEq, rNe, rIxL, rIxT, rIxS, rSetL, rSlLU, rSlS, rSlU, rCatL, rCatU, rRepL, rIn, tVar, tC, gName, gSub, tIfS, tTest, tB, tAnd, tOr, tNot, tNotV, tAndV, tOrV, tIf, tCall, tCons, tNil, tCB, tDrop, tRet, tRetN, tNext, tLstU, tTupU, tM0, tM1, tPar, tPar3, tAug, ipI, tBM, tBM0, rAppend, rPop, tBreak, sDPut, tDGet, tDGet2, tCont, tChain, tSl, tPart, tNoPart, L2.start, List.map, List.length_cons, List.length_nil, List.replicate, List.cons_append, List.nil_append, List.append_nil, List.getElem?_cons_zero, List.getElem?_cons_succ, List.set_cons_zero, List.set_cons_succ, Option.some.injEq, V.int.injEq, V.ref.injEq, V.str.injEq, V.bl.injEq, exists_eq_left', exists_eq_left, exists_and_left, decide_eq_true_eq, List.cons.injEq, and_true, true_and, scal, Bool.not_eq_true', decide_eq_false_iff_not, Nat.zero_add, Nat.reduceAdd, Nat.reduceSub, reduceCtorEq, false_and, exists_false, false_or, or_false, CPow, CPowW, CMul, CDiv, Int.reduceToNat, ↓reduceIte, wipe, sw, List.nil_append, List.singleton_append])
local macro_rules | `(tactic| walk_at "st") => `(tactic| (refine seq_op fun N hN => ?_; walk_at "rs"))
local macro_rules | `(tactic| walk_at "sd") => `(tactic| first | assumption | decide | omega)
local macro_rules | `(tactic| walk_at "rd") => `(tactic| repeat (first
  | refine ⟨_, SqL.of (by assumption), ?_⟩ | refine ⟨_, SqL.of upd_same, ?_⟩ | refine ⟨_, .inl (SqL.of (by assumption)), ?_⟩ | refine ⟨_, (by assumption : _ = some (HO.lst _)), ?_⟩ | refine ⟨_, upd_same, ?_⟩
  | refine ⟨_, rfl, ?_⟩ | refine And.intro (by walk_at "sd") ?_))

abbrev Fr := Int × Int
/-- the fraction f, in lowest terms, is X parts of L -/
def Va (L X : Int) (f : Fr) : Prop := 1 ≤ f.2 ∧ Nat.gcd f.1.natAbs f.2.natAbs = 1 ∧ f.1 * L = X * f.2
theorem Va.dvd {L X : Int} {f : Fr} (h : Va L X f) : f.2 ∣ L := by
  obtain ⟨h1, h2, h3⟩ := h
  have d : f.2.natAbs ∣ f.1.natAbs * L.natAbs := ⟨X.natAbs, by rw [← Int.natAbs_mul, h3, Int.natAbs_mul, Nat.mul_comm]⟩
  exact Int.natAbs_dvd_natAbs.mp (Nat.Coprime.dvd_of_dvd_mul_left (Nat.Coprime.symm h2) d)
theorem Va.den {L X : Int} {f : Fr} (h : Va L X f) (hL : 0 < L) : f.2.natAbs ≤ L.natAbs := Nat.le_of_dvd (by omega) (Int.natAbs_dvd_natAbs.mpr h.dvd)
theorem Va.num {L X : Int} {f : Fr} (h : Va L X f) (hL : 0 < L) : f.1.natAbs ≤ X.natAbs := by
  have hd := h.den hL
  have e : f.1.natAbs * L.natAbs = X.natAbs * f.2.natAbs := by rw [← Int.natAbs_mul, ← Int.natAbs_mul, h.2.2]
  have : f.1.natAbs * L.natAbs ≤ X.natAbs * L.natAbs := by rw [e]; exact Nat.mul_le_mul_left _ hd
  exact Nat.le_of_mul_le_mul_right this (by omega)
theorem Va.zero (L : Int) : Va L 0 (0, 1) := ⟨by decide, by decide, by simp⟩
theorem Va.scale {L X : Int} {f : Fr} (h : Va L X f) (k : Int) : Va (L * k) (X * k) f := ⟨h.1, h.2.1, by rw [← Int.mul_assoc, h.2.2, Int.mul_assoc, Int.mul_assoc, Int.mul_comm k]⟩
theorem Va.plus {L X Y : Int} {f g : Fr} (h : Va L X f) (h' : Va L Y g) : Va L (X + Y) (frP (f.1 * g.2 + g.1 * f.2) (f.2 * g.2), frQ (f.1 * g.2 + g.1 * f.2) (f.2 * g.2)) ∧ f.2 * g.2 ≠ 0 := by
  have q0 : f.2 * g.2 ≠ 0 := Int.mul_ne_zero (by have := h.1; omega) (by have := h'.1; omega)
  have wo := fr_worth (f.1 * g.2 + g.1 * f.2) q0
  obtain ⟨_, _, e3, e4, _⟩ := fr_spec (f.1 * g.2 + g.1 * f.2) q0
  refine ⟨⟨e3, e4, ?_⟩, q0⟩
  dsimp only
  generalize frP (f.1 * g.2 + g.1 * f.2) (f.2 * g.2) = P at wo
  generalize frQ (f.1 * g.2 + g.1 * f.2) (f.2 * g.2) = Q at wo
  refine Int.eq_of_mul_eq_mul_right q0 ?_
  have e1 := h.2.2
  have e2 := h'.2.2
  have a1 : P * L * (f.2 * g.2) = (P * (f.2 * g.2)) * L := by simp only [Int.mul_assoc, Int.mul_comm, Int.mul_left_comm]
  have a2 : (f.1 * g.2 + g.1 * f.2) * Q * L = ((f.1 * L) * g.2 + (g.1 * L) * f.2) * Q := by simp only [Int.add_mul, Int.mul_add, Int.mul_assoc, Int.mul_comm, Int.mul_left_comm]
  rw [a1, wo, a2, e1, e2]
  simp only [Int.add_mul, Int.mul_add, Int.mul_assoc, Int.mul_comm, Int.mul_left_comm]
theorem Va.times {L M X Y : Int} {f g : Fr} (h : Va L X f) (h' : Va M Y g) : Va (L * M) (X * Y) (frP (f.1 * g.1) (f.2 * g.2), frQ (f.1 * g.1) (f.2 * g.2)) ∧ f.2 * g.2 ≠ 0 := by
  have q0 : f.2 * g.2 ≠ 0 := Int.mul_ne_zero (by have := h.1; omega) (by have := h'.1; omega)
  have wo := fr_worth (f.1 * g.1) q0
  obtain ⟨_, _, e3, e4, _⟩ := fr_spec (f.1 * g.1) q0
  refine ⟨⟨e3, e4, ?_⟩, q0⟩
  dsimp only
  generalize frP (f.1 * g.1) (f.2 * g.2) = P at wo
  generalize frQ (f.1 * g.1) (f.2 * g.2) = Q at wo
  refine Int.eq_of_mul_eq_mul_right q0 ?_
  have e1 := h.2.2
  have e2 := h'.2.2
  have a1 : P * (L * M) * (f.2 * g.2) = (P * (f.2 * g.2)) * (L * M) := by simp only [Int.mul_assoc, Int.mul_comm, Int.mul_left_comm]
  have a2 : f.1 * g.1 * Q * (L * M) = (f.1 * L) * (g.1 * M) * Q := by simp only [Int.mul_assoc, Int.mul_comm, Int.mul_left_comm]
  rw [a1, wo, a2, e1, e2]
  simp only [Int.mul_assoc, Int.mul_comm, Int.mul_left_comm]
theorem low_eq {f g : Fr} (hf : 1 ≤ f.2) (gf : Nat.gcd f.1.natAbs f.2.natAbs = 1) (hg : 1 ≤ g.2) (gg : Nat.gcd g.1.natAbs g.2.natAbs = 1) (e : f.1 * g.2 = g.1 * f.2) : f = g := by
  obtain ⟨a, b⟩ := fr_unique (P := f.1) (Q := f.2) (p := g.1) (q := g.2) (by omega) e hg gg
  obtain ⟨c, d⟩ := fr_low hf gf
  exact Prod.ext (by rw [← a, c]) (by rw [← b, d])
theorem Va.uniq {L X : Int} {f g : Fr} (hL : 0 < L) (h : Va L X f) (h' : Va L X g) : f = g := by
  refine low_eq h.1 h.2.1 h'.1 h'.2.1 ?_
  refine Int.eq_of_mul_eq_mul_right (show L ≠ 0 by omega) ?_
  have e1 := h.2.2
  have e2 := h'.2.2
  have a1 : f.1 * g.2 * L = (f.1 * L) * g.2 := by simp only [Int.mul_assoc, Int.mul_comm, Int.mul_left_comm]
  have a2 : g.1 * f.2 * L = (g.1 * L) * f.2 := by simp only [Int.mul_assoc, Int.mul_comm, Int.mul_left_comm]
  rw [a1, a2, e1, e2]
  simp only [Int.mul_assoc, Int.mul_comm, Int.mul_left_comm]
theorem Va.pos {L X : Int} {f : Fr} (hL : 0 < L) (h : Va L X f) : 0 < f.1 ↔ 0 < X := by
  have e := h.2.2
  have q1 := h.1
  constructor
  · intro p
    have := Int.mul_pos p hL
    rw [e] at this
    exact Int.pos_of_mul_pos_left this (by omega)
  · intro p
    have := Int.mul_pos p (show 0 < f.2 by omega)
    rw [← e] at this
    exact Int.pos_of_mul_pos_left this hL
/-- the parts of M that f has -/
def num (M : Int) (f : Fr) : Int := f.1 * (M / f.2)
theorem num_va {M : Int} {f : Fr} (h1 : 1 ≤ f.2) (hg : Nat.gcd f.1.natAbs f.2.natAbs = 1) (hd : f.2 ∣ M) : Va M (num M f) f := by
  refine ⟨h1, hg, ?_⟩
  unfold num
  rw [Int.mul_assoc, Int.ediv_mul_cancel hd]
end LK

set_option Elab.async false
set_option linter.all false
set_option maxRecDepth 100000
namespace LK
open PySem PySem.Spec PyProof.Rows L2
local macro_rules | `(tactic| walk_at "rs") => `(tactic| simp only [tFld, sFld, tMeth, tMethZ, tMakeK, tProp, tFmt, rEqO, rNeO, cxK, cxNK, tCallZ, tAsg, tOp, rI0, rS0, rB0, rI, rU, tUn, rEq, rNe, rIxL, rIxT, rIxS, rSetL, rSlLU, rSlS, rSlU, rCatL, rCatU, rRepL, rIn, tVar, tC, gName, gSub, tIfS, tTest, tB, tAnd, tOr, tNot, tNotV, tAndV, tOrV, tIf, tCall, tCons, tNil, tCB, tDrop, tRet, tRetN, tNext, tLstU, tTupU, tM0, tM1, tPar, tPar3, tAug, ipI, tBM, tBM0, rAppend, rPop, tBreak, sDPut, tDGet, tDGet2, tCont, tChain, tSl, tPart, tNoPart, L2.start, List.map, List.length_cons, List.length_nil, List.replicate, List.cons_append, List.nil_append, List.append_nil, List.getElem?_cons_zero, List.getElem?_cons_succ, List.set_cons_zero, List.set_cons_succ, Option.some.injEq, V.int.injEq, V.ref.injEq, V.str.injEq, V.bl.injEq, exists_eq_left', exists_eq_left, exists_and_left, decide_eq_true_eq, List.cons.injEq, and_true, true_and, scal, Bool.not_eq_true', decide_eq_false_iff_not, Nat.zero_add, Nat.reduceAdd, Nat.reduceSub, reduceCtorEq, false_and, exists_false, false_or, or_false, CPow, CPowW, CMul, CDiv, Int.reduceToNat, ↓reduceIte, wipe, sw, List.nil_append, List.singleton_append])
local macro_rules | `(tactic| walk_at "st") => `(tactic| (refine seq_op fun N hN => ?_; walk_at "rs"))
local macro_rules | `(tactic| walk_at "sd") => `(tactic| first | assumption | decide | omega)
local macro_rules | `(tactic| walk_at "rd") => `(tactic| repeat (first
  | refine ⟨_, SqL.of (by assumption), ?_⟩ | refine ⟨_, SqL.of upd_same, ?_⟩ | refine ⟨_, .inl (SqL.of (by assumption)), ?_⟩ | refine ⟨_, (by assumption : _ = some (HO.lst _)), ?_⟩ | refine ⟨_, upd_same, ?_⟩
  | refine ⟨_, rfl, ?_⟩ | refine And.intro (by walk_at "sd") ?_))

section
variable {P : Program} {w : World} {K : PySem.W.Frag} {mg : Str → Option Value} {base : Heap}
theorem ok__law_draw (T : Txt w K mg) : FnOk P w K mg base CX0 1 T.a__law_draw T.d__law_draw ["bag", "many"] sp__law_draw := by
  refine T.F__law_draw.ok sc__law_draw (fun vs H Q E h => ?_) (fun cdv A outer s H vs Q E hr h => ?_)
  · obtain ⟨b, c, n, N0, rfl, _⟩ := h
    rfl
  · obtain ⟨b, c, n, N0, rfl, ⟨cells, i, g, m, d, hB, hC, ncb, hi, hm, hm2, hd, hd2⟩, n0, n1, k⟩ := h
    refine ⟨_, (pss_cons (ps_asg (pe_op op_add (pe_ix ix_list (pv 0) pe_int (fun _ _ => rfl)) pe_int) (pg_sub (pv 0) pe_int set_list))
      (pss_cons (ps_if (PW.pt (pw_and (pt_cmpR op_eqI (pe_ix ix_list (pv 0) pe_int (fun _ _ => rfl)) pe_int (nomark _)) (pw_and1 (pt_cmpR op_lt (pe_ix ix_list (pv 0) pe_int (fun _ _ => rfl)) (pe_callB call_len_seq (by rfl) T.n_len (by decide +kernel) (pa_cons (pe_ix ix_list (pv 0) pe_int (fun _ _ => rfl)) pa_nil)) (nomark _))))) (pss_cons (ps_set (i := 2) sc__law_draw.nd rfl (Or.inl rfl) (pe_callTy call_intI (by rfl) T.n_int (by decide +kernel) (pa_cons (pe_ix ix_list (pe_ix ix_list (pv 0) pe_int (fun _ _ => rfl)) (pe_ix ix_list (pv 0) pe_int (fun _ _ => rfl)) (fun _ _ => rfl)) pa_nil)))
      (pss_cons (ps_asg (pe_op op_add (pe_ix ix_list (pv 0) pe_int (fun _ _ => rfl)) pe_int) (pg_sub (pv 0) pe_int set_list))
      (pss_one (ps_if (pt_cmpR op_ge (pv 2) (pe_op op_powW pe_int pe_int) (nomark _)) (pss_one (ps_asg (pv 2) (pg_sub (pv 0) pe_int set_list))) (pss_one (ps_asg (pe_op op_mod (pe_callTy call_intI (by rfl) T.n_int (by decide +kernel) (pa_cons (pe_op op_powW (pe_op op_add (pe_op op_add (pe_ix ix_list (pv 0) pe_int (fun _ _ => rfl)) (pe_op op_mul (pe_op op_mod (pe_callTy call_intI (by rfl) T.n_int (by decide +kernel) (pa_cons (pv 2) pa_nil)) pe_int) pe_int)) pe_int) pe_int) pa_nil)) pe_int) (pg_sub (pv 0) pe_int set_list))))))) pss_nil)
      (pss_cons (ps_if (pt_cmpR op_gt (pe_ix ix_list (pv 0) pe_int (fun _ _ => rfl)) pe_int (nomark _)) (pss_cons (ps_set (i := 3) sc__law_draw.nd rfl (Or.inl rfl) (pe_op op_mod (pe_callTy call_intI (by rfl) T.n_int (by decide +kernel) (pa_cons (pe_ix ix_list (pv 0) pe_int (fun _ _ => rfl)) pa_nil)) (pv 1)))
      (pss_cons (ps_asg (pe_op op_fdivW (pe_callTy call_intI (by rfl) T.n_int (by decide +kernel) (pa_cons (pe_ix ix_list (pv 0) pe_int (fun _ _ => rfl)) pa_nil)) (pv 1)) (pg_sub (pv 0) pe_int set_list))
      (pss_one (ps_ret (pv 3))))) pss_nil)
      (pss_cons (ps_asg (pe_op op_mod (pe_callTy call_intI (by rfl) T.n_int (by decide +kernel) (pa_cons (pe_op op_powW (pe_op op_add (pe_op op_add (pe_ix ix_list (pv 0) pe_int (fun _ _ => rfl)) (pe_op op_mul (pe_ix ix_list (pv 0) pe_int (fun _ _ => rfl)) pe_int)) pe_int) pe_int) pa_nil)) pe_int) (pg_sub (pv 0) pe_int set_list))
      (pss_one (ps_ret (pe_op op_mod (pe_callTy call_intI (by rfl) T.n_int (by decide +kernel) (pa_cons (pe_op op_fdivW (pe_ix ix_list (pv 0) pe_int (fun _ _ => rfl)) pe_int) pa_nil)) (pv 1)))))))), ?_⟩
    -- bag[4] = bag[4] + 1
    refine seq_op fun N hN => ?_
    walk_at "rs"
    refine ⟨_, SqL.of hB, _, rfl, _, rfl, _, hB, _, rfl, ?_⟩
    refine hN _ _ ?_
    clear hN N
    -- if bag[2] == 0 and bag[1] < len(bag[0]): ..
    have B1 : Bag N0 (upd H b (.lst [.ref c, .int i, .int g, .int m, .int (d + 1)])) b c := ⟨cells, i, g, m, d + 1, upd_same, by rw [upd_ne ncb]; exact hC, ncb, hi, hm, hm2, by omega, by omega⟩
    have K1 : Kp b H (upd H b (.lst [.ref c, .int i, .int g, .int m, .int (d + 1)])) := Kp.upd
    show tSeq _ _ _ _ (upd H b (.lst [.ref c, .int i, .int g, .int m, .int (d + 1)]))
    generalize upd H b (.lst [.ref c, .int i, .int g, .int m, .int (d + 1)]) = H1 at B1 K1 ⊢
    clear hB hC ncb hi hm hm2 hd hd2 i g m d cells
    refine cut_seq (fun σ H2 => ∃ x, σ = [some (.ref b), some (.int n), x, none] ∧ Bag N0 H2 b c ∧ Kp b H H2) (fun N hN => ?_) ?_
    · obtain ⟨cells, i, g, m, d, hB, hC, ncb, hi, hm, hm2, hd, hd2⟩ := id B1
      walk_at "rs"
      refine ⟨_, SqL.of hB, _, rfl, _, rfl, ite2 (fun z => ?_) (fun _ => hN _ _ ⟨_, rfl, B1, K1⟩)⟩
      refine ⟨_, SqL.of hB, _, rfl, _, SqL.of hB, _, rfl, _, rfl, _, .inl (SqL.of hC), _, rfl, ite2 (fun zl => ?_) (fun _ => hN _ _ ⟨_, rfl, B1, K1⟩)⟩
      -- cell = bag[0][bag[1]]
      rw [List.length_map] at zl
      obtain ⟨cl, hcl⟩ : ∃ cl, cells[i.toNat]? = some cl := ⟨cells[i.toNat]'(by omega), List.getElem?_eq_getElem _⟩
      refine seq_op fun N2 hN2 => ?_
      walk_at "rs"
      walk_at "rd"
      refine ⟨_, _, rfl, SqL.of hC, _, at_of (j := i.toNat) (v := .int cl) (by omega) (by rw [List.getElem?_map, hcl] <;> rfl), cl, rfl, hN2 _ _ ?_⟩
      clear hN2 N2
      -- bag[1] = bag[1] + 1
      refine seq_op fun N2 hN2 => ?_
      walk_at "rs"
      walk_at "rd"
      refine hN2 _ _ ?_
      clear hN2 N2
      -- if cell >= 10 ** 18: bag[2] = cell else: ..
      walk_at "rs"
      refine ⟨by decide, ite2 (fun _ => ?_) (fun _ => ?_)⟩
      · refine ⟨_, upd_same, _, rfl, hN _ _ ⟨_, rfl, ?_, ?_⟩⟩
        · exact ⟨cells, i + 1, cl, m, d, upd_same, by rw [upd_ne ncb, upd_ne ncb]; exact hC, ncb, by omega, hm, hm2, hd, hd2⟩
        · exact K1.trans (Kp.upd.trans Kp.upd)
      · walk_at "rd"
        refine hN _ _ ⟨_, rfl, ?_, ?_⟩
        · exact ⟨cells, i + 1, g, _, d, upd_same, by rw [upd_ne ncb, upd_ne ncb]; exact hC, ncb, by omega, Int.emod_nonneg _ (by decide), Int.emod_lt_of_pos _ (by decide), hd, hd2⟩
        · exact K1.trans (Kp.upd.trans Kp.upd)
    · rintro σ H2 ⟨x, rfl, B2, K2⟩
      obtain ⟨cells, i, g, m, d, hB, hC, ncb, hi, hm, hm2, hd, hd2⟩ := id B2
      -- if bag[2] > 0: ..
      refine seq_op fun N hN => ?_
      walk_at "rs"
      refine ⟨_, SqL.of hB, _, rfl, _, rfl, ite2 (fun _ => ?_) (fun _ => hN _ _ ?_)⟩
      · refine seq_op fun N2 hN2 => ?_
        walk_at "rs"
        walk_at "rd"
        refine hN2 _ _ ?_
        clear hN2 N2
        refine seq_op fun N2 hN2 => ?_
        walk_at "rs"
        refine ⟨_, SqL.of hB, _, rfl, _, rfl, ⟨n0, Nat.lt_trans (PySem.Flt.log2_lt_of (by decide : 0 < 30) (show n.natAbs < 2 ^ 30 by omega)) (by decide)⟩, ?_⟩
        walk_at "rd"
        refine hN2 _ _ ?_
        walk_at "rs"
        exact k _ _ (Int.emod_nonneg _ (by omega)) (Int.emod_lt_of_pos _ n0) ⟨cells, i, _, m, d, upd_same, by rw [upd_ne ncb]; exact hC, ncb, hi, hm, hm2, hd, hd2⟩ (K2.trans Kp.upd)
      · clear hN N
        refine seq_op fun N hN => ?_
        walk_at "rs"
        refine ⟨_, SqL.of hB, _, rfl, _, SqL.of hB, _, rfl, _, rfl, .inr (by decide), m, rfl, ⟨by decide, by decide, by omega⟩, by decide, ?_⟩
        walk_at "rd"
        refine hN _ _ ?_
        clear hN N
        walk_at "rs"
        walk_at "rd"
        exact ⟨⟨by decide, Nat.lt_trans (PySem.Flt.log2_lt_of (by decide : 0 < 31) (by decide)) (by decide)⟩, n0, k _ _ (Int.emod_nonneg _ (by omega)) (Int.emod_lt_of_pos _ n0) ⟨cells, i, g, _, d, upd_same, by rw [upd_ne ncb]; exact hC, ncb, hi, Int.emod_nonneg _ (by decide), Int.emod_lt_of_pos _ (by decide), hd, hd2⟩ (K2.trans Kp.upd)⟩

theorem ok__law_bag (T : Txt w K mg) : FnOk P w K mg base CX0 1 T.a__law_bag T.d__law_bag ["script"] (sp__law_bag K) := by
  refine T.F__law_bag.ok sc__law_bag (fun vs H Q E h => ?_) (fun cdv A outer s H vs Q E hr h => ?_)
  · obtain ⟨a, ns, rfl, _⟩ := h
    rfl
  · obtain ⟨a, ns, rfl, hS, hl, k⟩ := h
    refine ⟨_, (pss_cons (ps_set (i := 1) sc__law_bag.nd rfl (Or.inl rfl) pe_int)
      (pss_cons (ps_for PassesOwn.never rfl (pi_list (pe_slice sl_listU (pv 0) po_none (po_some pe_int))) (pg_name (i := 2) sc__law_bag.nd rfl (Or.inl rfl)) (pss_one (ps_set (i := 1) sc__law_bag.nd rfl (Or.inl rfl) (pe_op op_mod (pe_callTy call_intI (by rfl) T.n_int (by decide +kernel) (pa_cons (pe_op op_powW (pe_op op_add (pe_op op_add (pv 1) (pe_op op_mod (pe_callTy call_intI (by rfl) T.n_int (by decide +kernel) (pa_cons (pv 2) pa_nil)) pe_int)) pe_int) pe_int) pa_nil)) pe_int))))
      (pss_one (ps_ret (pe_lstU (pa_cons (pe_callTy call_listU (by rfl) T.n_list (by decide +kernel) (pa_cons (pe_slice sl_listU (pv 0) po_none (po_some pe_int)) pa_nil)) (pa_cons pe_int (pa_cons pe_int (pa_cons (pv 1) (pa_cons pe_int pa_nil)))))))))), ?_⟩
    refine seq_op fun N hN => ?_
    walk_at "rs"
    refine hN _ _ ?_
    clear hN N
    refine cut_seq (fun σ H2 => ∃ m x, σ = [some (.ref a), some (.int m), x] ∧ 0 ≤ m ∧ m < 2305843009213693951 ∧ Same H H2) (fun N hN => ?_) ?_
    · refine ⟨_, rfl, _, rfl, a, _, rfl, hS, fun p H1 s1 h0 h1 => ?_⟩
      refine ⟨p, rfl, ⟨_, SqL.of h1⟩, for_list (K := K) (a := p) (xs := cutV (ns.map V.int) none (some 63)) (fun i σ H2 => ∃ m x, σ = [some (.ref a), some (.int m), x] ∧ 0 ≤ m ∧ m < 2305843009213693951 ∧ Same H1 H2) ⟨_, _, rfl, by decide, by decide, Same.refl _⟩ (fun i σ H2 _ ⟨_, _, _, _, _, s2⟩ => SqL.of (s2 _ _ h1)) ?_ ?_⟩
      · rintro i y σ H2 hi ⟨m, x, rfl, m0, m1, s2⟩
        obtain ⟨u, rfl⟩ : ∃ u, y = V.int u := by
          have q := List.mem_of_getElem? hi
          have q2 : y ∈ (ns.map V.int).take 63 := (cutV_take (ns.map V.int) 63) ▸ q
          obtain ⟨u, _, rfl⟩ := List.mem_map.mp (List.mem_of_mem_take q2)
          exact ⟨u, rfl⟩
        walk_at "rs"
        have u0 := Int.emod_nonneg u (show (2305843009213693921 : Int) ≠ 0 by decide)
        have u1 := Int.emod_lt_of_pos u (show (0 : Int) < 2305843009213693921 by decide)
        refine ⟨by decide, ⟨by decide, by decide, by omega⟩, by decide, ?_⟩
        exact ⟨_, _, ⟨rfl, rfl⟩, Int.emod_nonneg _ (by decide), Int.emod_lt_of_pos _ (by decide), s2⟩
      · rintro σ H2 ⟨m, x, rfl, m0, m1, s2⟩
        exact hN _ _ ⟨m, x, rfl, m0, m1, Same.trans s1 s2⟩
    · rintro σ H2 ⟨m, x, rfl, m0, m1, s2⟩
      walk_at "rs"
      refine ⟨_, Same.seq s2 hS, fun p H3 s3 h30 h3 => ⟨_, .inl (SqL.of h3), fun l H4 s4 h40 h4 => ⟨by decide, fun q H5 s5 h50 h5 => ?_⟩⟩⟩
      have e : cutV (ns.map V.int) none (some 63) = ns.map V.int := by
        refine (cutV_take (ns.map V.int) 63).trans ?_
        rw [List.take_of_length_le (by simpa using hl)]
      rw [e] at h4
      have s25 : Same H2 H5 := Same.trans s3 (Same.trans s4 s5)
      refine k q l H5 (Same.trans s2 s25) ⟨ns, 0, 0, m, 0, h5, s5 _ _ h4, fun z => ?_, Int.le_refl _, m0, m1, Int.le_refl _, by decide⟩ ?_
      · rw [z, h50] at h4; cases h4
      · exact Same.dom s2 q (Same.dom s3 q (Same.dom s4 q h50))
end
end LK

set_option Elab.async false
set_option linter.all false
set_option maxRecDepth 100000
namespace LK
open PySem PySem.Spec PyProof.Rows L2
local macro_rules | `(tactic| walk_at "rs") => `(tactic| simp only [tFld, sFld, tMeth, tMethZ, tMakeK, tProp, tFmt, rEqO, rNeO, cxK, cxNK, tCallZ, tAsg, tOp, rI0, rS0, rB0, rI, rU, tUn, rEq, rNe, rIxL, rIxT, rIxS, rSetL, rSlLU, rSlS, rSlU, rCatL, rCatU, rRepL, rIn, tVar, tC, gName, gSub, tIfS, tTest, tB, tAnd, tOr, tNot, tNotV, tAndV, tOrV, tIf, tCall, tCons, tNil, tCB, tDrop, tRet, tRetN, tNext, tLstU, tTupU, tM0, tM1, tPar, tPar3, tAug, ipI, tBM, tBM0, rAppend, rPop, tBreak, sDPut, tDGet, tDGet2, tCont, tChain, tSl, tPart, tNoPart, L2.start, List.map, List.length_cons, List.length_nil, List.replicate, List.cons_append, List.nil_append, List.append_nil, List.getElem?_cons_zero, List.getElem?_cons_succ, List.set_cons_zero, List.set_cons_succ, Option.some.injEq, V.int.injEq, V.ref.injEq, V.str.injEq, V.bl.injEq, exists_eq_left', exists_eq_left, exists_and_left, decide_eq_true_eq, List.cons.injEq, and_true, true_and, scal, Bool.not_eq_true', decide_eq_false_iff_not, Nat.zero_add, Nat.reduceAdd, Nat.reduceSub, reduceCtorEq, false_and, exists_false, false_or, or_false, CPow, CPowW, CMul, CDiv, Int.reduceToNat, ↓reduceIte, wipe, sw, List.nil_append, List.singleton_append])
local macro_rules | `(tactic| walk_at "st") => `(tactic| (refine seq_op fun N hN => ?_; walk_at "rs"))
local macro_rules | `(tactic| walk_at "sd") => `(tactic| first | assumption | decide | omega)
local macro_rules | `(tactic| walk_at "rd") => `(tactic| repeat (first
  | refine ⟨_, SqL.of (by assumption), ?_⟩ | refine ⟨_, SqL.of upd_same, ?_⟩ | refine ⟨_, .inl (SqL.of (by assumption)), ?_⟩ | refine ⟨_, (by assumption : _ = some (HO.lst _)), ?_⟩ | refine ⟨_, upd_same, ?_⟩
  | refine ⟨_, rfl, ?_⟩ | refine And.intro (by walk_at "sd") ?_))

theorem Kp.bn {b : Addr} {H H' : Hp} (k : Kp b H H') {o : HO} (h : H' b = some o) {p : Addr} (h0 : H' p = none) : H p = none := k.dom h p h0
theorem sqT_hb {N : Nat} {K : PySem.W.Frag} {H : Hp} {b c q : Addr} {xs : List V} (B : Bag N H b c) (h : SqT K H q xs) : SqT K (hb H b) q xs := by
  obtain ⟨yb, eb⟩ := B.at
  rcases h with (h | ⟨o, h⟩) | h
  · refine .inl (.inl ?_)
    rw [hb_ne]; exact h
    intro e; rw [e, eb] at h; cases h
  · refine .inl (.inr ⟨o, ?_⟩)
    rw [hb_ne]; exact h
    intro e; rw [e, eb] at h; cases h
  · exact .inr h
theorem seqT_kp {N : Nat} {K : PySem.W.Frag} {H H' : Hp} {b c q : Addr} {xs : List V} (B : Bag N H b c) (k : Kp b H H') (h : SqT K H q xs) : SqT K H' q xs := Same.seqT (hb_le H' b) (Same.seqT k (sqT_hb B h))
theorem new_ne {N : Nat} {b c p : Addr} {H : Hp} (B : Bag N H b c) (h0 : H p = none) : p ≠ b := fun e => by
  obtain ⟨xb, eb⟩ := B.at
  rw [e, eb] at h0; cases h0
theorem of_lst {N : Nat} {K : PySem.W.Frag} {H : Hp} {b c p : Addr} (B : Bag (N + 1) H b c) {ys : List V} (h : H p = some (.lst ys)) (n : p ≠ b) (ne : ys ≠ []) (hl : ys.length ≤ 1000000) {Q : VK} {E : XK} (k : ∀ y H', y ∈ ys → Bag N H' b c → Kp b H H' → Q y H') : sp__law_of K [.ref b, .ref p] H Q E :=
  ⟨b, c, .ref p, ys, N, rfl, B, .inl ⟨p, rfl, SqL.of h⟩, .inl ⟨p, rfl, SqL.of (by rw [hb_ne n]; exact h)⟩, ne, hl, k⟩
end LK

set_option Elab.async false
set_option linter.all false
set_option maxRecDepth 100000
namespace LK
open PySem PySem.Spec PyProof.Rows L2
local macro_rules | `(tactic| walk_at "rs") => `(tactic| simp only [tFld, sFld, tMeth, tMethZ, tMakeK, tProp, tFmt, rEqO, rNeO, cxK, cxNK, tCallZ, tAsg, tOp, rI0, rS0, rB0, rI, rU, tUn, rEq, rNe, rIxL, rIxT, rIxS, rSetL, rSlLU, rSlS, rSlU, rCatL, rCatU, rRepL, rIn, tVar, tC, gName, gSub, tIfS, tTest, tB, tAnd, tOr, tNot, tNotV, tAndV, tOrV, tIf, tCall, tCons, tNil, tCB, tDrop, tRet, tRetN, tNext, tLstU, tTupU, tM0, tM1, tPar, tPar3, tAug, ipI, tBM, tBM0, rAppend, rPop, tBreak, sDPut, tDGet, tDGet2, tCont, tChain, tSl, tPart, tNoPart, L2.start, List.map, List.length_cons, List.length_nil, List.replicate, List.cons_append, List.nil_append, List.append_nil, List.getElem?_cons_zero, List.getElem?_cons_succ, List.set_cons_zero, List.set_cons_succ, Option.some.injEq, V.int.injEq, V.ref.injEq, V.str.injEq, V.bl.injEq, exists_eq_left', exists_eq_left, exists_and_left, decide_eq_true_eq, List.cons.injEq, and_true, true_and, scal, Bool.not_eq_true', decide_eq_false_iff_not, Nat.zero_add, Nat.reduceAdd, Nat.reduceSub, reduceCtorEq, false_and, exists_false, false_or, or_false, CPow, CPowW, CMul, CDiv, Int.reduceToNat, ↓reduceIte, wipe, sw, List.nil_append, List.singleton_append])
local macro_rules | `(tactic| walk_at "st") => `(tactic| (refine seq_op fun N hN => ?_; walk_at "rs"))
local macro_rules | `(tactic| walk_at "sd") => `(tactic| first | assumption | decide | omega)
local macro_rules | `(tactic| walk_at "rd") => `(tactic| repeat (first
  | refine ⟨_, SqL.of (by assumption), ?_⟩ | refine ⟨_, SqL.of upd_same, ?_⟩ | refine ⟨_, .inl (SqL.of (by assumption)), ?_⟩ | refine ⟨_, (by assumption : _ = some (HO.lst _)), ?_⟩ | refine ⟨_, upd_same, ?_⟩
  | refine ⟨_, rfl, ?_⟩ | refine And.intro (by walk_at "sd") ?_))

theorem dp_kitD {K : PySem.W.Frag} {H : Hp} {v : V} {d : PyData} (h : Dp K H v d) : PySem.W.kitOne K (.type (tyN d)) (.type "dict") = some false := by
  refine kit_ty ?_
  cases h <;> (simp only [tyN]; decide +kernel)
theorem call_isiDT3 {X : Cx} : CallR X (.builtin "isinstance") (fun xs H Q => ∃ x tp d, xs = [x, .ref tp] ∧ H tp = some (.tup [.ty "list", .ty "tuple", .ty "dict"]) ∧ Dp X.K H x d ∧ Q (.bl (isTy "list" d || isTy "tuple" d)) H) := cr_imp call_isiT fun xs H Q h => by
  obtain ⟨x, tp, d, rfl, ht, hd, q⟩ := h
  refine ⟨x, tp, _, .type (tyN d), [.type "list", .type "tuple", .type "dict"], _, rfl, ht, .cons (.ty _) (.cons (.ty _) (.cons (.ty _) .nil)), dp_ty hd, ?_, q⟩
  have h1 := dp_kit hd (T := "list") (by simp)
  have h2 := dp_kit hd (T := "tuple") (by simp)
  have h3 := dp_kitD hd
  unfold PySem.W.kitAny PySem.W.kitAny PySem.W.kitAny PySem.W.kitAny
  rw [h1, h2, h3]
  cases isTy "list" d <;> cases isTy "tuple" d <;> rfl
theorem dep_tup (ds : List PyData) : dep (.tuple ds) = depAll ds + 1 := rfl
theorem dep_lst (ds : List PyData) : dep (.list ds) = depAll ds + 1 := rfl
theorem depAll_get : ∀ {ds : List PyData} {i : Nat} {d : PyData}, ds[i]? = some d → dep d ≤ depAll ds
  | [], _, _, e => by simp at e
  | a :: r, 0, _, e => by simp at e; subst e; exact Nat.le_max_left _ _
  | a :: r, i + 1, _, e => Nat.le_trans (depAll_get (ds := r) (i := i) (by simpa using e)) (Nat.le_max_right _ _)
theorem dpa_get4 {K : PySem.W.Frag} {H : Hp} : ∀ {vs : List V} {ds : List PyData} {i : Nat} {v : V}, DpAll K H vs ds → vs[i]? = some v → ∃ d, ds[i]? = some d ∧ Dp K H v d
  | _, _, _, _, .nil, e => by simp at e
  | _, _, 0, _, .cons r _, e => by simp at e; subst e; exact ⟨_, rfl, r⟩
  | _, _, i + 1, _, .cons _ t, e => by
    obtain ⟨d, h1, h2⟩ := dpa_get4 (i := i) t (by simpa using e)
    exact ⟨d, by simpa using h1, h2⟩
theorem dpa_len4 {K : PySem.W.Frag} {H : Hp} : ∀ {vs : List V} {ds : List PyData}, DpAll K H vs ds → vs.length = ds.length
  | _, _, .nil => rfl
  | _, _, .cons _ t => by simp [dpa_len4 t]
theorem ok_get4 : ∀ {ds : List PyData} {i : Nat} {d : PyData}, okAll ds = true → ds[i]? = some d → okD d = true
  | [], _, _, _, e => by simp at e
  | a :: r, 0, _, h, e => by
    simp at e; subst e
    unfold okAll at h; rw [Bool.and_eq_true] at h; exact h.1
  | a :: r, i + 1, _, h, e => by
    unfold okAll at h; rw [Bool.and_eq_true] at h
    exact ok_get4 (i := i) h.2 (by simpa using e)
theorem isTy_leaf {d : PyData} (h1 : ∀ ds, d ≠ .list ds) (h2 : ∀ ds, d ≠ .tuple ds) : isTy "list" d = false ∧ isTy "tuple" d = false := by
  cases d <;> simp [isTy] <;> first | exact absurd rfl (h1 _) | exact absurd rfl (h2 _)
theorem walk_zipT {K : PySem.W.Frag} {a b : Addr} {xs ys : List V} {n : Nat} (hx : xs.length = n) (hy : ys.length = n) : Walk (RZ.ItzT K a b) n (fun H => SqT K H a xs ∧ SqT K H b ys) (YPair (fun i => xs[i]?) (fun i => ys[i]?)) := by
  refine ⟨fun i _ hi q => ?_, fun _ q => ⟨xs, ys, q.1, q.2, by omega⟩, fun i H v H' _ q y => ?_⟩
  · have h1 : i < xs.length := by omega
    have h2 : i < ys.length := by omega
    exact ⟨xs, ys, xs[i], ys[i], q.1, q.2, by simp [h1], by simp [h2]⟩
  · obtain ⟨T, x, z, h1, h2, h3, h4, h5⟩ := y
    exact ⟨T, x, z, h1, h2, h3, h4 xs q.1, h5 ys q.2⟩
section
variable {P : Program} {w : World} {K : PySem.W.Frag} {mg : Str → Option Value} {base : Heap}
theorem like_step (T : Txt w K mg) (n : Nat) (ih : ∀ m, m + 1 = n → FnOk P w K mg base CX0 (m + 1) T.a__law_like T.d__law_like ["found", "due"] (sp__law_like K m)) : FnOk P w K mg base CX0 (n + 1) T.a__law_like T.d__law_like ["found", "due"] (sp__law_like K n) := by
  refine T.F__law_like.ok sc__law_like (fun vs H Q E h => ?_) (fun cdv A outer s H vs Q E hr h => ?_)
  · obtain ⟨v, u, d, rfl, _⟩ := h
    rfl
  · obtain ⟨v, u, d, rfl, hv, hu, hok, hdep, k⟩ := h
    have leaf : isTy "list" d = false ∧ isTy "tuple" d = false ∨ (∃ ds, (d = .list ds ∨ d = .tuple ds)) := by
      cases d <;> first | exact .inr ⟨_, .inl rfl⟩ | exact .inr ⟨_, .inr rfl⟩ | exact .inl ⟨rfl, rfl⟩
    rcases leaf with ⟨el, et⟩ | ⟨ds, hds⟩
    · refine ⟨_, (pss_cons (ps_if (pt_val (pe_callB call_isiDT (by rfl) T.n_isinstance (by decide +kernel) (pa_cons (pv 1) (pa_cons (pe_tupU (pa_cons (pe_bltn (v := .ty "list") (u := .type "list") (by rfl) T.n_list (by decide +kernel) rfl) (pa_cons (pe_bltn (v := .ty "tuple") (u := .type "tuple") (by rfl) T.n_tuple (by decide +kernel) rfl) pa_nil))) pa_nil)))) pss_never pss_nil) (pss_cons (ps_if (PW.pt (pw_or (pt_cmpR op_isN (pv 1) pe_non (nomark _)) (pw_or1 (pt_cmpR op_isN (pv 0) pe_non (nomark _))))) (pss_one (ps_ret (pe_and (pe_cmpR op_isN (pv 1) pe_non (nomark _)) (pe_one (pe_cmpR op_isN (pv 0) pe_non (nomark _)))))) pss_nil)
      (pss_cons (ps_if (PW.pt (pw_or (pt_val (pe_callB call_isiDT3 (by rfl) T.n_isinstance (by decide +kernel) (pa_cons (pv 0) (pa_cons (pe_tupU (pa_cons (pe_bltn (v := .ty "list") (u := .type "list") (by rfl) T.n_list (by decide +kernel) rfl) (pa_cons (pe_bltn (v := .ty "tuple") (u := .type "tuple") (by rfl) T.n_tuple (by decide +kernel) rfl) (pa_cons (pe_bltn (v := .ty "dict") (u := .type "dict") (by rfl) T.n_dict (by decide +kernel) rfl) pa_nil)))) pa_nil)))) (pw_or1 (pt_cmpR op_neB (pe_callB (call_isiDK (K := K) rfl) (by rfl) T.n_isinstance (by decide +kernel) (pa_cons (pv 0) (pa_cons (pe_bltn (v := .ty "bool") (u := .type "bool") (by rfl) T.n_bool (by decide +kernel) rfl) pa_nil))) (pe_callB (call_isiDK (K := K) rfl) (by rfl) T.n_isinstance (by decide +kernel) (pa_cons (pv 1) (pa_cons (pe_bltn (v := .ty "bool") (u := .type "bool") (by rfl) T.n_bool (by decide +kernel) rfl) pa_nil))) (nomark _))))) (pss_one (ps_ret pe_bl)) pss_nil)
      (pss_cons (ps_if (PW.pt (pw_or (pt_cmpR op_neB (pe_callB (call_isiDK (K := K) rfl) (by rfl) T.n_isinstance (by decide +kernel) (pa_cons (pv 0) (pa_cons (pe_bltn (v := .ty "str") (u := .type "str") (by rfl) T.n_str (by decide +kernel) rfl) pa_nil))) (pe_callB (call_isiDK (K := K) rfl) (by rfl) T.n_isinstance (by decide +kernel) (pa_cons (pv 1) (pa_cons (pe_bltn (v := .ty "str") (u := .type "str") (by rfl) T.n_str (by decide +kernel) rfl) pa_nil))) (nomark _)) (pw_or1 (pt_cmpR op_neB (pe_callB (call_isiDK (K := K) rfl) (by rfl) T.n_isinstance (by decide +kernel) (pa_cons (pv 0) (pa_cons (pe_bltn (v := .ty "int") (u := .type "int") (by rfl) T.n_int (by decide +kernel) rfl) pa_nil))) (pe_callB (call_isiDK (K := K) rfl) (by rfl) T.n_isinstance (by decide +kernel) (pa_cons (pv 1) (pa_cons (pe_bltn (v := .ty "int") (u := .type "int") (by rfl) T.n_int (by decide +kernel) rfl) pa_nil))) (nomark _))))) (pss_one (ps_ret pe_bl)) pss_nil)
      (pss_one (ps_ret (pe_cmpR op_eq (pv 0) (pv 1) (nomark _)))))))), ?_⟩
      refine seq_op fun N hN => ?_
      walk_at "rs"
      refine ⟨by decide, fun p H1 s1 h0 h1 => ⟨_, p, ⟨rfl, rfl⟩, h1, _, dp_same s1 hu, iteFF (by rw [el, et]; decide) (hN _ _ ?_)⟩⟩
      clear hN N h1
      have hv1 := dp_same s1 hv
      have hu1 := dp_same s1 hu
      have k1 := fun H' (s : Same H1 H') => k H' (Same.trans s1 s)
      refine seq_op fun N hN => ?_
      walk_at "rs"
      by_cases cn : d = .none
      · subst cn
        cases hu
        cases hv
        exact iteTT rfl (iteTT rfl (k1 H1 (Same.refl _)))
      · have vn : v ≠ .non := fun e => by subst e; cases hv; exact cn rfl
        have un : u ≠ .non := fun e => by subst e; cases hu; exact cn rfl
        refine iteFF un (iteFF vn (hN _ _ ?_))
        clear hN N
        refine seq_op fun N hN => ?_
        walk_at "rs"
        refine ⟨by decide, fun p2 H2 s2 h02 h12 => ⟨_, p2, ⟨rfl, rfl⟩, h12, _, dp_same s2 hv1, iteFF (by rw [el, et]; decide) ?_⟩⟩
        refine ⟨_, "bool", ⟨rfl, rfl⟩, _, dp_same s2 hv1, by simp, _, "bool", ⟨rfl, rfl⟩, _, dp_same s2 hu1, by simp, iteFF (by simp) (hN _ _ ?_)⟩
        clear hN N
        refine seq_op fun N hN => ?_
        walk_at "rs"
        refine ⟨_, "str", ⟨rfl, rfl⟩, _, dp_same s2 hv1, by simp, _, "str", ⟨rfl, rfl⟩, _, dp_same s2 hu1, by simp, iteFF (by simp) ?_⟩
        refine ⟨_, "int", ⟨rfl, rfl⟩, _, dp_same s2 hv1, by simp, _, "int", ⟨rfl, rfl⟩, _, dp_same s2 hu1, by simp, iteFF (by simp) (hN _ _ ?_)⟩
        clear hN N
        walk_at "rs"
        have kk := k1 H2 s2
        have fin : scal v u = true ∧ Q (.bl (decide (v = u))) H2 := by
          cases hv with
          | non => exact absurd rfl cn
          | bl b => cases hu; exact ⟨rfl, by rw [decide_eq_true rfl]; exact kk⟩
          | int b => cases hu; exact ⟨rfl, by rw [decide_eq_true rfl]; exact kk⟩
          | str b => cases hu; exact ⟨rfl, by rw [decide_eq_true rfl]; exact kk⟩
          | lst _ _ => simp [isTy] at el
          | tup _ _ => simp [isTy] at et
        exact fin
    · obtain ⟨m, rfl⟩ : ∃ m, n = m + 1 := by
        rcases hds with rfl | rfl
        · rw [dep_lst] at hdep; exact ⟨n - 1, by omega⟩
        · rw [dep_tup] at hdep; exact ⟨n - 1, by omega⟩
      have hr__law_like : Room (m + 1) _ := hr
      have G__law_like := ih m rfl
      have hdm : depAll ds ≤ m := by
        rcases hds with rfl | rfl
        · rw [dep_lst] at hdep; omega
        · rw [dep_tup] at hdep; omega
      refine ⟨_, (pss_cons (ps_if (pt_val (pe_callB call_isiDT (by rfl) T.n_isinstance (by decide +kernel) (pa_cons (pv 1) (pa_cons (pe_tupU (pa_cons (pe_bltn (v := .ty "list") (u := .type "list") (by rfl) T.n_list (by decide +kernel) rfl) (pa_cons (pe_bltn (v := .ty "tuple") (u := .type "tuple") (by rfl) T.n_tuple (by decide +kernel) rfl) pa_nil))) pa_nil)))) (pss_cons (ps_if (PW.pt (pw_or (pt_cmpR op_neB (pe_callB (call_isiDK (K := K) rfl) (by rfl) T.n_isinstance (by decide +kernel) (pa_cons (pv 0) (pa_cons (pe_bltn (v := .ty "list") (u := .type "list") (by rfl) T.n_list (by decide +kernel) rfl) pa_nil))) (pe_callB (call_isiDK (K := K) rfl) (by rfl) T.n_isinstance (by decide +kernel) (pa_cons (pv 1) (pa_cons (pe_bltn (v := .ty "list") (u := .type "list") (by rfl) T.n_list (by decide +kernel) rfl) pa_nil))) (nomark _)) (pw_or1 (pt_cmpR op_neB (pe_callB (call_isiDK (K := K) rfl) (by rfl) T.n_isinstance (by decide +kernel) (pa_cons (pv 0) (pa_cons (pe_bltn (v := .ty "tuple") (u := .type "tuple") (by rfl) T.n_tuple (by decide +kernel) rfl) pa_nil))) (pe_callB (call_isiDK (K := K) rfl) (by rfl) T.n_isinstance (by decide +kernel) (pa_cons (pv 1) (pa_cons (pe_bltn (v := .ty "tuple") (u := .type "tuple") (by rfl) T.n_tuple (by decide +kernel) rfl) pa_nil))) (nomark _))))) (pss_one (ps_ret pe_bl)) pss_nil)
      (pss_one (ps_ret (pe_and (pe_cmpR op_eqI (pe_callB call_lenD (by rfl) T.n_len (by decide +kernel) (pa_cons (pv 0) pa_nil)) (pe_callB call_lenD (by rfl) T.n_len (by decide +kernel) (pa_cons (pv 1) pa_nil)) (nomark _)) (pe_one (pe_callB (cr_all rfl) (by rfl) T.n_all (by decide +kernel) (pa_cons (pe_lc (own := [("one", 2), ("two", 3)]) (g := gTup K 2 (gCons (gName 2) (gCons (gName 3) (gNil)))) (tt := tYes) rfl sc__law_like.nd (RZ.pi_zipA (by rfl) T.n_zip (pa_cons (pv 0) (pa_cons (pv 1) pa_nil))) (blkOk_by (own := [("one", 2), ("two", 3)]) (N := N__law_like) (sc := defScope s__law_like) (by decide +kernel)) (fun _ _ _ _ _ => by exact (pg_tup rfl (pgs_cons (pg_name (i := 2) sc__law_like.nd rfl (Or.inl rfl)) (pgs_cons (pg_name (i := 3) sc__law_like.nd rfl (Or.inl rfl)) pgs_nil)))) (fun _ _ _ _ _ => pts_nil) (fun _ _ _ _ _ => (pe_call G__law_like hr__law_like (by rfl) T.m__law_like T.F__law_like.kp T.B__law_like .nil pass0 (pa_cons (pv 2) (pa_cons (pv 3) pa_nil))))) pa_nil))))))) pss_nil) pss_never), ?_⟩
      refine seq_op fun N hN => ?_
      clear hN
      walk_at "rs"
      refine ⟨by decide, fun p H1 s1 h0 h1 => ⟨_, p, ⟨rfl, rfl⟩, h1, _, dp_same s1 hu, iteTT (by rcases hds with rfl | rfl <;> simp [isTy]) ?_⟩⟩
      clear h1
      have hv1 := dp_same s1 hv
      have hu1 := dp_same s1 hu
      have k1 := fun H' (s : Same H1 H') => k H' (Same.trans s1 s)
      refine seq_op fun N2 hN2 => ?_
      walk_at "rs"
      refine ⟨_, "list", ⟨rfl, rfl⟩, _, hv1, by simp, _, "list", ⟨rfl, rfl⟩, _, hu1, by simp, iteFF (by simp) ?_⟩
      refine ⟨_, "tuple", ⟨rfl, rfl⟩, _, hv1, by simp, _, "tuple", ⟨rfl, rfl⟩, _, hu1, by simp, iteFF (by simp) (hN2 _ _ ?_)⟩
      clear hN2 N2
      walk_at "rs"
      have gm : ∀ (x : V) (σ0 : L2.St) (H0 : Hp) (Q0 Q1 : L2.St → Hp → Prop), (∀ σ2 H2, Q0 σ2 H2 → Q1 σ2 H2) → gTup K 2 (gCons (gName 2) (gCons (gName 3) gNil)) x σ0 H0 Q0 → gTup K 2 (gCons (gName 2) (gCons (gName 3) gNil)) x σ0 H0 Q1 :=
        fun x σ0 H0 Q0 Q1 h ⟨a, xs, e1, e2, e3, v, r, e4, v2, r2, e5, e6, q⟩ => ⟨a, xs, e1, e2, e3, v, r, e4, v2, r2, e5, e6, h _ _ q⟩
      have turn : ∀ {xs ys : List V} (hx : DpAll K H1 xs ds) (hy : DpAll K H1 ys ds) (i : Nat) (x : V) (H2 H' : Hp), Same H1 H2 → YPair (fun i => xs[i]?) (fun i => ys[i]?) i H2 x H' →
          gTup K 2 (gCons (gName 2) (gCons (gName 3) gNil)) x (wipe [some v, some u, none, none] [2, 3]) H' fun σ2 H3 => Same H2 H3 ∧ wipe σ2 [2, 3] = wipe [some v, some u, none, none] [2, 3] ∧ ∀ Q2 : V → Hp → Prop, (∀ H4, Same H3 H4 → Q2 (.bl true) H4) → tCall (sp__law_like K m) [] E0 (tCons (tVar 2) (tCons (tVar 3) tNil)) σ2 H3 Q2 := by
        rintro xs ys hx hy i x H2 H' s2 ⟨T0, y1, y2, rfl, hT, rfl, h1, h2⟩
        obtain ⟨d1, e1, hd1⟩ := dpa_get4 hx h1
        obtain ⟨d2, e2, hd2⟩ := dpa_get4 hy h2
        rw [e1] at e2
        cases e2
        have s3 := Same.trans s2 (same_upd (o := .tup [y1, y2]) hT)
        refine ⟨T0, [y1, y2], rfl, .inl (.inl upd_same), rfl, y1, [y2], rfl, y2, [], rfl, rfl, same_upd hT, rfl, fun Q2 hq => ?_⟩
        refine ⟨_, rfl, _, rfl, y1, y2, d1, rfl, dp_same s3 hd1, dp_same s3 hd2, ?_, Nat.le_trans (depAll_get e1) hdm, hq⟩
        refine ok_get4 ?_ e1
        rcases hds with rfl | rfl
        · exact (okD_lst.mp hok).2
        · exact (okD_tup.mp hok).2
      have fin : ∀ {D : Addr} {H' : Hp} {n : Nat}, Same H1 H' → H' D = some (.lst ((List.range n).map fun _ => V.bl true)) → rAll K [V.ref D] H' Q := by
        intro D H' n s h
        refine ⟨D, (List.range n).map fun _ => true, rfl, SqL.of (by rw [h, List.map_map]; rfl), ?_⟩
        rw [all_map_id]
        have e : ((List.range n).all fun _ => true) = true := by simp
        rw [e]
        exact k1 H' s
      refine ⟨_, hv1, .inl ⟨ds, hds, _, hu1, .inl ⟨ds, hds, iteTT rfl ?_⟩⟩⟩
      rcases hds with rfl | rfl
      · cases hv1 with
        | @lst a xs _ ha hda =>
          cases hu1 with
          | @lst b ys _ hb hdb =>
            have lx := dpa_len4 hda
            have ly := dpa_len4 hdb
            have small : ds.length ≤ 1000000 := Nat.le_trans (okD_lst.mp hok).1 (by decide)
            exact ⟨_, rfl, _, rfl, a, b, xs, ys, rfl, .inl ⟨ha, hb, fun D hD => lc_pure (walk_zip (n := ds.length) (by omega)) hD small (fun _ => .bl true) (fun H s => ⟨Same.seq s ha, Same.seq s hb⟩) (fun i x H2 H' _ s2 y => turn hda hdb i x H2 H' s2 y) gm fun H' s h => fin s h⟩⟩
      · cases hv1 with
        | @tup a xs _ ha hda =>
          cases hu1 with
          | @tup b ys _ hb hdb =>
            have lx := dpa_len4 hda
            have ly := dpa_len4 hdb
            have small : ds.length ≤ 1000000 := Nat.le_trans (okD_tup.mp hok).1 (by decide)
            exact ⟨_, rfl, _, rfl, a, b, xs, ys, rfl, .inr ⟨ha, hb, fun D hD => lc_pure (walk_zipT (n := ds.length) lx ly) hD small (fun _ => .bl true) (fun H s => ⟨Same.seqT s ha, Same.seqT s hb⟩) (fun i x H2 H' _ s2 y => turn hda hdb i x H2 H' s2 y) gm fun H' s h => fin s h⟩⟩
theorem ok__law_like (T : Txt w K mg) : ∀ n : Nat, FnOk P w K mg base CX0 (n + 1) T.a__law_like T.d__law_like ["found", "due"] (sp__law_like K n) := by
  intro n
  induction n with
  | zero => exact like_step T 0 fun m e => by omega
  | succ n ih =>
    refine like_step T (n + 1) fun m e => ?_
    obtain rfl : m = n := by omega
    exact ih
end
end LK

set_option Elab.async false
set_option linter.all false
set_option maxRecDepth 100000
namespace LK
open PySem PySem.Spec PyProof.Rows L2
local macro_rules | `(tactic| walk_at "rs") => `(tactic| simp only [tFld, sFld, tMeth, tMethZ, tMakeK, tProp, tFmt, rEqO, rNeO, cxK, cxNK, tCallZ, tAsg, tOp, rI0, rS0, rB0, rI, rU, tUn, rEq, rNe, rIxL, rIxT, rIxS, rSetL, rSlLU, rSlS, rSlU, rCatL, rCatU, rRepL, rIn, tVar, tC, gName, gSub, tIfS, tTest, tB, tAnd, tOr, tNot, tNotV, tAndV, tOrV, tIf, tCall, tCons, tNil, tCB, tDrop, tRet, tRetN, tNext, tLstU, tTupU, tM0, tM1, tPar, tPar3, tAug, ipI, tBM, tBM0, rAppend, rPop, tBreak, sDPut, tDGet, tDGet2, tCont, tChain, tSl, tPart, tNoPart, L2.start, List.map, List.length_cons, List.length_nil, List.replicate, List.cons_append, List.nil_append, List.append_nil, List.getElem?_cons_zero, List.getElem?_cons_succ, List.set_cons_zero, List.set_cons_succ, Option.some.injEq, V.int.injEq, V.ref.injEq, V.str.injEq, V.bl.injEq, exists_eq_left', exists_eq_left, exists_and_left, decide_eq_true_eq, List.cons.injEq, and_true, true_and, scal, Bool.not_eq_true', decide_eq_false_iff_not, Nat.zero_add, Nat.reduceAdd, Nat.reduceSub, reduceCtorEq, false_and, exists_false, false_or, or_false, CPow, CPowW, CMul, CDiv, Int.reduceToNat, ↓reduceIte, wipe, sw, List.nil_append, List.singleton_append])
local macro_rules | `(tactic| walk_at "st") => `(tactic| (refine seq_op fun N hN => ?_; walk_at "rs"))
local macro_rules | `(tactic| walk_at "sd") => `(tactic| first | assumption | decide | omega)
local macro_rules | `(tactic| walk_at "rd") => `(tactic| repeat (first
  | refine ⟨_, SqL.of (by assumption), ?_⟩ | refine ⟨_, SqL.of upd_same, ?_⟩ | refine ⟨_, .inl (SqL.of (by assumption)), ?_⟩ | refine ⟨_, (by assumption : _ = some (HO.lst _)), ?_⟩ | refine ⟨_, upd_same, ?_⟩
  | refine ⟨_, rfl, ?_⟩ | refine And.intro (by walk_at "sd") ?_))

section
variable {P : Program} {w : World} {K : PySem.W.Frag} {mg : Str → Option Value} {base : Heap}
theorem ok__law_gcd (T : Txt w K mg) : FnOk P w K mg base CX0 1 T.a__law_gcd T.d__law_gcd ["a", "b"] (fun vs H Q _ => ∃ p q : Int, vs = [.int p, .int q] ∧ Q (.int ((Nat.gcd p.natAbs q.natAbs : Nat) : Int)) H) := by
  refine T.F__law_gcd.ok sc__law_gcd (fun vs H Q E h => ?_) (fun cdv A outer s H vs Q E hr h => ?_)
  · obtain ⟨p, q, rfl, _⟩ := h
    rfl
  · obtain ⟨p, q, rfl, k⟩ := h
    refine ⟨_, (pss_cons (ps_par (i := 0) (j := 1) (by rfl) sc__law_gcd.nd rfl rfl (by decide) rfl rfl (pa_cons (pe_callB call_abs (by rfl) T.n_abs (by decide +kernel) (pa_cons (pv 0) pa_nil)) (pa_cons (pe_callB call_abs (by rfl) T.n_abs (by decide +kernel) (pa_cons (pv 1) pa_nil)) pa_nil)) (by rfl))
      (pss_cons (ps_while PassesOwn.never (pt_cmpR op_gt (pv 1) pe_int (nomark _)) (pss_one (ps_par (i := 0) (j := 1) (by rfl) sc__law_gcd.nd rfl rfl (by decide) rfl rfl (pa_cons (pv 1) (pa_cons (pe_op op_mod (pe_callTy call_intI (by rfl) T.n_int (by decide +kernel) (pa_cons (pv 0) pa_nil)) (pv 1)) pa_nil)) (by rfl))))
      (pss_one (ps_ret (pv 0))))), ?_⟩
    refine seq_op fun N hN => ?_
    walk_at "rs"
    refine ⟨_, _, ⟨rfl, rfl⟩, hN _ _ ?_⟩
    clear hN N
    refine cut_seq (fun σ H2 => σ = [some (.int ((Nat.gcd p.natAbs q.natAbs : Nat) : Int)), some (.int 0)] ∧ H2 = H) (fun N hN => ?_) ?_
    · refine while_by (fun σ H2 => ∃ a b : Nat, σ = [some (.int (a : Int)), some (.int (b : Int))] ∧ H2 = H ∧ Nat.gcd a b = Nat.gcd p.natAbs q.natAbs) (fun (σ : L2.St) (_ : Hp) => match σ[1]? with
          | some (some (V.int b)) => b.toNat
          | _ => 0) ⟨p.natAbs, q.natAbs, by rw [abs_if, abs_if], rfl, rfl⟩ ?_ ?_
      · rintro σ H2 ⟨a, b, rfl, rfl, hg⟩
        walk_at "rs"
        refine ite2 (fun hb => ?_) (fun hb => ?_)
        · refine ⟨hb, _, _, ⟨rfl, rfl⟩, ⟨b, a % b, ⟨rfl, rfl⟩, ?_⟩, ?_⟩
          · rw [← hg, Nat.gcd_comm a b, Nat.gcd_rec b a, Nat.gcd_comm]
          · show ((a : Int) % (b : Int)).toNat < (b : Int).toNat
            have := Int.emod_lt_of_pos (a : Int) (show (0 : Int) < (b : Int) by omega)
            have := Int.emod_nonneg (a : Int) (show (b : Int) ≠ 0 by omega)
            omega
        · have b0 : b = 0 := by omega
          subst b0
          rw [Nat.gcd_zero_right] at hg
          rw [hg]
          exact hN _ _ ⟨rfl, rfl⟩
      · intro σ H2 Q1 Q2 h hq
        revert hq
        walk_at "rs"
        rintro ⟨v, e, i, rfl, hq⟩
        exact ⟨_, e, i, rfl, h _ _ hq⟩
    · rintro σ H2 ⟨rfl, rfl⟩
      walk_at "rs"
      exact k
def sp_low : Sp := fun vs H Q _ => ∃ p q : Int, vs = [.int p, .int q] ∧ q ≠ 0 ∧ p.natAbs < 2 ^ 8001 ∧ q.natAbs < 2 ^ 8001 ∧ ∀ t H', Same H H' → H t = none → H' t = some (.tup [.int (frP p q), .int (frQ p q)]) → Q (.ref t) H'
theorem ok__law_low (T : Txt w K mg) : FnOk P w K mg base CX0 2 T.a__law_low T.d__law_low ["p", "q"] sp_low := by
  refine T.F__law_low.ok sc__law_low (fun vs H Q E h => ?_) (fun cdv A outer s H vs Q E hr h => ?_)
  · obtain ⟨p, q, rfl, _⟩ := h
    rfl
  · obtain ⟨p, q, rfl, q0, lp, lq, k⟩ := h
    have hr__law_gcd : Room 1 _ := hr
    have G__law_gcd := ok__law_gcd (P := P) (base := base) T
    refine ⟨_, (pss_cons (ps_set (i := 2) sc__law_low.nd rfl (Or.inl rfl) (pe_call G__law_gcd hr__law_gcd (by rfl) T.m__law_gcd T.F__law_gcd.kp T.B__law_gcd .nil pass0 (pa_cons (pv 0) (pa_cons (pv 1) pa_nil))))
      (pss_cons (ps_if (pt_cmpR op_lt (pv 1) pe_int (nomark _)) (pss_one (ps_set (i := 2) sc__law_low.nd rfl (Or.inl rfl) (pe_un un_neg (pv 2)))) pss_nil)
      (pss_one (ps_ret (pe_tupU (pa_cons (pe_op op_fdivF (pv 0) (pv 2)) (pa_cons (pe_op op_fdivF (pv 1) (pv 2)) pa_nil))))))), ?_⟩
    refine seq_op fun N hN => ?_
    walk_at "rs"
    refine ⟨p, q, ⟨rfl, rfl⟩, hN _ _ ?_⟩
    clear hN N
    have g0 : (Nat.gcd p.natAbs q.natAbs : Nat) ≠ 0 := fun z => q0 (by have := Nat.eq_zero_of_gcd_eq_zero_right z; omega)
    have gl := gcd_log (p := p) q0
    have ql := logL lq (by decide) (by decide)
    have n0 : frG p q ≠ 0 := by unfold frG; split <;> omega
    have nl : (frG p q).natAbs.log2 < 9000 := by
      have : (frG p q).natAbs = Nat.gcd p.natAbs q.natAbs := by unfold frG; split <;> omega
      rw [this]; omega
    refine cut_seq (fun σ H3 => σ = [some (.int p), some (.int q), some (.int (frG p q))] ∧ H3 = H) (fun N hN => ?_) ?_
    · walk_at "rs"
      unfold frG at hN
      refine ite2 (fun c => ?_) (fun c => ?_)
      · rw [if_pos c] at hN
        exact hN _ _ ⟨rfl, rfl⟩
      · rw [if_neg c] at hN; exact hN _ _ ⟨rfl, rfl⟩
    · rintro σ H3 ⟨rfl, rfl⟩
      walk_at "rs"
      exact ⟨⟨n0, nl⟩, ⟨n0, nl⟩, by decide, k⟩
def okB (M L : Nat) (f : Int × Int) : Prop := 1 ≤ f.2 ∧ Nat.gcd f.1.natAbs f.2.natAbs = 1 ∧ f.1.natAbs ≤ M ∧ f.2.natAbs ≤ L
theorem okB_low {M L : Nat} {p q : Int} (q0 : q ≠ 0) (hp : p.natAbs ≤ M) (hq : q.natAbs ≤ L) : okB M L (frP p q, frQ p q) := by
  obtain ⟨_, _, e3, e4, e5, e6, _⟩ := fr_spec p q0
  exact ⟨e3, e4, Nat.le_trans e5 hp, Nat.le_trans e6 hq⟩
def sp_drawn (K : PySem.W.Frag) (k M L : Nat) : Sp := fun vs H Q _ => ∃ (b c : Addr) (N : Nat), vs = [.ref b] ∧ Bag (N + k) H b c ∧ ∀ (t : Addr) (f : Int × Int) H', okB M L f → H t = none → H' t = some (.tup [.int f.1, .int f.2]) → Bag N H' b c → Kp b H H' → Q (.ref t) H'
theorem low_at {M L : Nat} {H : Hp} {Q : VK} {E : XK} {p q : Int} (q0 : q ≠ 0) (hp : p.natAbs < 2 ^ 8001) (hq : q.natAbs < 2 ^ 8001) (k : ∀ t H', Same H H' → H t = none → H' t = some (.tup [.int (frP p q), .int (frQ p q)]) → Q (.ref t) H') : sp_low [.int p, .int q] H Q E := ⟨p, q, rfl, q0, hp, hq, k⟩
end
end LK

set_option Elab.async false
set_option linter.all false
set_option maxRecDepth 100000
namespace LK
open PySem PySem.Spec PyProof.Rows L2
local macro_rules | `(tactic| walk_at "rs") => `(tactic| simp only [tFld, sFld, tMeth, tMethZ, tMakeK, tProp, tFmt, rEqO, rNeO, cxK, cxNK, tCallZ, tAsg, tOp, rI0, rS0, rB0, rI, rU, tUn, rEq, rNe, rIxL, rIxT, rIxS, rSetL, rSlLU, rSlS, rSlU, rCatL, rCatU, rRepL, rIn, tVar, tC, gName, gSub, tIfS, tTest, tB, tAnd, tOr, tNot, tNotV, tAndV, tOrV, tIf, tCall, tCons, tNil, tCB, tDrop, tRet, tRetN, tNext, tLstU, tTupU, tM0, tM1, tPar, tPar3, tAug, ipI, tBM, tBM0, rAppend, rPop, tBreak, sDPut, tDGet, tDGet2, tCont, tChain, tSl, tPart, tNoPart, L2.start, List.map, List.length_cons, List.length_nil, List.replicate, List.cons_append, List.nil_append, List.append_nil, List.getElem?_cons_zero, List.getElem?_cons_succ, List.set_cons_zero, List.set_cons_succ, Option.some.injEq, V.int.injEq, V.ref.injEq, V.str.injEq, V.bl.injEq, exists_eq_left', exists_eq_left, exists_and_left, decide_eq_true_eq, List.cons.injEq, and_true, true_and, scal, Bool.not_eq_true', decide_eq_false_iff_not, Nat.zero_add, Nat.reduceAdd, Nat.reduceSub, reduceCtorEq, false_and, exists_false, false_or, or_false, CPow, CPowW, CMul, CDiv, Int.reduceToNat, ↓reduceIte, wipe, sw, List.nil_append, List.singleton_append])
local macro_rules | `(tactic| walk_at "st") => `(tactic| (refine seq_op fun N hN => ?_; walk_at "rs"))
local macro_rules | `(tactic| walk_at "sd") => `(tactic| first | assumption | decide | omega)
local macro_rules | `(tactic| walk_at "rd") => `(tactic| repeat (first
  | refine ⟨_, SqL.of (by assumption), ?_⟩ | refine ⟨_, SqL.of upd_same, ?_⟩ | refine ⟨_, .inl (SqL.of (by assumption)), ?_⟩ | refine ⟨_, (by assumption : _ = some (HO.lst _)), ?_⟩ | refine ⟨_, upd_same, ?_⟩
  | refine ⟨_, rfl, ?_⟩ | refine And.intro (by walk_at "sd") ?_))

section
variable {P : Program} {w : World} {K : PySem.W.Frag} {mg : Str → Option Value} {base : Heap}
def sp_great : Sp := fun vs H Q _ => ∃ (b c : Addr) (N : Nat), vs = [.ref b] ∧ Bag (N + 2) H b c ∧ ∀ (r : Int) H', 0 ≤ r → r < 1000000000000000000 → Bag N H' b c → Kp b H H' → Q (.int r) H'
theorem ok__law_great (T : Txt w K mg) : FnOk P w K mg base CX0 2 T.a__law_great T.d__law_great ["bag"] sp_great := by
  refine T.F__law_great.ok sc__law_great (fun vs H Q E h => ?_) (fun cdv A outer s H vs Q E hr h => ?_)
  · obtain ⟨b, c, N, rfl, _⟩ := h
    rfl
  · obtain ⟨b, c, N0, rfl, B, k⟩ := h
    have hr__law_draw : Room 1 _ := hr
    have G__law_draw := ok__law_draw (P := P) (base := base) T
    refine ⟨_, (pss_one (ps_ret (pe_op op_add (pe_op op_mul (pe_call G__law_draw hr__law_draw (by rfl) T.m__law_draw T.F__law_draw.kp T.B__law_draw .nil pass0 (pa_cons (pv 0) (pa_cons (pe_op op_pow pe_int pe_int) pa_nil))) (pe_op op_pow pe_int pe_int)) (pe_call G__law_draw hr__law_draw (by rfl) T.m__law_draw T.F__law_draw.kp T.B__law_draw .nil pass0 (pa_cons (pv 0) (pa_cons (pe_op op_pow pe_int pe_int) pa_nil)))))), ?_⟩
    walk_at "rs"
    refine ⟨by decide, b, c, 10 ^ 9, N0 + 1, rfl, B, by decide, by decide, fun r1 H1 r10 r11 B1 K1 => ⟨by decide, r1, rfl, .inr (by decide), by decide, b, c, 10 ^ 9, N0, rfl, B1, by decide, by decide, fun r2 H2 r20 r21 B2 K2 => ⟨r2, rfl, k _ _ ?_ ?_ B2 (Same.trans K1 K2)⟩⟩⟩
    · omega
    · omega
theorem ok__law_factor (T : Txt w K mg) : FnOk P w K mg base CX0 3 T.a__law_factor T.d__law_factor ["bag"] (sp_drawn K 7 1000000000000000000 1000000000000000000) := by
  refine T.F__law_factor.ok sc__law_factor (fun vs H Q E h => ?_) (fun cdv A outer s H vs Q E hr h => ?_)
  · obtain ⟨b, c, N, rfl, _⟩ := h
    rfl
  · obtain ⟨b, c, N0, rfl, B, k⟩ := h
    have hr__law_low : Room 2 _ := hr
    have G__law_low := ok__law_low (P := P) (base := base) T
    have hr__law_great : Room 2 _ := hr
    have G__law_great := ok__law_great (P := P) (base := base) T
    have hr__law_draw : Room 1 _ := hr.mono (by decide)
    have G__law_draw := ok__law_draw (P := P) (base := base) T
    refine ⟨_, (pss_cons (ps_set (i := 1) sc__law_factor.nd rfl (Or.inl rfl) (pe_call G__law_draw hr__law_draw (by rfl) T.m__law_draw T.F__law_draw.kp T.B__law_draw .nil pass0 (pa_cons (pv 0) (pa_cons pe_int pa_nil))))
      (pss_cons (ps_if (pt_cmpR op_lt (pv 1) pe_int (nomark _)) (pss_one (ps_ret (pe_tupU (pa_cons (pe_op op_sub (pe_call G__law_draw hr__law_draw (by rfl) T.m__law_draw T.F__law_draw.kp T.B__law_draw .nil pass0 (pa_cons (pv 0) (pa_cons pe_int pa_nil))) pe_int) (pa_cons pe_int pa_nil))))) pss_nil)
      (pss_cons (ps_if (pt_cmpR op_lt (pv 1) pe_int (nomark _)) (pss_one (ps_ret (pe_call G__law_low hr__law_low (by rfl) T.m__law_low T.F__law_low.kp T.B__law_low .nil pass0 (pa_cons (pe_op op_sub (pe_call G__law_draw hr__law_draw (by rfl) T.m__law_draw T.F__law_draw.kp T.B__law_draw .nil pass0 (pa_cons (pv 0) (pa_cons pe_int pa_nil))) pe_int) (pa_cons (pe_op op_add pe_int (pe_call G__law_draw hr__law_draw (by rfl) T.m__law_draw T.F__law_draw.kp T.B__law_draw .nil pass0 (pa_cons (pv 0) (pa_cons pe_int pa_nil)))) pa_nil))))) pss_nil)
      (pss_cons (ps_if (pt_cmpR op_eqI (pv 1) pe_int (nomark _)) (pss_one (ps_ret (pe_call G__law_low hr__law_low (by rfl) T.m__law_low T.F__law_low.kp T.B__law_low .nil pass0 (pa_cons (pe_op op_sub (pe_call G__law_draw hr__law_draw (by rfl) T.m__law_draw T.F__law_draw.kp T.B__law_draw .nil pass0 (pa_cons (pv 0) (pa_cons pe_int pa_nil))) pe_int) (pa_cons (pe_op op_add pe_int (pe_call G__law_draw hr__law_draw (by rfl) T.m__law_draw T.F__law_draw.kp T.B__law_draw .nil pass0 (pa_cons (pv 0) (pa_cons pe_int pa_nil)))) pa_nil))))) pss_nil)
      (pss_cons (ps_set (i := 2) sc__law_factor.nd rfl (Or.inl rfl) (pe_op op_sub pe_int (pe_op op_mulW pe_int (pe_call G__law_draw hr__law_draw (by rfl) T.m__law_draw T.F__law_draw.kp T.B__law_draw .nil pass0 (pa_cons (pv 0) (pa_cons pe_int pa_nil))))))
      (pss_one (ps_ret (pe_call G__law_low hr__law_low (by rfl) T.m__law_low T.F__law_low.kp T.B__law_low .nil pass0 (pa_cons (pe_op op_mulW (pv 2) (pe_call G__law_great hr__law_great (by rfl) T.m__law_great T.F__law_great.kp T.B__law_great .nil pass0 (pa_cons (pv 0) pa_nil))) (pa_cons (pe_op op_add pe_int (pe_op op_fdivW (pe_call G__law_great hr__law_great (by rfl) T.m__law_great T.F__law_great.kp T.B__law_great .nil pass0 (pa_cons (pv 0) pa_nil)) (pe_op op_add pe_int (pe_op op_mulW (pe_call G__law_draw hr__law_draw (by rfl) T.m__law_draw T.F__law_draw.kp T.B__law_draw .nil pass0 (pa_cons (pv 0) (pa_cons pe_int pa_nil))) (pe_op op_pow pe_int pe_int))))) pa_nil)))))))))), ?_⟩
    have fin : ∀ {H1 H2 : Hp} {t : Addr} {p q : Int}, q ≠ 0 → p.natAbs ≤ 1000000000000000000 → q.natAbs ≤ 1000000000000000000 → Bag N0 H1 b c → Kp b H H1 → Same H1 H2 → H1 t = none → H2 t = some (.tup [.int (frP p q), .int (frQ p q)]) → Q (.ref t) H2 := fun q0 hp hq B1 K1 s2 h0 h2 =>
      k _ _ _ (okB_low q0 hp hq) (Kp.bn K1 B1.at.choose_spec h0) h2 (B1.same s2) (Same.trans K1 (Kp.of s2))
    refine seq_op fun N hN => ?_
    walk_at "rs"
    refine ⟨b, c, 10, N0 + 6, rfl, B, by decide, by decide, fun r1 H1 r10 r11 B1 K1 => hN _ _ ?_⟩
    clear hN N
    refine seq_op fun N hN => ?_
    walk_at "rs"
    refine ite2 (fun _ => ?_) (fun _ => hN _ _ ?_)
    · refine ⟨b, c, 7, N0 + 5, rfl, B1, by decide, by decide, fun r2 H2 r20 r21 B2 K2 => ⟨r2, rfl, by decide, fun t H3 s3 h03 h3 => ?_⟩⟩
      exact k t (r2 - 3, 1) H3 ⟨Int.le_refl 1, Nat.gcd_one_right _, by show (r2 - 3).natAbs ≤ _; omega, by show (1 : Int).natAbs ≤ _; decide⟩ (Kp.bn K1 B1.at.choose_spec (Kp.bn K2 B2.at.choose_spec h03)) h3 ((B2.same s3).le (by omega)) (Same.trans K1 (Same.trans K2 (Kp.of s3)))
    clear hN N
    refine seq_op fun N hN => ?_
    walk_at "rs"
    refine ite2 (fun _ => ?_) (fun _ => hN _ _ ?_)
    · refine ⟨b, c, 13, N0 + 5, rfl, B1, by decide, by decide, fun r2 H2 r20 r21 B2 K2 => ⟨r2, rfl, b, c, 6, N0 + 4, rfl, B2, by decide, by decide, fun r4 H4 r40 r41 B4 K4 => ⟨r4, rfl, ?_⟩⟩⟩
      exact low_at (M := 1) (L := 1) (by omega) (pow_le (a := 64) (by omega) (by decide)) (pow_le (a := 64) (by omega) (by decide)) fun t H5 s5 h05 h5 => fin (by omega) (by omega) (by omega) (B4.le (by omega)) (Same.trans K1 (Same.trans K2 K4)) s5 h05 h5
    clear hN N
    refine seq_op fun N hN => ?_
    walk_at "rs"
    refine ite2 (fun _ => ?_) (fun _ => hN _ _ ?_)
    · refine ⟨b, c, 4001, N0 + 5, rfl, B1, by decide, by decide, fun r2 H2 r20 r21 B2 K2 => ⟨r2, rfl, b, c, 97, N0 + 4, rfl, B2, by decide, by decide, fun r4 H4 r40 r41 B4 K4 => ⟨r4, rfl, ?_⟩⟩⟩
      exact low_at (M := 1) (L := 1) (by omega) (pow_le (a := 64) (by omega) (by decide)) (pow_le (a := 64) (by omega) (by decide)) fun t H5 s5 h05 h5 => fin (by omega) (by omega) (by omega) (B4.le (by omega)) (Same.trans K1 (Same.trans K2 K4)) s5 h05 h5
    clear hN N
    refine seq_op fun N hN => ?_
    walk_at "rs"
    refine ⟨b, c, 2, N0 + 5, rfl, B1, by decide, by decide, fun r2 H2 r20 r21 B2 K2 => ⟨r2, rfl, mulW (pow_le (a := 64) (by decide) (by decide)) (pow_le (a := 64) (by omega) (by decide)), hN _ _ ?_⟩⟩
    clear hN N
    walk_at "rs"
    refine ⟨b, c, N0 + 3, rfl, B2.le (by omega), fun r3 H3 r30 r31 B3 K3 => ⟨r3, rfl, mulW (pow_le (a := 64) (by omega) (by decide)) (pow_le (a := 64) (by omega) (by decide)), b, c, N0 + 1, rfl, B3, fun r4 H4 r40 r41 B4 K4 => ⟨b, c, 2, N0, rfl, B4, by decide, by decide, fun r5 H5 r50 r51 B5 K5 => ⟨by decide, r5, rfl, mulW (pow_le (a := 64) (by omega) (by decide)) (pow_le (a := 64) (by decide) (by decide)), r4, rfl, ?_⟩⟩⟩⟩
    have j0 : 0 < 2 + r5 * 10 ^ 9 := by omega
    have d0 : 0 ≤ r4 / (2 + r5 * 10 ^ 9) := Int.ediv_nonneg r40 (by omega)
    have d1 : r4 / (2 + r5 * 10 ^ 9) * 2 ≤ r4 := by
      have e := Int.mul_ediv_self_le (x := r4) (k := 2 + r5 * 10 ^ 9) (by omega)
      have e2 := Int.mul_le_mul_of_nonneg_right (show (2 : Int) ≤ 2 + r5 * 10 ^ 9 by omega) d0
      rw [Int.mul_comm]; omega
    have p1 : ((1 - 2 * r2) * r3).natAbs ≤ 1000000000000000000 := by
      have : r2 = 0 ∨ r2 = 1 := by omega
      rcases this with rfl | rfl <;> omega
    have q1 : (1 + r4 / (2 + r5 * 10 ^ 9)).natAbs ≤ 1000000000000000000 := by omega
    refine ⟨?_, low_at (M := 1) (L := 1) (by omega) (pow_le (a := 64) (Nat.lt_of_le_of_lt p1 (by decide)) (by decide)) (pow_le (a := 64) (Nat.lt_of_le_of_lt q1 (by decide)) (by decide)) fun t H6 s6 h06 h6 => fin (by omega) p1 q1 B5 (Same.trans K1 (Same.trans K2 (Same.trans K3 (Same.trans K4 K5)))) s6 h06 h6⟩
    exact ⟨j0, logL (a := 64) (by omega) (by decide) (by decide)⟩
end
end LK

set_option Elab.async false
set_option linter.all false
set_option maxRecDepth 100000
namespace LK
open PySem PySem.Spec PyProof.Rows L2
local macro_rules | `(tactic| walk_at "rs") => `(tactic| simp only [tFld, sFld, tMeth, tMethZ, tMakeK, tProp, tFmt, rEqO, rNeO, cxK, cxNK, tCallZ, tAsg, tOp, rI0, rS0, rB0, rI, rU, tUn, rEq, rNe, rIxL, rIxT, rIxS, rSetL, rSlLU, rSlS, rSlU, rCatL, rCatU, rRepL, rIn, tVar, tC, gName, gSub, tIfS, tTest, tB, tAnd, tOr, tNot, tNotV, tAndV, tOrV, tIf, tCall, tCons, tNil, tCB, tDrop, tRet, tRetN, tNext, tLstU, tTupU, tM0, tM1, tPar, tPar3, tAug, ipI, tBM, tBM0, rAppend, rPop, tBreak, sDPut, tDGet, tDGet2, tCont, tChain, tSl, tPart, tNoPart, L2.start, List.map, List.length_cons, List.length_nil, List.replicate, List.cons_append, List.nil_append, List.append_nil, List.getElem?_cons_zero, List.getElem?_cons_succ, List.set_cons_zero, List.set_cons_succ, Option.some.injEq, V.int.injEq, V.ref.injEq, V.str.injEq, V.bl.injEq, exists_eq_left', exists_eq_left, exists_and_left, decide_eq_true_eq, List.cons.injEq, and_true, true_and, scal, Bool.not_eq_true', decide_eq_false_iff_not, Nat.zero_add, Nat.reduceAdd, Nat.reduceSub, reduceCtorEq, false_and, exists_false, false_or, or_false, CPow, CPowW, CMul, CDiv, Int.reduceToNat, ↓reduceIte, wipe, sw, List.nil_append, List.singleton_append])
local macro_rules | `(tactic| walk_at "st") => `(tactic| (refine seq_op fun N hN => ?_; walk_at "rs"))
local macro_rules | `(tactic| walk_at "sd") => `(tactic| first | assumption | decide | omega)
local macro_rules | `(tactic| walk_at "rd") => `(tactic| repeat (first
  | refine ⟨_, SqL.of (by assumption), ?_⟩ | refine ⟨_, SqL.of upd_same, ?_⟩ | refine ⟨_, .inl (SqL.of (by assumption)), ?_⟩ | refine ⟨_, (by assumption : _ = some (HO.lst _)), ?_⟩ | refine ⟨_, upd_same, ?_⟩
  | refine ⟨_, rfl, ?_⟩ | refine And.intro (by walk_at "sd") ?_))

/-! ### fractions and their worth -/
def low (f : Fr) : Prop := 1 ≤ f.2 ∧ Nat.gcd f.1.natAbs f.2.natAbs = 1
def plusF (f g : Fr) : Fr := (frP (f.1 * g.2 + g.1 * f.2) (f.2 * g.2), frQ (f.1 * g.2 + g.1 * f.2) (f.2 * g.2))
def rt (f : Fr) : Rat := Rat.divInt f.1 f.2
theorem rt_eq {f g : Fr} (hf : low f) (hg : low g) (e : rt f = rt g) : f = g := by
  have f0 : f.2 ≠ 0 := by have := hf.1; omega
  have g0 : g.2 ≠ 0 := by have := hg.1; omega
  exact low_eq hf.1 hf.2 hg.1 hg.2 ((Rat.divInt_eq_divInt_iff f0 g0).mp e)
theorem den_ne {f g : Fr} (hf : low f) (hg : low g) : f.2 * g.2 ≠ 0 := Int.mul_ne_zero (by have := hf.1; omega) (by have := hg.1; omega)
theorem rt_fr (P : Int) {Q : Int} (h : Q ≠ 0) : rt (frP P Q, frQ P Q) = Rat.divInt P Q ∧ low (frP P Q, frQ P Q) := by
  obtain ⟨_, _, e3, e4, _⟩ := fr_spec P h
  exact ⟨(Rat.divInt_eq_divInt_iff (show frQ P Q ≠ 0 by omega) h).mpr (fr_worth P h), e3, e4⟩
theorem rt_plus {f g : Fr} (hf : low f) (hg : low g) : rt (plusF f g) = rt f + rt g ∧ low (plusF f g) := by
  obtain ⟨a, b⟩ := rt_fr (f.1 * g.2 + g.1 * f.2) (den_ne hf hg)
  refine ⟨?_, b⟩
  have f0 : f.2 ≠ 0 := by have := hf.1; omega
  have g0 : g.2 ≠ 0 := by have := hg.1; omega
  show rt (plusF f g) = Rat.divInt f.1 f.2 + Rat.divInt g.1 g.2
  rw [Rat.divInt_add_divInt _ _ f0 g0]
  exact a
theorem low_zero : low (0, 1) := ⟨by decide, by decide⟩
theorem rt_zero : rt (0, 1) = 0 := by unfold rt; exact Rat.zero_divInt 1
theorem rt_neg {f : Fr} (hf : low f) : rt (-f.1, f.2) = - rt f ∧ low (-f.1, f.2) := ⟨(Rat.neg_divInt f.1 f.2).symm, hf.1, by rw [Int.natAbs_neg]; exact hf.2⟩
theorem low_null {f : Fr} (hf : low f) : f.1 = 0 ↔ f = (0, 1) := by
  constructor
  · intro e
    have := hf.2
    rw [e] at this
    have h1 := hf.1
    have h2 : f.2 = 1 := by
      rw [show (0 : Int).natAbs = 0 from rfl, Nat.gcd_zero_left] at this
      omega
    exact Prod.ext e h2
  · intro e
    rw [e]
/-- bits of a fraction -/
def wt (f : Fr) : Nat := max f.1.natAbs.log2 f.2.natAbs.log2 + 1
theorem wt_lt (f : Fr) : f.1.natAbs < 2 ^ wt f ∧ f.2.natAbs < 2 ^ wt f := by
  unfold wt
  constructor
  · exact Nat.lt_of_lt_of_le (Nat.lt_log2_self) (Nat.pow_le_pow_right (by decide) (Nat.succ_le_succ (Nat.le_max_left _ _)))
  · exact Nat.lt_of_lt_of_le (Nat.lt_log2_self) (Nat.pow_le_pow_right (by decide) (Nat.succ_le_succ (Nat.le_max_right _ _)))
theorem log_lt {n k : Nat} (hk : 0 < k) (h : n < 2 ^ k) : n.log2 < k := PySem.Flt.log2_lt_of hk h
theorem wt_le {f : Fr} {k : Nat} (hk : 0 < k) (h1 : f.1.natAbs < 2 ^ k) (h2 : f.2.natAbs < 2 ^ k) : wt f ≤ k := by
  have a := log_lt hk h1
  have b := log_lt hk h2
  unfold wt
  omega
theorem wt_pos (f : Fr) : 0 < wt f := Nat.succ_pos _
theorem wt_plus {f g : Fr} (hf : low f) (hg : low g) : wt (plusF f g) ≤ wt f + wt g + 1 := by
  obtain ⟨_, _, _, _, e5, e6, _⟩ := fr_spec (f.1 * g.2 + g.1 * f.2) (den_ne hf hg)
  obtain ⟨a1, a2⟩ := wt_lt f
  obtain ⟨b1, b2⟩ := wt_lt g
  refine wt_le (by omega) (Nat.lt_of_le_of_lt e5 ?_) (Nat.lt_of_le_of_lt e6 (pow_le (wide_lt a2 b2) (by omega)))
  refine two_add (wide_lt a1 b2) ?_
  rw [Nat.add_comm]
  exact wide_lt b1 a2
/-! items: a spot and a factor -/
abbrev It := List Int × Fr
def accF (items : List It) (k : List Int) : Fr := items.foldl (fun acc it => if it.1 = k then plusF acc it.2 else acc) (0, 1)
def accR (items : List It) (k : List Int) : Rat := items.foldl (fun acc it => if it.1 = k then acc + rt it.2 else acc) 0
def wtS (items : List It) (k : List Int) : Nat := items.foldl (fun acc it => if it.1 = k then acc + (wt it.2 + 1) else acc) 1
theorem accF_snoc (items : List It) (it : It) (k : List Int) : accF (items ++ [it]) k = if it.1 = k then plusF (accF items k) it.2 else accF items k := by
  unfold accF
  rw [List.foldl_append]
  rfl
theorem accF_fold {items : List It} (h : ∀ it ∈ items, low it.2) (k : List Int) : ∀ {f : Fr} {r : Rat} {n : Nat}, low f → rt f = r → wt f ≤ n → 
    low (items.foldl (fun acc it => if it.1 = k then plusF acc it.2 else acc) f) ∧ rt (items.foldl (fun acc it => if it.1 = k then plusF acc it.2 else acc) f) = items.foldl (fun acc it => if it.1 = k then acc + rt it.2 else acc) r ∧ wt (items.foldl (fun acc it => if it.1 = k then plusF acc it.2 else acc) f) ≤ items.foldl (fun acc it => if it.1 = k then acc + (wt it.2 + 1) else acc) n := by
  induction items with
  | nil => intro f r n a b c; exact ⟨a, b, c⟩
  | cons it items ih =>
    intro f r n a b c
    have hl := h it List.mem_cons_self
    simp only [List.foldl_cons]
    by_cases e : it.1 = k
    · rw [if_pos e, if_pos e, if_pos e]
      obtain ⟨p1, p2⟩ := rt_plus a hl
      refine ih (fun x hx => h x (List.mem_cons_of_mem _ hx)) p2 (by rw [p1, b]) ?_
      have := wt_plus a hl
      omega
    · rw [if_neg e, if_neg e, if_neg e]
      exact ih (fun x hx => h x (List.mem_cons_of_mem _ hx)) a b c
theorem accF_spec {items : List It} (h : ∀ it ∈ items, low it.2) (k : List Int) : low (accF items k) ∧ rt (accF items k) = accR items k ∧ wt (accF items k) ≤ wtS items k := accF_fold h k low_zero rt_zero (by decide)
section
variable {P : Program} {w : World} {K : PySem.W.Frag} {mg : Str → Option Value} {base : Heap}
def sp_plus2 (K : PySem.W.Frag) : Sp := fun vs H Q _ => ∃ (a b : Addr) (f g : Fr), vs = [.ref a, .ref b] ∧ Pr K H a f.1 f.2 ∧ Pr K H b g.1 g.2 ∧ low f ∧ low g ∧ wt f ≤ 3990 ∧ wt g ≤ 3990 ∧
  ∀ t H', Same H H' → H t = none → H' t = some (.tup [.int (plusF f g).1, .int (plusF f g).2]) → Q (.ref t) H'
theorem ok__law_plus (T : Txt w K mg) : FnOk P w K mg base CX0 3 T.a__law_plus T.d__law_plus ["a", "b"] (sp_plus2 K) := by
  refine T.F__law_plus.ok sc__law_plus (fun vs H Q E h => ?_) (fun cdv A outer s H vs Q E hr h => ?_)
  · obtain ⟨a, b, f, g, rfl, _⟩ := h
    rfl
  · obtain ⟨a, b, f, g, rfl, ha, hb, lf, lg, wf, wg, k⟩ := h
    have hr__law_low : Room 2 _ := hr
    have G__law_low := ok__law_low (P := P) (base := base) T
    obtain ⟨a1, a2⟩ := wt_lt f
    obtain ⟨b1, b2⟩ := wt_lt g
    have lp := pow_le a1 (show wt f ≤ 4000 by omega)
    have lq := pow_le a2 (show wt f ≤ 4000 by omega)
    have lr := pow_le b1 (show wt g ≤ 4000 by omega)
    have ls := pow_le b2 (show wt g ≤ 4000 by omega)
    have n0 := den_ne lf lg
    refine ⟨_, (pss_one (ps_ret (pe_call G__law_low hr__law_low (by rfl) T.m__law_low T.F__law_low.kp T.B__law_low .nil pass0 (pa_cons (pe_op op_add (pe_op op_mulW (pe_ix ix_tup (pv 0) pe_int (fun _ _ => rfl)) (pe_ix ix_tup (pv 1) pe_int (fun _ _ => rfl))) (pe_op op_mulW (pe_ix ix_tup (pv 1) pe_int (fun _ _ => rfl)) (pe_ix ix_tup (pv 0) pe_int (fun _ _ => rfl)))) (pa_cons (pe_op op_mulW (pe_ix ix_tup (pv 0) pe_int (fun _ _ => rfl)) (pe_ix ix_tup (pv 1) pe_int (fun _ _ => rfl))) pa_nil))))), ?_⟩
    walk_at "rs"
    refine ⟨_, ha, _, rfl, _, hb, _, rfl, _, rfl, _, rfl, mulW lp ls, _, hb, _, rfl, _, ha, _, rfl, _, rfl, _, rfl, mulW lr lq, _, ha, _, rfl, _, hb, _, rfl, _, rfl, _, rfl, mulW lq ls, ?_⟩
    exact low_at (M := 1) (L := 1) n0 (two_add (mulL lp ls) (mulL lr lq)) (pow_le (mulL lq ls) (by decide)) k
theorem plus_at (T : Txt w K mg) {H : Hp} {Q : VK} {E : XK} {a b : Addr} {f g : Fr} (ha : Pr K H a f.1 f.2) (hb : Pr K H b g.1 g.2) (lf : low f) (lg : low g) (wf : wt f ≤ 3990) (wg : wt g ≤ 3990) (k : ∀ t H', Same H H' → H t = none → H' t = some (.tup [.int (plusF f g).1, .int (plusF f g).2]) → Q (.ref t) H') : sp_two K (fun p q r s => p * s + r * q) (fun _ q _ s => q * s) [.ref a, .ref b] H Q E := by
  obtain ⟨a1, a2⟩ := wt_lt f
  obtain ⟨b1, b2⟩ := wt_lt g
  exact ⟨a, b, f.1, f.2, g.1, g.2, rfl, ha, hb, pow_le a1 (by omega), pow_le a2 (by omega), pow_le b1 (by omega), pow_le b2 (by omega), den_ne lf lg, k⟩
end
end LK

set_option Elab.async false
set_option linter.all false
set_option maxRecDepth 100000
namespace LK
open PySem PySem.Spec PyProof.Rows L2
local macro_rules | `(tactic| walk_at "rs") => `(tactic| simp only [tFld, sFld, tMeth, tMethZ, tMakeK, tProp, tFmt, rEqO, rNeO, cxK, cxNK, tCallZ, tAsg, tOp, rI0, rS0, rB0, rI, rU, tUn, rEq, rNe, rIxL, rIxT, rIxS, rSetL, rSlLU, rSlS, rSlU, rCatL, rCatU, rRepL, rIn, tVar, tC, gName, gSub, tIfS, tTest, tB, tAnd, tOr, tNot, tNotV, tAndV, tOrV, tIf, tCall, tCons, tNil, tCB, tDrop, tRet, tRetN, tNext, tLstU, tTupU, tM0, tM1, tPar, tPar3, tAug, ipI, tBM, tBM0, rAppend, rPop, tBreak, sDPut, tDGet, tDGet2, tCont, tChain, tSl, tPart, tNoPart, L2.start, List.map, List.length_cons, List.length_nil, List.replicate, List.cons_append, List.nil_append, List.append_nil, List.getElem?_cons_zero, List.getElem?_cons_succ, List.set_cons_zero, List.set_cons_succ, Option.some.injEq, V.int.injEq, V.ref.injEq, V.str.injEq, V.bl.injEq, exists_eq_left', exists_eq_left, exists_and_left, decide_eq_true_eq, List.cons.injEq, and_true, true_and, scal, Bool.not_eq_true', decide_eq_false_iff_not, Nat.zero_add, Nat.reduceAdd, Nat.reduceSub, reduceCtorEq, false_and, exists_false, false_or, or_false, CPow, CPowW, CMul, CDiv, Int.reduceToNat, ↓reduceIte, wipe, sw, List.nil_append, List.singleton_append])
local macro_rules | `(tactic| walk_at "st") => `(tactic| (refine seq_op fun N hN => ?_; walk_at "rs"))
local macro_rules | `(tactic| walk_at "sd") => `(tactic| first | assumption | decide | omega)
local macro_rules | `(tactic| walk_at "rd") => `(tactic| repeat (first
  | refine ⟨_, SqL.of (by assumption), ?_⟩ | refine ⟨_, SqL.of upd_same, ?_⟩ | refine ⟨_, .inl (SqL.of (by assumption)), ?_⟩ | refine ⟨_, (by assumption : _ = some (HO.lst _)), ?_⟩ | refine ⟨_, upd_same, ?_⟩
  | refine ⟨_, rfl, ?_⟩ | refine And.intro (by walk_at "sd") ?_))

/-! ### items at the heap -/
theorem seqT_updO {K : PySem.W.Frag} {H : Hp} {a p : Addr} {xs : List V} {o : HO} (hp : ∀ ys, ¬ Rd H p (.tup ys)) (h : SqT K H a xs) : SqT K (L2.upd H p o) a xs := by
  rcases h with h | h
  · have ne : a ≠ p := fun e => hp _ (e ▸ h)
    rcases h with h | ⟨u, h⟩
    · exact .inl (.inl (by rw [upd_ne ne]; exact h))
    · exact .inl (.inr ⟨u, by rw [upd_ne ne]; exact h⟩)
  · exact .inr h
theorem notT_lst {H : Hp} {p : Addr} {ys : List V} (h : H p = some (.lst ys)) : ∀ zs, ¬ Rd H p (.tup zs) := fun zs r => by
  rcases r with r | ⟨u, r⟩ <;> (rw [h] at r; cases r)
theorem notT_dK {H : Hp} {p : Addr} {ys : List (L2.Key × V)} (h : H p = some (.dK ys)) : ∀ zs, ¬ Rd H p (.tup zs) := fun zs r => by
  rcases r with r | ⟨u, r⟩ <;> (rw [h] at r; cases r)
theorem notT_dT {H : Hp} {p : Addr} {ys : List (List L2.Key × V)} (h : H p = some (.dT ys)) : ∀ zs, ¬ Rd H p (.tup zs) := fun zs r => by
  rcases r with r | ⟨u, r⟩ <;> (rw [h] at r; cases r)
inductive Its (K : PySem.W.Frag) (H : Hp) : List V → List It → Prop
  | nil : Its K H [] []
  | cons {a u : Addr} {k : List Int} {f : Fr} {xs : List V} {its : List It} : SqT K H a (k.map V.int ++ [.ref u]) → Pr K H u f.1 f.2 → Its K H xs its → Its K H (.ref a :: xs) ((k, f) :: its)
section
variable {K : PySem.W.Frag} {H H' : Hp}
theorem Its.same (s : Same H H') : ∀ {xs : List V} {its : List It}, Its K H xs its → Its K H' xs its
  | _, _, .nil => .nil
  | _, _, .cons h h2 q => .cons (Same.seqT s h) (Same.seqT s h2) (q.same s)
theorem Its.len : ∀ {xs : List V} {its : List It}, Its K H xs its → xs.length = its.length
  | _, _, .nil => rfl
  | _, _, .cons _ _ q => congrArg Nat.succ q.len
theorem Its.app : ∀ {xs ys : List V} {its jts : List It}, Its K H xs its → Its K H ys jts → Its K H (xs ++ ys) (its ++ jts)
  | _, _, _, _, .nil, r => r
  | _, _, _, _, .cons h h2 q, r => .cons h h2 (q.app r)
theorem Its.rev : ∀ {xs : List V} {its : List It}, Its K H xs its → Its K H xs.reverse its.reverse
  | _, _, .nil => .nil
  | _, _, .cons h h2 q => by rw [List.reverse_cons, List.reverse_cons]; exact q.rev.app (.cons h h2 .nil)
theorem Its.take : ∀ {xs : List V} {its : List It} (n : Nat), Its K H xs its → Its K H (xs.take n) (its.take n)
  | _, _, 0, _ => .nil
  | _, _, _ + 1, .nil => .nil
  | _, _, n + 1, .cons h h2 q => .cons h h2 (q.take n)
theorem Its.drop : ∀ {xs : List V} {its : List It} (n : Nat), Its K H xs its → Its K H (xs.drop n) (its.drop n)
  | _, _, 0, h => h
  | _, _, _ + 1, .nil => .nil
  | _, _, n + 1, .cons _ _ q => q.drop n
theorem Its.get : ∀ {xs : List V} {its : List It} {n : Nat}, Its K H xs its → n < its.length → ∃ a u k f, xs[n]? = some (.ref a) ∧ its[n]? = some (k, f) ∧ SqT K H a (k.map V.int ++ [.ref u]) ∧ Pr K H u f.1 f.2
  | _, _, _, .nil, h => absurd h (Nat.not_lt_zero _)
  | _, _, 0, .cons h h2 _, _ => ⟨_, _, _, _, rfl, rfl, h, h2⟩
  | _, _, n + 1, .cons _ _ q, h => by
    obtain ⟨a, u, k, f, h1, h2, h3⟩ := q.get (n := n) (Nat.lt_of_succ_lt_succ h)
    exact ⟨a, u, k, f, h1, h2, h3⟩
theorem Its.updO {p : Addr} {o : HO} (hp : ∀ ys, ¬ Rd H p (.tup ys)) : ∀ {xs : List V} {its : List It}, Its K H xs its → Its K (L2.upd H p o) xs its
  | _, _, .nil => .nil
  | _, _, .cons h h2 q => .cons (seqT_updO hp h) (seqT_updO hp h2) (q.updO hp)
theorem Its.kp {N : Nat} {b c : Addr} (B : Bag N H b c) (k : Kp b H H') : ∀ {xs : List V} {its : List It}, Its K H xs its → Its K H' xs its
  | _, _, .nil => .nil
  | _, _, .cons h h2 q => .cons (seqT_kp B k h) (seqT_kp B k h2) (q.kp B k)
def dIt (it : It) : PyData := .tuple (it.1.map PyData.int ++ [.tuple [.int it.2.1, .int it.2.2]])
theorem dp_ints : ∀ k : List Int, DpAll K H (k.map V.int) (k.map PyData.int)
  | [] => .nil
  | i :: k => .cons (.int i) (dp_ints k)
theorem dpAll_app : ∀ {xs ys : List V} {ds es : List PyData}, DpAll K H xs ds → DpAll K H ys es → DpAll K H (xs ++ ys) (ds ++ es)
  | _, _, _, _, .nil, r => r
  | _, _, _, _, .cons h q, r => .cons h (dpAll_app q r)
theorem Its.dp : ∀ {xs : List V} {its : List It}, Its K H xs its → DpAll K H xs (its.map dIt)
  | _, _, .nil => .nil
  | _, _, .cons h h2 q => .cons (.tup h (dpAll_app (dp_ints _) (.cons (.tup h2 (.cons (.int _) (.cons (.int _) .nil))) .nil))) q.dp
end
/-! ### the normal form -/
abbrev cd (k : List Int) : Int := TS.code 2000 k
structure Norm (R : List Int → Rat) (l : List It) : Prop where
  srt : l.Pairwise fun a b => cd a.1 < cd b.1
  it : ∀ x ∈ l, low x.2 ∧ x.2.1 ≠ 0 ∧ rt x.2 = R x.1
  all : ∀ k, R k ≠ 0 → ∃ f, (k, f) ∈ l
theorem rt_null {f : Fr} (hf : low f) : rt f = 0 ↔ f.1 = 0 := by
  constructor
  · intro e
    have := rt_eq hf low_zero (by rw [e, rt_zero])
    rw [this]
  · intro e
    rw [(low_null hf).mp e, rt_zero]
theorem srt_eq : ∀ {l m : List It}, (l.Pairwise fun a b => cd a.1 < cd b.1) → (m.Pairwise fun a b => cd a.1 < cd b.1) → (∀ x, x ∈ l ↔ x ∈ m) → l = m
  | [], [], _, _, _ => rfl
  | [], b :: m, _, _, h => by have := (h b).mpr List.mem_cons_self; cases this
  | a :: l, [], _, _, h => by have := (h a).mp List.mem_cons_self; cases this
  | a :: l, b :: m, hl, hm, h => by
    rw [List.pairwise_cons] at hl hm
    have e : a = b := by
      rcases List.mem_cons.mp ((h a).mp List.mem_cons_self) with e | e
      · exact e
      · rcases List.mem_cons.mp ((h b).mpr List.mem_cons_self) with e2 | e2
        · exact e2.symm
        · have h1 := hm.1 a e
          have h2 := hl.1 b e2
          omega
    subst e
    rw [srt_eq hl.2 hm.2 fun x => ?_]
    constructor
    · intro hx
      rcases List.mem_cons.mp ((h x).mp (List.mem_cons_of_mem _ hx)) with e | e
      · subst e
        have := hl.1 x hx
        omega
      · exact e
    · intro hx
      rcases List.mem_cons.mp ((h x).mpr (List.mem_cons_of_mem _ hx)) with e | e
      · subst e
        have := hm.1 x hx
        omega
      · exact e
theorem Norm.uniq {R : List Int → Rat} {l m : List It} (h : Norm R l) (g : Norm R m) : l = m := by
  have sub : ∀ {l m : List It}, Norm R l → Norm R m → ∀ x ∈ l, x ∈ m := fun {l m} h g x hx => by
    obtain ⟨a1, a2, a3⟩ := h.it x hx
    obtain ⟨f, hf⟩ := g.all x.1 (fun z => a2 ((rt_null a1).mp (a3.trans z)))
    obtain ⟨b1, b2, b3⟩ := g.it _ hf
    have e : x.2 = f := rt_eq a1 b1 (a3.trans b3.symm)
    have : x = (x.1, f) := Prod.ext rfl e
    rw [this]; exact hf
  exact srt_eq h.srt g.srt fun x => ⟨sub h g x, sub g h x⟩
theorem accF_none {items : List It} {k : List Int} (h : ∀ it ∈ items, it.1 ≠ k) : accF items k = (0, 1) ∧ accR items k = 0 := by
  unfold accF accR
  have key : ∀ {items : List It}, (∀ it ∈ items, it.1 ≠ k) → ∀ (f : Fr) (r : Rat), items.foldl (fun acc it => if it.1 = k then plusF acc it.2 else acc) f = f ∧ items.foldl (fun acc it => if it.1 = k then acc + rt it.2 else acc) r = r := by
    intro items
    induction items with
    | nil => intro _ f r; exact ⟨rfl, rfl⟩
    | cons it items ih =>
      intro h f r
      simp only [List.foldl_cons]
      rw [if_neg (h it List.mem_cons_self), if_neg (h it List.mem_cons_self)]
      exact ih (fun x hx => h x (List.mem_cons_of_mem _ hx)) f r
  exact key h _ _
/-- sorted spots, of those with a sum that is no 0, with their sums -/
theorem norm_of {items : List It} {L : List (List Int)} (hl : ∀ it ∈ items, low it.2) (srt : L.Pairwise fun a b => cd a < cd b) (all : ∀ it ∈ items, it.1 ∈ L) : Norm (accR items) ((L.filter fun k => decide (accF items k ≠ (0, 1))).map fun k => (k, accF items k)) := by
  refine ⟨?_, fun x hx => ?_, fun k hk => ?_⟩
  · rw [List.pairwise_map]
    exact (srt.filter _).imp fun h => h
  · obtain ⟨k, hk, rfl⟩ := List.mem_map.mp hx
    have := of_decide_eq_true (List.mem_filter.mp hk).2
    obtain ⟨a, b, _⟩ := accF_spec hl k
    exact ⟨a, fun z => this ((low_null a).mp z), b⟩
  · have mk : k ∈ L := Classical.byContradiction fun n => hk (accF_none fun it hit e => n (by rw [← e]; exact all it hit)).2
    obtain ⟨a, b, _⟩ := accF_spec hl k
    refine ⟨accF items k, List.mem_map.mpr ⟨k, List.mem_filter.mpr ⟨mk, decide_eq_true fun z => hk ?_⟩, rfl⟩⟩
    rw [← b, z, rt_zero]
theorem nodup_len {α : Type} [DecidableEq α] : ∀ {l S : List α}, l.Nodup → (∀ x ∈ l, x ∈ S) → l.length ≤ S.length
  | [], _, _, _ => Nat.zero_le _
  | a :: l, S, h, hs => by
    rw [List.nodup_cons] at h
    have ha := hs a List.mem_cons_self
    have := nodup_len (l := l) (S := S.erase a) h.2 fun x hx => by
      have ne : x ≠ a := fun e => h.1 (e ▸ hx)
      exact (List.mem_erase_of_ne ne).mpr (hs x (List.mem_cons_of_mem _ hx))
    rw [List.length_erase_of_mem ha] at this
    have p : 0 < S.length := List.length_pos_of_mem ha
    rw [List.length_cons]
    omega
/-- a comprehension with a test, its items told by R -/
theorem lc_filtR {J : L2.It} {n : Nat} {G : Hp → Prop} {Y : Nat → Hp → V → Hp → Prop} (w : Walk J n G Y) {g : TG} {tt : TT} {te : TE} {vs : List Nat} {σ : L2.St} {H1 : Hp} {D : Addr} {Qd : Hp → Prop} (R : Nat → Hp → List V → Prop) (p : Nat → Bool) (hD : H1 D = none) (hn : n ≤ 1000000)
    (mono : ∀ i H H' ys, Same H H' → R i H ys → R i H' ys) (up : ∀ i H ys zs o, H D = some (.lst zs) → R i H ys → R i (L2.upd H D o) ys) (r0 : ∀ H, R 0 H [])
    (hG : ∀ H, Same H1 H → G H)
    (hs : ∀ i x H H', i < n → Same H1 H → Y i H x H' → g x (wipe σ vs) H' fun σ2 H2 => Same H H2 ∧ wipe σ2 vs = wipe σ vs ∧ (∀ Qt : Bool → Hp → Prop, (∀ H3, Same H2 H3 → Qt (p i) H3) → tt σ2 H2 Qt) ∧ (p i = false → ∀ H3 ys, R i H3 ys → R (i + 1) H3 ys) ∧ (p i = true → ∀ H3, Same H2 H3 → ∀ Q2 : VK, (∀ v H4, Same H3 H4 → (∀ ys, R i H4 ys → R (i + 1) H4 (ys ++ [v])) → Q2 v H4) → te σ2 H3 Q2))
    (gm : ∀ x σ0 H0 Q0 Q1, (∀ σ2 H2, Q0 σ2 H2 → Q1 σ2 H2) → g x σ0 H0 Q0 → g x σ0 H0 Q1)
    (hq : ∀ H' ys, Same H1 H' → H' D = some (.lst ys) → R n H' ys → Qd H') :
    ∃ W : Nat → Nat → Hp → Prop, (∃ m, W 0 m (L2.upd H1 D (.lst []))) ∧ ∀ i m H, W i m H →
      (J.stop i H ∧ Qd H) ∨ (J.go i H ∧ ∃ Nx : Hp → Prop, (∀ H', Nx H' → ∃ m', m' < m ∧ W (i + 1) m' H') ∧ ∀ x H', J.yld i H x H' → g x (wipe σ vs) H' fun σ2 H2 => wipe σ2 vs = wipe σ vs ∧ tt σ2 H2 fun b H3 =>
        if b = true then te σ2 H3 fun y H4 => ∃ acc, H4 D = some (.lst acc) ∧ acc.length < sizeLine ∧ Nx (L2.upd H4 D (.lst (acc ++ [y]))) else Nx H3) := by
  have keep : ∀ {H : Hp} {o : HO}, Same H1 H → Same H1 (L2.upd H D o) := fun s a u e => by
    rw [upd_ne (ne_of_none e hD)]; exact s _ _ e
  refine lc_it w (fun i H => Same H1 H ∧ ∃ ys, H D = some (.lst ys) ∧ ys.length ≤ i ∧ R i H ys) ⟨keep (Same.refl _), [], upd_same, Nat.le_refl _, r0 _⟩ (fun i H _ h => hG H h.1) (fun i x H H' hi ⟨s1, ys, h1, hl, hr⟩ hY => ?_) (fun H ⟨s1, ys, h1, _, hr⟩ => hq H ys s1 h1 hr)
  refine gm _ _ _ _ _ (fun σ2 H2 ⟨s2, e2, kt, kf, ke⟩ => ⟨e2, kt _ fun H3 s3 => ?_⟩) (hs i x H H' hi s1 hY)
  have s23 := Same.trans s2 s3
  have hD3 := s23 _ _ h1
  cases c : p i with
  | true =>
    rw [if_pos rfl]
    refine ke c H3 s3 _ fun v H4 s4 st => ⟨ys, s4 _ _ hD3, ?_, keep (Same.trans s1 (Same.trans s23 s4)), ys ++ [v], upd_same, ?_, up _ _ _ _ _ (s4 _ _ hD3) (st ys (mono _ _ _ _ (Same.trans s23 s4) hr))⟩
    · exact Nat.lt_of_le_of_lt hl (Nat.lt_of_lt_of_le (Nat.lt_of_lt_of_le hi hn) (by decide))
    · rw [List.length_append]
      simp only [List.length_cons, List.length_nil]
      omega
  | false =>
    rw [if_neg (by simp)]
    exact ⟨Same.trans s1 s23, ys, hD3, by omega, kf c H3 ys (mono _ _ _ _ s23 hr)⟩
end LK

set_option Elab.async false
set_option linter.all false
set_option maxRecDepth 100000
namespace LK
open PySem PySem.Spec PyProof.Rows L2
local macro_rules | `(tactic| walk_at "rs") => `(tactic| simp only [tFld, sFld, tMeth, tMethZ, tMakeK, tProp, tFmt, rEqO, rNeO, cxK, cxNK, tCallZ, tAsg, tOp, rI0, rS0, rB0, rI, rU, tUn, rEq, rNe, rIxL, rIxT, rIxS, rSetL, rSlLU, rSlS, rSlU, rCatL, rCatU, rRepL, rIn, tVar, tC, gName, gSub, tIfS, tTest, tB, tAnd, tOr, tNot, tNotV, tAndV, tOrV, tIf, tCall, tCons, tNil, tCB, tDrop, tRet, tRetN, tNext, tLstU, tTupU, tM0, tM1, tPar, tPar3, tAug, ipI, tBM, tBM0, rAppend, rPop, tBreak, sDPut, tDGet, tDGet2, tCont, tChain, tSl, tPart, tNoPart, L2.start, List.map, List.length_cons, List.length_nil, List.replicate, List.cons_append, List.nil_append, List.append_nil, List.getElem?_cons_zero, List.getElem?_cons_succ, List.set_cons_zero, List.set_cons_succ, Option.some.injEq, V.int.injEq, V.ref.injEq, V.str.injEq, V.bl.injEq, exists_eq_left', exists_eq_left, exists_and_left, decide_eq_true_eq, List.cons.injEq, and_true, true_and, scal, Bool.not_eq_true', decide_eq_false_iff_not, Nat.zero_add, Nat.reduceAdd, Nat.reduceSub, reduceCtorEq, false_and, exists_false, false_or, or_false, CPow, CPowW, CMul, CDiv, Int.reduceToNat, ↓reduceIte, wipe, sw, List.nil_append, List.singleton_append])
local macro_rules | `(tactic| walk_at "st") => `(tactic| (refine seq_op fun N hN => ?_; walk_at "rs"))
local macro_rules | `(tactic| walk_at "sd") => `(tactic| first | assumption | decide | omega)
local macro_rules | `(tactic| walk_at "rd") => `(tactic| repeat (first
  | refine ⟨_, SqL.of (by assumption), ?_⟩ | refine ⟨_, SqL.of upd_same, ?_⟩ | refine ⟨_, .inl (SqL.of (by assumption)), ?_⟩ | refine ⟨_, (by assumption : _ = some (HO.lst _)), ?_⟩ | refine ⟨_, upd_same, ?_⟩
  | refine ⟨_, rfl, ?_⟩ | refine And.intro (by walk_at "sd") ?_))

theorem for_lt {K : PySem.W.Frag} {a : Addr} {xs : List V} {g : TG} {tb : TS} {D : Ends} {σ : L2.St} {H : Hp} {tl : TE} (hv : ∀ Q : VK, Q (.ref a) H → tl σ H Q) {H0 : Hp} (h : SqL K H0 a xs ∨ SqT K H0 a xs) (Pv : Nat → L2.St → Hp → Prop) (h0 : Pv 0 σ H) (hl : ∀ i σ H', Pv i σ H' → Same H0 H')
    (hs : ∀ i x σ H, xs[i]? = some x → Pv i σ H → g x σ H fun σ2 H2 => tb { D with nx := Pv (i + 1), ct := Pv (i + 1), bk := D.nx } σ2 H2) (hd : ∀ σ H, Pv xs.length σ H → D.nx σ H) : tFor (iLT K tl) g tb D σ H := by
  rcases h with h | h
  · exact .inl (hv _ ⟨a, rfl, ⟨xs, (hl _ _ _ h0).seq h⟩, for_list (K := K) (a := a) (xs := xs) Pv h0 (fun i σ H2 _ p => (hl i σ H2 p).seq h) hs hd⟩)
  · exact .inr (hv _ ⟨a, rfl, ⟨xs, Same.seqT (hl _ _ _ h0) h⟩, for_tup (K := K) (a := a) (xs := xs) Pv h0 (fun i σ H2 _ p => Same.seqT (hl i σ H2 p) h) hs hd⟩)
theorem gm_name (i : Nat) : ∀ (x : V) (σ0 : L2.St) (H0 : Hp) (Q0 Q1 : L2.St → Hp → Prop), (∀ σ2 H2, Q0 σ2 H2 → Q1 σ2 H2) → gName i x σ0 H0 Q0 → gName i x σ0 H0 Q1 := fun _ _ _ _ _ h q => h _ _ q
theorem gm2 {K : PySem.W.Frag} (i j : Nat) : ∀ (x : V) (σ0 : L2.St) (H0 : Hp) (Q0 Q1 : L2.St → Hp → Prop), (∀ σ2 H2, Q0 σ2 H2 → Q1 σ2 H2) → gTup K 2 (gCons (gName i) (gCons (gName j) gNil)) x σ0 H0 Q0 → gTup K 2 (gCons (gName i) (gCons (gName j) gNil)) x σ0 H0 Q1 :=
  fun x σ0 H0 Q0 Q1 h ⟨a, xs, e1, e2, e3, v, r, e4, v2, r2, e5, e6, q⟩ => ⟨a, xs, e1, e2, e3, v, r, e4, v2, r2, e5, e6, h _ _ q⟩
theorem gm3 {K : PySem.W.Frag} (i j l : Nat) : ∀ (x : V) (σ0 : L2.St) (H0 : Hp) (Q0 Q1 : L2.St → Hp → Prop), (∀ σ2 H2, Q0 σ2 H2 → Q1 σ2 H2) → gTup K 3 (gCons (gName i) (gCons (gName j) (gCons (gName l) gNil))) x σ0 H0 Q0 → gTup K 3 (gCons (gName i) (gCons (gName j) (gCons (gName l) gNil))) x σ0 H0 Q1 :=
  fun x σ0 H0 Q0 Q1 h ⟨a, xs, e1, e2, e3, v, r, e4, v2, r2, e5, v3, r3, e6, e7, q⟩ => ⟨a, xs, e1, e2, e3, v, r, e4, v2, r2, e5, v3, r3, e6, e7, h _ _ q⟩
/-- a triple is taken apart -/
theorem g3_at {K : PySem.W.Frag} {i j l : Nat} {p : Addr} {u v w : V} {σ : L2.St} {H : Hp} {Q : L2.St → Hp → Prop} (h : SqT K H p [u, v, w]) (q : Q (((σ.set i (some u)).set j (some v)).set l (some w)) H) : gTup K 3 (gCons (gName i) (gCons (gName j) (gCons (gName l) gNil))) (.ref p) σ H Q := ⟨p, _, rfl, h, rfl, u, _, rfl, v, _, rfl, w, _, rfl, rfl, q⟩
theorem g2_at {K : PySem.W.Frag} {i j : Nat} {p : Addr} {u v : V} {σ : L2.St} {H : Hp} {Q : L2.St → Hp → Prop} (h : SqT K H p [u, v]) (q : Q ((σ.set i (some u)).set j (some v)) H) : gTup K 2 (gCons (gName i) (gCons (gName j) gNil)) (.ref p) σ H Q := ⟨p, _, rfl, h, rfl, u, _, rfl, v, _, rfl, rfl, q⟩
/-! ### sums in a dict -/
section
variable {κ : Type} [DecidableEq κ]
theorem valV_mem {k : κ} {v : V} : ∀ {kvs : List (κ × V)}, valV kvs k = some v → k ∈ kvs.map (·.1)
  | [], h => by cases h
  | p :: r, h => by
    by_cases e : p.1 = k
    · rw [List.map_cons, e]; exact List.mem_cons_self
    · rw [valV_neg e] at h
      exact List.mem_cons_of_mem _ (valV_mem h)
theorem keys_put (kvs : List (κ × V)) (k : κ) (v : V) : (putK kvs k v).map (·.1) = if (valV kvs k).isSome = true then kvs.map (·.1) else kvs.map (·.1) ++ [k] := by
  unfold putK
  rw [valV_any]
  by_cases c : (valV kvs k).isSome = true
  · rw [if_pos c, if_pos c, List.map_map]
    refine List.map_congr_left fun p _ => ?_
    show (if p.1 = k then (p.1, v) else p).1 = p.1
    split <;> rfl
  · rw [if_neg c, if_neg c, List.map_append]
    rfl
structure SumD (mk : List Int → κ) (d : Nat) (K : PySem.W.Frag) (H : Hp) (kvs : List (κ × V)) (items : List It) : Prop where
  inj : ∀ k k' : List Int, k.length = d → k'.length = d → mk k = mk k' → k = k'
  len : ∀ it ∈ items, it.1.length = d
  nd : (kvs.map (·.1)).Nodup
  key : ∀ x ∈ kvs.map (·.1), ∃ it ∈ items, x = mk it.1
  val : ∀ it ∈ items, ∃ u, valV kvs (mk it.1) = some (.ref u) ∧ Pr K H u (accF items it.1).1 (accF items it.1).2
variable {mk : List Int → κ} {d : Nat} {K : PySem.W.Frag} {H H' : Hp} {kvs : List (κ × V)} {items : List It}
theorem SumD.get (s : SumD mk d K H kvs items) {k : List Int} (hk : k.length = d) : (∃ u, valV kvs (mk k) = some (.ref u) ∧ Pr K H u (accF items k).1 (accF items k).2) ∨ (valV kvs (mk k) = none ∧ accF items k = (0, 1)) := by
  cases hv : valV kvs (mk k) with
  | none =>
    refine .inr ⟨rfl, (accF_none fun it hit e => ?_).1⟩
    obtain ⟨u, h1, _⟩ := s.val it hit
    rw [e, hv] at h1
    cases h1
  | some v =>
    obtain ⟨it, hit, e⟩ := s.key _ (valV_mem hv)
    obtain rfl := s.inj _ _ hk (s.len it hit) e
    obtain ⟨u, h1, h2⟩ := s.val it hit
    rw [hv] at h1
    exact .inl ⟨u, h1, h2⟩
theorem SumD.put (s : SumD mk d K H kvs items) {it : It} (hl : it.1.length = d) {t : Addr} (carry : ∀ u p q, Pr K H u p q → Pr K H' u p q) (ht : Pr K H' t (plusF (accF items it.1) it.2).1 (plusF (accF items it.1) it.2).2) : SumD mk d K H' (putK kvs (mk it.1) (.ref t)) (items ++ [it]) := by
  refine ⟨s.inj, fun x hx => ?_, ?_, fun x hx => ?_, fun x hx => ?_⟩
  · rcases List.mem_append.mp hx with hx | hx
    · exact s.len x hx
    · rw [List.mem_singleton.mp hx]; exact hl
  · rw [keys_put]
    by_cases c : (valV kvs (mk it.1)).isSome = true
    · rw [if_pos c]; exact s.nd
    · rw [if_neg c]
      refine List.nodup_append.mpr ⟨s.nd, by simp, fun x hx y hy e => ?_⟩
      obtain rfl := List.mem_singleton.mp hy
      obtain ⟨jt, hjt, e2⟩ := s.key x hx
      obtain ⟨u, h1, _⟩ := s.val jt hjt
      rw [← e2, e] at h1
      rw [h1] at c
      exact c rfl
  · rw [keys_put] at hx
    have old : x ∈ kvs.map (·.1) → ∃ jt ∈ items ++ [it], x = mk jt.1 := fun h => by
      obtain ⟨jt, hjt, e⟩ := s.key x h
      exact ⟨jt, List.mem_append_left _ hjt, e⟩
    split at hx
    · exact old hx
    · rcases List.mem_append.mp hx with hx | hx
      · exact old hx
      · exact ⟨it, List.mem_append_right _ List.mem_cons_self, List.mem_singleton.mp hx⟩
  · rw [valV_put]
    by_cases e : mk x.1 = mk it.1
    · have lx : x.1.length = d := by
        rcases List.mem_append.mp hx with hx | hx
        · exact s.len x hx
        · rw [List.mem_singleton.mp hx]; exact hl
      have e2 := s.inj _ _ lx hl e
      rw [if_pos e, accF_snoc, e2, if_pos rfl]
      exact ⟨t, rfl, ht⟩
    · rw [if_neg e, accF_snoc, if_neg fun z => e (by rw [z])]
      rcases List.mem_append.mp hx with hx | hx
      · obtain ⟨u, h1, h2⟩ := s.val x hx
        exact ⟨u, h1, carry _ _ _ h2⟩
      · exact absurd (by rw [List.mem_singleton.mp hx]) e
theorem SumD.upd (s : SumD mk d K H kvs items) (carry : ∀ u p q, Pr K H u p q → Pr K H' u p q) : SumD mk d K H' kvs items := ⟨s.inj, s.len, s.nd, s.key, fun it hit => by
  obtain ⟨u, h1, h2⟩ := s.val it hit
  exact ⟨u, h1, carry _ _ _ h2⟩⟩
end
theorem wtS_fold (k : List Int) : ∀ (b : List It) (n m : Nat), n ≤ m → n ≤ b.foldl (fun acc it => if it.1 = k then acc + (wt it.2 + 1) else acc) m
  | [], n, m, h => h
  | it :: b, n, m, h => by
    simp only [List.foldl_cons]
    by_cases e : it.1 = k
    · rw [if_pos e]; exact wtS_fold k b n _ (by omega)
    · rw [if_neg e]; exact wtS_fold k b n _ h
theorem wtS_take (items : List It) (i : Nat) (k : List Int) : wtS (items.take i) k ≤ wtS items k := by
  conv => rhs; rw [← List.take_append_drop i items]
  unfold wtS
  rw [List.foldl_append]
  exact wtS_fold k _ _ _ (Nat.le_refl _)
/-- items that may be handed in -/
structure Fit (d : Nat) (items : List It) : Prop where
  it : ∀ x ∈ items, low x.2 ∧ wt x.2 ≤ 3900 ∧ x.1.length = d ∧ TS.Bd 2000 x.1
  wt : ∀ k, wtS items k ≤ 3900
  few : ∃ S : List (List Int), S.length ≤ 62 ∧ ∀ x ∈ items, x.1 ∈ S
  len : items.length ≤ 1000
section
variable {P : Program} {w : World} {K : PySem.W.Frag} {mg : Str → Option Value} {base : Heap}
def sp_norm (K : PySem.W.Frag) (d : Nat) : Sp := fun vs H Q _ => ∃ (a : Addr) (xs : List V) (items : List It), vs = [.ref a] ∧ (SqL K H a xs ∨ SqT K H a xs) ∧ Its K H xs items ∧ Fit d items ∧
  ∀ (t : Addr) (ys : List V) (its' : List It) H', Same H H' → SqT K H' t ys → Its K H' ys its' → Norm (accR items) its' → its'.length < 64 → Q (.ref t) H'
theorem ok_normal_entries (T : Txt w K mg) : FnOk P w K mg base CX0 5 T.a_normal_entries T.d_normal_entries ["entries"] (sp_norm K 1) := by
  refine T.F_normal_entries.ok sc_normal_entries (fun vs H Q E h => ?_) (fun cdv A outer s H vs Q E hr h => ?_)
  · obtain ⟨a, xs, items, rfl, _⟩ := h
    rfl
  · obtain ⟨a, xs, items, rfl, ha, hi, fit, k⟩ := h
    have hr_plus : Room 4 _ := hr
    have G_plus := ok_plus (P := P) (base := base) T
    have hu1 : (A.deeper (envOfC "normal_entries" (defScope s_normal_entries) s.heap.objs.size T.a_normal_entries cdv)).units + 1 < cLine := Nat.lt_of_le_of_lt (Nat.add_le_add_left (by decide : 1 ≤ 64) _) hr.units
    have lx := hi.len
    refine ⟨_, (pss_cons (ps_set (i := 1) sc_normal_entries.nd rfl (Or.inr rfl) pe_dnewK)
      (pss_cons (ps_for PassesOwn.never rfl (pi_lt (pv 0)) (pg_tup rfl (pgs_cons (pg_name (i := 2) sc_normal_entries.nd rfl (Or.inl rfl)) (pgs_cons (pg_name (i := 3) sc_normal_entries.nd rfl (Or.inl rfl)) pgs_nil))) (pss_one (ps_dput hu1 (pv 1) (pv 2) (pe_call G_plus hr_plus (by rfl) T.m_plus T.F_plus.kp T.B_plus .nil pass0 (pa_cons (pe_dget2 hu1 (pv 1) (pv 2) (pe_glob (v := .ref T.a_ZERO) (by rfl) T.m_ZERO rfl) ⟨rfl, rfl, rfl, rfl⟩) (pa_cons (pv 3) pa_nil))) rfl)))
      (pss_one (ps_ret (pe_callTy call_tupleN (by rfl) T.n_tuple (by decide +kernel) (pa_cons (pe_lc (own := [("column", 2)]) (g := gName 2) (tt := _) rfl sc_normal_entries.nd (pi_list (pe_callB (call_sortedDI rfl) (by rfl) T.n_sorted (by decide +kernel) (pa_cons (pv 1) pa_nil))) (blkOk_by (own := [("column", 2)]) (N := N_normal_entries) (sc := defScope s_normal_entries) (by decide +kernel)) (fun _ _ _ _ _ => pg_name (i := 2) sc_normal_entries.nd rfl (Or.inl rfl)) (fun _ _ _ _ _ => pts_one (pt_cmpR (op_neDK (K := K) rfl hr.units) (pe_dget hu1 (pv 1) (pv 2) (fun _ _ => rfl)) (pe_glob (v := .ref T.a_ZERO) (by rfl) T.m_ZERO rfl) (nomark _))) (fun _ _ _ _ _ => (pe_tupU (pa_cons (pv 2) (pa_cons (pe_dget hu1 (pv 1) (pv 2) (fun _ _ => rfl)) pa_nil))))) pa_nil)))))), ?_⟩
    refine seq_op fun N hN => ?_
    walk_at "rs"
    refine fun D hD => hN _ _ ?_
    clear hN N
    have s0 : Same H (L2.upd H D (.dK [])) := same_upd hD
    refine cut_seq (fun σ G => ∃ (x2 x3 : Option V) (kvs : List (L2.Key × V)), σ = [some (.ref a), some (.ref D), x2, x3] ∧ Same H G ∧ G D = some (.dK kvs) ∧ SumD (fun k => (Sum.inl (k.headD 0) : L2.Key)) 1 K G kvs items) (fun N hN => ?_) ?_
    · refine for_lt (K := K) (a := a) (xs := xs) (fun Q q => ⟨_, rfl, q⟩) ha (fun i σ G => ∃ (x2 x3 : Option V) (kvs : List (L2.Key × V)), σ = [some (.ref a), some (.ref D), x2, x3] ∧ Same H G ∧ G D = some (.dK kvs) ∧ SumD (fun k => (Sum.inl (k.headD 0) : L2.Key)) 1 K G kvs (items.take i)) ⟨_, _, [], rfl, s0, upd_same, ⟨?_, ?_, ?_, ?_, ?_⟩⟩ (fun i σ G ⟨_, _, _, _, s1, _⟩ => s1) ?_ ?_
      · intro k k' h1 h2 e
        match k, k', h1, h2 with
        | [x], [y], _, _ => injection e with e; rw [show x = y from e]
      · intro it hit; simp at hit
      · simp
      · intro x hx; simp at hx
      · intro it hit; simp at hit
      · rintro i x σ G hx ⟨x2, x3, kvs, rfl, s1, hG, sd⟩
        obtain ⟨p, u, ks, f, ex, ee, h1, h2⟩ := hi.get (n := i) (by rw [← lx]; exact (List.getElem?_eq_some_iff.mp hx).1)
        obtain rfl : x = .ref p := by rw [ex] at hx; exact (Option.some.inj hx).symm
        obtain ⟨lf, wf, ld, bd⟩ := fit.it _ (List.mem_of_getElem? ee)
        dsimp only at lf wf ld bd
        obtain ⟨c, rfl⟩ : ∃ c, ks = [c] := by
          match ks, ld with
          | [c], _ => exact ⟨c, rfl⟩
        refine g2_at (Same.seqT s1 h1) ?_
        walk_at "rs"
        have hl : ∀ it ∈ items.take i, low it.2 := fun it hit => (fit.it it (List.mem_of_mem_take hit)).1
        obtain ⟨la, _, wa⟩ := accF_spec hl [c]
        have wb : wt (accF (items.take i) [c]) ≤ 3900 := Nat.le_trans wa (Nat.le_trans (wtS_take items i [c]) (fit.wt [c]))
        have es : items.take (i + 1) = items.take i ++ [([c], f)] := by
          obtain ⟨hk, e⟩ := List.getElem?_eq_some_iff.mp ee
          rw [← List.take_append_getElem hk, e]
        have kl : kvs.length < sizeLine := by
          have := nodup_len sd.nd (S := items.map fun it => (Sum.inl (it.1.headD 0) : L2.Key)) fun x hx => by
            obtain ⟨it, hit, e⟩ := sd.key x hx
            exact List.mem_map.mpr ⟨it, List.mem_of_mem_take hit, e.symm⟩
          rw [List.length_map, List.length_map] at this
          exact Nat.lt_of_le_of_lt (Nat.le_trans this fit.len) (by decide)
        have fin : ∀ (v : Addr), Pr K G v (accF (items.take i) [c]).1 (accF (items.take i) [c]).2 → sp_two K (fun p q r s => p * s + r * q) (fun _ q _ s => q * s) [.ref v, .ref u] G (fun y G2 => ∃ G3, DPut G2 D (.int c) y G3 ∧ ∃ x2 x3, (some (V.int c) = x2 ∧ some (V.ref u) = x3) ∧ Same H G3 ∧ ∃ kvs, G3 D = some (.dK kvs) ∧ SumD (fun k => (Sum.inl (k.headD 0) : L2.Key)) 1 K G3 kvs (items.take (i + 1))) E0 := fun v hv => by
          refine plus_at T hv (Same.seqT s1 h2) la lf (by omega) (by omega) fun t G2 s2 t0 t1 => ?_
          have hG2 := s2 _ _ hG
          have sp := sd.put (it := ([c], f)) rfl (H' := L2.upd G2 D (.dK (putK kvs (Sum.inl c) (.ref t)))) (t := t) (fun u p q h => seqT_updO (notT_dK hG2) (Same.seqT s2 h)) (seqT_updO (notT_dK hG2) (.inl (.inl t1)))
          refine ⟨_, DPut.k (k := Sum.inl c) hG2 kl, _, _, ⟨rfl, rfl⟩, ?_, _, upd_same, ?_⟩
          · intro b o e
            have ne : b ≠ D := fun z => by rw [z, hD] at e; cases e
            rw [upd_ne ne]
            exact s2 _ _ (s1 _ _ e)
          · rw [es]
            exact sp
        refine ⟨.inl ⟨kvs, .inl hG⟩, _, DGet.k (k := Sum.inl c) hG, ?_⟩
        rcases sd.get (k := [c]) rfl with ⟨v, hv, pv⟩ | ⟨hv, ez⟩
        · rw [show valV kvs (Sum.inl c : L2.Key) = some (.ref v) from hv]
          exact fin v pv
        · rw [show valV kvs (Sum.inl c : L2.Key) = none from hv]
          have pz : Pr K G T.a_ZERO (accF (items.take i) [c]).1 (accF (items.take i) [c]).2 := by rw [ez]; exact T.s_ZERO G
          exact fin _ pz
      · rintro σ G ⟨x2, x3, kvs, rfl, s1, hG, sd⟩
        rw [lx, List.take_length] at sd
        exact hN _ _ ⟨_, _, _, rfl, s1, hG, sd⟩
    · rintro σ G ⟨x2, x3, kvs, rfl, s1, hG, sd⟩
      have hl : ∀ it ∈ items, low it.2 := fun it hit => (fit.it it hit).1
      obtain ⟨S, sS, mS⟩ := fit.few
      have ksE : ∃ ks : List Int, kvs.map (·.1) = ks.map Sum.inl := by
        have : ∀ l : List L2.Key, (∀ x ∈ l, ∃ it ∈ items, x = (Sum.inl (it.1.headD 0) : L2.Key)) → ∃ ks : List Int, l = ks.map Sum.inl := by
          intro l
          induction l with
          | nil => intro _; exact ⟨[], rfl⟩
          | cons x l ih =>
            intro h
            obtain ⟨it, _, e⟩ := h x List.mem_cons_self
            obtain ⟨ks, e2⟩ := ih fun y hy => h y (List.mem_cons_of_mem _ hy)
            exact ⟨it.1.headD 0 :: ks, by rw [List.map_cons, e, e2]⟩
        exact this _ sd.key
      obtain ⟨ks, eks⟩ := ksE
      have ndk : ks.Nodup := by
        have := sd.nd
        rw [eks] at this
        exact (List.pairwise_map.mp this).imp fun h e => h (by rw [e])
      have mk : ∀ c, c ∈ ks ↔ ∃ it ∈ items, it.1 = [c] := fun c => by
        constructor
        · intro hc
          obtain ⟨it, hit, e⟩ := sd.key (Sum.inl c) (by rw [eks]; exact List.mem_map_of_mem hc)
          have l1 := sd.len it hit
          refine ⟨it, hit, ?_⟩
          match hk : it.1, l1 with
          | [y], _ => rw [hk] at e; injection e with e; rw [show c = y from e]
        · rintro ⟨it, hit, e⟩
          obtain ⟨u, h1, _⟩ := sd.val it hit
          have := valV_mem h1
          rw [eks, e] at this
          obtain ⟨y, hy, e2⟩ := List.mem_map.mp this
          injection e2 with e2
          rw [show c = y from e2.symm]; exact hy
      have lk : ks.length < 64 := by
        have := nodup_len (l := ks.map fun c => [c]) (S := S) (List.pairwise_map.mpr (ndk.imp fun h e => h (by injection e))) fun x hx => by
          obtain ⟨c, hc, rfl⟩ := List.mem_map.mp hx
          obtain ⟨it, hit, e⟩ := (mk c).mp hc
          rw [← e]; exact mS it hit
        rw [List.length_map] at this
        omega
      walk_at "rs"
      refine ⟨_, rfl, D, rfl, kvs, .inl hG, ks, eks, lk, fun ss p pm pw p0 => ?_⟩
      have sG : Same G (L2.upd G p (.lst (ss.map V.int))) := same_upd p0
      have hp1 : (L2.upd G p (.lst (ss.map V.int))) p = some (.lst (ss.map V.int)) := upd_same
      generalize L2.upd G p (.lst (ss.map V.int)) = G1 at *
      have sd1 : SumD (fun k => (Sum.inl (k.headD 0) : L2.Key)) 1 K G1 kvs items := sd.upd fun u p q h => Same.seqT sG h
      have hG1 := sG _ _ hG
      have lss : ss.length = ks.length := pm.length_eq
      have srt : (ss.map fun c => [c]).Pairwise fun a b => cd a < cd b := by
        rw [List.pairwise_map]
        have nd := pm.nodup_iff.mpr ndk
        refine (pw.and nd).imp fun {x y} h => ?_
        have e1 : ∀ z : Int, cd [z] = z := fun z => by
          show z * 2000 ^ 0 + 0 = z
          omega
        rw [e1, e1]
        exact Int.lt_iff_le_and_ne.mpr h
      have nm := norm_of (items := items) (L := ss.map fun c => [c]) hl srt fun it hit => by
        obtain ⟨_, _, l1, _⟩ := fit.it it hit
        obtain ⟨c, ec⟩ : ∃ c, it.1 = [c] := by
          match hk : it.1, l1 with
          | [y], _ => exact ⟨y, rfl⟩
        rw [ec]
        exact List.mem_map.mpr ⟨c, pm.mem_iff.mpr ((mk c).mpr ⟨it, hit, ec⟩), rfl⟩
      refine ⟨p, rfl, ⟨_, SqL.of hp1⟩, fun M hM => lc_filtR (n := (ss.map V.int).length) walk_list (fun i H ys => Its K H ys ((((ss.take i).map fun c => [c]).filter fun k => decide (accF items k ≠ (0, 1))).map fun k => (k, accF items k))) (fun i => decide (accF items [ss.getD i 0] ≠ (0, 1))) hM (by rw [List.length_map]; omega) (fun i H H' ys s h => h.same s) (fun i H ys zs o hp h => h.updO (notT_lst hp)) (fun H => .nil) (fun H2 s2 => s2.seq (SqL.of hp1)) (fun i x H2 H3 hi s2 y => ?_) (gm_name 2) fun H2 ys s2 h2 r2 => ?_⟩
      · obtain ⟨rfl, hx⟩ := y
        rw [List.length_map] at hi
        have ei : ss[i]? = some (ss.getD i 0) := by rw [List.getD_eq_getElem?_getD, List.getElem?_eq_getElem hi]; rfl
        obtain rfl : x = .int (ss.getD i 0) := by
          have hx : (ss.map V.int)[i]? = some x := hx
          rw [List.getElem?_map, ei] at hx
          exact (Option.some.inj hx).symm
        have et : ss.take (i + 1) = ss.take i ++ [ss.getD i 0] := by
          obtain ⟨hk, e⟩ := List.getElem?_eq_some_iff.mp ei
          rw [← List.take_append_getElem hk, e]
        have hc : ss.getD i 0 ∈ ks := pm.mem_iff.mp (List.mem_of_getElem? ei)
        generalize ss.getD i 0 = c at *
        obtain ⟨it, hit, ec⟩ := (mk c).mp hc
        obtain ⟨u, hv, pu⟩ := sd1.val it hit
        rw [ec] at hv pu
        have hv : valV kvs (Sum.inl c : L2.Key) = some (.ref u) := hv
        refine ⟨Same.refl _, rfl, fun Qt hq => ?_, fun pf H4 ys h => ?_, fun pt H4 s4 Q2 hq => ?_⟩
        · walk_at "rs"
          have hd := DGet.k (k := (Sum.inl c : L2.Key)) (s2 _ _ hG1)
          rw [hv] at hd
          refine ⟨_, hd, _, _, dp_pair (Same.seqT s2 pu), dp_pair (T.s_ZERO _), rfl, rfl, _, rfl, ?_⟩
          rw [eqv_pair]
          have e : (!(decide ((accF items [c]).1 = 0) && decide ((accF items [c]).2 = 1))) = decide (accF items [c] ≠ (0, 1)) := by
            by_cases z : accF items [c] = (0, 1)
            · rw [z]; rfl
            · rw [decide_eq_true (p := accF items [c] ≠ (0, 1)) z]
              by_cases z1 : (accF items [c]).1 = 0
              · rw [decide_eq_false fun z2 => z (Prod.ext z1 z2), Bool.and_false]; rfl
              · rw [decide_eq_false z1]; rfl
          rw [e]
          exact hq _ (Same.refl _)
        · rw [et, List.map_append, List.filter_append, List.map_append]
          simp only [List.map_cons, List.map_nil, List.filter_cons, pf, List.filter_nil]
          simpa using h
        · walk_at "rs"
          have hd := DGet.k (k := (Sum.inl c : L2.Key)) (s4 _ _ (s2 _ _ hG1))
          rw [hv] at hd
          refine ⟨_, hd, by decide, fun q5 H5 s5 n5 t5 => hq _ H5 s5 fun ys h => ?_⟩
          rw [et, List.map_append, List.filter_append, List.map_append]
          refine h.app ?_
          simp only [List.map_cons, List.map_nil, List.filter_cons, pt, List.filter_nil, if_true]
          exact .cons (.inl (.inl t5)) (Same.seqT (Same.trans s2 (Same.trans s4 s5)) pu) .nil
      · rw [List.length_map, List.take_length] at r2
        refine ⟨M, rfl, ys, SqL.of h2, fun t H3 s3 t0 t1 => k t ys _ H3 (Same.trans s1 (Same.trans sG (Same.trans s2 s3))) (.inl (.inl t1)) (r2.same s3) nm ?_⟩
        rw [List.length_map]
        exact Nat.lt_of_le_of_lt (List.length_filter_le _ _) (by rw [List.length_map]; omega)
end
end LK

set_option Elab.async false
set_option linter.all false
set_option maxRecDepth 100000
namespace LK
open PySem PySem.Spec PyProof.Rows L2
local macro_rules | `(tactic| walk_at "rs") => `(tactic| simp only [tFld, sFld, tMeth, tMethZ, tMakeK, tProp, tFmt, rEqO, rNeO, cxK, cxNK, tCallZ, tAsg, tOp, rI0, rS0, rB0, rI, rU, tUn, rEq, rNe, rIxL, rIxT, rIxS, rSetL, rSlLU, rSlS, rSlU, rCatL, rCatU, rRepL, rIn, tVar, tC, gName, gSub, tIfS, tTest, tB, tAnd, tOr, tNot, tNotV, tAndV, tOrV, tIf, tCall, tCons, tNil, tCB, tDrop, tRet, tRetN, tNext, tLstU, tTupU, tM0, tM1, tPar, tPar3, tAug, ipI, tBM, tBM0, rAppend, rPop, tBreak, sDPut, tDGet, tDGet2, tCont, tChain, tSl, tPart, tNoPart, L2.start, List.map, List.length_cons, List.length_nil, List.replicate, List.cons_append, List.nil_append, List.append_nil, List.getElem?_cons_zero, List.getElem?_cons_succ, List.set_cons_zero, List.set_cons_succ, Option.some.injEq, V.int.injEq, V.ref.injEq, V.str.injEq, V.bl.injEq, exists_eq_left', exists_eq_left, exists_and_left, decide_eq_true_eq, List.cons.injEq, and_true, true_and, scal, Bool.not_eq_true', decide_eq_false_iff_not, Nat.zero_add, Nat.reduceAdd, Nat.reduceSub, reduceCtorEq, false_and, exists_false, false_or, or_false, CPow, CPowW, CMul, CDiv, Int.reduceToNat, ↓reduceIte, wipe, sw, List.nil_append, List.singleton_append])
local macro_rules | `(tactic| walk_at "st") => `(tactic| (refine seq_op fun N hN => ?_; walk_at "rs"))
local macro_rules | `(tactic| walk_at "sd") => `(tactic| first | assumption | decide | omega)
local macro_rules | `(tactic| walk_at "rd") => `(tactic| repeat (first
  | refine ⟨_, SqL.of (by assumption), ?_⟩ | refine ⟨_, SqL.of upd_same, ?_⟩ | refine ⟨_, .inl (SqL.of (by assumption)), ?_⟩ | refine ⟨_, (by assumption : _ = some (HO.lst _)), ?_⟩ | refine ⟨_, upd_same, ?_⟩
  | refine ⟨_, rfl, ?_⟩ | refine And.intro (by walk_at "sd") ?_))

theorem inl_inj : ∀ {l m : List Int}, l.map (Sum.inl : Int → L2.Key) = m.map Sum.inl → l = m
  | [], [], _ => rfl
  | [], _ :: _, e => by cases e
  | _ :: _, [], e => by cases e
  | x :: l, y :: m, e => by
    injection e with e1 e2
    injection e1 with e1
    rw [e1, inl_inj e2]
theorem kV_inl (k : List Int) : (k.map (Sum.inl : Int → L2.Key)).map kV = k.map V.int := by rw [List.map_map]; rfl
theorem cd_inj {x y x' y' : Int} (b : TS.Bd 2000 [x, y]) (b' : TS.Bd 2000 [x', y']) (e : cd [x, y] = cd [x', y']) : [x, y] = [x', y'] := by
  have e1 : ∀ a b : Int, cd [a, b] = a * 2000 + b := fun a b => by
    show a * 2000 ^ 1 + (b * 2000 ^ 0 + 0) = _
    omega
  rw [e1, e1] at e
  have h1 := b y (by simp)
  have h2 := b' y' (by simp)
  have : x = x' := by omega
  have : y = y' := by omega
  rw [‹x = x'›, ‹y = y'›]
section
variable {P : Program} {w : World} {K : PySem.W.Frag} {mg : Str → Option Value} {base : Heap}
theorem ok_normal_triples (T : Txt w K mg) : FnOk P w K mg base CX0 5 T.a_normal_triples T.d_normal_triples ["triples"] (sp_norm K 2) := by
  refine T.F_normal_triples.ok sc_normal_triples (fun vs H Q E h => ?_) (fun cdv A outer s H vs Q E hr h => ?_)
  · obtain ⟨a, xs, items, rfl, _⟩ := h
    rfl
  · obtain ⟨a, xs, items, rfl, ha, hi, fit, k⟩ := h
    have hr_plus : Room 4 _ := hr
    have G_plus := ok_plus (P := P) (base := base) T
    have hu1 : (A.deeper (envOfC "normal_triples" (defScope s_normal_triples) s.heap.objs.size T.a_normal_triples cdv)).units + 1 < cLine := Nat.lt_of_le_of_lt (Nat.add_le_add_left (by decide : 1 ≤ 64) _) hr.units
    have lx := hi.len
    refine ⟨_, (pss_cons (ps_set (i := 1) sc_normal_triples.nd rfl (Or.inr rfl) pe_dnewT)
      (pss_cons (ps_for PassesOwn.never rfl (pi_lt (pv 0)) (pg_tup rfl (pgs_cons (pg_name (i := 2) sc_normal_triples.nd rfl (Or.inl rfl)) (pgs_cons (pg_name (i := 3) sc_normal_triples.nd rfl (Or.inl rfl)) (pgs_cons (pg_name (i := 4) sc_normal_triples.nd rfl (Or.inl rfl)) pgs_nil)))) (pss_one (ps_dput hu1 (pv 1) (pe_tupU (pa_cons (pv 2) (pa_cons (pv 3) pa_nil))) (pe_call G_plus hr_plus (by rfl) T.m_plus T.F_plus.kp T.B_plus .nil pass0 (pa_cons (pe_dget2 hu1 (pv 1) (pe_tupU (pa_cons (pv 2) (pa_cons (pv 3) pa_nil))) (pe_glob (v := .ref T.a_ZERO) (by rfl) T.m_ZERO rfl) ⟨rfl, rfl, rfl, rfl⟩) (pa_cons (pv 4) pa_nil))) rfl)))
      (pss_one (ps_ret (pe_callTy call_tupleN (by rfl) T.n_tuple (by decide +kernel) (pa_cons (pe_lc (own := [("pair", 5)]) (g := gName 5) (tt := _) rfl sc_normal_triples.nd (pi_list (pe_callB (call_sortedDT rfl) (by rfl) T.n_sorted (by decide +kernel) (pa_cons (pv 1) pa_nil))) (blkOk_by (own := [("pair", 5)]) (N := N_normal_triples) (sc := defScope s_normal_triples) (by decide +kernel)) (fun _ _ _ _ _ => pg_name (i := 5) sc_normal_triples.nd rfl (Or.inl rfl)) (fun _ _ _ _ _ => pts_one (pt_cmpR (op_neDK (K := K) rfl hr.units) (pe_dget hu1 (pv 1) (pv 5) (fun _ _ => rfl)) (pe_glob (v := .ref T.a_ZERO) (by rfl) T.m_ZERO rfl) (nomark _))) (fun _ _ _ _ _ => (pe_op (op_catUK (K := K) rfl) (pv 5) (pe_tupU (pa_cons (pe_dget hu1 (pv 1) (pv 5) (fun _ _ => rfl)) pa_nil))))) pa_nil)))))), ?_⟩
    refine seq_op fun N hN => ?_
    walk_at "rs"
    refine fun D hD => hN _ _ ?_
    clear hN N
    have s0 : Same H (L2.upd H D (.dT [])) := same_upd hD
    refine cut_seq (fun σ G => ∃ (x2 x3 x4 : Option V) (kvs : List (List L2.Key × V)), σ = [some (.ref a), some (.ref D), x2, x3, x4, none] ∧ Same H G ∧ G D = some (.dT kvs) ∧ SumD (fun k => k.map (Sum.inl : Int → L2.Key)) 2 K G kvs items) (fun N hN => ?_) ?_
    · refine for_lt (K := K) (a := a) (xs := xs) (fun Q q => ⟨_, rfl, q⟩) ha (fun i σ G => ∃ (x2 x3 x4 : Option V) (kvs : List (List L2.Key × V)), σ = [some (.ref a), some (.ref D), x2, x3, x4, none] ∧ Same H G ∧ G D = some (.dT kvs) ∧ SumD (fun k => k.map (Sum.inl : Int → L2.Key)) 2 K G kvs (items.take i)) ⟨_, _, _, [], rfl, s0, upd_same, ⟨?_, ?_, ?_, ?_, ?_⟩⟩ (fun i σ G ⟨_, _, _, _, _, s1, _⟩ => s1) ?_ ?_
      · intro k k' h1 h2 e
        exact inl_inj e
      · intro it hit; simp at hit
      · simp
      · intro x hx; simp at hx
      · intro it hit; simp at hit
      · rintro i x σ G hx ⟨x2, x3, x4, kvs, rfl, s1, hG, sd⟩
        obtain ⟨p, u, ks, f, ex, ee, h1, h2⟩ := hi.get (n := i) (by rw [← lx]; exact (List.getElem?_eq_some_iff.mp hx).1)
        obtain rfl : x = .ref p := by rw [ex] at hx; exact (Option.some.inj hx).symm
        obtain ⟨lf, wf, ld, bd⟩ := fit.it _ (List.mem_of_getElem? ee)
        dsimp only at lf wf ld bd
        obtain ⟨c, d, rfl⟩ : ∃ c d, ks = [c, d] := by
          match ks, ld with
          | [c, d], _ => exact ⟨c, d, rfl⟩
        refine g3_at (Same.seqT s1 h1) ?_
        walk_at "rs"
        have hl : ∀ it ∈ items.take i, low it.2 := fun it hit => (fit.it it (List.mem_of_mem_take hit)).1
        obtain ⟨la, _, wa⟩ := accF_spec hl [c, d]
        have wb : wt (accF (items.take i) [c, d]) ≤ 3900 := Nat.le_trans wa (Nat.le_trans (wtS_take items i [c, d]) (fit.wt [c, d]))
        have es : items.take (i + 1) = items.take i ++ [([c, d], f)] := by
          obtain ⟨hk, e⟩ := List.getElem?_eq_some_iff.mp ee
          rw [← List.take_append_getElem hk, e]
        have kl : kvs.length < sizeLine := by
          have := nodup_len sd.nd (S := items.map fun it => it.1.map (Sum.inl : Int → L2.Key)) fun x hx => by
            obtain ⟨it, hit, e⟩ := sd.key x hx
            exact List.mem_map.mpr ⟨it, List.mem_of_mem_take hit, e.symm⟩
          rw [List.length_map, List.length_map] at this
          exact Nat.lt_of_le_of_lt (Nat.le_trans this fit.len) (by decide)
        refine ⟨.inr ⟨kvs, .inl hG⟩, by decide, fun p1 G1 s2 n1 t1 => ⟨_, DGet.t (k := [Sum.inl c, Sum.inl d]) (s2 _ _ hG) t1, ?_⟩⟩
        have hG1 := s2 _ _ hG
        have pz : ∃ v, (valV kvs ([Sum.inl c, Sum.inl d] : List L2.Key)).getD (V.ref T.a_ZERO) = .ref v ∧ Pr K G1 v (accF (items.take i) [c, d]).1 (accF (items.take i) [c, d]).2 := by
          rcases sd.get (k := [c, d]) rfl with ⟨v, hv, pv⟩ | ⟨hv, ez⟩
          · exact ⟨v, by rw [show valV kvs ([Sum.inl c, Sum.inl d] : List L2.Key) = some (.ref v) from hv]; rfl, Same.seqT s2 pv⟩
          · exact ⟨_, by rw [show valV kvs ([Sum.inl c, Sum.inl d] : List L2.Key) = none from hv]; rfl, by rw [ez]; exact T.s_ZERO G1⟩
        obtain ⟨v, ev, pv⟩ := pz
        rw [ev]
        refine plus_at T pv (Same.seqT (Same.trans s1 s2) h2) la lf (by omega) (by omega) fun t G2 s3 t0 t2 => ⟨by decide, fun p2 G3 s4 n2 t3 => ?_⟩
        have hG3 := s4 _ _ (s3 _ _ hG1)
        have s13 := Same.trans s2 (Same.trans s3 s4)
        have sp := sd.put (it := ([c, d], f)) rfl (H' := L2.upd G3 D (.dT (putK kvs [Sum.inl c, Sum.inl d] (.ref t)))) (t := t) (fun u p q h => seqT_updO (notT_dT hG3) (Same.seqT s13 h)) (seqT_updO (notT_dT hG3) (.inl (.inl (s4 _ _ t2))))
        refine ⟨_, DPut.t (k := [Sum.inl c, Sum.inl d]) hG3 t3 kl, _, _, _, ⟨rfl, rfl, rfl⟩, ?_, _, upd_same, ?_⟩
        · intro b o e
          have ne : b ≠ D := fun z => by rw [z, hD] at e; cases e
          rw [upd_ne ne]
          exact s13 _ _ (s1 _ _ e)
        · rw [es]
          exact sp
      · rintro σ G ⟨x2, x3, x4, kvs, rfl, s1, hG, sd⟩
        rw [lx, List.take_length] at sd
        exact hN _ _ ⟨_, _, _, _, rfl, s1, hG, sd⟩
    · rintro σ G ⟨x2, x3, x4, kvs, rfl, s1, hG, sd⟩
      have hl : ∀ it ∈ items, low it.2 := fun it hit => (fit.it it hit).1
      obtain ⟨S, sS, mS⟩ := fit.few
      have ksE : ∃ ks : List (List Int), kvs.map (·.1) = ks.map (fun k => k.map Sum.inl) ∧ ∀ k ∈ ks, ∃ it ∈ items, it.1 = k := by
        have : ∀ l : List (List L2.Key), (∀ x ∈ l, ∃ it ∈ items, x = it.1.map (Sum.inl : Int → L2.Key)) → ∃ ks : List (List Int), l = ks.map (fun k => k.map Sum.inl) ∧ ∀ k ∈ ks, ∃ it ∈ items, it.1 = k := by
          intro l
          induction l with
          | nil => intro _; exact ⟨[], rfl, fun k hk => by cases hk⟩
          | cons x l ih =>
            intro h
            obtain ⟨it, hit, e⟩ := h x List.mem_cons_self
            obtain ⟨ks, e2, e3⟩ := ih fun y hy => h y (List.mem_cons_of_mem _ hy)
            refine ⟨it.1 :: ks, by rw [List.map_cons, e, e2], fun k hk => ?_⟩
            rcases List.mem_cons.mp hk with rfl | hk
            · exact ⟨it, hit, rfl⟩
            · exact e3 k hk
        exact this _ sd.key
      obtain ⟨ks, eks, mk1⟩ := ksE
      have ndk : ks.Nodup := by
        have := sd.nd
        rw [eks] at this
        exact (List.pairwise_map.mp this).imp fun h e => h (by rw [e])
      have mk : ∀ c, c ∈ ks ↔ ∃ it ∈ items, it.1 = c := fun c => by
        refine ⟨mk1 c, ?_⟩
        rintro ⟨it, hit, rfl⟩
        obtain ⟨u, h1, _⟩ := sd.val it hit
        have := valV_mem h1
        rw [eks] at this
        obtain ⟨y, hy, e2⟩ := List.mem_map.mp this
        rw [← inl_inj e2]; exact hy
      have lk : ks.length < 64 := by
        have := nodup_len (S := S) ndk fun x hx => by
          obtain ⟨it, hit, e⟩ := (mk x).mp hx
          rw [← e]; exact mS it hit
        omega
      have kb : ∀ k ∈ ks, k.length = 2 ∧ TS.Bd 2000 k := fun k hk => by
        obtain ⟨it, hit, e⟩ := (mk k).mp hk
        obtain ⟨_, _, l1, l2⟩ := fit.it it hit
        rw [← e]; exact ⟨l1, l2⟩
      walk_at "rs"
      refine ⟨_, rfl, D, rfl, kvs, .inl hG, ks, eks, lk, 2, by decide, 2000, kb, fun ss p pm hs pw p0 => ?_⟩
      have sG : Same G (L2.upd G p (.lst (ss.map fun q => V.ref q.1))) := same_upd p0
      have hp1 : (L2.upd G p (.lst (ss.map fun q => V.ref q.1))) p = some (.lst (ss.map fun q => V.ref q.1)) := upd_same
      generalize L2.upd G p (.lst (ss.map fun q => V.ref q.1)) = G1 at *
      have sd1 : SumD (fun k => k.map (Sum.inl : Int → L2.Key)) 2 K G1 kvs items := sd.upd fun u p q h => Same.seqT sG h
      have hG1 := sG _ _ hG
      have lss : ss.length = ks.length := by rw [← pm.length_eq, List.length_map]
      have srt : (ss.map (·.2)).Pairwise fun a b => cd a < cd b := by
        have nd := pm.nodup_iff.mpr ndk
        have pw2 : (ss.map (·.2)).Pairwise fun a b => cd a ≤ cd b := List.pairwise_map.mpr pw
        refine (pw2.and nd).imp_of_mem fun {x y} hx hy h => ?_
        refine Int.lt_iff_le_and_ne.mpr ⟨h.1, fun e => h.2 ?_⟩
        obtain ⟨l1, b1⟩ := kb x (pm.mem_iff.mp hx)
        obtain ⟨l2, b2⟩ := kb y (pm.mem_iff.mp hy)
        match x, y, l1, l2, b1, b2, e with
        | [_, _], [_, _], _, _, b1, b2, e => exact cd_inj b1 b2 e
      have nm := norm_of (items := items) (L := ss.map (·.2)) hl srt fun it hit => pm.mem_iff.mpr ((mk it.1).mpr ⟨it, hit, rfl⟩)
      refine ⟨p, rfl, ⟨_, SqL.of hp1⟩, fun M hM => lc_filtR (n := (ss.map fun q => V.ref q.1).length) walk_list (fun i H ys => Its K H ys ((((ss.map fun q : Addr × List Int => q.2).take i).filter fun k => decide (accF items k ≠ (0, 1))).map fun k => (k, accF items k))) (fun i => decide (accF items ((ss.map fun q : Addr × List Int => q.2).getD i []) ≠ (0, 1))) hM (by rw [List.length_map]; omega) (fun i H H' ys s h => h.same s) (fun i H ys zs o hp h => h.updO (notT_lst hp)) (fun H => .nil) (fun H2 s2 => s2.seq (SqL.of hp1)) (fun i x H2 H3 hi s2 y => ?_) (gm_name 5) fun H2 ys s2 h2 r2 => ?_⟩
      · obtain ⟨rfl, hx⟩ := y
        rw [List.length_map] at hi
        have eq : ss[i]? = some ss[i] := List.getElem?_eq_getElem hi
        have ei : (ss.map (·.2))[i]? = some ss[i].2 := by rw [List.getElem?_map, eq]; rfl
        obtain rfl : x = .ref ss[i].1 := by
          have hx : (ss.map fun q => V.ref q.1)[i]? = some x := hx
          rw [List.getElem?_map, eq] at hx
          exact (Option.some.inj hx).symm
        have et : (ss.map (·.2)).take (i + 1) = (ss.map (·.2)).take i ++ [ss[i].2] := by
          obtain ⟨hk, e⟩ := List.getElem?_eq_some_iff.mp ei
          rw [← List.take_append_getElem hk, e]
        have eg : (ss.map (·.2)).getD i [] = ss[i].2 := by rw [List.getD_eq_getElem?_getD, ei]; rfl
        rw [eg]
        have hc : ss[i].2 ∈ ks := pm.mem_iff.mp (List.mem_of_getElem? ei)
        have hq1 := hs ss[i] (List.getElem_mem hi)
        generalize ss[i] = q at *
        obtain ⟨qa, c⟩ := q
        dsimp only at *
        obtain ⟨it, hit, ec⟩ := (mk c).mp hc
        obtain ⟨u, hv, pu⟩ := sd1.val it hit
        rw [ec] at hv pu
        have hv : valV kvs (c.map (Sum.inl : Int → L2.Key)) = some (.ref u) := hv
        have hqk : G1 qa = some (.tup ((c.map (Sum.inl : Int → L2.Key)).map kV)) := by rw [kV_inl]; exact sG _ _ hq1
        refine ⟨Same.refl _, rfl, fun Qt hq => ?_, fun pf H4 ys h => ?_, fun pt H4 s4 Q2 hq => ?_⟩
        · walk_at "rs"
          have hd := DGet.t (k := c.map (Sum.inl : Int → L2.Key)) (s2 _ _ hG1) (s2 _ _ hqk)
          rw [hv] at hd
          refine ⟨_, hd, _, _, dp_pair (Same.seqT s2 pu), dp_pair (T.s_ZERO _), rfl, rfl, _, rfl, ?_⟩
          rw [eqv_pair]
          have e : (!(decide ((accF items c).1 = 0) && decide ((accF items c).2 = 1))) = decide (accF items c ≠ (0, 1)) := by
            by_cases z : accF items c = (0, 1)
            · rw [z]; rfl
            · rw [decide_eq_true (p := accF items c ≠ (0, 1)) z]
              by_cases z1 : (accF items c).1 = 0
              · rw [decide_eq_false fun z2 => z (Prod.ext z1 z2), Bool.and_false]; rfl
              · rw [decide_eq_false z1]; rfl
          rw [e]
          exact hq _ (Same.refl _)
        · rw [et, List.filter_append, List.map_append]
          simp only [List.map_nil, List.filter_cons, pf, List.filter_nil]
          simpa using h
        · walk_at "rs"
          have s24 := Same.trans s2 s4
          have hd := DGet.t (k := c.map (Sum.inl : Int → L2.Key)) (s24 _ _ hG1) (s24 _ _ hqk)
          rw [hv] at hd
          refine ⟨_, hd, by decide, fun q5 H5 s5 n5 t5 => ⟨_, .inl (.inl (s5 _ _ (s24 _ _ (sG _ _ hq1)))), _, .inl (.inl t5), ?_, fun q6 H6 s6 hq6 => hq _ H6 (Same.trans s5 s6) fun ys h => ?_⟩⟩
          · rw [List.length_map, (kb c hc).1]
            exact (show 2 + 1 ≤ sizeLine by decide)
          · rw [et, List.filter_append, List.map_append]
            refine h.app ?_
            simp only [List.map_cons, List.map_nil, List.filter_cons, pt, List.filter_nil, if_true]
            exact .cons hq6 (Same.seqT (Same.trans s24 (Same.trans s5 s6)) pu) .nil
      · rw [List.length_map, show ss.length = (ss.map (·.2)).length from (List.length_map ..).symm, List.take_length] at r2
        refine ⟨M, rfl, ys, SqL.of h2, fun t H3 s3 t0 t1 => k t ys _ H3 (Same.trans s1 (Same.trans sG (Same.trans s2 s3))) (.inl (.inl t1)) (r2.same s3) nm ?_⟩
        rw [List.length_map]
        exact Nat.lt_of_le_of_lt (List.length_filter_le _ _) (by rw [List.length_map]; omega)
end
end LK

set_option Elab.async false
set_option linter.all false
set_option maxRecDepth 100000
namespace LK
open PySem PySem.Spec PyProof.Rows L2
local macro_rules | `(tactic| walk_at "rs") => `(tactic| simp only [tFld, sFld, tMeth, tMethZ, tMakeK, tProp, tFmt, rEqO, rNeO, cxK, cxNK, tCallZ, tAsg, tOp, rI0, rS0, rB0, rI, rU, tUn, rEq, rNe, rIxL, rIxT, rIxS, rSetL, rSlLU, rSlS, rSlU, rCatL, rCatU, rRepL, rIn, tVar, tC, gName, gSub, tIfS, tTest, tB, tAnd, tOr, tNot, tNotV, tAndV, tOrV, tIf, tCall, tCons, tNil, tCB, tDrop, tRet, tRetN, tNext, tLstU, tTupU, tM0, tM1, tPar, tPar3, tAug, ipI, tBM, tBM0, rAppend, rPop, tBreak, sDPut, tDGet, tDGet2, tCont, tChain, tSl, tPart, tNoPart, L2.start, List.map, List.length_cons, List.length_nil, List.replicate, List.cons_append, List.nil_append, List.append_nil, List.getElem?_cons_zero, List.getElem?_cons_succ, List.set_cons_zero, List.set_cons_succ, Option.some.injEq, V.int.injEq, V.ref.injEq, V.str.injEq, V.bl.injEq, exists_eq_left', exists_eq_left, exists_and_left, decide_eq_true_eq, List.cons.injEq, and_true, true_and, scal, Bool.not_eq_true', decide_eq_false_iff_not, Nat.zero_add, Nat.reduceAdd, Nat.reduceSub, reduceCtorEq, false_and, exists_false, false_or, or_false, CPow, CPowW, CMul, CDiv, Int.reduceToNat, ↓reduceIte, wipe, sw, List.nil_append, List.singleton_append])
local macro_rules | `(tactic| walk_at "st") => `(tactic| (refine seq_op fun N hN => ?_; walk_at "rs"))
local macro_rules | `(tactic| walk_at "sd") => `(tactic| first | assumption | decide | omega)
local macro_rules | `(tactic| walk_at "rd") => `(tactic| repeat (first
  | refine ⟨_, SqL.of (by assumption), ?_⟩ | refine ⟨_, SqL.of upd_same, ?_⟩ | refine ⟨_, .inl (SqL.of (by assumption)), ?_⟩ | refine ⟨_, (by assumption : _ = some (HO.lst _)), ?_⟩ | refine ⟨_, upd_same, ?_⟩
  | refine ⟨_, rfl, ?_⟩ | refine And.intro (by walk_at "sd") ?_))

/-- a list that is not of the bag's form stays over draws -/
theorem seqL_kp {K : PySem.W.Frag} {N : Nat} {H H' : Hp} {b c q : Addr} {xs : List V} (B : Bag N H b c) (k : Kp b H H') (n : ∀ (p : Addr) (i : Int) (ys : List V), xs ≠ .ref p :: .int i :: ys) (h : SqL K H q xs) : SqL K H' q xs := by
  obtain ⟨cells, i, g, m, d, hb1, _⟩ := B
  rcases h with (h | ⟨u, h⟩) | h
  · have ne : q ≠ b := fun e => by
      rw [e, hb1] at h
      cases h
      exact n _ _ _ rfl
    exact .inl (.inl (k.hd h ne))
  · have ne : q ≠ b := fun e => by rw [e, hb1] at h; cases h
    exact .inl (.inr ⟨u, k.hd h ne⟩)
  · exact .inr h
theorem Its.refs {K : PySem.W.Frag} {H : Hp} : ∀ {xs : List V} {its : List It}, Its K H xs its → ∀ v ∈ xs, ∃ a, v = .ref a
  | _, _, .nil => fun v hv => absurd hv (by simp)
  | _, _, .cons _ _ q => fun v hv => by
    rcases List.mem_cons.mp hv with rfl | hv
    · exact ⟨_, rfl⟩
    · exact q.refs v hv
theorem Its.noBag {K : PySem.W.Frag} {H : Hp} {xs : List V} {its : List It} (h : Its K H xs its) (p : Addr) (i : Int) (ys : List V) : xs ≠ .ref p :: .int i :: ys := fun e => by
  obtain ⟨a, ha⟩ := h.refs (.int i) (by rw [e]; simp)
  cases ha
def SeqI (K : PySem.W.Frag) (H : Hp) (a : Addr) (xs : List V) : Prop := SqL K H a xs ∨ SqT K H a xs
theorem SeqI.same {K : PySem.W.Frag} {H H' : Hp} {a : Addr} {xs : List V} (s : Same H H') (h : SeqI K H a xs) : SeqI K H' a xs := h.imp s.seq (Same.seqT s)
theorem SeqI.kp {K : PySem.W.Frag} {N : Nat} {H H' : Hp} {b c a : Addr} {xs : List V} {its : List It} (B : Bag N H b c) (k : Kp b H H') (i : Its K H xs its) (h : SeqI K H a xs) : SeqI K H' a xs := h.imp (seqL_kp B k i.noBag) (seqT_kp B k)
end LK

set_option Elab.async false
set_option linter.all false
set_option maxRecDepth 100000
namespace LK
open PySem PySem.Spec PyProof.Rows L2
local macro_rules | `(tactic| walk_at "rs") => `(tactic| simp only [tFld, sFld, tMeth, tMethZ, tMakeK, tProp, tFmt, rEqO, rNeO, cxK, cxNK, tCallZ, tAsg, tOp, rI0, rS0, rB0, rI, rU, tUn, rEq, rNe, rIxL, rIxT, rIxS, rSetL, rSlLU, rSlS, rSlU, rCatL, rCatU, rRepL, rIn, tVar, tC, gName, gSub, tIfS, tTest, tB, tAnd, tOr, tNot, tNotV, tAndV, tOrV, tIf, tCall, tCons, tNil, tCB, tDrop, tRet, tRetN, tNext, tLstU, tTupU, tM0, tM1, tPar, tPar3, tAug, ipI, tBM, tBM0, rAppend, rPop, tBreak, sDPut, tDGet, tDGet2, tCont, tChain, tSl, tPart, tNoPart, L2.start, List.map, List.length_cons, List.length_nil, List.replicate, List.cons_append, List.nil_append, List.append_nil, List.getElem?_cons_zero, List.getElem?_cons_succ, List.set_cons_zero, List.set_cons_succ, Option.some.injEq, V.int.injEq, V.ref.injEq, V.str.injEq, V.bl.injEq, exists_eq_left', exists_eq_left, exists_and_left, decide_eq_true_eq, List.cons.injEq, and_true, true_and, scal, Bool.not_eq_true', decide_eq_false_iff_not, Nat.zero_add, Nat.reduceAdd, Nat.reduceSub, reduceCtorEq, false_and, exists_false, false_or, or_false, CPow, CPowW, CMul, CDiv, Int.reduceToNat, ↓reduceIte, wipe, sw, List.nil_append, List.singleton_append])
local macro_rules | `(tactic| walk_at "st") => `(tactic| (refine seq_op fun N hN => ?_; walk_at "rs"))
local macro_rules | `(tactic| walk_at "sd") => `(tactic| first | assumption | decide | omega)
local macro_rules | `(tactic| walk_at "rd") => `(tactic| repeat (first
  | refine ⟨_, SqL.of (by assumption), ?_⟩ | refine ⟨_, SqL.of upd_same, ?_⟩ | refine ⟨_, .inl (SqL.of (by assumption)), ?_⟩ | refine ⟨_, (by assumption : _ = some (HO.lst _)), ?_⟩ | refine ⟨_, upd_same, ?_⟩
  | refine ⟨_, rfl, ?_⟩ | refine And.intro (by walk_at "sd") ?_))

theorem Kp.get {b p : Addr} {H H' : Hp} {o : HO} (k : Kp b H H') (n : p ≠ b) (h : H p = some o) : H' p = some o := k.hd h n
theorem Kp.upd2 {b p : Addr} {H H' : Hp} {o : HO} (k : Kp b H H') (h : H p = none) : Kp b H (L2.upd H' p o) := fun a u e => by
  obtain ⟨n1, e1⟩ := hb_some e
  have n : a ≠ p := fun z => by rw [z, h] at e1; cases e1
  rw [hb_ne n1, upd_ne n]
  have := k a u e
  rw [hb_ne n1] at this
  exact this
theorem ints_all {w : Int} : ∀ {ys : List V}, (∀ v ∈ ys, ∃ j : Int, v = .int j ∧ 0 ≤ j ∧ j < w) → ∃ k : List Int, ys = k.map V.int ∧ TS.Bd w k
  | [], _ => ⟨[], rfl, fun m hm => by cases hm⟩
  | v :: ys, h => by
    obtain ⟨j, rfl, j0, j1⟩ := h v List.mem_cons_self
    obtain ⟨k, rfl, hk⟩ := ints_all (ys := ys) fun u hu => h u (List.mem_cons_of_mem _ hu)
    refine ⟨j :: k, rfl, fun m hm => ?_⟩
    rcases List.mem_cons.mp hm with rfl | hm
    · exact ⟨j0, j1⟩
    · exact hk m hm
/-- items that are drawn -/
structure IG (d : Nat) (w : Int) (items : List It) : Prop where
  it : ∀ x ∈ items, okB 1000000000000000000 1000000000000000000 x.2 ∧ x.1.length = d ∧ TS.Bd w x.1
theorem IG.nil {d : Nat} {w : Int} : IG d w [] := ⟨fun x hx => by cases hx⟩
theorem IG.app {d : Nat} {w : Int} {a b : List It} (h : IG d w a) (g : IG d w b) : IG d w (a ++ b) := ⟨fun x hx => (List.mem_append.mp hx).elim (h.it x) (g.it x)⟩
theorem IG.one {d : Nat} {w : Int} {k : List Int} {f : Fr} (l : k.length = d) (b : TS.Bd w k) (o : okB 1000000000000000000 1000000000000000000 f) : IG d w [(k, f)] := ⟨fun x hx => by
  obtain rfl := List.mem_singleton.mp hx
  exact ⟨o, l, b⟩⟩
/-- few spots -/
def Few (n : Nat) (items : List It) : Prop := ∃ S : List (List Int), S.length ≤ n ∧ ∀ x ∈ items, x.1 ∈ S
theorem Few.nil : Few 0 [] := ⟨[], Nat.le_refl _, fun x hx => by cases hx⟩
theorem Few.le {n m : Nat} {a : List It} (h : Few n a) (l : n ≤ m) : Few m a := let ⟨S, h1, h2⟩ := h; ⟨S, Nat.le_trans h1 l, h2⟩
theorem Few.app {n m : Nat} {a b : List It} (h : Few n a) (g : Few m b) : Few (n + m) (a ++ b) := by
  obtain ⟨S, h1, h2⟩ := h
  obtain ⟨T, g1, g2⟩ := g
  refine ⟨S ++ T, by rw [List.length_append]; omega, fun x hx => ?_⟩
  rcases List.mem_append.mp hx with hx | hx
  · exact List.mem_append_left _ (h2 x hx)
  · exact List.mem_append_right _ (g2 x hx)
/-- one spot more, whatever stands there -/
theorem Few.spot {n : Nat} {a b : List It} {k : List Int} (h : Few n a) (e : ∀ x ∈ b, x ∈ a ∨ x.1 = k) : Few (n + 1) b := by
  obtain ⟨S, h1, h2⟩ := h
  refine ⟨k :: S, by rw [List.length_cons]; omega, fun x hx => ?_⟩
  rcases e x hx with hx | hx
  · exact List.mem_cons_of_mem _ (h2 x hx)
  · rw [hx]; exact List.mem_cons_self
section
variable {P : Program} {w : World} {K : PySem.W.Frag} {mg : Str → Option Value} {base : Heap}
def sp_items (K : PySem.W.Frag) : Sp := fun vs H Q _ => ∃ (b c : Addr) (N d m : Nat) (wd : Int), vs = [.ref b, .int (d : Int), .int wd, .int (m : Int)] ∧ Bag (N + 1 + m * 17) H b c ∧ 1 ≤ d ∧ d ≤ 2 ∧ 0 < wd ∧ wd ≤ 2000 ∧ m ≤ 9 ∧
  ∀ (p : Addr) (xs : List V) (items : List It) H', Bag N H' b c → Kp b H H' → H p = none → H' p = some (.lst xs) → Its K H' xs items → IG d wd items → items.length ≤ 2 * m → Few m items → Q (.ref p) H'
theorem ok__law_items (T : Txt w K mg) : FnOk P w K mg base CX0 4 T.a__law_items T.d__law_items ["bag", "many", "width_z", "most"] (sp_items K) := by
  refine T.F__law_items.ok sc__law_items (fun vs H Q E h => ?_) (fun cdv A outer s H vs Q E hr h => ?_)
  · obtain ⟨b, c, N, d, m, wd, rfl, _⟩ := h
    rfl
  · obtain ⟨b, c, N0, d, m, wd, rfl, B, d1, d2, w0, w1, m9, k⟩ := h
    have hr__law_draw : Room 1 _ := hr.mono (by decide)
    have G__law_draw := ok__law_draw (P := P) (base := base) T
    have hr__law_factor : Room 3 _ := hr
    have G__law_factor := ok__law_factor (P := P) (base := base) T
    refine ⟨_, (pss_cons (ps_set (i := 4) sc__law_items.nd rfl (Or.inl rfl) (pe_lstU pa_nil))
      (pss_cons (ps_for PassesOwn.never rfl (pi_range1 (by rfl) T.n_range (pa_cons (pe_call G__law_draw hr__law_draw (by rfl) T.m__law_draw T.F__law_draw.kp T.B__law_draw .nil pass0 (pa_cons (pv 0) (pa_cons (pe_op op_add (pv 3) pe_int) pa_nil))) pa_nil)) (pg_name (i := 5) sc__law_items.nd rfl (Or.inl rfl)) (pss_cons (ps_set (i := 6) sc__law_items.nd rfl (Or.inl rfl) (pe_callTy call_tupleN (by rfl) T.n_tuple (by decide +kernel) (pa_cons (pe_lc (own := [("j", 9)]) (g := gName 9) (tt := tYes) rfl sc__law_items.nd (pi_range1 (by rfl) T.n_range (pa_cons (pv 1) pa_nil)) (blkOk_by (own := [("j", 9)]) (N := N__law_items) (sc := defScope s__law_items) (by decide +kernel)) (fun _ _ _ _ _ => pg_name (i := 9) sc__law_items.nd rfl (Or.inl rfl)) (fun _ _ _ _ _ => pts_nil) (fun _ _ _ _ _ => (pe_call G__law_draw hr__law_draw (by rfl) T.m__law_draw T.F__law_draw.kp T.B__law_draw .nil pass0 (pa_cons (pv 0) (pa_cons (pv 2) pa_nil))))) pa_nil)))
      (pss_cons (ps_set (i := 7) sc__law_items.nd rfl (Or.inl rfl) (pe_call G__law_factor hr__law_factor (by rfl) T.m__law_factor T.F__law_factor.kp T.B__law_factor .nil pass0 (pa_cons (pv 0) pa_nil)))
      (pss_cons (ps_expr (pe_bm PySem.F.plainAttrs_list PySem.F.slot_list_append PySem.F.type_list_append mt_append (pv 4) (pa_cons (pe_op op_catU (pv 6) (pe_tupU (pa_cons (pv 7) pa_nil))) pa_nil)))
      (pss_cons (ps_set (i := 8) sc__law_items.nd rfl (Or.inl rfl) (pe_call G__law_draw hr__law_draw (by rfl) T.m__law_draw T.F__law_draw.kp T.B__law_draw .nil pass0 (pa_cons (pv 0) (pa_cons pe_int pa_nil))))
      (pss_one (ps_if (pt_cmpR op_eqI (pv 8) pe_int (nomark _)) (pss_one (ps_expr (pe_bm PySem.F.plainAttrs_list PySem.F.slot_list_append PySem.F.type_list_append mt_append (pv 4) (pa_cons (pe_op op_catU (pv 6) (pe_tupU (pa_cons (pe_tupU (pa_cons (pe_un un_neg (pe_ix ix_tup (pv 7) pe_int (fun _ _ => rfl))) (pa_cons (pe_ix ix_tup (pv 7) pe_int (fun _ _ => rfl)) pa_nil))) pa_nil))) pa_nil)))) (pss_one (ps_if (pt_cmpR op_eqI (pv 8) pe_int (nomark _)) (pss_one (ps_expr (pe_bm PySem.F.plainAttrs_list PySem.F.slot_list_insert PySem.F.type_list_insert mt_insert (pv 4) (pa_cons pe_int (pa_cons (pe_op op_catU (pv 6) (pe_tupU (pa_cons (pe_call G__law_factor hr__law_factor (by rfl) T.m__law_factor T.F__law_factor.kp T.B__law_factor .nil pass0 (pa_cons (pv 0) pa_nil)) pa_nil))) pa_nil))))) pss_nil)))))))))
      (pss_one (ps_ret (pv 4))))), ?_⟩
    refine seq_op fun N hN => ?_
    walk_at "rs"
    refine ⟨by decide, fun p H1 s1 p0 p1 => hN _ _ ?_⟩
    clear hN N
    have B1 := B.same s1
    have pb := new_ne B p0
    have pc : c ≠ p := fun e => by
      obtain ⟨xc, ec⟩ := B.at2
      rw [← e, ec] at p0; cases p0
    refine cut_seq (fun σ H2 => ∃ (x5 x6 x7 x8 : Option V) (xs : List V) (items : List It), σ = [some (.ref b), some (.int (d : Int)), some (.int wd), some (.int (m : Int)), some (.ref p), x5, x6, x7, x8, none] ∧ Bag N0 H2 b c ∧ Kp b H H2 ∧ H2 p = some (.lst xs) ∧ Its K H2 xs items ∧ IG d wd items ∧ items.length ≤ 2 * m ∧ Few m items) (fun N hN => ?_) ?_
    · walk_at "rs"
      refine ⟨_, rfl, _, rfl, (m : Int), 1, rfl, rfl, b, c, (m : Int) + 1, N0 + m * 17, rfl, B1.le (by omega), by omega, by omega, fun r H2 r0 r1 B2 K2 => ⟨r, rfl, by omega, by omega, for_range (lo := 0) (n := r.toNat) (fun i σ H3 => ∃ (x5 x6 x7 x8 : Option V) (xs : List V) (items : List It), σ = [some (.ref b), some (.int (d : Int)), some (.int wd), some (.int (m : Int)), some (.ref p), x5, x6, x7, x8, none] ∧ Bag (N0 + (m - i) * 17) H3 b c ∧ Kp b H H3 ∧ H3 p = some (.lst xs) ∧ Its K H3 xs items ∧ IG d wd items ∧ items.length ≤ 2 * i ∧ Few i items) ⟨_, _, _, _, [], [], rfl, B2.le (by omega), Same.trans (Kp.of s1) K2, Kp.get K2 pb p1, .nil, .nil, Nat.le_refl _, .nil⟩ ?_ ?_⟩⟩
      · rintro i σ H3 hi ⟨x5, x6, x7, x8, xs, items, rfl, B3, K3, h3, he, ig, il, fw⟩
        have e17 : (m - i) * 17 = (m - (i + 1)) * 17 + 17 := by omega
        rw [e17] at B3
        refine seq_op fun N hN => ?_
        walk_at "rs"
        have B3' : Bag ((N0 + (m - (i + 1)) * 17 + 15) + (d : Int).toNat * 1) H3 b c := B3.le (by omega)
        refine ⟨_, rfl, (d : Int), rfl, by omega, by omega, fun D hD => lc_draw (n := (d : Int).toNat) walk_range (fun _ v => ∃ j : Int, v = V.int j ∧ 0 ≤ j ∧ j < wd) (fun _ _ _ _ h => h) hD B3' (by omega) (fun _ _ _ _ y => y.1) (fun _ _ => trivial) (fun x H4 M K4 B4 Q2 hq => ?_) fun H4 ys B4 K4 hD4 hl4 hy4 => ?_⟩
        · exact ⟨_, rfl, _, rfl, b, c, wd, M, rfl, B4, w0, by omega, fun r1 H5 r10 r11 B5 K5 => hq _ _ B5 K5 ⟨r1, rfl, r10, r11⟩⟩
        · obtain ⟨ks, rfl, bk⟩ := ints_all hy4
          rw [List.length_map, Int.toNat_natCast] at hl4
          refine ⟨D, rfl, _, SqL.of hD4, fun q5 H5 s5 q50 q51 => hN _ _ ?_⟩
          clear hN N
          refine seq_op fun N hN => ?_
          walk_at "rs"
          refine ⟨b, c, N0 + (m - (i + 1)) * 17 + 8, rfl, B4.same s5, fun tf f H6 okf t0 t1 B6 K6 => hN _ _ ?_⟩
          clear hN N
          have B5 := B4.same s5
          have K36 : Kp b H3 H6 := Same.trans K4 (Same.trans (Kp.of s5) K6)
          have h36 := Kp.get K36 pb h3
          have hq6 : SqT K H6 q5 (ks.map V.int) := seqT_kp B5 K6 (.inl (.inl q51))
          have he6 := he.kp B3 K36
          have lx := he.len
          refine seq_op fun N hN => ?_
          walk_at "rs"
          have lks : (ks.map V.int).length + 1 ≤ 10 := by rw [List.length_map]; omega
          refine ⟨.inl ⟨rfl, _, SqL.of h36⟩, by decide, fun p7 H7 s7 n7 t7 => ⟨_, Same.seqT s7 hq6, _, .inl (.inl t7), Nat.le_trans lks (by decide), fun q8 H8 s8 hq8 => ⟨xs, s8 _ _ (s7 _ _ h36), Nat.lt_of_le_of_lt (show xs.length ≤ 1000 by omega) (by decide), hN _ _ ?_⟩⟩⟩
          clear hN N
          have s78 := Same.trans s7 s8
          have h8 := s78 _ _ h36
          have nt := notT_lst h8
          have B9 := (B6.same s78).upd (o := .lst (xs ++ [.ref q8])) (Ne.symm pb) pc
          have K9 : Kp b H (L2.upd H8 p (.lst (xs ++ [.ref q8]))) := Kp.upd2 (Same.trans K3 (Same.trans K36 (Kp.of s78))) p0
          have h9 : (L2.upd H8 p (.lst (xs ++ [.ref q8]))) p = some (.lst (xs ++ [.ref q8])) := upd_same
          have he9 : Its K (L2.upd H8 p (.lst (xs ++ [.ref q8]))) (xs ++ [.ref q8]) (items ++ [(ks, f)]) := ((he6.same s78).updO nt).app (.cons (seqT_updO nt hq8) (seqT_updO nt (.inl (.inl (s78 _ _ t1)))) .nil)
          have hq9 : SqT K (L2.upd H8 p (.lst (xs ++ [.ref q8]))) q5 (ks.map V.int) := seqT_updO nt (Same.seqT s78 hq6)
          have tf9 : Pr K (L2.upd H8 p (.lst (xs ++ [.ref q8]))) tf f.1 f.2 := seqT_updO nt (.inl (.inl (s78 _ _ t1)))
          generalize L2.upd H8 p (.lst (xs ++ [.ref q8])) = H9 at *
          have ig9 := ig.app (IG.one hl4 bk okf)
          have fw9 : Few (i + 1) (items ++ [(ks, f)]) := fw.spot (k := ks) fun x hx => by
            rcases List.mem_append.mp hx with hx | hx
            · exact .inl hx
            · exact .inr (by rw [List.mem_singleton.mp hx])
          refine seq_op fun N hN => ?_
          walk_at "rs"
          refine ⟨b, c, 8, N0 + (m - (i + 1)) * 17 + 7, rfl, B9, by decide, by decide, fun r2 H10 _ _ B10 K10 => hN _ _ ?_⟩
          clear hN N
          have h10 := Kp.get K10 pb h9
          have he10 := he9.kp B9 K10
          have hq10 := seqT_kp B9 K10 hq9
          have tf10 : Pr K H10 tf f.1 f.2 := seqT_kp B9 K10 tf9
          have K10' := Same.trans K9 K10
          walk_at "rs"
          refine ite2 (fun _ => ?_) (fun _ => ite2 (fun _ => ?_) (fun _ => ?_))
          · have of' : okB 1000000000000000000 1000000000000000000 ((-f.1, f.2) : Fr) := ⟨okf.1, by rw [Int.natAbs_neg]; exact okf.2.1, by rw [Int.natAbs_neg]; exact okf.2.2.1, okf.2.2.2⟩
            refine ⟨.inl ⟨rfl, _, SqL.of h10⟩, _, tf10, _, rfl, _, rfl, _, tf10, _, rfl, by decide, fun p1 J1 u1 n1 t1 => ⟨by decide, fun p2 J2 u2 n2 t2 => ⟨_, Same.seqT (Same.trans u1 u2) hq10, _, .inl (.inl t2), Nat.le_trans lks (by decide), fun q3 J3 u3 hq3 => ?_⟩⟩⟩
            have v3 := Same.trans u1 (Same.trans u2 u3)
            have j3 := v3 _ _ h10
            have nt3 := notT_lst j3
            refine ⟨_, j3, Nat.lt_of_le_of_lt (show _ ≤ 1000 by rw [List.length_append]; simp only [List.length_cons, List.length_nil]; omega) (by decide), _, _, _, _, ⟨rfl, rfl, rfl, rfl⟩, ((B10.same v3).le (by omega)).upd (Ne.symm pb) pc, Kp.upd2 (Same.trans K10' (Kp.of v3)) p0, _, upd_same, items ++ [(ks, f)] ++ [(ks, (-f.1, f.2))], ((he10.same v3).updO nt3).app (.cons (seqT_updO nt3 hq3) (seqT_updO nt3 (.inl (.inl (Same.trans u2 u3 _ _ t1)))) .nil), ig9.app (IG.one hl4 bk of'), by simp only [List.length_append, List.length_cons, List.length_nil]; omega, fw.spot (k := ks) fun x hx => ?_⟩
            simp only [List.mem_append, List.mem_cons, List.not_mem_nil, or_false] at hx
            rcases hx with (hx | rfl) | rfl
            · exact .inl hx
            · exact .inr rfl
            · exact .inr rfl
          · refine ⟨.inl ⟨rfl, _, SqL.of h10⟩, b, c, N0 + (m - (i + 1)) * 17, rfl, B10.le (by omega), fun t2 f2 G okf2 t20 t21 BG KG => ⟨by decide, fun p2 J2 u2 n2 v2 => ⟨_, Same.seqT u2 (seqT_kp B10 KG hq10), _, .inl (.inl v2), Nat.le_trans lks (by decide), fun q3 J3 u3 hq3 => ?_⟩⟩⟩
            have v3 := Same.trans u2 u3
            have j3 := v3 _ _ (Kp.get KG pb h10)
            have nt3 := notT_lst j3
            refine ⟨_, _, _, ⟨rfl, rfl⟩, j3, Nat.lt_of_le_of_lt (show _ ≤ 1000 by rw [List.length_append]; simp only [List.length_cons, List.length_nil]; omega) (by decide), by decide, by decide, _, _, _, _, ⟨rfl, rfl, rfl, rfl⟩, (BG.same v3).upd (Ne.symm pb) pc, Kp.upd2 (Same.trans K10' (Same.trans KG (Kp.of v3))) p0, _, upd_same, (ks, f2) :: (items ++ [(ks, f)]), ?_, ?_, by simp only [List.length_append, List.length_cons, List.length_nil]; omega, fw.spot (k := ks) fun x hx => ?_⟩
            · show Its K _ (.ref q3 :: (xs ++ [.ref q8])) _
              exact .cons (seqT_updO nt3 hq3) (seqT_updO nt3 (.inl (.inl (v3 _ _ t21)))) (((he10.kp B10 KG).same v3).updO nt3)
            · exact (IG.one hl4 bk okf2).app ig9
            · simp only [List.mem_append, List.mem_cons, List.not_mem_nil, or_false] at hx
              rcases hx with rfl | hx | rfl
              · exact .inr rfl
              · exact .inl hx
              · exact .inr rfl
          · exact ⟨_, _, _, _, ⟨rfl, rfl, rfl, rfl⟩, B10.le (by omega), K10', _, h10, _, he10, ig9, by simp only [List.length_append, List.length_cons, List.length_nil]; omega, fw9⟩
      · rintro σ H3 ⟨x5, x6, x7, x8, xs, items, rfl, B3, K3, h3, he, ig, il, fw⟩
        exact hN _ _ ⟨_, _, _, _, xs, items, rfl, B3.le (by omega), K3, h3, he, ig, by omega, fw.le (by omega)⟩
    · rintro σ H2 ⟨x5, x6, x7, x8, xs, items, rfl, B2, K2, h2, he, ig, il, fw⟩
      walk_at "rs"
      exact k p xs items H2 B2 K2 p0 h2 he ig il fw
end
end LK

set_option Elab.async false
set_option linter.all false
set_option maxRecDepth 100000
namespace LK
open PySem PySem.Spec PyProof.Rows L2
local macro_rules | `(tactic| walk_at "rs") => `(tactic| simp only [tFld, sFld, tMeth, tMethZ, tMakeK, tProp, tFmt, rEqO, rNeO, cxK, cxNK, tCallZ, tAsg, tOp, rI0, rS0, rB0, rI, rU, tUn, rEq, rNe, rIxL, rIxT, rIxS, rSetL, rSlLU, rSlS, rSlU, rCatL, rCatU, rRepL, rIn, tVar, tC, gName, gSub, tIfS, tTest, tB, tAnd, tOr, tNot, tNotV, tAndV, tOrV, tIf, tCall, tCons, tNil, tCB, tDrop, tRet, tRetN, tNext, tLstU, tTupU, tM0, tM1, tPar, tPar3, tAug, ipI, tBM, tBM0, rAppend, rPop, tBreak, sDPut, tDGet, tDGet2, tCont, tChain, tSl, tPart, tNoPart, L2.start, List.map, List.length_cons, List.length_nil, List.replicate, List.cons_append, List.nil_append, List.append_nil, List.getElem?_cons_zero, List.getElem?_cons_succ, List.set_cons_zero, List.set_cons_succ, Option.some.injEq, V.int.injEq, V.ref.injEq, V.str.injEq, V.bl.injEq, exists_eq_left', exists_eq_left, exists_and_left, decide_eq_true_eq, List.cons.injEq, and_true, true_and, scal, Bool.not_eq_true', decide_eq_false_iff_not, Nat.zero_add, Nat.reduceAdd, Nat.reduceSub, reduceCtorEq, false_and, exists_false, false_or, or_false, CPow, CPowW, CMul, CDiv, Int.reduceToNat, ↓reduceIte, wipe, sw, List.nil_append, List.singleton_append])
local macro_rules | `(tactic| walk_at "st") => `(tactic| (refine seq_op fun N hN => ?_; walk_at "rs"))
local macro_rules | `(tactic| walk_at "sd") => `(tactic| first | assumption | decide | omega)
local macro_rules | `(tactic| walk_at "rd") => `(tactic| repeat (first
  | refine ⟨_, SqL.of (by assumption), ?_⟩ | refine ⟨_, SqL.of upd_same, ?_⟩ | refine ⟨_, .inl (SqL.of (by assumption)), ?_⟩ | refine ⟨_, (by assumption : _ = some (HO.lst _)), ?_⟩ | refine ⟨_, upd_same, ?_⟩
  | refine ⟨_, rfl, ?_⟩ | refine And.intro (by walk_at "sd") ?_))

/-! ### sums in any order -/
theorem accR_shift (k : List Int) : ∀ (b : List It) (r : Rat), b.foldl (fun acc it => if it.1 = k then acc + rt it.2 else acc) r = r + accR b k
  | [], r => by show r = r + 0; rw [Rat.add_zero]
  | it :: b, r => by
    unfold accR
    simp only [List.foldl_cons]
    by_cases e : it.1 = k
    · rw [if_pos e, if_pos e, accR_shift k b (r + rt it.2), accR_shift k b (0 + rt it.2), Rat.zero_add, Rat.add_assoc]
    · rw [if_neg e, if_neg e, accR_shift k b r]
      rfl
theorem accR_app (a b : List It) (k : List Int) : accR (a ++ b) k = accR a k + accR b k := by
  show (a ++ b).foldl _ 0 = _
  rw [List.foldl_append]
  exact accR_shift k b _
theorem accR_one (it : It) (k : List Int) : accR [it] k = if it.1 = k then rt it.2 else 0 := by
  unfold accR
  simp only [List.foldl_cons, List.foldl_nil]
  split
  · rw [Rat.zero_add]
  · rfl
theorem accR_cons (it : It) (b : List It) (k : List Int) : accR (it :: b) k = (if it.1 = k then rt it.2 else 0) + accR b k := by
  rw [show it :: b = [it] ++ b from rfl, accR_app, accR_one]
theorem accR_perm {a b : List It} (h : a.Perm b) (k : List Int) : accR a k = accR b k := by
  induction h with
  | nil => rfl
  | cons x _ ih => rw [accR_cons, accR_cons, ih]
  | swap x y l => rw [accR_cons, accR_cons, accR_cons, accR_cons, ← Rat.add_assoc, ← Rat.add_assoc, Rat.add_comm (if y.1 = k then rt y.2 else 0)]
  | trans _ _ ih1 ih2 => exact ih1.trans ih2
theorem accR_norm {R : List Int → Rat} {l : List It} (h : Norm R l) (k : List Int) : accR l k = R k := by
  have key : ∀ {l : List It}, (l.Pairwise fun a b => cd a.1 < cd b.1) → (∀ x ∈ l, rt x.2 = R x.1) → (accR l k = R k ∧ ∃ x ∈ l, x.1 = k) ∨ (accR l k = 0 ∧ ∀ x ∈ l, x.1 ≠ k) := by
    intro l
    induction l with
    | nil => intro _ _; exact .inr ⟨rfl, fun x hx => by cases hx⟩
    | cons a l ih =>
      intro hs hr
      rw [List.pairwise_cons] at hs
      rw [accR_cons]
      by_cases e : a.1 = k
      · have z : ∀ x ∈ l, x.1 ≠ k := fun x hx e2 => by
          have := hs.1 x hx
          rw [e, e2] at this
          omega
        rw [if_pos e, (accF_none z).2, Rat.add_zero, hr a List.mem_cons_self, e]
        exact .inl ⟨rfl, a, List.mem_cons_self, e⟩
      · rw [if_neg e, Rat.zero_add]
        rcases ih hs.2 fun x hx => hr x (List.mem_cons_of_mem _ hx) with ⟨h1, x, hx, h2⟩ | ⟨h1, h2⟩
        · exact .inl ⟨h1, x, List.mem_cons_of_mem _ hx, h2⟩
        · refine .inr ⟨h1, fun x hx => ?_⟩
          rcases List.mem_cons.mp hx with rfl | hx
          · exact e
          · exact h2 x hx
  rcases key h.srt fun x hx => (h.it x hx).2.2 with ⟨h1, _⟩ | ⟨h1, h2⟩
  · exact h1
  · rw [h1]
    refine Classical.byContradiction fun n => ?_
    obtain ⟨f, hf⟩ := h.all k fun z => n z.symm
    exact h2 _ hf rfl
/-- the items' signs turned about -/
theorem accR_neg (k : List Int) : ∀ {l : List It}, (∀ x ∈ l, low x.2) → accR (l.map fun x => (x.1, (-x.2.1, x.2.2))) k = - accR l k
  | [], _ => by show (0 : Rat) = -0; rw [Rat.neg_zero]
  | a :: l, h => by
    rw [List.map_cons, accR_cons, accR_cons, accR_neg k fun x hx => h x (List.mem_cons_of_mem _ hx), Rat.neg_add]
    show (if a.1 = k then rt (-a.2.1, a.2.2) else 0) + _ = _
    rw [(rt_neg (h a List.mem_cons_self)).1]
    split
    · rfl
    · rw [Rat.neg_zero]
theorem accR_zero (k : List Int) : ∀ l : List It, accR (l.map fun x => (x.1, ((0, 1) : Fr))) k = 0
  | [] => rfl
  | a :: l => by
    rw [List.map_cons, accR_cons, accR_zero k l, Rat.add_zero]
    show (if a.1 = k then rt (0, 1) else 0) = 0
    rw [rt_zero]
    split <;> rfl
/-! bits of the sums -/
theorem wtS_shift (k : List Int) : ∀ (b : List It) (n : Nat), b.foldl (fun acc it => if it.1 = k then acc + (wt it.2 + 1) else acc) n + 1 = n + wtS b k
  | [], n => by show n + 1 = n + 1; rfl
  | it :: b, n => by
    unfold wtS
    simp only [List.foldl_cons]
    by_cases e : it.1 = k
    · rw [if_pos e, if_pos e]
      have h1 := wtS_shift k b (n + (wt it.2 + 1))
      have h2 := wtS_shift k b (1 + (wt it.2 + 1))
      omega
    · rw [if_neg e, if_neg e]
      have h1 := wtS_shift k b n
      show _ = n + wtS b k
      exact h1
theorem wtS_app (a b : List It) (k : List Int) : wtS (a ++ b) k + 1 = wtS a k + wtS b k := by
  show (a ++ b).foldl _ 1 + 1 = _
  rw [List.foldl_append]
  exact wtS_shift k b _
theorem wtS_le {B : Nat} (k : List Int) : ∀ {l : List It}, (∀ x ∈ l, wt x.2 ≤ B) → wtS l k ≤ l.length * (B + 1) + 1
  | [], _ => by show 1 ≤ _; omega
  | a :: l, h => by
    have ih := wtS_le k (l := l) fun x hx => h x (List.mem_cons_of_mem _ hx)
    have e := wtS_app [a] l k
    have e1 : wtS [a] k ≤ B + 2 := by
      unfold wtS
      simp only [List.foldl_cons, List.foldl_nil]
      have := h a List.mem_cons_self
      split <;> omega
    rw [show a :: l = [a] ++ l from rfl, List.length_append, List.length_singleton, Nat.add_mul, Nat.one_mul]
    omega
theorem wt_okB {f : Fr} (h : okB 1000000000000000000 1000000000000000000 f) : wt f ≤ 60 := wt_le (by decide) (Nat.lt_of_le_of_lt h.2.2.1 (by decide)) (Nat.lt_of_le_of_lt h.2.2.2 (by decide))
theorem IG.fit {d : Nat} {w : Int} {items : List It} (h : IG d w items) (hw : w ≤ 2000) (l : items.length ≤ 60) (f : Few 62 items) : Fit d items := by
  refine ⟨fun x hx => ?_, fun k => ?_, ?_, by omega⟩
  · obtain ⟨o, l1, b⟩ := h.it x hx
    exact ⟨⟨o.1, o.2.1⟩, Nat.le_trans (wt_okB o) (by decide), l1, fun m hm => ⟨(b m hm).1, by have := (b m hm).2; omega⟩⟩
  · have := wtS_le (B := 60) k (l := items) fun x hx => wt_okB (h.it x hx).1
    omega
  · obtain ⟨S, h1, h2⟩ := f
    exact ⟨S, by omega, h2⟩
end LK

set_option Elab.async false
set_option linter.all false
set_option maxRecDepth 100000
namespace LK
open PySem PySem.Spec PyProof.Rows L2
local macro_rules | `(tactic| walk_at "rs") => `(tactic| simp only [tFld, sFld, tMeth, tMethZ, tMakeK, tProp, tFmt, rEqO, rNeO, cxK, cxNK, tCallZ, tAsg, tOp, rI0, rS0, rB0, rI, rU, tUn, rEq, rNe, rIxL, rIxT, rIxS, rSetL, rSlLU, rSlS, rSlU, rCatL, rCatU, rRepL, rIn, tVar, tC, gName, gSub, tIfS, tTest, tB, tAnd, tOr, tNot, tNotV, tAndV, tOrV, tIf, tCall, tCons, tNil, tCB, tDrop, tRet, tRetN, tNext, tLstU, tTupU, tM0, tM1, tPar, tPar3, tAug, ipI, tBM, tBM0, rAppend, rPop, tBreak, sDPut, tDGet, tDGet2, tCont, tChain, tSl, tPart, tNoPart, L2.start, List.map, List.length_cons, List.length_nil, List.replicate, List.cons_append, List.nil_append, List.append_nil, List.getElem?_cons_zero, List.getElem?_cons_succ, List.set_cons_zero, List.set_cons_succ, Option.some.injEq, V.int.injEq, V.ref.injEq, V.str.injEq, V.bl.injEq, exists_eq_left', exists_eq_left, exists_and_left, decide_eq_true_eq, List.cons.injEq, and_true, true_and, scal, Bool.not_eq_true', decide_eq_false_iff_not, Nat.zero_add, Nat.reduceAdd, Nat.reduceSub, reduceCtorEq, false_and, exists_false, false_or, or_false, CPow, CPowW, CMul, CDiv, Int.reduceToNat, ↓reduceIte, wipe, sw, List.nil_append, List.singleton_append])
local macro_rules | `(tactic| walk_at "st") => `(tactic| (refine seq_op fun N hN => ?_; walk_at "rs"))
local macro_rules | `(tactic| walk_at "sd") => `(tactic| first | assumption | decide | omega)
local macro_rules | `(tactic| walk_at "rd") => `(tactic| repeat (first
  | refine ⟨_, SqL.of (by assumption), ?_⟩ | refine ⟨_, SqL.of upd_same, ?_⟩ | refine ⟨_, .inl (SqL.of (by assumption)), ?_⟩ | refine ⟨_, (by assumption : _ = some (HO.lst _)), ?_⟩ | refine ⟨_, upd_same, ?_⟩
  | refine ⟨_, rfl, ?_⟩ | refine And.intro (by walk_at "sd") ?_))

/-! ### the law's own normal form -/
theorem eqvAll_ints : ∀ k l : List Int, PyData.eqvAll (k.map PyData.int) (l.map PyData.int) = decide (k = l)
  | [], [] => by simp [PyData.eqvAll]
  | [], _ :: _ => by simp [PyData.eqvAll]
  | _ :: _, [] => by simp [PyData.eqvAll]
  | x :: k, y :: l => by
    simp only [List.map_cons, PyData.eqvAll, eqvAll_ints k l]
    by_cases h : x = y
    · subst h
      by_cases h2 : k = l <;> simp [h2, PyData.eqv]
    · simp [h, PyData.eqv]
theorem sh_ints : ∀ k : List Int, 1 ≤ k.length → k.length ≤ 2 → SeqAt.shaped (.tuple (k.map PyData.int)) = true
  | [_], _, _ => rfl
  | [_, _], _, _ => rfl
  | [], h, _ => by simp at h
  | _ :: _ :: _ :: _, _, h => by simp at h
theorem at_last (ks : List Int) (u : Addr) (l1 : 1 ≤ ks.length) (l2 : ks.length ≤ 2) : atI (ks.map V.int ++ [V.ref u]) (-1) = some (.ref u) := by
  match ks, l1, l2 with
  | [_], _, _ => rfl
  | [_, _], _, _ => rfl
  | [], h, _ => simp at h
  | _ :: _ :: _ :: _, _, h => simp at h
theorem eqv_ints (k l : List Int) : PyData.eqv (.tuple (k.map PyData.int)) (.tuple (l.map PyData.int)) = decide (k = l) := by
  simp only [PyData.eqv]
  exact eqvAll_ints k l
theorem lc_accD {J : L2.It} {n : Nat} {G : Hp → Prop} {Y : Nat → Hp → V → Hp → Prop} (w : Walk J n G Y) {g : TG} {te : TE} {vs : List Nat} {σ : L2.St} {H1 : Hp} {D : Addr} {Qd : Hp → Prop} (R : Nat → Hp → List V → Prop) (hD : H1 D = none) (hn : n ≤ 1000000)
    (mono : ∀ i H H' ys, Same H H' → R i H ys → R i H' ys) (up : ∀ i H ys zs o, H D = some (.lst zs) → R i H ys → R i (L2.upd H D o) ys) (r0 : R 0 (L2.upd H1 D (.lst [])) []) (hG : ∀ H, Same H1 H → G H)
    (hs : ∀ i x H H', i < n → Same H1 H → H D ≠ none → Y i H x H' → g x (wipe σ vs) H' fun σ2 H2 => Same H H2 ∧ wipe σ2 vs = wipe σ vs ∧ ∀ Q2 : V → Hp → Prop, (∀ v H3, Same H2 H3 → (∀ ys, R i H3 ys → R (i + 1) H3 (ys ++ [v])) → Q2 v H3) → te σ2 H2 Q2)
    (gm : ∀ x σ0 H0 Q0 Q1, (∀ σ2 H2, Q0 σ2 H2 → Q1 σ2 H2) → g x σ0 H0 Q0 → g x σ0 H0 Q1)
    (hq : ∀ H' ys, Same H1 H' → H' D = some (.lst ys) → ys.length = n → R n H' ys → Qd H') :
    ∃ W : Nat → Nat → Hp → Prop, (∃ m, W 0 m (L2.upd H1 D (.lst []))) ∧ ∀ i m H, W i m H →
      (J.stop i H ∧ Qd H) ∨ (J.go i H ∧ ∃ Nx : Hp → Prop, (∀ H', Nx H' → ∃ m', m' < m ∧ W (i + 1) m' H') ∧ ∀ x H', J.yld i H x H' → g x (wipe σ vs) H' fun σ2 H2 => wipe σ2 vs = wipe σ vs ∧ tYes σ2 H2 fun b H3 =>
        if b = true then te σ2 H3 fun y H4 => ∃ acc, H4 D = some (.lst acc) ∧ acc.length < sizeLine ∧ Nx (L2.upd H4 D (.lst (acc ++ [y]))) else Nx H3) := by
  have keep : ∀ {H : Hp} {o : HO}, Same H1 H → Same H1 (L2.upd H D o) := fun s a u e => by
    rw [upd_ne (ne_of_none e hD)]; exact s _ _ e
  refine lc_it w (fun i H => Same H1 H ∧ ∃ ys, H D = some (.lst ys) ∧ ys.length = i ∧ R i H ys) ⟨keep (Same.refl _), [], upd_same, rfl, r0⟩ (fun i H _ h => hG H h.1) (fun i x H H' hi ⟨s1, ys, h1, hl, hr⟩ hY => ?_) (fun H ⟨s1, ys, h1, hl, hr⟩ => hq H ys s1 h1 hl hr)
  refine gm _ _ _ _ _ (fun σ2 H2 ⟨s2, e2, kq⟩ => ⟨e2, ?_⟩) (hs i x H H' hi s1 (by rw [h1]; exact Option.some_ne_none _) hY)
  simp only [tYes, eq_self, ite_true]
  refine kq _ fun v H3 s3 st => ?_
  have s13 := Same.trans s2 s3
  have hD3 := s13 _ _ h1
  refine ⟨ys, hD3, ?_, keep (Same.trans s1 s13), ys ++ [v], upd_same, by rw [List.length_append, hl]; rfl, up _ _ _ _ _ hD3 (st ys (mono _ _ _ _ s13 hr))⟩
  rw [hl]
  exact Nat.lt_of_lt_of_le (Nat.lt_of_lt_of_le hi hn) (by decide)
theorem lc_lt2 {K : PySem.W.Frag} {a : Addr} {xs : List V} {g : TG} {te tl : TE} {vs : List Nat} {σ : L2.St} {H1 : Hp} {Q : VK} (hv : ∀ Q : VK, Q (.ref a) H1 → tl σ H1 Q) (h : SqL K H1 a xs ∨ SqT K H1 a xs) (R : Nat → Hp → List V → Prop) (hn : xs.length ≤ 1000000)
    (mono : ∀ i H H' ys, Same H H' → R i H ys → R i H' ys) (up : ∀ D i H ys zs o, H D = some (.lst zs) → R i H ys → R i (L2.upd H D o) ys) (r0 : ∀ H, R 0 H [])
    (hs : ∀ i x H, i < xs.length → Same H1 H → xs[i]? = some x → g x (wipe σ vs) H fun σ2 H2 => Same H H2 ∧ wipe σ2 vs = wipe σ vs ∧ ∀ Q2 : VK, (∀ v H3, Same H2 H3 → (∀ ys, R i H3 ys → R (i + 1) H3 (ys ++ [v])) → Q2 v H3) → te σ2 H2 Q2)
    (gm : ∀ x σ0 H0 Q0 Q1, (∀ σ2 H2, Q0 σ2 H2 → Q1 σ2 H2) → g x σ0 H0 Q0 → g x σ0 H0 Q1)
    (hq : ∀ D H' ys, Same H1 H' → H1 D = none → H' D = some (.lst ys) → ys.length = xs.length → R xs.length H' ys → Q (.ref D) H') : tLc (iLT K tl) g tYes te vs σ H1 Q := by
  have core : ∀ {J : L2.It} {G : Hp → Prop} (w : Walk J xs.length G (YAt xs)) (hG : ∀ H, Same H1 H → G H) (D : Addr) (hD : H1 D = none), _ := fun w hG D hD => lc_accD w (g := g) (te := te) (vs := vs) (σ := σ) (D := D) (Qd := fun H => Q (.ref D) H) R hD hn mono (up D) (r0 _) hG (fun i x H H' hi s n ⟨e, hx⟩ => by
    subst e
    exact hs i x _ hi s hx) gm fun H' ys s e l p => hq D H' ys s hD e l p
  rcases h with h | h
  · exact .inl (hv _ ⟨a, rfl, ⟨xs, h⟩, fun D hD => core walk_list (fun H s => s.seq h) D hD⟩)
  · exact .inr (hv _ ⟨a, rfl, ⟨xs, h⟩, fun D hD => core walk_tup (fun H s => Same.seqT s h) D hD⟩)
section
variable {P : Program} {w : World} {K : PySem.W.Frag} {mg : Str → Option Value} {base : Heap}
theorem ok__law_normal (T : Txt w K mg) (d : Nat) (d1 : 1 ≤ d) (d2 : d ≤ 2) : FnOk P w K mg base CX0 4 T.a__law_normal T.d__law_normal ["items"] (sp_norm K d) := by
  refine T.F__law_normal.ok sc__law_normal (fun vs H Q E h => ?_) (fun cdv A outer s H vs Q E hr h => ?_)
  · obtain ⟨a, xs, items, rfl, _⟩ := h
    rfl
  · obtain ⟨a, xs, items, rfl, ha, hi, fit, k⟩ := h
    have hr__law_plus : Room 3 _ := hr
    have G__law_plus := ok__law_plus (P := P) (base := base) T
    have lx := hi.len
    refine ⟨_, (pss_cons (ps_set (i := 1) sc__law_normal.nd rfl (Or.inl rfl) (pe_lstU pa_nil))
      (pss_cons (ps_for PassesOwn.never rfl (pi_list (pe_callB (cr_sortedT rfl) (by rfl) T.n_sorted (by decide +kernel) (pa_cons (pe_callTy (cr_setW rfl hr.units) (by rfl) T.n_set (by decide +kernel) (pa_cons (pe_lc (own := [("one", 4)]) (g := gName 4) (tt := tYes) rfl sc__law_normal.nd (pi_lt (pv 0)) (blkOk_by (own := [("one", 4)]) (N := N__law_normal) (sc := defScope s__law_normal) (by decide +kernel)) (fun _ _ _ _ _ => pg_name (i := 4) sc__law_normal.nd rfl (Or.inl rfl)) (fun _ _ _ _ _ => pts_nil) (fun _ _ _ _ _ => (pe_slice (sl_tupUK (K := K) rfl) (pv 4) po_none (po_some (pe_un un_neg pe_int))))) pa_nil)) pa_nil))) (pg_name (i := 2) sc__law_normal.nd rfl (Or.inl rfl)) (pss_cons (ps_set (i := 3) sc__law_normal.nd rfl (Or.inl rfl) (pe_tupU (pa_cons pe_int (pa_cons pe_int pa_nil))))
      (pss_cons (ps_for PassesOwn.never rfl (pi_lt (pv 0)) (pg_name (i := 4) sc__law_normal.nd rfl (Or.inl rfl)) (pss_one (ps_if (pt_cmpR (op_eqD hr.units) (pe_slice sl_tupU (pv 4) po_none (po_some (pe_un un_neg pe_int))) (pv 2) (nomark _)) (pss_one (ps_set (i := 3) sc__law_normal.nd rfl (Or.inl rfl) (pe_call G__law_plus hr__law_plus (by rfl) T.m__law_plus T.F__law_plus.kp T.B__law_plus .nil pass0 (pa_cons (pv 3) (pa_cons (pe_ix ix_tup (pv 4) (pe_un un_neg pe_int) (fun _ _ => rfl)) pa_nil))))) pss_nil)))
      (pss_one (ps_if (pt_cmpR op_neI (pe_ix ix_tup (pv 3) pe_int (fun _ _ => rfl)) pe_int (nomark _)) (pss_one (ps_expr (pe_bm PySem.F.plainAttrs_list PySem.F.slot_list_append PySem.F.type_list_append mt_append (pv 1) (pa_cons (pe_op op_catU (pv 2) (pe_tupU (pa_cons (pv 3) pa_nil))) pa_nil)))) pss_nil)))))
      (pss_one (ps_ret (pe_callTy call_tupleN (by rfl) T.n_tuple (by decide +kernel) (pa_cons (pv 1) pa_nil)))))), ?_⟩
    refine seq_op fun N hN => ?_
    walk_at "rs"
    refine ⟨by decide, fun p H1 s1 p0 p1 => hN _ _ ?_⟩
    clear hN N
    refine cut_seq (fun σ G => ∃ (x2 x3 x4 : Option V) (ys : List V) (its' : List It), σ = [some (.ref a), some (.ref p), x2, x3, x4] ∧ Same H G ∧ G p = some (.lst ys) ∧ Its K G ys its' ∧ Norm (accR items) its' ∧ its'.length < 64) (fun N hN => ?_) ?_
    · walk_at "rs"
      have cut1 : ∀ (ks : List Int) (u : Addr), ks.length = d → cutV (ks.map V.int ++ [V.ref u]) none (some (-1)) = ks.map V.int := fun ks u lk => by
        match ks, lk, d1, d2 with
        | [x], _, _, _ => rfl
        | [x, y], _, _, _ => rfl
        | [], h, _, _ => simp at h; omega
        | _ :: _ :: _ :: _, h, _, _ => simp at h; omega
      simp only [tFor, iList, tCB, tCons, tNil]
      refine lc_lt2 (K := K) (a := a) (xs := xs) (fun Q q => ⟨_, rfl, q⟩) (ha.imp s1.seq (Same.seqT s1)) (fun i H ys => ∃ L0 : List (Addr × List Int), ys = L0.map (fun q => V.ref q.1) ∧ (∀ q ∈ L0, SqT K H q.1 (q.2.map V.int)) ∧ L0.map (·.2) = (items.take i).map (·.1)) (by have := fit.len; omega) (fun i H H' ys s ⟨L0, e1, e2, e3⟩ => ⟨L0, e1, fun q hq => Same.seqT s (e2 q hq), e3⟩) (fun D i H ys zs o hp ⟨L0, e1, e2, e3⟩ => ⟨L0, e1, fun q hq => seqT_updO (notT_lst hp) (e2 q hq), e3⟩) (fun H => ⟨[], rfl, fun q hq => absurd hq (by simp), rfl⟩) (fun i x H2 hx s2 hxe => ?_) (gm_name 4) fun D H2 ys s2 D0 D1 ly ⟨L0, e1, e2, e3⟩ => ?_
      · obtain ⟨p2, u, ks, f, ex, ee, h1, h2⟩ := hi.get (n := i) (by omega)
        obtain rfl : x = .ref p2 := by rw [ex] at hxe; exact (Option.some.inj hxe).symm
        obtain ⟨_, _, lk, _⟩ := fit.it _ (List.mem_of_getElem? ee)
        refine ⟨Same.refl _, rfl, fun Q2 hq => ?_⟩
        walk_at "rs"
        refine ⟨_, Same.seqT (Same.trans s1 s2) h1, fun q3 H3 s3 hq3 => hq _ H3 s3 fun ys ⟨L0, e1, e2, e3⟩ => ⟨L0 ++ [(q3, ks)], by rw [e1, List.map_append]; rfl, fun q hqm => ?_, ?_⟩⟩
        · rw [cut1 ks u lk] at hq3
          rcases List.mem_append.mp hqm with hqm | hqm
          · exact e2 q hqm
          · rw [List.mem_singleton.mp hqm]; exact hq3
        · obtain ⟨hk, e⟩ := List.getElem?_eq_some_iff.mp ee
          rw [← List.take_append_getElem hk, e, List.map_append, List.map_append, e3]
          rfl
      · rw [lx, List.take_length] at e3
        have lL0 : L0.length = items.length := by
          have := congrArg List.length e3
          rw [List.length_map, List.length_map] at this
          exact this
        refine ⟨D, L0, rfl, SqL.of (by rw [← e1]; exact D1), e2, ?_, fun sa L sa0 sub all => ?_⟩
        · obtain ⟨S, hS, mS⟩ := fit.few
          refine ⟨S, hS, fun q hq => ?_⟩
          have : q.2 ∈ items.map (·.1) := by rw [← e3]; exact List.mem_map_of_mem hq
          obtain ⟨it, hit, e⟩ := List.mem_map.mp this
          rw [← e]; exact mS it hit
        · change rSortedT K P w [V.ref sa] (L2.upd H2 sa (SetTO P w sa L)) _
          have s2a : Same H2 (L2.upd H2 sa (SetTO P w sa L)) := same_upd sa0
          have spots : ∀ q ∈ L, SqT K (L2.upd H2 sa (SetTO P w sa L)) q.1 (q.2.map V.int) := fun q hq => Same.seqT s2a (e2 q (sub q hq))
          have bnd : ∀ q ∈ L, q.2.length = d ∧ TS.Bd 2000 q.2 := fun q hq => by
            have : q.2 ∈ items.map (·.1) := by rw [← e3]; exact List.mem_map_of_mem (sub q hq)
            obtain ⟨it, hit, e⟩ := List.mem_map.mp this
            obtain ⟨_, _, l, b⟩ := fit.it it hit
            rw [← e]; exact ⟨l, b⟩
          refine ⟨sa, L, d, 2000, rfl, upd_same, spots, d1, bnd, fun L' sp pm nd few pw sp0 => ?_⟩
          have sA : Same (L2.upd H2 sa (SetTO P w sa L)) (L2.upd (L2.upd H2 sa (SetTO P w sa L)) sp (.lst (L'.map fun q => V.ref q.1))) := same_upd sp0
          have hsp : (L2.upd (L2.upd H2 sa (SetTO P w sa L)) sp (.lst (L'.map fun q => V.ref q.1))) sp = some (.lst (L'.map fun q => V.ref q.1)) := upd_same
          have spots' : ∀ q ∈ L', SqT K (L2.upd (L2.upd H2 sa (SetTO P w sa L)) sp (.lst (L'.map fun q => V.ref q.1))) q.1 (q.2.map V.int) := fun q hq => Same.seqT sA (spots q (pm.mem_iff.mp hq))
          have sH : Same H (L2.upd (L2.upd H2 sa (SetTO P w sa L)) sp (.lst (L'.map fun q => V.ref q.1))) := Same.trans s1 (Same.trans s2 (Same.trans s2a sA))
          have pG := Same.trans s2 (Same.trans s2a sA) _ _ p1
          have psp : p ≠ sp := fun e => by
            have := Same.trans s2 s2a _ _ p1
            rw [e, sp0] at this; cases this
          generalize L2.upd (L2.upd H2 sa (SetTO P w sa L)) sp (.lst (L'.map fun q => V.ref q.1)) = G0 at *
          have all' : ∀ it ∈ items, it.1 ∈ L'.map (·.2) := fun it hit => by
            have : it.1 ∈ L0.map (·.2) := by rw [e3]; exact List.mem_map_of_mem hit
            obtain ⟨q, hq, e⟩ := List.mem_map.mp this
            have := all q hq
            rw [e] at this
            exact (pm.map (·.2)).mem_iff.mpr this
          have srt : (L'.map (·.2)).Pairwise fun a b => cd a < cd b := by
            have pw2 : (L'.map (·.2)).Pairwise fun a b => cd a ≤ cd b := List.pairwise_map.mpr pw
            refine (pw2.and nd).imp_of_mem fun {x y} hx hy h => ?_
            refine Int.lt_iff_le_and_ne.mpr ⟨h.1, fun e => h.2 ?_⟩
            obtain ⟨qx, hqx, rfl⟩ := List.mem_map.mp hx
            obtain ⟨qy, hqy, rfl⟩ := List.mem_map.mp hy
            obtain ⟨l1, b1⟩ := bnd qx (pm.mem_iff.mp hqx)
            obtain ⟨l2, b2⟩ := bnd qy (pm.mem_iff.mp hqy)
            have o : ∀ z : Int, cd [z] = z := fun z => by
              show z * 2000 ^ 0 + 0 = z
              omega
            generalize qx.2 = x at *
            generalize qy.2 = y at *
            match x, y, l1, l2, b1, b2, e, d1, d2 with
            | [u], [v], _, _, _, _, e, _, _ => rw [o, o] at e; rw [e]
            | [_, _], [_, _], _, _, b1, b2, e, _, _ => exact cd_inj b1 b2 e
            | [], _, h, _, _, _, _, _, _ => simp at h; omega
            | _ :: _ :: _ :: _, _, h, _, _, _, _, _, _ => simp at h; omega
            | [_], [], _, h, _, _, _, _, _ => simp at h; omega
            | [_], _ :: _ :: _, h, h2, _, _, _, _, _ => simp at h h2; omega
            | [_, _], [], _, h, _, _, _, _, _ => simp at h; omega
            | [_, _], [_], h, h2, _, _, _, _, _ => simp at h h2; omega
            | [_, _], _ :: _ :: _ :: _, _, h, _, _, _, _, _ => simp at h; omega
          have hl : ∀ it ∈ items, low it.2 := fun it hit => (fit.it it hit).1
          have nm := norm_of (items := items) hl srt all'
          refine ⟨sp, rfl, ⟨_, SqL.of hsp⟩, for_list (D := { nx := N, rt := Q }) (K := K) (a := sp) (xs := L'.map fun q => V.ref q.1) (fun i σ G => ∃ (x2 x3 x4 : Option V) (ys : List V), σ = [some (.ref a), some (.ref p), x2, x3, x4] ∧ Same H G ∧ (∀ q ∈ L', SqT K G q.1 (q.2.map V.int)) ∧ G sp = some (.lst (L'.map fun q => V.ref q.1)) ∧ G p = some (.lst ys) ∧ Its K G ys ((((L'.map fun q : Addr × List Int => q.2).take i).filter fun k => decide (accF items k ≠ (0, 1))).map fun k => (k, accF items k))) ⟨_, _, _, [], rfl, sH, spots', hsp, pG, .nil⟩ (fun i σ G _ ⟨_, _, _, _, _, _, _, h, _⟩ => SqL.of h) ?_ ?_⟩
          · rintro i x σ G hx ⟨x2, x3, x4, ys, rfl, sG, sq, hs, hp, hits⟩
            have hi9 : i < L'.length := by
              have := (List.getElem?_eq_some_iff.mp hx).1
              rw [List.length_map] at this
              exact this
            have eq : L'[i]? = some L'[i] := List.getElem?_eq_getElem hi9
            obtain rfl : x = .ref L'[i].1 := by
              rw [List.getElem?_map, eq] at hx
              exact (Option.some.inj hx).symm
            have et : (L'.map fun q : Addr × List Int => q.2).take (i + 1) = (L'.map fun q : Addr × List Int => q.2).take i ++ [L'[i].2] := by
              obtain ⟨hk, e⟩ := List.getElem?_eq_some_iff.mp (show (L'.map fun q : Addr × List Int => q.2)[i]? = some L'[i].2 by rw [List.getElem?_map, eq]; rfl)
              rw [← List.take_append_getElem hk, e]
            have mq : L'[i] ∈ L' := List.getElem_mem hi9
            have hq1 := sq _ mq
            obtain ⟨lc, bc⟩ := bnd _ (pm.mem_iff.mp mq)
            generalize L'[i] = q at *
            obtain ⟨qa, c⟩ := q
            dsimp only at hq1 lc bc et
            show tSeq _ _ _ [some (V.ref a), some (V.ref p), some (V.ref qa), x3, x4] G
            refine seq_op fun N1 hN1 => ?_
            walk_at "rs"
            refine ⟨by decide, fun t0 G1 s3 n0 t01 => hN1 _ _ ?_⟩
            clear hN1 N1
            refine cut_seq (fun σ G2 => ∃ (tt : Addr) (x4 : Option V), σ = [some (.ref a), some (.ref p), some (.ref qa), some (.ref tt), x4] ∧ Same G1 G2 ∧ Pr K G2 tt (accF items c).1 (accF items c).2) (fun N1 hN1 => ?_) ?_
            · refine for_lt (K := K) (a := a) (xs := xs) (fun Q q => ⟨_, rfl, q⟩) (ha.imp (Same.trans sG s3).seq (Same.seqT (Same.trans sG s3))) (fun j σ G2 => ∃ (tt : Addr) (x4 : Option V), σ = [some (.ref a), some (.ref p), some (.ref qa), some (.ref tt), x4] ∧ Same G1 G2 ∧ Pr K G2 tt (accF (items.take j) c).1 (accF (items.take j) c).2) ⟨t0, _, rfl, Same.refl _, .inl (.inl t01)⟩ (fun j σ G2 ⟨_, _, _, h, _⟩ => h) ?_ ?_
              · rintro j x σ G2 hxj ⟨tt, x4, rfl, s4, ptt⟩
                obtain ⟨p2, u, ks, f, ex, ee, h1, h2⟩ := hi.get (n := j) (by rw [← lx]; exact (List.getElem?_eq_some_iff.mp hxj).1)
                obtain rfl : x = .ref p2 := by rw [ex] at hxj; exact (Option.some.inj hxj).symm
                obtain ⟨lf, wf, lk, _⟩ := fit.it _ (List.mem_of_getElem? ee)
                dsimp only at lf wf lk
                have sH2 := Same.trans sG (Same.trans s3 s4)
                have es : items.take (j + 1) = items.take j ++ [(ks, f)] := by
                  obtain ⟨hk, e⟩ := List.getElem?_eq_some_iff.mp ee
                  rw [← List.take_append_getElem hk, e]
                show tIfS _ _ _ _ [some (V.ref a), some (V.ref p), some (V.ref qa), some (V.ref tt), some (V.ref p2)] G2
                walk_at "rs"
                refine ⟨_, Same.seqT sH2 h1, fun q3 G3 s5 hq3 => ?_⟩
                rw [cut1 ks u lk] at hq3
                have s35 := Same.trans s3 (Same.trans s4 s5)
                refine ⟨_, _, .tup hq3 (dp_ints ks), .tup (Same.seqT s35 hq1) (dp_ints c), sh_ints ks (by omega) (by omega), sh_ints c (by omega) (by omega), _, rfl, ?_⟩
                rw [eqv_ints, es, accF_snoc]
                by_cases z : ks = c
                · rw [decide_eq_true z, if_pos rfl, if_pos z]
                  obtain ⟨la, _, wa⟩ := accF_spec (items := items.take j) (fun it hit => (fit.it it (List.mem_of_mem_take hit)).1) c
                  have wb : wt (accF (items.take j) c) ≤ 3900 := Nat.le_trans wa (Nat.le_trans (wtS_take items j c) (fit.wt c))
                  exact ⟨_, Same.seqT (Same.trans sH2 s5) h1, _, at_last ks u (by omega) (by omega), tt, u, _, f, rfl, Same.seqT s5 ptt, Same.seqT (Same.trans sH2 s5) h2, la, lf, by omega, by omega, fun t5 H6 s6 n6 t6 => ⟨t5, _, ⟨rfl, rfl⟩, Same.trans s4 (Same.trans s5 s6), .inl (.inl t6)⟩⟩
                · rw [decide_eq_false z, if_neg (by simp), if_neg z]
                  exact ⟨tt, _, ⟨rfl, rfl⟩, Same.trans s4 s5, Same.seqT s5 ptt⟩
              · rintro σ G2 ⟨tt, x4, rfl, s4, ptt⟩
                rw [lx, List.take_length] at ptt
                exact hN1 _ _ ⟨tt, _, rfl, s4, ptt⟩
            · rintro σ G2 ⟨tt, x4, rfl, s4, ptt⟩
              walk_at "rs"
              have s34 := Same.trans s3 s4
              have sG2 := Same.trans sG s34
              have lowc := (accF_spec hl c).1
              refine ⟨_, ptt, _, rfl, _, rfl, ite2 (fun n9 => ?_) (fun n9 => ?_)⟩
              · have hp2 := s34 _ _ hp
                have nz : accF items c ≠ (0, 1) := fun z => n9 (by rw [z])
                refine ⟨.inl ⟨rfl, _, SqL.of hp2⟩, by decide, fun p5 H5 s5 n5 t5 => ⟨_, Same.seqT (Same.trans s34 s5) hq1, _, .inl (.inl t5), Nat.le_trans (show _ ≤ 10 by rw [List.length_map]; simp only [List.length_cons, List.length_nil]; omega) (by decide), fun q6 H6 s6 hq6 => ?_⟩⟩
                have s36 := Same.trans s34 (Same.trans s5 s6)
                have hp6 := s36 _ _ hp
                have nt6 := notT_lst hp6
                refine ⟨ys, hp6, ?_, _, _, _, ⟨rfl, rfl, rfl⟩, ?_, fun q hq => seqT_updO nt6 (Same.seqT s36 (sq q hq)), ?_, _, upd_same, ?_⟩
                · have := hits.len
                  rw [List.length_map] at this
                  rw [this]
                  refine Nat.lt_of_le_of_lt (List.length_filter_le _ _) (Nat.lt_of_le_of_lt (show _ ≤ 64 by rw [List.length_take, List.length_map]; omega) (by decide))
                · intro b o e
                  have ne : b ≠ p := fun z => by rw [z, p0] at e; cases e
                  rw [upd_ne ne]
                  exact Same.trans sG s36 _ _ e
                · rw [upd_ne (Ne.symm psp)]
                  exact s36 _ _ hs
                · rw [et, List.filter_append, List.map_append]
                  refine ((hits.same s36).updO nt6).app ?_
                  simp only [List.filter_cons, decide_eq_true (p := accF items c ≠ (0, 1)) nz, List.filter_nil, if_true, List.map_cons, List.map_nil]
                  exact .cons (seqT_updO nt6 hq6) (seqT_updO nt6 (Same.seqT (Same.trans s5 s6) ptt)) .nil
              · have z : accF items c = (0, 1) := (low_null lowc).mp (Classical.not_not.mp n9)
                refine ⟨_, _, _, ⟨rfl, rfl, rfl⟩, sG2, fun q hq => Same.seqT s34 (sq q hq), s34 _ _ hs, ys, s34 _ _ hp, ?_⟩
                rw [et, List.filter_append, List.map_append]
                have : decide (accF items c ≠ (0, 1)) = false := decide_eq_false fun n => n z
                simp only [List.filter_cons, this, List.filter_nil, List.map_nil, List.append_nil]
                simpa using hits.same s34
          · rintro σ G ⟨x2, x3, x4, ys, rfl, sG, sq, hs, hp, hits⟩
            rw [List.length_map, show L'.length = (L'.map fun q : Addr × List Int => q.2).length from (List.length_map ..).symm, List.take_length] at hits
            refine hN _ _ ⟨_, _, _, ys, _, rfl, sG, hp, hits, nm, ?_⟩
            rw [List.length_map]
            exact Nat.lt_of_le_of_lt (List.length_filter_le _ _) (by rw [List.length_map]; omega)
    · rintro σ G ⟨x2, x3, x4, ys, its', rfl, sG, hp, hi', nm, l64⟩
      walk_at "rs"
      exact ⟨ys, SqL.of hp, fun t H3 s3 t0 t1 => k t ys its' H3 (Same.trans sG s3) (.inl (.inl t1)) (hi'.same s3) nm l64⟩
end
end LK

set_option Elab.async false
set_option linter.all false
set_option maxRecDepth 100000
namespace LK
open PySem PySem.Spec PyProof.Rows L2
local macro_rules | `(tactic| walk_at "rs") => `(tactic| simp only [tFld, sFld, tMeth, tMethZ, tMakeK, tProp, tFmt, rEqO, rNeO, cxK, cxNK, tCallZ, tAsg, tOp, rI0, rS0, rB0, rI, rU, tUn, rEq, rNe, rIxL, rIxT, rIxS, rSetL, rSlLU, rSlS, rSlU, rCatL, rCatU, rRepL, rIn, tVar, tC, gName, gSub, tIfS, tTest, tB, tAnd, tOr, tNot, tNotV, tAndV, tOrV, tIf, tCall, tCons, tNil, tCB, tDrop, tRet, tRetN, tNext, tLstU, tTupU, tM0, tM1, tPar, tPar3, tAug, ipI, tBM, tBM0, rAppend, rPop, tBreak, sDPut, tDGet, tDGet2, tCont, tChain, tSl, tPart, tNoPart, L2.start, List.map, List.length_cons, List.length_nil, List.replicate, List.cons_append, List.nil_append, List.append_nil, List.getElem?_cons_zero, List.getElem?_cons_succ, List.set_cons_zero, List.set_cons_succ, Option.some.injEq, V.int.injEq, V.ref.injEq, V.str.injEq, V.bl.injEq, exists_eq_left', exists_eq_left, exists_and_left, decide_eq_true_eq, List.cons.injEq, and_true, true_and, scal, Bool.not_eq_true', decide_eq_false_iff_not, Nat.zero_add, Nat.reduceAdd, Nat.reduceSub, reduceCtorEq, false_and, exists_false, false_or, or_false, CPow, CPowW, CMul, CDiv, Int.reduceToNat, ↓reduceIte, wipe, sw, List.nil_append, List.singleton_append])
local macro_rules | `(tactic| walk_at "st") => `(tactic| (refine seq_op fun N hN => ?_; walk_at "rs"))
local macro_rules | `(tactic| walk_at "sd") => `(tactic| first | assumption | decide | omega)
local macro_rules | `(tactic| walk_at "rd") => `(tactic| repeat (first
  | refine ⟨_, SqL.of (by assumption), ?_⟩ | refine ⟨_, SqL.of upd_same, ?_⟩ | refine ⟨_, .inl (SqL.of (by assumption)), ?_⟩ | refine ⟨_, (by assumption : _ = some (HO.lst _)), ?_⟩ | refine ⟨_, upd_same, ?_⟩
  | refine ⟨_, rfl, ?_⟩ | refine And.intro (by walk_at "sd") ?_))

/-! ### what the law knows of its lists -/
theorem wtS_cons (x : It) (b : List It) (k : List Int) : wtS (x :: b) k = (if x.1 = k then wt x.2 + 1 else 0) + wtS b k := by
  have h := wtS_app [x] b k
  have e : wtS [x] k = 1 + (if x.1 = k then wt x.2 + 1 else 0) := by
    unfold wtS
    simp only [List.foldl_cons, List.foldl_nil]
    split <;> rfl
  rw [e] at h
  rw [show x :: b = [x] ++ b from rfl]
  omega
theorem wtS_perm {a b : List It} (h : a.Perm b) (k : List Int) : wtS a k = wtS b k := by
  induction h with
  | nil => rfl
  | cons x _ ih => rw [wtS_cons, wtS_cons, ih]
  | swap x y l => rw [wtS_cons, wtS_cons, wtS_cons, wtS_cons]; omega
  | trans _ _ ih1 ih2 => exact ih1.trans ih2
theorem wtS_none {k : List Int} : ∀ {l : List It}, (∀ x ∈ l, x.1 ≠ k) → wtS l k = 1
  | [], _ => rfl
  | a :: l, h => by
    rw [wtS_cons, if_neg (h a List.mem_cons_self), wtS_none fun x hx => h x (List.mem_cons_of_mem _ hx)]
theorem wtS_srt {k : List Int} {B : Nat} : ∀ {l : List It}, (l.Pairwise fun a b => cd a.1 < cd b.1) → (∀ x ∈ l, x.1 = k → wt x.2 ≤ B) → wtS l k ≤ B + 2
  | [], _, _ => by show 1 ≤ _; omega
  | a :: l, hs, h => by
    rw [List.pairwise_cons] at hs
    rw [wtS_cons]
    by_cases e : a.1 = k
    · have z : ∀ x ∈ l, x.1 ≠ k := fun x hx e2 => by
        have := hs.1 x hx
        rw [e, e2] at this
        omega
      rw [if_pos e, wtS_none z]
      have := h a List.mem_cons_self e
      omega
    · rw [if_neg e]
      have := wtS_srt (k := k) hs.2 fun x hx => h x (List.mem_cons_of_mem _ hx)
      omega
theorem wtS_map {f : Fr → Fr} {k : List Int} : ∀ {l : List It}, (∀ x ∈ l, wt (f x.2) ≤ wt x.2) → wtS (l.map fun x => (x.1, f x.2)) k ≤ wtS l k
  | [], _ => Nat.le_refl _
  | a :: l, h => by
    rw [List.map_cons, wtS_cons, wtS_cons]
    have h1 := h a List.mem_cons_self
    have h2 := wtS_map (k := k) (l := l) fun x hx => h x (List.mem_cons_of_mem _ hx)
    dsimp only
    split <;> omega
theorem Few.of {n : Nat} {a b : List It} (h : Few n a) (e : ∀ x ∈ b, ∃ y ∈ a, y.1 = x.1) : Few n b := by
  obtain ⟨S, h1, h2⟩ := h
  refine ⟨S, h1, fun x hx => ?_⟩
  obtain ⟨y, hy, e⟩ := e x hx
  rw [← e]; exact h2 y hy
theorem Norm.spot {its l : List It} (h : Norm (accR its) l) : ∀ x ∈ l, ∃ y ∈ its, y.1 = x.1 := fun x hx => by
  obtain ⟨a, b, c⟩ := h.it x hx
  refine Classical.byContradiction fun n => b ((rt_null a).mp (c.trans (accF_none fun it hit e => n ⟨it, hit, e⟩).2))
structure Ft (d n m l : Nat) (its : List It) : Prop where
  it : ∀ x ∈ its, low x.2 ∧ wt x.2 ≤ 3900 ∧ x.1.length = d ∧ TS.Bd 2000 x.1
  wt : ∀ k, wtS its k ≤ m
  few : Few n its
  len : its.length ≤ l
theorem Ft.fit {d n m l : Nat} {its : List It} (h : Ft d n m l its) (hn : n ≤ 62) (hm : m ≤ 3900) (hl : l ≤ 1000) : Fit d its := by
  obtain ⟨S, h1, h2⟩ := h.few
  exact ⟨h.it, fun k => Nat.le_trans (h.wt k) hm, ⟨S, by omega, h2⟩, Nat.le_trans h.len hl⟩
theorem Ft.of {d n m l n' m' l' : Nat} {its : List It} (h : Ft d n m l its) (hn : n ≤ n') (hm : m ≤ m') (hl : l ≤ l') : Ft d n' m' l' its := ⟨h.it, fun k => Nat.le_trans (h.wt k) hm, h.few.le hn, Nat.le_trans h.len hl⟩
theorem Ft.app {d n m l n' m' l' : Nat} {a b : List It} (h : Ft d n m l a) (g : Ft d n' m' l' b) : Ft d (n + n') (m + m') (l + l') (a ++ b) := by
  refine ⟨fun x hx => (List.mem_append.mp hx).elim (h.it x) (g.it x), fun k => ?_, h.few.app g.few, by rw [List.length_append]; exact Nat.add_le_add h.len g.len⟩
  have := wtS_app a b k
  have := h.wt k
  have := g.wt k
  omega
/-- with the same spots -/
theorem Ft.app2 {d n m l n' m' l' : Nat} {a b : List It} (h : Ft d n m l a) (g : Ft d n' m' l' b) (e : ∀ x ∈ b, ∃ y ∈ a, y.1 = x.1) : Ft d n (m + m') (l + l') (a ++ b) := by
  obtain ⟨h1, h2, _, h4⟩ := h.app g
  refine ⟨h1, h2, h.few.of fun x hx => ?_, h4⟩
  rcases List.mem_append.mp hx with hx | hx
  · exact ⟨x, hx, rfl⟩
  · exact e x hx
theorem Ft.perm {d n m l : Nat} {a b : List It} (h : Ft d n m l a) (p : b.Perm a) : Ft d n m l b :=
  ⟨fun x hx => h.it x (p.mem_iff.mp hx), fun k => by rw [wtS_perm p]; exact h.wt k, h.few.of fun x hx => ⟨x, p.mem_iff.mp hx, rfl⟩, by rw [p.length_eq]; exact h.len⟩
theorem Ft.map {d n m l : Nat} {a : List It} (h : Ft d n m l a) {f : Fr → Fr} (hf : ∀ x ∈ a, low (f x.2) ∧ LK.wt (f x.2) ≤ LK.wt x.2) : Ft d n m l (a.map fun x => (x.1, f x.2)) := by
  refine ⟨fun x hx => ?_, fun k => Nat.le_trans (wtS_map fun x hx => (hf x hx).2) (h.wt k), h.few.of fun x hx => ?_, by rw [List.length_map]; exact h.len⟩
  · obtain ⟨y, hy, rfl⟩ := List.mem_map.mp hx
    obtain ⟨a1, a2, a3, a4⟩ := h.it y hy
    obtain ⟨b1, b2⟩ := hf y hy
    exact ⟨b1, Nat.le_trans b2 a2, a3, a4⟩
  · obtain ⟨y, hy, rfl⟩ := List.mem_map.mp hx
    exact ⟨y, hy, rfl⟩
theorem Ft.norm {d n m l : Nat} {its nf : List It} (h : Ft d n m l its) (hm : m ≤ 3900) (nm : Norm (accR its) nf) (l64 : nf.length < 64) : Ft d n (m + 2) 63 nf := by
  have hl : ∀ it ∈ its, low it.2 := fun x hx => (h.it x hx).1
  have e : ∀ x ∈ nf, LK.wt x.2 ≤ m := fun x hx => by
    obtain ⟨a1, a2, a3⟩ := nm.it x hx
    obtain ⟨b1, b2, b3⟩ := accF_spec hl x.1
    rw [rt_eq a1 b1 (a3.trans b2.symm)]
    exact Nat.le_trans b3 (h.wt x.1)
  refine ⟨fun x hx => ?_, fun k => wtS_srt nm.srt fun x hx _ => e x hx, h.few.of nm.spot, by omega⟩
  obtain ⟨y, hy, es⟩ := nm.spot x hx
  obtain ⟨_, _, y3, y4⟩ := h.it y hy
  rw [es] at y3 y4
  exact ⟨(nm.it x hx).1, Nat.le_trans (e x hx) hm, y3, y4⟩
theorem IG.ft {d n l : Nat} {wd : Int} {its : List It} (h : IG d wd its) (hw : wd ≤ 2000) (f : Few n its) (hl : its.length ≤ l) : Ft d n (l * 61 + 1) l its := by
  refine ⟨fun x hx => ?_, fun k => ?_, f, hl⟩
  · obtain ⟨o, l1, b⟩ := h.it x hx
    exact ⟨⟨o.1, o.2.1⟩, Nat.le_trans (wt_okB o) (by decide), l1, fun m hm => ⟨(b m hm).1, by have := (b m hm).2; omega⟩⟩
  · have := wtS_le (B := 60) k (l := its) fun x hx => wt_okB (h.it x hx).1
    have : its.length * 61 ≤ l * 61 := Nat.mul_le_mul_right _ hl
    omega
theorem wt_light {f : Fr} (h : okB 2000 97 f) : wt f ≤ 11 := wt_le (by decide) (Nat.lt_of_le_of_lt h.2.2.1 (by decide)) (Nat.lt_of_le_of_lt h.2.2.2 (by decide))
theorem wt_zero : wt (0, 1) = 1 := by decide
theorem wt_neg (f : Fr) : wt (-f.1, f.2) = wt f := by
  unfold wt
  dsimp only
  rw [Int.natAbs_neg]
/-! data of items -/
theorem okAll_ints : ∀ k : List Int, okAll (k.map PyData.int) = true
  | [] => rfl
  | i :: k => by
    show (okD (.int i) && okAll _) = true
    rw [okAll_ints k]
    rfl
theorem okAll_app : ∀ {a b : List PyData}, okAll a = true → okAll b = true → okAll (a ++ b) = true
  | [], _, _, h => h
  | d :: a, b, h, g => by
    unfold okAll at h
    rw [Bool.and_eq_true] at h
    show (okD d && okAll (a ++ b)) = true
    rw [h.1, okAll_app h.2 g]
    rfl
theorem depAll_ints : ∀ k : List Int, depAll (k.map PyData.int) = 0
  | [] => rfl
  | i :: k => by
    show max 0 (depAll _) = 0
    rw [depAll_ints k]
    rfl
theorem depAll_app : ∀ (a b : List PyData), depAll (a ++ b) = max (depAll a) (depAll b)
  | [], b => by show depAll b = max 0 (depAll b); rw [Nat.zero_max]
  | d :: a, b => by
    show max (dep d) (depAll (a ++ b)) = max (max (dep d) (depAll a)) (depAll b)
    rw [depAll_app a b, Nat.max_assoc]
theorem dIt_ok {it : It} (h : it.1.length ≤ 1000) : okD (dIt it) = true ∧ dep (dIt it) ≤ 2 := by
  constructor
  · refine okD_tup.mpr ⟨by rw [List.length_append, List.length_map]; simp only [List.length_cons, List.length_nil]; omega, okAll_app (okAll_ints _) rfl⟩
  · unfold dIt
    rw [dep_tup, depAll_app, depAll_ints]
    show max 0 (max (max 0 (max 0 0) + 1) 0) + 1 ≤ 2
    decide
theorem dIts_ok : ∀ {its : List It}, (∀ x ∈ its, x.1.length ≤ 1000) → okAll (its.map dIt) = true ∧ depAll (its.map dIt) ≤ 2
  | [], _ => ⟨rfl, by decide⟩
  | a :: its, h => by
    obtain ⟨h1, h2⟩ := dIt_ok (h a List.mem_cons_self)
    obtain ⟨g1, g2⟩ := dIts_ok (its := its) fun x hx => h x (List.mem_cons_of_mem _ hx)
    constructor
    · show (okD _ && okAll _) = true
      rw [h1, g1]
      rfl
    · show max _ _ ≤ 2
      omega
def OkIts (its : List It) : Prop := its.length ≤ 100000 ∧ ∀ x ∈ its, x.1.length ≤ 1000
theorem Ft.ok {d n m l : Nat} {its : List It} (h : Ft d n m l its) (d2 : d ≤ 2) (hl : l ≤ 1000) : OkIts its := ⟨Nat.le_trans h.len (Nat.le_trans hl (by decide)), fun x hx => by have := (h.it x hx).2.2.1; omega⟩
section
variable {K : PySem.W.Frag} {H : Hp} {b c : Addr} {d N : Nat} {R : List Int → Rat} {dit its : List It} {Q : VK}
theorem like_atT {t u : Addr} {ys zs : List V} (o : OkIts its) (h1 : SqT K H t ys) (i1 : Its K H ys its) (h2 : SqT K H u zs) (i2 : Its K H zs its) (q : ∀ H', Same H H' → Q (.bl true) H') : sp__law_like K 3 [.ref t, .ref u] H Q E0 := by
  obtain ⟨o1, o2⟩ := dIts_ok o.2
  exact ⟨.ref t, .ref u, .tuple (its.map dIt), rfl, .tup h1 i1.dp, .tup h2 i2.dp, okD_tup.mpr ⟨by rw [List.length_map]; exact o.1, o1⟩, by rw [dep_tup]; omega, q⟩
theorem like_atL {t u : Addr} {ys zs : List V} (o : OkIts its) (h1 : SqL K H t ys) (i1 : Its K H ys its) (h2 : SqL K H u zs) (i2 : Its K H zs its) (q : ∀ H', Same H H' → Q (.bl true) H') : sp__law_like K 3 [.ref t, .ref u] H Q E0 := by
  obtain ⟨o1, o2⟩ := dIts_ok o.2
  exact ⟨.ref t, .ref u, .list (its.map dIt), rfl, .lst h1 i1.dp, .lst h2 i2.dp, okD_lst.mpr ⟨by rw [List.length_map]; exact o.1, o1⟩, by rw [dep_lst]; omega, q⟩
end
end LK

set_option Elab.async false
set_option linter.all false
set_option maxRecDepth 100000
namespace LK
open PySem PySem.Spec PyProof.Rows L2
local macro_rules | `(tactic| walk_at "rs") => `(tactic| simp only [tFld, sFld, tMeth, tMethZ, tMakeK, tProp, tFmt, rEqO, rNeO, cxK, cxNK, tCallZ, tAsg, tOp, rI0, rS0, rB0, rI, rU, tUn, rEq, rNe, rIxL, rIxT, rIxS, rSetL, rSlLU, rSlS, rSlU, rCatL, rCatU, rRepL, rIn, tVar, tC, gName, gSub, tIfS, tTest, tB, tAnd, tOr, tNot, tNotV, tAndV, tOrV, tIf, tCall, tCons, tNil, tCB, tDrop, tRet, tRetN, tNext, tLstU, tTupU, tM0, tM1, tPar, tPar3, tAug, ipI, tBM, tBM0, rAppend, rPop, tBreak, sDPut, tDGet, tDGet2, tCont, tChain, tSl, tPart, tNoPart, L2.start, List.map, List.length_cons, List.length_nil, List.replicate, List.cons_append, List.nil_append, List.append_nil, List.getElem?_cons_zero, List.getElem?_cons_succ, List.set_cons_zero, List.set_cons_succ, Option.some.injEq, V.int.injEq, V.ref.injEq, V.str.injEq, V.bl.injEq, exists_eq_left', exists_eq_left, exists_and_left, decide_eq_true_eq, List.cons.injEq, and_true, true_and, scal, Bool.not_eq_true', decide_eq_false_iff_not, Nat.zero_add, Nat.reduceAdd, Nat.reduceSub, reduceCtorEq, false_and, exists_false, false_or, or_false, CPow, CPowW, CMul, CDiv, Int.reduceToNat, ↓reduceIte, wipe, sw, List.nil_append, List.singleton_append])
local macro_rules | `(tactic| walk_at "st") => `(tactic| (refine seq_op fun N hN => ?_; walk_at "rs"))
local macro_rules | `(tactic| walk_at "sd") => `(tactic| first | assumption | decide | omega)
local macro_rules | `(tactic| walk_at "rd") => `(tactic| repeat (first
  | refine ⟨_, SqL.of (by assumption), ?_⟩ | refine ⟨_, SqL.of upd_same, ?_⟩ | refine ⟨_, .inl (SqL.of (by assumption)), ?_⟩ | refine ⟨_, (by assumption : _ = some (HO.lst _)), ?_⟩ | refine ⟨_, upd_same, ?_⟩
  | refine ⟨_, rfl, ?_⟩ | refine And.intro (by walk_at "sd") ?_))

/-! ### all but the lists stays -/
def Tk (H H' : Hp) : Prop := ∀ a o, H a = some o → (∀ xs, o ≠ .lst xs) → H' a = some o
section
variable {K : PySem.W.Frag} {H H1 H' : Hp} {N : Nat} {b c : Addr}
theorem Tk.of (s : Same H H') : Tk H H' := fun a o e _ => s _ _ e
theorem Tk.refl : Tk H H := Tk.of (Same.refl _)
theorem Tk.trans (h : Tk H H1) (g : Tk H1 H') : Tk H H' := fun a o e n => g _ _ (h _ _ e n) n
theorem Tk.upd {p : Addr} {xs : List V} {o : HO} (h : H p = some (.lst xs)) : Tk H (L2.upd H p o) := fun a u e n => by
  rw [upd_ne fun z => ?_]; exact e
  subst z; rw [h] at e; exact n xs (Option.some.inj e).symm
theorem Tk.hb (B : Bag N H b c) : Tk H (LK.hb H b) := fun a o e n => by
  obtain ⟨xs, q⟩ := B.at
  rw [hb_ne fun z => ?_]; exact e
  subst z; rw [q] at e; exact n xs (Option.some.inj e).symm
theorem Tk.kp (B : Bag N H b c) (k : Kp b H H') : Tk H H' := (Tk.hb B).trans ((Tk.of k).trans (Tk.of (hb_le H' b)))
theorem seqT_tk (h : Tk H H') {a : Addr} {xs : List V} (q : SqT K H a xs) : SqT K H' a xs := by
  rcases q with (q | ⟨o, q⟩) | q
  · exact .inl (.inl (h _ _ q fun xs z => by cases z))
  · exact .inl (.inr ⟨o, h _ _ q fun xs z => by cases z⟩)
  · exact .inr q
theorem Its.tk (s : Tk H H') : ∀ {xs : List V} {its : List It}, Its K H xs its → Its K H' xs its
  | _, _, .nil => .nil
  | _, _, .cons h h2 q => .cons (seqT_tk s h) (seqT_tk s h2) (q.tk s)
end
mutual
def tdD : PyData → Bool
  | .list _ => false | .dict _ => false | .tuple ds => tdAll ds | .none => true | .bool _ => true | .int _ => true | .str _ => true
def tdAll : List PyData → Bool
  | [] => true
  | d :: ds => tdD d && tdAll ds
end
mutual
theorem dp_tk {K : PySem.W.Frag} {H H' : Hp} (e : Tk H H') : ∀ {d : PyData} {v : V}, tdD d = true → Dp K H v d → Dp K H' v d
  | .none, _, _, h => by cases h; exact .non
  | .bool _, _, _, h => by cases h; exact .bl _
  | .int _, _, _, h => by cases h; exact .int _
  | .str _, _, _, h => by cases h; exact .str _
  | .list ds, _, t, h => by unfold tdD at t; cases t
  | .tuple ds, _, t, h => by cases h with | tup a b => exact .tup (seqT_tk e a) (dpa_tk e (by unfold tdD at t; exact t) b)
  | .dict _, _, _, h => by cases h
theorem dpa_tk {K : PySem.W.Frag} {H H' : Hp} (e : Tk H H') : ∀ {ds : List PyData} {vs : List V}, tdAll ds = true → DpAll K H vs ds → DpAll K H' vs ds
  | [], _, _, h => by cases h; exact .nil
  | _ :: _, _, t, h => by
    unfold tdAll at t
    rw [Bool.and_eq_true] at t
    cases h with | cons a b => exact .cons (dp_tk e t.1 a) (dpa_tk e t.2 b)
end
theorem tdAll_of {ds : List PyData} : (∀ d ∈ ds, tdD d = true) → tdAll ds = true := by
  induction ds with
  | nil => intro _; rfl
  | cons d ds ih =>
    intro h
    unfold tdAll
    rw [h d List.mem_cons_self, ih fun x hx => h x (List.mem_cons_of_mem _ hx)]
    rfl
theorem tdAll_app {a b : List PyData} (h : tdAll a = true) (g : tdAll b = true) : tdAll (a ++ b) = true := by
  induction a with
  | nil => exact g
  | cons d a ih =>
    unfold tdAll at h
    rw [Bool.and_eq_true] at h
    show (tdD d && tdAll (a ++ b)) = true
    rw [h.1, ih h.2]
    rfl
theorem tdAll_ints (k : List Int) : tdAll (k.map PyData.int) = true := tdAll_of fun d hd => by
  obtain ⟨i, _, rfl⟩ := List.mem_map.mp hd
  rfl
/-! ### a net's parts -/
structure Pt where
  a : List It
  f : Fr
  b : List It
abbrev Sg := Bool × List Pt
structure Nd where
  s : Int
  n : Int
  w : Int
  rest : List It
  sg : List (List It)
  pl : List (List It)
  st : List Sg
def dI (l : List It) : PyData := .tuple (l.map dIt)
def dF (f : Fr) : PyData := .tuple [.int f.1, .int f.2]
def kS (k : Bool) : Str := if k = true then "heads" else "bend"
def kD (k : Bool) : Nat := if k = true then 2 else 1
def dPl (k : Bool) (p : Pt) : List PyData := if k = true then [dI p.a, dI p.b] else [dI p.a, dF p.f, dI p.b]
def dP (k : Bool) (p : Pt) : PyData := .tuple (dPl k p)
def dS (s : Sg) : PyData := .tuple [.str (kS s.1), .tuple (s.2.map (dP s.1))]
def dRs (l : List (List It)) : PyData := .tuple (l.map dI)
def dSs (l : List Sg) : PyData := .tuple (l.map dS)
def dD (x : Nd) : PyData := .list [.int x.s, .int x.n, .int x.w, dI x.rest, dRs x.sg, dRs x.pl, dSs x.st]
theorem td_It (i : It) : tdD (dIt i) = true := by
  show tdAll (_ ++ _) = true
  exact tdAll_app (tdAll_ints _) rfl
theorem td_map {α : Type} {f : α → PyData} (h : ∀ x, tdD (f x) = true) (l : List α) : tdD (.tuple (l.map f)) = true := by
  show tdAll _ = true
  exact tdAll_of fun d hd => by
    obtain ⟨x, _, rfl⟩ := List.mem_map.mp hd
    exact h x
theorem td_I (l : List It) : tdD (dI l) = true := td_map td_It l
theorem td_P (k : Bool) (p : Pt) : tdD (dP k p) = true := by
  show tdAll (dPl k p) = true
  unfold dPl
  split
  · simp only [tdAll, td_I, Bool.and_self]
  · simp only [tdAll, td_I, dF, tdD, Bool.and_self]
theorem td_S (s : Sg) : tdD (dS s) = true := by
  show tdAll [_, _] = true
  simp only [tdAll, td_map (td_P s.1), Bool.and_true]
  rfl
theorem td_Rs (l : List (List It)) : tdD (dRs l) = true := td_map td_I l
theorem td_Ss (l : List Sg) : tdD (dSs l) = true := td_map td_S l
/-! ### equality of data -/
mutual
def plD : PyData → Bool
  | .list ds => plAll ds | .dict _ => false | .tuple ds => plAll ds | .none => true | .bool _ => false | .int _ => true | .str z => PyData.strOk z
def plAll : List PyData → Bool
  | [] => true
  | d :: ds => plD d && plAll ds
end
mutual
theorem eqv_pl : ∀ {d e : PyData}, plD d = true → plD e = true → (PyData.eqv d e = true ↔ d = e)
  | .none, e, _, h => by cases e <;> simp [PyData.eqv]; all_goals (simp [plD] at h)
  | .int i, e, _, h => by cases e <;> simp [PyData.eqv]; all_goals (simp [plD] at h)
  | .str i, e, _, h => by cases e <;> simp [PyData.eqv]; all_goals (simp [plD] at h)
  | .list ds, e, g, h => by
    cases e <;> simp [PyData.eqv]
    all_goals first | (simp [plD] at h; done) | skip
    exact eqvA_pl (by unfold plD at g; exact g) (by unfold plD at h; exact h)
  | .tuple ds, e, g, h => by
    cases e <;> simp [PyData.eqv]
    all_goals first | (simp [plD] at h; done) | skip
    exact eqvA_pl (by unfold plD at g; exact g) (by unfold plD at h; exact h)
  | .bool _, _, g, _ => by simp [plD] at g
  | .dict _, _, g, _ => by simp [plD] at g
theorem eqvA_pl : ∀ {ds es : List PyData}, plAll ds = true → plAll es = true → (PyData.eqvAll ds es = true ↔ ds = es)
  | [], [], _, _ => by simp [PyData.eqvAll]
  | [], _ :: _, _, _ => by simp [PyData.eqvAll]
  | _ :: _, [], _, _ => by simp [PyData.eqvAll]
  | d :: ds, e :: es, g, h => by
    unfold plAll at g h
    rw [Bool.and_eq_true] at g h
    simp only [PyData.eqvAll, Bool.and_eq_true, List.cons.injEq]
    rw [eqv_pl g.1 h.1, eqvA_pl g.2 h.2]
end
theorem plAll_of {ds : List PyData} : (∀ d ∈ ds, plD d = true) → plAll ds = true := by
  induction ds with
  | nil => intro _; rfl
  | cons d ds ih =>
    intro h
    unfold plAll
    rw [h d List.mem_cons_self, ih fun x hx => h x (List.mem_cons_of_mem _ hx)]
    rfl
theorem plAll_map {α : Type} {f : α → PyData} (h : ∀ x, plD (f x) = true) (l : List α) : plAll (l.map f) = true := plAll_of fun d hd => by
  obtain ⟨x, _, rfl⟩ := List.mem_map.mp hd
  exact h x
theorem plAll_app {a b : List PyData} (h : plAll a = true) (g : plAll b = true) : plAll (a ++ b) = true := by
  induction a with
  | nil => exact g
  | cons d a ih =>
    unfold plAll at h
    rw [Bool.and_eq_true] at h
    show (plD d && plAll (a ++ b)) = true
    rw [h.1, ih h.2]
    rfl
theorem pl_It (i : It) : plD (dIt i) = true := by
  show plAll (_ ++ _) = true
  exact plAll_app (plAll_map (fun _ => rfl) _) rfl
theorem pl_map {α : Type} {f : α → PyData} (h : ∀ x, plD (f x) = true) (l : List α) : plD (.tuple (l.map f)) = true := by
  show plAll _ = true
  exact plAll_map h l
theorem pl_I (l : List It) : plD (dI l) = true := pl_map pl_It l
theorem pl_P (k : Bool) (p : Pt) : plD (dP k p) = true := by
  show plAll (dPl k p) = true
  unfold dPl
  split
  · simp only [plAll, pl_I, Bool.and_self]
  · simp only [plAll, pl_I, dF, plD, Bool.and_self]
theorem pl_S (s : Sg) : plD (dS s) = true := by
  show plAll [_, _] = true
  have : plD (.str (kS s.1)) = true := by
    show PyData.strOk _ = true
    cases s.1 <;> decide +kernel
  simp only [plAll, this, pl_map (pl_P s.1), Bool.and_true]
theorem pl_Rs (l : List (List It)) : plD (dRs l) = true := pl_map pl_I l
theorem pl_Ss (l : List Sg) : plD (dSs l) = true := pl_map pl_S l
theorem pl_D (x : Nd) : plD (dD x) = true := by
  show plAll _ = true
  simp only [plAll, pl_I, pl_Rs, pl_Ss, Bool.and_true, Bool.and_self]
  rfl
/-- what == of two nets is made of -/
def eqN (x y : Nd) : Bool := PyData.eqv (dD x) (dD y)
theorem eqN_iff {x y : Nd} : eqN x y = true ↔ x.s = y.s ∧ x.n = y.n ∧ x.w = y.w ∧ dI x.rest = dI y.rest ∧ dRs x.sg = dRs y.sg ∧ dRs x.pl = dRs y.pl ∧ dSs x.st = dSs y.st := by
  unfold eqN
  rw [eqv_pl (pl_D x) (pl_D y)]
  unfold dD
  simp only [PyData.list.injEq, List.cons.injEq, PyData.int.injEq, and_true]
theorem eqN_refl (x : Nd) : eqN x x = true := eqN_iff.mpr ⟨rfl, rfl, rfl, rfl, rfl, rfl, rfl⟩
theorem eqN_symm (x y : Nd) : eqN x y = eqN y x := by
  rw [Bool.eq_iff_iff, eqN_iff, eqN_iff]
  constructor <;> (rintro ⟨a, b, c, d, e, f, g⟩; exact ⟨a.symm, b.symm, c.symm, d.symm, e.symm, f.symm, g.symm⟩)
theorem eqI {a b : List It} : PyData.eqv (dI a) (dI b) = true ↔ dI a = dI b := eqv_pl (pl_I _) (pl_I _)
theorem eqRs {a b : List (List It)} : PyData.eqv (dRs a) (dRs b) = true ↔ dRs a = dRs b := eqv_pl (pl_Rs _) (pl_Rs _)
theorem eqSs {a b : List Sg} : PyData.eqv (dSs a) (dSs b) = true ↔ dSs a = dSs b := eqv_pl (pl_Ss _) (pl_Ss _)
/-! ### depth and size of data -/
theorem dep_map {α : Type} {f : α → PyData} {n : Nat} (h : ∀ x, dep (f x) ≤ n) : ∀ l : List α, depAll (l.map f) ≤ n
  | [] => Nat.zero_le _
  | x :: l => by
    show max _ _ ≤ n
    have := h x
    have := dep_map h l
    omega
theorem dep_It (i : It) : dep (dIt i) ≤ 2 := by
  unfold dIt
  rw [dep_tup, depAll_app, depAll_ints]
  show max 0 (max (max 0 (max 0 0) + 1) 0) + 1 ≤ 2
  decide
theorem dep_I (l : List It) : dep (dI l) ≤ 3 := by
  unfold dI
  rw [dep_tup]
  have := dep_map dep_It l
  omega
theorem dep_P (k : Bool) (p : Pt) : dep (dP k p) ≤ 4 := by
  unfold dP dPl
  rw [dep_tup]
  have a := dep_I p.a
  have b := dep_I p.b
  have f : dep (dF p.f) = 1 := rfl
  split <;> simp only [depAll] <;> omega
theorem dep_S (s : Sg) : dep (dS s) ≤ 6 := by
  unfold dS
  rw [dep_tup]
  have := dep_map (dep_P s.1) s.2
  simp only [depAll, dep_tup, dep]
  omega
theorem dep_Ss (l : List Sg) : dep (dSs l) ≤ 7 := by
  unfold dSs
  rw [dep_tup]
  have := dep_map dep_S l
  omega
theorem dep_Rs (l : List (List It)) : dep (dRs l) ≤ 4 := by
  unfold dRs
  rw [dep_tup]
  have := dep_map dep_I l
  omega
theorem dep_D (x : Nd) : dep (dD x) ≤ 8 := by
  unfold dD
  rw [dep_lst]
  have a := dep_I x.rest
  have b := dep_Rs x.sg
  have c := dep_Rs x.pl
  have d := dep_Ss x.st
  simp only [depAll, dep]
  omega
mutual
theorem depth_dep : ∀ d : PyData, plD d = true → d.depth = dep d
  | .none, _ => by simp only [PyData.depth, dep]
  | .int _, _ => by simp only [PyData.depth, dep]
  | .str _, _ => by simp only [PyData.depth, dep]
  | .list ds, h => by simp only [PyData.depth, dep]; rw [depth_depA ds (by unfold plD at h; exact h)]
  | .tuple ds, h => by simp only [PyData.depth, dep]; rw [depth_depA ds (by unfold plD at h; exact h)]
  | .bool _, h => by simp [plD] at h
  | .dict _, h => by simp [plD] at h
theorem depth_depA : ∀ ds : List PyData, plAll ds = true → PyData.depthAll ds = depAll ds
  | [], _ => by simp only [PyData.depthAll, depAll]
  | d :: ds, h => by
    unfold plAll at h
    rw [Bool.and_eq_true] at h
    simp only [PyData.depthAll, depAll]
    rw [depth_dep d h.1, depth_depA ds h.2]
end
mutual
theorem lay_ok : ∀ d : PyData, plD d = true → okD d = true → d.canLay0 = true
  | .none, _, _ => by simp only [PyData.canLay0]
  | .int _, _, _ => by simp only [PyData.canLay0]
  | .str z, h, _ => by
    simp only [PyData.canLay0]
    unfold plD at h
    exact h
  | .list ds, h, g => by simp only [PyData.canLay0]; exact lay_okA ds (by unfold plD at h; exact h) (okD_lst.mp g).2
  | .tuple ds, h, g => by simp only [PyData.canLay0]; exact lay_okA ds (by unfold plD at h; exact h) (okD_tup.mp g).2
  | .bool _, h, _ => by simp [plD] at h
  | .dict _, h, _ => by simp [plD] at h
theorem lay_okA : ∀ ds : List PyData, plAll ds = true → okAll ds = true → PyData.canLayAll0 ds = true
  | [], _, _ => by simp only [PyData.canLayAll0]
  | d :: ds, h, g => by
    unfold plAll at h
    unfold okAll at g
    rw [Bool.and_eq_true] at h g
    simp only [PyData.canLayAll0]
    rw [lay_ok d h.1 g.1, lay_okA ds h.2 g.2]
    rfl
end
theorem shaped_ok {d : PyData} (h : plD d = true) (g : okD d = true) (l : dep d ≤ 8) : SeqAt.shaped d = true := by
  show (d.canLay0 && decide (d.depth ≤ 64)) = true
  rw [lay_ok d h g, depth_dep d h, decide_eq_true (by omega)]
  rfl
/-! ### what a net's data may hold -/
def OkI (l : List It) : Prop := l.length < 64 ∧ ∀ x ∈ l, x.1.length ≤ 2
structure OkN (x : Nd) : Prop where
  rest : OkI x.rest
  sg : x.sg.length ≤ 8 ∧ ∀ l ∈ x.sg, OkI l
  pl : x.pl.length ≤ 8 ∧ ∀ l ∈ x.pl, OkI l
  st : x.st.length ≤ 100 ∧ ∀ s ∈ x.st, s.2.length ≤ 100 ∧ ∀ p ∈ s.2, OkI p.a ∧ OkI p.b
theorem okAll_of {ds : List PyData} : (∀ d ∈ ds, okD d = true) → okAll ds = true := by
  induction ds with
  | nil => intro _; rfl
  | cons d ds ih =>
    intro h
    unfold okAll
    rw [h d List.mem_cons_self, ih fun x hx => h x (List.mem_cons_of_mem _ hx)]
    rfl
theorem ok_map {α : Type} {f : α → PyData} {l : List α} (hl : l.length ≤ 100000) (h : ∀ x ∈ l, okD (f x) = true) : okD (.tuple (l.map f)) = true :=
  okD_tup.mpr ⟨by rw [List.length_map]; exact hl, okAll_of fun d hd => by
    obtain ⟨x, hx, rfl⟩ := List.mem_map.mp hd
    exact h x hx⟩
theorem ok_I {l : List It} (h : OkI l) : okD (dI l) = true := ok_map (by have := h.1; omega) fun x hx => (dIt_ok (by have := h.2 x hx; omega)).1
theorem ok_Rs {l : List (List It)} {n : Nat} (hn : n ≤ 100) (h : l.length ≤ n ∧ ∀ x ∈ l, OkI x) : okD (dRs l) = true := ok_map (by omega) fun x hx => ok_I (h.2 x hx)
theorem ok_S {s : Sg} (h : s.2.length ≤ 100 ∧ ∀ p ∈ s.2, OkI p.a ∧ OkI p.b) : okD (dS s) = true := by
  have h1 : okD (.tuple (s.2.map (dP s.1))) = true := ok_map (by omega) fun p hp => by
    obtain ⟨a, b⟩ := h.2 p hp
    show okD (.tuple (dPl s.1 p)) = true
    unfold dPl
    split
    · exact okD_tup.mpr ⟨by show 2 ≤ 100000; decide, by simp only [okAll, ok_I a, ok_I b, Bool.and_self]⟩
    · have hf : okD (dF p.f) = true := okD_tup.mpr ⟨by show 2 ≤ 100000; decide, rfl⟩
      exact okD_tup.mpr ⟨by show 3 ≤ 100000; decide, by simp only [okAll, ok_I a, ok_I b, hf, Bool.and_self]⟩
  refine okD_tup.mpr ⟨by show 2 ≤ 100000; decide, ?_⟩
  have h2 : okD (.str (kS s.1)) = true := by cases s.1 <;> decide
  simp only [okAll, h1, h2, Bool.and_self]
theorem ok_Ss {l : List Sg} (h : l.length ≤ 100 ∧ ∀ s ∈ l, s.2.length ≤ 100 ∧ ∀ p ∈ s.2, OkI p.a ∧ OkI p.b) : okD (dSs l) = true := ok_map (by omega) fun x hx => ok_S (h.2 x hx)
theorem ok_D {x : Nd} (h : OkN x) : okD (dD x) = true := by
  refine okD_lst.mpr ⟨by show 7 ≤ 100000; decide, ?_⟩
  simp only [okAll, ok_I h.rest, ok_Rs (by decide) h.sg, ok_Rs (by decide) h.pl, ok_Ss h.st, Bool.and_self, Bool.and_true]
  rfl
theorem sh_D {x : Nd} (h : OkN x) : SeqAt.shaped (dD x) = true := shaped_ok (pl_D x) (ok_D h) (dep_D x)
theorem sh_I {l : List It} (h : OkI l) : SeqAt.shaped (dI l) = true := shaped_ok (pl_I _) (ok_I h) (Nat.le_trans (dep_I _) (by decide))
theorem sh_Rs {l : List (List It)} (h : l.length ≤ 8 ∧ ∀ x ∈ l, OkI x) : SeqAt.shaped (dRs l) = true := shaped_ok (pl_Rs _) (ok_Rs (by decide) h) (Nat.le_trans (dep_Rs _) (by decide))
theorem sh_Ss {l : List Sg} (h : l.length ≤ 100 ∧ ∀ s ∈ l, s.2.length ≤ 100 ∧ ∀ p ∈ s.2, OkI p.a ∧ OkI p.b) : SeqAt.shaped (dSs l) = true := shaped_ok (pl_Ss _) (ok_Ss h) (Nat.le_trans (dep_Ss _) (by decide))
end LK

set_option Elab.async false
set_option linter.all false
set_option maxRecDepth 100000
namespace LK
open PySem PySem.Spec PyProof.Rows L2
local macro_rules | `(tactic| walk_at "rs") => `(tactic| simp only [tFld, sFld, tMeth, tMethZ, tMakeK, tProp, tFmt, rEqO, rNeO, cxK, cxNK, tCallZ, tAsg, tOp, rI0, rS0, rB0, rI, rU, tUn, rEq, rNe, rIxL, rIxT, rIxS, rSetL, rSlLU, rSlS, rSlU, rCatL, rCatU, rRepL, rIn, tVar, tC, gName, gSub, tIfS, tTest, tB, tAnd, tOr, tNot, tNotV, tAndV, tOrV, tIf, tCall, tCons, tNil, tCB, tDrop, tRet, tRetN, tNext, tLstU, tTupU, tM0, tM1, tPar, tPar3, tAug, ipI, tBM, tBM0, rAppend, rPop, tBreak, sDPut, tDGet, tDGet2, tCont, tChain, tSl, tPart, tNoPart, L2.start, List.map, List.length_cons, List.length_nil, List.replicate, List.cons_append, List.nil_append, List.append_nil, List.getElem?_cons_zero, List.getElem?_cons_succ, List.set_cons_zero, List.set_cons_succ, Option.some.injEq, V.int.injEq, V.ref.injEq, V.str.injEq, V.bl.injEq, exists_eq_left', exists_eq_left, exists_and_left, decide_eq_true_eq, List.cons.injEq, and_true, true_and, scal, Bool.not_eq_true', decide_eq_false_iff_not, Nat.zero_add, Nat.reduceAdd, Nat.reduceSub, reduceCtorEq, false_and, exists_false, false_or, or_false, CPow, CPowW, CMul, CDiv, Int.reduceToNat, ↓reduceIte, wipe, sw, List.nil_append, List.singleton_append])
local macro_rules | `(tactic| walk_at "st") => `(tactic| (refine seq_op fun N hN => ?_; walk_at "rs"))
local macro_rules | `(tactic| walk_at "sd") => `(tactic| first | assumption | decide | omega)
local macro_rules | `(tactic| walk_at "rd") => `(tactic| repeat (first
  | refine ⟨_, SqL.of (by assumption), ?_⟩ | refine ⟨_, SqL.of upd_same, ?_⟩ | refine ⟨_, .inl (SqL.of (by assumption)), ?_⟩ | refine ⟨_, (by assumption : _ = some (HO.lst _)), ?_⟩ | refine ⟨_, upd_same, ?_⟩
  | refine ⟨_, rfl, ?_⟩ | refine And.intro (by walk_at "sd") ?_))

/-! ### the normal form of items, as a function -/
theorem cd_ij {d : Nat} (hd : d = 1 ∨ d = 2) {k l : List Int} (hk : k.length = d) (hl : l.length = d) (bk : TS.Bd 2000 k) (bl : TS.Bd 2000 l) (e : cd k = cd l) : k = l := by
  rcases hd with rfl | rfl
  · match k, hk, l, hl with
    | [x], _, [y], _ =>
      have h1 : cd [x] = x := by simp [cd, TS.code]
      have h2 : cd [y] = y := by simp [cd, TS.code]
      rw [h1, h2] at e
      rw [e]
  · match k, hk, l, hl with
    | [x, y], _, [x', y'], _ => exact cd_inj bk bl e
theorem ins_srt {k : List Int} : ∀ {L : List (List Int)}, (L.Pairwise fun a b => cd a < cd b) → (∀ l ∈ L, cd l ≠ cd k) → ∃ L' : List (List Int), (L'.Pairwise fun a b => cd a < cd b) ∧ ∀ x, x ∈ L' ↔ x = k ∨ x ∈ L
  | [], _, _ => ⟨[k], by simp, fun x => by simp⟩
  | a :: L, h, n => by
    rw [List.pairwise_cons] at h
    by_cases c : cd k < cd a
    · refine ⟨k :: a :: L, ?_, fun x => by simp⟩
      rw [List.pairwise_cons, List.pairwise_cons]
      refine ⟨fun x hx => ?_, h.1, h.2⟩
      rcases List.mem_cons.mp hx with rfl | hx
      · exact c
      · have := h.1 x hx
        omega
    · have na := n a List.mem_cons_self
      obtain ⟨L', s, m⟩ := ins_srt (k := k) h.2 fun l hl => n l (List.mem_cons_of_mem _ hl)
      refine ⟨a :: L', ?_, fun x => ?_⟩
      · rw [List.pairwise_cons]
        refine ⟨fun x hx => ?_, s⟩
        rcases (m x).mp hx with rfl | hx
        · omega
        · exact h.1 x hx
      · rw [List.mem_cons, m x, List.mem_cons]
        constructor <;> (rintro (h | h | h) <;> simp [h])
theorem ex_srt {d : Nat} (hd : d = 1 ∨ d = 2) : ∀ {l : List It}, (∀ x ∈ l, x.1.length = d ∧ TS.Bd 2000 x.1) → ∃ L : List (List Int), (L.Pairwise fun a b => cd a < cd b) ∧ ∀ k, k ∈ L ↔ ∃ x ∈ l, x.1 = k
  | [], _ => ⟨[], .nil, fun k => by simp⟩
  | a :: l, h => by
    obtain ⟨L, s, m⟩ := ex_srt hd (l := l) fun x hx => h x (List.mem_cons_of_mem _ hx)
    by_cases c : a.1 ∈ L
    · refine ⟨L, s, fun k => ?_⟩
      rw [m k]
      constructor
      · rintro ⟨x, hx, e⟩; exact ⟨x, List.mem_cons_of_mem _ hx, e⟩
      · rintro ⟨x, hx, e⟩
        rcases List.mem_cons.mp hx with rfl | hx
        · rw [← e]; exact (m _).mp c
        · exact ⟨x, hx, e⟩
    · obtain ⟨L', s', m'⟩ := ins_srt (k := a.1) s fun l hl e => c (by
        obtain ⟨x, hx, e2⟩ := (m l).mp hl
        obtain ⟨x1, x2⟩ := h x (List.mem_cons_of_mem _ hx)
        obtain ⟨a1, a2⟩ := h a List.mem_cons_self
        rw [e2] at x1 x2
        rw [← cd_ij hd x1 a1 x2 a2 e]; exact hl)
      refine ⟨L', s', fun k => ?_⟩
      rw [m' k, m k]
      constructor
      · rintro (rfl | ⟨x, hx, e⟩)
        · exact ⟨a, List.mem_cons_self, rfl⟩
        · exact ⟨x, List.mem_cons_of_mem _ hx, e⟩
      · rintro ⟨x, hx, e⟩
        rcases List.mem_cons.mp hx with rfl | hx
        · exact .inl e.symm
        · exact .inr ⟨x, hx, e⟩
theorem ex_norm {d : Nat} (hd : d = 1 ∨ d = 2) {l : List It} (h : ∀ x ∈ l, low x.2 ∧ x.1.length = d ∧ TS.Bd 2000 x.1) : ∃ m, Norm (accR l) m := by
  obtain ⟨L, s, m⟩ := ex_srt hd (l := l) fun x hx => ⟨(h x hx).2.1, (h x hx).2.2⟩
  exact ⟨_, norm_of (fun x hx => (h x hx).1) s fun x hx => (m _).mpr ⟨x, hx, rfl⟩⟩
open Classical in
noncomputable def nf (l : List It) : List It := if h : ∃ m, Norm (accR l) m then Classical.choose h else []
theorem nf_eq {l m : List It} (h : Norm (accR l) m) : m = nf l := by
  unfold nf
  rw [dif_pos ⟨m, h⟩]
  exact h.uniq (Classical.choose_spec (⟨m, h⟩ : ∃ m, Norm (accR l) m))
/-- items that may be handed in: m bits at most -/
structure Gi (m d : Nat) (w : Int) (l : List It) : Prop where
  hd : d = 1 ∨ d = 2
  w2 : w ≤ 2000
  ft : Ft d 40 m 63 l
  bd : ∀ x ∈ l, TS.Bd w x.1
theorem Gi.le {m m' d : Nat} {w w' : Int} {l : List It} (g : Gi m d w l) (h : m ≤ m') (hw : w ≤ w') (w2 : w' ≤ 2000) : Gi m' d w' l := ⟨g.hd, w2, g.ft.of (Nat.le_refl _) h (Nat.le_refl _), fun x hx j hj => ⟨(g.bd x hx j hj).1, by have := (g.bd x hx j hj).2; omega⟩⟩
theorem Gi.fit {m d : Nat} {w : Int} {l : List It} (g : Gi m d w l) (h : m ≤ 3900) : Fit d l := g.ft.fit (by decide) h (by decide)
theorem Gi.norm {m d : Nat} {w : Int} {l : List It} (g : Gi m d w l) : Norm (accR l) (nf l) := by
  obtain ⟨n, h⟩ := ex_norm g.hd (l := l) fun x hx => ⟨(g.ft.it x hx).1, (g.ft.it x hx).2.2⟩
  rw [← nf_eq h]; exact h
theorem norm_len {S : List (List Int)} {R : List Int → Rat} : ∀ {l : List It}, Norm R l → (∀ x ∈ l, x.1 ∈ S) → l.length ≤ S.length := by
  intro l h hs
  have nd : (l.map (·.1)).Nodup := by
    rw [List.nodup_iff_pairwise_ne, List.pairwise_map]
    exact h.srt.imp fun {a b} h e => by rw [e] at h; omega
  have := pigeon nd (S := S) fun k hk => by
    obtain ⟨x, hx, rfl⟩ := List.mem_map.mp hk
    exact hs x hx
  rwa [List.length_map] at this
theorem Gi.nf {m d : Nat} {w : Int} {l : List It} (g : Gi m d w l) (h : m ≤ 3900) : Gi (m + 2) d w (nf l) := by
  have nm := g.norm
  have l40 : (LK.nf l).length ≤ 40 := by
    obtain ⟨S, h1, h2⟩ := g.ft.few.of nm.spot
    exact Nat.le_trans (norm_len nm h2) h1
  refine ⟨g.hd, g.w2, g.ft.norm h nm (by omega), fun x hx => ?_⟩
  obtain ⟨y, hy, e⟩ := nm.spot x hx
  rw [← e]; exact g.bd y hy
theorem Gi.nf2 {m d : Nat} {w : Int} {l : List It} (g : Gi m d w l) : LK.nf (LK.nf l) = LK.nf l := by
  have nm := g.norm
  refine (nf_eq ?_).symm
  rw [show accR (LK.nf l) = accR l from funext (accR_norm nm)]
  exact nm
theorem Gi.ok {m d : Nat} {w : Int} {l : List It} (g : Gi m d w l) : OkI l := by
  refine ⟨Nat.lt_succ_of_le g.ft.len, fun x hx => ?_⟩
  have h1 := (g.ft.it x hx).2.2.1
  have h2 := g.hd
  omega
theorem Gi.okn {m d : Nat} {w : Int} {l : List It} (g : Gi m d w l) (h : m ≤ 3900) : OkI (LK.nf l) := (g.nf h).ok
theorem Gi.nil {m d : Nat} {w : Int} (hd : d = 1 ∨ d = 2) (w2 : w ≤ 2000) (h : 1 ≤ m) : Gi m d w [] := ⟨hd, w2, ⟨fun x hx => absurd hx (by simp), fun k => by show 1 ≤ m; exact h, ⟨[], Nat.zero_le _, fun x hx => absurd hx (by simp)⟩, Nat.zero_le _⟩, fun x hx => absurd hx (by simp)⟩
/-! ### parts, stages, nets -/
def dw (k : Bool) : Nat := if k = true then 2 else 1
theorem dw_or (k : Bool) : dw k = 1 ∨ dw k = 2 := by cases k <;> simp [dw]
structure Gp (m : Nat) (w : Int) (k : Bool) (p : Pt) : Prop where
  a : Gi m (dw k) w p.a
  b : Gi m (dw k) w p.b
  f : low p.f ∧ wt p.f ≤ 3900
structure Gs (m : Nat) (w : Int) (s : Sg) : Prop where
  len : s.2.length ≤ 3
  it : ∀ p ∈ s.2, Gp m w s.1 p
structure Gn (m : Nat) (x : Nd) : Prop where
  s : 2 ≤ x.s ∧ x.s ≤ 5
  n : 1 ≤ x.n ∧ x.n ≤ 8
  w : 1 ≤ x.w ∧ x.w ≤ 2000
  rest : Gi m 1 x.w x.rest
  sg : (x.sg.length : Int) = x.s ∧ ∀ l ∈ x.sg, Gi m 1 x.w l
  pl : (x.pl.length : Int) = x.n ∧ ∀ l ∈ x.pl, Gi m 1 x.w l
  st : x.st.length ≤ 100 ∧ ∀ s ∈ x.st, Gs m x.w s
noncomputable def nfP (p : Pt) : Pt := ⟨nf p.a, p.f, nf p.b⟩
noncomputable def nfS (s : Sg) : Sg := (s.1, s.2.map nfP)
noncomputable def nfN (x : Nd) : Nd := ⟨x.s, x.n, x.w, nf x.rest, x.sg.map nf, x.pl.map nf, x.st.map nfS⟩
theorem Gp.nf {m : Nat} {w : Int} {k : Bool} {p : Pt} (g : Gp m w k p) (h : m ≤ 3900) : Gp (m + 2) w k (nfP p) := ⟨g.a.nf h, g.b.nf h, g.f⟩
theorem Gp.nf2 {m : Nat} {w : Int} {k : Bool} {p : Pt} (g : Gp m w k p) : nfP (nfP p) = nfP p := by
  unfold nfP
  dsimp only
  rw [g.a.nf2, g.b.nf2]
theorem Gs.nf {m : Nat} {w : Int} {s : Sg} (g : Gs m w s) (h : m ≤ 3900) : Gs (m + 2) w (nfS s) := ⟨by show (s.2.map nfP).length ≤ 3; rw [List.length_map]; exact g.len, fun p hp => by
  obtain ⟨q, hq, rfl⟩ := List.mem_map.mp hp
  exact (g.it q hq).nf h⟩
theorem map_fix {α : Type} {f : α → α} {l : List α} (h : ∀ x ∈ l, f (f x) = f x) : (l.map f).map f = l.map f := by
  rw [List.map_map]
  exact List.map_congr_left fun x hx => h x hx
theorem Gs.nf2 {m : Nat} {w : Int} {s : Sg} (g : Gs m w s) : nfS (nfS s) = nfS s := by
  unfold nfS
  dsimp only
  rw [map_fix fun p hp => (g.it p hp).nf2]
theorem Gn.nf {m : Nat} {x : Nd} (g : Gn m x) (h : m ≤ 3900) : Gn (m + 2) (nfN x) := by
  refine ⟨g.s, g.n, g.w, g.rest.nf h, ⟨by show ((x.sg.map LK.nf).length : Int) = _; rw [List.length_map]; exact g.sg.1, fun l hl => ?_⟩, ⟨by show ((x.pl.map LK.nf).length : Int) = _; rw [List.length_map]; exact g.pl.1, fun l hl => ?_⟩, ⟨by show (x.st.map nfS).length ≤ 100; rw [List.length_map]; exact g.st.1, fun l hl => ?_⟩⟩
  · obtain ⟨q, hq, rfl⟩ := List.mem_map.mp hl
    exact (g.sg.2 q hq).nf h
  · obtain ⟨q, hq, rfl⟩ := List.mem_map.mp hl
    exact (g.pl.2 q hq).nf h
  · obtain ⟨q, hq, rfl⟩ := List.mem_map.mp hl
    exact (g.st.2 q hq).nf h
theorem Gn.nf2 {m : Nat} {x : Nd} (g : Gn m x) : nfN (nfN x) = nfN x := by
  unfold nfN
  dsimp only
  rw [g.rest.nf2, map_fix fun l hl => (g.sg.2 l hl).nf2, map_fix fun l hl => (g.pl.2 l hl).nf2, map_fix fun l hl => (g.st.2 l hl).nf2]
theorem Gs.ok {m : Nat} {w : Int} {s : Sg} (g : Gs m w s) : s.2.length ≤ 100 ∧ ∀ p ∈ s.2, OkI p.a ∧ OkI p.b := ⟨by have := g.len; omega, fun p hp => ⟨(g.it p hp).a.ok, (g.it p hp).b.ok⟩⟩
theorem Gn.ok {m : Nat} {x : Nd} (g : Gn m x) : OkN x := by
  have h1 := g.sg.1
  have h2 := g.pl.1
  have h3 := g.s
  have h4 := g.n
  exact ⟨g.rest.ok, ⟨by omega, fun l hl => (g.sg.2 l hl).ok⟩, ⟨by omega, fun l hl => (g.pl.2 l hl).ok⟩, ⟨g.st.1, fun s hs => (g.st.2 s hs).ok⟩⟩
theorem Gp.le {m m' : Nat} {w w' : Int} {k : Bool} {p : Pt} (g : Gp m w k p) (h : m ≤ m') (hw : w ≤ w') (w2 : w' ≤ 2000) : Gp m' w' k p := ⟨g.a.le h hw w2, g.b.le h hw w2, g.f⟩
theorem Gs.le {m m' : Nat} {w w' : Int} {s : Sg} (g : Gs m w s) (h : m ≤ m') (hw : w ≤ w') (w2 : w' ≤ 2000) : Gs m' w' s := ⟨g.len, fun p hp => (g.it p hp).le h hw w2⟩
end LK

set_option Elab.async false
set_option linter.all false
set_option maxRecDepth 100000
namespace LK
open PySem PySem.Spec PyProof.Rows L2
local macro_rules | `(tactic| walk_at "rs") => `(tactic| simp only [tFld, sFld, tMeth, tMethZ, tMakeK, tProp, tFmt, rEqO, rNeO, cxK, cxNK, tCallZ, tAsg, tOp, rI0, rS0, rB0, rI, rU, tUn, rEq, rNe, rIxL, rIxT, rIxS, rSetL, rSlLU, rSlS, rSlU, rCatL, rCatU, rRepL, rIn, tVar, tC, gName, gSub, tIfS, tTest, tB, tAnd, tOr, tNot, tNotV, tAndV, tOrV, tIf, tCall, tCons, tNil, tCB, tDrop, tRet, tRetN, tNext, tLstU, tTupU, tM0, tM1, tPar, tPar3, tAug, ipI, tBM, tBM0, rAppend, rPop, tBreak, sDPut, tDGet, tDGet2, tCont, tChain, tSl, tPart, tNoPart, L2.start, List.map, List.length_cons, List.length_nil, List.replicate, List.cons_append, List.nil_append, List.append_nil, List.getElem?_cons_zero, List.getElem?_cons_succ, List.set_cons_zero, List.set_cons_succ, Option.some.injEq, V.int.injEq, V.ref.injEq, V.str.injEq, V.bl.injEq, exists_eq_left', exists_eq_left, exists_and_left, decide_eq_true_eq, List.cons.injEq, and_true, true_and, scal, Bool.not_eq_true', decide_eq_false_iff_not, Nat.zero_add, Nat.reduceAdd, Nat.reduceSub, reduceCtorEq, false_and, exists_false, false_or, or_false, CPow, CPowW, CMul, CDiv, Int.reduceToNat, ↓reduceIte, wipe, sw, List.nil_append, List.singleton_append])
local macro_rules | `(tactic| walk_at "st") => `(tactic| (refine seq_op fun N hN => ?_; walk_at "rs"))
local macro_rules | `(tactic| walk_at "sd") => `(tactic| first | assumption | decide | omega)
local macro_rules | `(tactic| walk_at "rd") => `(tactic| repeat (first
  | refine ⟨_, SqL.of (by assumption), ?_⟩ | refine ⟨_, SqL.of upd_same, ?_⟩ | refine ⟨_, .inl (SqL.of (by assumption)), ?_⟩ | refine ⟨_, (by assumption : _ = some (HO.lst _)), ?_⟩ | refine ⟨_, upd_same, ?_⟩
  | refine ⟨_, rfl, ?_⟩ | refine And.intro (by walk_at "sd") ?_))

/-! ### lists of values and what they stand for -/
inductive Al {α : Type} (R : V → α → Prop) : List V → List α → Prop
  | nil : Al R [] []
  | cons {v : V} {x : α} {vs : List V} {xs : List α} : R v x → Al R vs xs → Al R (v :: vs) (x :: xs)
namespace Al
variable {α β : Type} {R S : V → α → Prop}
theorem imp (h : ∀ v x, R v x → S v x) : ∀ {vs : List V} {xs : List α}, Al R vs xs → Al S vs xs
  | _, _, .nil => .nil
  | _, _, .cons a b => .cons (h _ _ a) (b.imp h)
theorem imp' : ∀ {vs : List V} {xs : List α}, (∀ v x, v ∈ vs → x ∈ xs → R v x → S v x) → Al R vs xs → Al S vs xs
  | _, _, _, .nil => .nil
  | _, _, h, .cons a b => .cons (h _ _ List.mem_cons_self List.mem_cons_self a) (b.imp' fun v x h1 h2 => h v x (List.mem_cons_of_mem _ h1) (List.mem_cons_of_mem _ h2))
theorem len : ∀ {vs : List V} {xs : List α}, Al R vs xs → vs.length = xs.length
  | _, _, .nil => rfl
  | _, _, .cons _ b => congrArg Nat.succ b.len
theorem get : ∀ {vs : List V} {xs : List α} {i : Nat} {v : V}, Al R vs xs → vs[i]? = some v → ∃ x, xs[i]? = some x ∧ R v x
  | _, _, _, _, .nil, h => by simp at h
  | _, _, 0, _, .cons a _, h => by simp at h; subst h; exact ⟨_, rfl, a⟩
  | _, _, i + 1, _, .cons _ b, h => by
    obtain ⟨x, h1, h2⟩ := b.get (i := i) (by simpa using h)
    exact ⟨x, by simpa using h1, h2⟩
theorem get' : ∀ {vs : List V} {xs : List α} {i : Nat} {x : α}, Al R vs xs → xs[i]? = some x → ∃ v, vs[i]? = some v ∧ R v x
  | _, _, _, _, .nil, h => by simp at h
  | _, _, 0, _, .cons a _, h => by simp at h; subst h; exact ⟨_, rfl, a⟩
  | _, _, i + 1, _, .cons _ b, h => by
    obtain ⟨x, h1, h2⟩ := b.get' (i := i) (by simpa using h)
    exact ⟨x, by simpa using h1, h2⟩
theorem mem {vs : List V} {xs : List α} {v : V} (h : Al R vs xs) (m : v ∈ vs) : ∃ x ∈ xs, R v x := by
  obtain ⟨i, hi⟩ := List.getElem?_of_mem m
  obtain ⟨x, h1, h2⟩ := h.get hi
  exact ⟨x, List.mem_of_getElem? h1, h2⟩
theorem app : ∀ {vs us : List V} {xs ys : List α}, Al R vs xs → Al R us ys → Al R (vs ++ us) (xs ++ ys)
  | _, _, _, _, .nil, h => h
  | _, _, _, _, .cons a b, h => .cons a (b.app h)
theorem take : ∀ {vs : List V} {xs : List α} (n : Nat), Al R vs xs → Al R (vs.take n) (xs.take n)
  | _, _, 0, _ => .nil
  | _, _, _ + 1, .nil => .nil
  | _, _, n + 1, .cons a b => .cons a (b.take n)
theorem drop : ∀ {vs : List V} {xs : List α} (n : Nat), Al R vs xs → Al R (vs.drop n) (xs.drop n)
  | _, _, 0, h => h
  | _, _, _ + 1, .nil => .nil
  | _, _, n + 1, .cons _ b => b.drop n
theorem rev : ∀ {vs : List V} {xs : List α}, Al R vs xs → Al R vs.reverse xs.reverse
  | _, _, .nil => .nil
  | _, _, .cons a b => by rw [List.reverse_cons, List.reverse_cons]; exact b.rev.app (.cons a .nil)
theorem set : ∀ {vs : List V} {xs : List α} (n : Nat) {v : V} {x : α}, Al R vs xs → R v x → Al R (vs.set n v) (xs.set n x)
  | _, _, _, _, _, .nil, _ => .nil
  | _, _, 0, _, _, .cons _ b, h => .cons h b
  | _, _, n + 1, _, _, .cons a b, h => .cons a (b.set n h)
theorem of_get : ∀ {vs : List V} {xs : List α}, vs.length = xs.length → (∀ (i : Nat) v x, vs[i]? = some v → xs[i]? = some x → R v x) → Al R vs xs
  | [], [], _, _ => .nil
  | v :: vs, x :: xs, l, h => .cons (h 0 v x rfl rfl) (of_get (by simpa using l) fun i a b h1 h2 => h (i + 1) a b (by simpa using h1) (by simpa using h2))
/-- the values of what is known of each -/
theorem ex : ∀ {vs : List V}, (∀ v ∈ vs, ∃ x, R v x) → ∃ xs : List α, Al R vs xs
  | [], _ => ⟨[], .nil⟩
  | v :: vs, h => by
    obtain ⟨x, hx⟩ := h v List.mem_cons_self
    obtain ⟨xs, hxs⟩ := ex (vs := vs) fun u hu => h u (List.mem_cons_of_mem _ hu)
    exact ⟨x :: xs, .cons hx hxs⟩
theorem mem' {vs : List V} {xs : List α} {x : α} (h : Al R vs xs) (m : x ∈ xs) : ∃ v ∈ vs, R v x := by
  obtain ⟨i, hi⟩ := List.getElem?_of_mem m
  obtain ⟨v, h1, h2⟩ := h.get' hi
  exact ⟨v, List.mem_of_getElem? h1, h2⟩
theorem snoc_take {vs : List V} {xs : List α} {i : Nat} {v : V} {x : α} (h : Al R vs (xs.take i)) (hx : xs[i]? = some x) (hv : R v x) : Al R (vs ++ [v]) (xs.take (i + 1)) := by
  rw [List.take_add_one, hx]
  exact h.app (.cons hv .nil)
end Al
/-! ### handed parts at the heap -/
section
variable {K : PySem.W.Frag} {H H' : Hp}
def IV (K : PySem.W.Frag) (H : Hp) (v : V) (l : List It) : Prop := ∃ a xs, v = .ref a ∧ SeqI K H a xs ∧ Its K H xs l
def RV (K : PySem.W.Frag) (H : Hp) (v : V) (l : List (List It)) : Prop := ∃ a xs, v = .ref a ∧ SeqI K H a xs ∧ Al (IV K H) xs l
def PV (K : PySem.W.Frag) (H : Hp) (k : Bool) (v : V) (p : Pt) : Prop := ∃ a x y, v = .ref a ∧ IV K H x p.a ∧ IV K H y p.b ∧ if k = true then SqT K H a [x, y] else ∃ u, SqT K H a [x, .ref u, y] ∧ Pr K H u p.f.1 p.f.2
def SV (K : PySem.W.Frag) (H : Hp) (v : V) (s : Sg) : Prop := ∃ a p xs, v = .ref a ∧ SqT K H a [.str (kS s.1), .ref p] ∧ SeqI K H p xs ∧ Al (PV K H s.1) xs s.2
def SsV (K : PySem.W.Frag) (H : Hp) (v : V) (l : List Sg) : Prop := ∃ a xs, v = .ref a ∧ SeqI K H a xs ∧ Al (SV K H) xs l
theorem IV.same (s : Same H H') {v : V} {l : List It} : IV K H v l → IV K H' v l := fun ⟨a, xs, e, h, i⟩ => ⟨a, xs, e, h.same s, i.same s⟩
theorem RV.same (s : Same H H') {v : V} {l : List (List It)} : RV K H v l → RV K H' v l := fun ⟨a, xs, e, h, i⟩ => ⟨a, xs, e, h.same s, i.imp fun _ _ => IV.same s⟩
theorem PV.same (s : Same H H') {k : Bool} {v : V} {p : Pt} : PV K H k v p → PV K H' k v p := fun ⟨a, x, y, e, hx, hy, h⟩ => ⟨a, x, y, e, hx.same s, hy.same s, by
  split at h
  · rename_i c; rw [if_pos c]; exact Same.seqT s h
  · rename_i c; rw [if_neg c]; obtain ⟨u, h1, h2⟩ := h; exact ⟨u, Same.seqT s h1, Same.seqT s h2⟩⟩
theorem SV.same (s : Same H H') {v : V} {g : Sg} : SV K H v g → SV K H' v g := fun ⟨a, p, xs, e, h, i, r⟩ => ⟨a, p, xs, e, Same.seqT s h, i.same s, r.imp fun _ _ => PV.same s⟩
theorem SsV.same (s : Same H H') {v : V} {l : List Sg} : SsV K H v l → SsV K H' v l := fun ⟨a, xs, e, h, i⟩ => ⟨a, xs, e, h.same s, i.imp fun _ _ => SV.same s⟩
/-! out of data -/
theorem dpa_ints : ∀ {k : List Int} {xs : List V} {ds : List PyData}, DpAll K H xs (k.map PyData.int ++ ds) → ∃ ys, xs = k.map V.int ++ ys ∧ DpAll K H ys ds
  | [], xs, _, h => ⟨xs, rfl, h⟩
  | i :: k, _, _, .cons a b => by
    cases a
    obtain ⟨ys, rfl, h⟩ := dpa_ints (k := k) b
    exact ⟨ys, rfl, h⟩
theorem its_of : ∀ {l : List It} {xs : List V}, DpAll K H xs (l.map dIt) → Its K H xs l
  | [], _, .nil => .nil
  | (k, f) :: l, _, .cons a b => by
    cases a with
    | tup h1 h2 =>
      obtain ⟨ys, rfl, h3⟩ := dpa_ints (k := k) h2
      cases h3 with
      | cons h4 h5 =>
        cases h5
        cases h4 with
        | tup h6 h7 =>
          cases h7 with
          | cons h8 h9 =>
            cases h8
            cases h9 with
            | cons h10 h11 =>
              cases h10
              cases h11
              exact .cons h1 h6 (its_of b)
theorem iv_of {v : V} {l : List It} (h : Dp K H v (dI l)) : IV K H v l := by
  cases h with
  | tup h1 h2 => exact ⟨_, _, rfl, .inr h1, its_of h2⟩
theorem al_of {α : Type} {f : α → PyData} {R : V → α → Prop} (h : ∀ v x, Dp K H v (f x) → R v x) : ∀ {l : List α} {xs : List V}, DpAll K H xs (l.map f) → Al R xs l
  | [], _, .nil => .nil
  | _ :: _, _, .cons a b => .cons (h _ _ a) (al_of h b)
theorem rv_of {v : V} {l : List (List It)} (h : Dp K H v (dRs l)) : RV K H v l := by
  cases h with
  | tup h1 h2 => exact ⟨_, _, rfl, .inr h1, al_of (fun _ _ => iv_of) h2⟩
theorem pr_of {v : V} {f : Fr} (h : Dp K H v (dF f)) : ∃ u, v = .ref u ∧ Pr K H u f.1 f.2 := by
  cases h with
  | tup h6 h7 =>
    cases h7 with
    | cons h8 h9 =>
      cases h8
      cases h9 with
      | cons h10 h11 =>
        cases h10
        cases h11
        exact ⟨_, rfl, h6⟩
theorem pv_of {k : Bool} {v : V} {p : Pt} (h : Dp K H v (dP k p)) : PV K H k v p := by
  cases h with
  | tup h1 h2 =>
    unfold dPl at h2
    cases k with
    | true =>
      rw [if_pos rfl] at h2
      cases h2 with
      | cons a b => cases b with
        | cons b c =>
          cases c
          exact ⟨_, _, _, rfl, iv_of a, iv_of b, by rw [if_pos rfl]; exact h1⟩
    | false =>
      rw [if_neg (by decide)] at h2
      cases h2 with
      | cons a b => cases b with
        | cons w0 b => cases b with
          | cons b c =>
            cases c
            obtain ⟨u, rfl, hu⟩ := pr_of w0
            exact ⟨_, _, _, rfl, iv_of a, iv_of b, by rw [if_neg (by decide)]; exact ⟨u, h1, hu⟩⟩
theorem sv_of {v : V} {s : Sg} (h : Dp K H v (dS s)) : SV K H v s := by
  cases h with
  | tup h1 h2 =>
    cases h2 with
    | cons a b => cases b with
      | cons b c =>
        cases c
        cases a
        cases b with
        | tup h3 h4 => exact ⟨_, _, _, rfl, h1, .inr h3, al_of (fun _ _ => pv_of) h4⟩
theorem ssv_of {v : V} {l : List Sg} (h : Dp K H v (dSs l)) : SsV K H v l := by
  cases h with
  | tup h1 h2 => exact ⟨_, _, rfl, .inr h1, al_of (fun _ _ => sv_of) h2⟩
/-! to data -/
theorem dpa_al {α : Type} {f : α → PyData} : ∀ {l : List α} {xs : List V}, Al (fun v x => Dp K H v (f x)) xs l → DpAll K H xs (l.map f)
  | _, _, .nil => .nil
  | _, _, .cons a b => .cons a (dpa_al b)
theorem dI_at {a : Addr} {xs : List V} {l : List It} (h : SqT K H a xs) (i : Its K H xs l) : Dp K H (.ref a) (dI l) := .tup h i.dp
theorem dF_at {a : Addr} {f : Fr} (h : Pr K H a f.1 f.2) : Dp K H (.ref a) (dF f) := .tup h (.cons (.int _) (.cons (.int _) .nil))
end
/-! ### what is new: H' without the lists of H -/
def fr (H H' : Hp) : Hp := fun a => match H' a with
  | some (.lst xs) => if H a = none then some (.lst xs) else none
  | o => o
section
variable {H H1 H' H'' : Hp} {N : Nat} {b c : Addr}
theorem fr_le : Same (fr H H') H' := fun a o h => by
  unfold fr at h
  split at h
  · rename_i xs e
    split at h
    · rw [e]; exact h
    · cases h
  · exact h
theorem fr_tk : Tk H' (fr H H') := fun a o h n => by
  unfold fr
  split
  · rename_i xs e; rw [h] at e; exact absurd (Option.some.inj e) (n xs)
  · exact h
theorem fr_new {a : Addr} {xs : List V} (h0 : H a = none) (h : H' a = some (.lst xs)) : fr H H' a = some (.lst xs) := by
  unfold fr
  rw [h]
  dsimp only
  rw [if_pos h0]
theorem fr_lst {a : Addr} {xs : List V} (h : fr H H' a = some (.lst xs)) : H a = none := by
  unfold fr at h
  split at h
  · rename_i ys e
    split at h
    · rename_i q; exact q
    · cases h
  · rename_i n; exact absurd h (n xs)
/-- what changes is old lists alone -/
theorem fr_to (t : Tk H' H'') (l : ∀ a xs, H a = none → H' a = some (.lst xs) → H'' a = some (.lst xs)) : Same (fr H H') (fr H H'') := fun a o h => by
  have h2 := fr_le a o h
  by_cases q : ∃ xs, o = .lst xs
  · obtain ⟨xs, rfl⟩ := q
    exact fr_new (fr_lst h) (l a xs (fr_lst h) h2)
  · have n : ∀ xs, o ≠ .lst xs := fun xs e => q ⟨xs, e⟩
    exact fr_tk a o (t a o h2 n) n
theorem fr_anti (d : ∀ a, H a = none → H1 a = none) : Same (fr H H') (fr H1 H') := fun a o h => by
  have h2 := fr_le a o h
  by_cases q : ∃ xs, o = .lst xs
  · obtain ⟨xs, rfl⟩ := q
    exact fr_new (d a (fr_lst h)) h2
  · exact fr_tk a o h2 fun xs e => q ⟨xs, e⟩
theorem fr_same (s : Same H' H'') : Same (fr H H') (fr H H'') := fr_to (Tk.of s) fun a xs _ h => s _ _ h
theorem fr_kp {M : Nat} (B : Bag N H b c) (B' : Bag M H' b c) (k : Kp b H' H'') : Same (fr H H') (fr H H'') := fr_to (Tk.kp B' k) fun a xs h0 h => k.hd h (new_ne B h0)
theorem fr_hb (B : Bag N H b c) {M : Nat} (B' : Bag M H' b c) : Same (fr H H') (hb H' b) := fun a o h => by
  have h2 := fr_le a o h
  by_cases q : ∃ xs, o = .lst xs
  · obtain ⟨xs, rfl⟩ := q
    rw [hb_ne (new_ne B (fr_lst h))]; exact h2
  · exact Tk.hb B' a o h2 fun xs e => q ⟨xs, e⟩
theorem fr_upd {p : Addr} {xs : List V} {o : HO} (h : H' p = some (.lst xs)) (n : H p ≠ none) : Same (fr H H') (fr H (L2.upd H' p o)) := fr_to (Tk.upd h) fun a ys h0 h1 => by
  have na : a ≠ p := fun z => n (by rw [← z]; exact h0)
  rw [upd_ne na]; exact h1
end
end LK

set_option Elab.async false
set_option linter.all false
set_option maxRecDepth 100000
namespace LK
open PySem PySem.Spec PyProof.Rows L2
local macro_rules | `(tactic| walk_at "rs") => `(tactic| simp only [tFld, sFld, tMeth, tMethZ, tMakeK, tProp, tFmt, rEqO, rNeO, cxK, cxNK, tCallZ, tAsg, tOp, rI0, rS0, rB0, rI, rU, tUn, rEq, rNe, rIxL, rIxT, rIxS, rSetL, rSlLU, rSlS, rSlU, rCatL, rCatU, rRepL, rIn, tVar, tC, gName, gSub, tIfS, tTest, tB, tAnd, tOr, tNot, tNotV, tAndV, tOrV, tIf, tCall, tCons, tNil, tCB, tDrop, tRet, tRetN, tNext, tLstU, tTupU, tM0, tM1, tPar, tPar3, tAug, ipI, tBM, tBM0, rAppend, rPop, tBreak, sDPut, tDGet, tDGet2, tCont, tChain, tSl, tPart, tNoPart, L2.start, List.map, List.length_cons, List.length_nil, List.replicate, List.cons_append, List.nil_append, List.append_nil, List.getElem?_cons_zero, List.getElem?_cons_succ, List.set_cons_zero, List.set_cons_succ, Option.some.injEq, V.int.injEq, V.ref.injEq, V.str.injEq, V.bl.injEq, exists_eq_left', exists_eq_left, exists_and_left, decide_eq_true_eq, List.cons.injEq, and_true, true_and, scal, Bool.not_eq_true', decide_eq_false_iff_not, Nat.zero_add, Nat.reduceAdd, Nat.reduceSub, reduceCtorEq, false_and, exists_false, false_or, or_false, CPow, CPowW, CMul, CDiv, Int.reduceToNat, ↓reduceIte, wipe, sw, List.nil_append, List.singleton_append])
local macro_rules | `(tactic| walk_at "st") => `(tactic| (refine seq_op fun N hN => ?_; walk_at "rs"))
local macro_rules | `(tactic| walk_at "sd") => `(tactic| first | assumption | decide | omega)
local macro_rules | `(tactic| walk_at "rd") => `(tactic| repeat (first
  | refine ⟨_, SqL.of (by assumption), ?_⟩ | refine ⟨_, SqL.of upd_same, ?_⟩ | refine ⟨_, .inl (SqL.of (by assumption)), ?_⟩ | refine ⟨_, (by assumption : _ = some (HO.lst _)), ?_⟩ | refine ⟨_, upd_same, ?_⟩
  | refine ⟨_, rfl, ?_⟩ | refine And.intro (by walk_at "sd") ?_))

/-! ### comprehensions over a list or a tuple -/
/-- the items known by a function -/
theorem lc_lt1 {K : PySem.W.Frag} {a : Addr} {xs : List V} {te tl : TE} {i : Nat} {σ : L2.St} {H1 : Hp} {Q : VK} (f : V → V) (hv : ∀ Q : VK, Q (.ref a) H1 → tl σ H1 Q) (h : SeqI K H1 a xs) (hn : xs.length ≤ 1000000)
    (hs : ∀ x H, x ∈ xs → Same H1 H → ∀ Q2 : VK, (∀ H3, Same H H3 → Q2 (f x) H3) → te ((wipe σ [i]).set i (some x)) H Q2)
    (hq : ∀ D H', Same H1 H' → H1 D = none → H' D = some (.lst (xs.map f)) → Q (.ref D) H') : tLc (iLT K tl) (gName i) tYes te [i] σ H1 Q := by
  rcases h with h | h
  · exact .inl (hv _ ⟨a, rfl, ⟨xs, h⟩, fun D hD => lc_map (walk_list (K := K) (a := a) (xs := xs)) xs f hD hn rfl (fun k H x H' _ y => y) (fun H s => s.seq h) hs fun H' s e => hq D H' s hD e⟩)
  · exact .inr (hv _ ⟨a, rfl, ⟨xs, h⟩, fun D hD => lc_map (walk_tup (K := K) (a := a) (xs := xs)) xs f hD hn rfl (fun k H x H' _ y => y) (fun H s => Same.seqT s h) hs fun H' s e => hq D H' s hD e⟩)
/-- the items new things of tuples and scalars -/
theorem lc_al {α : Type} {K : PySem.W.Frag} {a : Addr} {xs : List V} {te tl : TE} {i : Nat} {σ : L2.St} {H1 : Hp} {Q : VK} (ys : List α) (R : Hp → V → α → Prop) (mono : ∀ G G' v x, Tk G G' → R G v x → R G' v x) (hv : ∀ Q : VK, Q (.ref a) H1 → tl σ H1 Q) (h : SeqI K H1 a xs) (hn : xs.length ≤ 1000000) (hl : xs.length = ys.length)
    (hs : ∀ (j : Nat) (x : V) (y : α) (H : Hp), xs[j]? = some x → ys[j]? = some y → Same H1 H → ∀ Q2 : VK, (∀ v H3, Same H H3 → R H3 v y → Q2 v H3) → te ((wipe σ [i]).set i (some x)) H Q2)
    (hq : ∀ D H' vs, Same H1 H' → H1 D = none → H' D = some (.lst vs) → Al (R H') vs ys → Q (.ref D) H') : tLc (iLT K tl) (gName i) tYes te [i] σ H1 Q := by
  refine lc_lt2 hv h (fun j H vs => Al (R H) vs (ys.take j)) hn (fun j H H' vs s q => q.imp fun _ _ => mono _ _ _ _ (Tk.of s)) (fun D j H vs zs o hD q => q.imp fun _ _ => mono _ _ _ _ (Tk.upd hD)) (fun H => .nil) (fun j x H hj s hx => ?_) (gm_name i) fun D H' vs s hD e _ q => hq D H' vs s hD e ?_
  · have hy : ys[j]? = some (ys[j]'(by omega)) := List.getElem?_eq_getElem (by omega)
    refine ⟨Same.refl _, ?_, fun Q2 h2 => hs j x _ H hx hy s Q2 fun v H3 s3 r => h2 v H3 s3 fun vs q => q.snoc_take hy r⟩
    show ((σ.set i none).set i (some x)).set i none = σ.set i none
    rw [List.set_set, List.set_set]
  · rw [hl, List.take_length] at q; exact q
/-- one that draws, its items new -/
theorem lc_bagF {J : L2.It} {n k N : Nat} {G : Hp → Prop} {Y : Nat → Hp → V → Hp → Prop} (w : Walk J n G Y) {g : TG} {te : TE} {vs : List Nat} {σ : L2.St} {H1 : Hp} {D b c : Addr} {Qd : Hp → Prop} (hD : H1 D = none) (hB : Bag (N + n * k) H1 b c) (hn : n ≤ 1000000) (Φ : Nat → Hp → V → Prop) (mono : ∀ i G G' v, Same G G' → Φ i G v → Φ i G' v)
    (hG : ∀ H, Kp b H1 H → G H)
    (hs : ∀ i x H H' M, i < n → Kp b H1 H → Bag (M + k) H b c → Y i H x H' → g x (wipe σ vs) H' fun σ2 H2 => Same H H2 ∧ wipe σ2 vs = wipe σ vs ∧ ∀ Q2 : V → Hp → Prop, (∀ v H3, Bag M H3 b c → Kp b H2 H3 → Φ i (fr H2 H3) v → Q2 v H3) → te σ2 H2 Q2)
    (gm : ∀ x σ0 H0 Q0 Q1, (∀ σ2 H2, Q0 σ2 H2 → Q1 σ2 H2) → g x σ0 H0 Q0 → g x σ0 H0 Q1)
    (hq : ∀ H' ys, Bag N H' b c → Kp b H1 H' → H' D = some (.lst ys) → ys.length = n → (∀ i v, ys[i]? = some v → Φ i (fr (L2.upd H1 D (.lst [])) H') v) → Qd H') :
    ∃ W : Nat → Nat → Hp → Prop, (∃ m, W 0 m (L2.upd H1 D (.lst []))) ∧ ∀ i m H, W i m H →
      (J.stop i H ∧ Qd H) ∨ (J.go i H ∧ ∃ Nx : Hp → Prop, (∀ H', Nx H' → ∃ m', m' < m ∧ W (i + 1) m' H') ∧ ∀ x H', J.yld i H x H' → g x (wipe σ vs) H' fun σ2 H2 => wipe σ2 vs = wipe σ vs ∧ tYes σ2 H2 fun b H3 =>
        if b = true then te σ2 H3 fun y H4 => ∃ acc, H4 D = some (.lst acc) ∧ acc.length < sizeLine ∧ Nx (L2.upd H4 D (.lst (acc ++ [y]))) else Nx H3) := by
  obtain ⟨xb, eb⟩ := hB.at
  obtain ⟨xc, ec⟩ := hB.at2
  have nbD : b ≠ D := fun e => by rw [← e, eb] at hD; cases hD
  have ncD : c ≠ D := fun e => by rw [← e, ec] at hD; cases hD
  have up : ∀ {H : Hp} {o : HO}, Kp b H1 H → Kp b H1 (L2.upd H D o) := fun s a u e => by
    obtain ⟨h1, h2⟩ := hb_some e
    rw [hb_ne h1, upd_ne (ne_of_none h2 hD)]
    exact s.hd h2 h1
  have D0 : (L2.upd H1 D (.lst [])) D ≠ none := by rw [upd_same]; exact Option.some_ne_none _
  have B0 : Bag (N + n * k) (L2.upd H1 D (.lst [])) b c := hB.upd nbD ncD
  refine lc_it w (fun i H => Kp b H1 H ∧ Bag (N + (n - i) * k) H b c ∧ ∃ ys, H D = some (.lst ys) ∧ ys.length = i ∧ ∀ j v, ys[j]? = some v → Φ j (fr (L2.upd H1 D (.lst [])) H) v) ⟨up (Kp.refl _ _), hB.upd nbD ncD, [], upd_same, rfl, fun j v hv => absurd hv (by simp)⟩ (fun i H _ h => hG H h.1) (fun i x H H' hi ⟨s1, B1, ys, h1, hl, hp⟩ hY => ?_) (fun H ⟨s1, B1, ys, h1, hl, hp⟩ => hq H ys (B1.le (Nat.le_add_right _ _)) s1 h1 hl hp)
  refine gm _ _ _ _ _ (fun σ2 H2 ⟨s2, e2, kq⟩ => ⟨e2, ?_⟩) (hs i x H H' (N + (n - (i + 1)) * k) hi s1 (B1.le (by
    have e : n - i = (n - (i + 1)) + 1 := by omega
    rw [e, Nat.add_mul, Nat.one_mul, Nat.add_assoc]; exact Nat.le_refl _)) hY)
  simp only [tYes, eq_self, ite_true]
  have B2 := B1.same s2
  refine kq _ fun v H3 B3 k3 hv => ?_
  have hD3 := k3.hd (s2 _ _ h1) nbD.symm
  refine ⟨ys, hD3, ?_, up (Same.trans (Same.trans s1 (Kp.of s2)) k3), B3.upd nbD ncD, ys ++ [v], upd_same, by rw [List.length_append, hl]; rfl, fun j u hu => ?_⟩
  · rw [hl]
    exact Nat.lt_of_lt_of_le (Nat.lt_of_lt_of_le hi hn) (by decide)
  · have f3 : Same (fr (L2.upd H1 D (.lst [])) H3) (fr (L2.upd H1 D (.lst [])) (L2.upd H3 D (.lst (ys ++ [v])))) := fr_upd hD3 D0
    by_cases c : j < ys.length
    · rw [List.getElem?_append_left c] at hu
      exact mono _ _ _ _ (Same.trans (Same.trans (fr_same s2) (fr_kp B0 B2 k3)) f3) (hp j u hu)
    · rw [List.getElem?_append_right (by omega)] at hu
      obtain ⟨e1, e2⟩ : j - ys.length = 0 ∧ v = u := by
        cases q : j - ys.length with
        | zero => rw [q] at hu; exact ⟨rfl, by simpa using hu⟩
        | succ m => rw [q] at hu; simp at hu
      subst e2
      obtain rfl : j = i := by omega
      refine mono _ _ _ _ (Same.trans (fr_anti fun a q => ?_) f3) hv
      by_cases n : a = D
      · rw [n, s2 _ _ h1] at q; cases q
      · rw [upd_ne n]
        exact Kp.dom (Same.trans s1 (Kp.of s2)) (B2.at.choose_spec) a q
/-- [f(k) for k in range(n)], drawn -/
theorem lc_drawF {n : Nat} {lo : Int} {k N : Nat} {te : TE} {i : Nat} {σ : L2.St} {H1 : Hp} {D b c : Addr} {Qd : Hp → Prop} (Φ : Hp → V → Prop) (mono : ∀ G G' v, Same G G' → Φ G v → Φ G' v) (hD : H1 D = none) (hB : Bag (N + n * k) H1 b c) (hn : n ≤ 1000000)
    (hs : ∀ x H M, Kp b H1 H → Bag (M + k) H b c → ∀ Q2 : V → Hp → Prop, (∀ v H3, Bag M H3 b c → Kp b H H3 → Φ (fr H H3) v → Q2 v H3) → te ((wipe σ [i]).set i (some x)) H Q2)
    (hq : ∀ H' ys, Bag N H' b c → Kp b H1 H' → H' D = some (.lst ys) → ys.length = n → (∀ v ∈ ys, Φ (fr (L2.upd H1 D (.lst [])) H') v) → Qd H') :
    ∃ W : Nat → Nat → Hp → Prop, (∃ m, W 0 m (L2.upd H1 D (.lst []))) ∧ ∀ i' m H, W i' m H →
      ((Itr lo n).stop i' H ∧ Qd H) ∨ ((Itr lo n).go i' H ∧ ∃ Nx : Hp → Prop, (∀ H', Nx H' → ∃ m', m' < m ∧ W (i' + 1) m' H') ∧ ∀ x H', (Itr lo n).yld i' H x H' → gName i x (wipe σ [i]) H' fun σ2 H2 => wipe σ2 [i] = wipe σ [i] ∧ tYes σ2 H2 fun b H3 =>
        if b = true then te σ2 H3 fun y H4 => ∃ acc, H4 D = some (.lst acc) ∧ acc.length < sizeLine ∧ Nx (L2.upd H4 D (.lst (acc ++ [y]))) else Nx H3) := by
  refine lc_bagF walk_range hD hB hn (fun _ => Φ) (fun _ => mono) (fun _ _ => trivial) (fun j x H H' M hj s1 B1 y => ?_) (fun x σ0 H0 Q0 Q1 h q => h _ _ q) fun H' ys B s e l h => hq H' ys B s e l fun v hv => ?_
  · obtain ⟨rfl, _⟩ := y
    refine ⟨Same.refl _, ?_, fun Q2 h2 => hs x H' M s1 B1 Q2 h2⟩
    show ((σ.set i none).set i (some x)).set i none = σ.set i none
    rw [List.set_set, List.set_set]
  · obtain ⟨j, hj⟩ := List.getElem?_of_mem hv
    exact h j v hj
/-- over a list or a tuple, drawn: the items stand for ys -/
theorem lc_drawA {α : Type} {K : PySem.W.Frag} {a : Addr} {xs : List V} {te tl : TE} {i k N : Nat} {σ : L2.St} {H1 : Hp} {b c : Addr} {Q : VK} (ys : List α) (Φ : Hp → V → α → Prop) (mono : ∀ G G' v x, Same G G' → Φ G v x → Φ G' v x) (hv : ∀ Q : VK, Q (.ref a) H1 → tl σ H1 Q) (hx : SeqI K (LK.hb H1 b) a xs) (hB : Bag (N + xs.length * k) H1 b c) (hn : xs.length ≤ 1000000) (hl : xs.length = ys.length)
    (hs : ∀ (j : Nat) (x : V) (y : α) (H : Hp) (M : Nat), xs[j]? = some x → ys[j]? = some y → Kp b H1 H → Bag (M + k) H b c → ∀ Q2 : V → Hp → Prop, (∀ v H3, Bag M H3 b c → Kp b H H3 → Φ (fr H H3) v y → Q2 v H3) → te ((wipe σ [i]).set i (some x)) H Q2)
    (hq : ∀ D H' vs, Bag N H' b c → Kp b H1 H' → H1 D = none → H' D = some (.lst vs) → Al (Φ (fr (L2.upd H1 D (.lst [])) H')) vs ys → Q (.ref D) H') : tLc (iLT K tl) (gName i) tYes te [i] σ H1 Q := by
  have core : ∀ {J : L2.It} {G : Hp → Prop} (w : Walk J xs.length G (YAt xs)) (hG : ∀ H, Kp b H1 H → G H) (D : Addr) (hD : H1 D = none), _ := fun w hG D hD => lc_bagF w (g := gName i) (te := te) (vs := [i]) (σ := σ) (D := D) (Qd := fun H => Q (.ref D) H) hD hB hn (fun j G v => ∃ y, ys[j]? = some y ∧ Φ G v y) (fun j G G' v s ⟨y, e, p⟩ => ⟨y, e, mono _ _ _ _ s p⟩) hG (fun j x H H' M hj s B1 ⟨e, hx⟩ => by
    subst e
    have hy : ys[j]? = some (ys[j]'(by omega)) := List.getElem?_eq_getElem (by omega)
    refine ⟨Same.refl _, ?_, fun Q2 h2 => hs j x _ _ M hx hy s B1 Q2 fun v H3 B3 k3 p => h2 v H3 B3 k3 ⟨_, hy, p⟩⟩
    show ((σ.set i none).set i (some x)).set i none = σ.set i none
    rw [List.set_set, List.set_set]) (gm_name i) fun H' vs B s e l p => hq D H' vs B s hD e (Al.of_get (by omega) fun j v y h1 h2 => by
      obtain ⟨y', e', p'⟩ := p j v h1
      rw [h2] at e'
      cases e'
      exact p')
  rcases hx with h | h
  · exact .inl (hv _ ⟨a, rfl, ⟨xs, (hb_le H1 b).seq h⟩, fun D hD => core walk_list (fun H s => (hb_le H b).seq (s.seq h)) D hD⟩)
  · exact .inr (hv _ ⟨a, rfl, ⟨xs, Same.seqT (hb_le H1 b) h⟩, fun D hD => core walk_tup (fun H s => Same.seqT (hb_le H b) (Same.seqT s h)) D hD⟩)
end LK

set_option Elab.async false
set_option linter.all false
set_option maxRecDepth 100000
namespace LK
open PySem PySem.Spec PyProof.Rows L2
local macro_rules | `(tactic| walk_at "rs") => `(tactic| simp only [tFld, sFld, tMeth, tMethZ, tMakeK, tProp, tFmt, rEqO, rNeO, cxK, cxNK, tCallZ, tAsg, tOp, rI0, rS0, rB0, rI, rU, tUn, rEq, rNe, rIxL, rIxT, rIxS, rSetL, rSlLU, rSlS, rSlU, rCatL, rCatU, rRepL, rIn, tVar, tC, gName, gSub, tIfS, tTest, tB, tAnd, tOr, tNot, tNotV, tAndV, tOrV, tIf, tCall, tCons, tNil, tCB, tDrop, tRet, tRetN, tNext, tLstU, tTupU, tM0, tM1, tPar, tPar3, tAug, ipI, tBM, tBM0, rAppend, rPop, tBreak, sDPut, tDGet, tDGet2, tCont, tChain, tSl, tPart, tNoPart, L2.start, List.map, List.length_cons, List.length_nil, List.replicate, List.cons_append, List.nil_append, List.append_nil, List.getElem?_cons_zero, List.getElem?_cons_succ, List.set_cons_zero, List.set_cons_succ, Option.some.injEq, V.int.injEq, V.ref.injEq, V.str.injEq, V.bl.injEq, exists_eq_left', exists_eq_left, exists_and_left, decide_eq_true_eq, List.cons.injEq, and_true, true_and, scal, Bool.not_eq_true', decide_eq_false_iff_not, Nat.zero_add, Nat.reduceAdd, Nat.reduceSub, reduceCtorEq, false_and, exists_false, false_or, or_false, CPow, CPowW, CMul, CDiv, Int.reduceToNat, ↓reduceIte, wipe, sw, List.nil_append, List.singleton_append])
local macro_rules | `(tactic| walk_at "st") => `(tactic| (refine seq_op fun N hN => ?_; walk_at "rs"))
local macro_rules | `(tactic| walk_at "sd") => `(tactic| first | assumption | decide | omega)
local macro_rules | `(tactic| walk_at "rd") => `(tactic| repeat (first
  | refine ⟨_, SqL.of (by assumption), ?_⟩ | refine ⟨_, SqL.of upd_same, ?_⟩ | refine ⟨_, .inl (SqL.of (by assumption)), ?_⟩ | refine ⟨_, (by assumption : _ = some (HO.lst _)), ?_⟩ | refine ⟨_, upd_same, ?_⟩
  | refine ⟨_, rfl, ?_⟩ | refine And.intro (by walk_at "sd") ?_))

def isFrac : PyData → Bool
  | .tuple [.int p, .int q] => decide (1 ≤ q) && decide ((Nat.gcd p.natAbs q.natAbs : Nat) = 1)
  | _ => false
section
variable {P : Program} {w : World} {K : PySem.W.Frag} {mg : Str → Option Value} {base : Heap}
theorem ok_is_fraction (T : Txt w K mg) : FnOk P w K mg base CX0 2 T.a_is_fraction T.d_is_fraction ["value"] (spP1 K fun d => .bl (isFrac d)) := by
  refine T.F_is_fraction.ok sc_is_fraction (fun vs H Q E h => ?_) (fun cdv A outer s H vs Q E hr h => ?_)
  · obtain ⟨v, d, rfl, _⟩ := h
    rfl
  · obtain ⟨v, d, rfl, hD, k⟩ := h
    have hr_is_number : Room 1 _ := hr.mono (by decide)
    have G_is_number := ok_is_number (P := P) (base := base) T
    refine ⟨_, (pss_cons (ps_if (PW.pt (pw_or (pt_not (pt_val (pe_callB (call_isiDK (K := K) rfl) (by rfl) T.n_isinstance (by decide +kernel) (pa_cons (pv 0) (pa_cons (pe_bltn (v := .ty "tuple") (u := .type "tuple") (by rfl) T.n_tuple (by decide +kernel) rfl) pa_nil))))) (pw_or1 (pt_cmpR op_neI (pe_callB call_lenD (by rfl) T.n_len (by decide +kernel) (pa_cons (pv 0) pa_nil)) pe_int (nomark _))))) (pss_one (ps_ret pe_bl)) pss_nil)
      (pss_cons (ps_asg (pv 0) (pg_tup rfl (pgs_cons (pg_name (i := 1) sc_is_fraction.nd rfl (Or.inl rfl)) (pgs_cons (pg_name (i := 2) sc_is_fraction.nd rfl (Or.inl rfl)) pgs_nil))))
      (pss_one (ps_ret (pe_and (pe_call G_is_number hr_is_number (by rfl) T.m_is_number T.F_is_number.kp T.B_is_number .nil pass0 (pa_cons (pv 1) pa_nil)) (pe_and (pe_call G_is_number hr_is_number (by rfl) T.m_is_number T.F_is_number.kp T.B_is_number .nil pass0 (pa_cons (pv 2) pa_nil)) (pe_and (pe_cmpR op_ge (pv 2) pe_int (nomark _)) (pe_one (pe_cmpR op_eqI (pe_callBfun cr_gcd (by rfl) T.m_gcd (pa_cons (pv 1) (pa_cons (pv 2) pa_nil))) pe_int (nomark _)))))))))), ?_⟩
    refine seq_op fun N hN => ?_
    walk_at "rs"
    refine ⟨v, "tuple", ⟨rfl, rfl⟩, d, hD, by decide, ite2 (fun h => ?_) (fun h => ⟨d, hD, ?_⟩)⟩
    · have e : isFrac d = false := by cases d <;> first | rfl | cases h
      have q : Q (.bl (isFrac d)) H := k H (Same.refl _)
      rw [e] at q; exact q
    obtain ⟨ds, rfl⟩ : ∃ ds, d = .tuple ds := by cases d <;> first | exact ⟨_, rfl⟩ | (exact absurd rfl h)
    clear h
    refine .inl ⟨ds, .inr rfl, ite2 (fun h2 => ?_) (fun h2 => hN _ _ ?_)⟩
    · have e : isFrac (.tuple ds) = false := by
        rcases ds with _ | ⟨x, _ | ⟨y, _ | ⟨z, r⟩⟩⟩
        · rfl
        · cases x <;> rfl
        · exact absurd rfl h2
        · cases x <;> cases y <;> rfl
      have q : Q (.bl (isFrac (.tuple ds))) H := k H (Same.refl _)
      rw [e] at q; exact q
    clear hN N
    obtain ⟨x, y, rfl⟩ : ∃ x y, ds = [x, y] := by
      rcases ds with _ | ⟨x, _ | ⟨y, _ | ⟨z, r⟩⟩⟩
      · exact absurd (by simp) h2
      · exact absurd (by simp) h2
      · exact ⟨x, y, rfl⟩
      · exact absurd (by simp; omega) h2
    cases hD with
    | tup hs ha =>
    cases ha with
    | cons hx ha =>
    cases ha with
    | cons hy ha =>
    cases ha
    refine seq_op fun N hN => ?_
    walk_at "rs"
    refine ⟨_, _, rfl, hs, rfl, ?_⟩
    unfold gCons gNil
    walk_at "rs"
    refine ⟨_, _, ⟨rfl, rfl⟩, _, _, rfl, rfl, hN _ _ ?_⟩
    clear hN N
    walk_at "rs"
    have no : ∀ (H' : Hp), Same H H' → isFrac (.tuple [x, y]) = false → Q (.bl false) H' := fun H' s' e => by
      have q : Q (.bl (isFrac (.tuple [x, y]))) H' := k H' s'
      rw [e] at q; exact q
    refine ⟨_, x, rfl, hx, fun H1 s1 => ⟨isNum x, rfl, ite2 (fun hp => ?_) (fun hp => no H1 s1 (by cases x <;> first | rfl | exact absurd rfl hp))⟩⟩
    refine ⟨_, y, rfl, dp_same s1 hy, fun H2 s2 => ⟨isNum y, rfl, ite2 (fun hq => ?_) (fun hq => no H2 (Same.trans s1 s2) (by cases x <;> cases y <;> first | rfl | exact absurd rfl hq))⟩⟩
    obtain ⟨p, rfl⟩ : ∃ p, x = .int p := by cases x <;> first | exact ⟨_, rfl⟩ | cases hp
    obtain ⟨q, rfl⟩ : ∃ q, y = .int q := by cases y <;> first | exact ⟨_, rfl⟩ | cases hq
    cases hx
    cases hy
    refine ⟨q, rfl, ite2 (fun h1 => ⟨p, q, rfl, _, rfl, ?_⟩) (fun h1 => no H2 (Same.trans s1 s2) (by
      show (decide (1 ≤ q) && _) = false
      rw [decide_eq_false h1]; rfl))⟩
    have e : isFrac (.tuple [.int p, .int q]) = decide ((((Nat.gcd p.natAbs q.natAbs : Nat) : Int)) = 1) := by
      show (decide (1 ≤ q) && _) = _
      rw [decide_eq_true h1, Bool.true_and]
      exact decide_eq_decide.mpr (by omega)
    rw [← e]; exact k H2 (Same.trans s1 s2)
theorem frac_low {f : Fr} (h : low f) : isFrac (dF f) = true := by
  show (decide (1 ≤ f.2) && decide ((Nat.gcd f.1.natAbs f.2.natAbs : Nat) = 1)) = true
  rw [decide_eq_true h.1, decide_eq_true h.2]
  rfl
theorem frac_at {H : Hp} {Q : VK} {E : XK} {a : Addr} {f : Fr} (h : Pr K H a f.1 f.2) (l : low f) (k : ∀ H', Same H H' → Q (.bl true) H') : spP1 K (fun d => .bl (isFrac d)) [.ref a] H Q E :=
  ⟨.ref a, dF f, rfl, dF_at h, fun H' s => by
    show Q (.bl (isFrac (dF f))) H'
    rw [frac_low l]; exact k H' s⟩
theorem num_at {H : Hp} {Q : VK} {E : XK} {i : Int} (k : ∀ H', Same H H' → Q (.bl true) H') : spP1 K (fun d => .bl (isNum d)) [.int i] H Q E := ⟨.int i, .int i, rfl, .int i, k⟩
def sp_sizes : Sp := fun vs H Q _ => ∃ s n : Int, vs = [.int s, .int n] ∧ 2 ≤ s ∧ s ≤ 5 ∧ 1 ≤ n ∧ n ≤ 8 ∧ ∀ H', Same H H' → Q (.bl true) H'
theorem ok_are_sizes (T : Txt w K mg) : FnOk P w K mg base CX0 2 T.a_are_sizes T.d_are_sizes ["signs", "n"] sp_sizes := by
  refine T.F_are_sizes.ok sc_are_sizes (fun vs H Q E h => ?_) (fun cdv A outer s H vs Q E hr h => ?_)
  · obtain ⟨s, n, rfl, _⟩ := h
    rfl
  · obtain ⟨s', n, rfl, h1, h2, h3, h4, k⟩ := h
    have hr_is_number : Room 1 _ := hr
    have G_is_number := ok_is_number (P := P) (base := base) T
    refine ⟨_, (pss_one (ps_ret (pe_and (pe_call G_is_number hr_is_number (by rfl) T.m_is_number T.F_is_number.kp T.B_is_number .nil pass0 (pa_cons (pv 0) pa_nil)) (pe_and (pe_chain op_le op_le pe_int (pv 0) pe_int) (pe_and (pe_call G_is_number hr_is_number (by rfl) T.m_is_number T.F_is_number.kp T.B_is_number .nil pass0 (pa_cons (pv 1) pa_nil)) (pe_one (pe_chain op_le op_le pe_int (pv 1) pe_int))))))), ?_⟩
    walk_at "rs"
    refine num_at fun H1 s1 => ⟨true, rfl, ?_⟩
    rw [if_pos rfl, if_pos h1, if_pos h2]
    refine num_at fun H2 s2 => ⟨true, rfl, ?_⟩
    rw [if_pos rfl, if_pos h3, decide_eq_true h4]
    exact k H2 (Same.trans s1 s2)
def sp_column : Sp := fun vs H Q _ => ∃ i w : Int, vs = [.int i, .int w] ∧ 0 ≤ i ∧ i < w ∧ ∀ H', Same H H' → Q (.bl true) H'
theorem ok_is_column (T : Txt w K mg) : FnOk P w K mg base CX0 2 T.a_is_column T.d_is_column ["value", "width"] sp_column := by
  refine T.F_is_column.ok sc_is_column (fun vs H Q E h => ?_) (fun cdv A outer s H vs Q E hr h => ?_)
  · obtain ⟨s, n, rfl, _⟩ := h
    rfl
  · obtain ⟨i, w, rfl, h1, h2, k⟩ := h
    have hr_is_number : Room 1 _ := hr
    have G_is_number := ok_is_number (P := P) (base := base) T
    refine ⟨_, (pss_one (ps_ret (pe_and (pe_call G_is_number hr_is_number (by rfl) T.m_is_number T.F_is_number.kp T.B_is_number .nil pass0 (pa_cons (pv 0) pa_nil)) (pe_one (pe_chain op_le op_lt pe_int (pv 0) (pv 1)))))), ?_⟩
    walk_at "rs"
    refine num_at fun H1 s1 => ⟨true, rfl, ?_⟩
    rw [if_pos rfl, if_pos h1, decide_eq_true h2]
    exact k H1 s1
theorem lc_cut {H : Hp} {σ : L2.St} {a : Addr} {xs : List V} {i : Nat} {te : TE} {Q : VK} (h0 : σ[0]? = some (some (.ref a))) (ha : SqT K H a xs) (hn : xs.length ≤ 1000)
    (hs : ∀ x H', x ∈ cutV xs none (some (-1)) → Same H H' → ∀ Q2 : VK, (∀ H3, Same H' H3 → Q2 (.bl true) H3) → te ((wipe σ [i]).set i (some x)) H' Q2)
    (hq : ∀ D H' n, Same H H' → H' D = some (.lst ((List.replicate n true).map V.bl)) → Q (.ref D) H') :
    tLc (iTup K (tSl (rSlU K) (tVar 0) tNoPart (tPart (tUn (rU fun i => .int (-i)) (tC (.int 1)))))) (gName i) tYes te [i] σ H Q := by
  unfold tLc iTup
  simp only [tSl, rSlU, tVar, tNoPart, tPart, tUn, rU, tC]
  refine ⟨_, h0, 1, rfl, -1, rfl, a, xs, rfl, ha, fun q H1 s1 hq1 => ⟨q, rfl, ⟨_, hq1⟩, fun D hD => lc_map (walk_tup (K := K) (a := q) (xs := cutV xs none (some (-1)))) _ (fun _ => .bl true) hD (n := (cutV xs none (some (-1))).length) ?_ rfl (fun k H x H' _ y => y) (fun H s => Same.seqT s hq1) (fun x H' hx s => hs x H' hx (Same.trans s1 s)) fun H' s e => ?_⟩⟩
  · unfold cutV
    rw [List.length_take, List.length_drop]
    omega
  · refine hq D H' (cutV xs none (some (-1))).length (Same.trans s1 s) ?_
    rw [e, List.map_replicate, List.map_const']
theorem dpa_ex {H : Hp} : ∀ {xs : List V}, (∀ v ∈ xs, ∃ d, Dp K H v d) → ∃ ds, DpAll K H xs ds
  | [], _ => ⟨[], .nil⟩
  | v :: xs, h => by
    obtain ⟨d, hd⟩ := h v List.mem_cons_self
    obtain ⟨ds, hds⟩ := dpa_ex (xs := xs) fun u hu => h u (List.mem_cons_of_mem _ hu)
    exact ⟨d :: ds, .cons hd hds⟩
def LT (K : PySem.W.Frag) (H : Hp) (v : V) : Prop := ∃ d, Dp K H v d ∧ (isTy "list" d || isTy "tuple" d) = true
theorem seq_dp {H : Hp} {a : Addr} {xs : List V} (h : SeqI K H a xs) (g : ∀ v ∈ xs, ∃ d, Dp K H v d) : LT K H (.ref a) := by
  obtain ⟨ds, hds⟩ := dpa_ex g
  rcases h with h | h
  · exact ⟨_, .lst h hds, rfl⟩
  · exact ⟨_, .tup h hds, rfl⟩
theorem its_dp {H : Hp} {xs : List V} {l : List It} (i : Its K H xs l) : ∀ v ∈ xs, ∃ d, Dp K H v d := by
  intro v hv
  obtain ⟨j, hj⟩ := List.getElem?_of_mem hv
  obtain ⟨d, _, h⟩ := dpa_get4 i.dp hj
  exact ⟨d, h⟩
theorem IV.lt {H : Hp} {v : V} {l : List It} (h : IV K H v l) : LT K H v := by
  obtain ⟨a, xs, rfl, ha, hi⟩ := h
  exact seq_dp ha (its_dp hi)
theorem RV.lt {H : Hp} {v : V} {l : List (List It)} (h : RV K H v l) : LT K H v := by
  obtain ⟨a, xs, rfl, ha, hi⟩ := h
  exact seq_dp ha fun v hv => by
    obtain ⟨x, _, q⟩ := hi.mem hv
    obtain ⟨d, q, _⟩ := q.lt
    exact ⟨d, q⟩
theorem PV.dp {H : Hp} {k : Bool} {v : V} {p : Pt} (h : PV K H k v p) : ∃ ds, Dp K H v (.tuple ds) := by
  obtain ⟨a, x, y, rfl, hx, hy, h⟩ := h
  obtain ⟨dx, hx, _⟩ := hx.lt
  obtain ⟨dy, hy, _⟩ := hy.lt
  split at h
  · exact ⟨_, .tup h (.cons hx (.cons hy .nil))⟩
  · obtain ⟨u, h1, h2⟩ := h
    exact ⟨_, .tup h1 (.cons hx (.cons (dF_at h2) (.cons hy .nil)))⟩
theorem SV.dp {H : Hp} {v : V} {s : Sg} (h : SV K H v s) : ∃ ds, Dp K H v (.tuple ds) := by
  obtain ⟨a, p, xs, rfl, ha, hp, hx⟩ := h
  obtain ⟨d, hd, _⟩ := seq_dp hp fun v hv => by
    obtain ⟨x, _, q⟩ := hx.mem hv
    obtain ⟨ds, q⟩ := q.dp
    exact ⟨_, q⟩
  exact ⟨_, .tup ha (.cons (.str _) (.cons hd .nil))⟩
theorem SsV.lt {H : Hp} {v : V} {l : List Sg} (h : SsV K H v l) : LT K H v := by
  obtain ⟨a, xs, rfl, ha, hi⟩ := h
  exact seq_dp ha fun v hv => by
    obtain ⟨x, _, q⟩ := hi.mem hv
    obtain ⟨ds, q⟩ := q.dp
    exact ⟨_, q⟩
/-- isinstance(x, (list, tuple)) of such a thing -/
theorem LT.same {H H' : Hp} (s : Same H H') {v : V} (h : LT K H v) : LT K H' v := let ⟨d, a, b⟩ := h; ⟨d, dp_same s a, b⟩
theorem all_true {n : Nat} : (List.replicate n true).all id = true := by
  rw [List.all_replicate]
  simp
theorem cut_one (k : List Int) (d : Nat) (u : Addr) (lk : k.length = d) (hd : d = 1 ∨ d = 2) : cutV (k.map V.int ++ [V.ref u]) none (some (-1)) = k.map V.int ∧ atI (k.map V.int ++ [V.ref u]) (-1) = some (.ref u) := by
  rcases hd with rfl | rfl
  · match k, lk with
    | [x], _ => exact ⟨rfl, rfl⟩
  · match k, lk with
    | [x, y], _ => exact ⟨rfl, rfl⟩
def sp_item (K : PySem.W.Frag) : Sp := fun vs H Q _ => ∃ (a u : Addr) (d : Nat) (w : Int) (k : List Int) (f : Fr), vs = [.ref a, .int (d : Int), .int w] ∧ SqT K H a (k.map V.int ++ [.ref u]) ∧ Pr K H u f.1 f.2 ∧ k.length = d ∧ (d = 1 ∨ d = 2) ∧ TS.Bd w k ∧ low f ∧ ∀ H', Same H H' → Q (.bl true) H'
theorem ok_is_item (T : Txt w K mg) : FnOk P w K mg base CX0 3 T.a_is_item T.d_is_item ["value", "many", "width"] (sp_item K) := by
  refine T.F_is_item.ok sc_is_item (fun vs H Q E h => ?_) (fun cdv A outer s H vs Q E hr h => ?_)
  · obtain ⟨a, u, d, w, k, f, rfl, _⟩ := h
    rfl
  · obtain ⟨a, u, d, w, k, f, rfl, ha, hu, lk, hd, bk, lf, kq⟩ := h
    have hr_is_column : Room 2 _ := hr
    have G_is_column := ok_is_column (P := P) (base := base) T
    have hr_is_fraction : Room 2 _ := hr
    have G_is_fraction := ok_is_fraction (P := P) (base := base) T
    refine ⟨_, (pss_cons (ps_if (PW.pt (pw_or (pt_not (pt_val (pe_callB (call_isiDK (K := K) rfl) (by rfl) T.n_isinstance (by decide +kernel) (pa_cons (pv 0) (pa_cons (pe_bltn (v := .ty "tuple") (u := .type "tuple") (by rfl) T.n_tuple (by decide +kernel) rfl) pa_nil))))) (pw_or1 (pt_cmpR op_neI (pe_callB call_len_seq (by rfl) T.n_len (by decide +kernel) (pa_cons (pv 0) pa_nil)) (pe_op op_add (pv 1) pe_int) (nomark _))))) (pss_one (ps_ret pe_bl)) pss_nil)
      (pss_one (ps_ret (pe_and (pe_callB (cr_all rfl) (by rfl) T.n_all (by decide +kernel) (pa_cons (pe_lc (own := [("column", 3)]) (g := gName 3) (tt := tYes) rfl sc_is_item.nd (pi_tup (pe_slice sl_tupU (pv 0) po_none (po_some (pe_un un_neg pe_int)))) (blkOk_by (own := [("column", 3)]) (N := N_is_item) (sc := defScope s_is_item) (by decide +kernel)) (fun _ _ _ _ _ => pg_name (i := 3) sc_is_item.nd rfl (Or.inl rfl)) (fun _ _ _ _ _ => pts_nil) (fun _ _ _ _ _ => (pe_call G_is_column hr_is_column (by rfl) T.m_is_column T.F_is_column.kp T.B_is_column .nil pass0 (pa_cons (pv 3) (pa_cons (pv 2) pa_nil))))) pa_nil)) (pe_one (pe_call G_is_fraction hr_is_fraction (by rfl) T.m_is_fraction T.F_is_fraction.kp T.B_is_fraction .nil pass0 (pa_cons (pe_ix ix_tup (pv 0) (pe_un un_neg pe_int) (fun _ _ => rfl)) pa_nil))))))), ?_⟩
    refine seq_op fun N hN => ?_
    walk_at "rs"
    have l1 : (((k.map V.int ++ [V.ref u]).length : Nat) : Int) = (d : Int) + 1 := by
      rw [List.length_append, List.length_map, lk, List.length_singleton]
      omega
    have hD : Dp K H (.ref a) (dIt (k, f)) := .tup ha (dpAll_app (dp_ints _) (.cons (dF_at hu) .nil))
    refine ⟨_, "tuple", ⟨rfl, rfl⟩, _, hD, by decide, iteFF (by simp [dIt, isTy]) ⟨_, .inr ha, iteFF (fun z => z l1) (hN _ _ ?_)⟩⟩
    clear hN N
    walk_at "rs"
    obtain ⟨c1, a1⟩ := cut_one k d u lk hd
    have l9 : (k.map V.int ++ [V.ref u]).length ≤ 1000 := by
      rw [List.length_append, List.length_map, lk]
      show d + 1 ≤ 1000
      omega
    refine lc_cut (i := 3) rfl ha l9 (fun x H' hx s Q2 h2 => ?_) fun D H' n s e => ?_
    · rw [c1] at hx
      obtain ⟨i, hi, rfl⟩ := List.mem_map.mp hx
      obtain ⟨b0, b1⟩ := bk i hi
      walk_at "rs"
      exact ⟨i, w, rfl, b0, b1, h2⟩
    · refine ⟨D, _, rfl, SqL.of e, _, rfl, ?_⟩
      rw [all_true, if_pos rfl]
      exact ⟨_, Same.seqT s ha, _, a1, frac_at (Same.seqT s hu) lf fun H2 s2 => kq H2 (Same.trans s s2)⟩
def sp_ites (K : PySem.W.Frag) : Sp := fun vs H Q _ => ∃ (v : V) (d : Nat) (w : Int) (l : List It), vs = [v, .int (d : Int), .int w] ∧ IV K H v l ∧ (d = 1 ∨ d = 2) ∧ (∀ x ∈ l, low x.2 ∧ x.1.length = d ∧ TS.Bd w x.1) ∧ l.length ≤ 1000 ∧ ∀ H', Same H H' → Q (.bl true) H'
theorem ok_are_items (T : Txt w K mg) : FnOk P w K mg base CX0 4 T.a_are_items T.d_are_items ["value", "many", "width"] (sp_ites K) := by
  refine T.F_are_items.ok sc_are_items (fun vs H Q E h => ?_) (fun cdv A outer s H vs Q E hr h => ?_)
  · obtain ⟨v, d, w, l, rfl, _⟩ := h
    rfl
  · obtain ⟨v, d, w, l, rfl, ⟨a, xs, rfl, ha, hi⟩, hd, hl, ll, kq⟩ := h
    have hr_is_item : Room 3 _ := hr
    have G_is_item := ok_is_item (P := P) (base := base) T
    refine ⟨_, (pss_cons (ps_if (pt_not (pt_val (pe_callB call_isiDT (by rfl) T.n_isinstance (by decide +kernel) (pa_cons (pv 0) (pa_cons (pe_tupU (pa_cons (pe_bltn (v := .ty "list") (u := .type "list") (by rfl) T.n_list (by decide +kernel) rfl) (pa_cons (pe_bltn (v := .ty "tuple") (u := .type "tuple") (by rfl) T.n_tuple (by decide +kernel) rfl) pa_nil))) pa_nil))))) (pss_one (ps_ret pe_bl)) pss_nil)
      (pss_one (ps_ret (pe_callB (cr_all rfl) (by rfl) T.n_all (by decide +kernel) (pa_cons (pe_lc (own := [("item", 3)]) (g := gName 3) (tt := tYes) rfl sc_are_items.nd (pi_lt (pv 0)) (blkOk_by (own := [("item", 3)]) (N := N_are_items) (sc := defScope s_are_items) (by decide +kernel)) (fun _ _ _ _ _ => pg_name (i := 3) sc_are_items.nd rfl (Or.inl rfl)) (fun _ _ _ _ _ => pts_nil) (fun _ _ _ _ _ => (pe_call G_is_item hr_is_item (by rfl) T.m_is_item T.F_is_item.kp T.B_is_item .nil pass0 (pa_cons (pv 3) (pa_cons (pv 1) (pa_cons (pv 2) pa_nil)))))) pa_nil))))), ?_⟩
    refine seq_op fun N hN => ?_
    walk_at "rs"
    have hv : IV K H (.ref a) l := ⟨a, xs, rfl, ha, hi⟩
    refine ⟨by decide, fun p H1 s1 p0 p1 => ?_⟩
    obtain ⟨dd, hd1, hd2⟩ := hv.lt.same s1
    refine ⟨_, p, ⟨rfl, rfl⟩, p1, dd, hd1, iteFF (by rw [hd2]; decide) (hN _ _ ?_)⟩
    clear hN N
    walk_at "rs"
    have lx := hi.len
    refine lc_lt1 (fun _ => .bl true) (fun Q q => ⟨_, rfl, q⟩) (ha.same s1) (by omega) (fun x G hx s2 Q2 h2 => ?_) fun D G s2 _ e => ⟨D, List.replicate xs.length true, rfl, SqL.of (by rw [e, List.map_replicate, List.map_const']), by rw [all_true]; exact kq G (Same.trans s1 s2)⟩
    obtain ⟨j, hj⟩ := List.getElem?_of_mem hx
    obtain ⟨hj1, _⟩ := List.getElem?_eq_some_iff.mp hj
    obtain ⟨b, u, k, f, e1, e2, e3, e4⟩ := hi.get (n := j) (by omega)
    rw [hj] at e1
    cases e1
    obtain ⟨l1, l2, l3⟩ := hl _ (List.mem_of_getElem? e2)
    have s12 := Same.trans s1 s2
    walk_at "rs"
    exact ⟨b, u, d, w, k, f, rfl, Same.seqT s12 e3, Same.seqT s12 e4, l2, hd, l3, l1, h2⟩
def sp_rows (K : PySem.W.Frag) : Sp := fun vs H Q _ => ∃ (v : V) (m w : Int) (l : List (List It)), vs = [v, .int m, .int w] ∧ RV K H v l ∧ (l.length : Int) = m ∧ m ≤ 1000 ∧ (∀ r ∈ l, r.length ≤ 1000 ∧ ∀ x ∈ r, low x.2 ∧ x.1.length = 1 ∧ TS.Bd w x.1) ∧ ∀ H', Same H H' → Q (.bl true) H'
theorem ok_are_rows (T : Txt w K mg) : FnOk P w K mg base CX0 5 T.a_are_rows T.d_are_rows ["value", "many", "width"] (sp_rows K) := by
  refine T.F_are_rows.ok sc_are_rows (fun vs H Q E h => ?_) (fun cdv A outer s H vs Q E hr h => ?_)
  · obtain ⟨v, d, w, l, rfl, _⟩ := h
    rfl
  · obtain ⟨v, m, w, l, rfl, ⟨a, xs, rfl, ha, hi⟩, lm, m1, hl, kq⟩ := h
    have hr_are_items : Room 4 _ := hr
    have G_are_items := ok_are_items (P := P) (base := base) T
    refine ⟨_, (pss_cons (ps_if (PW.pt (pw_or (pt_not (pt_val (pe_callB call_isiDT (by rfl) T.n_isinstance (by decide +kernel) (pa_cons (pv 0) (pa_cons (pe_tupU (pa_cons (pe_bltn (v := .ty "list") (u := .type "list") (by rfl) T.n_list (by decide +kernel) rfl) (pa_cons (pe_bltn (v := .ty "tuple") (u := .type "tuple") (by rfl) T.n_tuple (by decide +kernel) rfl) pa_nil))) pa_nil))))) (pw_or1 (pt_cmpR op_neI (pe_callB call_len_seq (by rfl) T.n_len (by decide +kernel) (pa_cons (pv 0) pa_nil)) (pv 1) (nomark _))))) (pss_one (ps_ret pe_bl)) pss_nil)
      (pss_one (ps_ret (pe_callB (cr_all rfl) (by rfl) T.n_all (by decide +kernel) (pa_cons (pe_lc (own := [("entries", 3)]) (g := gName 3) (tt := tYes) rfl sc_are_rows.nd (pi_lt (pv 0)) (blkOk_by (own := [("entries", 3)]) (N := N_are_rows) (sc := defScope s_are_rows) (by decide +kernel)) (fun _ _ _ _ _ => pg_name (i := 3) sc_are_rows.nd rfl (Or.inl rfl)) (fun _ _ _ _ _ => pts_nil) (fun _ _ _ _ _ => (pe_call G_are_items hr_are_items (by rfl) T.m_are_items T.F_are_items.kp T.B_are_items .nil pass0 (pa_cons (pv 3) (pa_cons pe_int (pa_cons (pv 2) pa_nil)))))) pa_nil))))), ?_⟩
    refine seq_op fun N hN => ?_
    walk_at "rs"
    have hv : RV K H (.ref a) l := ⟨a, xs, rfl, ha, hi⟩
    refine ⟨by decide, fun p H1 s1 p0 p1 => ?_⟩
    obtain ⟨dd, hd1, hd2⟩ := hv.lt.same s1
    refine ⟨_, p, ⟨rfl, rfl⟩, p1, dd, hd1, iteFF (by rw [hd2]; decide) ⟨_, ha.same s1, iteFF (by rw [hi.len]; omega) (hN _ _ ?_)⟩⟩
    clear hN N
    walk_at "rs"
    have lx := hi.len
    refine lc_lt1 (fun _ => .bl true) (fun Q q => ⟨_, rfl, q⟩) (ha.same s1) (by omega) (fun x G hx s2 Q2 h2 => ?_) fun D G s2 _ e => ⟨D, List.replicate xs.length true, rfl, SqL.of (by rw [e, List.map_replicate, List.map_const']), by rw [all_true]; exact kq G (Same.trans s1 s2)⟩
    obtain ⟨r, hr1, hr2⟩ := hi.mem hx
    obtain ⟨r1, r2⟩ := hl r hr1
    walk_at "rs"
    exact ⟨x, 1, w, r, rfl, hr2.same (Same.trans s1 s2), .inl rfl, r2, r1, h2⟩
def sp_part (K : PySem.W.Frag) : Sp := fun vs H Q _ => ∃ (k : Bool) (v : V) (w : Int) (p : Pt), vs = [.str (kS k), v, .int w] ∧ PV K H k v p ∧ Gp 3900 w k p ∧ ∀ H', Same H H' → Q (.bl true) H'
theorem Gi.chk {m d : Nat} {w : Int} {l : List It} (g : Gi m d w l) : (d = 1 ∨ d = 2) ∧ (∀ x ∈ l, low x.2 ∧ x.1.length = d ∧ TS.Bd w x.1) ∧ l.length ≤ 1000 :=
  ⟨g.hd, fun x hx => ⟨(g.ft.it x hx).1, (g.ft.it x hx).2.2.1, g.bd x hx⟩, Nat.le_trans g.ft.len (by decide)⟩
theorem ok_is_part (T : Txt w K mg) : FnOk P w K mg base CX0 5 T.a_is_part T.d_is_part ["kind", "value", "width"] (sp_part K) := by
  refine T.F_is_part.ok sc_is_part (fun vs H Q E h => ?_) (fun cdv A outer s H vs Q E hr h => ?_)
  · obtain ⟨k, v, w, p, rfl, _⟩ := h
    rfl
  · obtain ⟨k, v, w, p, rfl, hv, g, kq⟩ := h
    have hr_are_items : Room 4 _ := hr
    have G_are_items := ok_are_items (P := P) (base := base) T
    have hr_is_fraction : Room 2 _ := hr.mono (by decide)
    have G_is_fraction := ok_is_fraction (P := P) (base := base) T
    refine ⟨_, (pss_cons (ps_if (pt_not (pt_val (pe_callB (call_isiDK (K := K) rfl) (by rfl) T.n_isinstance (by decide +kernel) (pa_cons (pv 1) (pa_cons (pe_bltn (v := .ty "tuple") (u := .type "tuple") (by rfl) T.n_tuple (by decide +kernel) rfl) pa_nil))))) (pss_one (ps_ret pe_bl)) pss_nil)
      (pss_cons (ps_if (pt_cmpR op_eqS (pv 0) pe_str (nomark _)) (pss_one (ps_ret (pe_and (pe_cmpR op_eqI (pe_callB call_len_seq (by rfl) T.n_len (by decide +kernel) (pa_cons (pv 1) pa_nil)) pe_int (nomark _)) (pe_and (pe_call G_are_items hr_are_items (by rfl) T.m_are_items T.F_are_items.kp T.B_are_items .nil pass0 (pa_cons (pe_ix ix_tup (pv 1) pe_int (fun _ _ => rfl)) (pa_cons pe_int (pa_cons (pv 2) pa_nil)))) (pe_one (pe_call G_are_items hr_are_items (by rfl) T.m_are_items T.F_are_items.kp T.B_are_items .nil pass0 (pa_cons (pe_ix ix_tup (pv 1) pe_int (fun _ _ => rfl)) (pa_cons pe_int (pa_cons (pv 2) pa_nil))))))))) pss_nil)
      (pss_cons (ps_if (PW.pt (pw_or (pt_cmpR op_neI (pe_callB call_len_seq (by rfl) T.n_len (by decide +kernel) (pa_cons (pv 1) pa_nil)) pe_int (nomark _)) (pw_or1 (pt_not (pt_val (pe_call G_is_fraction hr_is_fraction (by rfl) T.m_is_fraction T.F_is_fraction.kp T.B_is_fraction .nil pass0 (pa_cons (pe_ix ix_tup (pv 1) pe_int (fun _ _ => rfl)) pa_nil))))))) (pss_one (ps_ret pe_bl)) pss_nil)
      (pss_one (ps_ret (pe_and (pe_call G_are_items hr_are_items (by rfl) T.m_are_items T.F_are_items.kp T.B_are_items .nil pass0 (pa_cons (pe_ix ix_tup (pv 1) pe_int (fun _ _ => rfl)) (pa_cons pe_int (pa_cons (pv 2) pa_nil)))) (pe_one (pe_call G_are_items hr_are_items (by rfl) T.m_are_items T.F_are_items.kp T.B_are_items .nil pass0 (pa_cons (pe_ix ix_tup (pv 1) pe_int (fun _ _ => rfl)) (pa_cons pe_int (pa_cons (pv 2) pa_nil))))))))))), ?_⟩
    obtain ⟨ds, hd⟩ := hv.dp
    obtain ⟨a, x, y, rfl, hx, hy, hk⟩ := hv
    obtain ⟨c1, c2, c3⟩ := g.a.chk
    obtain ⟨c4, c5, c6⟩ := g.b.chk
    refine seq_op fun N hN => ?_
    walk_at "rs"
    refine ⟨_, "tuple", ⟨rfl, rfl⟩, _, hd, by decide, iteFF (by simp [isTy]) (hN _ _ ?_)⟩
    clear hN N
    cases k with
    | true =>
      rw [if_pos rfl] at hk
      refine seq_op fun N hN => ?_
      walk_at "rs"
      refine iteTT rfl ⟨_, .inr hk, iteTT rfl ⟨_, hk, x, rfl, ?_⟩⟩
      refine ⟨x, 2, w, p.a, rfl, hx, c1, c2, c3, fun H1 s1 => ⟨true, rfl, ?_⟩⟩
      rw [if_pos rfl]
      exact ⟨_, Same.seqT s1 hk, y, rfl, y, 2, w, p.b, rfl, hy.same s1, c4, c5, c6, fun H2 s2 => kq H2 (Same.trans s1 s2)⟩
    | false =>
      rw [if_neg (by decide)] at hk
      obtain ⟨u, hk, hu⟩ := hk
      refine seq_op fun N hN => ?_
      walk_at "rs"
      refine iteFF (by decide) (hN _ _ ?_)
      clear hN N
      refine seq_op fun N hN => ?_
      walk_at "rs"
      refine ⟨_, .inr hk, iteFF (by simp) ⟨_, hk, _, rfl, frac_at hu g.f.1 fun H1 s1 => ⟨true, rfl, iteFF (by decide) (hN _ _ ?_)⟩⟩⟩
      clear hN N
      walk_at "rs"
      refine ⟨_, Same.seqT s1 hk, x, rfl, x, 1, w, p.a, rfl, hx.same s1, c1, c2, c3, fun H2 s2 => ⟨true, rfl, ?_⟩⟩
      rw [if_pos rfl]
      have s12 := Same.trans s1 s2
      exact ⟨_, Same.seqT s12 hk, y, rfl, y, 1, w, p.b, rfl, hy.same s12, c4, c5, c6, fun H3 s3 => kq H3 (Same.trans s12 s3)⟩
def sp_stage (K : PySem.W.Frag) : Sp := fun vs H Q _ => ∃ (v : V) (w : Int) (s : Sg), vs = [v, .int w] ∧ SV K H v s ∧ Gs 3900 w s ∧ ∀ H', Same H H' → Q (.bl true) H'
theorem ok_is_stage (T : Txt w K mg) : FnOk P w K mg base CX0 6 T.a_is_stage T.d_is_stage ["value", "width"] (sp_stage K) := by
  refine T.F_is_stage.ok sc_is_stage (fun vs H Q E h => ?_) (fun cdv A outer s H vs Q E hr h => ?_)
  · obtain ⟨v, w, s, rfl, _⟩ := h
    rfl
  · obtain ⟨v, w, sg, rfl, hv, g, kq⟩ := h
    have hr_is_part : Room 5 _ := hr
    have G_is_part := ok_is_part (P := P) (base := base) T
    refine ⟨_, (pss_cons (ps_if (PW.pt (pw_or (pt_not (pt_val (pe_callB (call_isiDK (K := K) rfl) (by rfl) T.n_isinstance (by decide +kernel) (pa_cons (pv 0) (pa_cons (pe_bltn (v := .ty "tuple") (u := .type "tuple") (by rfl) T.n_tuple (by decide +kernel) rfl) pa_nil))))) (pw_or1 (pt_cmpR op_neI (pe_callB call_len_seq (by rfl) T.n_len (by decide +kernel) (pa_cons (pv 0) pa_nil)) pe_int (nomark _))))) (pss_one (ps_ret pe_bl)) pss_nil)
      (pss_cons (ps_asg (pv 0) (pg_tup rfl (pgs_cons (pg_name (i := 2) sc_is_stage.nd rfl (Or.inr rfl)) (pgs_cons (pg_name (i := 3) sc_is_stage.nd rfl (Or.inl rfl)) pgs_nil))))
      (pss_cons (ps_if (PW.pt (pw_or (pt_not (pt_val (pe_callB (call_isiDK (K := K) rfl) (by rfl) T.n_isinstance (by decide +kernel) (pa_cons (pv 2) (pa_cons (pe_bltn (v := .ty "str") (u := .type "str") (by rfl) T.n_str (by decide +kernel) rfl) pa_nil))))) (pw_or1 (pt_cmpR op_notIn_seq (pv 2) (pe_tupU (pa_cons pe_str (pa_cons pe_str pa_nil))) (by rfl))))) (pss_one (ps_ret pe_bl)) pss_nil)
      (pss_one (ps_ret (pe_and (pe_callB call_isiDT (by rfl) T.n_isinstance (by decide +kernel) (pa_cons (pv 3) (pa_cons (pe_tupU (pa_cons (pe_bltn (v := .ty "list") (u := .type "list") (by rfl) T.n_list (by decide +kernel) rfl) (pa_cons (pe_bltn (v := .ty "tuple") (u := .type "tuple") (by rfl) T.n_tuple (by decide +kernel) rfl) pa_nil))) pa_nil))) (pe_one (pe_callB (cr_all rfl) (by rfl) T.n_all (by decide +kernel) (pa_cons (pe_lc (own := [("part", 4)]) (g := gName 4) (tt := tYes) rfl sc_is_stage.nd (pi_lt (pv 3)) (blkOk_by (own := [("part", 4)]) (N := N_is_stage) (sc := defScope s_is_stage) (by decide +kernel)) (fun _ _ _ _ _ => pg_name (i := 4) sc_is_stage.nd rfl (Or.inl rfl)) (fun _ _ _ _ _ => pts_nil) (fun _ _ _ _ _ => (pe_call G_is_part hr_is_part (by rfl) T.m_is_part T.F_is_part.kp T.B_is_part .nil pass0 (pa_cons (pv 2) (pa_cons (pv 4) (pa_cons (pv 1) pa_nil)))))) pa_nil))))))))), ?_⟩
    refine seq_op fun N hN => ?_
    walk_at "rs"
    obtain ⟨ds, hd⟩ := hv.dp
    obtain ⟨a, p, xs, rfl, ha, hp, hx⟩ := hv
    refine ⟨_, "tuple", ⟨rfl, rfl⟩, _, hd, by decide, iteFF (by simp [isTy]) ⟨_, rfl, _, .inr ha, iteFF (by simp) (hN _ _ ?_)⟩⟩
    clear hN N
    refine seq_op fun N hN => ?_
    walk_at "rs"
    refine ⟨_, _, rfl, ha, rfl, ?_⟩
    unfold gCons gNil
    walk_at "rs"
    refine ⟨_, _, ⟨rfl, rfl⟩, _, _, rfl, rfl, hN _ _ ?_⟩
    clear hN N
    refine seq_op fun N hN => ?_
    walk_at "rs"
    refine ⟨_, "str", ⟨rfl, rfl⟩, _, .str _, by decide, iteFF (by simp [isTy]) ⟨by decide, fun q1 H1 s1 q10 q11 => ⟨_, .inr (.inl (.inl q11)), rfl, rfl, iteFF (by cases sg.1 <;> decide) (hN _ _ ?_)⟩⟩⟩
    clear hN N
    walk_at "rs"
    refine ⟨by decide, fun q2 H2 s2 q20 q21 => ?_⟩
    have s12 := Same.trans s1 s2
    obtain ⟨dd, hd1, hd2⟩ := seq_dp (hp.same s12) fun v hv => by
      obtain ⟨x, _, q⟩ := hx.mem hv
      obtain ⟨ds, q⟩ := q.dp
      exact ⟨_, dp_same s12 q⟩
    refine ⟨_, q2, ⟨rfl, rfl⟩, q21, dd, hd1, ?_⟩
    rw [hd2, if_pos rfl]
    have lx := hx.len
    have l3 := g.len
    refine lc_lt1 (fun _ => .bl true) (fun Q q => ⟨_, rfl, q⟩) (hp.same s12) (by omega) (fun x G hx' s3 Q2 h2 => ?_) fun D G s3 _ e => ⟨D, List.replicate xs.length true, rfl, SqL.of (by rw [e, List.map_replicate, List.map_const']), by rw [all_true]; exact kq G (Same.trans s12 s3)⟩
    obtain ⟨r, hr1, hr2⟩ := hx.mem hx'
    walk_at "rs"
    exact ⟨sg.1, x, w, r, rfl, hr2.same (Same.trans s12 s3), g.it r hr1, h2⟩
def sp_check (K : PySem.W.Frag) : Sp := fun vs H Q _ => ∃ (v : V) (w : Int) (l : List Sg), vs = [v, .int w] ∧ SsV K H v l ∧ l.length ≤ 100 ∧ (∀ s ∈ l, Gs 3900 w s) ∧ ∀ H', Same H H' → Q .non H'
theorem ok_check_stages (T : Txt w K mg) : FnOk P w K mg base CX0 7 T.a_check_stages T.d_check_stages ["stages", "width"] (sp_check K) := by
  refine T.F_check_stages.ok sc_check_stages (fun vs H Q E h => ?_) (fun cdv A outer s H vs Q E hr h => ?_)
  · obtain ⟨v, w, s, rfl, _⟩ := h
    rfl
  · obtain ⟨v, w, l, rfl, hv, ll, g, kq⟩ := h
    have hr_is_stage : Room 6 _ := hr
    have G_is_stage := ok_is_stage (P := P) (base := base) T
    refine ⟨_, (pss_cons (ps_if (pt_not (pt_val (pe_callB call_isiDT (by rfl) T.n_isinstance (by decide +kernel) (pa_cons (pv 0) (pa_cons (pe_tupU (pa_cons (pe_bltn (v := .ty "list") (u := .type "list") (by rfl) T.n_list (by decide +kernel) rfl) (pa_cons (pe_bltn (v := .ty "tuple") (u := .type "tuple") (by rfl) T.n_tuple (by decide +kernel) rfl) pa_nil))) pa_nil))))) pss_never pss_nil)
      (pss_cons (ps_if (pt_cmpR op_gt (pe_callB call_len_seq (by rfl) T.n_len (by decide +kernel) (pa_cons (pv 0) pa_nil)) (pe_glob (v := .int 100) (by rfl) T.m_MOST_STAGES ⟨_, rfl⟩) (nomark _)) pss_never pss_nil)
      (pss_one (ps_for PassesOwn.never rfl (pi_enumLT (by rfl) T.n_enumerate (pa_cons (pv 0) pa_nil)) (pg_tup rfl (pgs_cons (pg_name (i := 2) sc_check_stages.nd rfl (Or.inl rfl)) (pgs_cons (pg_name (i := 3) sc_check_stages.nd rfl (Or.inl rfl)) pgs_nil))) (pss_one (ps_if (pt_not (pt_val (pe_call G_is_stage hr_is_stage (by rfl) T.m_is_stage T.F_is_stage.kp T.B_is_stage .nil pass0 (pa_cons (pv 3) (pa_cons (pv 1) pa_nil))))) pss_never pss_nil)))))), ?_⟩
    refine seq_op fun N hN => ?_
    walk_at "rs"
    refine ⟨by decide, fun p H1 s1 p0 p1 => ?_⟩
    obtain ⟨dd, hd1, hd2⟩ := hv.lt.same s1
    refine ⟨_, p, ⟨rfl, rfl⟩, p1, dd, hd1, iteFF (by rw [hd2]; decide) (hN _ _ ?_)⟩
    clear hN N
    obtain ⟨a, xs, rfl, ha, hx⟩ := hv
    refine seq_op fun N hN => ?_
    walk_at "rs"
    refine ⟨_, ha.same s1, iteFF (by have := hx.len; omega) (hN _ _ ?_)⟩
    clear hN N
    walk_at "rs"
    have lx := hx.len
    have step : ∀ (i : Nat) (x : V) (σ : L2.St) (H2 H3 : Hp), i < xs.length → (∃ x2 x3, σ = [some (.ref a), some (.int w), x2, x3] ∧ Same H1 H2) → YPair (fun i => some (.int (i : Nat))) (fun i => xs[i]?) i H2 x H3 → gTup K 2 (gCons (gName 2) (gCons (gName 3) gNil)) x σ H3 fun σ2 H4 => tIfS (tNot (tB (tCall (sp_stage K) [] E0 (tCons (tVar 3) (tCons (tVar 1) tNil))))) tNever tNext { nx := fun σ H => ∃ x2 x3, σ = [some (.ref a), some (.int w), x2, x3] ∧ Same H1 H, rt := Q, ct := fun σ H => ∃ x2 x3, σ = [some (.ref a), some (.int w), x2, x3] ∧ Same H1 H, bk := fun x H' => Q V.non H' } σ2 H4 := by
      rintro i x σ H2 H3 hi ⟨x2, x3, rfl, s2⟩ ⟨T0, y1, y2, rfl, hT, rfl, e1, e2⟩
      refine g2_at (K := K) (.inl (.inl upd_same)) ?_
      have s3 : Same H2 (L2.upd H2 T0 (.tup [y1, y2])) := same_upd hT
      generalize L2.upd H2 T0 (.tup [y1, y2]) = H4 at *
      obtain ⟨r, hr1, hr2⟩ := hx.get e2
      have s13 := Same.trans s1 (Same.trans s2 s3)
      walk_at "rs"
      exact ⟨y2, w, r, rfl, hr2.same s13, g r (List.mem_of_getElem? hr1), fun H5 s5 => ⟨true, rfl, iteFF (by decide) ⟨_, _, ⟨rfl, rfl⟩, Same.trans s2 (Same.trans s3 s5)⟩⟩⟩
    rcases ha with ha | ha
    · exact .inl ⟨_, rfl, a, xs, rfl, s1.seq ha, for_it walk_enum (fun _ σ H2 => ∃ x2 x3, σ = [some (.ref a), some (.int w), x2, x3] ∧ Same H1 H2) ⟨_, _, rfl, Same.refl _⟩ (fun i σ H2 _ ⟨_, _, _, s⟩ => s.seq (s1.seq ha)) (fun i x σ H2 H3 hi p y => step i x σ H2 H3 hi p y) fun σ H2 ⟨_, _, _, s⟩ => kq H2 (Same.trans s1 s)⟩
    · exact .inr ⟨_, rfl, a, xs, rfl, Same.seqT s1 ha, for_it walk_enumT (fun _ σ H2 => ∃ x2 x3, σ = [some (.ref a), some (.int w), x2, x3] ∧ Same H1 H2) ⟨_, _, rfl, Same.refl _⟩ (fun i σ H2 _ ⟨_, _, _, s⟩ => Same.seqT s (Same.seqT s1 ha)) (fun i x σ H2 H3 hi p y => step i x σ H2 H3 hi p y) fun σ H2 ⟨_, _, _, s⟩ => kq H2 (Same.trans s1 s)⟩
end
end LK

set_option Elab.async false
set_option linter.all false
set_option maxRecDepth 100000
namespace LK
open PySem PySem.Spec PyProof.Rows L2
local macro_rules | `(tactic| walk_at "rs") => `(tactic| simp only [tFld, sFld, tMeth, tMethZ, tMakeK, tProp, tFmt, rEqO, rNeO, cxK, cxNK, tCallZ, tAsg, tOp, rI0, rS0, rB0, rI, rU, tUn, rEq, rNe, rIxL, rIxT, rIxS, rSetL, rSlLU, rSlS, rSlU, rCatL, rCatU, rRepL, rIn, tVar, tC, gName, gSub, tIfS, tTest, tB, tAnd, tOr, tNot, tNotV, tAndV, tOrV, tIf, tCall, tCons, tNil, tCB, tDrop, tRet, tRetN, tNext, tLstU, tTupU, tM0, tM1, tPar, tPar3, tAug, ipI, tBM, tBM0, rAppend, rPop, tBreak, sDPut, tDGet, tDGet2, tCont, tChain, tSl, tPart, tNoPart, L2.start, List.map, List.length_cons, List.length_nil, List.replicate, List.cons_append, List.nil_append, List.append_nil, List.getElem?_cons_zero, List.getElem?_cons_succ, List.set_cons_zero, List.set_cons_succ, Option.some.injEq, V.int.injEq, V.ref.injEq, V.str.injEq, V.bl.injEq, exists_eq_left', exists_eq_left, exists_and_left, decide_eq_true_eq, List.cons.injEq, and_true, true_and, scal, Bool.not_eq_true', decide_eq_false_iff_not, Nat.zero_add, Nat.reduceAdd, Nat.reduceSub, reduceCtorEq, false_and, exists_false, false_or, or_false, CPow, CPowW, CMul, CDiv, Int.reduceToNat, ↓reduceIte, wipe, sw, List.nil_append, List.singleton_append])
local macro_rules | `(tactic| walk_at "st") => `(tactic| (refine seq_op fun N hN => ?_; walk_at "rs"))
local macro_rules | `(tactic| walk_at "sd") => `(tactic| first | assumption | decide | omega)
local macro_rules | `(tactic| walk_at "rd") => `(tactic| repeat (first
  | refine ⟨_, SqL.of (by assumption), ?_⟩ | refine ⟨_, SqL.of upd_same, ?_⟩ | refine ⟨_, .inl (SqL.of (by assumption)), ?_⟩ | refine ⟨_, (by assumption : _ = some (HO.lst _)), ?_⟩ | refine ⟨_, upd_same, ?_⟩
  | refine ⟨_, rfl, ?_⟩ | refine And.intro (by walk_at "sd") ?_))

/-- the fields of a net -/
def fl (vs : List V) : List (Str × V) := (["signs", "n", "width", "_rest_row", "_sign_rows", "_place_rows", "_stages"] : List Str).zip vs
theorem pf0 ( y : V) : putF "signs" y (fl []) = fl [y] := by rfl
theorem pf1 (v0 y : V) : putF "n" y (fl [v0]) = fl [v0, y] := by rfl
theorem pf2 (v0 v1 y : V) : putF "width" y (fl [v0, v1]) = fl [v0, v1, y] := by rfl
theorem pf3 (v0 v1 v2 y : V) : putF "_rest_row" y (fl [v0, v1, v2]) = fl [v0, v1, v2, y] := by rfl
theorem pf4 (v0 v1 v2 v3 y : V) : putF "_sign_rows" y (fl [v0, v1, v2, v3]) = fl [v0, v1, v2, v3, y] := by rfl
theorem pf5 (v0 v1 v2 v3 v4 y : V) : putF "_place_rows" y (fl [v0, v1, v2, v3, v4]) = fl [v0, v1, v2, v3, v4, y] := by rfl
theorem pf6 (v0 v1 v2 v3 v4 v5 y : V) : putF "_stages" y (fl [v0, v1, v2, v3, v4, v5]) = fl [v0, v1, v2, v3, v4, v5, y] := by rfl
/-- an instance of Net -/
def NA (K : PySem.W.Frag) (H : Hp) (C : Addr) (v : V) (x : Nd) : Prop := ∃ a dx r1 r2 r3 r4, v = .ref a ∧ H a = some (.ins C dx (fl [.int x.s, .int x.n, .int x.w, r1, r2, r3, r4])) ∧ Dp K H r1 (dI x.rest) ∧ Dp K H r2 (dRs x.sg) ∧ Dp K H r3 (dRs x.pl) ∧ Dp K H r4 (dSs x.st)
theorem NA.tk {K : PySem.W.Frag} {H H' : Hp} {C : Addr} {v : V} {x : Nd} (t : Tk H H') : NA K H C v x → NA K H' C v x := fun ⟨a, dx, r1, r2, r3, r4, e, h, h1, h2, h3, h4⟩ =>
  ⟨a, dx, r1, r2, r3, r4, e, t _ _ h (fun xs z => by cases z), dp_tk t (td_I _) h1, dp_tk t (td_Rs _) h2, dp_tk t (td_Rs _) h3, dp_tk t (td_Ss _) h4⟩
theorem NA.same {K : PySem.W.Frag} {H H' : Hp} {C : Addr} {v : V} {x : Nd} (s : Same H H') : NA K H C v x → NA K H' C v x := NA.tk (Tk.of s)
/-! tuples kept -/
mutual
theorem dp_tu {K : PySem.W.Frag} {H H' : Hp} (e : ∀ a xs, SqT K H a xs → SqT K H' a xs) : ∀ {d : PyData} {v : V}, tdD d = true → Dp K H v d → Dp K H' v d
  | .none, _, _, h => by cases h; exact .non
  | .bool _, _, _, h => by cases h; exact .bl _
  | .int _, _, _, h => by cases h; exact .int _
  | .str _, _, _, h => by cases h; exact .str _
  | .list ds, _, t, h => by unfold tdD at t; cases t
  | .tuple ds, _, t, h => by cases h with | tup a b => exact .tup (e _ _ a) (dpa_tu e (by unfold tdD at t; exact t) b)
  | .dict _, _, _, h => by cases h
theorem dpa_tu {K : PySem.W.Frag} {H H' : Hp} (e : ∀ a xs, SqT K H a xs → SqT K H' a xs) : ∀ {ds : List PyData} {vs : List V}, tdAll ds = true → DpAll K H vs ds → DpAll K H' vs ds
  | [], _, _, h => by cases h; exact .nil
  | _ :: _, _, t, h => by
    unfold tdAll at t
    rw [Bool.and_eq_true] at t
    cases h with | cons a b => exact .cons (dp_tu e t.1 a) (dpa_tu e t.2 b)
end
theorem notT_ins {H : Hp} {p C dx : Addr} {fs : List (Str × V)} (h : H p = some (.ins C dx fs)) : ∀ zs, ¬ Rd H p (.tup zs) := fun zs r => by
  rcases r with r | ⟨u, r⟩ <;> (rw [h] at r; cases r)
section
variable {P : Program} {w : World} {K : PySem.W.Frag} {mg : Str → Option Value} {base : Heap}
theorem norm_at {H : Hp} {Q : VK} {E : XK} {v : V} {l : List It} {m d : Nat} {wd : Int} (h : IV K H v l) (g : Gi m d wd l) (hm : m ≤ 3900) (k : ∀ t H', Same H H' → Dp K H' (.ref t) (dI (nf l)) → Q (.ref t) H') : sp_norm K d [v] H Q E := by
  obtain ⟨a, xs, rfl, ha, hi⟩ := h
  refine ⟨a, xs, l, rfl, ha, hi, g.fit hm, fun t ys its' H' s h1 h2 h3 _ => k t H' s ?_⟩
  rw [← nf_eq h3]
  exact dI_at h1 h2
def sp_npart (K : PySem.W.Frag) : Sp := fun vs H Q _ => ∃ (k : Bool) (v : V) (w : Int) (p : Pt), vs = [.str (kS k), v] ∧ PV K H k v p ∧ Gp 3900 w k p ∧ ∀ t H', Same H H' → Dp K H' (.ref t) (dP k (nfP p)) → Q (.ref t) H'
theorem ok_normal_part (T : Txt w K mg) : FnOk P w K mg base CX0 6 T.a_normal_part T.d_normal_part ["kind", "part"] (sp_npart K) := by
  refine T.F_normal_part.ok sc_normal_part (fun vs H Q E h => ?_) (fun cdv A outer s H vs Q E hr h => ?_)
  · obtain ⟨k, v, w, p, rfl, _⟩ := h
    rfl
  · obtain ⟨k, v, w, p, rfl, hv, g, kq⟩ := h
    have hr_normal_entries : Room 5 _ := hr
    have G_normal_entries := ok_normal_entries (P := P) (base := base) T
    have hr_normal_triples : Room 5 _ := hr
    have G_normal_triples := ok_normal_triples (P := P) (base := base) T
    refine ⟨_, (pss_cons (ps_if (pt_cmpR op_eqS (pv 0) pe_str (nomark _)) (pss_one (ps_ret (pe_tupU (pa_cons (pe_call G_normal_triples hr_normal_triples (by rfl) T.m_normal_triples T.F_normal_triples.kp T.B_normal_triples .nil pass0 (pa_cons (pe_ix ix_tup (pv 1) pe_int (fun _ _ => rfl)) pa_nil)) (pa_cons (pe_call G_normal_triples hr_normal_triples (by rfl) T.m_normal_triples T.F_normal_triples.kp T.B_normal_triples .nil pass0 (pa_cons (pe_ix ix_tup (pv 1) pe_int (fun _ _ => rfl)) pa_nil)) pa_nil))))) pss_nil)
      (pss_one (ps_ret (pe_tupU (pa_cons (pe_call G_normal_entries hr_normal_entries (by rfl) T.m_normal_entries T.F_normal_entries.kp T.B_normal_entries .nil pass0 (pa_cons (pe_ix ix_tup (pv 1) pe_int (fun _ _ => rfl)) pa_nil)) (pa_cons (pe_ix ix_tup (pv 1) pe_int (fun _ _ => rfl)) (pa_cons (pe_call G_normal_entries hr_normal_entries (by rfl) T.m_normal_entries T.F_normal_entries.kp T.B_normal_entries .nil pass0 (pa_cons (pe_ix ix_tup (pv 1) pe_int (fun _ _ => rfl)) pa_nil)) pa_nil))))))), ?_⟩
    obtain ⟨a, x, y, rfl, hx, hy, hk⟩ := hv
    cases k with
    | true =>
      rw [if_pos rfl] at hk
      refine seq_op fun N hN => ?_
      walk_at "rs"
      refine iteTT rfl ⟨_, hk, x, rfl, norm_at hx g.a (by decide) fun t1 H1 s1 h1 => ⟨_, Same.seqT s1 hk, y, rfl, norm_at (hy.same s1) g.b (by decide) fun t2 H2 s2 h2 => ⟨by decide, fun t3 H3 s3 _ h3 => ?_⟩⟩⟩
      refine kq t3 H3 (Same.trans s1 (Same.trans s2 s3)) ?_
      exact .tup (.inl (.inl h3)) (.cons (dp_same (Same.trans s2 s3) h1) (.cons (dp_same s3 h2) .nil))
    | false =>
      rw [if_neg (by decide)] at hk
      obtain ⟨u, hk, hu⟩ := hk
      refine seq_op fun N hN => ?_
      walk_at "rs"
      refine iteFF (by decide) (hN _ _ ?_)
      clear hN N
      walk_at "rs"
      refine ⟨_, hk, x, rfl, norm_at hx g.a (by decide) fun t1 H1 s1 h1 => ⟨_, Same.seqT s1 hk, .ref u, rfl, _, Same.seqT s1 hk, y, rfl, norm_at (hy.same s1) g.b (by decide) fun t2 H2 s2 h2 => ⟨by decide, fun t3 H3 s3 _ h3 => ?_⟩⟩⟩
      have s13 := Same.trans s1 (Same.trans s2 s3)
      refine kq t3 H3 s13 ?_
      exact .tup (.inl (.inl h3)) (.cons (dp_same (Same.trans s2 s3) h1) (.cons (dF_at (Same.seqT s13 hu)) (.cons (dp_same s3 h2) .nil)))
def sp_nstage (K : PySem.W.Frag) : Sp := fun vs H Q _ => ∃ (v : V) (w : Int) (s : Sg), vs = [v] ∧ SV K H v s ∧ Gs 3900 w s ∧ ∀ t H', Same H H' → Dp K H' (.ref t) (dS (nfS s)) → Q (.ref t) H'
theorem ok_normal_stage (T : Txt w K mg) : FnOk P w K mg base CX0 7 T.a_normal_stage T.d_normal_stage ["stage"] (sp_nstage K) := by
  refine T.F_normal_stage.ok sc_normal_stage (fun vs H Q E h => ?_) (fun cdv A outer s H vs Q E hr h => ?_)
  · obtain ⟨v, w, s, rfl, _⟩ := h
    rfl
  · obtain ⟨v, w, sg, rfl, hv, g, kq⟩ := h
    have hr_normal_part : Room 6 _ := hr
    have G_normal_part := ok_normal_part (P := P) (base := base) T
    refine ⟨_, (pss_cons (ps_asg (pv 0) (pg_tup rfl (pgs_cons (pg_name (i := 1) sc_normal_stage.nd rfl (Or.inr rfl)) (pgs_cons (pg_name (i := 2) sc_normal_stage.nd rfl (Or.inl rfl)) pgs_nil))))
      (pss_one (ps_ret (pe_tupU (pa_cons (pv 1) (pa_cons (pe_callTy call_tupleN (by rfl) T.n_tuple (by decide +kernel) (pa_cons (pe_lc (own := [("part", 3)]) (g := gName 3) (tt := tYes) rfl sc_normal_stage.nd (pi_lt (pv 2)) (blkOk_by (own := [("part", 3)]) (N := N_normal_stage) (sc := defScope s_normal_stage) (by decide +kernel)) (fun _ _ _ _ _ => pg_name (i := 3) sc_normal_stage.nd rfl (Or.inl rfl)) (fun _ _ _ _ _ => pts_nil) (fun _ _ _ _ _ => (pe_call G_normal_part hr_normal_part (by rfl) T.m_normal_part T.F_normal_part.kp T.B_normal_part .nil pass0 (pa_cons (pv 1) (pa_cons (pv 3) pa_nil))))) pa_nil)) pa_nil)))))), ?_⟩
    obtain ⟨a, p, xs, rfl, ha, hp, hx⟩ := hv
    refine seq_op fun N hN => ?_
    walk_at "rs"
    refine ⟨_, _, rfl, ha, rfl, ?_⟩
    unfold gCons gNil
    walk_at "rs"
    refine ⟨_, _, ⟨rfl, rfl⟩, _, _, rfl, rfl, hN _ _ ?_⟩
    clear hN N
    walk_at "rs"
    have lx := hx.len
    have l3 := g.len
    refine lc_al (sg.2.map fun p => dP sg.1 (nfP p)) (fun H v d => tdD d = true ∧ Dp K H v d) (fun G G' v d t h => ⟨h.1, dp_tk t h.1 h.2⟩) (fun Q q => ⟨_, rfl, q⟩) hp (by omega) (by rw [List.length_map]; exact lx) (fun j x y G hx1 hy1 s1 Q2 h2 => ?_) fun D H1 vs s1 _ h1 al => ?_
    · rw [List.getElem?_map] at hy1
      obtain ⟨p', hp1, rfl⟩ := Option.map_eq_some_iff.mp hy1
      obtain ⟨p2, hp2, hv⟩ := hx.get hx1
      rw [hp1] at hp2
      cases hp2
      walk_at "rs"
      exact ⟨sg.1, x, w, p', rfl, hv.same s1, g.it p' (List.mem_of_getElem? hp1), fun t H' s' q => h2 (.ref t) H' s' ⟨td_P _ _, q⟩⟩
    · walk_at "rs"
      refine ⟨_, SqL.of h1, fun q2 H2 s2 _ h2 => ⟨by decide, fun q3 H3 s3 _ h3 => kq q3 H3 (Same.trans s1 (Same.trans s2 s3)) ?_⟩⟩
      have al2 : DpAll K H3 vs (sg.2.map fun p => dP sg.1 (nfP p)) := by
        have := dpa_al (f := fun d => d) (al.imp fun _ _ h => dp_same (Same.trans s2 s3) h.2)
        rwa [List.map_id'] at this
      have e : (nfS sg).2.map (dP (nfS sg).1) = sg.2.map fun p => dP sg.1 (nfP p) := by
        show (sg.2.map nfP).map (dP sg.1) = _
        rw [List.map_map]; rfl
      refine .tup (.inl (.inl h3)) (.cons (.str _) (.cons (.tup (.inl (.inl (s3 _ _ h2))) ?_) .nil))
      rw [e]; exact al2
def sp_init (K : PySem.W.Frag) (C : Addr) : Sp := fun vs H Q _ => ∃ (a dx : Addr) (Hb : Hp) (x : Nd) (vr vg vp vt : V), vs = [.ref a, .int x.s, .int x.n, .int x.w, vr, vg, vp, vt] ∧ H a = some (.ins C dx []) ∧ Hb a = none ∧ Same Hb H ∧
  IV K Hb vr x.rest ∧ RV K Hb vg x.sg ∧ RV K Hb vp x.pl ∧ SsV K Hb vt x.st ∧ Gn 3900 x ∧ ∀ H', Same Hb H' → NA K H' C (.ref a) (nfN x) → Q .non H'
theorem Gs.lt3 {m : Nat} {w : Int} {l : List Sg} (h : ∀ s ∈ l, Gs m w s) (hm : m ≤ 3900) (w2 : w ≤ 2000) : ∀ s ∈ l, Gs 3900 w s := fun s hs => (h s hs).le hm (Int.le_refl _) w2
theorem ok_Net__init (T : Txt w K mg) : FnOk P w K mg base CX0 8 T.a_Net__init T.d_Net__init ["self", "signs", "n", "width", "rest", "sign_rows", "place_rows", "stages"] (sp_init K T.A_Net) := by
  refine T.F_Net__init.ok sc_Net__init (fun vs H Q E h => ?_) (fun cdv A outer s H vs Q E hr h => ?_)
  · obtain ⟨a, dx, Hb, x, vr, vg, vp, vt, rfl, _⟩ := h
    rfl
  · obtain ⟨a, dx, Hb, x, vr, vg, vp, vt, rfl, ha, hb0, sb, hr1, hg1, hp1, ht1, g, kq⟩ := h
    have hr_are_sizes : Room 2 _ := hr.mono (by decide)
    have G_are_sizes := ok_are_sizes (P := P) (base := base) T
    have hr_is_number : Room 1 _ := hr.mono (by decide)
    have G_is_number := ok_is_number (P := P) (base := base) T
    have hr_are_items : Room 4 _ := hr.mono (by decide)
    have G_are_items := ok_are_items (P := P) (base := base) T
    have hr_are_rows : Room 5 _ := hr.mono (by decide)
    have G_are_rows := ok_are_rows (P := P) (base := base) T
    have hr_check_stages : Room 7 _ := hr
    have G_check_stages := ok_check_stages (P := P) (base := base) T
    have hr_normal_entries : Room 5 _ := hr.mono (by decide)
    have G_normal_entries := ok_normal_entries (P := P) (base := base) T
    have hr_normal_stage : Room 7 _ := hr
    have G_normal_stage := ok_normal_stage (P := P) (base := base) T
    refine ⟨_, (pss_cons (ps_if (PW.pt (pw_or (pt_not (pt_val (pe_call G_are_sizes hr_are_sizes (by rfl) T.m_are_sizes T.F_are_sizes.kp T.B_are_sizes .nil pass0 (pa_cons (pv 1) (pa_cons (pv 2) pa_nil))))) (pw_or (pt_not (pt_val (pe_call G_is_number hr_is_number (by rfl) T.m_is_number T.F_is_number.kp T.B_is_number .nil pass0 (pa_cons (pv 3) pa_nil)))) (pw_or1 (pt_cmpR op_lt (pv 3) pe_int (nomark _)))))) pss_never pss_nil)
      (pss_cons (ps_if (pt_cmpR op_gt (pv 3) (pe_glob (v := .int 2000) (by rfl) T.m_MOST_WIDTH ⟨_, rfl⟩) (nomark _)) pss_never pss_nil)
      (pss_cons (ps_if (pt_not (pt_val (pe_call G_are_items hr_are_items (by rfl) T.m_are_items T.F_are_items.kp T.B_are_items .nil pass0 (pa_cons (pv 4) (pa_cons pe_int (pa_cons (pv 3) pa_nil)))))) pss_never pss_nil)
      (pss_cons (ps_if (pt_not (pt_val (pe_call G_are_rows hr_are_rows (by rfl) T.m_are_rows T.F_are_rows.kp T.B_are_rows .nil pass0 (pa_cons (pv 5) (pa_cons (pv 1) (pa_cons (pv 3) pa_nil)))))) pss_never pss_nil)
      (pss_cons (ps_if (pt_not (pt_val (pe_call G_are_rows hr_are_rows (by rfl) T.m_are_rows T.F_are_rows.kp T.B_are_rows .nil pass0 (pa_cons (pv 6) (pa_cons (pv 2) (pa_cons (pv 3) pa_nil)))))) pss_never pss_nil)
      (pss_cons (ps_expr (pe_call G_check_stages hr_check_stages (by rfl) T.m_check_stages T.F_check_stages.kp T.B_check_stages .nil pass0 (pa_cons (pv 7) (pa_cons (pv 3) pa_nil))))
      (pss_cons (ps_fld (pv 0) (pv 1) rfl)
      (pss_cons (ps_fld (pv 0) (pv 2) rfl)
      (pss_cons (ps_fld (pv 0) (pv 3) rfl)
      (pss_cons (ps_fld (pv 0) (pe_call G_normal_entries hr_normal_entries (by rfl) T.m_normal_entries T.F_normal_entries.kp T.B_normal_entries .nil pass0 (pa_cons (pv 4) pa_nil)) rfl)
      (pss_cons (ps_fld (pv 0) (pe_callTy call_tupleN (by rfl) T.n_tuple (by decide +kernel) (pa_cons (pe_lc (own := [("entries", 8)]) (g := gName 8) (tt := tYes) rfl sc_Net__init.nd (pi_lt (pv 5)) (blkOk_by (own := [("entries", 8)]) (N := N_Net__init) (sc := defScope s_Net__init) (by decide +kernel)) (fun _ _ _ _ _ => pg_name (i := 8) sc_Net__init.nd rfl (Or.inl rfl)) (fun _ _ _ _ _ => pts_nil) (fun _ _ _ _ _ => (pe_call G_normal_entries hr_normal_entries (by rfl) T.m_normal_entries T.F_normal_entries.kp T.B_normal_entries .nil pass0 (pa_cons (pv 8) pa_nil)))) pa_nil)) rfl)
      (pss_cons (ps_fld (pv 0) (pe_callTy call_tupleN (by rfl) T.n_tuple (by decide +kernel) (pa_cons (pe_lc (own := [("entries", 8)]) (g := gName 8) (tt := tYes) rfl sc_Net__init.nd (pi_lt (pv 6)) (blkOk_by (own := [("entries", 8)]) (N := N_Net__init) (sc := defScope s_Net__init) (by decide +kernel)) (fun _ _ _ _ _ => pg_name (i := 8) sc_Net__init.nd rfl (Or.inl rfl)) (fun _ _ _ _ _ => pts_nil) (fun _ _ _ _ _ => (pe_call G_normal_entries hr_normal_entries (by rfl) T.m_normal_entries T.F_normal_entries.kp T.B_normal_entries .nil pass0 (pa_cons (pv 8) pa_nil)))) pa_nil)) rfl)
      (pss_one (ps_fld (pv 0) (pe_callTy call_tupleN (by rfl) T.n_tuple (by decide +kernel) (pa_cons (pe_lc (own := [("stage", 9)]) (g := gName 9) (tt := tYes) rfl sc_Net__init.nd (pi_lt (pv 7)) (blkOk_by (own := [("stage", 9)]) (N := N_Net__init) (sc := defScope s_Net__init) (by decide +kernel)) (fun _ _ _ _ _ => pg_name (i := 9) sc_Net__init.nd rfl (Or.inl rfl)) (fun _ _ _ _ _ => pts_nil) (fun _ _ _ _ _ => (pe_call G_normal_stage hr_normal_stage (by rfl) T.m_normal_stage T.F_normal_stage.kp T.B_normal_stage .nil pass0 (pa_cons (pv 9) pa_nil)))) pa_nil)) rfl)))))))))))))), ?_⟩
    refine seq_op fun N hN => ?_
    walk_at "rs"
    obtain ⟨gs1, gs2⟩ := g.s
    obtain ⟨gn1, gn2⟩ := g.n
    obtain ⟨gw1, gw2⟩ := g.w
    obtain ⟨c1, c2, c3⟩ := g.rest.chk
    refine ⟨_, _, rfl, gs1, gs2, gn1, gn2, fun H1 s1 => ⟨true, rfl, iteFF (by decide) (num_at fun H2 s2 => ⟨true, rfl, iteFF (by decide) (iteFF (by omega) (hN _ _ ?_))⟩)⟩⟩
    clear hN N
    have s12 := Same.trans s1 s2
    replace ha := s12 _ _ ha
    replace sb := Same.trans sb s12
    clear s12 s1 s2
    refine seq_op fun N hN => ?_
    walk_at "rs"
    refine iteFF (by omega) (hN _ _ ?_)
    clear hN N
    refine seq_op fun N hN => ?_
    walk_at "rs"
    refine ⟨vr, 1, x.w, x.rest, rfl, hr1.same sb, c1, c2, c3, fun H3 s3 => ⟨true, rfl, iteFF (by decide) (hN _ _ ?_)⟩⟩
    clear hN N
    replace ha := s3 _ _ ha
    replace sb := Same.trans sb s3
    clear s3
    refine seq_op fun N hN => ?_
    walk_at "rs"
    refine ⟨vg, x.s, x.w, x.sg, rfl, hg1.same sb, g.sg.1, by omega, fun r hr => ⟨(g.sg.2 r hr).chk.2.2, (g.sg.2 r hr).chk.2.1⟩, fun H4 s4 => ⟨true, rfl, iteFF (by decide) (hN _ _ ?_)⟩⟩
    clear hN N
    replace ha := s4 _ _ ha
    replace sb := Same.trans sb s4
    clear s4
    refine seq_op fun N hN => ?_
    walk_at "rs"
    refine ⟨vp, x.n, x.w, x.pl, rfl, hp1.same sb, g.pl.1, by omega, fun r hr => ⟨(g.pl.2 r hr).chk.2.2, (g.pl.2 r hr).chk.2.1⟩, fun H5 s5 => ⟨true, rfl, iteFF (by decide) (hN _ _ ?_)⟩⟩
    clear hN N
    replace ha := s5 _ _ ha
    replace sb := Same.trans sb s5
    clear s5
    refine seq_op fun N hN => ?_
    walk_at "rs"
    refine ⟨vt, x.w, x.st, rfl, ht1.same sb, g.st.1, g.st.2, fun H6 s6 => hN _ _ ?_⟩
    clear hN N
    replace ha := s6 _ _ ha
    replace sb := Same.trans sb s6
    clear s6
    -- the fields
    have upd1 : ∀ {G : Hp} {o : HO}, Same Hb G → Same Hb (L2.upd G a o) := fun s p o e => by rw [upd_ne (ne_of_none e hb0)]; exact s _ _ e
    refine seq_op fun N hN => ?_
    walk_at "rs"
    refine ⟨_, _, _, ha, T.C_Net, T.na_signs, (by show 0 < 1000; decide), hN _ _ ?_⟩
    clear hN N
    rw [show putF "signs" (V.int x.s) [] = fl [.int x.s] from rfl]
    replace sb := upd1 (o := .ins T.A_Net dx (fl [.int x.s])) sb
    replace ha : (L2.upd H6 a (.ins T.A_Net dx (fl [.int x.s]))) a = some (.ins T.A_Net dx (fl [.int x.s])) := upd_same
    generalize L2.upd H6 a (.ins T.A_Net dx (fl [.int x.s])) = H7 at *
    refine seq_op fun N hN => ?_
    walk_at "rs"
    refine ⟨_, _, _, ha, T.C_Net, T.na_n, (by show 1 < 1000; decide), hN _ _ ?_⟩
    clear hN N
    rw [pf1]
    replace sb := upd1 (o := .ins T.A_Net dx (fl [.int x.s, .int x.n])) sb
    replace ha : (L2.upd H7 a (.ins T.A_Net dx (fl [.int x.s, .int x.n]))) a = some (.ins T.A_Net dx (fl [.int x.s, .int x.n])) := upd_same
    generalize L2.upd H7 a (.ins T.A_Net dx (fl [.int x.s, .int x.n])) = H8 at *
    refine seq_op fun N hN => ?_
    walk_at "rs"
    refine ⟨_, _, _, ha, T.C_Net, T.na_width, (by show 2 < 1000; decide), hN _ _ ?_⟩
    clear hN N
    rw [pf2]
    replace sb := upd1 (o := .ins T.A_Net dx (fl [.int x.s, .int x.n, .int x.w])) sb
    replace ha : (L2.upd H8 a (.ins T.A_Net dx (fl [.int x.s, .int x.n, .int x.w]))) a = some (.ins T.A_Net dx (fl [.int x.s, .int x.n, .int x.w])) := upd_same
    generalize L2.upd H8 a (.ins T.A_Net dx (fl [.int x.s, .int x.n, .int x.w])) = H9 at *
    have tu : ∀ {G : Hp} {fs gs : List (Str × V)}, G a = some (.ins T.A_Net dx fs) → ∀ {d : PyData} {v : V}, tdD d = true → Dp K G v d → Dp K (L2.upd G a (.ins T.A_Net dx gs)) v d := fun e _ _ td h => dp_tu (fun _ _ q => seqT_updO (notT_ins e) q) td h
    -- the resting place
    refine seq_op fun N hN => ?_
    walk_at "rs"
    refine norm_at (hr1.same sb) g.rest (by decide) fun t1 H10 s10 d1 => ⟨_, _, _, s10 _ _ ha, T.C_Net, T.na__rest_row, (by show 3 < 1000; decide), hN _ _ ?_⟩
    clear hN N
    rw [pf3]
    replace ha := s10 _ _ ha
    replace sb := Same.trans sb s10
    replace d1 := tu (gs := fl [.int x.s, .int x.n, .int x.w, .ref t1]) ha (td_I _) d1
    replace sb := upd1 (o := .ins T.A_Net dx (fl [.int x.s, .int x.n, .int x.w, .ref t1])) sb
    replace ha : (L2.upd H10 a (.ins T.A_Net dx (fl [.int x.s, .int x.n, .int x.w, .ref t1]))) a = some (.ins T.A_Net dx (fl [.int x.s, .int x.n, .int x.w, .ref t1])) := upd_same
    generalize L2.upd H10 a (.ins T.A_Net dx (fl [.int x.s, .int x.n, .int x.w, .ref t1])) = H11 at *
    clear s10 H10
    refine seq_op fun N hN => ?_
    walk_at "rs"
    obtain ⟨a4, xs4, e4, ha4, hx4⟩ := hg1.same sb
    subst e4
    refine lc_al (x.sg.map fun l => dI (nf l)) (fun H v d => tdD d = true ∧ Dp K H v d) (fun G G' v d t h => ⟨h.1, dp_tk t h.1 h.2⟩) (fun Q q => ⟨_, rfl, q⟩) ha4 (by have := hx4.len; have := g.sg.1; omega) (by rw [List.length_map]; exact hx4.len) (fun j v y G hx1 hy1 s1 Q2 h2 => ?_) fun D G1 vs s1 _ h1 al => ?_
    · rw [List.getElem?_map] at hy1
      obtain ⟨p', hp1', rfl⟩ := Option.map_eq_some_iff.mp hy1
      obtain ⟨p2, hp2, hv⟩ := hx4.get hx1
      rw [hp1'] at hp2
      cases hp2
      walk_at "rs"
      exact norm_at (hv.same s1) (g.sg.2 _ (List.mem_of_getElem? hp1')) (by decide) fun t H' s' q => h2 (.ref t) H' s' ⟨td_I _, q⟩
    walk_at "rs"
    refine ⟨_, SqL.of h1, fun t2 G2 s2 _ h2 => ⟨_, _, _, s2 _ _ (s1 _ _ ha), T.C_Net, T.na__sign_rows, (by show 4 < 1000; decide), hN _ _ ?_⟩⟩
    clear hN N
    rw [pf4]
    have s12 := Same.trans s1 s2
    have d2 : Dp K G2 (.ref t2) (dRs (x.sg.map nf)) := by
      have al2 := dpa_al (f := fun d => d) (al.imp fun _ _ h => dp_same s2 h.2)
      rw [List.map_id'] at al2
      refine .tup (.inl (.inl h2)) ?_
      rw [List.map_map]; exact al2
    replace ha := s12 _ _ ha
    replace sb := Same.trans sb s12
    replace d1 := tu (gs := fl [.int x.s, .int x.n, .int x.w, .ref t1, .ref t2]) ha (td_I _) (dp_same s12 d1)
    replace d2 := tu (gs := fl [.int x.s, .int x.n, .int x.w, .ref t1, .ref t2]) ha (td_Rs _) d2
    replace sb := upd1 (o := .ins T.A_Net dx (fl [.int x.s, .int x.n, .int x.w, .ref t1, .ref t2])) sb
    replace ha : (L2.upd G2 a (.ins T.A_Net dx (fl [.int x.s, .int x.n, .int x.w, .ref t1, .ref t2]))) a = some (.ins T.A_Net dx (fl [.int x.s, .int x.n, .int x.w, .ref t1, .ref t2])) := upd_same
    generalize L2.upd G2 a (.ins T.A_Net dx (fl [.int x.s, .int x.n, .int x.w, .ref t1, .ref t2])) = H12 at *
    refine seq_op fun N hN => ?_
    walk_at "rs"
    obtain ⟨a5, xs5, e5, ha5, hx5⟩ := hp1.same sb
    subst e5
    refine lc_al (x.pl.map fun l => dI (nf l)) (fun H v d => tdD d = true ∧ Dp K H v d) (fun G G' v d t h => ⟨h.1, dp_tk t h.1 h.2⟩) (fun Q q => ⟨_, rfl, q⟩) ha5 (by have := hx5.len; have := g.pl.1; omega) (by rw [List.length_map]; exact hx5.len) (fun j v y G hx1 hy1 s1 Q2 h2 => ?_) fun D G1 vs s1 _ h1 al => ?_
    · rw [List.getElem?_map] at hy1
      obtain ⟨p', hp1', rfl⟩ := Option.map_eq_some_iff.mp hy1
      obtain ⟨p2, hp2, hv⟩ := hx5.get hx1
      rw [hp1'] at hp2
      cases hp2
      walk_at "rs"
      exact norm_at (hv.same s1) (g.pl.2 _ (List.mem_of_getElem? hp1')) (by decide) fun t H' s' q => h2 (.ref t) H' s' ⟨td_I _, q⟩
    walk_at "rs"
    refine ⟨_, SqL.of h1, fun t3 G2 s2 _ h2 => ⟨_, _, _, s2 _ _ (s1 _ _ ha), T.C_Net, T.na__place_rows, (by show 5 < 1000; decide), hN _ _ ?_⟩⟩
    clear hN N
    rw [pf5]
    have s12 := Same.trans s1 s2
    have d3 : Dp K G2 (.ref t3) (dRs (x.pl.map nf)) := by
      have al2 := dpa_al (f := fun d => d) (al.imp fun _ _ h => dp_same s2 h.2)
      rw [List.map_id'] at al2
      refine .tup (.inl (.inl h2)) ?_
      rw [List.map_map]; exact al2
    replace ha := s12 _ _ ha
    replace sb := Same.trans sb s12
    replace d1 := tu (gs := fl [.int x.s, .int x.n, .int x.w, .ref t1, .ref t2, .ref t3]) ha (td_I _) (dp_same s12 d1)
    replace d2 := tu (gs := fl [.int x.s, .int x.n, .int x.w, .ref t1, .ref t2, .ref t3]) ha (td_Rs _) (dp_same s12 d2)
    replace d3 := tu (gs := fl [.int x.s, .int x.n, .int x.w, .ref t1, .ref t2, .ref t3]) ha (td_Rs _) d3
    replace sb := upd1 (o := .ins T.A_Net dx (fl [.int x.s, .int x.n, .int x.w, .ref t1, .ref t2, .ref t3])) sb
    replace ha : (L2.upd G2 a (.ins T.A_Net dx (fl [.int x.s, .int x.n, .int x.w, .ref t1, .ref t2, .ref t3]))) a = some (.ins T.A_Net dx (fl [.int x.s, .int x.n, .int x.w, .ref t1, .ref t2, .ref t3])) := upd_same
    generalize L2.upd G2 a (.ins T.A_Net dx (fl [.int x.s, .int x.n, .int x.w, .ref t1, .ref t2, .ref t3])) = H13 at *
    walk_at "rs"
    obtain ⟨a6, xs6, e6, ha6, hx6⟩ := ht1.same sb
    subst e6
    refine lc_al (x.st.map fun l => dS (nfS l)) (fun H v d => tdD d = true ∧ Dp K H v d) (fun G G' v d t h => ⟨h.1, dp_tk t h.1 h.2⟩) (fun Q q => ⟨_, rfl, q⟩) ha6 (by have := hx6.len; have := g.st.1; omega) (by rw [List.length_map]; exact hx6.len) (fun j v y G hx1 hy1 s1 Q2 h2 => ?_) fun D G1 vs s1 _ h1 al => ?_
    · rw [List.getElem?_map] at hy1
      obtain ⟨p', hp1', rfl⟩ := Option.map_eq_some_iff.mp hy1
      obtain ⟨p2, hp2, hv⟩ := hx6.get hx1
      rw [hp1'] at hp2
      cases hp2
      walk_at "rs"
      exact ⟨v, x.w, p', rfl, hv.same s1, g.st.2 _ (List.mem_of_getElem? hp1'), fun t H' s' q => h2 (.ref t) H' s' ⟨td_S _, q⟩⟩
    walk_at "rs"
    refine ⟨_, SqL.of h1, fun t4 G2 s2 _ h2 => ⟨_, _, _, s2 _ _ (s1 _ _ ha), T.C_Net, T.na__stages, (by show 6 < 1000; decide), ?_⟩⟩
    rw [pf6]
    have s12 := Same.trans s1 s2
    have d4 : Dp K G2 (.ref t4) (dSs (x.st.map nfS)) := by
      have al2 := dpa_al (f := fun d => d) (al.imp fun _ _ h => dp_same s2 h.2)
      rw [List.map_id'] at al2
      refine .tup (.inl (.inl h2)) ?_
      rw [List.map_map]; exact al2
    replace ha := s12 _ _ ha
    exact kq _ (upd1 (Same.trans sb s12)) ⟨a, dx, _, _, _, _, rfl, upd_same, tu ha (td_I _) (dp_same s12 d1), tu ha (td_Rs _) (dp_same s12 d2), tu ha (td_Rs _) (dp_same s12 d3), tu ha (td_Ss _) d4⟩
end
end LK

set_option Elab.async false
set_option linter.all false
set_option maxRecDepth 100000
namespace LK
open PySem PySem.Spec PyProof.Rows L2
local macro_rules | `(tactic| walk_at "rs") => `(tactic| simp only [tFld, sFld, tMeth, tMethZ, tMakeK, tProp, tFmt, rEqO, rNeO, cxK, cxNK, tCallZ, tAsg, tOp, rI0, rS0, rB0, rI, rU, tUn, rEq, rNe, rIxL, rIxT, rIxS, rSetL, rSlLU, rSlS, rSlU, rCatL, rCatU, rRepL, rIn, tVar, tC, gName, gSub, tIfS, tTest, tB, tAnd, tOr, tNot, tNotV, tAndV, tOrV, tIf, tCall, tCons, tNil, tCB, tDrop, tRet, tRetN, tNext, tLstU, tTupU, tM0, tM1, tPar, tPar3, tAug, ipI, tBM, tBM0, rAppend, rPop, tBreak, sDPut, tDGet, tDGet2, tCont, tChain, tSl, tPart, tNoPart, L2.start, List.map, List.length_cons, List.length_nil, List.replicate, List.cons_append, List.nil_append, List.append_nil, List.getElem?_cons_zero, List.getElem?_cons_succ, List.set_cons_zero, List.set_cons_succ, Option.some.injEq, V.int.injEq, V.ref.injEq, V.str.injEq, V.bl.injEq, exists_eq_left', exists_eq_left, exists_and_left, decide_eq_true_eq, List.cons.injEq, and_true, true_and, scal, Bool.not_eq_true', decide_eq_false_iff_not, Nat.zero_add, Nat.reduceAdd, Nat.reduceSub, reduceCtorEq, false_and, exists_false, false_or, or_false, CPow, CPowW, CMul, CDiv, Int.reduceToNat, ↓reduceIte, wipe, sw, List.nil_append, List.singleton_append])
local macro_rules | `(tactic| walk_at "st") => `(tactic| (refine seq_op fun N hN => ?_; walk_at "rs"))
local macro_rules | `(tactic| walk_at "sd") => `(tactic| first | assumption | decide | omega)
local macro_rules | `(tactic| walk_at "rd") => `(tactic| repeat (first
  | refine ⟨_, SqL.of (by assumption), ?_⟩ | refine ⟨_, SqL.of upd_same, ?_⟩ | refine ⟨_, .inl (SqL.of (by assumption)), ?_⟩ | refine ⟨_, (by assumption : _ = some (HO.lst _)), ?_⟩ | refine ⟨_, upd_same, ?_⟩
  | refine ⟨_, rfl, ?_⟩ | refine And.intro (by walk_at "sd") ?_))

theorem lc_filtT {K : PySem.W.Frag} {a : Addr} {xs : List V} {g : TG} {tt : TT} {te tl : TE} {vs : List Nat} {σ : L2.St} {H1 : Hp} {Q : VK} (hv : ∀ Q : VK, Q (.ref a) H1 → tl σ H1 Q) (h : SqT K H1 a xs) (R : Nat → Hp → List V → Prop) (p : Nat → Bool) (hn : xs.length ≤ 1000000)
    (mono : ∀ i H H' ys, Same H H' → R i H ys → R i H' ys) (up : ∀ D i H ys zs o, H D = some (.lst zs) → R i H ys → R i (L2.upd H D o) ys) (r0 : ∀ H, R 0 H [])
    (hs : ∀ (i : Nat) (x : V) (H : Hp), xs[i]? = some x → Same H1 H → g x (wipe σ vs) H fun σ2 H2 => Same H H2 ∧ wipe σ2 vs = wipe σ vs ∧ (∀ Qt : Bool → Hp → Prop, (∀ H3, Same H2 H3 → Qt (p i) H3) → tt σ2 H2 Qt) ∧ (p i = false → ∀ H3 ys, R i H3 ys → R (i + 1) H3 ys) ∧ (p i = true → ∀ H3, Same H2 H3 → ∀ Q2 : VK, (∀ v H4, Same H3 H4 → (∀ ys, R i H4 ys → R (i + 1) H4 (ys ++ [v])) → Q2 v H4) → te σ2 H3 Q2))
    (gm : ∀ x σ0 H0 Q0 Q1, (∀ σ2 H2, Q0 σ2 H2 → Q1 σ2 H2) → g x σ0 H0 Q0 → g x σ0 H0 Q1)
    (hq : ∀ D H' ys, Same H1 H' → H1 D = none → H' D = some (.lst ys) → R xs.length H' ys → Q (.ref D) H') : tLc (iTup K tl) g tt te vs σ H1 Q :=
  hv _ ⟨a, rfl, ⟨xs, h⟩, fun D hD => lc_filtR (walk_tup (K := K) (a := a) (xs := xs)) R p hD hn mono (up D) r0 (fun H s => Same.seqT s h) (fun i x H H' hi s ⟨e, hx⟩ => by subst e; exact hs i x _ hx s) gm fun H' ys s e r => hq D H' ys s hD e r⟩
/-- as many as are heads -/
def nH (l : List Sg) : Nat := (l.filter (·.1)).length
theorem nH_snoc {l : List Sg} {i : Nat} {s : Sg} (h : l[i]? = some s) : nH (l.take (i + 1)) = nH (l.take i) + if s.1 = true then 1 else 0 := by
  unfold nH
  rw [List.take_add_one, h]
  show (((l.take i) ++ [s]).filter _).length = _
  rw [List.filter_append, List.length_append]
  cases hs : s.1 <;> simp [hs]
section
variable {P : Program} {w : World} {K : PySem.W.Frag} {mg : Str → Option Value} {base : Heap}
def sp_get (K : PySem.W.Frag) (C : Addr) (f : Nd → PyData) : Sp := fun vs H Q _ => ∃ v x, vs = [v] ∧ NA K H C v x ∧ ∀ r, Dp K H r (f x) → Q r H
theorem ok_Net__rest_row (T : Txt w K mg) : FnOk P w K mg base CX0 1 T.a_Net__rest_row T.d_Net__rest_row ["self"] (sp_get K T.A_Net fun x => dI x.rest) := by
  refine T.F_Net__rest_row.ok sc_Net__rest_row (fun vs H Q E h => ?_) (fun cdv A outer s H vs Q E hr h => ?_)
  · obtain ⟨v, x, rfl, _⟩ := h
    rfl
  · obtain ⟨v, x, rfl, ⟨a, dx, r1, r2, r3, r4, rfl, ha, h1, h2, h3, h4⟩, k⟩ := h
    refine ⟨_, (pss_one (ps_ret (pe_fld (pv 0) rfl))), ?_⟩
    walk_at "rs"
    exact ⟨_, _, _, ha, T.C_Net, T.na__rest_row, _, rfl, k _ h1⟩
theorem ok_Net__sign_rows (T : Txt w K mg) : FnOk P w K mg base CX0 1 T.a_Net__sign_rows T.d_Net__sign_rows ["self"] (sp_get K T.A_Net fun x => dRs x.sg) := by
  refine T.F_Net__sign_rows.ok sc_Net__sign_rows (fun vs H Q E h => ?_) (fun cdv A outer s H vs Q E hr h => ?_)
  · obtain ⟨v, x, rfl, _⟩ := h
    rfl
  · obtain ⟨v, x, rfl, ⟨a, dx, r1, r2, r3, r4, rfl, ha, h1, h2, h3, h4⟩, k⟩ := h
    refine ⟨_, (pss_one (ps_ret (pe_fld (pv 0) rfl))), ?_⟩
    walk_at "rs"
    exact ⟨_, _, _, ha, T.C_Net, T.na__sign_rows, _, rfl, k _ h2⟩
theorem ok_Net__place_rows (T : Txt w K mg) : FnOk P w K mg base CX0 1 T.a_Net__place_rows T.d_Net__place_rows ["self"] (sp_get K T.A_Net fun x => dRs x.pl) := by
  refine T.F_Net__place_rows.ok sc_Net__place_rows (fun vs H Q E h => ?_) (fun cdv A outer s H vs Q E hr h => ?_)
  · obtain ⟨v, x, rfl, _⟩ := h
    rfl
  · obtain ⟨v, x, rfl, ⟨a, dx, r1, r2, r3, r4, rfl, ha, h1, h2, h3, h4⟩, k⟩ := h
    refine ⟨_, (pss_one (ps_ret (pe_fld (pv 0) rfl))), ?_⟩
    walk_at "rs"
    exact ⟨_, _, _, ha, T.C_Net, T.na__place_rows, _, rfl, k _ h3⟩
theorem ok_Net__stages (T : Txt w K mg) : FnOk P w K mg base CX0 1 T.a_Net__stages T.d_Net__stages ["self"] (sp_get K T.A_Net fun x => dSs x.st) := by
  refine T.F_Net__stages.ok sc_Net__stages (fun vs H Q E h => ?_) (fun cdv A outer s H vs Q E hr h => ?_)
  · obtain ⟨v, x, rfl, _⟩ := h
    rfl
  · obtain ⟨v, x, rfl, ⟨a, dx, r1, r2, r3, r4, rfl, ha, h1, h2, h3, h4⟩, k⟩ := h
    refine ⟨_, (pss_one (ps_ret (pe_fld (pv 0) rfl))), ?_⟩
    walk_at "rs"
    exact ⟨_, _, _, ha, T.C_Net, T.na__stages, _, rfl, k _ h4⟩
theorem ok_Net__layers (T : Txt w K mg) : FnOk P w K mg base CX0 1 T.a_Net__layers T.d_Net__layers ["self"] (fun vs H Q _ => ∃ v x, vs = [v] ∧ NA K H T.A_Net v x ∧ x.st.length ≤ 100 ∧ ∀ H', Same H H' → Q (.int (nH x.st : Nat)) H') := by
  refine T.F_Net__layers.ok sc_Net__layers (fun vs H Q E h => ?_) (fun cdv A outer s H vs Q E hr h => ?_)
  · obtain ⟨v, x, rfl, _⟩ := h
    rfl
  · obtain ⟨v, x, rfl, ⟨a, dx, r1, r2, r3, r4, rfl, ha, h1, h2, h3, h4⟩, l100, k⟩ := h
    refine ⟨_, (pss_one (ps_ret (pe_callB call_len_seq (by rfl) T.n_len (by decide +kernel) (pa_cons (pe_lc (own := [("kind", 1), ("_", 2)]) (g := gTup K 2 (gCons (gName 1) (gCons (gName 2) (gNil)))) (tt := _) rfl sc_Net__layers.nd (pi_tup (pe_fld (pv 0) rfl)) (blkOk_by (own := [("kind", 1), ("_", 2)]) (N := N_Net__layers) (sc := defScope s_Net__layers) (by decide +kernel)) (fun _ _ _ _ _ => by exact (pg_tup rfl (pgs_cons (pg_name (i := 1) sc_Net__layers.nd rfl (Or.inl rfl)) (pgs_cons (pg_name (i := 2) sc_Net__layers.nd rfl (Or.inl rfl)) pgs_nil)))) (fun _ _ _ _ _ => pts_one (pt_cmpR op_eqS (pv 1) pe_str (nomark _))) (fun _ _ _ _ _ => (pv 1))) pa_nil)))), ?_⟩
    walk_at "rs"
    cases h4 with
    | tup q1 q2 =>
    rename_i a4 xs4
    have lx := dpa_len4 q2
    rw [List.length_map] at lx
    refine lc_filtT (fun Q q => ⟨.ref a, rfl, _, _, _, _, _, rfl, ha, T.C_Net, T.na__stages, rfl, q⟩) q1 (fun i H ys => ys.length = nH (x.st.take i)) (fun i => (x.st.getD i (false, [])).1) (by omega) (fun _ _ _ _ _ h => h) (fun _ _ _ _ _ _ _ h => h) (fun _ => rfl) (fun i y G hy s1 => ?_) (gm2 1 2) fun D H' ys s1 _ e1 r => ?_
    · obtain ⟨d, hd1, hd2⟩ := dpa_get4 q2 hy
      rw [List.getElem?_map] at hd1
      obtain ⟨sg, hsg, rfl⟩ := Option.map_eq_some_iff.mp hd1
      have eg : x.st.getD i (false, []) = sg := by rw [List.getD_eq_getElem?_getD, hsg]; rfl
      cases dp_same s1 hd2 with
      | tup u1 u2 =>
      cases u2 with
      | cons v1 v2 =>
      cases v2 with
      | cons v2 v3 =>
      cases v3
      cases v1
      refine g2_at u1 ⟨Same.refl _, rfl, fun Qt hQ => ?_, fun hp H3 ys r => ?_, fun hp H3 s3 Q2 h2 => ?_⟩
      · walk_at "rs"
        have e : decide (kS sg.1 = Str.ofString "heads") = (x.st.getD i (false, [])).1 := by rw [eg]; cases sg.1 <;> decide
        rw [e]; exact hQ G (Same.refl _)
      · rw [nH_snoc hsg, r]
        rw [eg] at hp
        rw [hp]; rfl
      · walk_at "rs"
        refine h2 _ H3 (Same.refl _) fun ys r => ?_
        rw [nH_snoc hsg, List.length_append, r]
        rw [eg] at hp
        rw [hp]; rfl
    · refine ⟨D, rfl, ys, .inl (SqL.of e1), ?_⟩
      rw [r, lx, List.take_length]
      exact k H' s1
def sp_eq (K : PySem.W.Frag) (C : Addr) : Sp := fun vs H Q _ => ∃ v x u, vs = [v, u] ∧ NA K H C v x ∧ OkN x ∧ ((∃ y, NA K H C u y ∧ OkN y ∧ Q (.bl (eqN x y)) H) ∨ (∃ T, TyX K H u (.type T) ∧ (T = "list" ∨ T = "NoneType") ∧ Q (.bl false) H))
theorem ok_Net__eq (T : Txt w K mg) : FnOk P w K mg base CX0 1 T.a_Net__eq T.d_Net__eq ["self", "other"] (sp_eq K T.A_Net) := by
  refine T.F_Net__eq.ok sc_Net__eq (fun vs H Q E h => ?_) (fun cdv A outer s H vs Q E hr h => ?_)
  · obtain ⟨v, x, u, rfl, _⟩ := h
    rfl
  · obtain ⟨v, x, u, rfl, ⟨a, dx, r1, r2, r3, r4, rfl, ha, h1, h2, h3, h4⟩, ox, k⟩ := h
    refine ⟨_, (pss_one (ps_ret (pe_and (pe_callB call_isi (by rfl) T.n_isinstance (by decide +kernel) (pa_cons (pv 1) (pa_cons (pe_glob (v := .ref T.A_Net) (by rfl) T.m_Net rfl) pa_nil))) (pe_and (pe_cmpR op_eqI (pe_fld (pv 0) rfl) (pe_fld (pv 1) rfl) (nomark _)) (pe_and (pe_cmpR op_eqI (pe_fld (pv 0) rfl) (pe_fld (pv 1) rfl) (nomark _)) (pe_and (pe_cmpR op_eqI (pe_fld (pv 0) rfl) (pe_fld (pv 1) rfl) (nomark _)) (pe_and (pe_cmpR (op_eqD hr.units) (pe_fld (pv 0) rfl) (pe_fld (pv 1) rfl) (nomark _)) (pe_and (pe_cmpR (op_eqD hr.units) (pe_fld (pv 0) rfl) (pe_fld (pv 1) rfl) (nomark _)) (pe_and (pe_cmpR (op_eqD hr.units) (pe_fld (pv 0) rfl) (pe_fld (pv 1) rfl) (nomark _)) (pe_one (pe_cmpR (op_eqD hr.units) (pe_fld (pv 0) rfl) (pe_fld (pv 1) rfl) (nomark _)))))))))))), ?_⟩
    walk_at "rs"
    rcases k with ⟨y, ⟨b, dy, t1, t2, t3, t4, rfl, hb, g1, g2, g3, g4⟩, oy, k⟩ | ⟨Ty, hT, hTy, k⟩
    · refine ⟨_, _, .ref T.A_Net, .ref T.A_Net, true, rfl, .own _, .base (.ins hb T.C_Net T.cl_Net T.cg_Net T.ct_Net T.mr_Net), T.kk_Net, true, rfl, ?_⟩
      rw [if_pos rfl]
      have no : ¬ (x.s = y.s ∧ x.n = y.n ∧ x.w = y.w ∧ dI x.rest = dI y.rest ∧ dRs x.sg = dRs y.sg ∧ dRs x.pl = dRs y.pl ∧ dSs x.st = dSs y.st) → Q (.bl false) H := fun c => by
        have e : eqN x y = false := Bool.eq_false_iff.mpr fun e => c (eqN_iff.mp e)
        rw [← e]; exact k
      refine ⟨_, _, _, ha, T.C_Net, T.na_signs, _, rfl, b, rfl, _, _, _, hb, T.C_Net, T.na_signs, _, rfl, x.s, rfl, y.s, rfl, ite2 (fun c1 => ?_) (fun c => no fun z => c z.1)⟩
      refine ⟨_, _, _, ha, T.C_Net, T.na_n, _, rfl, b, rfl, _, _, _, hb, T.C_Net, T.na_n, _, rfl, x.n, rfl, y.n, rfl, ite2 (fun c2 => ?_) (fun c => no fun z => c z.2.1)⟩
      refine ⟨_, _, _, ha, T.C_Net, T.na_width, _, rfl, b, rfl, _, _, _, hb, T.C_Net, T.na_width, _, rfl, x.w, rfl, y.w, rfl, ite2 (fun c3 => ?_) (fun c => no fun z => c z.2.2.1)⟩
      unfold rEqD
      have bb : ∀ {p q : Prop} [Decidable p] {d e : PyData}, (PyData.eqv d e = true ↔ d = e) → (d = e → p) → (d ≠ e → q) → (PyData.eqv d e = true → p) ∧ (¬ PyData.eqv d e = true → q) := fun h f g => ⟨fun z => f (h.mp z), fun z => g fun w => z (h.mpr w)⟩
      refine ⟨_, _, _, ha, T.C_Net, T.na__rest_row, _, rfl, b, rfl, _, _, _, hb, T.C_Net, T.na__rest_row, _, rfl, _, _, h1, g1, sh_I ox.rest, sh_I oy.rest, _, rfl, ite2 (fun c4 => ?_) (fun c => no fun z => c (eqI.mpr z.2.2.2.1))⟩
      refine ⟨_, _, _, ha, T.C_Net, T.na__sign_rows, _, rfl, b, rfl, _, _, _, hb, T.C_Net, T.na__sign_rows, _, rfl, _, _, h2, g2, sh_Rs ox.sg, sh_Rs oy.sg, _, rfl, ite2 (fun c5 => ?_) (fun c => no fun z => c (eqRs.mpr z.2.2.2.2.1))⟩
      refine ⟨_, _, _, ha, T.C_Net, T.na__place_rows, _, rfl, b, rfl, _, _, _, hb, T.C_Net, T.na__place_rows, _, rfl, _, _, h3, g3, sh_Rs ox.pl, sh_Rs oy.pl, _, rfl, ite2 (fun c6 => ?_) (fun c => no fun z => c (eqRs.mpr z.2.2.2.2.2.1))⟩
      refine ⟨_, _, _, ha, T.C_Net, T.na__stages, _, rfl, b, rfl, _, _, _, hb, T.C_Net, T.na__stages, _, rfl, _, _, h4, g4, sh_Ss ox.st, sh_Ss oy.st, ?_⟩
      have e : PyData.eqv (dSs x.st) (dSs y.st) = eqN x y := by
        rw [Bool.eq_iff_iff, eqN_iff, eqSs]
        exact ⟨fun z => ⟨c1, c2, c3, eqI.mp c4, eqRs.mp c5, eqRs.mp c6, z⟩, fun z => z.2.2.2.2.2.2⟩
      rw [e]; exact k
    · refine ⟨_, _, .type Ty, .ref T.A_Net, false, rfl, .own _, hT, ?_, false, rfl, ?_⟩
      · rcases hTy with rfl | rfl
        · exact T.kl_Net
        · exact T.kn_Net
      · rw [if_neg (by decide)]; exact k
/-- the text of a net's repr -/
def rpS (w n : Int) : Str := ((((Str.empty ++ Str.ofString "Net(") ++ Str.ofString (toString w)) ++ Str.ofString " columns, ") ++ Str.ofString (toString n)) ++ Str.ofString " stages)"
theorem num_len {i : Int} (h : i.natAbs < 10 ^ 10) : (Str.ofString (toString i)).length ≤ 11 := by
  have := int_text_length_le10 (k := 10) (by decide) h
  rw [PySem.ofString_length]; omega
def OkW (w n : Int) : Prop := w.natAbs < 10 ^ 10 ∧ n.natAbs < 10 ^ 10
theorem rp_run {H : Hp} {t1 t2 : TE} {σ : L2.St} {w n : Int} {Q : Str → Hp → Prop} (ow : OkW w n) (h1 : ∀ R : VK, R (.str (Str.ofString (toString w))) H → t1 σ H R) (h2 : ∀ R : VK, R (.str (Str.ofString (toString n))) H → t2 σ H R) (q : Q (rpS w n) H) :
    tJs [tC (.str (Str.ofString "Net(")), t1, tC (.str (Str.ofString " columns, ")), t2, tC (.str (Str.ofString " stages)"))] Str.empty σ H Q := by
  have l1 := num_len ow.1
  have l2 := num_len ow.2
  have e0 : Str.empty.length = 0 := rfl
  have e1 : (Str.ofString "Net(").length = 4 := by decide +kernel
  have e2 : (Str.ofString " columns, ").length = 10 := by decide +kernel
  have e3 : (Str.ofString " stages)").length = 8 := by decide +kernel
  have big : 1000 ≤ sizeLine := by decide
  refine ⟨_, rfl, ?_, h1 _ ⟨_, rfl, ?_, _, rfl, ?_, h2 _ ⟨_, rfl, ?_, _, rfl, ?_, q⟩⟩⟩ <;> simp only [str_append_len] <;> omega
theorem ok_Net__repr (T : Txt w K mg) : FnOk P w K mg base CX0 1 T.a_Net__repr T.d_Net__repr ["self"] (fun vs H Q _ => ∃ v x, vs = [v] ∧ NA K H T.A_Net v x ∧ OkW x.w (x.st.length : Nat) ∧ Q (.str (rpS x.w (x.st.length : Nat))) H) := by
  refine T.F_Net__repr.ok sc_Net__repr (fun vs H Q E h => ?_) (fun cdv A outer s H vs Q E hr h => ?_)
  · obtain ⟨v, x, rfl, _⟩ := h
    rfl
  · obtain ⟨v, x, rfl, ⟨a, dx, r1, r2, r3, r4, rfl, ha, h1, h2, h3, h4⟩, l100, k⟩ := h
    refine ⟨_, (pss_one (ps_ret (pe_joined (.cons pe_str (.cons (pe_fmt (pe_fld (pv 0) rfl)) (.cons pe_str (.cons (pe_fmt (pe_callB call_len_seq (by rfl) T.n_len (by decide +kernel) (pa_cons (pe_fld (pv 0) rfl) pa_nil))) (.cons pe_str .nil)))))))), ?_⟩
    walk_at "rs"
    obtain ⟨o1, o2⟩ := id l100
    have lg : ∀ {i : Int}, i.natAbs < 10 ^ 10 → i.natAbs.log2 < 1920 := fun h => Nat.lt_of_lt_of_le (PySem.Flt.log2_lt_of (by decide : 0 < 34) (Nat.lt_of_lt_of_le h (by decide))) (by decide)
    cases h4 with
    | tup q1 q2 =>
    have lx := dpa_len4 q2
    rw [List.length_map] at lx
    refine rp_run l100 (fun R q => ?_) (fun R q => ?_) k
    · walk_at "rs"
      exact ⟨_, _, _, ha, T.C_Net, T.na_width, _, rfl, .inr ⟨_, rfl, lg o1, q⟩⟩
    · walk_at "rs"
      refine ⟨_, _, _, ha, T.C_Net, T.na__stages, _, rfl, _, rfl, _, .inr q1, ?_⟩
      rw [lx]
      exact ⟨lg o2, q⟩
/-- C(..) -/
theorem mk_at {K : PySem.W.Frag} {H : Hp} {C : Addr} {x : Nd} {vr vg vp vt : V} {Q : VK} (h1 : IV K H vr x.rest) (h2 : RV K H vg x.sg) (h3 : RV K H vp x.pl) (h4 : SsV K H vt x.st) (g : Gn 3900 x) (k : ∀ t H', Same H H' → NA K H' C t (nfN x) → Q t H') {a dx : Addr} (ha : H a = none) (hd : H dx = none) (ne : dx ≠ a) :
    sp_init K C [.ref a, .int x.s, .int x.n, .int x.w, vr, vg, vp, vt] (L2.upd (L2.upd H dx (.own a)) a (.ins C dx [])) (fun v H3 => v = .non ∧ Q (.ref a) H3) E0 :=
  ⟨a, dx, H, x, vr, vg, vp, vt, rfl, upd_same, ha, fun p o e => by
    rw [upd_ne (ne_of_none e ha), upd_ne (ne_of_none e hd)]; exact e, h1, h2, h3, h4, g, fun H' s q => ⟨rfl, k _ H' s q⟩⟩
def sp_ws (K : PySem.W.Frag) (C : Addr) : Sp := fun vs H Q _ => ∃ v x u st, vs = [v, u] ∧ NA K H C v x ∧ nfN x = x ∧ Gn 3900 x ∧ SsV K H u st ∧ st.length ≤ 100 ∧ (∀ s ∈ st, Gs 3900 x.w s) ∧ ∀ t H', Same H H' → NA K H' C t ⟨x.s, x.n, x.w, x.rest, x.sg, x.pl, st.map nfS⟩ → Q t H'
theorem ok_Net__with_stages (T : Txt w K mg) : FnOk P w K mg base CX0 10 T.a_Net__with_stages T.d_Net__with_stages ["self", "stages"] (sp_ws K T.A_Net) := by
  refine T.F_Net__with_stages.ok sc_Net__with_stages (fun vs H Q E h => ?_) (fun cdv A outer s H vs Q E hr h => ?_)
  · obtain ⟨v, x, u, st, rfl, _⟩ := h
    rfl
  · obtain ⟨v, x, u, st, rfl, ⟨a, dx, r1, r2, r3, r4, rfl, ha, h1, h2, h3, h4⟩, fx, g, hs, ls, gs, k⟩ := h
    have hr_Net__init : Room 9 _ := hr
    have G_Net__init := ok_Net__init (P := P) (base := base) T
    refine ⟨_, (pss_one (ps_ret (pe_makeK T.mk_Net G_Net__init hr_Net__init (by rfl) T.m_Net T.Z_Net__init_3_rest_sign_rows_place_rows_stages pass0 (pa_cons (pe_fld (pv 0) rfl) (pa_cons (pe_fld (pv 0) rfl) (pa_cons (pe_fld (pv 0) rfl) pa_nil))) (pk_cons (pe_fld (pv 0) rfl) (pk_cons (pe_fld (pv 0) rfl) (pk_cons (pe_fld (pv 0) rfl) (pk_cons (pv 1) pk_nil))))))), ?_⟩
    walk_at "rs"
    refine ⟨_, _, _, ha, T.C_Net, T.na_signs, _, rfl, _, _, _, ha, T.C_Net, T.na_n, _, rfl, _, _, _, ha, T.C_Net, T.na_width, _, rfl, _, _, _, ha, T.C_Net, T.na__rest_row, _, rfl, _, _, _, ha, T.C_Net, T.na__sign_rows, _, rfl, _, _, _, ha, T.C_Net, T.na__place_rows, _, rfl, ?_⟩
    intro z dz hz hd ne
    refine mk_at (x := ⟨x.s, x.n, x.w, x.rest, x.sg, x.pl, st⟩) (iv_of h1) (rv_of h2) (rv_of h3) hs ⟨g.s, g.n, g.w, g.rest, g.sg, g.pl, ls, gs⟩ (fun t H' s' q => k t H' s' ?_) hz hd ne
    have e : nfN ⟨x.s, x.n, x.w, x.rest, x.sg, x.pl, st⟩ = ⟨x.s, x.n, x.w, x.rest, x.sg, x.pl, st.map nfS⟩ := by
      have f1 := congrArg Nd.rest fx
      have f2 := congrArg Nd.sg fx
      have f3 := congrArg Nd.pl fx
      unfold nfN at f1 f2 f3 ⊢
      dsimp only at f1 f2 f3 ⊢
      rw [f1, f2, f3]
    rw [← e]; exact q
end
end LK

set_option Elab.async false
set_option linter.all false
set_option maxRecDepth 100000
namespace LK
open PySem PySem.Spec PyProof.Rows L2
local macro_rules | `(tactic| walk_at "rs") => `(tactic| simp only [tFld, sFld, tMeth, tMethZ, tMakeK, tProp, tFmt, rEqO, rNeO, cxK, cxNK, tCallZ, tAsg, tOp, rI0, rS0, rB0, rI, rU, tUn, rEq, rNe, rIxL, rIxT, rIxS, rSetL, rSlLU, rSlS, rSlU, rCatL, rCatU, rRepL, rIn, tVar, tC, gName, gSub, tIfS, tTest, tB, tAnd, tOr, tNot, tNotV, tAndV, tOrV, tIf, tCall, tCons, tNil, tCB, tDrop, tRet, tRetN, tNext, tLstU, tTupU, tM0, tM1, tPar, tPar3, tAug, ipI, tBM, tBM0, rAppend, rPop, tBreak, sDPut, tDGet, tDGet2, tCont, tChain, tSl, tPart, tNoPart, L2.start, List.map, List.length_cons, List.length_nil, List.replicate, List.cons_append, List.nil_append, List.append_nil, List.getElem?_cons_zero, List.getElem?_cons_succ, List.set_cons_zero, List.set_cons_succ, Option.some.injEq, V.int.injEq, V.ref.injEq, V.str.injEq, V.bl.injEq, exists_eq_left', exists_eq_left, exists_and_left, decide_eq_true_eq, List.cons.injEq, and_true, true_and, scal, Bool.not_eq_true', decide_eq_false_iff_not, Nat.zero_add, Nat.reduceAdd, Nat.reduceSub, reduceCtorEq, false_and, exists_false, false_or, or_false, CPow, CPowW, CMul, CDiv, Int.reduceToNat, ↓reduceIte, wipe, sw, List.nil_append, List.singleton_append])
local macro_rules | `(tactic| walk_at "st") => `(tactic| (refine seq_op fun N hN => ?_; walk_at "rs"))
local macro_rules | `(tactic| walk_at "sd") => `(tactic| first | assumption | decide | omega)
local macro_rules | `(tactic| walk_at "rd") => `(tactic| repeat (first
  | refine ⟨_, SqL.of (by assumption), ?_⟩ | refine ⟨_, SqL.of upd_same, ?_⟩ | refine ⟨_, .inl (SqL.of (by assumption)), ?_⟩ | refine ⟨_, (by assumption : _ = some (HO.lst _)), ?_⟩ | refine ⟨_, upd_same, ?_⟩
  | refine ⟨_, rfl, ?_⟩ | refine And.intro (by walk_at "sd") ?_))

/-! ### drawn parts: lists throughout -/
section
variable {K : PySem.W.Frag} {H H' : Hp}
def IL (K : PySem.W.Frag) (H : Hp) (v : V) (l : List It) : Prop := ∃ a xs, v = .ref a ∧ H a = some (.lst xs) ∧ Its K H xs l
def RL (K : PySem.W.Frag) (H : Hp) (v : V) (l : List (List It)) : Prop := ∃ a xs, v = .ref a ∧ H a = some (.lst xs) ∧ Al (IL K H) xs l
def PL (K : PySem.W.Frag) (H : Hp) (k : Bool) (v : V) (p : Pt) : Prop := ∃ a x y, v = .ref a ∧ IL K H x p.a ∧ IL K H y p.b ∧ if k = true then SqT K H a [x, y] else ∃ u, SqT K H a [x, .ref u, y] ∧ Pr K H u p.f.1 p.f.2
def SL (K : PySem.W.Frag) (H : Hp) (v : V) (s : Sg) : Prop := ∃ a p xs, v = .ref a ∧ SqT K H a [.str (kS s.1), .ref p] ∧ H p = some (.lst xs) ∧ Al (PL K H s.1) xs s.2
def StL (K : PySem.W.Frag) (H : Hp) (v : V) (l : List Sg) : Prop := ∃ a xs, v = .ref a ∧ H a = some (.lst xs) ∧ Al (SL K H) xs l
def ShL (K : PySem.W.Frag) (H : Hp) (v : V) (x : Nd) : Prop := ∃ a vr vg vp vt, v = .ref a ∧ H a = some (.lst [.int x.s, .int x.n, .int x.w, vr, vg, vp, vt]) ∧ IL K H vr x.rest ∧ RL K H vg x.sg ∧ RL K H vp x.pl ∧ StL K H vt x.st
theorem IL.same (s : Same H H') {v : V} {l : List It} : IL K H v l → IL K H' v l := fun ⟨a, xs, e, h, i⟩ => ⟨a, xs, e, s _ _ h, i.same s⟩
theorem RL.same (s : Same H H') {v : V} {l : List (List It)} : RL K H v l → RL K H' v l := fun ⟨a, xs, e, h, i⟩ => ⟨a, xs, e, s _ _ h, i.imp fun _ _ => IL.same s⟩
theorem PL.same (s : Same H H') {k : Bool} {v : V} {p : Pt} : PL K H k v p → PL K H' k v p := fun ⟨a, x, y, e, hx, hy, h⟩ => ⟨a, x, y, e, hx.same s, hy.same s, by
  split at h
  · rename_i c; rw [if_pos c]; exact Same.seqT s h
  · rename_i c; rw [if_neg c]; obtain ⟨u, h1, h2⟩ := h; exact ⟨u, Same.seqT s h1, Same.seqT s h2⟩⟩
theorem SL.same (s : Same H H') {v : V} {g : Sg} : SL K H v g → SL K H' v g := fun ⟨a, p, xs, e, h, i, r⟩ => ⟨a, p, xs, e, Same.seqT s h, s _ _ i, r.imp fun _ _ => PL.same s⟩
theorem StL.same (s : Same H H') {v : V} {l : List Sg} : StL K H v l → StL K H' v l := fun ⟨a, xs, e, h, i⟩ => ⟨a, xs, e, s _ _ h, i.imp fun _ _ => SL.same s⟩
theorem ShL.same (s : Same H H') {v : V} {x : Nd} : ShL K H v x → ShL K H' v x := fun ⟨a, vr, vg, vp, vt, e, h, h1, h2, h3, h4⟩ => ⟨a, vr, vg, vp, vt, e, s _ _ h, h1.same s, h2.same s, h3.same s, h4.same s⟩
theorem IL.iv {v : V} {l : List It} : IL K H v l → IV K H v l := fun ⟨a, xs, e, h, i⟩ => ⟨a, xs, e, .inl (SqL.of h), i⟩
theorem RL.rv {v : V} {l : List (List It)} : RL K H v l → RV K H v l := fun ⟨a, xs, e, h, i⟩ => ⟨a, xs, e, .inl (SqL.of h), i.imp fun _ _ => IL.iv⟩
theorem PL.pv {k : Bool} {v : V} {p : Pt} : PL K H k v p → PV K H k v p := fun ⟨a, x, y, e, hx, hy, h⟩ => ⟨a, x, y, e, hx.iv, hy.iv, h⟩
theorem SL.sv {v : V} {g : Sg} : SL K H v g → SV K H v g := fun ⟨a, p, xs, e, h, i, r⟩ => ⟨a, p, xs, e, h, .inl (SqL.of i), r.imp fun _ _ => PL.pv⟩
theorem StL.sv {v : V} {l : List Sg} : StL K H v l → SsV K H v l := fun ⟨a, xs, e, h, i⟩ => ⟨a, xs, e, .inl (SqL.of h), i.imp fun _ _ => SL.sv⟩
end
/-- items that were drawn -/
theorem IG.gi {d m : Nat} {w : Int} {l : List It} (h : IG d w l) (hd : d = 1 ∨ d = 2) (w2 : w ≤ 2000) (f : Few m l) (hm : m ≤ 9) (hl : l.length ≤ 2 * m) (h3 : m ≤ 3) : Gi 400 d w l := by
  have l6 : l.length ≤ 6 := by omega
  exact ⟨hd, w2, (h.ft w2 f l6).of (by omega) (by decide) (by decide), fun x hx => (h.it x hx).2.2⟩
theorem ok_f {f : Fr} (h : okB 1000000000000000000 1000000000000000000 f) : low f ∧ wt f ≤ 3900 := ⟨⟨h.1, h.2.1⟩, Nat.le_trans (wt_okB h) (by decide)⟩
section
variable {P : Program} {w : World} {K : PySem.W.Frag} {mg : Str → Option Value} {base : Heap}
def sp_either (K : PySem.W.Frag) : Sp := fun vs H Q _ => ∃ (b c a : Addr) (N : Nat) (xs : List V), vs = [.ref b, .ref a] ∧ Bag (N + 1) H b c ∧ H a = some (.lst xs) ∧ a ≠ b ∧ ∀ q H', Bag N H' b c → Kp b H H' → (fr H H' q = some (.lst xs) ∨ SqT K (fr H H') q xs) → Q (.ref q) H'
theorem ok__law_either (T : Txt w K mg) : FnOk P w K mg base CX0 2 T.a__law_either T.d__law_either ["bag", "things"] (sp_either K) := by
  refine T.F__law_either.ok sc__law_either (fun vs H Q E h => ?_) (fun cdv A outer s H vs Q E hr h => ?_)
  · obtain ⟨b, c, a, N, xs, rfl, _⟩ := h
    rfl
  · obtain ⟨b, c, a, N0, xs, rfl, B, ha, nab, k⟩ := h
    have hr__law_draw : Room 1 _ := hr
    have G__law_draw := ok__law_draw (P := P) (base := base) T
    refine ⟨_, (pss_one (ps_ret (pe_ifExp (pt_cmpR op_eqI (pe_call G__law_draw hr__law_draw (by rfl) T.m__law_draw T.F__law_draw.kp T.B__law_draw .nil pass0 (pa_cons (pv 0) (pa_cons pe_int pa_nil))) pe_int (nomark _)) (pe_callTy call_listU (by rfl) T.n_list (by decide +kernel) (pa_cons (pv 1) pa_nil)) (pe_callTy call_tupleU (by rfl) T.n_tuple (by decide +kernel) (pa_cons (pv 1) pa_nil))))), ?_⟩
    walk_at "rs"
    refine ⟨b, c, 2, N0, rfl, B, by decide, by decide, fun r H1 _ _ B1 K1 => ⟨r, rfl, ite2 (fun _ => ?_) (fun _ => ?_)⟩⟩
    · refine ⟨_, .inl (SqL.of (K1.hd ha nab)), fun l H2 s2 l0 l1 => k l H2 (B1.same s2) (Same.trans K1 (Kp.of s2)) (.inl (fr_new (Kp.bn K1 B1.at.choose_spec l0) l1))⟩
    · refine ⟨_, .inl (SqL.of (K1.hd ha nab)), fun l H2 s2 l1 => k l H2 (B1.same s2) (Same.trans K1 (Kp.of s2)) (.inr (seqT_tk fr_tk l1))⟩
def sp_lstage (K : PySem.W.Frag) : Sp := fun vs H Q _ => ∃ (b c : Addr) (N : Nat) (w m : Int), vs = [.ref b, .int w, .int m] ∧ Bag (N + 400) H b c ∧ 1 ≤ w ∧ w ≤ 2000 ∧ 0 ≤ m ∧ m ≤ 3 ∧ ∀ v s H', Bag N H' b c → Kp b H H' → SL K (fr H H') v s → Gs 400 w s → Q v H'
theorem ok__law_stage (T : Txt w K mg) : FnOk P w K mg base CX0 5 T.a__law_stage T.d__law_stage ["bag", "width_z", "most"] (sp_lstage K) := by
  refine T.F__law_stage.ok sc__law_stage (fun vs H Q E h => ?_) (fun cdv A outer s H vs Q E hr h => ?_)
  · obtain ⟨b, c, N, w, m, rfl, _⟩ := h
    rfl
  · obtain ⟨b, c, N0, wd, m, rfl, B, w1, w2, m0, m3, k⟩ := h
    have hr__law_draw : Room 1 _ := hr.mono (by decide)
    have G__law_draw := ok__law_draw (P := P) (base := base) T
    have hr__law_items : Room 4 _ := hr
    have G__law_items := ok__law_items (P := P) (base := base) T
    have hr__law_factor : Room 3 _ := hr.mono (by decide)
    have G__law_factor := ok__law_factor (P := P) (base := base) T
    refine ⟨_, (pss_cons (ps_if (pt_cmpR op_eqI (pe_call G__law_draw hr__law_draw (by rfl) T.m__law_draw T.F__law_draw.kp T.B__law_draw .nil pass0 (pa_cons (pv 0) (pa_cons pe_int pa_nil))) pe_int (nomark _)) (pss_cons (ps_setLc (i := 3) (own := [("k", 4)]) (g := gName 4) (tt := tYes) rfl sc__law_stage.nd rfl rfl (sw_true rfl rfl rfl (by decide +kernel)) (pi_range1 (by rfl) T.n_range (pa_cons (pe_call G__law_draw hr__law_draw (by rfl) T.m__law_draw T.F__law_draw.kp T.B__law_draw .nil pass0 (pa_cons (pv 0) (pa_cons (pe_op op_add (pv 2) pe_int) pa_nil))) pa_nil)) (blkOk_by (own := [("k", 4)]) (N := N__law_stage) (sc := defScope s__law_stage) (by decide +kernel)) (fun _ _ _ _ _ => pg_name (i := 4) sc__law_stage.nd rfl (Or.inl rfl)) (fun _ _ _ _ _ => pts_nil) (fun _ _ _ _ _ => (pe_tupU (pa_cons (pe_call G__law_items hr__law_items (by rfl) T.m__law_items T.F__law_items.kp T.B__law_items .nil pass0 (pa_cons (pv 0) (pa_cons pe_int (pa_cons (pv 1) (pa_cons pe_int pa_nil))))) (pa_cons (pe_call G__law_items hr__law_items (by rfl) T.m__law_items T.F__law_items.kp T.B__law_items .nil pass0 (pa_cons (pv 0) (pa_cons pe_int (pa_cons (pv 1) (pa_cons pe_int pa_nil))))) pa_nil)))))
      (pss_one (ps_ret (pe_tupU (pa_cons pe_str (pa_cons (pv 3) pa_nil)))))) pss_nil)
      (pss_cons (ps_set (i := 3) sc__law_stage.nd rfl (Or.inl rfl) (pe_lstU pa_nil))
      (pss_cons (ps_for PassesOwn.never rfl (pi_range1 (by rfl) T.n_range (pa_cons (pe_call G__law_draw hr__law_draw (by rfl) T.m__law_draw T.F__law_draw.kp T.B__law_draw .nil pass0 (pa_cons (pv 0) (pa_cons (pe_op op_add (pv 2) pe_int) pa_nil))) pa_nil)) (pg_name (i := 4) sc__law_stage.nd rfl (Or.inl rfl)) (pss_cons (ps_set (i := 5) sc__law_stage.nd rfl (Or.inl rfl) (pe_call G__law_items hr__law_items (by rfl) T.m__law_items T.F__law_items.kp T.B__law_items .nil pass0 (pa_cons (pv 0) (pa_cons pe_int (pa_cons (pv 1) (pa_cons pe_int pa_nil))))))
      (pss_one (ps_expr (pe_bm PySem.F.plainAttrs_list PySem.F.slot_list_append PySem.F.type_list_append mt_append (pv 3) (pa_cons (pe_tupU (pa_cons (pv 5) (pa_cons (pe_call G__law_factor hr__law_factor (by rfl) T.m__law_factor T.F__law_factor.kp T.B__law_factor .nil pass0 (pa_cons (pv 0) pa_nil)) (pa_cons (pe_call G__law_items hr__law_items (by rfl) T.m__law_items T.F__law_items.kp T.B__law_items .nil pass0 (pa_cons (pv 0) (pa_cons pe_int (pa_cons (pv 1) (pa_cons pe_int pa_nil))))) pa_nil)))) pa_nil))))))
      (pss_one (ps_ret (pe_tupU (pa_cons pe_str (pa_cons (pv 3) pa_nil)))))))), ?_⟩
    refine seq_op fun N hN => ?_
    walk_at "rs"
    refine ⟨b, c, 2, N0 + 399, rfl, B, by decide, by decide, fun r H1 _ _ B1 K1 => ⟨r, rfl, ite2 (fun _ => ?_) (fun _ => hN _ _ ?_)⟩⟩
    · refine seq_op fun N2 hN2 => ?_
      walk_at "rs"
      refine ⟨_, rfl, _, rfl, m, 1, rfl, rfl, b, c, m + 1, N0 + 398, rfl, B1.le (by omega), by omega, by omega, fun r1 H2 r10 r11 B2 K2 => ⟨r1, rfl, by omega, by omega, fun D hD => ?_⟩⟩
      have K02 := Same.trans K1 K2
      have d2 : ∀ a, H2 a = none → H a = none := Kp.dom K02 B2.at.choose_spec
      refine lc_drawF (n := r1.toNat) (k := 100) (N := N0 + 1) (fun G v => ∃ p, PL K G true v p ∧ Gp 400 wd true p) (fun G G' v s ⟨p, h1, h2⟩ => ⟨p, h1.same s, h2⟩) hD (B2.le (by omega)) (by omega) (fun x H4 M K4 B4 Q2 hq => ?_) fun H4 vs B4 K4 h4 l4 hv => ?_
      · walk_at "rs"
        refine ⟨b, c, M + 47, 2, 3, wd, rfl, B4.le (by omega), by decide, by decide, by omega, w2, by decide, fun p1 xs1 i1 H5 B5 K5 p10 p11 t1 g1 l1 f1 => ?_⟩
        refine ⟨b, c, M + 12, 2, 2, wd, rfl, B5.le (by omega), by decide, by decide, by omega, w2, by decide, fun p2 xs2 i2 H6 B6 K6 p20 p21 t2 g2 l2 f2 => ⟨by decide, fun t H7 s7 t70 t71 => ?_⟩⟩
        have n1 := new_ne B4 p10
        have q1 := s7 _ _ (K6.hd p11 n1)
        have t17 := ((t1.kp B5 K6).same s7).tk (fr_tk (H := H4))
        have q2 := s7 _ _ p21
        have t27 := (t2.same s7).tk (fr_tk (H := H4))
        have d5 := Kp.bn K5 B5.at.choose_spec p20
        refine hq (.ref t) H7 ((B6.same s7).le (by omega)) (Same.trans K5 (Same.trans K6 (Kp.of s7))) ⟨⟨i1, (0, 1), i2⟩, ⟨t, .ref p1, .ref p2, rfl, ⟨p1, xs1, rfl, fr_new p10 q1, t17⟩, ⟨p2, xs2, rfl, fr_new d5 q2, t27⟩, by rw [if_pos rfl]; exact seqT_tk fr_tk (.inl (.inl t71))⟩, ?_⟩
        exact ⟨g1.gi (.inr rfl) w2 f1 (by decide) l1 (by decide), g2.gi (.inr rfl) w2 f2 (by decide) l2 (by decide), low_zero, (by decide : wt ((0, 1) : Fr) ≤ 3900)⟩
      · refine hN2 _ _ ?_
        walk_at "rs"
        refine ⟨by decide, fun t H5 s5 t50 t51 => ?_⟩
        obtain ⟨ps, hps⟩ := Al.ex (R := fun v p => PL K (fr (L2.upd H2 D (.lst [])) H4) true v p ∧ Gp 400 wd true p) hv
        have sub : Same (fr (L2.upd H2 D (.lst [])) H4) (fr H H5) := Same.trans (fr_same s5) (fr_anti fun a q => d2 a (by
          by_cases n : a = D
          · rw [n, upd_same] at q; cases q
          · rwa [upd_ne n] at q))
        refine k (.ref t) (true, ps) H5 ((B4.same s5).le (by omega)) (Same.trans K02 (Same.trans K4 (Kp.of s5))) ⟨t, D, vs, rfl, seqT_tk fr_tk (.inl (.inl t51)), fr_new (d2 D hD) (s5 _ _ h4), hps.imp fun _ _ h => h.1.same sub⟩ ⟨?_, fun p hp => ?_⟩
        · have := hps.len
          show ps.length ≤ 3
          omega
        · obtain ⟨v, _, h⟩ := hps.mem' hp
          exact h.2
    · clear hN N
      refine seq_op fun N hN => ?_
      walk_at "rs"
      refine ⟨by decide, fun p0 H2 s2 p00 p01 => hN _ _ ?_⟩
      clear hN N
      have B2 := B1.same s2
      have pb := new_ne B1 p00
      refine cut_seq (fun σ H3 => ∃ (x4 x5 : Option V) (vs : List V), σ = [some (.ref b), some (.int wd), some (.int m), some (.ref p0), x4, x5] ∧ Bag N0 H3 b c ∧ Kp b H1 H3 ∧ (∀ a, H3 a = none → H2 a = none) ∧ H3 p0 = some (.lst vs) ∧ vs.length ≤ 3 ∧ ∀ v ∈ vs, ∃ p, PL K (fr H2 H3) false v p ∧ Gp 400 wd false p) (fun N hN => ?_) ?_
      · walk_at "rs"
        refine ⟨_, rfl, _, rfl, m, 1, rfl, rfl, b, c, m + 1, N0 + 398, rfl, B2.le (by omega), by omega, by omega, fun r1 H4 r10 r11 B4 K4 => ⟨r1, rfl, by omega, by omega, for_range (lo := 0) (n := r1.toNat) (fun i σ H3 => ∃ (x4 x5 : Option V) (vs : List V), σ = [some (.ref b), some (.int wd), some (.int m), some (.ref p0), x4, x5] ∧ Bag (N0 + (r1.toNat - i) * 120) H3 b c ∧ Kp b H1 H3 ∧ (∀ a, H3 a = none → H2 a = none) ∧ H3 p0 = some (.lst vs) ∧ vs.length = i ∧ ∀ v ∈ vs, ∃ p, PL K (fr H2 H3) false v p ∧ Gp 400 wd false p) ⟨_, _, [], rfl, B4.le (by omega), Same.trans (Kp.of s2) K4, Kp.dom K4 B4.at.choose_spec, K4.hd p01 pb, rfl, fun v hv => absurd hv (by simp)⟩ ?_ ?_⟩⟩
        · rintro i σ H3 hi ⟨x4, x5, vs, rfl, B3, K3, D3, h3, l3, hv⟩
          have e17 : (r1.toNat - i) * 120 = (r1.toNat - (i + 1)) * 120 + 120 := by omega
          rw [e17] at B3
          refine seq_op fun N2 hN2 => ?_
          walk_at "rs"
          refine ⟨b, c, N0 + (r1.toNat - (i + 1)) * 120 + 60, 1, 3, wd, rfl, B3.le (by omega), by decide, by decide, by omega, w2, by decide, fun p1 xs1 i1 H5 B5 K5 p10 p11 t1 g1 l1 f1 => hN2 _ _ ?_⟩
          clear hN2 N2
          walk_at "rs"
          have n1 := new_ne B3 p10
          refine ⟨.inl ⟨rfl, _, SqL.of (K5.hd h3 pb)⟩, b, c, N0 + (r1.toNat - (i + 1)) * 120 + 50, rfl, B5.le (by omega), fun tf f H6 okf tf0 tf1 B6 K6 => ?_⟩
          refine ⟨b, c, N0 + (r1.toNat - (i + 1)) * 120, 1, 2, wd, rfl, B6.le (by omega), by decide, by decide, by omega, w2, by decide, fun p2 xs2 i2 H7 B7 K7 p20 p21 t2 g2 l2 f2 => ⟨by decide, fun t H8 s8 t80 t81 => ?_⟩⟩
          have K58 : Kp b H5 H8 := Same.trans K6 (Same.trans K7 (Kp.of s8))
          have K38 : Kp b H3 H8 := Same.trans K5 K58
          have h8 := K38.hd h3 pb
          have d3 := D3
          have B8 := B7.same s8
          have d8 : ∀ a, H8 a = none → H3 a = none := Kp.dom K38 B8.at.choose_spec
          have d5 : ∀ a, H5 a = none → H3 a = none := Kp.dom K5 B5.at.choose_spec
          have d6 : ∀ a, H6 a = none → H5 a = none := Kp.dom K6 B6.at.choose_spec
          have pc : c ≠ p0 := fun e => by
            obtain ⟨xc, ec⟩ := B1.at2
            rw [← e, ec] at p00; cases p00
          have p0s : H2 p0 ≠ none := by rw [p01]; exact Option.some_ne_none _
          have U := fr_upd (H := H2) (o := .lst (vs ++ [.ref t])) h8 p0s
          have q1 := K58.hd p11 n1
          have t1' := ((((t1.kp B5 K6).kp B6 K7).same s8).tk (fr_tk (H := H2))).same U
          have q2 := s8 _ _ p21
          have t2' := ((t2.same s8).tk (fr_tk (H := H2))).same U
          have pf : Pr K H8 tf f.1 f.2 := .inl (.inl ((Same.trans (Kp.of s8) (Same.refl _) : Kp b H7 H8) |> fun kk => s8 _ _ (K7.hd tf1 (new_ne B5 tf0))))
          refine ⟨_, h8, Nat.lt_of_le_of_lt (show vs.length ≤ 1000 by omega) (by decide), _, _, ⟨rfl, rfl⟩, B8.upd pb.symm pc, ?_, ?_, _, upd_same, by rw [List.length_append, l3]; rfl, fun v hv' => ?_⟩
          · exact Kp.upd2 (Same.trans K3 K38) p00
          · intro a q
            have n : a ≠ p0 := fun z => by rw [z, upd_same] at q; cases q
            rw [upd_ne n] at q
            exact d3 a (d8 a q)
          · rcases List.mem_append.mp hv' with hv' | hv'
            · obtain ⟨p, h1, h2⟩ := hv v hv'
              exact ⟨p, (h1.same (fr_kp B2 B3 K38)).same U, h2⟩
            · obtain rfl := List.mem_singleton.mp hv'
              refine ⟨⟨i1, f, i2⟩, ⟨t, .ref p1, .ref p2, rfl, ⟨p1, xs1, rfl, U _ _ (fr_new (d3 _ p10) q1), t1'⟩, ⟨p2, xs2, rfl, U _ _ (fr_new (d3 _ (d5 _ (d6 _ p20))) q2), t2'⟩, ?_⟩, ?_⟩
              · rw [if_neg (by decide)]
                exact ⟨tf, Same.seqT U (seqT_tk fr_tk (.inl (.inl t81))), Same.seqT U (seqT_tk fr_tk pf)⟩
              · exact ⟨g1.gi (.inl rfl) w2 f1 (by decide) l1 (by decide), g2.gi (.inl rfl) w2 f2 (by decide) l2 (by decide), ok_f okf⟩
        · rintro σ H3 ⟨x4, x5, vs, rfl, B3, K3, D3, h3, l3, hv⟩
          exact hN _ _ ⟨_, _, vs, rfl, B3.le (by omega), K3, D3, h3, by omega, hv⟩
      · rintro σ H3 ⟨x4, x5, vs, rfl, B3, K3, D3, h3, l3, hv⟩
        walk_at "rs"
        refine ⟨by decide, fun t H5 s5 t50 t51 => ?_⟩
        obtain ⟨ps, hps⟩ := Al.ex (R := fun v p => PL K (fr H2 H3) false v p ∧ Gp 400 wd false p) hv
        have d1 : ∀ a, H1 a = none → H a = none := Kp.dom K1 B1.at.choose_spec
        have d2 : ∀ a, H2 a = none → H a = none := fun a q => d1 a (Same.dom s2 a q)
        have sub : Same (fr H2 H3) (fr H H5) := Same.trans (fr_same s5) (fr_anti d2)
        refine k (.ref t) (false, ps) H5 (B3.same s5) (Same.trans K1 (Same.trans K3 (Kp.of s5))) ⟨t, p0, vs, rfl, seqT_tk fr_tk (.inl (.inl t51)), fr_new (d1 _ p00) (s5 _ _ h3), hps.imp fun _ _ h => h.1.same sub⟩ ⟨?_, fun p hp => ?_⟩
        · have := hps.len
          show ps.length ≤ 3
          omega
        · obtain ⟨v, _, h⟩ := hps.mem' hp
          exact h.2
end
end LK

set_option Elab.async false
set_option linter.all false
set_option maxRecDepth 100000
namespace LK
open PySem PySem.Spec PyProof.Rows L2
local macro_rules | `(tactic| walk_at "rs") => `(tactic| simp only [tFld, sFld, tMeth, tMethZ, tMakeK, tProp, tFmt, rEqO, rNeO, cxK, cxNK, tCallZ, tAsg, tOp, rI0, rS0, rB0, rI, rU, tUn, rEq, rNe, rIxL, rIxT, rIxS, rSetL, rSlLU, rSlS, rSlU, rCatL, rCatU, rRepL, rIn, tVar, tC, gName, gSub, tIfS, tTest, tB, tAnd, tOr, tNot, tNotV, tAndV, tOrV, tIf, tCall, tCons, tNil, tCB, tDrop, tRet, tRetN, tNext, tLstU, tTupU, tM0, tM1, tPar, tPar3, tAug, ipI, tBM, tBM0, rAppend, rPop, tBreak, sDPut, tDGet, tDGet2, tCont, tChain, tSl, tPart, tNoPart, L2.start, List.map, List.length_cons, List.length_nil, List.replicate, List.cons_append, List.nil_append, List.append_nil, List.getElem?_cons_zero, List.getElem?_cons_succ, List.set_cons_zero, List.set_cons_succ, Option.some.injEq, V.int.injEq, V.ref.injEq, V.str.injEq, V.bl.injEq, exists_eq_left', exists_eq_left, exists_and_left, decide_eq_true_eq, List.cons.injEq, and_true, true_and, scal, Bool.not_eq_true', decide_eq_false_iff_not, Nat.zero_add, Nat.reduceAdd, Nat.reduceSub, reduceCtorEq, false_and, exists_false, false_or, or_false, CPow, CPowW, CMul, CDiv, Int.reduceToNat, ↓reduceIte, wipe, sw, List.nil_append, List.singleton_append])
local macro_rules | `(tactic| walk_at "st") => `(tactic| (refine seq_op fun N hN => ?_; walk_at "rs"))
local macro_rules | `(tactic| walk_at "sd") => `(tactic| first | assumption | decide | omega)
local macro_rules | `(tactic| walk_at "rd") => `(tactic| repeat (first
  | refine ⟨_, SqL.of (by assumption), ?_⟩ | refine ⟨_, SqL.of upd_same, ?_⟩ | refine ⟨_, .inl (SqL.of (by assumption)), ?_⟩ | refine ⟨_, (by assumption : _ = some (HO.lst _)), ?_⟩ | refine ⟨_, upd_same, ?_⟩
  | refine ⟨_, rfl, ?_⟩ | refine And.intro (by walk_at "sd") ?_))

/-- over a list, the items new things of tuples and scalars -/
theorem lc_alL {α : Type} {K : PySem.W.Frag} {a : Addr} {xs : List V} {te tl : TE} {i : Nat} {σ : L2.St} {H1 : Hp} {Q : VK} (ys : List α) (R : Hp → V → α → Prop) (mono : ∀ G G' v x, Tk G G' → R G v x → R G' v x) (hv : ∀ Q : VK, Q (.ref a) H1 → tl σ H1 Q) (h : SqL K H1 a xs) (hn : xs.length ≤ 1000000) (hl : xs.length = ys.length)
    (hs : ∀ (j : Nat) (x : V) (y : α) (H : Hp), xs[j]? = some x → ys[j]? = some y → Same H1 H → ∀ Q2 : VK, (∀ v H3, Same H H3 → R H3 v y → Q2 v H3) → te ((wipe σ [i]).set i (some x)) H Q2)
    (hq : ∀ D H' vs, Same H1 H' → H1 D = none → H' D = some (.lst vs) → Al (R H') vs ys → Q (.ref D) H') : tLc (iList K tl) (gName i) tYes te [i] σ H1 Q := by
  refine hv _ ⟨a, rfl, ⟨xs, h⟩, fun D hD => lc_accD (walk_list (K := K) (a := a) (xs := xs)) (g := gName i) (te := te) (vs := [i]) (σ := σ) (D := D) (Qd := fun H => Q (.ref D) H) (fun j H vs => Al (R H) vs (ys.take j)) hD hn (fun j H H' vs s q => q.imp fun _ _ => mono _ _ _ _ (Tk.of s)) (fun j H vs zs o hD q => q.imp fun _ _ => mono _ _ _ _ (Tk.upd hD)) .nil (fun H s => s.seq h) (fun j x H H' hj s n ⟨e, hx⟩ => ?_) (gm_name i) fun H' vs s e l p => hq D H' vs s hD e ?_⟩
  · subst e
    have hy : ys[j]? = some (ys[j]'(by omega)) := List.getElem?_eq_getElem (by omega)
    refine ⟨Same.refl _, ?_, fun Q2 h2 => hs j x _ _ hx hy s Q2 fun v H3 s3 r => h2 v H3 s3 fun vs q => q.snoc_take hy r⟩
    show ((σ.set i none).set i (some x)).set i none = σ.set i none
    rw [List.set_set, List.set_set]
  · rw [hl, List.take_length] at p; exact p
/-- over a list, drawn: the items stand for ys -/
theorem lc_drawL {α : Type} {K : PySem.W.Frag} {a : Addr} {xs : List V} {te tl : TE} {i k N : Nat} {σ : L2.St} {H1 : Hp} {b c : Addr} {Q : VK} (ys : List α) (Φ : Hp → V → α → Prop) (mono : ∀ G G' v x, Same G G' → Φ G v x → Φ G' v x) (hv : ∀ Q : VK, Q (.ref a) H1 → tl σ H1 Q) (hx : H1 a = some (.lst xs)) (nab : a ≠ b) (hB : Bag (N + xs.length * k) H1 b c) (hn : xs.length ≤ 1000000) (hl : xs.length = ys.length)
    (hs : ∀ (j : Nat) (x : V) (y : α) (H : Hp) (M : Nat), xs[j]? = some x → ys[j]? = some y → Kp b H1 H → Bag (M + k) H b c → ∀ Q2 : V → Hp → Prop, (∀ v H3, Bag M H3 b c → Kp b H H3 → Φ (fr H H3) v y → Q2 v H3) → te ((wipe σ [i]).set i (some x)) H Q2)
    (hq : ∀ D H' vs, Bag N H' b c → Kp b H1 H' → H1 D = none → H' D = some (.lst vs) → Al (Φ (fr (L2.upd H1 D (.lst [])) H')) vs ys → Q (.ref D) H') : tLc (iList K tl) (gName i) tYes te [i] σ H1 Q := by
  refine hv _ ⟨a, rfl, ⟨xs, SqL.of hx⟩, fun D hD => lc_bagF (walk_list (K := K) (a := a) (xs := xs)) (g := gName i) (te := te) (vs := [i]) (σ := σ) (D := D) (Qd := fun H => Q (.ref D) H) hD hB hn (fun j G v => ∃ y, ys[j]? = some y ∧ Φ G v y) (fun j G G' v s ⟨y, e, p⟩ => ⟨y, e, mono _ _ _ _ s p⟩) (fun H s => SqL.of (s.hd hx nab)) (fun j x H H' M hj s B1 ⟨e, hx⟩ => ?_) (gm_name i) fun H' vs B s e l p => hq D H' vs B s hD e (Al.of_get (by omega) fun j v y h1 h2 => ?_)⟩
  · subst e
    have hy : ys[j]? = some (ys[j]'(by omega)) := List.getElem?_eq_getElem (by omega)
    refine ⟨Same.refl _, ?_, fun Q2 h2 => hs j x _ _ M hx hy s B1 Q2 fun v H3 B3 k3 p => h2 v H3 B3 k3 ⟨_, hy, p⟩⟩
    show ((σ.set i none).set i (some x)).set i none = σ.set i none
    rw [List.set_set, List.set_set]
  · obtain ⟨y', e', p'⟩ := p j v h1
    rw [h2] at e'
    cases e'
    exact p'
section
variable {P : Program} {w : World} {K : PySem.W.Frag} {mg : Str → Option Value} {base : Heap}
def sp_normX (K : PySem.W.Frag) : Sp := fun vs H Q E => ∃ d, 1 ≤ d ∧ d ≤ 2 ∧ sp_norm K d vs H Q E
theorem ok__law_normalX (T : Txt w K mg) : FnOk P w K mg base CX0 4 T.a__law_normal T.d__law_normal ["items"] (sp_normX K) :=
  ⟨fun vs H Q E ⟨d, d1, d2, h⟩ => (ok__law_normal (P := P) (base := base) T d d1 d2).len vs H Q E h, fun A outer s H args us vs Q E hr he hb hv ⟨d, d1, d2, h⟩ => (ok__law_normal (P := P) (base := base) T d d1 d2).run A outer s H args us vs Q E hr he hb hv h⟩
theorem normX_at {H : Hp} {Q : VK} {E : XK} {v : V} {l : List It} {m d : Nat} {wd : Int} (h : IV K H v l) (g : Gi m d wd l) (hm : m ≤ 3900) (k : ∀ t H', Same H H' → Dp K H' (.ref t) (dI (nf l)) → Q (.ref t) H') : sp_normX K [v] H Q E :=
  ⟨d, by have := g.hd; omega, by have := g.hd; omega, norm_at h g hm k⟩
def sp_sstage (K : PySem.W.Frag) : Sp := fun vs H Q _ => ∃ (v : V) (m : Nat) (w : Int) (s : Sg), vs = [v] ∧ SV K H v s ∧ Gs m w s ∧ m ≤ 3900 ∧ ∀ t H', Same H H' → Dp K H' (.ref t) (dS (nfS s)) → Q (.ref t) H'
theorem ok__law_settled_stage (T : Txt w K mg) : FnOk P w K mg base CX0 5 T.a__law_settled_stage T.d__law_settled_stage ["stage"] (sp_sstage K) := by
  refine T.F__law_settled_stage.ok sc__law_settled_stage (fun vs H Q E h => ?_) (fun cdv A outer s H vs Q E hr h => ?_)
  · obtain ⟨v, m, w, s, rfl, _⟩ := h
    rfl
  · obtain ⟨v, m, w, ⟨kb, ps⟩, rfl, ⟨a, p, xs, rfl, ha, hp, hx⟩, g, hm, kq⟩ := h
    have hr__law_normal : Room 4 _ := hr
    have G__law_normal := ok__law_normalX (P := P) (base := base) T
    refine ⟨_, (pss_cons (ps_if (pt_cmpR op_eqS (pe_ix ix_tup (pv 0) pe_int (fun _ _ => rfl)) pe_str (nomark _)) (pss_one (ps_ret (pe_tupU (pa_cons pe_str (pa_cons (pe_callTy call_tupleN (by rfl) T.n_tuple (by decide +kernel) (pa_cons (pe_lc (own := [("one", 1)]) (g := gName 1) (tt := tYes) rfl sc__law_settled_stage.nd (pi_lt (pe_ix ix_tup (pv 0) pe_int (fun _ _ => rfl))) (blkOk_by (own := [("one", 1)]) (N := N__law_settled_stage) (sc := defScope s__law_settled_stage) (by decide +kernel)) (fun _ _ _ _ _ => pg_name (i := 1) sc__law_settled_stage.nd rfl (Or.inl rfl)) (fun _ _ _ _ _ => pts_nil) (fun _ _ _ _ _ => (pe_tupU (pa_cons (pe_call G__law_normal hr__law_normal (by rfl) T.m__law_normal T.F__law_normal.kp T.B__law_normal .nil pass0 (pa_cons (pe_ix (ix_tupK (K := K) rfl) (pv 1) pe_int (fun _ _ => rfl)) pa_nil)) (pa_cons (pe_call G__law_normal hr__law_normal (by rfl) T.m__law_normal T.F__law_normal.kp T.B__law_normal .nil pass0 (pa_cons (pe_ix (ix_tupK (K := K) rfl) (pv 1) pe_int (fun _ _ => rfl)) pa_nil)) pa_nil))))) pa_nil)) pa_nil))))) pss_nil)
      (pss_one (ps_ret (pe_tupU (pa_cons pe_str (pa_cons (pe_callTy call_tupleN (by rfl) T.n_tuple (by decide +kernel) (pa_cons (pe_lc (own := [("one", 1)]) (g := gName 1) (tt := tYes) rfl sc__law_settled_stage.nd (pi_lt (pe_ix ix_tup (pv 0) pe_int (fun _ _ => rfl))) (blkOk_by (own := [("one", 1)]) (N := N__law_settled_stage) (sc := defScope s__law_settled_stage) (by decide +kernel)) (fun _ _ _ _ _ => pg_name (i := 1) sc__law_settled_stage.nd rfl (Or.inl rfl)) (fun _ _ _ _ _ => pts_nil) (fun _ _ _ _ _ => (pe_tupU (pa_cons (pe_call G__law_normal hr__law_normal (by rfl) T.m__law_normal T.F__law_normal.kp T.B__law_normal .nil pass0 (pa_cons (pe_ix (ix_tupK (K := K) rfl) (pv 1) pe_int (fun _ _ => rfl)) pa_nil)) (pa_cons (pe_ix (ix_tupK (K := K) rfl) (pv 1) pe_int (fun _ _ => rfl)) (pa_cons (pe_call G__law_normal hr__law_normal (by rfl) T.m__law_normal T.F__law_normal.kp T.B__law_normal .nil pass0 (pa_cons (pe_ix (ix_tupK (K := K) rfl) (pv 1) pe_int (fun _ _ => rfl)) pa_nil)) pa_nil)))))) pa_nil)) pa_nil)))))), ?_⟩
    replace ha : SqT K H a [.str (kS kb), .ref p] := ha
    replace hx : Al (PV K H kb) xs ps := hx
    have lx := hx.len
    have l3 : ps.length ≤ 3 := g.len
    have fin : ∀ (ys : List V) (G : Hp), Same H G → DpAll K G ys (ps.map fun p => dP kb (nfP p)) → ∀ q2 H2, Same G H2 → H2 q2 = some (.tup ys) → ∀ q3 H3, Same H2 H3 → H3 q3 = some (.tup [.str (kS kb), .ref q2]) → Q (.ref q3) H3 := fun ys G s1 al q2 H2 s2 h2 q3 H3 s3 h3 => kq q3 H3 (Same.trans s1 (Same.trans s2 s3)) (by
      have e : (nfS (kb, ps)).2.map (dP (nfS (kb, ps)).1) = ps.map fun p => dP kb (nfP p) := by
        show (ps.map nfP).map (dP kb) = _
        rw [List.map_map]; rfl
      refine .tup (.inl (.inl h3)) (.cons (.str _) (.cons (.tup (.inl (.inl (s3 _ _ h2))) ?_) .nil))
      rw [e]; exact dpa_same (Same.trans s2 s3) al)
    have hal : ∀ (G : Hp) (ys : List V), Al (fun v d => tdD d = true ∧ Dp K G v d) ys (ps.map fun p => dP kb (nfP p)) → DpAll K G ys (ps.map fun p => dP kb (nfP p)) := fun G ys al => by
      have := dpa_al (f := fun d => d) (al.imp fun _ _ h => h.2)
      rwa [List.map_id'] at this
    refine seq_op fun N hN => ?_
    walk_at "rs"
    refine ⟨_, ha, _, rfl, _, rfl, ite2 (fun c => ?_) (fun c => hN _ _ ?_)⟩
    · clear hN N
      cases kb with
      | false => exact absurd c (by decide)
      | true =>
      refine lc_al (ps.map fun p => dP true (nfP p)) (fun H v d => tdD d = true ∧ Dp K H v d) (fun G G' v d t h => ⟨h.1, dp_tk t h.1 h.2⟩) (fun Q q => ⟨_, rfl, a, _, 1, _, rfl, rfl, ha, rfl, q⟩) hp (by omega) (by rw [List.length_map]; exact lx) (fun j x y G hx1 hy1 s1 Q2 h2 => ?_) fun D H1 vs s1 _ h1 al => ?_
      · rw [List.getElem?_map] at hy1
        obtain ⟨p', hp1, rfl⟩ := Option.map_eq_some_iff.mp hy1
        obtain ⟨p2, hp2, hv⟩ := hx.get hx1
        rw [hp1] at hp2
        cases hp2
        have gp := g.it p' (List.mem_of_getElem? hp1)
        obtain ⟨a1, x1, y1, rfl, i1, i2, hk⟩ := hv.same s1
        rw [if_pos rfl] at hk
        walk_at "rs"
        refine ⟨_, hk, _, rfl, normX_at i1 gp.a hm fun t1 G1 u1 e1 => ⟨_, Same.seqT u1 hk, _, rfl, normX_at (i2.same u1) gp.b hm fun t2 G2 u2 e2 => ⟨by decide, fun t3 G3 u3 _ e3 => h2 (.ref t3) G3 (Same.trans u1 (Same.trans u2 u3)) ⟨td_P _ _, ?_⟩⟩⟩⟩
        exact .tup (.inl (.inl e3)) (.cons (dp_same (Same.trans u2 u3) e1) (.cons (dp_same u3 e2) .nil))
      · walk_at "rs"
        exact ⟨_, SqL.of h1, fun q2 H2 s2 _ h2 => ⟨by decide, fun q3 H3 s3 _ h3 => fin vs H1 s1 (hal H1 vs al) q2 H2 s2 h2 q3 H3 s3 h3⟩⟩
    · clear hN N
      cases kb with
      | true => exact absurd rfl c
      | false =>
      walk_at "rs"
      refine lc_al (ps.map fun p => dP false (nfP p)) (fun H v d => tdD d = true ∧ Dp K H v d) (fun G G' v d t h => ⟨h.1, dp_tk t h.1 h.2⟩) (fun Q q => ⟨_, rfl, a, _, 1, _, rfl, rfl, ha, rfl, q⟩) hp (by omega) (by rw [List.length_map]; exact lx) (fun j x y G hx1 hy1 s1 Q2 h2 => ?_) fun D H1 vs s1 _ h1 al => ?_
      · rw [List.getElem?_map] at hy1
        obtain ⟨p', hp1, rfl⟩ := Option.map_eq_some_iff.mp hy1
        obtain ⟨p2, hp2, hv⟩ := hx.get hx1
        rw [hp1] at hp2
        cases hp2
        have gp := g.it p' (List.mem_of_getElem? hp1)
        obtain ⟨a1, x1, y1, rfl, i1, i2, hk⟩ := hv.same s1
        rw [if_neg (by decide)] at hk
        obtain ⟨u, hk, hu⟩ := hk
        walk_at "rs"
        refine ⟨_, hk, _, rfl, normX_at i1 gp.a hm fun t1 G1 u1 e1 => ⟨_, Same.seqT u1 hk, _, rfl, _, Same.seqT u1 hk, _, rfl, normX_at (i2.same u1) gp.b hm fun t2 G2 u2 e2 => ⟨by decide, fun t3 G3 u3 _ e3 => h2 (.ref t3) G3 (Same.trans u1 (Same.trans u2 u3)) ⟨td_P _ _, ?_⟩⟩⟩⟩
        exact .tup (.inl (.inl e3)) (.cons (dp_same (Same.trans u2 u3) e1) (.cons (dF_at (Same.seqT (Same.trans u1 (Same.trans u2 u3)) hu)) (.cons (dp_same u3 e2) .nil)))
      · walk_at "rs"
        exact ⟨_, SqL.of h1, fun q2 H2 s2 _ h2 => ⟨by decide, fun q3 H3 s3 _ h3 => fin vs H1 s1 (hal H1 vs al) q2 H2 s2 h2 q3 H3 s3 h3⟩⟩
def sp_settled (K : PySem.W.Frag) : Sp := fun vs H Q _ => ∃ (v : V) (m : Nat) (x : Nd), vs = [v] ∧ ShL K H v x ∧ Gn m x ∧ m ≤ 3900 ∧ ∀ q H', Same H H' → H q = none → Dp K H' (.ref q) (dD (nfN x)) → Q (.ref q) H'
theorem ok__law_settled (T : Txt w K mg) : FnOk P w K mg base CX0 6 T.a__law_settled T.d__law_settled ["sheet"] (sp_settled K) := by
  refine T.F__law_settled.ok sc__law_settled (fun vs H Q E h => ?_) (fun cdv A outer s H vs Q E hr h => ?_)
  · obtain ⟨v, m, x, rfl, _⟩ := h
    rfl
  · obtain ⟨v, m, x, rfl, ⟨a, vr, vg, vp, vt, rfl, ha, h1, h2, h3, h4⟩, g, hm, kq⟩ := h
    have hr__law_normal : Room 4 _ := hr.mono (by decide)
    have G__law_normal := ok__law_normalX (P := P) (base := base) T
    have hr__law_settled_stage : Room 5 _ := hr
    have G__law_settled_stage := ok__law_settled_stage (P := P) (base := base) T
    refine ⟨_, (pss_cons (ps_set (i := 1) sc__law_settled.nd rfl (Or.inl rfl) (pe_lstU (pa_cons (pe_ix ix_list (pv 0) pe_int (fun _ _ => rfl)) (pa_cons (pe_ix ix_list (pv 0) pe_int (fun _ _ => rfl)) (pa_cons (pe_ix ix_list (pv 0) pe_int (fun _ _ => rfl)) (pa_cons (pe_call G__law_normal hr__law_normal (by rfl) T.m__law_normal T.F__law_normal.kp T.B__law_normal .nil pass0 (pa_cons (pe_ix ix_list (pv 0) pe_int (fun _ _ => rfl)) pa_nil)) pa_nil))))))
      (pss_cons (ps_expr (pe_bm PySem.F.plainAttrs_list PySem.F.slot_list_append PySem.F.type_list_append mt_append (pv 1) (pa_cons (pe_callTy call_tupleN (by rfl) T.n_tuple (by decide +kernel) (pa_cons (pe_lc (own := [("one", 2)]) (g := gName 2) (tt := tYes) rfl sc__law_settled.nd (pi_list (pe_ix ix_list (pv 0) pe_int (fun _ _ => rfl))) (blkOk_by (own := [("one", 2)]) (N := N__law_settled) (sc := defScope s__law_settled) (by decide +kernel)) (fun _ _ _ _ _ => pg_name (i := 2) sc__law_settled.nd rfl (Or.inl rfl)) (fun _ _ _ _ _ => pts_nil) (fun _ _ _ _ _ => (pe_call G__law_normal hr__law_normal (by rfl) T.m__law_normal T.F__law_normal.kp T.B__law_normal .nil pass0 (pa_cons (pv 2) pa_nil)))) pa_nil)) pa_nil)))
      (pss_cons (ps_expr (pe_bm PySem.F.plainAttrs_list PySem.F.slot_list_append PySem.F.type_list_append mt_append (pv 1) (pa_cons (pe_callTy call_tupleN (by rfl) T.n_tuple (by decide +kernel) (pa_cons (pe_lc (own := [("one", 2)]) (g := gName 2) (tt := tYes) rfl sc__law_settled.nd (pi_list (pe_ix ix_list (pv 0) pe_int (fun _ _ => rfl))) (blkOk_by (own := [("one", 2)]) (N := N__law_settled) (sc := defScope s__law_settled) (by decide +kernel)) (fun _ _ _ _ _ => pg_name (i := 2) sc__law_settled.nd rfl (Or.inl rfl)) (fun _ _ _ _ _ => pts_nil) (fun _ _ _ _ _ => (pe_call G__law_normal hr__law_normal (by rfl) T.m__law_normal T.F__law_normal.kp T.B__law_normal .nil pass0 (pa_cons (pv 2) pa_nil)))) pa_nil)) pa_nil)))
      (pss_cons (ps_expr (pe_bm PySem.F.plainAttrs_list PySem.F.slot_list_append PySem.F.type_list_append mt_append (pv 1) (pa_cons (pe_callTy call_tupleN (by rfl) T.n_tuple (by decide +kernel) (pa_cons (pe_lc (own := [("one", 2)]) (g := gName 2) (tt := tYes) rfl sc__law_settled.nd (pi_list (pe_ix ix_list (pv 0) pe_int (fun _ _ => rfl))) (blkOk_by (own := [("one", 2)]) (N := N__law_settled) (sc := defScope s__law_settled) (by decide +kernel)) (fun _ _ _ _ _ => pg_name (i := 2) sc__law_settled.nd rfl (Or.inl rfl)) (fun _ _ _ _ _ => pts_nil) (fun _ _ _ _ _ => (pe_call G__law_settled_stage hr__law_settled_stage (by rfl) T.m__law_settled_stage T.F__law_settled_stage.kp T.B__law_settled_stage .nil pass0 (pa_cons (pv 2) pa_nil)))) pa_nil)) pa_nil)))
      (pss_one (ps_ret (pv 1))))))), ?_⟩
    refine seq_op fun N hN => ?_
    walk_at "rs"
    refine ⟨_, SqL.of ha, _, rfl, _, SqL.of ha, _, rfl, _, SqL.of ha, _, rfl, _, SqL.of ha, _, rfl, normX_at h1.iv g.rest hm fun t1 H1 u1 d1 => ⟨by decide, fun q H2 u2 q0 q1 => hN _ _ ?_⟩⟩
    clear hN N
    have q00 := Same.dom u1 q q0
    have sb := Same.trans u1 u2
    replace d1 := dp_same u2 d1
    have up : ∀ {G : Hp} {o : HO}, Same H G → Same H (L2.upd G q o) := fun s p o e => by rw [upd_ne (ne_of_none e q00)]; exact s _ _ e
    have tu : ∀ {G : Hp} {vs : List V} {o : HO}, G q = some (.lst vs) → ∀ {d : PyData} {v : V}, tdD d = true → Dp K G v d → Dp K (L2.upd G q o) v d := fun e _ _ td h => dp_tk (Tk.upd e) td h
    refine seq_op fun N hN => ?_
    walk_at "rs"
    refine ⟨.inl ⟨rfl, _, SqL.of q1⟩, ?_⟩
    obtain ⟨a0, xs0, rfl, ha0, hx0⟩ := h2
    refine lc_alL (K := K) (a := a0) (xs := xs0) (x.sg.map fun l => dI (nf l)) (fun H v d => tdD d = true ∧ Dp K H v d) (fun G G' v d t h => ⟨h.1, dp_tk t h.1 h.2⟩) (fun Q q => ⟨_, rfl, a, _, 4, _, rfl, rfl, SqL.of (sb _ _ ha), rfl, q⟩) (SqL.of (sb _ _ ha0)) (by have := hx0.len; have := g.sg.1; have := g.s; have := g.n; omega) (by rw [List.length_map]; exact hx0.len) (fun j v y G hxj hyj s1 Q2 h2' => ?_) fun D G1 vs s1 _ e1 al => ?_
    · rw [List.getElem?_map] at hyj
      obtain ⟨p', hp1, rfl⟩ := Option.map_eq_some_iff.mp hyj
      obtain ⟨p2, hp2, hv⟩ := hx0.get hxj
      rw [hp1] at hp2
      cases hp2
      walk_at "rs"
      exact normX_at (hv.iv.same (Same.trans sb s1)) (g.sg.2 _ (List.mem_of_getElem? hp1)) hm fun t H' s' q => h2' (.ref t) H' s' ⟨td_I _, q⟩
    walk_at "rs"
    refine ⟨_, SqL.of e1, fun t2 G2 s2 _ e2 => ⟨_, s2 _ _ (s1 _ _ q1), by show 4 < sizeLine; rw [sizeLine_eq]; omega, hN _ _ ?_⟩⟩
    clear hN N
    have s12 := Same.trans s1 s2
    have d2 : Dp K G2 (.ref t2) (dRs (x.sg.map nf)) := by
      have al2 := dpa_al (f := fun d => d) (al.imp fun _ _ h => dp_same s2 h.2)
      rw [List.map_id'] at al2
      refine .tup (.inl (.inl e2)) ?_
      rw [List.map_map]; exact al2
    replace q1 := s12 _ _ q1
    replace d1 := tu (o := .lst [.int x.s, .int x.n, .int x.w, .ref t1, .ref t2]) q1 (td_I _) (dp_same s12 d1)
    replace d2 := tu (o := .lst [.int x.s, .int x.n, .int x.w, .ref t1, .ref t2]) q1 (td_Rs _) d2
    replace sb := up (o := .lst [.int x.s, .int x.n, .int x.w, .ref t1, .ref t2]) (Same.trans sb s12)
    replace q1 : (L2.upd G2 q (.lst [.int x.s, .int x.n, .int x.w, .ref t1, .ref t2])) q = some (.lst [.int x.s, .int x.n, .int x.w, .ref t1, .ref t2]) := upd_same
    show tSeq _ _ _ _ (L2.upd G2 q (.lst [.int x.s, .int x.n, .int x.w, .ref t1, .ref t2]))
    generalize L2.upd G2 q (.lst [.int x.s, .int x.n, .int x.w, .ref t1, .ref t2]) = H3 at *
    refine seq_op fun N hN => ?_
    walk_at "rs"
    refine ⟨.inl ⟨rfl, _, SqL.of q1⟩, ?_⟩
    obtain ⟨a1, xs1, rfl, ha1, hx1⟩ := h3
    refine lc_alL (K := K) (a := a1) (xs := xs1) (x.pl.map fun l => dI (nf l)) (fun H v d => tdD d = true ∧ Dp K H v d) (fun G G' v d t h => ⟨h.1, dp_tk t h.1 h.2⟩) (fun Q q => ⟨_, rfl, a, _, 5, _, rfl, rfl, SqL.of (sb _ _ ha), rfl, q⟩) (SqL.of (sb _ _ ha1)) (by have := hx1.len; have := g.pl.1; have := g.s; have := g.n; omega) (by rw [List.length_map]; exact hx1.len) (fun j v y G hxj hyj s1 Q2 h2' => ?_) fun D G1 vs s1 _ e1 al => ?_
    · rw [List.getElem?_map] at hyj
      obtain ⟨p', hp1, rfl⟩ := Option.map_eq_some_iff.mp hyj
      obtain ⟨p2, hp2, hv⟩ := hx1.get hxj
      rw [hp1] at hp2
      cases hp2
      walk_at "rs"
      exact normX_at (hv.iv.same (Same.trans sb s1)) (g.pl.2 _ (List.mem_of_getElem? hp1)) hm fun t H' s' q => h2' (.ref t) H' s' ⟨td_I _, q⟩
    walk_at "rs"
    refine ⟨_, SqL.of e1, fun t3 G2 s2 _ e2 => ⟨_, s2 _ _ (s1 _ _ q1), by show 5 < sizeLine; rw [sizeLine_eq]; omega, hN _ _ ?_⟩⟩
    clear hN N
    have s12 := Same.trans s1 s2
    have d3 : Dp K G2 (.ref t3) (dRs (x.pl.map nf)) := by
      have al2 := dpa_al (f := fun d => d) (al.imp fun _ _ h => dp_same s2 h.2)
      rw [List.map_id'] at al2
      refine .tup (.inl (.inl e2)) ?_
      rw [List.map_map]; exact al2
    replace q1 := s12 _ _ q1
    replace d1 := tu (o := .lst [.int x.s, .int x.n, .int x.w, .ref t1, .ref t2, .ref t3]) q1 (td_I _) (dp_same s12 d1)
    replace d2 := tu (o := .lst [.int x.s, .int x.n, .int x.w, .ref t1, .ref t2, .ref t3]) q1 (td_Rs _) (dp_same s12 d2)
    replace d3 := tu (o := .lst [.int x.s, .int x.n, .int x.w, .ref t1, .ref t2, .ref t3]) q1 (td_Rs _) d3
    replace sb := up (o := .lst [.int x.s, .int x.n, .int x.w, .ref t1, .ref t2, .ref t3]) (Same.trans sb s12)
    replace q1 : (L2.upd G2 q (.lst [.int x.s, .int x.n, .int x.w, .ref t1, .ref t2, .ref t3])) q = some (.lst [.int x.s, .int x.n, .int x.w, .ref t1, .ref t2, .ref t3]) := upd_same
    show tSeq _ _ _ _ (L2.upd G2 q (.lst [.int x.s, .int x.n, .int x.w, .ref t1, .ref t2, .ref t3]))
    generalize L2.upd G2 q (.lst [.int x.s, .int x.n, .int x.w, .ref t1, .ref t2, .ref t3]) = H4 at *
    refine seq_op fun N hN => ?_
    walk_at "rs"
    refine ⟨.inl ⟨rfl, _, SqL.of q1⟩, ?_⟩
    obtain ⟨a2, xs2, rfl, ha2, hx2⟩ := h4
    refine lc_alL (K := K) (a := a2) (xs := xs2) (x.st.map fun l => dS (nfS l)) (fun H v d => tdD d = true ∧ Dp K H v d) (fun G G' v d t h => ⟨h.1, dp_tk t h.1 h.2⟩) (fun Q q => ⟨_, rfl, a, _, 6, _, rfl, rfl, SqL.of (sb _ _ ha), rfl, q⟩) (SqL.of (sb _ _ ha2)) (by have := hx2.len; have := g.st.1; have := g.s; have := g.n; omega) (by rw [List.length_map]; exact hx2.len) (fun j v y G hxj hyj s1 Q2 h2' => ?_) fun D G1 vs s1 _ e1 al => ?_
    · rw [List.getElem?_map] at hyj
      obtain ⟨p', hp1, rfl⟩ := Option.map_eq_some_iff.mp hyj
      obtain ⟨p2, hp2, hv⟩ := hx2.get hxj
      rw [hp1] at hp2
      cases hp2
      walk_at "rs"
      exact ⟨v, m, x.w, p', rfl, hv.sv.same (Same.trans sb s1), g.st.2 _ (List.mem_of_getElem? hp1), hm, fun t H' s' q => h2' (.ref t) H' s' ⟨td_S _, q⟩⟩
    walk_at "rs"
    refine ⟨_, SqL.of e1, fun t4 G2 s2 _ e2 => ⟨_, s2 _ _ (s1 _ _ q1), by show 6 < sizeLine; rw [sizeLine_eq]; omega, hN _ _ ?_⟩⟩
    clear hN N
    have s12 := Same.trans s1 s2
    have d4 : Dp K G2 (.ref t4) (dSs (x.st.map nfS)) := by
      have al2 := dpa_al (f := fun d => d) (al.imp fun _ _ h => dp_same s2 h.2)
      rw [List.map_id'] at al2
      refine .tup (.inl (.inl e2)) ?_
      rw [List.map_map]; exact al2
    replace q1 := s12 _ _ q1
    replace d1 := tu (o := .lst [.int x.s, .int x.n, .int x.w, .ref t1, .ref t2, .ref t3, .ref t4]) q1 (td_I _) (dp_same s12 d1)
    replace d2 := tu (o := .lst [.int x.s, .int x.n, .int x.w, .ref t1, .ref t2, .ref t3, .ref t4]) q1 (td_Rs _) (dp_same s12 d2)
    replace d3 := tu (o := .lst [.int x.s, .int x.n, .int x.w, .ref t1, .ref t2, .ref t3, .ref t4]) q1 (td_Rs _) (dp_same s12 d3)
    replace d4 := tu (o := .lst [.int x.s, .int x.n, .int x.w, .ref t1, .ref t2, .ref t3, .ref t4]) q1 (td_Ss _) d4
    replace sb := up (o := .lst [.int x.s, .int x.n, .int x.w, .ref t1, .ref t2, .ref t3, .ref t4]) (Same.trans sb s12)
    replace q1 : (L2.upd G2 q (.lst [.int x.s, .int x.n, .int x.w, .ref t1, .ref t2, .ref t3, .ref t4])) q = some (.lst [.int x.s, .int x.n, .int x.w, .ref t1, .ref t2, .ref t3, .ref t4]) := upd_same
    show tRet _ _ _ (L2.upd G2 q (.lst [.int x.s, .int x.n, .int x.w, .ref t1, .ref t2, .ref t3, .ref t4]))
    generalize L2.upd G2 q (.lst [.int x.s, .int x.n, .int x.w, .ref t1, .ref t2, .ref t3, .ref t4]) = H5 at *
    walk_at "rs"
    exact kq q _ sb q00 (.lst (SqL.of q1) (.cons (.int _) (.cons (.int _) (.cons (.int _) (.cons d1 (.cons d2 (.cons d3 (.cons d4 .nil))))))))
/-- without the bag and one list more -/
def Zb (b p : Addr) (H : Hp) : Hp := hb (hb H b) p
theorem hb_mono {G G' : Hp} (s : Same G G') (p : Addr) : Same (hb G p) (hb G' p) := fun a o e => by
  obtain ⟨h1, h2⟩ := hb_some e
  rw [hb_ne h1]; exact s _ _ h2
theorem hb_up {G : Hp} {p : Addr} {o : HO} : Same (hb G p) (hb (L2.upd G p o) p) := fun a u e => by
  obtain ⟨h1, h2⟩ := hb_some e
  rw [hb_ne h1, upd_ne h1]; exact h2
theorem hb_upd {G : Hp} {b p : Addr} {o : HO} (n : p ≠ b) : Same (Zb b p G) (Zb b p (L2.upd G p o)) := fun a u e => by
  obtain ⟨h1, h2⟩ := hb_some e
  obtain ⟨h3, h4⟩ := hb_some h2
  show hb (hb _ b) p a = _
  rw [hb_ne h1, hb_ne h3, upd_ne h1]; exact h4
theorem Zb_kp {b p : Addr} {H H' : Hp} (k : Kp b H H') : Same (Zb b p H) (Zb b p H') := hb_mono k p
theorem Zb_le {b p : Addr} {H : Hp} : Same (Zb b p H) (hb H b) := hb_le _ _
theorem Tk.hbl {H : Hp} {p : Addr} {xs : List V} (h : H p = some (.lst xs)) : Tk H (LK.hb H p) := fun a o e n => by
  rw [hb_ne fun z => ?_]; exact e
  subst z; rw [h] at e; exact n xs (Option.some.inj e).symm
theorem Zb_tk {b c p : Addr} {N : Nat} {H : Hp} {xs : List V} (B : Bag N H b c) (h : H p = some (.lst xs)) : Tk H (Zb b p H) := fun a o e n => by
  have h1 := Tk.hb B a o e n
  show hb (hb H b) p a = _
  rw [hb_ne fun z => ?_]; exact h1
  subst z; rw [h] at e; exact n xs (Option.some.inj e).symm
theorem Zb_at {b p q : Addr} {H : Hp} {o : HO} (h : H q = some o) (n1 : q ≠ b) (n2 : q ≠ p) : Zb b p H q = some o := by
  show hb (hb H b) p q = _
  rw [hb_ne n2, hb_ne n1]; exact h
theorem fr_Zb {b c p : Addr} {N M : Nat} {X H : Hp} {xs : List V} (B : Bag N X b c) (B' : Bag M H b c) (hX : X p ≠ none) (h : H p = some (.lst xs)) : Same (fr X H) (Zb b p H) := fun a o e => by
  have h2 := fr_le a o e
  by_cases q : ∃ xs, o = .lst xs
  · obtain ⟨xs, rfl⟩ := q
    have h0 := fr_lst e
    exact Zb_at h2 (new_ne B h0) fun z => hX (z ▸ h0)
  · exact Zb_tk B' h a o h2 fun xs z => q ⟨xs, z⟩
/-- a sheet, its list apart -/
def ShZ (K : PySem.W.Frag) (b : Addr) (H : Hp) (a : Addr) (x : Nd) : Prop := ∃ vr vg vp vt, H a = some (.lst [.int x.s, .int x.n, .int x.w, vr, vg, vp, vt]) ∧ a ≠ b ∧ IL K (Zb b a H) vr x.rest ∧ RL K (Zb b a H) vg x.sg ∧ RL K (Zb b a H) vp x.pl ∧ StL K (Zb b a H) vt x.st
theorem ShZ.shl {K : PySem.W.Frag} {b a : Addr} {H : Hp} {x : Nd} : ShZ K b H a x → ShL K (hb H b) (.ref a) x := fun ⟨vr, vg, vp, vt, e, n, h1, h2, h3, h4⟩ => ⟨a, vr, vg, vp, vt, rfl, by rw [hb_ne n]; exact e, h1.same Zb_le, h2.same Zb_le, h3.same Zb_le, h4.same Zb_le⟩
theorem ShZ.kp {K : PySem.W.Frag} {b a : Addr} {H H' : Hp} {x : Nd} (k : Kp b H H') : ShZ K b H a x → ShZ K b H' a x := fun ⟨vr, vg, vp, vt, e, n, h1, h2, h3, h4⟩ => ⟨vr, vg, vp, vt, k.hd e n, n, h1.same (Zb_kp k), h2.same (Zb_kp k), h3.same (Zb_kp k), h4.same (Zb_kp k)⟩
def SmI (l : List It) : Prop := Few 9 l ∧ l.length ≤ 20
structure Smx (x : Nd) : Prop where
  rest : SmI x.rest
  sg : ∀ l ∈ x.sg, SmI l
  pl : ∀ l ∈ x.pl, SmI l
theorem IG.sm {m : Nat} {l : List It} (f : Few m l) (hl : l.length ≤ 2 * m) (h3 : m ≤ 3) : SmI l := ⟨f.le (by omega), by omega⟩
def sp_sheet (K : PySem.W.Frag) : Sp := fun vs H Q _ => ∃ (b c : Addr) (N : Nat) (s n w y : Int), vs = [.ref b, .int s, .int n, .int w, .int y] ∧ Bag (N + 10000) H b c ∧ 2 ≤ s ∧ s ≤ 5 ∧ 1 ≤ n ∧ n ≤ 8 ∧ 1 ≤ w ∧ w ≤ 2000 ∧ 0 ≤ y ∧ y ≤ 5 ∧
  ∀ q x H', Bag N H' b c → Kp b H H' → H q = none → ShZ K b H' q x → x.w = w → Gn 400 x → x.st.length ≤ 5 → Smx x → Q (.ref q) H'
theorem ok__law_sheet (T : Txt w K mg) : FnOk P w K mg base CX0 6 T.a__law_sheet T.d__law_sheet ["bag", "signs_z", "n_z", "width_z", "stages_y"] (sp_sheet K) := by
  refine T.F__law_sheet.ok sc__law_sheet (fun vs H Q E h => ?_) (fun cdv A outer s H vs Q E hr h => ?_)
  · obtain ⟨b, c, N, s, n, w, y, rfl, _⟩ := h
    rfl
  · obtain ⟨b, c, N0, sz, nz, wz, yz, rfl, B, s1, s2, n1, n2, w1, w2, y1, y2, kq⟩ := h
    have hr__law_items : Room 4 _ := hr.mono (by decide)
    have G__law_items := ok__law_items (P := P) (base := base) T
    have hr__law_stage : Room 5 _ := hr
    have G__law_stage := ok__law_stage (P := P) (base := base) T
    refine ⟨_, (pss_cons (ps_set (i := 5) sc__law_sheet.nd rfl (Or.inl rfl) (pe_lstU (pa_cons (pv 1) (pa_cons (pv 2) (pa_cons (pv 3) (pa_cons (pe_call G__law_items hr__law_items (by rfl) T.m__law_items T.F__law_items.kp T.B__law_items .nil pass0 (pa_cons (pv 0) (pa_cons pe_int (pa_cons (pv 3) (pa_cons pe_int pa_nil))))) pa_nil))))))
      (pss_cons (ps_expr (pe_bm PySem.F.plainAttrs_list PySem.F.slot_list_append PySem.F.type_list_append mt_append (pv 5) (pa_cons (pe_lc (own := [("k", 6)]) (g := gName 6) (tt := tYes) rfl sc__law_sheet.nd (pi_range1 (by rfl) T.n_range (pa_cons (pv 1) pa_nil)) (blkOk_by (own := [("k", 6)]) (N := N__law_sheet) (sc := defScope s__law_sheet) (by decide +kernel)) (fun _ _ _ _ _ => pg_name (i := 6) sc__law_sheet.nd rfl (Or.inl rfl)) (fun _ _ _ _ _ => pts_nil) (fun _ _ _ _ _ => (pe_call G__law_items hr__law_items (by rfl) T.m__law_items T.F__law_items.kp T.B__law_items .nil pass0 (pa_cons (pv 0) (pa_cons pe_int (pa_cons (pv 3) (pa_cons pe_int pa_nil))))))) pa_nil)))
      (pss_cons (ps_expr (pe_bm PySem.F.plainAttrs_list PySem.F.slot_list_append PySem.F.type_list_append mt_append (pv 5) (pa_cons (pe_lc (own := [("k", 6)]) (g := gName 6) (tt := tYes) rfl sc__law_sheet.nd (pi_range1 (by rfl) T.n_range (pa_cons (pv 2) pa_nil)) (blkOk_by (own := [("k", 6)]) (N := N__law_sheet) (sc := defScope s__law_sheet) (by decide +kernel)) (fun _ _ _ _ _ => pg_name (i := 6) sc__law_sheet.nd rfl (Or.inl rfl)) (fun _ _ _ _ _ => pts_nil) (fun _ _ _ _ _ => (pe_call G__law_items hr__law_items (by rfl) T.m__law_items T.F__law_items.kp T.B__law_items .nil pass0 (pa_cons (pv 0) (pa_cons pe_int (pa_cons (pv 3) (pa_cons pe_int pa_nil))))))) pa_nil)))
      (pss_cons (ps_expr (pe_bm PySem.F.plainAttrs_list PySem.F.slot_list_append PySem.F.type_list_append mt_append (pv 5) (pa_cons (pe_lc (own := [("k", 6)]) (g := gName 6) (tt := tYes) rfl sc__law_sheet.nd (pi_range1 (by rfl) T.n_range (pa_cons (pv 4) pa_nil)) (blkOk_by (own := [("k", 6)]) (N := N__law_sheet) (sc := defScope s__law_sheet) (by decide +kernel)) (fun _ _ _ _ _ => pg_name (i := 6) sc__law_sheet.nd rfl (Or.inl rfl)) (fun _ _ _ _ _ => pts_nil) (fun _ _ _ _ _ => (pe_call G__law_stage hr__law_stage (by rfl) T.m__law_stage T.F__law_stage.kp T.B__law_stage .nil pass0 (pa_cons (pv 0) (pa_cons (pv 3) (pa_cons pe_int pa_nil)))))) pa_nil)))
      (pss_one (ps_ret (pv 5))))))), ?_⟩
    refine seq_op fun N hN => ?_
    walk_at "rs"
    refine ⟨b, c, N0 + 9000, 1, 3, wz, rfl, B.le (by omega), by decide, by decide, by omega, w2, by decide, fun p1 xs1 i1 H1 B1 K1 p10 p11 t1 g1 l1 f1 => ⟨by decide, fun p0 H2 s2' q0 q1 => hN _ _ ?_⟩⟩
    clear hN N
    have q00 := Kp.bn K1 B1.at.choose_spec q0
    have pb := new_ne B q00
    have B0 := B
    replace B := B1.same s2'
    have KK : Kp b H H2 := Same.trans K1 (Kp.of s2')
    have np1 : p1 ≠ p0 := fun z => by rw [z, q0] at p11; cases p11
    have d1 : IL K (Zb b p0 H2) (.ref p1) i1 := ⟨p1, xs1, rfl, Zb_at (s2' _ _ p11) (new_ne B0 p10) np1, (t1.same s2').tk (Zb_tk B q1)⟩
    have gr := g1.gi (.inl rfl) w2 f1 (by decide) l1 (by decide)
    have grs := IG.sm f1 l1 (by decide)
    have cne : ∀ {N : Nat} {G : Hp} {D : Addr}, Bag N G b c → G D = none → c ≠ D := fun {N G D} B q e => by
      obtain ⟨xc, ec⟩ := B.at2
      rw [← e, ec] at q; cases q
    have pc : c ≠ p0 := cne B1 q0
    clear s2' q0 p10 p11 t1 f1 l1 g1
    refine seq_op fun N hN => ?_
    walk_at "rs"
    refine ⟨.inl ⟨rfl, _, SqL.of q1⟩, ?_⟩
    refine ⟨_, rfl, sz, rfl, by omega, by omega, fun D4 hD => ?_⟩
    refine lc_drawF (n := (sz).toNat) (k := 35) (N := N0 + 8500) (fun G v => ∃ l, IL K G v l ∧ Gi 400 1 wz l ∧ SmI l) (fun G G' v s ⟨l, h1, h2⟩ => ⟨l, h1.same s, h2⟩) hD (B.le (by omega)) (by omega) (fun x H4 M K4 B4 Q2 hq => ?_) fun H4 vs B4 K4 h4 lv hv => ?_
    · walk_at "rs"
      refine ⟨b, c, M, 1, 2, wz, rfl, B4.le (by omega), by decide, by decide, by omega, w2, by decide, fun p1 xs1 i1 H5 B5 K5 p10 p11 t1 g1 l1 f1 => hq (.ref p1) H5 B5 K5 ⟨i1, ⟨p1, xs1, rfl, fr_new p10 p11, t1.tk fr_tk⟩, g1.gi (.inl rfl) w2 f1 (by decide) l1 (by decide), IG.sm f1 l1 (by decide)⟩⟩
    have e4 := K4.hd q1 pb
    refine ⟨_, e4, by show 4 < sizeLine; rw [sizeLine_eq]; omega, hN _ _ ?_⟩
    clear hN N
    obtain ⟨l4, al4⟩ := Al.ex hv
    have nD : D4 ≠ p0 := fun z => by rw [z, q1] at hD; cases hD
    have nDb := new_ne B hD
    have xD : (L2.upd H2 D4 (.lst [])) p0 ≠ none := by rw [upd_ne nD.symm, q1]; exact Option.some_ne_none _
    have d2 : RL K (Zb b p0 H4) (.ref D4) l4 := ⟨D4, vs, rfl, Zb_at h4 nDb nD, al4.imp fun _ _ h => h.1.same (fr_Zb (B.upd (Ne.symm nDb) (cne B hD)) B4 xD e4)⟩
    have len4 : l4.length = (sz).toNat := by rw [← al4.len]; exact lv
    have gg4 : ∀ l ∈ l4, Gi 400 1 wz l ∧ SmI l := fun l hl => (al4.mem' hl).choose_spec.2.2
    clear al4
    replace d1 := (d1.same (Zb_kp K4)).same (hb_upd (o := .lst [.int sz, .int nz, .int wz, .ref p1, .ref D4]) pb)
    replace d2 := d2.same (hb_upd (o := .lst [.int sz, .int nz, .int wz, .ref p1, .ref D4]) pb)
    replace KK := Kp.upd2 (o := .lst [.int sz, .int nz, .int wz, .ref p1, .ref D4]) (Same.trans KK K4) q00
    replace B := B4.upd (o := .lst [.int sz, .int nz, .int wz, .ref p1, .ref D4]) pb.symm pc
    replace q1 : (L2.upd H4 p0 (.lst [.int sz, .int nz, .int wz, .ref p1, .ref D4])) p0 = some (.lst [.int sz, .int nz, .int wz, .ref p1, .ref D4]) := upd_same
    show tSeq _ _ _ _ (L2.upd H4 p0 (.lst [.int sz, .int nz, .int wz, .ref p1, .ref D4]))
    generalize L2.upd H4 p0 (.lst [.int sz, .int nz, .int wz, .ref p1, .ref D4]) = H6 at *
    clear hD nD nDb xD h4 e4 hv B4 K4 lv
    refine seq_op fun N hN => ?_
    walk_at "rs"
    refine ⟨.inl ⟨rfl, _, SqL.of q1⟩, ?_⟩
    refine ⟨_, rfl, nz, rfl, by omega, by omega, fun D5 hD => ?_⟩
    refine lc_drawF (n := (nz).toNat) (k := 35) (N := N0 + 8000) (fun G v => ∃ l, IL K G v l ∧ Gi 400 1 wz l ∧ SmI l) (fun G G' v s ⟨l, h1, h2⟩ => ⟨l, h1.same s, h2⟩) hD (B.le (by omega)) (by omega) (fun x H4 M K4 B4 Q2 hq => ?_) fun H4 vs B4 K4 h4 lv hv => ?_
    · walk_at "rs"
      refine ⟨b, c, M, 1, 2, wz, rfl, B4.le (by omega), by decide, by decide, by omega, w2, by decide, fun p1 xs1 i1 H5 B5 K5 p10 p11 t1 g1 l1 f1 => hq (.ref p1) H5 B5 K5 ⟨i1, ⟨p1, xs1, rfl, fr_new p10 p11, t1.tk fr_tk⟩, g1.gi (.inl rfl) w2 f1 (by decide) l1 (by decide), IG.sm f1 l1 (by decide)⟩⟩
    have e4 := K4.hd q1 pb
    refine ⟨_, e4, by show 5 < sizeLine; rw [sizeLine_eq]; omega, hN _ _ ?_⟩
    clear hN N
    obtain ⟨l5, al5⟩ := Al.ex hv
    have nD : D5 ≠ p0 := fun z => by rw [z, q1] at hD; cases hD
    have nDb := new_ne B hD
    have xD : (L2.upd H6 D5 (.lst [])) p0 ≠ none := by rw [upd_ne nD.symm, q1]; exact Option.some_ne_none _
    have d3 : RL K (Zb b p0 H4) (.ref D5) l5 := ⟨D5, vs, rfl, Zb_at h4 nDb nD, al5.imp fun _ _ h => h.1.same (fr_Zb (B.upd (Ne.symm nDb) (cne B hD)) B4 xD e4)⟩
    have len5 : l5.length = (nz).toNat := by rw [← al5.len]; exact lv
    have gg5 : ∀ l ∈ l5, Gi 400 1 wz l ∧ SmI l := fun l hl => (al5.mem' hl).choose_spec.2.2
    clear al5
    replace d1 := (d1.same (Zb_kp K4)).same (hb_upd (o := .lst [.int sz, .int nz, .int wz, .ref p1, .ref D4, .ref D5]) pb)
    replace d2 := (d2.same (Zb_kp K4)).same (hb_upd (o := .lst [.int sz, .int nz, .int wz, .ref p1, .ref D4, .ref D5]) pb)
    replace d3 := d3.same (hb_upd (o := .lst [.int sz, .int nz, .int wz, .ref p1, .ref D4, .ref D5]) pb)
    replace KK := Kp.upd2 (o := .lst [.int sz, .int nz, .int wz, .ref p1, .ref D4, .ref D5]) (Same.trans KK K4) q00
    replace B := B4.upd (o := .lst [.int sz, .int nz, .int wz, .ref p1, .ref D4, .ref D5]) pb.symm pc
    replace q1 : (L2.upd H4 p0 (.lst [.int sz, .int nz, .int wz, .ref p1, .ref D4, .ref D5])) p0 = some (.lst [.int sz, .int nz, .int wz, .ref p1, .ref D4, .ref D5]) := upd_same
    show tSeq _ _ _ _ (L2.upd H4 p0 (.lst [.int sz, .int nz, .int wz, .ref p1, .ref D4, .ref D5]))
    generalize L2.upd H4 p0 (.lst [.int sz, .int nz, .int wz, .ref p1, .ref D4, .ref D5]) = H7 at *
    clear hD nD nDb xD h4 e4 hv B4 K4 lv
    refine seq_op fun N hN => ?_
    walk_at "rs"
    refine ⟨.inl ⟨rfl, _, SqL.of q1⟩, ?_⟩
    refine ⟨_, rfl, yz, rfl, by omega, by omega, fun D6 hD => ?_⟩
    refine lc_drawF (n := (yz).toNat) (k := 400) (N := N0 + 0) (fun G v => ∃ l, SL K G v l ∧ Gs 400 wz l) (fun G G' v s ⟨l, h1, h2⟩ => ⟨l, h1.same s, h2⟩) hD (B.le (by omega)) (by omega) (fun x H4 M K4 B4 Q2 hq => ?_) fun H4 vs B4 K4 h4 lv hv => ?_
    · walk_at "rs"
      exact ⟨b, c, M, wz, 3, rfl, B4, w1, w2, by decide, by decide, fun v sg H5 B5 K5 h1 h2 => hq v H5 B5 K5 ⟨sg, h1, h2⟩⟩
    have e4 := K4.hd q1 pb
    refine ⟨_, e4, by show 6 < sizeLine; rw [sizeLine_eq]; omega, hN _ _ ?_⟩
    clear hN N
    obtain ⟨l6, al6⟩ := Al.ex hv
    have nD : D6 ≠ p0 := fun z => by rw [z, q1] at hD; cases hD
    have nDb := new_ne B hD
    have xD : (L2.upd H7 D6 (.lst [])) p0 ≠ none := by rw [upd_ne nD.symm, q1]; exact Option.some_ne_none _
    have d4 : StL K (Zb b p0 H4) (.ref D6) l6 := ⟨D6, vs, rfl, Zb_at h4 nDb nD, al6.imp fun _ _ h => h.1.same (fr_Zb (B.upd (Ne.symm nDb) (cne B hD)) B4 xD e4)⟩
    have len6 : l6.length = (yz).toNat := by rw [← al6.len]; exact lv
    have gg6 : ∀ l ∈ l6, Gs 400 wz l := fun l hl => (al6.mem' hl).choose_spec.2.2
    clear al6
    replace d1 := (d1.same (Zb_kp K4)).same (hb_upd (o := .lst [.int sz, .int nz, .int wz, .ref p1, .ref D4, .ref D5, .ref D6]) pb)
    replace d2 := (d2.same (Zb_kp K4)).same (hb_upd (o := .lst [.int sz, .int nz, .int wz, .ref p1, .ref D4, .ref D5, .ref D6]) pb)
    replace d3 := (d3.same (Zb_kp K4)).same (hb_upd (o := .lst [.int sz, .int nz, .int wz, .ref p1, .ref D4, .ref D5, .ref D6]) pb)
    replace d4 := d4.same (hb_upd (o := .lst [.int sz, .int nz, .int wz, .ref p1, .ref D4, .ref D5, .ref D6]) pb)
    replace KK := Kp.upd2 (o := .lst [.int sz, .int nz, .int wz, .ref p1, .ref D4, .ref D5, .ref D6]) (Same.trans KK K4) q00
    replace B := B4.upd (o := .lst [.int sz, .int nz, .int wz, .ref p1, .ref D4, .ref D5, .ref D6]) pb.symm pc
    replace q1 : (L2.upd H4 p0 (.lst [.int sz, .int nz, .int wz, .ref p1, .ref D4, .ref D5, .ref D6])) p0 = some (.lst [.int sz, .int nz, .int wz, .ref p1, .ref D4, .ref D5, .ref D6]) := upd_same
    show tRet _ _ _ (L2.upd H4 p0 (.lst [.int sz, .int nz, .int wz, .ref p1, .ref D4, .ref D5, .ref D6]))
    generalize L2.upd H4 p0 (.lst [.int sz, .int nz, .int wz, .ref p1, .ref D4, .ref D5, .ref D6]) = H8 at *
    clear hD nD nDb xD h4 e4 hv B4 K4 lv
    walk_at "rs"
    exact kq p0 ⟨sz, nz, wz, i1, l4, l5, l6⟩ H8 (B.le (by omega)) KK q00 ⟨_, _, _, _, q1, pb, d1, d2, d3, d4⟩ rfl ⟨⟨s1, s2⟩, ⟨n1, n2⟩, ⟨w1, w2⟩, gr, ⟨by show (l4.length : Int) = sz; omega, fun l hl => (gg4 l hl).1⟩, ⟨by show (l5.length : Int) = nz; omega, fun l hl => (gg5 l hl).1⟩, ⟨by show l6.length ≤ 100; omega, gg6⟩⟩ (by show l6.length ≤ 5; omega) ⟨grs, fun l hl => (gg4 l hl).2, fun l hl => (gg5 l hl).2⟩
end
end LK

set_option Elab.async false
set_option linter.all false
set_option maxRecDepth 100000
namespace LK
open PySem PySem.Spec PyProof.Rows L2
local macro_rules | `(tactic| walk_at "rs") => `(tactic| simp only [tFld, sFld, tMeth, tMethZ, tMakeK, tProp, tFmt, rEqO, rNeO, cxK, cxNK, tCallZ, tAsg, tOp, rI0, rS0, rB0, rI, rU, tUn, rEq, rNe, rIxL, rIxT, rIxS, rSetL, rSlLU, rSlS, rSlU, rCatL, rCatU, rRepL, rIn, tVar, tC, gName, gSub, tIfS, tTest, tB, tAnd, tOr, tNot, tNotV, tAndV, tOrV, tIf, tCall, tCons, tNil, tCB, tDrop, tRet, tRetN, tNext, tLstU, tTupU, tM0, tM1, tPar, tPar3, tAug, ipI, tBM, tBM0, rAppend, rPop, tBreak, sDPut, tDGet, tDGet2, tCont, tChain, tSl, tPart, tNoPart, L2.start, List.map, List.length_cons, List.length_nil, List.replicate, List.cons_append, List.nil_append, List.append_nil, List.getElem?_cons_zero, List.getElem?_cons_succ, List.set_cons_zero, List.set_cons_succ, Option.some.injEq, V.int.injEq, V.ref.injEq, V.str.injEq, V.bl.injEq, exists_eq_left', exists_eq_left, exists_and_left, decide_eq_true_eq, List.cons.injEq, and_true, true_and, scal, Bool.not_eq_true', decide_eq_false_iff_not, Nat.zero_add, Nat.reduceAdd, Nat.reduceSub, reduceCtorEq, false_and, exists_false, false_or, or_false, CPow, CPowW, CMul, CDiv, Int.reduceToNat, ↓reduceIte, wipe, sw, List.nil_append, List.singleton_append])
local macro_rules | `(tactic| walk_at "st") => `(tactic| (refine seq_op fun N hN => ?_; walk_at "rs"))
local macro_rules | `(tactic| walk_at "sd") => `(tactic| first | assumption | decide | omega)
local macro_rules | `(tactic| walk_at "rd") => `(tactic| repeat (first
  | refine ⟨_, SqL.of (by assumption), ?_⟩ | refine ⟨_, SqL.of upd_same, ?_⟩ | refine ⟨_, .inl (SqL.of (by assumption)), ?_⟩ | refine ⟨_, (by assumption : _ = some (HO.lst _)), ?_⟩ | refine ⟨_, upd_same, ?_⟩
  | refine ⟨_, rfl, ?_⟩ | refine And.intro (by walk_at "sd") ?_))

/-- over a tuple, drawn: the items stand for ys -/
theorem lc_drawT {α : Type} {K : PySem.W.Frag} {a : Addr} {xs : List V} {te tl : TE} {i k N : Nat} {σ : L2.St} {H1 : Hp} {b c : Addr} {Q : VK} (ys : List α) (Φ : Hp → V → α → Prop) (mono : ∀ G G' v x, Same G G' → Φ G v x → Φ G' v x) (hv : ∀ Q : VK, Q (.ref a) H1 → tl σ H1 Q) (hx : SqT K (LK.hb H1 b) a xs) (hB : Bag (N + xs.length * k) H1 b c) (hn : xs.length ≤ 1000000) (hl : xs.length = ys.length)
    (hs : ∀ (j : Nat) (x : V) (y : α) (H : Hp) (M : Nat), xs[j]? = some x → ys[j]? = some y → Kp b H1 H → Bag (M + k) H b c → ∀ Q2 : V → Hp → Prop, (∀ v H3, Bag M H3 b c → Kp b H H3 → Φ (fr H H3) v y → Q2 v H3) → te ((wipe σ [i]).set i (some x)) H Q2)
    (hq : ∀ D H' vs, Bag N H' b c → Kp b H1 H' → H1 D = none → H' D = some (.lst vs) → Al (Φ (fr (L2.upd H1 D (.lst [])) H')) vs ys → Q (.ref D) H') : tLc (iTup K tl) (gName i) tYes te [i] σ H1 Q := by
  refine hv _ ⟨a, rfl, ⟨xs, Same.seqT (hb_le _ _) hx⟩, fun D hD => lc_bagF (walk_tup (K := K) (a := a) (xs := xs)) (g := gName i) (te := te) (vs := [i]) (σ := σ) (D := D) (Qd := fun H => Q (.ref D) H) hD hB hn (fun j G v => ∃ y, ys[j]? = some y ∧ Φ G v y) (fun j G G' v s ⟨y, e, p⟩ => ⟨y, e, mono _ _ _ _ s p⟩) (fun H s => Same.seqT (hb_le _ _) (Same.seqT s hx)) (fun j x H H' M hj s B1 ⟨e, hx⟩ => ?_) (gm_name i) fun H' vs B s e l p => hq D H' vs B s hD e (Al.of_get (by omega) fun j v y h1 h2 => ?_)⟩
  · subst e
    have hy : ys[j]? = some (ys[j]'(by omega)) := List.getElem?_eq_getElem (by omega)
    refine ⟨Same.refl _, ?_, fun Q2 h2 => hs j x _ _ M hx hy s B1 Q2 fun v H3 B3 k3 p => h2 v H3 B3 k3 ⟨_, hy, p⟩⟩
    show ((σ.set i none).set i (some x)).set i none = σ.set i none
    rw [List.set_set, List.set_set]
  · obtain ⟨y', e', p'⟩ := p j v h1
    rw [h2] at e'
    cases e'
    exact p'
/-! ### what is handed in, and may be spoiled: lists outside of S, each container outside of what it holds -/
section
variable {K : PySem.W.Frag} {H H' X : Hp} {S : List Addr}
def IW (K : PySem.W.Frag) (H : Hp) (S : List Addr) (v : V) (l : List It) : Prop := ∃ a xs, v = .ref a ∧ Its K H xs l ∧ ((H a = some (.lst xs) ∧ a ∉ S) ∨ SqT K H a xs)
def RW (K : PySem.W.Frag) (H : Hp) (S : List Addr) (v : V) (l : List (List It)) : Prop := ∃ a xs, v = .ref a ∧ ((H a = some (.lst xs) ∧ a ∉ S ∧ Al (IW K H (a :: S)) xs l) ∨ (SqT K H a xs ∧ Al (IW K H S) xs l))
def PW (K : PySem.W.Frag) (H : Hp) (S : List Addr) (k : Bool) (v : V) (p : Pt) : Prop := ∃ a x y, v = .ref a ∧ IW K H S x p.a ∧ IV K H y p.b ∧ if k = true then SqT K H a [x, y] else ∃ u, SqT K H a [x, .ref u, y] ∧ Pr K H u p.f.1 p.f.2
def SW (K : PySem.W.Frag) (H : Hp) (S : List Addr) (v : V) (s : Sg) : Prop := ∃ t p xs, v = .ref t ∧ SqT K H t [.str (kS s.1), .ref p] ∧ ((H p = some (.lst xs) ∧ p ∉ S ∧ Al (PW K H (p :: S) s.1) xs s.2) ∨ (SqT K H p xs ∧ Al (PW K H S s.1) xs s.2))
def SsW (K : PySem.W.Frag) (H : Hp) (S : List Addr) (v : V) (l : List Sg) : Prop := ∃ a xs, v = .ref a ∧ ((H a = some (.lst xs) ∧ a ∉ S ∧ Al (SW K H (a :: S)) xs l) ∨ (SqT K H a xs ∧ Al (SW K H S) xs l))
theorem IW.same (s : Same H H') {v : V} {l : List It} : IW K H S v l → IW K H' S v l := fun ⟨a, xs, e, i, h⟩ => ⟨a, xs, e, i.same s, h.imp (fun h => ⟨s _ _ h.1, h.2⟩) (Same.seqT s)⟩
theorem RW.same (s : Same H H') {v : V} {l : List (List It)} : RW K H S v l → RW K H' S v l := fun ⟨a, xs, e, h⟩ => ⟨a, xs, e, h.imp (fun h => ⟨s _ _ h.1, h.2.1, h.2.2.imp fun _ _ => IW.same s⟩) fun h => ⟨Same.seqT s h.1, h.2.imp fun _ _ => IW.same s⟩⟩
theorem PW.same (s : Same H H') {k : Bool} {v : V} {p : Pt} : PW K H S k v p → PW K H' S k v p := fun ⟨a, x, y, e, hx, hy, h⟩ => ⟨a, x, y, e, hx.same s, hy.same s, by
  split at h
  · rename_i c; rw [if_pos c]; exact Same.seqT s h
  · rename_i c; rw [if_neg c]; obtain ⟨u, h1, h2⟩ := h; exact ⟨u, Same.seqT s h1, Same.seqT s h2⟩⟩
theorem SW.same (s : Same H H') {v : V} {g : Sg} : SW K H S v g → SW K H' S v g := fun ⟨t, p, xs, e, ht, h⟩ => ⟨t, p, xs, e, Same.seqT s ht, h.imp (fun h => ⟨s _ _ h.1, h.2.1, h.2.2.imp fun _ _ => PW.same s⟩) fun h => ⟨Same.seqT s h.1, h.2.imp fun _ _ => PW.same s⟩⟩
theorem SsW.same (s : Same H H') {v : V} {l : List Sg} : SsW K H S v l → SsW K H' S v l := fun ⟨a, xs, e, h⟩ => ⟨a, xs, e, h.imp (fun h => ⟨s _ _ h.1, h.2.1, h.2.2.imp fun _ _ => SW.same s⟩) fun h => ⟨Same.seqT s h.1, h.2.imp fun _ _ => SW.same s⟩⟩
theorem IW.iv {v : V} {l : List It} : IW K H S v l → IV K H v l := fun ⟨a, xs, e, i, h⟩ => ⟨a, xs, e, h.imp (fun h => SqL.of h.1) id, i⟩
theorem RW.rv {v : V} {l : List (List It)} : RW K H S v l → RV K H v l := fun ⟨a, xs, e, h⟩ => h.elim (fun h => ⟨a, xs, e, .inl (SqL.of h.1), h.2.2.imp fun _ _ => IW.iv⟩) fun h => ⟨a, xs, e, .inr h.1, h.2.imp fun _ _ => IW.iv⟩
theorem PW.pv {k : Bool} {v : V} {p : Pt} : PW K H S k v p → PV K H k v p := fun ⟨a, x, y, e, hx, hy, h⟩ => ⟨a, x, y, e, hx.iv, hy, h⟩
theorem SW.sv {v : V} {g : Sg} : SW K H S v g → SV K H v g := fun ⟨t, p, xs, e, ht, h⟩ => h.elim (fun h => ⟨t, p, xs, e, ht, .inl (SqL.of h.1), h.2.2.imp fun _ _ => PW.pv⟩) fun h => ⟨t, p, xs, e, ht, .inr h.1, h.2.imp fun _ _ => PW.pv⟩
theorem SsW.sv {v : V} {l : List Sg} : SsW K H S v l → SsV K H v l := fun ⟨a, xs, e, h⟩ => h.elim (fun h => ⟨a, xs, e, .inl (SqL.of h.1), h.2.2.imp fun _ _ => SW.sv⟩) fun h => ⟨a, xs, e, .inr h.1, h.2.imp fun _ _ => SW.sv⟩
/-- one list more that is not among them -/
theorem mem_cons' {a n : Addr} (h : a ∉ S) (hn : a ≠ n) : a ∉ n :: S := fun z => (List.mem_cons.mp z).elim hn h
theorem mem_swap {a n p : Addr} (h : a ∉ p :: S) (hn : a ≠ n) : a ∉ p :: n :: S := fun z => by
  rcases List.mem_cons.mp z with z | z
  · exact h (List.mem_cons.mpr (.inl z))
  · rcases List.mem_cons.mp z with z | z
    · exact hn z
    · exact h (List.mem_cons_of_mem _ z)
theorem IW.sub {S' : List Addr} {n : Addr} (hs : ∀ a xs, H a = some (.lst xs) → a ≠ n) (hS : ∀ a, a ∉ S → a ≠ n → a ∉ S') {v : V} {l : List It} : IW K H S v l → IW K H S' v l := fun ⟨a, xs, e, i, h⟩ => ⟨a, xs, e, i, h.imp (fun h => ⟨h.1, hS a h.2 (hs a xs h.1)⟩) id⟩
theorem PW.sub {S' : List Addr} {n : Addr} (hs : ∀ a xs, H a = some (.lst xs) → a ≠ n) (hS : ∀ a, a ∉ S → a ≠ n → a ∉ S') {k : Bool} {v : V} {p : Pt} : PW K H S k v p → PW K H S' k v p := fun ⟨a, x, y, e, hx, hy, h⟩ => ⟨a, x, y, e, hx.sub hs hS, hy, h⟩
theorem IW.add {n : Addr} (hs : ∀ a xs, H a = some (.lst xs) → a ≠ n) {v : V} {l : List It} (h : IW K H S v l) : IW K H (n :: S) v l := h.sub hs fun _ => mem_cons'
theorem PW.add {n : Addr} (hs : ∀ a xs, H a = some (.lst xs) → a ≠ n) {k : Bool} {v : V} {p : Pt} (h : PW K H S k v p) : PW K H (n :: S) k v p := h.sub hs fun _ => mem_cons'
theorem RW.add {n : Addr} (hs : ∀ a xs, H a = some (.lst xs) → a ≠ n) {v : V} {l : List (List It)} : RW K H S v l → RW K H (n :: S) v l := fun ⟨a, xs, e, h⟩ => ⟨a, xs, e, h.imp (fun h => ⟨h.1, mem_cons' h.2.1 (hs _ _ h.1), h.2.2.imp fun _ _ q => q.sub hs fun _ => mem_swap⟩) fun h => ⟨h.1, h.2.imp fun _ _ q => q.add hs⟩⟩
theorem SW.sub {S' : List Addr} {n : Addr} (hs : ∀ a xs, H a = some (.lst xs) → a ≠ n) (hS : ∀ a, a ∉ S → a ≠ n → a ∉ S') {v : V} {g : Sg} : SW K H S v g → SW K H S' v g := fun ⟨t, p, xs, e, ht, h⟩ => ⟨t, p, xs, e, ht, h.imp (fun h => ⟨h.1, hS _ h.2.1 (hs _ _ h.1), h.2.2.imp fun _ _ q => q.sub hs fun a ha hn z => by
  rcases List.mem_cons.mp z with z | z
  · exact ha (List.mem_cons.mpr (.inl z))
  · exact hS a (fun y => ha (List.mem_cons_of_mem _ y)) hn z⟩) fun h => ⟨h.1, h.2.imp fun _ _ q => q.sub hs hS⟩⟩
theorem SW.add {n : Addr} (hs : ∀ a xs, H a = some (.lst xs) → a ≠ n) {v : V} {g : Sg} (h : SW K H S v g) : SW K H (n :: S) v g := h.sub hs fun _ => mem_cons'
theorem SsW.add {n : Addr} (hs : ∀ a xs, H a = some (.lst xs) → a ≠ n) {v : V} {l : List Sg} : SsW K H S v l → SsW K H (n :: S) v l := fun ⟨a, xs, e, h⟩ => ⟨a, xs, e, h.imp (fun h => ⟨h.1, mem_cons' h.2.1 (hs _ _ h.1), h.2.2.imp fun _ _ q => q.sub hs fun _ => mem_swap⟩) fun h => ⟨h.1, h.2.imp fun _ _ q => q.add hs⟩⟩
theorem fr_ne {n : Addr} (h : X n ≠ none) : ∀ a xs, fr X H a = some (.lst xs) → a ≠ n := fun _ _ e z => h (z ▸ fr_lst e)
end
section
variable {P : Program} {w : World} {K : PySem.W.Frag} {mg : Str → Option Value} {base : Heap}
/-- the parts of a part: items or the fraction between -/
def PI (K : PySem.W.Frag) (G : Hp) (v : V) : Sum (List It) Fr → Prop
  | .inl l => IL K G v l
  | .inr f => ∃ u, v = .ref u ∧ Pr K G u f.1 f.2
def PO (K : PySem.W.Frag) (G : Hp) (v : V) : Sum (List It) Fr → Prop
  | .inl l => IW K G [] v l
  | .inr f => ∃ u, v = .ref u ∧ Pr K G u f.1 f.2
def pls (k : Bool) (p : Pt) : List (Sum (List It) Fr) := if k = true then [.inl p.a, .inl p.b] else [.inl p.a, .inr p.f, .inl p.b]
theorem PO.same {G G' : Hp} (s : Same G G') {v : V} : ∀ {x : Sum (List It) Fr}, PO K G v x → PO K G' v x
  | .inl _, h => IW.same s h
  | .inr _, ⟨u, e, h⟩ => ⟨u, e, Same.seqT s h⟩
theorem pl_pis {G : Hp} {k : Bool} {v : V} {p : Pt} (h : PL K G k v p) : ∃ a xs, v = .ref a ∧ SqT K G a xs ∧ Al (PI K G) xs (pls k p) := by
  obtain ⟨a, x, y, rfl, hx, hy, h⟩ := h
  unfold pls
  split at h
  · rename_i c; rw [if_pos c]; exact ⟨a, _, rfl, h, .cons hx (.cons hy .nil)⟩
  · rename_i c; rw [if_neg c]; obtain ⟨u, h1, h2⟩ := h; exact ⟨a, _, rfl, h1, .cons hx (.cons ⟨u, rfl, h2⟩ (.cons hy .nil))⟩
theorem po_pw {G : Hp} {k : Bool} {t : Addr} {xs : List V} {p : Pt} (h : SqT K G t xs) (al : Al (PO K G) xs (pls k p)) : PW K G [] k (.ref t) p := by
  unfold pls at al
  split at al
  · rename_i c
    cases al with
    | cons h1 al => cases al with
      | cons h2 al =>
        cases al
        exact ⟨t, _, _, rfl, h1, IW.iv h2, by rw [if_pos c]; exact h⟩
  · rename_i c
    cases al with
    | cons h1 al => cases al with
      | cons hu al => cases al with
        | cons h2 al =>
          cases al
          obtain ⟨u, rfl, hu⟩ := hu
          exact ⟨t, _, _, rfl, h1, IW.iv h2, by rw [if_neg c]; exact ⟨u, h, hu⟩⟩
def sp_loose (K : PySem.W.Frag) : Sp := fun vs H Q _ => ∃ (b c : Addr) (N : Nat) (v : V) (s : Sg), vs = [.ref b, v] ∧ Bag (N + 20) H b c ∧ SL K (hb H b) v s ∧ s.2.length ≤ 3 ∧ ∀ u H', Bag N H' b c → Kp b H H' → SW K (fr H H') [] u s → Q u H'
theorem ok__law_loose (T : Txt w K mg) : FnOk P w K mg base CX0 3 T.a__law_loose T.d__law_loose ["bag", "stage"] (sp_loose K) := by
  refine T.F__law_loose.ok sc__law_loose (fun vs H Q E h => ?_) (fun cdv A outer s H vs Q E hr h => ?_)
  · obtain ⟨b, c, N, v, s, rfl, _⟩ := h
    rfl
  · obtain ⟨b, c, N0, v, ⟨kb, ps⟩, rfl, B, ⟨a, p, xs, rfl, ha, hp, hx⟩, l3, kq⟩ := h
    have hr__law_either : Room 2 _ := hr
    have G__law_either := ok__law_either (P := P) (base := base) T
    refine ⟨_, (pss_cons (ps_set (i := 2) sc__law_loose.nd rfl (Or.inl rfl) (pe_lstU pa_nil))
      (pss_cons (ps_for PassesOwn.never rfl (pi_lt (pe_ix ix_tup (pv 1) pe_int (fun _ _ => rfl))) (pg_name (i := 3) sc__law_loose.nd rfl (Or.inl rfl)) (pss_cons (ps_setLc (i := 4) (own := [("part", 5)]) (g := gName 5) (tt := tYes) rfl sc__law_loose.nd rfl rfl (sw_true rfl rfl rfl (by decide +kernel)) (pi_tup (pv 3)) (blkOk_by (own := [("part", 5)]) (N := N__law_loose) (sc := defScope s__law_loose) (by decide +kernel)) (fun _ _ _ _ _ => pg_name (i := 5) sc__law_loose.nd rfl (Or.inl rfl)) (fun _ _ _ _ _ => pts_nil) (fun _ _ _ _ _ => (pe_ifExp (pt_val (pe_callB (call_isiDK (K := K) rfl) (by rfl) T.n_isinstance (by decide +kernel) (pa_cons (pv 5) (pa_cons (pe_bltn (v := .ty "list") (u := .type "list") (by rfl) T.n_list (by decide +kernel) rfl) pa_nil)))) (pe_call G__law_either hr__law_either (by rfl) T.m__law_either T.F__law_either.kp T.B__law_either .nil pass0 (pa_cons (pv 0) (pa_cons (pv 5) pa_nil))) (pv 5))))
      (pss_one (ps_expr (pe_bm PySem.F.plainAttrs_list PySem.F.slot_list_append PySem.F.type_list_append mt_append (pv 2) (pa_cons (pe_callTy call_tupleN (by rfl) T.n_tuple (by decide +kernel) (pa_cons (pv 4) pa_nil)) pa_nil))))))
      (pss_one (ps_ret (pe_tupU (pa_cons (pe_ix ix_tup (pv 1) pe_int (fun _ _ => rfl)) (pa_cons (pe_call G__law_either hr__law_either (by rfl) T.m__law_either T.F__law_either.kp T.B__law_either .nil pass0 (pa_cons (pv 0) (pa_cons (pv 2) pa_nil))) pa_nil))))))), ?_⟩
    replace ha : SqT K (hb H b) a [.str (kS kb), .ref p] := ha
    replace hx : Al (PL K (hb H b) kb) xs ps := hx
    replace l3 : ps.length ≤ 3 := l3
    have lx := hx.len
    refine seq_op fun N hN => ?_
    walk_at "rs"
    refine ⟨by decide, fun m0 H1 s1 m00 m01 => hN _ _ ?_⟩
    clear hN N
    have B1 := B.same s1
    have mb := new_ne B m00
    have mc : c ≠ m0 := fun e => by
      obtain ⟨xc, ec⟩ := B.at2
      rw [← e, ec] at m00; cases m00
    have G0 : Same (hb H b) (hb H1 b) := Kp.of s1
    refine cut_seq (fun σ H3 => ∃ (x3 x4 x5 : Option V) (vs : List V), σ = [some (.ref b), some (.ref a), some (.ref m0), x3, x4, x5] ∧ Bag (N0 + 1) H3 b c ∧ Kp b H H3 ∧ H3 m0 = some (.lst vs) ∧ (∀ a, H3 a = none → H1 a = none) ∧ Al (PW K (fr H1 H3) [] kb) vs ps) (fun N hN => ?_) ?_
    · walk_at "rs"
      have kp : (LK.hb H b) p = some (.lst xs) := hp
      obtain ⟨npb, hpH⟩ := hb_some kp
      refine for_lt (K := K) (a := p) (xs := xs) (fun Q q => ⟨_, rfl, a, _, 1, _, rfl, rfl, Same.seqT s1 (Same.seqT (hb_le _ _) ha), rfl, q⟩) (H0 := LK.hb H b) (.inl (SqL.of kp)) (fun i σ H3 => ∃ (x3 x4 x5 : Option V) (vs : List V), σ = [some (.ref b), some (.ref a), some (.ref m0), x3, x4, x5] ∧ Bag (N0 + 1 + (xs.length - i) * 6) H3 b c ∧ Kp b H H3 ∧ H3 m0 = some (.lst vs) ∧ (∀ a, H3 a = none → H1 a = none) ∧ Al (PW K (fr H1 H3) [] kb) vs (ps.take i)) ⟨_, _, _, [], rfl, B1.le (by omega), Kp.of s1, m01, fun _ h => h, .nil⟩ (fun i σ H3 ⟨_, _, _, _, _, _, K3, _⟩ => Same.trans K3 (hb_le _ _)) ?_ ?_
      · rintro i v σ H3 hi ⟨x3, x4, x5, vs, rfl, B3, K3, h3, D3, al⟩
        obtain ⟨hi1, _⟩ := List.getElem?_eq_some_iff.mp hi
        have e6 : (xs.length - i) * 6 = (xs.length - (i + 1)) * 6 + 6 := by omega
        rw [e6] at B3
        obtain ⟨pt, hpt, hv⟩ := hx.get hi
        obtain ⟨t, ts, rfl, ht, alt⟩ := pl_pis (hv.same K3)
        have lt : ts.length ≤ 3 := by
          rw [alt.len]; unfold pls; split <;> simp
        refine seq_op fun N2 hN2 => ?_
        walk_at "rs"
        refine lc_drawT (K := K) (a := t) (xs := ts) (k := 2) (N := N0 + 1 + (xs.length - (i + 1)) * 6) (pls kb pt) (PO K) (fun G G' v x s h => h.same s) (fun Q q => ⟨_, rfl, q⟩) ht (B3.le (by omega)) (by omega) alt.len (fun j x y H4 M hx1 hy1 K4 B4 Q2 hq => ?_) fun D H4 us B4 K4 hD h4 al4 => hN2 _ _ ?_
        · obtain ⟨y', hy', hxy⟩ := alt.get hx1
          rw [hy1] at hy'
          cases hy'
          walk_at "rs"
          cases y with
          | inl l =>
            obtain ⟨q, qs, rfl, hq1, iq⟩ := hxy
            obtain ⟨nqb, hq3⟩ := hb_some hq1
            have hq4 := K4.hd hq3 nqb
            have iq4 : Its K H4 qs l := (iq.same K4).same (hb_le _ _)
            refine ⟨_, "list", ⟨rfl, rfl⟩, _, .lst (SqL.of hq4) iq4.dp, by decide, iteTT rfl ⟨b, c, q, M, qs, rfl, B4.le (by omega), hq4, nqb, fun q' H5 B5 K5 sq => hq (.ref q') H5 B5 K5 ⟨q', qs, rfl, (iq4.kp B4 K5).tk fr_tk, sq.imp (fun h => ⟨h, by simp⟩) id⟩⟩⟩
          | inr f =>
            obtain ⟨u, rfl, hu⟩ := hxy
            have hu4 : Pr K H4 u f.1 f.2 := Same.seqT (hb_le _ _) (Same.seqT K4 hu)
            exact ⟨_, "list", ⟨rfl, rfl⟩, _, dF_at hu4, by decide, iteFF (by simp [dF, isTy]) (hq (.ref u) H4 (B4.le (by omega)) (Kp.refl _ _) ⟨u, rfl, seqT_tk fr_tk hu4⟩)⟩
        · walk_at "rs"
          have h34 := K4.hd h3 mb
          refine ⟨.inl ⟨rfl, _, SqL.of h34⟩, us, SqL.of h4, fun q H5 s5 q50 q51 => ⟨vs, s5 _ _ h34, Nat.lt_of_le_of_lt (show vs.length ≤ 1000 by have := al.len; rw [List.length_take] at this; omega) (by decide), _, _, _, ⟨rfl, rfl, rfl⟩, ((B4.same s5).le (by omega)).upd mb.symm mc, Kp.upd2 (Same.trans K3 (Same.trans K4 (Kp.of s5))) m00, _, upd_same, fun x hx => ?_, ?_⟩⟩
          · have n : x ≠ m0 := fun z => by rw [z, upd_same] at hx; cases hx
            rw [upd_ne n] at hx
            exact D3 x (Kp.dom K4 B4.at.choose_spec x (Same.dom s5 x hx))
          · have m1 : H1 m0 ≠ none := by rw [m01]; exact Option.some_ne_none _
            have U := fr_upd (H := H1) (o := .lst (vs ++ [.ref q])) (s5 _ _ h34) m1
            refine (al.imp fun _ _ h => (h.same (fr_kp B1 B3 (Same.trans K4 (Kp.of s5)))).same U).snoc_take hpt ?_
            have sub : Same (fr (L2.upd H3 D (.lst [])) H4) (fr H1 H5) := Same.trans (fr_anti fun x hx => D3 x (by
              have n : x ≠ D := fun z => by rw [z, upd_same] at hx; cases hx
              rwa [upd_ne n] at hx)) (fr_same s5)
            exact (po_pw (seqT_tk fr_tk (.inl (.inl q51))) (al4.imp fun _ _ h => h.same sub)).same U
      · rintro σ H3 ⟨x3, x4, x5, vs, rfl, B3, K3, h3, D3, al⟩
        rw [lx, List.take_length] at al
        exact hN _ _ ⟨_, _, _, vs, rfl, B3.le (by omega), K3, h3, D3, al⟩
    · rintro σ H3 ⟨x3, x4, x5, vs, rfl, B3, K3, h3, D3, al⟩
      walk_at "rs"
      refine ⟨_, Same.seqT (hb_le _ _) (Same.seqT K3 ha), .str (kS kb), rfl, b, c, m0, N0, vs, rfl, B3, h3, mb, fun q H4 B4 K4 sq => ⟨by decide, fun t H5 s5 t50 t51 => ?_⟩⟩
      have d0 : ∀ a, H1 a = none → H a = none := Same.dom s1
      have d3 : ∀ a, H3 a = none → H a = none := fun a h => d0 a (D3 a h)
      have sub : Same (fr H1 H3) (fr H H5) := Same.trans (fr_kp B1 B3 (Same.trans K4 (Kp.of s5))) (fr_anti d0)
      have sub2 : Same (fr H3 H4) (fr H H5) := Same.trans (fr_same s5) (fr_anti d3)
      refine kq (.ref t) H5 (B4.same s5) (Same.trans K3 (Same.trans K4 (Kp.of s5))) ⟨t, q, vs, rfl, seqT_tk fr_tk (.inl (.inl t51)), ?_⟩
      rcases sq with sq | sq
      · have h3q := fr_lst sq
        refine .inl ⟨sub2 _ _ sq, by simp, al.imp fun _ _ h => (h.add (n := q) fun x xs hx z => ?_).same sub⟩
        have := fr_le x _ hx
        rw [z, h3q] at this; cases this
      · exact .inr ⟨Same.seqT sub2 sq, al.imp fun _ _ h => h.same sub⟩
end
end LK

set_option Elab.async false
set_option linter.all false
set_option maxRecDepth 100000
namespace LK
open PySem PySem.Spec PyProof.Rows L2
local macro_rules | `(tactic| walk_at "rs") => `(tactic| simp only [tFld, sFld, tMeth, tMethZ, tMakeK, tProp, tFmt, rEqO, rNeO, cxK, cxNK, tCallZ, tAsg, tOp, rI0, rS0, rB0, rI, rU, tUn, rEq, rNe, rIxL, rIxT, rIxS, rSetL, rSlLU, rSlS, rSlU, rCatL, rCatU, rRepL, rIn, tVar, tC, gName, gSub, tIfS, tTest, tB, tAnd, tOr, tNot, tNotV, tAndV, tOrV, tIf, tCall, tCons, tNil, tCB, tDrop, tRet, tRetN, tNext, tLstU, tTupU, tM0, tM1, tPar, tPar3, tAug, ipI, tBM, tBM0, rAppend, rPop, tBreak, sDPut, tDGet, tDGet2, tCont, tChain, tSl, tPart, tNoPart, L2.start, List.map, List.length_cons, List.length_nil, List.replicate, List.cons_append, List.nil_append, List.append_nil, List.getElem?_cons_zero, List.getElem?_cons_succ, List.set_cons_zero, List.set_cons_succ, Option.some.injEq, V.int.injEq, V.ref.injEq, V.str.injEq, V.bl.injEq, exists_eq_left', exists_eq_left, exists_and_left, decide_eq_true_eq, List.cons.injEq, and_true, true_and, scal, Bool.not_eq_true', decide_eq_false_iff_not, Nat.zero_add, Nat.reduceAdd, Nat.reduceSub, reduceCtorEq, false_and, exists_false, false_or, or_false, CPow, CPowW, CMul, CDiv, Int.reduceToNat, ↓reduceIte, wipe, sw, List.nil_append, List.singleton_append])
local macro_rules | `(tactic| walk_at "st") => `(tactic| (refine seq_op fun N hN => ?_; walk_at "rs"))
local macro_rules | `(tactic| walk_at "sd") => `(tactic| first | assumption | decide | omega)
local macro_rules | `(tactic| walk_at "rd") => `(tactic| repeat (first
  | refine ⟨_, SqL.of (by assumption), ?_⟩ | refine ⟨_, SqL.of upd_same, ?_⟩ | refine ⟨_, .inl (SqL.of (by assumption)), ?_⟩ | refine ⟨_, (by assumption : _ = some (HO.lst _)), ?_⟩ | refine ⟨_, upd_same, ?_⟩
  | refine ⟨_, rfl, ?_⟩ | refine And.intro (by walk_at "sd") ?_))

/-! ### the net as it is handed in -/
section
variable {K : PySem.W.Frag} {H H' H'' X : Hp} {S : List Addr}
def HdW (K : PySem.W.Frag) (G : Hp) (h : Addr) (x : Nd) : Prop := ∃ a3 a4 a5 a6 S, G h = some (.lst [.int x.s, .int x.n, .int x.w, .ref a3, .ref a4, .ref a5, .ref a6]) ∧ IW K G [h] (.ref a3) x.rest ∧ RW K G [h] (.ref a4) x.sg ∧ RW K G [h] (.ref a5) x.pl ∧
  h ∈ S ∧ (∀ a ∈ [a3, a4, a5], a ∈ S ∨ ∃ ys, SqT K G a ys) ∧ SsW K G S (.ref a6) x.st
theorem HdW.same {h : Addr} {x : Nd} (s : Same H H') : HdW K H h x → HdW K H' h x := fun ⟨a3, a4, a5, a6, S, e, h3, h4, h5, hS, t, h6⟩ => ⟨a3, a4, a5, a6, S, s _ _ e, h3.same s, h4.same s, h5.same s, hS, fun a ha => (t a ha).imp id fun ⟨ys, q⟩ => ⟨ys, Same.seqT s q⟩, h6.same s⟩
/-- the new things without one list -/
def Wh (H : Hp) (h : Addr) (H' : Hp) : Hp := hb (fr H H') h
theorem Wh_le {h : Addr} : Same (Wh H h H') (fr H H') := hb_le _ _
theorem Wh_fr {h : Addr} (s : Same (fr H H') (fr H H'')) : Same (Wh H h H') (Wh H h H'') := hb_mono s h
theorem Wh_upd {h : Addr} {o : HO} {xs : List V} (e : H' h = some (.lst xs)) : Same (Wh H h H') (Wh H h (L2.upd H' h o)) := fun a u q => by
  obtain ⟨h1, h2⟩ := hb_some q
  show hb _ h a = _
  rw [hb_ne h1]
  have h3 := fr_le a u h2
  by_cases c : ∃ ys, u = .lst ys
  · obtain ⟨ys, rfl⟩ := c
    exact fr_new (fr_lst h2) (by rw [upd_ne h1]; exact h3)
  · exact fr_tk a u (by rw [upd_ne h1]; exact h3) fun ys z => c ⟨ys, z⟩
theorem Wh_of {h : Addr} {xs : List V} (d : ∀ a, X a = none → H a = none) (hX : X h ≠ none) (e : H' h = some (.lst xs)) : Same (fr X H') (Wh H h H') := fun a o q => by
  have n : a ≠ h := fun z => by
    subst z
    have q2 := fr_le _ _ q
    rw [e] at q2
    cases q2
    exact hX (fr_lst q)
  show hb _ h a = _
  rw [hb_ne n]
  exact fr_anti d a o q
theorem SsW.addL {v : V} {l : List Sg} : ∀ {L : List Addr}, (∀ n ∈ L, X n ≠ none) → SsW K (fr X H') S v l → SsW K (fr X H') (L ++ S) v l
  | [], _, h => h
  | n :: L, hn, h => (SsW.addL (fun m hm => hn m (List.mem_cons_of_mem _ hm)) h).add (fr_ne (hn n List.mem_cons_self))
end
theorem Wh_tk {H H' : Hp} {h : Addr} {xs : List V} (e : H' h = some (.lst xs)) : Tk H' (Wh H h H') := fun a o q n => by
  show hb _ h a = _
  rw [hb_ne fun z => ?_]
  · exact fr_tk a o q n
  · subst z; rw [e] at q; exact n xs (Option.some.inj q).symm
section
variable {P : Program} {w : World} {K : PySem.W.Frag} {mg : Str → Option Value} {base : Heap}
def sp_handed (K : PySem.W.Frag) : Sp := fun vs H Q _ => ∃ (b c : Addr) (N : Nat) (v : V) (x : Nd), vs = [.ref b, v] ∧ Bag (N + 3000) H b c ∧ ShL K (hb H b) v x ∧ Gn 3900 x ∧ ∀ h H', Bag N H' b c → Kp b H H' → H h = none → HdW K (fr H H') h x → Q (.ref h) H'
theorem ok__law_handed (T : Txt w K mg) : FnOk P w K mg base CX0 4 T.a__law_handed T.d__law_handed ["bag", "sheet"] (sp_handed K) := by
  refine T.F__law_handed.ok sc__law_handed (fun vs H Q E h => ?_) (fun cdv A outer s H vs Q E hr h => ?_)
  · obtain ⟨b, c, N, v, x, rfl, _⟩ := h
    rfl
  · obtain ⟨b, c, N0, v, x, rfl, B, ⟨a, vr, vg, vp, vt, rfl, ha, hr1, hg1, hp1, ht1⟩, g, kq⟩ := h
    have hr__law_either : Room 2 _ := hr.mono (by decide)
    have G__law_either := ok__law_either (P := P) (base := base) T
    have hr__law_loose : Room 3 _ := hr
    have G__law_loose := ok__law_loose (P := P) (base := base) T
    refine ⟨_, (pss_cons (ps_set (i := 2) sc__law_handed.nd rfl (Or.inl rfl) (pe_op op_catL (pe_slice sl_listU (pv 1) po_none (po_some pe_int)) (pe_lstU (pa_cons (pe_call G__law_either hr__law_either (by rfl) T.m__law_either T.F__law_either.kp T.B__law_either .nil pass0 (pa_cons (pv 0) (pa_cons (pe_ix ix_list (pv 1) pe_int (fun _ _ => rfl)) pa_nil))) pa_nil))))
      (pss_cons (ps_expr (pe_bm PySem.F.plainAttrs_list PySem.F.slot_list_append PySem.F.type_list_append mt_append (pv 2) (pa_cons (pe_call G__law_either hr__law_either (by rfl) T.m__law_either T.F__law_either.kp T.B__law_either .nil pass0 (pa_cons (pv 0) (pa_cons (pe_lc (own := [("one", 3)]) (g := gName 3) (tt := tYes) rfl sc__law_handed.nd (pi_list (pe_ix ix_list (pv 1) pe_int (fun _ _ => rfl))) (blkOk_by (own := [("one", 3)]) (N := N__law_handed) (sc := defScope s__law_handed) (by decide +kernel)) (fun _ _ _ _ _ => pg_name (i := 3) sc__law_handed.nd rfl (Or.inl rfl)) (fun _ _ _ _ _ => pts_nil) (fun _ _ _ _ _ => (pe_call G__law_either hr__law_either (by rfl) T.m__law_either T.F__law_either.kp T.B__law_either .nil pass0 (pa_cons (pv 0) (pa_cons (pv 3) pa_nil))))) pa_nil))) pa_nil)))
      (pss_cons (ps_expr (pe_bm PySem.F.plainAttrs_list PySem.F.slot_list_append PySem.F.type_list_append mt_append (pv 2) (pa_cons (pe_call G__law_either hr__law_either (by rfl) T.m__law_either T.F__law_either.kp T.B__law_either .nil pass0 (pa_cons (pv 0) (pa_cons (pe_lc (own := [("one", 3)]) (g := gName 3) (tt := tYes) rfl sc__law_handed.nd (pi_list (pe_ix ix_list (pv 1) pe_int (fun _ _ => rfl))) (blkOk_by (own := [("one", 3)]) (N := N__law_handed) (sc := defScope s__law_handed) (by decide +kernel)) (fun _ _ _ _ _ => pg_name (i := 3) sc__law_handed.nd rfl (Or.inl rfl)) (fun _ _ _ _ _ => pts_nil) (fun _ _ _ _ _ => (pe_call G__law_either hr__law_either (by rfl) T.m__law_either T.F__law_either.kp T.B__law_either .nil pass0 (pa_cons (pv 0) (pa_cons (pv 3) pa_nil))))) pa_nil))) pa_nil)))
      (pss_cons (ps_expr (pe_bm PySem.F.plainAttrs_list PySem.F.slot_list_append PySem.F.type_list_append mt_append (pv 2) (pa_cons (pe_call G__law_either hr__law_either (by rfl) T.m__law_either T.F__law_either.kp T.B__law_either .nil pass0 (pa_cons (pv 0) (pa_cons (pe_lc (own := [("one", 3)]) (g := gName 3) (tt := tYes) rfl sc__law_handed.nd (pi_list (pe_ix ix_list (pv 1) pe_int (fun _ _ => rfl))) (blkOk_by (own := [("one", 3)]) (N := N__law_handed) (sc := defScope s__law_handed) (by decide +kernel)) (fun _ _ _ _ _ => pg_name (i := 3) sc__law_handed.nd rfl (Or.inl rfl)) (fun _ _ _ _ _ => pts_nil) (fun _ _ _ _ _ => (pe_call G__law_loose hr__law_loose (by rfl) T.m__law_loose T.F__law_loose.kp T.B__law_loose .nil pass0 (pa_cons (pv 0) (pa_cons (pv 3) pa_nil))))) pa_nil))) pa_nil)))
      (pss_one (ps_ret (pv 2))))))), ?_⟩
    have gs := g.s
    have gn := g.n
    have gsg := g.sg.1
    have gpl := g.pl.1
    have gst := g.st.1
    obtain ⟨nab, haH⟩ := hb_some ha
    refine seq_op fun N hN => ?_
    walk_at "rs"
    refine ⟨_, SqL.of haH, fun p1 H1 s1 p10 p11 => ?_⟩
    have B1 := B.same s1
    have G1 : Same (LK.hb H b) (LK.hb H1 b) := Kp.of s1
    obtain ⟨ar, xr, rfl, har, hir⟩ := hr1
    obtain ⟨nrb, har1⟩ := hb_some (G1 _ _ har)
    have hir1 := (hir.same G1).same (hb_le _ _)
    refine ⟨_, SqL.of (s1 _ _ haH), _, rfl, b, c, ar, N0 + 2999, xr, rfl, B1.le (by omega), har1, nrb, fun a3 H2 B2 K2 sq3 => ⟨by decide, fun p2 H3 s3 p20 p21 => ?_⟩⟩
    have n1 := new_ne B p10
    have e1 : cutV [V.int x.s, .int x.n, .int x.w, .ref ar, vg, vp, vt] none (some 3) = [.int x.s, .int x.n, .int x.w] := rfl
    rw [e1] at p11
    refine ⟨_, s3 _ _ (K2.hd p11 n1), _, p21, by show 4 ≤ sizeLine; decide, fun h H4 s4 h40 h41 => hN _ _ ?_⟩
    clear hN N
    have K4 : Kp b H H4 := Same.trans (Kp.of s1) (Same.trans K2 (Kp.of (Same.trans s3 s4)))
    have B4 := (B2.same s3).same s4
    have d4 : ∀ a, H4 a = none → H a = none := Kp.dom K4 B4.at.choose_spec
    have h00 : H h = none := Same.dom s1 h (Kp.dom K2 B2.at.choose_spec h (Same.dom s3 h h40))
    have nhb := new_ne B h00
    have nhc : c ≠ h := fun e => by
      obtain ⟨xc, ec⟩ := B.at2
      rw [← e, ec] at h00; cases h00
    replace h41 : H4 h = some (.lst [.int x.s, .int x.n, .int x.w, .ref a3]) := h41
    have f3 : IW K (Wh H h H4) [h] (.ref a3) x.rest := by
      refine ⟨a3, xr, rfl, (((hir1.kp B1 K2).same s3).same s4).tk (Wh_tk h41), ?_⟩
      rcases sq3 with q | q
      · have q2 := fr_le _ _ q
        have n : a3 ≠ h := fun z => by
          have := s3 _ _ q2
          rw [z, h40] at this; cases this
        refine .inl ⟨?_, by simp [n]⟩
        show hb _ h a3 = _
        rw [hb_ne n]
        exact fr_new (Same.dom s1 _ (fr_lst q)) (s4 _ _ (s3 _ _ q2))
      · exact .inr (seqT_tk (Wh_tk h41) (Same.seqT (Same.trans s3 s4) (Same.seqT fr_le q)))
    clear s3 s4 K2 B2 sq3 hir1 har1 p11 p10 p20 p21 B1 G1 h40 s1 e1 n1
    -- the list at 4
    refine seq_op fun N hN => ?_
    walk_at "rs"
    refine ⟨.inl ⟨rfl, _, SqL.of h41⟩, ?_⟩
    obtain ⟨ag, xg, rfl, ha4, hal⟩ := hg1
    obtain ⟨nab4, haa⟩ := hb_some (K4 _ _ ha4)
    have ll := hal.len
    refine lc_drawL (K := K) (a := ag) (xs := xg) (k := 1) (N := N0 + 2900) x.sg (fun G v l => IW K G [] v l) (fun G G' v l s h => h.same s) (fun Q q => ⟨_, rfl, a, _, 4, _, rfl, rfl, SqL.of (K4.hd haH nab), rfl, q⟩) haa nab4 (B4.le (by omega)) (by omega) ll (fun j v y J M hx1 hy1 KJ BJ Q2 hq => ?_) fun D J vs BJ KJ hD hJ al => ?_
    · obtain ⟨l', hl', hv⟩ := hal.get hx1
      rw [hy1] at hl'
      cases hl'
      walk_at "rs"
      obtain ⟨q, qs, rfl, hq1, iq⟩ := hv
      obtain ⟨nqb, hq2⟩ := hb_some (Same.trans K4 KJ _ _ hq1)
      have iq2 : Its K J qs y := (iq.same (Same.trans K4 KJ)).same (hb_le _ _)
      exact ⟨b, c, q, M, qs, rfl, BJ, hq2, nqb, fun q' H5 B5 K5 sq => hq (.ref q') H5 B5 K5 ⟨q', qs, rfl, (iq2.kp BJ K5).tk fr_tk, sq.imp (fun h => ⟨h, by simp⟩) id⟩⟩
    have nDb := new_ne B4 hD
    refine ⟨b, c, D, N0 + 2899, vs, rfl, BJ.le (by omega), hJ, nDb, fun a4 L BL KL sq => ⟨_, KL.hd (KJ.hd h41 nhb) nhb, by show 4 < sizeLine; rw [sizeLine_eq]; omega, hN _ _ ?_⟩⟩
    clear hN N
    have eL := KL.hd (KJ.hd h41 nhb) nhb
    have hX : H4 h ≠ none := by rw [h41]; exact Option.some_ne_none _
    have KL4 : Kp b H4 L := Same.trans KJ KL
    have hXD : (L2.upd H4 D (.lst [])) h ≠ none := by
      have n : h ≠ D := fun z => hX (z ▸ hD)
      rw [upd_ne n]; exact hX
    have cD : c ≠ D := fun e => by
      obtain ⟨xc, ec⟩ := B4.at2
      rw [← e, ec] at hD; cases hD
    have sub : Same (fr (L2.upd H4 D (.lst [])) J) (fr H4 L) := Same.trans (fr_kp (B4.upd (Ne.symm nDb) cD) BJ KL) (fr_anti fun z hz => by
      have n : z ≠ D := fun e => by rw [e, upd_same] at hz; cases hz
      rwa [upd_ne n] at hz)
    have dJ : ∀ z, J z = none → H4 z = none := Kp.dom KJ BJ.at.choose_spec
    have f4 : RW K (fr H4 L) [] (.ref a4) x.sg := by
      refine ⟨a4, vs, rfl, ?_⟩
      rcases sq with sq | sq
      · have h3q := fr_lst sq
        refine .inl ⟨fr_anti dJ _ _ sq, by simp, al.imp fun _ _ h => (h.add (n := a4) fun z zs hz e => ?_).same sub⟩
        have := fr_le z _ hz
        rw [e, h3q] at this; cases this
      · exact .inr ⟨Same.seqT (fr_anti dJ) sq, al.imp fun _ _ h => h.same sub⟩
    replace f4 := ((f4.add (fr_ne hX)).same (Wh_of d4 hX eL)).same (Wh_upd (o := .lst [.int x.s, .int x.n, .int x.w, .ref a3, .ref a4]) eL)
    replace f3 := (f3.same (Wh_fr (fr_kp B B4 KL4))).same (Wh_upd (o := .lst [.int x.s, .int x.n, .int x.w, .ref a3, .ref a4]) eL)
    have K5 : Kp b H (L2.upd L h (.lst [.int x.s, .int x.n, .int x.w, .ref a3, .ref a4])) := Kp.upd2 (Same.trans K4 KL4) h00
    have B5 := BL.upd (o := .lst [.int x.s, .int x.n, .int x.w, .ref a3, .ref a4]) nhb.symm nhc
    have h51 : (L2.upd L h (.lst [.int x.s, .int x.n, .int x.w, .ref a3, .ref a4])) h = some (.lst [.int x.s, .int x.n, .int x.w, .ref a3, .ref a4]) := upd_same
    have d5 : ∀ z, (L2.upd L h (.lst [.int x.s, .int x.n, .int x.w, .ref a3, .ref a4])) z = none → H z = none := Kp.dom K5 B5.at.choose_spec
    show tSeq _ _ _ _ (L2.upd L h (.lst [.int x.s, .int x.n, .int x.w, .ref a3, .ref a4]))
    generalize L2.upd L h (.lst [.int x.s, .int x.n, .int x.w, .ref a3, .ref a4]) = H5 at *
    clear sub hX hXD cD dJ al sq KJ BJ hJ hD nDb KL BL eL haa
    -- the list at 5
    refine seq_op fun N hN => ?_
    walk_at "rs"
    refine ⟨.inl ⟨rfl, _, SqL.of h51⟩, ?_⟩
    obtain ⟨ap, xp, rfl, ha5, hal⟩ := hp1
    obtain ⟨nab5, haa⟩ := hb_some (K5 _ _ ha5)
    have ll := hal.len
    refine lc_drawL (K := K) (a := ap) (xs := xp) (k := 1) (N := N0 + 2800) x.pl (fun G v l => IW K G [] v l) (fun G G' v l s h => h.same s) (fun Q q => ⟨_, rfl, a, _, 5, _, rfl, rfl, SqL.of (K5.hd haH nab), rfl, q⟩) haa nab5 (B5.le (by omega)) (by omega) ll (fun j v y J M hx1 hy1 KJ BJ Q2 hq => ?_) fun D J vs BJ KJ hD hJ al => ?_
    · obtain ⟨l', hl', hv⟩ := hal.get hx1
      rw [hy1] at hl'
      cases hl'
      walk_at "rs"
      obtain ⟨q, qs, rfl, hq1, iq⟩ := hv
      obtain ⟨nqb, hq2⟩ := hb_some (Same.trans K5 KJ _ _ hq1)
      have iq2 : Its K J qs y := (iq.same (Same.trans K5 KJ)).same (hb_le _ _)
      exact ⟨b, c, q, M, qs, rfl, BJ, hq2, nqb, fun q' H5 B5 K5 sq => hq (.ref q') H5 B5 K5 ⟨q', qs, rfl, (iq2.kp BJ K5).tk fr_tk, sq.imp (fun h => ⟨h, by simp⟩) id⟩⟩
    have nDb := new_ne B5 hD
    refine ⟨b, c, D, N0 + 2799, vs, rfl, BJ.le (by omega), hJ, nDb, fun a5 L BL KL sq => ⟨_, KL.hd (KJ.hd h51 nhb) nhb, by show 5 < sizeLine; rw [sizeLine_eq]; omega, hN _ _ ?_⟩⟩
    clear hN N
    have eL := KL.hd (KJ.hd h51 nhb) nhb
    have hX : H5 h ≠ none := by rw [h51]; exact Option.some_ne_none _
    have KL4 : Kp b H5 L := Same.trans KJ KL
    have hXD : (L2.upd H5 D (.lst [])) h ≠ none := by
      have n : h ≠ D := fun z => hX (z ▸ hD)
      rw [upd_ne n]; exact hX
    have cD : c ≠ D := fun e => by
      obtain ⟨xc, ec⟩ := B5.at2
      rw [← e, ec] at hD; cases hD
    have sub : Same (fr (L2.upd H5 D (.lst [])) J) (fr H5 L) := Same.trans (fr_kp (B5.upd (Ne.symm nDb) cD) BJ KL) (fr_anti fun z hz => by
      have n : z ≠ D := fun e => by rw [e, upd_same] at hz; cases hz
      rwa [upd_ne n] at hz)
    have dJ : ∀ z, J z = none → H5 z = none := Kp.dom KJ BJ.at.choose_spec
    have f5 : RW K (fr H5 L) [] (.ref a5) x.pl := by
      refine ⟨a5, vs, rfl, ?_⟩
      rcases sq with sq | sq
      · have h3q := fr_lst sq
        refine .inl ⟨fr_anti dJ _ _ sq, by simp, al.imp fun _ _ h => (h.add (n := a5) fun z zs hz e => ?_).same sub⟩
        have := fr_le z _ hz
        rw [e, h3q] at this; cases this
      · exact .inr ⟨Same.seqT (fr_anti dJ) sq, al.imp fun _ _ h => h.same sub⟩
    replace f5 := ((f5.add (fr_ne hX)).same (Wh_of d5 hX eL)).same (Wh_upd (o := .lst [.int x.s, .int x.n, .int x.w, .ref a3, .ref a4, .ref a5]) eL)
    replace f3 := (f3.same (Wh_fr (fr_kp B B5 KL4))).same (Wh_upd (o := .lst [.int x.s, .int x.n, .int x.w, .ref a3, .ref a4, .ref a5]) eL)
    replace f4 := (f4.same (Wh_fr (fr_kp B B5 KL4))).same (Wh_upd (o := .lst [.int x.s, .int x.n, .int x.w, .ref a3, .ref a4, .ref a5]) eL)
    have K6 : Kp b H (L2.upd L h (.lst [.int x.s, .int x.n, .int x.w, .ref a3, .ref a4, .ref a5])) := Kp.upd2 (Same.trans K5 KL4) h00
    have B6 := BL.upd (o := .lst [.int x.s, .int x.n, .int x.w, .ref a3, .ref a4, .ref a5]) nhb.symm nhc
    have h61 : (L2.upd L h (.lst [.int x.s, .int x.n, .int x.w, .ref a3, .ref a4, .ref a5])) h = some (.lst [.int x.s, .int x.n, .int x.w, .ref a3, .ref a4, .ref a5]) := upd_same
    have d6 : ∀ z, (L2.upd L h (.lst [.int x.s, .int x.n, .int x.w, .ref a3, .ref a4, .ref a5])) z = none → H z = none := Kp.dom K6 B6.at.choose_spec
    show tSeq _ _ _ _ (L2.upd L h (.lst [.int x.s, .int x.n, .int x.w, .ref a3, .ref a4, .ref a5]))
    generalize L2.upd L h (.lst [.int x.s, .int x.n, .int x.w, .ref a3, .ref a4, .ref a5]) = H6 at *
    clear sub hX hXD cD dJ al sq KJ BJ hJ hD nDb KL BL eL haa
    -- the list at 6
    refine seq_op fun N hN => ?_
    walk_at "rs"
    refine ⟨.inl ⟨rfl, _, SqL.of h61⟩, ?_⟩
    obtain ⟨at6, xt, rfl, ha6, hal⟩ := ht1
    obtain ⟨nab6, haa⟩ := hb_some (K6 _ _ ha6)
    have ll := hal.len
    refine lc_drawL (K := K) (a := at6) (xs := xt) (k := 20) (N := N0 + 10) x.st (fun G v l => SW K G [] v l) (fun G G' v l s h => h.same s) (fun Q q => ⟨_, rfl, a, _, 6, _, rfl, rfl, SqL.of (K6.hd haH nab), rfl, q⟩) haa nab6 (B6.le (by omega)) (by omega) ll (fun j v y J M hx1 hy1 KJ BJ Q2 hq => ?_) fun D J vs BJ KJ hD hJ al => ?_
    · obtain ⟨l', hl', hv⟩ := hal.get hx1
      rw [hy1] at hl'
      cases hl'
      walk_at "rs"
      exact ⟨b, c, M, v, y, rfl, BJ, hv.same (Same.trans K6 KJ), (g.st.2 y (List.mem_of_getElem? hy1)).len, fun u H5 B5 K5 h1 => hq u H5 B5 K5 h1⟩
    have nDb := new_ne B6 hD
    refine ⟨b, c, D, N0 + 9, vs, rfl, BJ.le (by omega), hJ, nDb, fun a6 L BL KL sq => ⟨_, KL.hd (KJ.hd h61 nhb) nhb, by show 6 < sizeLine; rw [sizeLine_eq]; omega, hN _ _ ?_⟩⟩
    clear hN N
    have eL := KL.hd (KJ.hd h61 nhb) nhb
    have hX : H6 h ≠ none := by rw [h61]; exact Option.some_ne_none _
    have KL4 : Kp b H6 L := Same.trans KJ KL
    have hXD : (L2.upd H6 D (.lst [])) h ≠ none := by
      have n : h ≠ D := fun z => hX (z ▸ hD)
      rw [upd_ne n]; exact hX
    have cD : c ≠ D := fun e => by
      obtain ⟨xc, ec⟩ := B6.at2
      rw [← e, ec] at hD; cases hD
    have sub : Same (fr (L2.upd H6 D (.lst [])) J) (fr H6 L) := Same.trans (fr_kp (B6.upd (Ne.symm nDb) cD) BJ KL) (fr_anti fun z hz => by
      have n : z ≠ D := fun e => by rw [e, upd_same] at hz; cases hz
      rwa [upd_ne n] at hz)
    have dJ : ∀ z, J z = none → H6 z = none := Kp.dom KJ BJ.at.choose_spec
    have f6 : SsW K (fr H6 L) [] (.ref a6) x.st := by
      refine ⟨a6, vs, rfl, ?_⟩
      rcases sq with sq | sq
      · have h3q := fr_lst sq
        refine .inl ⟨fr_anti dJ _ _ sq, by simp, al.imp fun _ _ h => (h.add (n := a6) fun z zs hz e => ?_).same sub⟩
        have := fr_le z _ hz
        rw [e, h3q] at this; cases this
      · exact .inr ⟨Same.seqT (fr_anti dJ) sq, al.imp fun _ _ h => h.same sub⟩
    have KF : Kp b H (L2.upd L h (.lst [.int x.s, .int x.n, .int x.w, .ref a3, .ref a4, .ref a5, .ref a6])) := Kp.upd2 (Same.trans K6 KL4) h00
    have BF := BL.upd (o := .lst [.int x.s, .int x.n, .int x.w, .ref a3, .ref a4, .ref a5, .ref a6]) nhb.symm nhc
    have eF : (L2.upd L h (.lst [.int x.s, .int x.n, .int x.w, .ref a3, .ref a4, .ref a5, .ref a6])) h = some (.lst [.int x.s, .int x.n, .int x.w, .ref a3, .ref a4, .ref a5, .ref a6]) := upd_same
    have W1 : Same (Wh H h H6) (Wh H h (L2.upd L h (.lst [.int x.s, .int x.n, .int x.w, .ref a3, .ref a4, .ref a5, .ref a6]))) := Same.trans (Wh_fr (fr_kp B B6 KL4)) (Wh_upd eL)
    have W2 : Same (fr H6 L) (Wh H h (L2.upd L h (.lst [.int x.s, .int x.n, .int x.w, .ref a3, .ref a4, .ref a5, .ref a6]))) := Same.trans (Wh_of d6 hX eL) (Wh_upd eL)
    have pick : ∀ {z : Addr} {zs : List V}, (Wh H h H6) z = some (.lst zs) ∨ SqT K (Wh H h H6) z zs → H6 z ≠ none ∨ ∃ ys, SqT K (fr H (L2.upd L h (.lst [.int x.s, .int x.n, .int x.w, .ref a3, .ref a4, .ref a5, .ref a6]))) z ys := fun q => q.imp (fun q => by
      have := fr_le _ _ (Wh_le _ _ q)
      rw [this]; exact Option.some_ne_none _) fun q => ⟨_, Same.seqT Wh_le (Same.seqT W1 q)⟩
    have p3 : H6 a3 ≠ none ∨ ∃ ys, SqT K (fr H (L2.upd L h (.lst [.int x.s, .int x.n, .int x.w, .ref a3, .ref a4, .ref a5, .ref a6]))) a3 ys := by
      obtain ⟨z, zs, e, _, q⟩ := f3
      cases e
      exact pick (q.imp (fun q => q.1) id)
    have p4 : H6 a4 ≠ none ∨ ∃ ys, SqT K (fr H (L2.upd L h (.lst [.int x.s, .int x.n, .int x.w, .ref a3, .ref a4, .ref a5, .ref a6]))) a4 ys := by
      obtain ⟨z, zs, e, q⟩ := f4
      cases e
      exact pick (q.imp (fun q => q.1) fun q => q.1)
    have p5 : H6 a5 ≠ none ∨ ∃ ys, SqT K (fr H (L2.upd L h (.lst [.int x.s, .int x.n, .int x.w, .ref a3, .ref a4, .ref a5, .ref a6]))) a5 ys := by
      obtain ⟨z, zs, e, q⟩ := f5
      cases e
      exact pick (q.imp (fun q => q.1) fun q => q.1)
    walk_at "rs"
    refine kq h _ (BF.le (by omega)) KF h00 ?_
    classical
    refine ⟨a3, a4, a5, a6, [a3, a4, a5].filter (fun z => decide (H6 z ≠ none)) ++ [h], fr_new h00 eF, (f3.same W1).same Wh_le, (f4.same W1).same Wh_le, (f5.same W1).same Wh_le, by simp, fun z hz => ?_, ((SsW.addL (fun n hn => of_decide_eq_true (List.mem_filter.mp hn).2) (f6.add (fr_ne hX))).same W2).same Wh_le⟩
    have pz : H6 z ≠ none ∨ ∃ ys, SqT K (fr H (L2.upd L h (.lst [.int x.s, .int x.n, .int x.w, .ref a3, .ref a4, .ref a5, .ref a6]))) z ys := by
      simp only [List.mem_cons, List.not_mem_nil, or_false] at hz
      rcases hz with rfl | rfl | rfl
      · exact p3
      · exact p4
      · exact p5
    exact pz.imp (fun q => List.mem_append_left _ (List.mem_filter.mpr ⟨hz, decide_eq_true q⟩)) id
end
end LK

set_option Elab.async false
set_option linter.all false
set_option maxRecDepth 100000
namespace LK
open PySem PySem.Spec PyProof.Rows L2
local macro_rules | `(tactic| walk_at "rs") => `(tactic| simp only [tFld, sFld, tMeth, tMethZ, tMakeK, tProp, tFmt, rEqO, rNeO, cxK, cxNK, tCallZ, tAsg, tOp, rI0, rS0, rB0, rI, rU, tUn, rEq, rNe, rIxL, rIxT, rIxS, rSetL, rSlLU, rSlS, rSlU, rCatL, rCatU, rRepL, rIn, tVar, tC, gName, gSub, tIfS, tTest, tB, tAnd, tOr, tNot, tNotV, tAndV, tOrV, tIf, tCall, tCons, tNil, tCB, tDrop, tRet, tRetN, tNext, tLstU, tTupU, tM0, tM1, tPar, tPar3, tAug, ipI, tBM, tBM0, rAppend, rPop, tBreak, sDPut, tDGet, tDGet2, tCont, tChain, tSl, tPart, tNoPart, L2.start, List.map, List.length_cons, List.length_nil, List.replicate, List.cons_append, List.nil_append, List.append_nil, List.getElem?_cons_zero, List.getElem?_cons_succ, List.set_cons_zero, List.set_cons_succ, Option.some.injEq, V.int.injEq, V.ref.injEq, V.str.injEq, V.bl.injEq, exists_eq_left', exists_eq_left, exists_and_left, decide_eq_true_eq, List.cons.injEq, and_true, true_and, scal, Bool.not_eq_true', decide_eq_false_iff_not, Nat.zero_add, Nat.reduceAdd, Nat.reduceSub, reduceCtorEq, false_and, exists_false, false_or, or_false, CPow, CPowW, CMul, CDiv, Int.reduceToNat, ↓reduceIte, wipe, sw, List.nil_append, List.singleton_append])
local macro_rules | `(tactic| walk_at "st") => `(tactic| (refine seq_op fun N hN => ?_; walk_at "rs"))
local macro_rules | `(tactic| walk_at "sd") => `(tactic| first | assumption | decide | omega)
local macro_rules | `(tactic| walk_at "rd") => `(tactic| repeat (first
  | refine ⟨_, SqL.of (by assumption), ?_⟩ | refine ⟨_, SqL.of upd_same, ?_⟩ | refine ⟨_, .inl (SqL.of (by assumption)), ?_⟩ | refine ⟨_, (by assumption : _ = some (HO.lst _)), ?_⟩ | refine ⟨_, upd_same, ?_⟩
  | refine ⟨_, rfl, ?_⟩ | refine And.intro (by walk_at "sd") ?_))

theorem lc_filtLT {K : PySem.W.Frag} {a : Addr} {xs : List V} {g : TG} {tt : TT} {te tl : TE} {vs : List Nat} {σ : L2.St} {H1 : Hp} {Q : VK} (hv : ∀ Q : VK, Q (.ref a) H1 → tl σ H1 Q) (h : SqT K H1 a xs) (R : Nat → Hp → List V → Prop) (p : Nat → Bool) (hn : xs.length ≤ 1000000)
    (mono : ∀ i H H' ys, Same H H' → R i H ys → R i H' ys) (up : ∀ D i H ys zs o, H D = some (.lst zs) → R i H ys → R i (L2.upd H D o) ys) (r0 : ∀ H, R 0 H [])
    (hs : ∀ (i : Nat) (x : V) (H : Hp), xs[i]? = some x → Same H1 H → g x (wipe σ vs) H fun σ2 H2 => Same H H2 ∧ wipe σ2 vs = wipe σ vs ∧ (∀ Qt : Bool → Hp → Prop, (∀ H3, Same H2 H3 → Qt (p i) H3) → tt σ2 H2 Qt) ∧ (p i = false → ∀ H3 ys, R i H3 ys → R (i + 1) H3 ys) ∧ (p i = true → ∀ H3, Same H2 H3 → ∀ Q2 : VK, (∀ v H4, Same H3 H4 → (∀ ys, R i H4 ys → R (i + 1) H4 (ys ++ [v])) → Q2 v H4) → te σ2 H3 Q2))
    (gm : ∀ x σ0 H0 Q0 Q1, (∀ σ2 H2, Q0 σ2 H2 → Q1 σ2 H2) → g x σ0 H0 Q0 → g x σ0 H0 Q1)
    (hq : ∀ D H' ys, Same H1 H' → H1 D = none → H' D = some (.lst ys) → R xs.length H' ys → Q (.ref D) H') : tLc (iLT K tl) g tt te vs σ H1 Q :=
  show _ from Or.inr (lc_filtT hv h R p hn mono up r0 hs gm hq)
theorem rp_len {w n : Int} (ow : OkW w n) : (rpS w n).length ≤ 100 := by
  have l1 := num_len ow.1
  have l2 := num_len ow.2
  have e0 : Str.empty.length = 0 := rfl
  have e1 : (Str.ofString "Net(").length = 4 := by decide +kernel
  have e2 : (Str.ofString " columns, ").length = 10 := by decide +kernel
  have e3 : (Str.ofString " stages)").length = 8 := by decide +kernel
  unfold rpS
  simp only [str_append_len]
  omega
theorem ok_is (n : Int) (z : Str) (h : z.length ≤ 100000) : okD (.list [.int n, .str z]) = true := by
  refine okD_lst.mpr ⟨by show 2 ≤ 100000; decide, ?_⟩
  simp only [okAll, okD, decide_eq_true h, Bool.and_self]
/-- what is handed in, read -/
def HdV (K : PySem.W.Frag) (G : Hp) (h : Addr) (x : Nd) : Prop := ∃ v3 v4 v5 v6, G h = some (.lst [.int x.s, .int x.n, .int x.w, v3, v4, v5, v6]) ∧ IV K G v3 x.rest ∧ RV K G v4 x.sg ∧ RV K G v5 x.pl ∧ SsV K G v6 x.st
theorem HdW.hv {K : PySem.W.Frag} {G : Hp} {h : Addr} {x : Nd} : HdW K G h x → HdV K G h x := fun ⟨_, _, _, _, _, e, h3, h4, h5, _, _, h6⟩ => ⟨_, _, _, _, e, h3.iv, h4.rv, h5.rv, h6.sv⟩
theorem HdV.same {K : PySem.W.Frag} {G G' : Hp} {h : Addr} {x : Nd} (s : Same G G') : HdV K G h x → HdV K G' h x := fun ⟨_, _, _, _, e, h3, h4, h5, h6⟩ => ⟨_, _, _, _, s _ _ e, h3.same s, h4.same s, h5.same s, h6.same s⟩
theorem iv_len {K : PySem.W.Frag} {G : Hp} {v : V} {l : List It} (h : IV K G v l) : ∃ p xs, v = .ref p ∧ SeqI K G p xs ∧ xs.length = l.length := let ⟨p, xs, e, s, i⟩ := h; ⟨p, xs, e, s, i.len⟩
theorem ssv_len {K : PySem.W.Frag} {G : Hp} {v : V} {l : List Sg} (h : SsV K G v l) : ∃ p xs, v = .ref p ∧ SeqI K G p xs ∧ xs.length = l.length := let ⟨p, xs, e, s, i⟩ := h; ⟨p, xs, e, s, i.len⟩
section
variable {P : Program} {w : World} {K : PySem.W.Frag} {mg : Str → Option Value} {base : Heap}
def sp_net (K : PySem.W.Frag) (C : Addr) : Sp := fun vs H Q _ => ∃ (b c h : Addr) (N : Nat) (x : Nd), vs = [.ref b, .ref h] ∧ Bag (N + 3) H b c ∧ HdV K (hb H b) h x ∧ Gn 3900 x ∧ ∀ v H', Bag N H' b c → Kp b H H' → NA K H' C v (nfN x) → Q v H'
theorem ok__law_net (T : Txt w K mg) : FnOk P w K mg base CX0 11 T.a__law_net T.d__law_net ["bag", "handed"] (sp_net K T.A_Net) := by
  refine T.F__law_net.ok sc__law_net (fun vs H Q E h => ?_) (fun cdv A outer s H vs Q E hr h => ?_)
  · obtain ⟨b, c, h, N, x, rfl, _⟩ := h
    rfl
  · obtain ⟨b, c, h, N0, x, rfl, B, hv, g, kq⟩ := h
    have hr__law_draw : Room 1 _ := hr.mono (by decide)
    have G__law_draw := ok__law_draw (P := P) (base := base) T
    have hr_Net__init : Room 9 _ := hr.mono (by decide)
    have G_Net__init := ok_Net__init (P := P) (base := base) T
    refine ⟨_, (pss_cons (ps_if (PW.pt (pw_and (pt_cmpR op_eqI (pe_callB call_len_seq (by rfl) T.n_len (by decide +kernel) (pa_cons (pe_ix ix_list (pv 1) pe_int (fun _ _ => rfl)) pa_nil)) pe_int (nomark _)) (pw_and (pt_cmpR op_eqI (pe_callB call_len_seq (by rfl) T.n_len (by decide +kernel) (pa_cons (pe_ix ix_list (pv 1) pe_int (fun _ _ => rfl)) pa_nil)) pe_int (nomark _)) (pw_and1 (pt_cmpR op_eqI (pe_call G__law_draw hr__law_draw (by rfl) T.m__law_draw T.F__law_draw.kp T.B__law_draw .nil pass0 (pa_cons (pv 0) (pa_cons pe_int pa_nil))) pe_int (nomark _)))))) (pss_one (ps_ret (pe_makeK T.mk_Net G_Net__init hr_Net__init (by rfl) T.m_Net T.Z_Net__init_3_sign_rows_place_rows pass0 (pa_cons (pe_ix ix_list (pv 1) pe_int (fun _ _ => rfl)) (pa_cons (pe_ix ix_list (pv 1) pe_int (fun _ _ => rfl)) (pa_cons (pe_ix ix_list (pv 1) pe_int (fun _ _ => rfl)) pa_nil))) (pk_cons (pe_ix ix_list (pv 1) pe_int (fun _ _ => rfl)) (pk_cons (pe_ix ix_list (pv 1) pe_int (fun _ _ => rfl)) pk_nil))))) pss_nil)
      (pss_cons (ps_if (PW.pt (pw_and (pt_cmpR op_eqI (pe_callB call_len_seq (by rfl) T.n_len (by decide +kernel) (pa_cons (pe_ix ix_list (pv 1) pe_int (fun _ _ => rfl)) pa_nil)) pe_int (nomark _)) (pw_and1 (pt_cmpR op_eqI (pe_call G__law_draw hr__law_draw (by rfl) T.m__law_draw T.F__law_draw.kp T.B__law_draw .nil pass0 (pa_cons (pv 0) (pa_cons pe_int pa_nil))) pe_int (nomark _))))) (pss_one (ps_ret (pe_makeK T.mk_Net G_Net__init hr_Net__init (by rfl) T.m_Net T.Z_Net__init_3_rest_sign_rows_place_rows pass0 (pa_cons (pe_ix ix_list (pv 1) pe_int (fun _ _ => rfl)) (pa_cons (pe_ix ix_list (pv 1) pe_int (fun _ _ => rfl)) (pa_cons (pe_ix ix_list (pv 1) pe_int (fun _ _ => rfl)) pa_nil))) (pk_cons (pe_ix ix_list (pv 1) pe_int (fun _ _ => rfl)) (pk_cons (pe_ix ix_list (pv 1) pe_int (fun _ _ => rfl)) (pk_cons (pe_ix ix_list (pv 1) pe_int (fun _ _ => rfl)) pk_nil)))))) pss_nil)
      (pss_cons (ps_if (PW.pt (pw_and (pt_cmpR op_eqI (pe_callB call_len_seq (by rfl) T.n_len (by decide +kernel) (pa_cons (pe_ix ix_list (pv 1) pe_int (fun _ _ => rfl)) pa_nil)) pe_int (nomark _)) (pw_and1 (pt_cmpR op_eqI (pe_call G__law_draw hr__law_draw (by rfl) T.m__law_draw T.F__law_draw.kp T.B__law_draw .nil pass0 (pa_cons (pv 0) (pa_cons pe_int pa_nil))) pe_int (nomark _))))) (pss_one (ps_ret (pe_makeK T.mk_Net G_Net__init hr_Net__init (by rfl) T.m_Net T.Z_Net__init_3_stages_place_rows_sign_rows pass0 (pa_cons (pe_ix ix_list (pv 1) pe_int (fun _ _ => rfl)) (pa_cons (pe_ix ix_list (pv 1) pe_int (fun _ _ => rfl)) (pa_cons (pe_ix ix_list (pv 1) pe_int (fun _ _ => rfl)) pa_nil))) (pk_cons (pe_ix ix_list (pv 1) pe_int (fun _ _ => rfl)) (pk_cons (pe_ix ix_list (pv 1) pe_int (fun _ _ => rfl)) (pk_cons (pe_ix ix_list (pv 1) pe_int (fun _ _ => rfl)) pk_nil)))))) pss_nil)
      (pss_cons (ps_asg (pe_slice sl_listU (pv 1) po_none (po_some pe_int)) (pg_lst rfl (pgs_cons (pg_name (i := 2) sc__law_net.nd rfl (Or.inl rfl)) (pgs_cons (pg_name (i := 3) sc__law_net.nd rfl (Or.inl rfl)) (pgs_cons (pg_name (i := 4) sc__law_net.nd rfl (Or.inl rfl)) pgs_nil)))))
      (pss_one (ps_ret (pe_makeK0 T.mk_Net G_Net__init hr_Net__init (by rfl) T.m_Net T.Z_Net__init_0_signs_n_width_rest_sign_rows_place_rows_stages pass0 (pk_cons (pv 2) (pk_cons (pv 3) (pk_cons (pv 4) (pk_cons (pe_ix ix_list (pv 1) pe_int (fun _ _ => rfl)) (pk_cons (pe_ix ix_list (pv 1) pe_int (fun _ _ => rfl)) (pk_cons (pe_ix ix_list (pv 1) pe_int (fun _ _ => rfl)) (pk_cons (pe_ix ix_list (pv 1) pe_int (fun _ _ => rfl)) pk_nil)))))))))))))), ?_⟩
    have fin : ∀ (G : Hp), Bag N0 G b c → Kp b H G → ∀ (vr vg vp vt : V), IV K G vr x.rest → RV K G vg x.sg → RV K G vp x.pl → SsV K G vt x.st → ∀ (a dx : Addr), G a = none → G dx = none → dx ≠ a →
        sp_init K T.A_Net [.ref a, .int x.s, .int x.n, .int x.w, vr, vg, vp, vt] (L2.upd (L2.upd G dx (.own a)) a (.ins T.A_Net dx [])) (fun v H3 => v = .non ∧ Q (.ref a) H3) E0 := fun G BG KG vr vg vp vt h1 h2 h3 h4 a dx ha hd ne =>
      mk_at (Q := Q) h1 h2 h3 h4 g (fun t H' s n => kq t H' (BG.same s) (Same.trans KG (Kp.of s)) n) ha hd ne
    obtain ⟨v3, v4, v5, v6, eh, i3, i4, i5, i6⟩ := hv
    have get : ∀ {G : Hp}, Kp b H G → G h = some (.lst [.int x.s, .int x.n, .int x.w, v3, v4, v5, v6]) ∧ IV K G v3 x.rest ∧ RV K G v4 x.sg ∧ RV K G v5 x.pl ∧ SsV K G v6 x.st := fun k => by
      have s := Same.trans k (hb_le _ b)
      exact ⟨s _ _ eh, i3.same s, i4.same s, i5.same s, i6.same s⟩
    have d3 : x.rest.length = 0 → ∀ G, IV K G (.ref T.D_rest) x.rest := fun z G => by
      have e : x.rest = [] := List.length_eq_zero_iff.mp z
      rw [e]; exact ⟨_, [], rfl, .inr (T.s_rest G), .nil⟩
    have d6 : x.st.length = 0 → ∀ G, SsV K G (.ref T.D_stages) x.st := fun z G => by
      have e : x.st = [] := List.length_eq_zero_iff.mp z
      rw [e]; exact ⟨_, [], rfl, .inr (T.s_stages G), .nil⟩
    refine cut_seq (fun σ H1 => σ = [some (.ref b), some (.ref h), none, none, none] ∧ Bag (N0 + 2) H1 b c ∧ Kp b H H1) (fun N hN => ?_) ?_
    · obtain ⟨e1, j3, j4, j5, j6⟩ := get (Kp.refl b H)
      obtain ⟨p3, x3, e3, s3, l3⟩ := iv_len j3
      obtain ⟨p6, x6, e6, s6, l6⟩ := ssv_len j6
      walk_at "rs"
      refine ⟨_, SqL.of e1, v3, rfl, p3, e3, _, s3, ite2 (fun c3 => ⟨_, SqL.of e1, v6, rfl, p6, e6, _, s6, ite2 (fun c6 => ?_) (fun _ => hN _ _ ⟨rfl, B.le (by omega), Kp.refl _ _⟩)⟩) (fun _ => hN _ _ ⟨rfl, B.le (by omega), Kp.refl _ _⟩)⟩
      refine ⟨b, c, 2, N0 + 2, rfl, B, by decide, by decide, fun r H1 _ _ B1 K1 => ⟨r, rfl, ite2 (fun _ => ?_) (fun _ => hN _ _ ⟨rfl, B1, K1⟩)⟩⟩
      obtain ⟨e1, j3, j4, j5, j6⟩ := get K1
      refine ⟨_, SqL.of e1, .int x.s, rfl, _, SqL.of e1, .int x.n, rfl, _, SqL.of e1, .int x.w, rfl, _, SqL.of e1, v4, rfl, _, SqL.of e1, v5, rfl, ?_⟩
      exact fun a dx ha hd ne => fin H1 (B1.le (by omega)) K1 (.ref T.D_rest) v4 v5 (.ref T.D_stages) (d3 (by omega) H1) j4 j5 (d6 (by omega) H1) a dx ha hd ne
    rintro σ H1 ⟨rfl, B1, K1⟩
    refine cut_seq (fun σ H2 => σ = [some (.ref b), some (.ref h), none, none, none] ∧ Bag (N0 + 1) H2 b c ∧ Kp b H H2) (fun N hN => ?_) ?_
    · obtain ⟨e1, j3, j4, j5, j6⟩ := get K1
      obtain ⟨p6, x6, e6, s6, l6⟩ := ssv_len j6
      walk_at "rs"
      refine ⟨_, SqL.of e1, v6, rfl, p6, e6, _, s6, ite2 (fun c6 => ?_) (fun _ => hN _ _ ⟨rfl, B1.le (by omega), K1⟩)⟩
      refine ⟨b, c, 2, N0 + 1, rfl, B1, by decide, by decide, fun r H2 _ _ B2 K2 => ⟨r, rfl, ite2 (fun _ => ?_) (fun _ => hN _ _ ⟨rfl, B2, Same.trans K1 K2⟩)⟩⟩
      obtain ⟨e1, j3, j4, j5, j6⟩ := get (Same.trans K1 K2)
      refine ⟨_, SqL.of e1, .int x.s, rfl, _, SqL.of e1, .int x.n, rfl, _, SqL.of e1, .int x.w, rfl, _, SqL.of e1, v3, rfl, _, SqL.of e1, v4, rfl, _, SqL.of e1, v5, rfl, ?_⟩
      exact fun a dx ha hd ne => fin H2 (B2.le (by omega)) (Same.trans K1 K2) v3 v4 v5 (.ref T.D_stages) j3 j4 j5 (d6 (by omega) H2) a dx ha hd ne
    rintro σ H2 ⟨rfl, B2, K2⟩
    refine cut_seq (fun σ H3 => σ = [some (.ref b), some (.ref h), none, none, none] ∧ Bag N0 H3 b c ∧ Kp b H H3) (fun N hN => ?_) ?_
    · obtain ⟨e1, j3, j4, j5, j6⟩ := get K2
      obtain ⟨p3, x3, e3, s3, l3⟩ := iv_len j3
      walk_at "rs"
      refine ⟨_, SqL.of e1, v3, rfl, p3, e3, _, s3, ite2 (fun c3 => ?_) (fun _ => hN _ _ ⟨rfl, B2.le (by omega), K2⟩)⟩
      refine ⟨b, c, 2, N0, rfl, B2, by decide, by decide, fun r H3 _ _ B3 K3 => ⟨r, rfl, ite2 (fun _ => ?_) (fun _ => hN _ _ ⟨rfl, B3, Same.trans K2 K3⟩)⟩⟩
      obtain ⟨e1, j3, j4, j5, j6⟩ := get (Same.trans K2 K3)
      refine ⟨_, SqL.of e1, .int x.s, rfl, _, SqL.of e1, .int x.n, rfl, _, SqL.of e1, .int x.w, rfl, _, SqL.of e1, v6, rfl, _, SqL.of e1, v5, rfl, _, SqL.of e1, v4, rfl, ?_⟩
      exact fun a dx ha hd ne => fin H3 B3 (Same.trans K2 K3) (.ref T.D_rest) v4 v5 v6 (d3 (by omega) H3) j4 j5 j6 a dx ha hd ne
    rintro σ H3 ⟨rfl, B3, K3⟩
    obtain ⟨e1, j3, j4, j5, j6⟩ := get K3
    refine seq_op fun N hN => ?_
    walk_at "rs"
    refine ⟨_, SqL.of e1, fun p H4 s4 p0 p1 => ?_⟩
    refine ⟨_, _, rfl, SqL.of p1, rfl, ?_⟩
    unfold gCons gNil
    walk_at "rs"
    refine ⟨_, _, rfl, _, _, rfl, _, _, rfl, rfl, hN _ _ ?_⟩
    clear hN N
    walk_at "rs"
    have B4 := B3.same s4
    have K4 : Kp b H H4 := Same.trans K3 (Kp.of s4)
    obtain ⟨e1, j3, j4, j5, j6⟩ := get K4
    refine ⟨_, SqL.of e1, v3, rfl, _, SqL.of e1, v4, rfl, _, SqL.of e1, v5, rfl, _, SqL.of e1, v6, rfl, ?_⟩
    exact fun a dx ha hd ne => fin H4 B4 K4 v3 v4 v5 v6 j3 j4 j5 j6 a dx ha hd ne
def sp_told (K : PySem.W.Frag) (C : Addr) : Sp := fun vs H Q _ => ∃ (v u : V) (x : Nd), vs = [v, u] ∧ NA K H C v x ∧ Dp K H u (dD x) ∧ OkN x ∧ 1 ≤ x.w ∧ x.w ≤ 2000 ∧ ∀ H', Same H H' → Q (.bl true) H'
theorem ok__law_told (T : Txt w K mg) : FnOk P w K mg base CX0 12 T.a__law_told T.d__law_told ["net", "due"] (sp_told K T.A_Net) := by
  refine T.F__law_told.ok sc__law_told (fun vs H Q E h => ?_) (fun cdv A outer s H vs Q E hr h => ?_)
  · obtain ⟨v, u, x, rfl, _⟩ := h
    rfl
  · obtain ⟨v, u, x, rfl, hn, hd, ok, w1, w2, kq⟩ := h
    have hr_Net__rest_row : Room 1 _ := hr.mono (by decide)
    have G_Net__rest_row := ok_Net__rest_row (P := P) (base := base) T
    have hr_Net__sign_rows : Room 1 _ := hr.mono (by decide)
    have G_Net__sign_rows := ok_Net__sign_rows (P := P) (base := base) T
    have hr_Net__place_rows : Room 1 _ := hr.mono (by decide)
    have G_Net__place_rows := ok_Net__place_rows (P := P) (base := base) T
    have hr_Net__stages : Room 1 _ := hr.mono (by decide)
    have G_Net__stages := ok_Net__stages (P := P) (base := base) T
    have hr_Net__layers : Room 2 _ := hr.mono (by decide)
    have G_Net__layers := ok_Net__layers (P := P) (base := base) T
    have hr_repr : Room 2 _ := hr.mono (by decide)
    have G_Net__repr := ok_Net__repr (P := P) (base := base) T
    have hr__law_like : Room 9 _ := hr.mono (by decide)
    have G__law_like := ok__law_like (P := P) (base := base) T 8
    refine ⟨_, (pss_cons (ps_set (i := 2) sc__law_told.nd rfl (Or.inl rfl) (pe_lstU (pa_cons (pe_fld (pv 0) rfl) (pa_cons (pe_fld (pv 0) rfl) (pa_cons (pe_fld (pv 0) rfl) (pa_cons (pe_meth0 (pv 0) T.C_Net T.mt_Net__rest_row G_Net__rest_row hr_Net__rest_row T.B_Net__rest_row .nil pass0) (pa_cons (pe_meth0 (pv 0) T.C_Net T.mt_Net__sign_rows G_Net__sign_rows hr_Net__sign_rows T.B_Net__sign_rows .nil pass0) (pa_cons (pe_meth0 (pv 0) T.C_Net T.mt_Net__place_rows G_Net__place_rows hr_Net__place_rows T.B_Net__place_rows .nil pass0) (pa_cons (pe_meth0 (pv 0) T.C_Net T.mt_Net__stages G_Net__stages hr_Net__stages T.B_Net__stages .nil pass0) pa_nil)))))))))
      (pss_cons (ps_if (pt_not (pt_val (pe_call G__law_like hr__law_like (by rfl) T.m__law_like T.F__law_like.kp T.B__law_like .nil pass0 (pa_cons (pv 2) (pa_cons (pv 1) pa_nil))))) (pss_one (ps_ret pe_bl)) pss_nil)
      (pss_cons (ps_set (i := 3) sc__law_told.nd rfl (Or.inl rfl) (pe_callB call_len_seq (by rfl) T.n_len (by decide +kernel) (pa_cons (pe_lc (own := [("one", 4)]) (g := gName 4) (tt := _) rfl sc__law_told.nd (pi_lt (pe_ix ix_list (pv 1) pe_int (fun _ _ => rfl))) (blkOk_by (own := [("one", 4)]) (N := N__law_told) (sc := defScope s__law_told) (by decide +kernel)) (fun _ _ _ _ _ => pg_name (i := 4) sc__law_told.nd rfl (Or.inl rfl)) (fun _ _ _ _ _ => pts_one (pt_cmpR op_eqS (pe_ix (ix_tupK (K := K) rfl) (pv 4) pe_int (fun _ _ => rfl)) pe_str (nomark _))) (fun _ _ _ _ _ => (pv 4))) pa_nil)))
      (pss_one (ps_ret (pe_call G__law_like hr__law_like (by rfl) T.m__law_like T.F__law_like.kp T.B__law_like .nil pass0 (pa_cons (pe_lstU (pa_cons (pe_prop (pv 0) T.C_Net T.P_Net__layers G_Net__layers hr_Net__layers T.B_Net__layers .nil pass0 rfl) (pa_cons (pe_callB (call_reprO G_Net__repr hr_repr T.fi_repr T.ff_repr T.B_Net__repr pass0) (by rfl) T.n_repr (by decide +kernel) (pa_cons (pv 0) pa_nil)) pa_nil))) (pa_cons (pe_lstU (pa_cons (pv 3) (pa_cons (pe_joined (.cons pe_str (.cons (pe_fmt (pe_ix ix_list (pv 1) pe_int (fun _ _ => rfl))) (.cons pe_str (.cons (pe_fmt (pe_callB call_len_seq (by rfl) T.n_len (by decide +kernel) (pa_cons (pe_ix ix_list (pv 1) pe_int (fun _ _ => rfl)) pa_nil))) (.cons pe_str .nil)))))) pa_nil))) pa_nil)))))))), ?_⟩
    refine seq_op fun N hN => ?_
    walk_at "rs"
    obtain ⟨a, dx, r1, r2, r3, r4, rfl, ha, h1, h2, h3, h4⟩ := id hn
    refine ⟨a, rfl, _, _, _, ha, T.C_Net, T.na_signs, _, rfl, a, rfl, _, _, _, ha, T.C_Net, T.na_n, _, rfl, a, rfl, _, _, _, ha, T.C_Net, T.na_width, _, rfl, ?_⟩
    refine ⟨a, rfl, _, _, ha, rfl, .ref a, x, rfl, hn, fun q1 g1 => ⟨a, rfl, _, _, ha, rfl, .ref a, x, rfl, hn, fun q2 g2 => ⟨a, rfl, _, _, ha, rfl, .ref a, x, rfl, hn, fun q3 g3 => ⟨a, rfl, _, _, ha, rfl, .ref a, x, rfl, hn, fun q4 g4 => ⟨by decide, fun p H1 s1 p0 p1 => hN _ _ ?_⟩⟩⟩⟩⟩
    clear hN N
    have hd1 := dp_same s1 hd
    have hn1 := hn.same s1
    refine seq_op fun N hN => ?_
    walk_at "rs"
    refine ⟨.ref p, u, dD x, rfl, .lst (SqL.of p1) (.cons (.int _) (.cons (.int _) (.cons (.int _) (.cons (dp_same s1 g1) (.cons (dp_same s1 g2) (.cons (dp_same s1 g3) (.cons (dp_same s1 g4) .nil))))))), hd1, ok_D ok, dep_D x, fun H2 s2 => ⟨true, rfl, iteFF (by decide) (hN _ _ ?_)⟩⟩
    clear hN N
    replace hd1 := dp_same s2 hd1
    replace hn1 := hn1.same s2
    obtain ⟨da, dvs, rfl, hda, hdal⟩ : ∃ da dvs, u = .ref da ∧ SqL K H2 da dvs ∧ DpAll K H2 dvs [.int x.s, .int x.n, .int x.w, dI x.rest, dRs x.sg, dRs x.pl, dSs x.st] := by
      cases hd1 with
      | lst z1 z2 => exact ⟨_, _, rfl, z1, z2⟩
    obtain ⟨z6, hz6, hz2, hst⟩ : ∃ z6, atI dvs 6 = some z6 ∧ atI dvs 2 = some (.int x.w) ∧ Dp K H2 z6 (dSs x.st) := by
      cases hdal with | cons _ r => cases r with | cons _ r => cases r with | cons q3 r => cases r with | cons _ r => cases r with | cons _ r => cases r with | cons _ r => cases r with | cons q r => cases r; cases q3; exact ⟨_, rfl, rfl, q⟩
    obtain ⟨a4, xs4, rfl, q1, q2⟩ : ∃ a4 xs4, z6 = .ref a4 ∧ SqT K H2 a4 xs4 ∧ DpAll K H2 xs4 (x.st.map dS) := by
      cases hst with
      | tup u1 u2 => exact ⟨_, _, rfl, u1, u2⟩
    have lx := dpa_len4 q2
    rw [List.length_map] at lx
    have l100 := ok.st.1
    refine seq_op fun N hN => ?_
    walk_at "rs"
    refine lc_filtLT (K := K) (a := a4) (xs := xs4) (fun Q q => ⟨_, rfl, da, _, 6, _, rfl, rfl, hda, hz6, q⟩) q1 (fun i H ys => ys.length = nH (x.st.take i)) (fun i => (x.st.getD i (false, [])).1) (by omega) (fun _ _ _ _ _ h => h) (fun _ _ _ _ _ _ _ h => h) (fun _ => rfl) (fun i y G hy s1 => ?_) (gm_name 4) fun D H3 ys s3 _ e1 r => ?_
    · obtain ⟨d, hd1, hd2⟩ := dpa_get4 q2 hy
      rw [List.getElem?_map] at hd1
      obtain ⟨sg, hsg, rfl⟩ := Option.map_eq_some_iff.mp hd1
      have eg : x.st.getD i (false, []) = sg := by rw [List.getD_eq_getElem?_getD, hsg]; rfl
      cases dp_same s1 hd2 with
      | tup u1 u2 =>
      cases u2 with
      | cons v1 v2 =>
      cases v2 with
      | cons v2 v3 =>
      cases v3
      cases v1
      refine ⟨Same.refl _, rfl, fun Qt hQ => ?_, fun hp H3 ys r => ?_, fun hp H3 s3 Q2 h2 => ?_⟩
      · walk_at "rs"
        have e : decide (kS sg.1 = Str.ofString "heads") = (x.st.getD i (false, [])).1 := by rw [eg]; cases sg.1 <;> decide
        refine ⟨_, u1, _, rfl, _, rfl, ?_⟩
        rw [e]; exact hQ G (Same.refl _)
      · rw [nH_snoc hsg, r]
        rw [eg] at hp
        rw [hp]; rfl
      · walk_at "rs"
        refine h2 _ H3 (Same.refl _) fun ys r => ?_
        rw [nH_snoc hsg, List.length_append, r]
        rw [eg] at hp
        rw [hp]; rfl
    refine ⟨D, rfl, ys, .inl (SqL.of e1), hN _ _ ?_⟩
    clear hN N
    rw [r, lx, List.take_length]
    replace hn1 := hn1.same s3
    replace hda := s3.seq hda
    replace q1 := Same.seqT s3 q1
    walk_at "rs"
    have ha3 := s3 _ _ (s2 _ _ (s1 _ _ ha))
    have ow : OkW x.w (x.st.length : Nat) := ⟨by omega, by omega⟩
    refine ⟨_, _, ha3, x, hn1, l100, fun H4 s4 => ⟨_, _, s4 _ _ ha3, x, hn1.same s4, ow, by decide, fun p2 H5 s5 p20 p21 => rp_run ow (fun R q => ?_) (fun R q => ?_) ⟨by decide, fun p3 H6 s6 _ p31 => ?_⟩⟩⟩
    · walk_at "rs"
      refine ⟨_, (Same.trans s4 s5).seq hda, _, hz2, .inr ⟨_, rfl, ?_, q⟩⟩
      exact Nat.lt_of_lt_of_le (PySem.Flt.log2_lt_of (by decide : 0 < 34) (Nat.lt_of_lt_of_le ow.1 (by decide))) (by decide)
    · walk_at "rs"
      refine ⟨_, (Same.trans s4 s5).seq hda, _, hz6, _, rfl, _, .inr (Same.seqT (Same.trans s4 s5) q1), ?_⟩
      rw [lx]
      exact ⟨Nat.lt_of_lt_of_le (PySem.Flt.log2_lt_of (by decide : 0 < 34) (Nat.lt_of_lt_of_le ow.2 (by decide))) (by decide), q⟩
    · refine ⟨.ref p2, .ref p3, .list [.int (nH x.st : Nat), .str (rpS x.w (x.st.length : Nat))], rfl, .lst (SqL.of (s6 _ _ p21)) (.cons (.int _) (.cons (.str _) .nil)), .lst (SqL.of p31) (.cons (.int _) (.cons (.str _) .nil)), ?_, by show 1 ≤ 8; decide, fun H' s' => kq H' (Same.trans s1 (Same.trans s2 (Same.trans s3 (Same.trans s4 (Same.trans s5 (Same.trans s6 s'))))))⟩
      exact ok_is _ _ (Nat.le_trans (rp_len ow) (by decide))
end
end LK

set_option Elab.async false
set_option linter.all false
set_option maxRecDepth 100000
namespace LK
open PySem PySem.Spec PyProof.Rows L2
local macro_rules | `(tactic| walk_at "rs") => `(tactic| simp only [tFld, sFld, tMeth, tMethZ, tMakeK, tProp, tFmt, rEqO, rNeO, cxK, cxNK, tCallZ, tAsg, tOp, rI0, rS0, rB0, rI, rU, tUn, rEq, rNe, rIxL, rIxT, rIxS, rSetL, rSlLU, rSlS, rSlU, rCatL, rCatU, rRepL, rIn, tVar, tC, gName, gSub, tIfS, tTest, tB, tAnd, tOr, tNot, tNotV, tAndV, tOrV, tIf, tCall, tCons, tNil, tCB, tDrop, tRet, tRetN, tNext, tLstU, tTupU, tM0, tM1, tPar, tPar3, tAug, ipI, tBM, tBM0, rAppend, rPop, tBreak, sDPut, tDGet, tDGet2, tCont, tChain, tSl, tPart, tNoPart, L2.start, List.map, List.length_cons, List.length_nil, List.replicate, List.cons_append, List.nil_append, List.append_nil, List.getElem?_cons_zero, List.getElem?_cons_succ, List.set_cons_zero, List.set_cons_succ, Option.some.injEq, V.int.injEq, V.ref.injEq, V.str.injEq, V.bl.injEq, exists_eq_left', exists_eq_left, exists_and_left, decide_eq_true_eq, List.cons.injEq, and_true, true_and, scal, Bool.not_eq_true', decide_eq_false_iff_not, Nat.zero_add, Nat.reduceAdd, Nat.reduceSub, reduceCtorEq, false_and, exists_false, false_or, or_false, CPow, CPowW, CMul, CDiv, Int.reduceToNat, ↓reduceIte, wipe, sw, List.nil_append, List.singleton_append])
local macro_rules | `(tactic| walk_at "st") => `(tactic| (refine seq_op fun N hN => ?_; walk_at "rs"))
local macro_rules | `(tactic| walk_at "sd") => `(tactic| first | assumption | decide | omega)
local macro_rules | `(tactic| walk_at "rd") => `(tactic| repeat (first
  | refine ⟨_, SqL.of (by assumption), ?_⟩ | refine ⟨_, SqL.of upd_same, ?_⟩ | refine ⟨_, .inl (SqL.of (by assumption)), ?_⟩ | refine ⟨_, (by assumption : _ = some (HO.lst _)), ?_⟩ | refine ⟨_, upd_same, ?_⟩
  | refine ⟨_, rfl, ?_⟩ | refine And.intro (by walk_at "sd") ?_))

/-! ### what was handed in is spoiled -/
section
variable {K : PySem.W.Frag} {H0 Hb H H' : Hp} {S : List Addr} {h : Addr} {n : Nat}
def TR (K : PySem.W.Frag) (H : Hp) (y : V) : Prop := ∃ t zs, y = .ref t ∧ SqT K H t zs
def Jg (K : PySem.W.Frag) (H : Hp) (y : V) : Prop := ∃ t u, y = .ref t ∧ SqT K H t [.int 0, .ref u] ∧ TR K H (.ref u)
theorem TR.tk (t : Tk H H') {y : V} : TR K H y → TR K H' y := fun ⟨a, zs, e, q⟩ => ⟨a, zs, e, seqT_tk t q⟩
theorem Jg.tk (t : Tk H H') {y : V} : Jg K H y → Jg K H' y := fun ⟨a, u, e, q, r⟩ => ⟨a, u, e, seqT_tk t q, r.tk t⟩
theorem Jg.tr {y : V} : Jg K H y → TR K H y := fun ⟨a, _, e, q, _⟩ => ⟨a, _, e, q⟩
structure Jv (K : PySem.W.Frag) (Hb H0 : Hp) (S : List Addr) (h : Addr) (n : Nat) (H : Hp) : Prop where
  tk : Tk H0 H
  old : ∀ a xs, H0 a = some (.lst xs) → Hb a ≠ none → H a = some (.lst xs)
  ls : ∀ a xs, H0 a = some (.lst xs) → ∃ ys, H a = some (.lst ys) ∧ ys.length ≤ xs.length + n ∧ (∀ y ∈ ys, y ∈ xs ∨ TR K H y) ∧ (a ∉ S → ∀ y ∈ ys, y ∈ xs ∨ Jg K H y)
  hh : H h = H0 h
namespace Jv
theorem init (e : Hb h = none) : Jv K Hb H0 S h 0 H0 := ⟨Tk.refl, fun _ _ e _ => e, fun a xs e => ⟨xs, e, Nat.le_refl _, fun y hy => .inl hy, fun _ y hy => .inl hy⟩, rfl⟩
theorem le {m : Nat} (j : Jv K Hb H0 S h n H) (l : n ≤ m) : Jv K Hb H0 S h m H := ⟨j.tk, j.old, fun a xs e => let ⟨ys, e1, e2, e3⟩ := j.ls a xs e; ⟨ys, e1, by omega, e3⟩, j.hh⟩
theorem same (j : Jv K Hb H0 S h n H) (e : H0 h ≠ none) (s : Same H H') : Jv K Hb H0 S h n H' := by
  refine ⟨j.tk.trans (Tk.of s), fun a xs e o => s _ _ (j.old a xs e o), fun a xs e => ?_, ?_⟩
  · obtain ⟨ys, e1, e2, e3, e4⟩ := j.ls a xs e
    exact ⟨ys, s _ _ e1, e2, fun y hy => (e3 y hy).imp id (TR.tk (Tk.of s)), fun q y hy => (e4 q y hy).imp id (Jg.tk (Tk.of s))⟩
  · cases q : H0 h with
    | none => exact absurd q e
    | some o => exact s _ _ (j.hh.trans q)
theorem upd {m : Nat} {a : Addr} {xs zs : List V} (j : Jv K Hb H0 S h n H) (hm : n ≤ m) (e : H0 a = some (.lst xs)) (nb : Hb a = none) (nh : a ≠ h) (l : zs.length ≤ xs.length + m) (c1 : ∀ y ∈ zs, y ∈ xs ∨ TR K H y) (c2 : a ∉ S → ∀ y ∈ zs, y ∈ xs ∨ Jg K H y) : Jv K Hb H0 S h m (L2.upd H a (.lst zs)) := by
  obtain ⟨ys, e1, _⟩ := j.ls a xs e
  have t : Tk H (L2.upd H a (.lst zs)) := Tk.upd e1
  refine ⟨j.tk.trans t, fun a' xs' e' o => ?_, fun a' xs' e' => ?_, ?_⟩
  · have n : a' ≠ a := fun z => o (z ▸ nb)
    rw [upd_ne n]; exact j.old a' xs' e' o
  · by_cases z : a' = a
    · subst z
      rw [e] at e'
      cases e'
      exact ⟨zs, upd_same, l, fun y hy => (c1 y hy).imp id (TR.tk t), fun q y hy => (c2 q y hy).imp id (Jg.tk t)⟩
    · obtain ⟨ys', f1, f2, f3, f4⟩ := j.ls a' xs' e'
      exact ⟨ys', by rw [upd_ne z]; exact f1, by omega, fun y hy => (f3 y hy).imp id (TR.tk t), fun q y hy => (f4 q y hy).imp id (Jg.tk t)⟩
  · rw [upd_ne nh.symm]; exact j.hh
end Jv
/-- isinstance(.., list) -/
theorem isi_tup {y : V} {Q : VK} (h : TR K H y) (q : Q (.bl false) H) : rIsi K [y, .ty "list"] H Q := by
  obtain ⟨t, zs, rfl, h⟩ := h
  have ty : TyX K H (.ref t) (.type "tuple") := by
    rcases h with (h | ⟨o, h⟩) | ⟨o, its, n, h1, h2, _⟩
    · exact .base (.tup h)
    · exact .fTuple h
    · exact .kTuple h1 h2
  exact ⟨_, _, _, _, false, rfl, .ty "list", ty, kit_ty (by decide +kernel), q⟩
theorem isi_lst {a : Addr} {ys : List V} {Q : VK} (h : H a = some (.lst ys)) (q : Q (.bl true) H) : rIsi K [.ref a, .ty "list"] H Q :=
  ⟨_, _, _, _, true, rfl, .ty "list", .base (.lst h), kit_ty (by decide +kernel), q⟩
theorem isi_int {i : Int} {Q : VK} (q : Q (.bl false) H) : rIsi K [.int i, .ty "list"] H Q :=
  ⟨_, _, _, _, false, rfl, .ty "list", .base (.int i), kit_ty (by decide +kernel), q⟩
/-- what the loops find -/
def PK (K : PySem.W.Frag) (Hb H : Hp) (h a p : Addr) (y : V) : Prop := ∃ t x rest, y = .ref t ∧ SqT K H t (x :: rest) ∧ (TR K H x ∨ ∃ q qs, x = .ref q ∧ H q = some (.lst qs) ∧ Hb q = none ∧ q ≠ p ∧ q ≠ a ∧ q ≠ h)
def OK1 (K : PySem.W.Frag) (Hb H : Hp) (S : List Addr) (h a : Addr) (y : V) : Prop := ∃ t z p, y = .ref t ∧ SqT K H t [z, .ref p] ∧ (TR K H (.ref p) ∨ ∃ ps, H p = some (.lst ps) ∧ Hb p = none ∧ p ≠ a ∧ p ≠ h ∧ p ∉ S ∧ ps.length ≤ 100 ∧ ∀ y' ∈ ps, PK K Hb H h a p y')
def EK (K : PySem.W.Frag) (Hb H : Hp) (S : List Addr) (h a : Addr) (i : Nat) (y : V) : Prop := (∃ q qs, y = .ref q ∧ H q = some (.lst qs) ∧ Hb q = none ∧ q ≠ a ∧ q ≠ h ∧ qs.length ≤ 100 ∧ i ≠ 3) ∨ (TR K H y ∧ (i = 3 → OK1 K Hb H S h a y))
def PhK (K : PySem.W.Frag) (Hb H : Hp) (S : List Addr) (h : Addr) (i : Nat) (v : V) : Prop := TR K H v ∨ ∃ a xs, v = .ref a ∧ H a = some (.lst xs) ∧ Hb a = none ∧ a ≠ h ∧ xs.length ≤ 100 ∧ (i < 3 → a ∈ S) ∧ (i = 3 → a ∉ S) ∧ ∀ y ∈ xs, EK K Hb H S h a i y
theorem jg_ok1 {a : Addr} {y : V} : Jg K H y → OK1 K Hb H S h a y := fun ⟨t, u, e, q, r⟩ => ⟨t, _, u, e, q, .inl r⟩
theorem TR.of_its {xs : List V} {l : List It} (i : Its K H xs l) : ∀ y ∈ xs, TR K H y := by
  intro y hy
  induction i with
  | nil => cases hy
  | cons h1 h2 _ ih =>
    rcases List.mem_cons.mp hy with rfl | hy
    · exact ⟨_, _, rfl, h1⟩
    · exact ih hy
def csA (i : Nat) : Nat := [0, 200, 600, 1400, 3000].getD i 0
theorem csA_step {i : Nat} (h : i < 4) : csA i + (100 + csA i) + 1 ≤ csA (i + 1) ∧ csA (i + 1) ≤ 3000 := by
  rcases i with _ | _ | _ | _ | i
  · decide
  · decide
  · decide
  · decide
  · omega
end
section
variable {P : Program} {w : World} {K : PySem.W.Frag} {mg : Str → Option Value} {base : Heap}
def sp_spoil (K : PySem.W.Frag) : Sp := fun vs H Q _ => ∃ (h : Addr) (Hb : Hp) (x : Nd), vs = [.ref h] ∧ HdW K (fr Hb H) h x ∧ Gn 3900 x ∧ ∀ H', Tk H H' → (∀ a xs, H a = some (.lst xs) → Hb a ≠ none → H' a = some (.lst xs)) → Q .non H'
set_option maxHeartbeats 4000000 in
theorem ok__law_spoil (T : Txt w K mg) : FnOk P w K mg base CX0 1 T.a__law_spoil T.d__law_spoil ["handed"] (sp_spoil K) := by
  refine T.F__law_spoil.ok sc__law_spoil (fun vs H Q E h => ?_) (fun cdv A outer s H vs Q E hr h => ?_)
  · obtain ⟨h, Hb, x, rfl, _⟩ := h
    rfl
  · obtain ⟨h, Hb, x, rfl, ⟨a3, a4, a5, a6, S, eh, h3, h4, h5, hS, ht, h6⟩, g, kq⟩ := h
    refine ⟨_, (pss_one (ps_for PassesOwn.never rfl (pi_range2 (by rfl) T.n_range (pa_cons pe_int (pa_cons pe_int pa_nil))) (pg_name (i := 1) sc__law_spoil.nd rfl (Or.inl rfl)) (pss_one (ps_if (pt_val (pe_callB call_isi (by rfl) T.n_isinstance (by decide +kernel) (pa_cons (pe_ix ix_list (pv 0) (pv 1) (fun _ _ => rfl)) (pa_cons (pe_bltn (v := .ty "list") (u := .type "list") (by rfl) T.n_list (by decide +kernel) rfl) pa_nil)))) (pss_cons (ps_for PassesOwn.never rfl (pi_list (pe_ix ix_list (pv 0) (pv 1) (fun _ _ => rfl))) (pg_name (i := 2) sc__law_spoil.nd rfl (Or.inl rfl)) (pss_cons (ps_if (pt_val (pe_callB call_isi (by rfl) T.n_isinstance (by decide +kernel) (pa_cons (pv 2) (pa_cons (pe_bltn (v := .ty "list") (u := .type "list") (by rfl) T.n_list (by decide +kernel) rfl) pa_nil)))) (pss_one (ps_expr (pe_bm PySem.F.plainAttrs_list PySem.F.slot_list_append PySem.F.type_list_append mt_append (pv 2) (pa_cons (pe_tupU (pa_cons pe_int (pa_cons (pe_tupU (pa_cons pe_int (pa_cons pe_int pa_nil))) pa_nil))) pa_nil)))) pss_nil)
      (pss_one (ps_if (PW.pt (pw_and (pt_cmpR op_eqI (pv 1) pe_int (nomark _)) (pw_and1 (pt_val (pe_callB call_isi (by rfl) T.n_isinstance (by decide +kernel) (pa_cons (pe_ix ix_tup (pv 2) pe_int (fun _ _ => rfl)) (pa_cons (pe_bltn (v := .ty "list") (u := .type "list") (by rfl) T.n_list (by decide +kernel) rfl) pa_nil))))))) (pss_cons (ps_for PassesOwn.never rfl (pi_list (pe_ix ix_tup (pv 2) pe_int (fun _ _ => rfl))) (pg_name (i := 3) sc__law_spoil.nd rfl (Or.inl rfl)) (pss_one (ps_if (pt_val (pe_callB call_isi (by rfl) T.n_isinstance (by decide +kernel) (pa_cons (pe_ix ix_tup (pv 3) pe_int (fun _ _ => rfl)) (pa_cons (pe_bltn (v := .ty "list") (u := .type "list") (by rfl) T.n_list (by decide +kernel) rfl) pa_nil)))) (pss_one (ps_expr (pe_bm0 PySem.F.plainAttrs_list PySem.F.slot_list_clear PySem.F.type_list_clear mt_clear (pe_ix ix_tup (pv 3) pe_int (fun _ _ => rfl))))) pss_nil)))
      (pss_one (ps_expr (pe_bm0 PySem.F.plainAttrs_list PySem.F.slot_list_reverse PySem.F.type_list_reverse mt_reverse (pe_ix ix_tup (pv 2) pe_int (fun _ _ => rfl)))))) pss_nil))))
      (pss_cons (ps_expr (pe_bm PySem.F.plainAttrs_list PySem.F.slot_list_append PySem.F.type_list_append mt_append (pe_ix ix_list (pv 0) (pv 1) (fun _ _ => rfl)) (pa_cons (pe_tupU (pa_cons (pe_tupU (pa_cons pe_int (pa_cons (pe_tupU (pa_cons pe_int (pa_cons pe_int pa_nil))) pa_nil))) pa_nil)) pa_nil)))
      (pss_one (ps_expr (pe_bm0 PySem.F.plainAttrs_list PySem.F.slot_list_reverse PySem.F.type_list_reverse mt_reverse (pe_ix ix_list (pv 0) (pv 1) (fun _ _ => rfl))))))) pss_nil)))), ?_⟩
    walk_at "rs"
    have ph : ∀ i : Nat, i < 4 → ∃ v, atI [V.int x.s, .int x.n, .int x.w, .ref a3, .ref a4, .ref a5, .ref a6] (3 + (i : Int)) = some v ∧ PhK K Hb H S h i v := by
      have lf : ∀ {a : Addr} {xs : List V}, fr Hb H a = some (.lst xs) → H a = some (.lst xs) ∧ Hb a = none := fun e => ⟨fr_le _ _ e, fr_lst e⟩
      have tf : ∀ {a : Addr} {xs : List V}, SqT K (fr Hb H) a xs → SqT K H a xs := fun e => Same.seqT fr_le e
      have gs := g.s
      have gn := g.n
      have gsg := g.sg.1
      have gpl := g.pl.1
      have gst := g.st.1
      have tr_of : ∀ {a : Addr}, (a ∈ S ∨ ∃ ys, SqT K (fr Hb H) a ys) → a ∈ S ∨ TR K H (.ref a) := fun q => q.imp id fun ⟨ys, q⟩ => ⟨_, ys, rfl, tf q⟩
      have rows : ∀ (a : Addr) (l : List (List It)) (i : Nat), i < 3 → l.length ≤ 100 → (∀ r ∈ l, r.length ≤ 100) → RW K (fr Hb H) [h] (.ref a) l → (a ∈ S ∨ TR K H (.ref a)) → PhK K Hb H S h i (.ref a) := fun a l i hi ll lr hr ha => by
        rcases ha with ha | ha
        · obtain ⟨a', xs, e, hr⟩ := hr
          cases e
          rcases hr with ⟨e, n, al⟩ | ⟨e, _⟩
          · obtain ⟨e1, e2⟩ := lf e
            refine .inr ⟨a, xs, rfl, e1, e2, fun z => n (by simp [z]), by rw [al.len]; exact ll, fun _ => ha, fun z => by omega, fun y hy => ?_⟩
            obtain ⟨r, hr1, ⟨q, qs, rfl, iq, hq⟩⟩ := al.mem hy
            rcases hq with ⟨hq, nq⟩ | hq
            · obtain ⟨f1, f2⟩ := lf hq
              exact .inl ⟨q, qs, rfl, f1, f2, fun z => nq (by simp [z]), fun z => nq (by simp [z]), by rw [iq.len]; exact lr r hr1, by omega⟩
            · exact .inr ⟨⟨q, qs, rfl, tf hq⟩, fun z => by omega⟩
          · exact .inl ⟨a, xs, rfl, tf e⟩
        · exact .inl ha
      intro i hi
      rcases i with _ | _ | _ | _ | i
      · refine ⟨.ref a3, rfl, ?_⟩
        rcases tr_of (ht a3 (by simp)) with ha | ha
        · obtain ⟨a', xs, e, ix, hr⟩ := h3
          cases e
          rcases hr with ⟨e, n⟩ | e
          · obtain ⟨e1, e2⟩ := lf e
            exact .inr ⟨a3, xs, rfl, e1, e2, fun z => n (by simp [z]), by rw [ix.len]; have := g.rest.ft.len; omega, fun _ => ha, fun z => by omega, fun y hy => .inr ⟨TR.of_its (ix.same fr_le) y hy, fun z => by omega⟩⟩
          · exact .inl ⟨a3, xs, rfl, tf e⟩
        · exact .inl ha
      · exact ⟨.ref a4, rfl, rows a4 x.sg 1 (by omega) (by omega) (fun r hr => by have := (g.sg.2 r hr).ft.len; omega) h4 (tr_of (ht a4 (by simp)))⟩
      · exact ⟨.ref a5, rfl, rows a5 x.pl 2 (by omega) (by omega) (fun r hr => by have := (g.pl.2 r hr).ft.len; omega) h5 (tr_of (ht a5 (by simp)))⟩
      · refine ⟨.ref a6, rfl, ?_⟩
        obtain ⟨a', xs, e, hr⟩ := h6
        cases e
        rcases hr with ⟨e, n, al⟩ | ⟨e, _⟩
        · obtain ⟨e1, e2⟩ := lf e
          refine .inr ⟨a6, xs, rfl, e1, e2, fun z => n (z ▸ hS), by rw [al.len]; exact gst, fun z => by omega, fun _ => n, fun y hy => .inr ?_⟩
          obtain ⟨sg, hsg, ⟨t, p, ps, rfl, hts, hps⟩⟩ := al.mem hy
          refine ⟨⟨t, _, rfl, tf hts⟩, fun _ => ⟨t, _, p, rfl, tf hts, ?_⟩⟩
          rcases hps with ⟨e', n', al'⟩ | ⟨e', _⟩
          · obtain ⟨f1, f2⟩ := lf e'
            refine .inr ⟨ps, f1, f2, fun z => n' (by simp [z]), fun z => n' (z ▸ List.mem_cons_of_mem _ hS), fun z => n' (List.mem_cons_of_mem _ z), by rw [al'.len]; have := (g.st.2 sg hsg).len; omega, fun y' hy' => ?_⟩
            obtain ⟨pt, _, ⟨t', x1, y1, rfl, hx1, _, hk⟩⟩ := al'.mem hy'
            obtain ⟨q, qs, rfl, _, hq⟩ := hx1
            have hq' : TR K H (.ref q) ∨ ∃ q' qs, V.ref q = .ref q' ∧ H q' = some (.lst qs) ∧ Hb q' = none ∧ q' ≠ p ∧ q' ≠ a6 ∧ q' ≠ h := by
              rcases hq with ⟨hq, nq⟩ | hq
              · obtain ⟨k1, k2⟩ := lf hq
                exact .inr ⟨q, qs, rfl, k1, k2, fun z => nq (by simp [z]), fun z => nq (by simp [z]), fun z => nq (z ▸ List.mem_cons_of_mem _ (List.mem_cons_of_mem _ hS))⟩
              · exact .inl ⟨q, qs, rfl, tf hq⟩
            split at hk
            · exact ⟨t', _, _, rfl, tf hk, hq'⟩
            · obtain ⟨u, hk, _⟩ := hk
              exact ⟨t', _, _, rfl, tf hk, hq'⟩
          · exact .inl ⟨p, ps, rfl, tf e'⟩
        · exact .inl ⟨a6, xs, rfl, tf e⟩
      · omega
    have ehH : H h = some (.lst [V.int x.s, .int x.n, .int x.w, .ref a3, .ref a4, .ref a5, .ref a6]) := fr_le _ _ eh
    have hne : H h ≠ none := by rw [ehH]; exact Option.some_ne_none _
    refine ⟨3, 7, rfl, by decide, for_range (lo := 3) (n := 4) (fun i σ H1 => ∃ x2 x3 x4, σ = [some (.ref h), x2, x3, x4] ∧ Tk H H1 ∧ (∀ a xs, H a = some (.lst xs) → Hb a ≠ none → H1 a = some (.lst xs)) ∧ (i < 4 → Jv K Hb H S h (csA i) H1)) ⟨_, _, _, rfl, Tk.refl, fun _ _ e _ => e, fun _ => Jv.init (fr_lst eh)⟩ ?_ ?_⟩
    · rintro i σ H1 hi ⟨x2, x3, x4, rfl, _, _, J⟩
      replace J := J hi
      obtain ⟨v, hv, pk⟩ := ph i hi
      have eh1 := J.hh.trans ehH
      walk_at "rs"
      refine ⟨_, SqL.of eh1, v, hv, ?_⟩
      have cstep := csA_step hi
      rcases pk with tr | ⟨a, xs, rfl, ha, hba, nah, lxs, inS, notS, ek⟩
      · refine isi_tup (tr.tk J.tk) ⟨false, rfl, iteFF (by decide) ⟨_, _, _, ⟨rfl, rfl, rfl⟩, J.tk, J.old, fun _ => J.le (by omega)⟩⟩
      obtain ⟨ys, ea, la, c1, c2⟩ := J.ls a xs ha
      refine isi_lst ea ⟨true, rfl, iteTT rfl ?_⟩
      refine cut_seq (fun σ H2 => ∃ y3 y4, σ = [some (.ref h), some (.int (3 + (i : Int))), y3, y4] ∧ Jv K Hb H S h (csA i + ys.length) H2 ∧ H2 a = some (.lst ys)) (fun N hN => ?_) ?_
      · refine ⟨_, rfl, _, rfl, h, _, 3 + (i : Int), _, rfl, rfl, SqL.of eh1, hv, a, rfl, ⟨_, SqL.of ea⟩, for_list (K := K) (a := a) (xs := ys) (fun j σ H2 => ∃ y3 y4, σ = [some (.ref h), some (.int (3 + (i : Int))), y3, y4] ∧ Jv K Hb H S h (csA i + j) H2 ∧ H2 a = some (.lst ys) ∧ Tk H1 H2) ⟨_, _, rfl, J, ea, Tk.refl⟩ (fun j σ H2 _ ⟨_, _, _, _, e, _⟩ => SqL.of e) ?_ ?_⟩
        · rintro j y σ H2 hj ⟨y3, y4, rfl, J2, ea2, t12⟩
          have hj1 := (List.getElem?_eq_some_iff.mp hj).1
          have hy := List.mem_of_getElem? hj
          -- what stands there
          have el : (∃ q qs, y = .ref q ∧ H q = some (.lst qs) ∧ Hb q = none ∧ q ≠ a ∧ q ≠ h ∧ qs.length ≤ 100 ∧ i ≠ 3) ∨ (TR K H2 y ∧ (i = 3 → OK1 K Hb H S h a y ∨ Jg K H2 y)) := by
            by_cases i3 : i = 3
            · rcases c2 (notS i3) y hy with q | q
              · rcases ek y q with q | q
                · exact .inl q
                · exact .inr ⟨q.1.tk J2.tk, fun z => .inl (q.2 z)⟩
              · have q2 : Jg K H2 y := q.tk t12
                exact .inr ⟨q2.tr, fun _ => .inr q2⟩
            · rcases c1 y hy with q | q
              · rcases ek y q with q | q
                · exact .inl q
                · exact .inr ⟨q.1.tk J2.tk, fun z => absurd z i3⟩
              · exact .inr ⟨q.tk t12, fun z => absurd z i3⟩
          refine seq_op fun N2 hN2 => ?_
          walk_at "rs"
          rcases el with ⟨q, qs, rfl, hq, hbq, nqa, nqh, lq, i3⟩ | ⟨tr, o1⟩
          · obtain ⟨zs, e1, l1, c3, c4⟩ := J2.ls q qs hq
            refine isi_lst e1 ⟨true, rfl, iteTT rfl ⟨.inl ⟨rfl, _, SqL.of e1⟩, by decide, fun u H3 s3 u0 u1 => ⟨by decide, fun t H4 s4 t0 t1 => ⟨q, rfl, zs, s4 _ _ (s3 _ _ e1), ?_, hN2 _ _ ?_⟩⟩⟩⟩
            · exact Nat.lt_of_le_of_lt (show zs.length ≤ 10000 by omega) (by decide)
            clear hN2 N2
            have s34 := Same.trans s3 s4
            have J4 : Jv K Hb H S h (csA i + (j + 1)) (L2.upd H4 q (.lst (zs ++ [.ref t]))) := (J2.same hne s34).upd (m := csA i + (j + 1)) (by omega) hq hbq nqh (by rw [List.length_append, List.length_singleton]; omega) (fun z hz => by
              rcases List.mem_append.mp hz with hz | hz
              · exact (c3 z hz).imp id (TR.tk (Tk.of s34))
              · rw [List.mem_singleton.mp hz]; exact .inr ⟨t, _, rfl, .inl (.inl t1)⟩) (fun nS z hz => by
              rcases List.mem_append.mp hz with hz | hz
              · exact (c4 nS z hz).imp id (Jg.tk (Tk.of s34))
              · rw [List.mem_singleton.mp hz]; exact .inr ⟨t, u, rfl, .inl (.inl t1), u, _, rfl, .inl (.inl (s4 _ _ u1))⟩)
            have ea4 : (L2.upd H4 q (.lst (zs ++ [.ref t]))) a = some (.lst ys) := by rw [upd_ne nqa.symm]; exact s34 _ _ ea2
            have t15 : Tk H1 (L2.upd H4 q (.lst (zs ++ [.ref t]))) := t12.trans ((Tk.of s34).trans (Tk.upd (s34 _ _ e1)))
            generalize L2.upd H4 q (.lst (zs ++ [.ref t])) = H5 at *
            walk_at "rs"
            exact iteFF (by omega) ⟨_, _, ⟨rfl, rfl⟩, J4, ea4, t15⟩
          · refine isi_tup tr ⟨false, rfl, iteFF (by decide) (hN2 _ _ ?_)⟩
            clear hN2 N2
            walk_at "rs"
            refine ite2 (fun c => ?_) (fun _ => ⟨_, _, ⟨rfl, rfl⟩, J2.le (by omega), ea2, t12⟩)
            obtain rfl : i = 3 := by omega
            rcases o1 rfl with ⟨t, z, p, rfl, ht, hp⟩ | ⟨t, u, rfl, ht, hu⟩
            · refine ⟨t, rfl, _, seqT_tk J2.tk ht, .ref p, rfl, ?_⟩
              rcases hp with hp | ⟨ps, hp, hbp, npa, nph, npS, lps, hpk⟩
              · exact isi_tup (hp.tk J2.tk) ⟨false, rfl, iteFF (by decide) ⟨_, _, ⟨rfl, rfl⟩, J2.le (by omega), ea2, t12⟩⟩
              · obtain ⟨pz, e1, l1, c3, c4⟩ := J2.ls p ps hp
                refine isi_lst e1 ⟨true, rfl, iteTT rfl ?_⟩
                refine cut_seq (fun σ H3 => ∃ y4, σ = [some (.ref h), some (.int (3 + ((3 : Nat) : Int))), some (.ref t), y4] ∧ Jv K Hb H S h (csA 3 + j) H3 ∧ H3 a = some (.lst ys) ∧ H3 p = some (.lst pz) ∧ Tk H2 H3) (fun N hN => ?_) ?_
                · refine ⟨_, rfl, t, _, 1, _, rfl, rfl, seqT_tk J2.tk ht, rfl, p, rfl, ⟨_, SqL.of e1⟩, for_list (K := K) (a := p) (xs := pz) (fun k σ H3 => ∃ y4, σ = [some (.ref h), some (.int (3 + ((3 : Nat) : Int))), some (.ref t), y4] ∧ Jv K Hb H S h (csA 3 + j) H3 ∧ H3 a = some (.lst ys) ∧ H3 p = some (.lst pz) ∧ Tk H2 H3) ⟨_, rfl, J2, ea2, e1, Tk.refl⟩ (fun k σ H3 _ ⟨_, _, _, _, e, _⟩ => SqL.of e) ?_ ?_⟩
                  · rintro k y' σ H3 hk ⟨y4', rfl, J3, ea3, ep3, t23⟩
                    have hy' := List.mem_of_getElem? hk
                    have el' : PK K Hb H h a p y' ∨ Jg K H3 y' := (c4 npS y' hy').imp (hpk y') (Jg.tk t23)
                    walk_at "rs"
                    rcases el' with ⟨t', x', rest, rfl, ht', hx'⟩ | ⟨t', u', rfl, ht', _⟩
                    · refine ⟨t', rfl, _, seqT_tk J3.tk ht', x', at_ofN (j := 0) rfl rfl, ?_⟩
                      rcases hx' with tr' | ⟨q, qs, rfl, hq, hbq, nqp, nqa, nqh⟩
                      · exact isi_tup (tr'.tk J3.tk) ⟨false, rfl, iteFF (by decide) ⟨J3, ea3, ep3, t23⟩⟩
                      · obtain ⟨zs, e2, _⟩ := J3.ls q qs hq
                        refine isi_lst e2 ⟨true, rfl, iteTT rfl ⟨t', rfl, _, seqT_tk J3.tk ht', .ref q, at_ofN (j := 0) rfl rfl, .inl ⟨rfl, _, SqL.of e2⟩, q, _, rfl, rfl, e2, ?_⟩⟩
                        refine ⟨J3.upd (Nat.le_refl _) hq hbq nqh (Nat.zero_le _) (fun _ z => absurd z (by simp)) (fun _ _ z => absurd z (by simp)), ?_, ?_, t23.trans (Tk.upd e2)⟩
                        · rw [upd_ne nqa.symm]; exact ea3
                        · rw [upd_ne nqp.symm]; exact ep3
                    · exact ⟨t', rfl, _, ht', _, rfl, isi_int ⟨false, rfl, iteFF (by decide) ⟨J3, ea3, ep3, t23⟩⟩⟩
                  · rintro σ H3 ⟨y4', rfl, J3, ea3, ep3, t23⟩
                    exact hN _ _ ⟨_, rfl, J3, ea3, ep3, t23⟩
                · rintro σ H3 ⟨y4', rfl, J3, ea3, ep3, t23⟩
                  walk_at "rs"
                  obtain ⟨pz', e3, l3, c5, c6⟩ := J3.ls p ps hp
                  rw [ep3] at e3
                  cases e3
                  refine ⟨_, seqT_tk J3.tk ht, .ref p, rfl, .inl ⟨rfl, _, SqL.of ep3⟩, p, _, rfl, rfl, ep3, ?_⟩
                  refine ⟨_, _, ⟨rfl, rfl⟩, J3.upd (m := csA 3 + (j + 1)) (by omega) hp hbp nph (by rw [List.length_reverse]; omega) (fun z hz => c5 z (List.mem_reverse.mp hz)) (fun nS z hz => c6 nS z (List.mem_reverse.mp hz)), ?_, t12.trans (t23.trans (Tk.upd ep3))⟩
                  rw [upd_ne npa.symm]; exact ea3
            · obtain ⟨v', vs', e', hu'⟩ := hu
              exact ⟨t, rfl, _, ht, .ref u, rfl, isi_tup ⟨v', vs', e', hu'⟩ ⟨false, rfl, iteFF (by decide) ⟨_, _, ⟨rfl, rfl⟩, J2.le (by omega), ea2, t12⟩⟩⟩
        · rintro σ H2 ⟨y3, y4, rfl, J2, ea2, _⟩
          exact hN _ _ ⟨_, _, rfl, J2, ea2⟩
      · rintro σ H2 ⟨y3, y4, rfl, J2, ea2⟩
        refine seq_op fun N2 hN2 => ?_
        walk_at "rs"
        have eh2 := J2.hh.trans ehH
        refine ⟨_, SqL.of eh2, _, hv, .inl ⟨rfl, _, SqL.of ea2⟩, by decide, fun u H3 s3 u0 u1 => ⟨by decide, fun u2 H4 s4 u20 u21 => ⟨by decide, fun t H5 s5 t0 t1 => ⟨a, rfl, ys, s5 _ _ (s4 _ _ (s3 _ _ ea2)), ?_, hN2 _ _ ?_⟩⟩⟩⟩
        · exact Nat.lt_of_le_of_lt (show ys.length ≤ 10000 by omega) (by decide)
        clear hN2 N2
        have s35 := Same.trans s3 (Same.trans s4 s5)
        have e5 := s35 _ _ ea2
        have tt : TR K H5 (.ref t) := ⟨t, _, rfl, .inl (.inl t1)⟩
        have J5 := J2.same hne s35
        obtain ⟨ys', e6, l6, c5, c6⟩ := J5.ls a xs ha
        rw [e5] at e6
        cases e6
        have tq : Tk H (L2.upd H5 a (.lst (ys ++ [.ref t]))) := J5.tk.trans (Tk.upd e5)
        have oq : ∀ a' xs', H a' = some (.lst xs') → Hb a' ≠ none → (L2.upd H5 a (.lst (ys ++ [.ref t]))) a' = some (.lst xs') := fun a' xs' e' o' => by
          have n : a' ≠ a := fun z => o' (z ▸ hba)
          rw [upd_ne n]; exact J5.old a' xs' e' o'
        have ef : (L2.upd H5 a (.lst (ys ++ [.ref t]))) a = some (.lst (ys ++ [.ref t])) := upd_same
        have hf : (L2.upd H5 a (.lst (ys ++ [.ref t]))) h = H h := by rw [upd_ne nah.symm]; exact J5.hh
        have Jf : i < 3 → Jv K Hb H S h (csA (i + 1)) (L2.upd H5 a (.lst (ys ++ [.ref t]))) := fun i3 => J5.upd (by omega) ha hba nah (by rw [List.length_append, List.length_singleton]; omega) (fun z hz => by
          rcases List.mem_append.mp hz with hz | hz
          · exact c5 z hz
          · rw [List.mem_singleton.mp hz]; exact .inr tt) (fun nS => absurd (inS i3) nS)
        generalize L2.upd H5 a (.lst (ys ++ [.ref t])) = H6 at *
        walk_at "rs"
        refine ⟨_, SqL.of (hf.trans ehH), _, hv, .inl ⟨rfl, _, SqL.of ef⟩, a, _, rfl, rfl, ef, ?_⟩
        refine ⟨_, _, _, ⟨rfl, rfl, rfl⟩, tq.trans (Tk.upd ef), fun a' xs' e' o' => ?_, fun i4 => ?_⟩
        · have n : a' ≠ a := fun z => o' (z ▸ hba)
          rw [upd_ne n]; exact oq a' xs' e' o'
        · obtain ⟨ys', e6, l6, c5, c6⟩ := (Jf (by omega)).ls a xs ha
          rw [ef] at e6
          cases e6
          exact (Jf (by omega)).upd (Nat.le_refl _) ha hba nah (by rw [List.length_reverse]; exact l6) (fun z hz => c5 z (List.mem_reverse.mp hz)) (fun nS z hz => c6 nS z (List.mem_reverse.mp hz))
    · rintro σ H1 ⟨x2, x3, x4, rfl, t, o, _⟩
      exact kq H1 t o
end
end LK

set_option Elab.async false
set_option linter.all false
set_option maxRecDepth 100000
namespace LK
open PySem PySem.Spec PyProof.Rows L2
local macro_rules | `(tactic| walk_at "rs") => `(tactic| simp only [tFld, sFld, tMeth, tMethZ, tMakeK, tProp, tFmt, rEqO, rNeO, cxK, cxNK, tCallZ, tAsg, tOp, rI0, rS0, rB0, rI, rU, tUn, rEq, rNe, rIxL, rIxT, rIxS, rSetL, rSlLU, rSlS, rSlU, rCatL, rCatU, rRepL, rIn, tVar, tC, gName, gSub, tIfS, tTest, tB, tAnd, tOr, tNot, tNotV, tAndV, tOrV, tIf, tCall, tCons, tNil, tCB, tDrop, tRet, tRetN, tNext, tLstU, tTupU, tM0, tM1, tPar, tPar3, tAug, ipI, tBM, tBM0, rAppend, rPop, tBreak, sDPut, tDGet, tDGet2, tCont, tChain, tSl, tPart, tNoPart, L2.start, List.map, List.length_cons, List.length_nil, List.replicate, List.cons_append, List.nil_append, List.append_nil, List.getElem?_cons_zero, List.getElem?_cons_succ, List.set_cons_zero, List.set_cons_succ, Option.some.injEq, V.int.injEq, V.ref.injEq, V.str.injEq, V.bl.injEq, exists_eq_left', exists_eq_left, exists_and_left, decide_eq_true_eq, List.cons.injEq, and_true, true_and, scal, Bool.not_eq_true', decide_eq_false_iff_not, Nat.zero_add, Nat.reduceAdd, Nat.reduceSub, reduceCtorEq, false_and, exists_false, false_or, or_false, CPow, CPowW, CMul, CDiv, Int.reduceToNat, ↓reduceIte, wipe, sw, List.nil_append, List.singleton_append])
local macro_rules | `(tactic| walk_at "st") => `(tactic| (refine seq_op fun N hN => ?_; walk_at "rs"))
local macro_rules | `(tactic| walk_at "sd") => `(tactic| first | assumption | decide | omega)
local macro_rules | `(tactic| walk_at "rd") => `(tactic| repeat (first
  | refine ⟨_, SqL.of (by assumption), ?_⟩ | refine ⟨_, SqL.of upd_same, ?_⟩ | refine ⟨_, .inl (SqL.of (by assumption)), ?_⟩ | refine ⟨_, (by assumption : _ = some (HO.lst _)), ?_⟩ | refine ⟨_, upd_same, ?_⟩
  | refine ⟨_, rfl, ?_⟩ | refine And.intro (by walk_at "sd") ?_))

theorem ixn {k : Int} {n : Nat} (h0 : 0 ≤ k) (h1 : k < n) : ixN n k = some k.toNat := by
  unfold ixN
  rw [if_pos h0, if_pos h1]
theorem if_else {c : TT} {t u : TS} {D : Ends} {σ : L2.St} {H : Hp} (hu : u D σ H) (h : ∀ U : TS, U D σ H → tIfS c t U D σ H) : tIfS c t u D σ H := h u hu
theorem if_elseS {c : TT} {t u : TS} {D : Ends} {σ : L2.St} {H : Hp} (hu : ∀ H', Same H H' → u D σ H') (h : ∀ U : TS, (∀ H', Same H H' → U D σ H') → tIfS c t U D σ H) : tIfS c t u D σ H := h u hu
theorem Few.one {n : Nat} {l : List It} {k : List Int} {f : Fr} (h : Few n l) : Few (n + 1) (l ++ [(k, f)]) := h.spot (k := k) fun x hx => by
  rcases List.mem_append.mp hx with hx | hx
  · exact .inl hx
  · exact .inr (by rw [List.mem_singleton.mp hx])
theorem Gi.snoc {m : Nat} {w r : Int} {l : List It} {f : Fr} (g : Gi m 1 w l) (s : SmI l) (r0 : 0 ≤ r) (r1 : r < w) (o : okB 1000000000000000000 1000000000000000000 f) : Gi (m + 70) 1 w (l ++ [([r], f)]) := by
  have hw := wt_okB o
  have bd1 : ∀ j ∈ [r], 0 ≤ j ∧ j < w := fun j hj => by rw [List.mem_singleton.mp hj]; exact ⟨r0, r1⟩
  refine ⟨g.hd, g.w2, ⟨fun x hx => ?_, fun k => ?_, s.1.one.le (by omega), by rw [List.length_append, List.length_singleton]; have := s.2; omega⟩, fun x hx => ?_⟩
  · rcases List.mem_append.mp hx with hx | hx
    · exact g.ft.it x hx
    · rw [List.mem_singleton.mp hx]
      exact ⟨⟨o.1, o.2.1⟩, by show wt f ≤ 3900; omega, rfl, fun j hj => ⟨(bd1 j hj).1, by have := (bd1 j hj).2; have := g.w2; omega⟩⟩
  · have h1 := wtS_app l [([r], f)] k
    have h2 := g.ft.wt k
    have h3 : wtS [([r], f)] k ≤ wt f + 2 := by
      rw [wtS_cons]
      have : wtS [] k = 1 := rfl
      rw [this]
      dsimp only
      split <;> omega
    omega
  · rcases List.mem_append.mp hx with hx | hx
    · exact g.bd x hx
    · rw [List.mem_singleton.mp hx]; exact bd1
section
variable {P : Program} {w : World} {K : PySem.W.Frag} {mg : Str → Option Value} {base : Heap}
def sp_altered (K : PySem.W.Frag) : Sp := fun vs H Q _ => ∃ (b c : Addr) (N : Nat) (v : V) (x : Nd), vs = [.ref b, v] ∧ Bag (N + 500) H b c ∧ ShL K (hb H b) v x ∧ Gn 400 x ∧ Smx x ∧ ∀ u y H', Bag N H' b c → Kp b H H' → ShL K (hb H' b) u y → Gn 2000 y → Q u H'
theorem ok__law_altered (T : Txt w K mg) : FnOk P w K mg base CX0 6 T.a__law_altered T.d__law_altered ["bag", "sheet"] (sp_altered K) := by
  refine T.F__law_altered.ok sc__law_altered (fun vs H Q E h => ?_) (fun cdv A outer s H vs Q E hr h => ?_)
  · obtain ⟨b, c, N, v, x, rfl, _⟩ := h
    rfl
  · obtain ⟨b, c, N0, v, x, rfl, B, ⟨a, vr, vg, vp, vt, rfl, ha, hr1, hg1, hp1, ht1⟩, g, sm, kq⟩ := h
    have hr__law_draw : Room 1 _ := hr.mono (by decide)
    have G__law_draw := ok__law_draw (P := P) (base := base) T
    have hr__law_factor : Room 3 _ := hr.mono (by decide)
    have G__law_factor := ok__law_factor (P := P) (base := base) T
    have hr__law_stage : Room 5 _ := hr
    have G__law_stage := ok__law_stage (P := P) (base := base) T
    refine ⟨_, (pss_cons (ps_set (i := 2) sc__law_altered.nd rfl (Or.inl rfl) (pe_call G__law_draw hr__law_draw (by rfl) T.m__law_draw T.F__law_draw.kp T.B__law_draw .nil pass0 (pa_cons (pv 0) (pa_cons pe_int pa_nil))))
      (pss_cons (ps_set (i := 3) sc__law_altered.nd rfl (Or.inl rfl) (pe_op op_catL (pe_slice sl_listU (pv 1) po_none (po_some pe_int)) (pe_lstU (pa_cons (pe_callTy call_listU (by rfl) T.n_list (by decide +kernel) (pa_cons (pe_ix ix_list (pv 1) pe_int (fun _ _ => rfl)) pa_nil)) (pa_cons (pe_callTy call_listU (by rfl) T.n_list (by decide +kernel) (pa_cons (pe_ix ix_list (pv 1) pe_int (fun _ _ => rfl)) pa_nil)) (pa_cons (pe_callTy call_listU (by rfl) T.n_list (by decide +kernel) (pa_cons (pe_ix ix_list (pv 1) pe_int (fun _ _ => rfl)) pa_nil)) (pa_cons (pe_callTy call_listU (by rfl) T.n_list (by decide +kernel) (pa_cons (pe_ix ix_list (pv 1) pe_int (fun _ _ => rfl)) pa_nil)) pa_nil)))))))
      (pss_cons (ps_if (PW.pt (pw_and (pt_cmpR op_eqI (pv 2) pe_int (nomark _)) (pw_and1 (pt_cmpR op_lt (pe_ix ix_list (pv 3) pe_int (fun _ _ => rfl)) pe_int (nomark _))))) (pss_one (ps_asg (pe_op op_add (pe_ix ix_list (pv 3) pe_int (fun _ _ => rfl)) pe_int) (pg_sub (pv 3) pe_int set_list))) (pss_one (ps_if (PW.pt (pw_and (pt_cmpR op_eqI (pv 2) pe_int (nomark _)) (pw_and1 (pt_cmpR op_lt (pe_ix ix_list (pv 3) pe_int (fun _ _ => rfl)) pe_int (nomark _))))) (pss_cons (ps_asg (pe_op op_add (pe_ix ix_list (pv 3) pe_int (fun _ _ => rfl)) pe_int) (pg_sub (pv 3) pe_int set_list))
      (pss_one (ps_expr (pe_bm PySem.F.plainAttrs_list PySem.F.slot_list_append PySem.F.type_list_append mt_append (pe_ix ix_list (pv 3) pe_int (fun _ _ => rfl)) (pa_cons (pe_ix ix_list (pe_ix ix_list (pv 3) pe_int (fun _ _ => rfl)) pe_int (fun _ _ => rfl)) pa_nil))))) (pss_one (ps_if (PW.pt (pw_and (pt_cmpR op_eqI (pv 2) pe_int (nomark _)) (pw_and1 (pt_cmpR op_lt (pe_ix ix_list (pv 3) pe_int (fun _ _ => rfl)) pe_int (nomark _))))) (pss_cons (ps_asg (pe_op op_add (pe_ix ix_list (pv 3) pe_int (fun _ _ => rfl)) pe_int) (pg_sub (pv 3) pe_int set_list))
      (pss_one (ps_expr (pe_bm PySem.F.plainAttrs_list PySem.F.slot_list_append PySem.F.type_list_append mt_append (pe_ix ix_list (pv 3) pe_int (fun _ _ => rfl)) (pa_cons (pe_lstU pa_nil) pa_nil))))) (pss_one (ps_if (pt_cmpR op_eqI (pv 2) pe_int (nomark _)) (pss_one (ps_expr (pe_bm PySem.F.plainAttrs_list PySem.F.slot_list_append PySem.F.type_list_append mt_append (pe_ix ix_list (pv 3) pe_int (fun _ _ => rfl)) (pa_cons (pe_tupU (pa_cons (pe_call G__law_draw hr__law_draw (by rfl) T.m__law_draw T.F__law_draw.kp T.B__law_draw .nil pass0 (pa_cons (pv 0) (pa_cons (pe_ix ix_list (pv 3) pe_int (fun _ _ => rfl)) pa_nil))) (pa_cons (pe_call G__law_factor hr__law_factor (by rfl) T.m__law_factor T.F__law_factor.kp T.B__law_factor .nil pass0 (pa_cons (pv 0) pa_nil)) pa_nil))) pa_nil)))) (pss_one (ps_if (pt_cmpR op_in_seq (pv 2) (pe_tupU (pa_cons pe_int (pa_cons pe_int pa_nil))) (by rfl)) (pss_cons (ps_set (i := 4) sc__law_altered.nd rfl (Or.inl rfl) (pe_call G__law_draw hr__law_draw (by rfl) T.m__law_draw T.F__law_draw.kp T.B__law_draw .nil pass0 (pa_cons (pv 0) (pa_cons (pe_callB call_len_seq (by rfl) T.n_len (by decide +kernel) (pa_cons (pe_ix ix_list (pv 3) (pe_op op_sub (pv 2) pe_int) (fun _ _ => rfl)) pa_nil)) pa_nil))))
      (pss_one (ps_asg (pe_op op_catL (pe_ix ix_list (pe_ix ix_list (pv 3) (pe_op op_sub (pv 2) pe_int) (fun _ _ => rfl)) (pv 4) (fun _ _ => rfl)) (pe_lstU (pa_cons (pe_tupU (pa_cons (pe_call G__law_draw hr__law_draw (by rfl) T.m__law_draw T.F__law_draw.kp T.B__law_draw .nil pass0 (pa_cons (pv 0) (pa_cons (pe_ix ix_list (pv 3) pe_int (fun _ _ => rfl)) pa_nil))) (pa_cons (pe_call G__law_factor hr__law_factor (by rfl) T.m__law_factor T.F__law_factor.kp T.B__law_factor .nil pass0 (pa_cons (pv 0) pa_nil)) pa_nil))) pa_nil))) (pg_sub (pe_ix ix_list (pv 3) (pe_op op_sub (pv 2) pe_int) (fun _ _ => rfl)) (pv 4) set_list)))) (pss_one (ps_if (PW.pt (pw_and (pt_cmpR op_eqI (pv 2) pe_int (nomark _)) (pw_and1 (pt_cmpR op_lt (pe_callB call_len_seq (by rfl) T.n_len (by decide +kernel) (pa_cons (pe_ix ix_list (pv 3) pe_int (fun _ _ => rfl)) pa_nil)) pe_int (nomark _))))) (pss_one (ps_expr (pe_bm PySem.F.plainAttrs_list PySem.F.slot_list_insert PySem.F.type_list_insert mt_insert (pe_ix ix_list (pv 3) pe_int (fun _ _ => rfl)) (pa_cons (pe_call G__law_draw hr__law_draw (by rfl) T.m__law_draw T.F__law_draw.kp T.B__law_draw .nil pass0 (pa_cons (pv 0) (pa_cons (pe_op op_add (pe_callB call_len_seq (by rfl) T.n_len (by decide +kernel) (pa_cons (pe_ix ix_list (pv 3) pe_int (fun _ _ => rfl)) pa_nil)) pe_int) pa_nil))) (pa_cons (pe_tupU (pa_cons pe_str (pa_cons (pe_lstU pa_nil) pa_nil))) pa_nil))))) (pss_one (ps_if (PW.pt (pw_and (pt_cmpR op_gt (pv 2) pe_int (nomark _)) (pw_and1 (pt_cmpR op_gt (pe_callB call_len_seq (by rfl) T.n_len (by decide +kernel) (pa_cons (pe_ix ix_list (pv 3) pe_int (fun _ _ => rfl)) pa_nil)) pe_int (nomark _))))) (pss_cons (ps_set (i := 4) sc__law_altered.nd rfl (Or.inl rfl) (pe_call G__law_draw hr__law_draw (by rfl) T.m__law_draw T.F__law_draw.kp T.B__law_draw .nil pass0 (pa_cons (pv 0) (pa_cons (pe_callB call_len_seq (by rfl) T.n_len (by decide +kernel) (pa_cons (pe_ix ix_list (pv 3) pe_int (fun _ _ => rfl)) pa_nil)) pa_nil))))
      (pss_cons (ps_set (i := 5) sc__law_altered.nd rfl (Or.inl rfl) (pe_ix ix_list (pe_ix ix_list (pv 3) pe_int (fun _ _ => rfl)) (pv 4) (fun _ _ => rfl)))
      (pss_one (ps_if (pt_cmpR op_eqI (pv 2) pe_int (nomark _)) (pss_one (ps_asg (pe_tupU (pa_cons (pe_ix ix_tup (pv 5) pe_int (fun _ _ => rfl)) (pa_cons (pe_revL (pe_ix ix_tup (pv 5) pe_int (fun _ _ => rfl))) pa_nil))) (pg_sub (pe_ix ix_list (pv 3) pe_int (fun _ _ => rfl)) (pv 4) set_list))) (pss_one (ps_if (pt_cmpR op_eqI (pv 2) pe_int (nomark _)) (pss_one (ps_asg (pe_op op_catL (pe_slice sl_listU (pe_ix ix_list (pv 3) pe_int (fun _ _ => rfl)) (po_some (pv 4)) po_none) (pe_slice sl_listU (pe_ix ix_list (pv 3) pe_int (fun _ _ => rfl)) po_none (po_some (pv 4)))) (pg_sub (pv 3) pe_int set_list))) (pss_one (ps_asg (pe_call G__law_stage hr__law_stage (by rfl) T.m__law_stage T.F__law_stage.kp T.B__law_stage .nil pass0 (pa_cons (pv 0) (pa_cons (pe_ix ix_list (pv 3) pe_int (fun _ _ => rfl)) (pa_cons pe_int pa_nil)))) (pg_sub (pe_ix ix_list (pv 3) pe_int (fun _ _ => rfl)) (pv 4) set_list))))))))) (pss_one (ps_expr (pe_bm0 PySem.F.plainAttrs_list PySem.F.slot_list_reverse PySem.F.type_list_reverse mt_reverse (pe_ix ix_list (pv 3) pe_int (fun _ _ => rfl))))))))))))))))))
      (pss_one (ps_ret (pv 3)))))), ?_⟩
    refine seq_op fun N hN => ?_
    walk_at "rs"
    refine ⟨b, c, 11, N0 + 499, rfl, B, by decide, by decide, fun way H1 w0 w1 B1 K1 => hN _ _ ?_⟩
    clear hN N
    refine seq_op fun N hN => ?_
    walk_at "rs"
    obtain ⟨nab, haH⟩ := hb_some (K1 _ _ ha)
    obtain ⟨ar, xr, rfl, har, hir⟩ := hr1
    obtain ⟨ag, xg, rfl, hag, hig⟩ := hg1
    obtain ⟨ap, xp, rfl, hap, hip⟩ := hp1
    obtain ⟨at', xt, rfl, hat, hit⟩ := ht1
    obtain ⟨nr, har1⟩ := hb_some (K1 _ _ har)
    obtain ⟨ng, hag1⟩ := hb_some (K1 _ _ hag)
    obtain ⟨np, hap1⟩ := hb_some (K1 _ _ hap)
    obtain ⟨nt, hat1⟩ := hb_some (K1 _ _ hat)
    refine ⟨_, SqL.of haH, fun p1 H2 s2 p10 p11 => ⟨_, SqL.of (s2 _ _ haH), _, rfl, ar, rfl, xr, .inl (SqL.of (s2 _ _ har1)), fun l3 H3 s3 l30 l31 => ?_⟩⟩
    have s13 := Same.trans s2 s3
    refine ⟨_, SqL.of (s13 _ _ haH), _, rfl, ag, rfl, xg, .inl (SqL.of (s13 _ _ hag1)), fun l4 H4 s4 l40 l41 => ?_⟩
    have s14 := Same.trans s13 s4
    refine ⟨_, SqL.of (s14 _ _ haH), _, rfl, ap, rfl, xp, .inl (SqL.of (s14 _ _ hap1)), fun l5 H5 s5 l50 l51 => ?_⟩
    have s15 := Same.trans s14 s5
    refine ⟨_, SqL.of (s15 _ _ haH), _, rfl, at', rfl, xt, .inl (SqL.of (s15 _ _ hat1)), fun l6 H6 s6 l60 l61 => ⟨by decide, fun p2 H7 s7 p20 p21 => ?_⟩⟩
    have s37 := Same.trans s4 (Same.trans s5 (Same.trans s6 s7))
    have e1 : cutV [V.int x.s, .int x.n, .int x.w, .ref ar, .ref ag, .ref ap, .ref at'] none (some 3) = [.int x.s, .int x.n, .int x.w] := rfl
    rw [e1] at p11
    refine ⟨_, Same.trans s3 s37 _ _ p11, _, p21, by show 7 ≤ sizeLine; decide, fun f0 H8 s8 f00 f01 => hN _ _ ?_⟩
    clear hN N
    have s18 := Same.trans s15 (Same.trans s6 (Same.trans s7 s8))
    have m3 : H8 l3 = some (.lst xr) := s8 _ _ (s37 _ _ l31)
    have m4 : H8 l4 = some (.lst xg) := s8 _ _ (s7 _ _ (s6 _ _ (s5 _ _ l41)))
    have m5 : H8 l5 = some (.lst xp) := s8 _ _ (s7 _ _ (s6 _ _ l51))
    have m6 : H8 l6 = some (.lst xt) := s8 _ _ (s7 _ _ l61)
    replace f01 : H8 f0 = some (.lst [.int x.s, .int x.n, .int x.w, .ref l3, .ref l4, .ref l5, .ref l6]) := f01
    -- all different and new
    have ne_of : ∀ {G : Hp} {p q : Addr} {o : HO}, G p = some o → G q = none → p ≠ q := fun e n z => by rw [z, n] at e; cases e
    have n43 : l3 ≠ l4 := ne_of l31 l40
    have n53 : l3 ≠ l5 := ne_of (s4 _ _ l31) l50
    have n54 : l4 ≠ l5 := ne_of l41 l50
    have n63 : l3 ≠ l6 := ne_of (s5 _ _ (s4 _ _ l31)) l60
    have n64 : l4 ≠ l6 := ne_of (s5 _ _ l41) l60
    have n65 : l5 ≠ l6 := ne_of l51 l60
    have nf3 : l3 ≠ f0 := ne_of (s37 _ _ l31) f00
    have nf4 : l4 ≠ f0 := ne_of (s7 _ _ (s6 _ _ (s5 _ _ l41))) f00
    have nf5 : l5 ≠ f0 := ne_of (s7 _ _ (s6 _ _ l51)) f00
    have nf6 : l6 ≠ f0 := ne_of (s7 _ _ l61) f00
    have z3 : H1 l3 = none := Same.dom s2 _ l30
    have z4 : H1 l4 = none := Same.dom s13 _ l40
    have z5 : H1 l5 = none := Same.dom s14 _ l50
    have z6 : H1 l6 = none := Same.dom s15 _ l60
    have zf : H1 f0 = none := Same.dom s15 _ (Same.dom s6 _ (Same.dom s7 _ f00))
    have dm : ∀ {p : Addr}, H1 p = none → H p = none := fun q => Kp.dom K1 B1.at.choose_spec _ q
    have b3 := new_ne B1 z3
    have b4 := new_ne B1 z4
    have b5 := new_ne B1 z5
    have b6 := new_ne B1 z6
    have bf := new_ne B1 zf
    have cne : ∀ {p : Addr}, H1 p = none → c ≠ p := fun q e => by
      obtain ⟨xc, ec⟩ := B1.at2
      rw [← e, ec] at q; cases q
    have K8 : Kp b H H8 := Same.trans K1 (Kp.of s18)
    have B8 := B1.same s18
    replace z3 := dm z3
    replace z4 := dm z4
    replace z5 := dm z5
    replace z6 := dm z6
    replace zf := dm zf
    have c3 := cne (Same.dom s2 _ l30)
    have c4 := cne (Same.dom s13 _ l40)
    have c5 := cne (Same.dom s14 _ l50)
    have c6 := cne (Same.dom s15 _ l60)
    have cf := cne (Same.dom s15 _ (Same.dom s6 _ (Same.dom s7 _ f00)))
    clear s2 s3 s4 s5 s6 s7 s8 s13 s14 s15 s18 s37 l30 l31 l40 l41 l50 l51 l60 l61 p10 p11 p20 p21 f00 haH har1 hag1 hap1 hat1 K1 B1
    -- the end
    refine cut_seq (fun σ G => ∃ (x1 x3 x4 : Option V) (q6 : Addr) (s' n' w' : Int) (r3 r4 r5 r6 : List V) (y : Nd), σ = [some (.ref b), some (.ref a), x1, some (.ref f0), x3, x4] ∧ Bag N0 G b c ∧ Kp b H G ∧ G f0 = some (.lst [.int y.s, .int y.n, .int y.w, .ref l3, .ref l4, .ref l5, .ref q6]) ∧ G l3 = some (.lst r3) ∧ G l4 = some (.lst r4) ∧ G l5 = some (.lst r5) ∧ G q6 = some (.lst r6) ∧ q6 ≠ b ∧ Its K (hb G b) r3 y.rest ∧ Al (IL K (hb G b)) r4 y.sg ∧ Al (IL K (hb G b)) r5 y.pl ∧ Al (SL K (hb G b)) r6 y.st ∧ Gn 2000 y) (fun N hN => ?_) ?_
    · have G8 : ∀ {G : Hp}, Kp b H G → Its K (hb G b) xr x.rest ∧ Al (IL K (hb G b)) xg x.sg ∧ Al (IL K (hb G b)) xp x.pl ∧ Al (SL K (hb G b)) xt x.st := fun k => ⟨hir.same k, hig.imp fun _ _ => IL.same k, hip.imp fun _ _ => IL.same k, hit.imp fun _ _ => SL.same k⟩
      have gs := g.s
      have gn := g.n
      have gw := g.w
      have gsg := g.sg.1
      have gpl := g.pl.1
      have gst := g.st.1
      have lir := hir.len
      have lig := hig.len
      have lip := hip.len
      have lit := hit.len
      have rl := g.rest.ft.len
      have up : ∀ {G : Hp} {p : Addr} {o : HO}, Kp b H G → H p = none → Kp b H (L2.upd G p o) := fun k z => Kp.upd2 k z
      have big : 10000 < sizeLine := by decide
      -- the same with other numbers
      refine if_else (if_else (if_else (if_else (if_elseS (fun H9 s9 => if_else (if_else ?wz ?w8) ?w7) ?w5) ?w4) ?w3) ?w2) ?w1
      case w1 =>
        intro U hU
        walk_at "rs"
        refine ite2 (fun _ => ⟨_, SqL.of f01, _, rfl, _, rfl, ite2 (fun c => ⟨_, SqL.of f01, _, rfl, _, rfl, _, f01, 2, rfl, hN _ _ ?_⟩) (fun _ => hU)⟩) (fun _ => hU)
        have K9 := up (o := .lst [.int x.s, .int x.n, .int (x.w + 1), .ref l3, .ref l4, .ref l5, .ref l6]) K8 zf
        obtain ⟨i3, i4, i5, i6⟩ := G8 K9
        refine ⟨_, _, _, l6, 0, 0, 0, xr, xg, xp, xt, ⟨x.s, x.n, x.w + 1, x.rest, x.sg, x.pl, x.st⟩, rfl, (B8.le (by omega)).upd bf.symm cf, K9, upd_same, by rw [upd_ne nf3]; exact m3, by rw [upd_ne nf4]; exact m4, by rw [upd_ne nf5]; exact m5, by rw [upd_ne nf6]; exact m6, b6, i3, i4, i5, i6, ?_⟩
        exact ⟨g.s, g.n, ⟨by show 1 ≤ x.w + 1; omega, by show x.w + 1 ≤ 2000; omega⟩, g.rest.le (by decide) (by show x.w ≤ x.w + 1; omega) (by show x.w + 1 ≤ 2000; omega), ⟨g.sg.1, fun l hl => (g.sg.2 l hl).le (by decide) (by show x.w ≤ x.w + 1; omega) (by show x.w + 1 ≤ 2000; omega)⟩, ⟨g.pl.1, fun l hl => (g.pl.2 l hl).le (by decide) (by show x.w ≤ x.w + 1; omega) (by show x.w + 1 ≤ 2000; omega)⟩, ⟨g.st.1, fun l hl => (g.st.2 l hl).le (by decide) (by show x.w ≤ x.w + 1; omega) (by show x.w + 1 ≤ 2000; omega)⟩⟩
      case w2 =>
        intro U hU
        walk_at "rs"
        refine ite2 (fun _ => ⟨_, SqL.of f01, _, rfl, _, rfl, ite2 (fun c => ?_) (fun _ => hU)⟩) (fun _ => hU)
        refine seq_op fun N2 hN2 => ?_
        walk_at "rs"
        refine ⟨_, SqL.of f01, _, rfl, _, rfl, _, f01, 1, rfl, hN2 _ _ ?_⟩
        clear hN2 N2
        show tDrop _ _ _ (L2.upd H8 f0 (.lst [.int x.s, .int (x.n + 1), .int x.w, .ref l3, .ref l4, .ref l5, .ref l6]))
        have K9 := up (o := .lst [.int x.s, .int (x.n + 1), .int x.w, .ref l3, .ref l4, .ref l5, .ref l6]) K8 zf
        have B9 := B8.upd (o := .lst [.int x.s, .int (x.n + 1), .int x.w, .ref l3, .ref l4, .ref l5, .ref l6]) bf.symm cf
        have f9 : (L2.upd H8 f0 (.lst [.int x.s, .int (x.n + 1), .int x.w, .ref l3, .ref l4, .ref l5, .ref l6])) f0 = some (.lst [.int x.s, .int (x.n + 1), .int x.w, .ref l3, .ref l4, .ref l5, .ref l6]) := upd_same
        replace m3 : (L2.upd H8 f0 (.lst [.int x.s, .int (x.n + 1), .int x.w, .ref l3, .ref l4, .ref l5, .ref l6])) l3 = _ := (upd_ne nf3).trans m3
        replace m4 : (L2.upd H8 f0 (.lst [.int x.s, .int (x.n + 1), .int x.w, .ref l3, .ref l4, .ref l5, .ref l6])) l4 = _ := (upd_ne nf4).trans m4
        replace m5 : (L2.upd H8 f0 (.lst [.int x.s, .int (x.n + 1), .int x.w, .ref l3, .ref l4, .ref l5, .ref l6])) l5 = _ := (upd_ne nf5).trans m5
        replace m6 : (L2.upd H8 f0 (.lst [.int x.s, .int (x.n + 1), .int x.w, .ref l3, .ref l4, .ref l5, .ref l6])) l6 = _ := (upd_ne nf6).trans m6
        generalize L2.upd H8 f0 (.lst [.int x.s, .int (x.n + 1), .int x.w, .ref l3, .ref l4, .ref l5, .ref l6]) = H9 at *
        obtain ⟨v0, xp', rfl⟩ : ∃ v0 xp', xp = v0 :: xp' := by
          cases xp with
          | nil => rw [List.length_nil] at lip; omega
          | cons v0 xp' => exact ⟨_, _, rfl⟩
        obtain ⟨y0, ypl, epl⟩ : ∃ y0 ypl, x.pl = y0 :: ypl := by
          cases e : x.pl with
          | nil => rw [e, List.length_nil] at lip; simp at lip
          | cons v0 xp' => exact ⟨_, _, rfl⟩
        walk_at "rs"
        refine ⟨_, SqL.of f9, _, rfl, .inl ⟨rfl, _, SqL.of m5⟩, _, SqL.of f9, .ref l5, rfl, l5, rfl, _, SqL.of m5, v0, at_ofN (j := 0) rfl rfl, l5, rfl, _, m5, Nat.lt_of_le_of_lt (show _ ≤ 1000 by rw [lip]; omega) (by decide), hN _ _ ?_⟩
        have K10 := up (o := .lst (v0 :: xp' ++ [v0])) K9 z5
        obtain ⟨i3, i4, i5, i6⟩ := G8 K10
        have hv0 : IL K (LK.hb (L2.upd H9 l5 (.lst (v0 :: xp' ++ [v0]))) b) v0 y0 := by
          rw [epl] at i5
          cases i5 with | cons q _ => exact q
        refine ⟨_, _, _, l6, 0, 0, 0, xr, xg, _, xt, ⟨x.s, x.n + 1, x.w, x.rest, x.sg, x.pl ++ [y0], x.st⟩, rfl, (B9.le (by omega)).upd b5.symm c5, K10, by rw [upd_ne nf5.symm]; exact f9, by rw [upd_ne n53]; exact m3, by rw [upd_ne n54]; exact m4, upd_same, by rw [upd_ne n65.symm]; exact m6, b6, i3, i4, i5.app (.cons hv0 .nil), i6, ?_⟩
        refine ⟨g.s, ⟨by show 1 ≤ x.n + 1; omega, by show x.n + 1 ≤ 8; omega⟩, g.w, g.rest.le (by decide) (Int.le_refl _) gw.2, ⟨g.sg.1, fun l hl => (g.sg.2 l hl).le (by decide) (Int.le_refl _) gw.2⟩, ⟨by show ((x.pl ++ [y0]).length : Int) = x.n + 1; rw [List.length_append, List.length_singleton]; omega, fun l hl => ?_⟩, ⟨g.st.1, fun l hl => (g.st.2 l hl).le (by decide) (Int.le_refl _) gw.2⟩⟩
        rcases List.mem_append.mp hl with hl | hl
        · exact (g.pl.2 l hl).le (by decide) (Int.le_refl _) gw.2
        · rw [List.mem_singleton.mp hl]; exact (g.pl.2 y0 (by rw [epl]; exact List.mem_cons_self)).le (by decide) (Int.le_refl _) gw.2
      case w3 =>
        intro U hU
        walk_at "rs"
        refine ite2 (fun _ => ⟨_, SqL.of f01, _, rfl, _, rfl, ite2 (fun c => ?_) (fun _ => hU)⟩) (fun _ => hU)
        refine seq_op fun N2 hN2 => ?_
        walk_at "rs"
        refine ⟨_, SqL.of f01, _, rfl, _, rfl, _, f01, 0, rfl, hN2 _ _ ?_⟩
        clear hN2 N2
        show tDrop _ _ _ (L2.upd H8 f0 (.lst [.int (x.s + 1), .int x.n, .int x.w, .ref l3, .ref l4, .ref l5, .ref l6]))
        have K9 := up (o := .lst [.int (x.s + 1), .int x.n, .int x.w, .ref l3, .ref l4, .ref l5, .ref l6]) K8 zf
        have B9 := B8.upd (o := .lst [.int (x.s + 1), .int x.n, .int x.w, .ref l3, .ref l4, .ref l5, .ref l6]) bf.symm cf
        have f9 : (L2.upd H8 f0 (.lst [.int (x.s + 1), .int x.n, .int x.w, .ref l3, .ref l4, .ref l5, .ref l6])) f0 = some (.lst [.int (x.s + 1), .int x.n, .int x.w, .ref l3, .ref l4, .ref l5, .ref l6]) := upd_same
        replace m3 : (L2.upd H8 f0 (.lst [.int (x.s + 1), .int x.n, .int x.w, .ref l3, .ref l4, .ref l5, .ref l6])) l3 = _ := (upd_ne nf3).trans m3
        replace m4 : (L2.upd H8 f0 (.lst [.int (x.s + 1), .int x.n, .int x.w, .ref l3, .ref l4, .ref l5, .ref l6])) l4 = _ := (upd_ne nf4).trans m4
        replace m5 : (L2.upd H8 f0 (.lst [.int (x.s + 1), .int x.n, .int x.w, .ref l3, .ref l4, .ref l5, .ref l6])) l5 = _ := (upd_ne nf5).trans m5
        replace m6 : (L2.upd H8 f0 (.lst [.int (x.s + 1), .int x.n, .int x.w, .ref l3, .ref l4, .ref l5, .ref l6])) l6 = _ := (upd_ne nf6).trans m6
        generalize L2.upd H8 f0 (.lst [.int (x.s + 1), .int x.n, .int x.w, .ref l3, .ref l4, .ref l5, .ref l6]) = H9 at *
        walk_at "rs"
        refine ⟨_, SqL.of f9, .ref l4, rfl, .inl ⟨rfl, _, SqL.of m4⟩, by decide, fun e H10 s10 e0 e1 => ⟨l4, rfl, _, s10 _ _ m4, Nat.lt_of_le_of_lt (show _ ≤ 1000 by rw [lig]; omega) (by decide), hN _ _ ?_⟩⟩
        have nel : e ≠ l4 := fun z => by rw [z, m4] at e0; cases e0
        have neb := new_ne B9 e0
        have K10 := up (o := .lst (xg ++ [.ref e])) (Same.trans K9 (Kp.of s10)) z4
        obtain ⟨i3, i4, i5, i6⟩ := G8 K10
        have he : IL K (LK.hb (L2.upd H10 l4 (.lst (xg ++ [.ref e]))) b) (.ref e) [] := ⟨e, [], rfl, by rw [hb_ne neb, upd_ne nel]; exact e1, .nil⟩
        refine ⟨_, _, _, l6, 0, 0, 0, xr, _, xp, xt, ⟨x.s + 1, x.n, x.w, x.rest, x.sg ++ [[]], x.pl, x.st⟩, rfl, ((B9.le (by omega)).same s10).upd b4.symm c4, K10, by rw [upd_ne nf4.symm]; exact s10 _ _ f9, by rw [upd_ne n43]; exact s10 _ _ m3, upd_same, by rw [upd_ne n54.symm]; exact s10 _ _ m5, by rw [upd_ne n64.symm]; exact s10 _ _ m6, b6, i3, i4.app (.cons he .nil), i5, i6, ?_⟩
        refine ⟨⟨by show 2 ≤ x.s + 1; omega, by show x.s + 1 ≤ 5; omega⟩, g.n, g.w, g.rest.le (by decide) (Int.le_refl _) gw.2, ⟨by show ((x.sg ++ [[]]).length : Int) = x.s + 1; rw [List.length_append, List.length_singleton]; omega, fun l hl => ?_⟩, ⟨g.pl.1, fun l hl => (g.pl.2 l hl).le (by decide) (Int.le_refl _) gw.2⟩, ⟨g.st.1, fun l hl => (g.st.2 l hl).le (by decide) (Int.le_refl _) gw.2⟩⟩
        rcases List.mem_append.mp hl with hl | hl
        · exact (g.sg.2 l hl).le (by decide) (Int.le_refl _) gw.2
        · rw [List.mem_singleton.mp hl]; exact Gi.nil (.inl rfl) gw.2 (by decide)
      case w4 =>
        intro U hU
        walk_at "rs"
        refine ite2 (fun _ => ?_) (fun _ => hU)
        refine ⟨_, SqL.of f01, .ref l3, rfl, .inl ⟨rfl, _, SqL.of m3⟩, _, SqL.of f01, .int x.w, rfl, b, c, x.w, N0 + 498, rfl, B8.le (by omega), by omega, by omega, fun r G1 r0 r1 BG1 KG1 => ⟨b, c, N0 + 491, rfl, BG1.le (by omega), fun tf f G2 okf tf0 tf1 BG2 KG2 => ⟨by decide, fun t G3 u3 t0 t1 => ?_⟩⟩⟩
        have K83 : Kp b H8 G3 := Same.trans KG1 (Same.trans KG2 (Kp.of u3))
        refine ⟨l3, rfl, _, K83.hd m3 b3, Nat.lt_of_le_of_lt (show _ ≤ 1000 by rw [lir]; omega) (by decide), hN _ _ ?_⟩
        have K10 := up (o := .lst (xr ++ [.ref t])) (Same.trans K8 K83) z3
        obtain ⟨i3, i4, i5, i6⟩ := G8 K10
        have tk : Tk G3 (LK.hb (L2.upd G3 l3 (.lst (xr ++ [.ref t]))) b) := (Tk.upd (K83.hd m3 b3)).trans (Tk.hb (((BG2.same u3).upd b3.symm c3)))
        refine ⟨_, _, _, l6, 0, 0, 0, _, xg, xp, xt, ⟨x.s, x.n, x.w, x.rest ++ [([r], f)], x.sg, x.pl, x.st⟩, rfl, ((BG2.same u3).le (by omega)).upd b3.symm c3, K10, by rw [upd_ne nf3.symm]; exact K83.hd f01 bf, upd_same, by rw [upd_ne n43.symm]; exact K83.hd m4 b4, by rw [upd_ne n53.symm]; exact K83.hd m5 b5, by rw [upd_ne n63.symm]; exact K83.hd m6 b6, b6, i3.app (.cons (seqT_tk tk (.inl (.inl t1))) (seqT_tk tk (.inl (.inl (u3 _ _ tf1)))) .nil), i4, i5, i6, ?_⟩
        exact ⟨g.s, g.n, g.w, (g.rest.snoc sm.rest r0 r1 okf).le (by decide) (Int.le_refl _) gw.2, ⟨g.sg.1, fun l hl => (g.sg.2 l hl).le (by decide) (Int.le_refl _) gw.2⟩, ⟨g.pl.1, fun l hl => (g.pl.2 l hl).le (by decide) (Int.le_refl _) gw.2⟩, ⟨g.st.1, fun l hl => (g.st.2 l hl).le (by decide) (Int.le_refl _) gw.2⟩⟩
      case w5 =>
        intro U hU
        walk_at "rs"
        refine ⟨by decide, fun p9 H9 s9 p90 p91 => ⟨_, .inr (.inl (.inl p91)), rfl, rfl, ite2 (fun cc => ?_) (fun _ => hU H9 s9)⟩⟩
        have qf := s9 _ _ f01
        have q4 := s9 _ _ m4
        have q5 := s9 _ _ m5
        obtain rfl | rfl : way = 5 ∨ way = 6 := by
          by_cases c1 : way = 5
          · exact .inl c1
          · by_cases c2 : way = 6
            · exact .inr c2
            · exact absurd cc (by simp [inV, eqV, Ne.symm c1, Ne.symm c2])
        · refine seq_op fun N2 hN2 => ?_
          walk_at "rs"
          refine ⟨_, SqL.of qf, .ref l4, rfl, l4, rfl, _, .inl (SqL.of q4), b, c, (xg.length : Int), N0 + 498, rfl, (B8.same s9).le (by omega), by omega, by omega, fun kk G1 k0 k1 BG1 KG1 => hN2 _ _ ?_⟩
          clear hN2 N2
          obtain ⟨v, hv⟩ : ∃ v, xg[kk.toNat]? = some v := ⟨_, List.getElem?_eq_getElem (by omega)⟩
          obtain ⟨lv, hlv, ilv⟩ := hig.get hv
          obtain ⟨pv, xv, rfl, hpv, iv⟩ := ilv.same (Same.trans (Same.trans K8 (Kp.of s9)) KG1)
          obtain ⟨npv, hpv1⟩ := hb_some hpv
          have iv1 : Its K G1 xv lv := iv.same (hb_le _ _)
          walk_at "rs"
          refine ⟨_, SqL.of (KG1.hd qf bf), .ref l4, rfl, l4, rfl, _, SqL.of (KG1.hd q4 b4), .ref pv, at_of (j := kk.toNat) (by omega) hv, _, SqL.of (KG1.hd qf bf), .int x.w, rfl, b, c, x.w, N0 + 497, rfl, BG1.le (by omega), by omega, by omega, fun r G2 r0 r1 BG2 KG2 => ⟨b, c, N0 + 490, rfl, BG2.le (by omega), fun tf f G3 okf tf0 tf1 BG3 KG3 => ⟨by decide, fun t G4 u4 t0 t1 => ⟨by decide, fun p5 G5 u5 p50 p51 => ?_⟩⟩⟩⟩
          have KGv : Kp b G1 G5 := Same.trans KG2 (Same.trans KG3 (Kp.of (Same.trans u4 u5)))
          have glv := g.sg.2 lv (List.mem_of_getElem? hlv)
          have lvb : lv.length ≤ 100 := by have := glv.ft.len; omega
          refine ⟨pv, rfl, _, KGv.hd hpv1 npv, _, p51, by rw [iv1.len]; exact Nat.le_trans (show lv.length + 1 ≤ 1000 by omega) (by decide), fun Pn G6 u6 P0 P1 => ?_⟩
          have KG6 : Kp b G1 G6 := Same.trans KGv (Kp.of u6)
          have K96 : Kp b H9 G6 := Same.trans KG1 KG6
          refine ⟨_, SqL.of (K96.hd qf bf), .ref l4, rfl, l4, rfl, _, K96.hd q4 b4, kk.toNat, ixn k0 k1, hN _ _ ?_⟩
          have K10 := up (o := .lst (xg.set kk.toNat (.ref Pn))) (Same.trans (Same.trans K8 (Kp.of s9)) K96) z4
          obtain ⟨i3, i4, i5, i6⟩ := G8 K10
          have BG5 := (BG3.same u4).same u5
          have B10 := (BG5.same u6).upd (o := .lst (xg.set kk.toNat (.ref Pn))) b4.symm c4
          have tk : Tk G6 (LK.hb (L2.upd G6 l4 (.lst (xg.set kk.toNat (.ref Pn)))) b) := (Tk.upd (K96.hd q4 b4)).trans (Tk.hb B10)
          have nP : Pn ≠ l4 := fun z => by
            have := KGv.hd (KG1.hd q4 b4) b4
            rw [z, this] at P0; cases P0
          have nPb := new_ne BG5 P0
          have tfG : Pr K G6 tf f.1 f.2 := .inl (.inl (u6 _ _ (u5 _ _ (u4 _ _ tf1))))
          have hP : IL K (LK.hb (L2.upd G6 l4 (.lst (xg.set kk.toNat (.ref Pn)))) b) (.ref Pn) (lv ++ [([r], f)]) := ⟨Pn, _, rfl, by rw [hb_ne nPb, upd_ne nP]; exact P1, (((iv1.kp BG1 KGv).same u6).tk tk).app (.cons (seqT_tk tk (.inl (.inl (u6 _ _ (u5 _ _ t1))))) (seqT_tk tk tfG) .nil)⟩
          refine ⟨_, _, _, l6, 0, 0, 0, xr, _, xp, xt, ⟨x.s, x.n, x.w, x.rest, x.sg.set kk.toNat (lv ++ [([r], f)]), x.pl, x.st⟩, rfl, B10.le (by omega), K10, by rw [upd_ne nf4.symm]; exact K96.hd qf bf, by rw [upd_ne n43]; exact K96.hd (s9 _ _ m3) b3, upd_same, by rw [upd_ne n54.symm]; exact K96.hd q5 b5, by rw [upd_ne n64.symm]; exact K96.hd (s9 _ _ m6) b6, b6, i3, i4.set _ hP, i5, i6, ?_⟩
          refine ⟨g.s, g.n, g.w, g.rest.le (by decide) (Int.le_refl _) gw.2, ⟨by show ((x.sg.set kk.toNat (lv ++ [([r], f)])).length : Int) = x.s; rw [List.length_set]; exact gsg, fun l hl => ?_⟩, ⟨g.pl.1, fun l hl => (g.pl.2 l hl).le (by decide) (Int.le_refl _) gw.2⟩, ⟨g.st.1, fun l hl => (g.st.2 l hl).le (by decide) (Int.le_refl _) gw.2⟩⟩
          rcases List.mem_or_eq_of_mem_set hl with hl | rfl
          · exact (g.sg.2 l hl).le (by decide) (Int.le_refl _) gw.2
          · exact (glv.snoc (sm.sg lv (List.mem_of_getElem? hlv)) r0 r1 okf).le (by decide) (Int.le_refl _) gw.2
        · refine seq_op fun N2 hN2 => ?_
          walk_at "rs"
          refine ⟨_, SqL.of qf, .ref l5, rfl, l5, rfl, _, .inl (SqL.of q5), b, c, (xp.length : Int), N0 + 498, rfl, (B8.same s9).le (by omega), by omega, by omega, fun kk G1 k0 k1 BG1 KG1 => hN2 _ _ ?_⟩
          clear hN2 N2
          obtain ⟨v, hv⟩ : ∃ v, xp[kk.toNat]? = some v := ⟨_, List.getElem?_eq_getElem (by omega)⟩
          obtain ⟨lv, hlv, ilv⟩ := hip.get hv
          obtain ⟨pv, xv, rfl, hpv, iv⟩ := ilv.same (Same.trans (Same.trans K8 (Kp.of s9)) KG1)
          obtain ⟨npv, hpv1⟩ := hb_some hpv
          have iv1 : Its K G1 xv lv := iv.same (hb_le _ _)
          walk_at "rs"
          refine ⟨_, SqL.of (KG1.hd qf bf), .ref l5, rfl, l5, rfl, _, SqL.of (KG1.hd q5 b5), .ref pv, at_of (j := kk.toNat) (by omega) hv, _, SqL.of (KG1.hd qf bf), .int x.w, rfl, b, c, x.w, N0 + 497, rfl, BG1.le (by omega), by omega, by omega, fun r G2 r0 r1 BG2 KG2 => ⟨b, c, N0 + 490, rfl, BG2.le (by omega), fun tf f G3 okf tf0 tf1 BG3 KG3 => ⟨by decide, fun t G4 u4 t0 t1 => ⟨by decide, fun p5 G5 u5 p50 p51 => ?_⟩⟩⟩⟩
          have KGv : Kp b G1 G5 := Same.trans KG2 (Same.trans KG3 (Kp.of (Same.trans u4 u5)))
          have glv := g.pl.2 lv (List.mem_of_getElem? hlv)
          have lvb : lv.length ≤ 100 := by have := glv.ft.len; omega
          refine ⟨pv, rfl, _, KGv.hd hpv1 npv, _, p51, by rw [iv1.len]; exact Nat.le_trans (show lv.length + 1 ≤ 1000 by omega) (by decide), fun Pn G6 u6 P0 P1 => ?_⟩
          have KG6 : Kp b G1 G6 := Same.trans KGv (Kp.of u6)
          have K96 : Kp b H9 G6 := Same.trans KG1 KG6
          refine ⟨_, SqL.of (K96.hd qf bf), .ref l5, rfl, l5, rfl, _, K96.hd q5 b5, kk.toNat, ixn k0 k1, hN _ _ ?_⟩
          have K10 := up (o := .lst (xp.set kk.toNat (.ref Pn))) (Same.trans (Same.trans K8 (Kp.of s9)) K96) z5
          obtain ⟨i3, i4, i5, i6⟩ := G8 K10
          have BG5 := (BG3.same u4).same u5
          have B10 := (BG5.same u6).upd (o := .lst (xp.set kk.toNat (.ref Pn))) b5.symm c5
          have tk : Tk G6 (LK.hb (L2.upd G6 l5 (.lst (xp.set kk.toNat (.ref Pn)))) b) := (Tk.upd (K96.hd q5 b5)).trans (Tk.hb B10)
          have nP : Pn ≠ l5 := fun z => by
            have := KGv.hd (KG1.hd q5 b5) b5
            rw [z, this] at P0; cases P0
          have nPb := new_ne BG5 P0
          have tfG : Pr K G6 tf f.1 f.2 := .inl (.inl (u6 _ _ (u5 _ _ (u4 _ _ tf1))))
          have hP : IL K (LK.hb (L2.upd G6 l5 (.lst (xp.set kk.toNat (.ref Pn)))) b) (.ref Pn) (lv ++ [([r], f)]) := ⟨Pn, _, rfl, by rw [hb_ne nPb, upd_ne nP]; exact P1, (((iv1.kp BG1 KGv).same u6).tk tk).app (.cons (seqT_tk tk (.inl (.inl (u6 _ _ (u5 _ _ t1))))) (seqT_tk tk tfG) .nil)⟩
          refine ⟨_, _, _, l6, 0, 0, 0, xr, xg, _, xt, ⟨x.s, x.n, x.w, x.rest, x.sg, x.pl.set kk.toNat (lv ++ [([r], f)]), x.st⟩, rfl, B10.le (by omega), K10, by rw [upd_ne nf5.symm]; exact K96.hd qf bf, by rw [upd_ne n53]; exact K96.hd (s9 _ _ m3) b3, by rw [upd_ne n54]; exact K96.hd q4 b4, upd_same, by rw [upd_ne n65.symm]; exact K96.hd (s9 _ _ m6) b6, b6, i3, i4, i5.set _ hP, i6, ?_⟩
          refine ⟨g.s, g.n, g.w, g.rest.le (by decide) (Int.le_refl _) gw.2, ⟨g.sg.1, fun l hl => (g.sg.2 l hl).le (by decide) (Int.le_refl _) gw.2⟩, ⟨by show ((x.pl.set kk.toNat (lv ++ [([r], f)])).length : Int) = x.n; rw [List.length_set]; exact gpl, fun l hl => ?_⟩, ⟨g.st.1, fun l hl => (g.st.2 l hl).le (by decide) (Int.le_refl _) gw.2⟩⟩
          rcases List.mem_or_eq_of_mem_set hl with hl | rfl
          · exact (g.pl.2 l hl).le (by decide) (Int.le_refl _) gw.2
          · exact (glv.snoc (sm.pl lv (List.mem_of_getElem? hlv)) r0 r1 okf).le (by decide) (Int.le_refl _) gw.2
      case w7 =>
        intro U hU
        walk_at "rs"
        have q6 := s9 _ _ m6
        have qf := s9 _ _ f01
        refine ite2 (fun _ => ⟨_, SqL.of qf, .ref l6, rfl, l6, rfl, _, .inl (SqL.of q6), ite2 (fun cc => ?_) (fun _ => hU)⟩) (fun _ => hU)
        refine ⟨_, SqL.of qf, .ref l6, rfl, .inl ⟨rfl, _, SqL.of q6⟩, _, SqL.of qf, .ref l6, rfl, l6, rfl, _, .inl (SqL.of q6), ?_⟩
        refine ⟨b, c, (xt.length : Int) + 1, N0 + 498, rfl, (B8.same s9).le (by omega), by omega, by omega, fun kk G1 k0 k1 BG1 KG1 => ⟨by decide, fun e G2 u2 e0 e1 => ⟨by decide, fun t G3 u3 t0 t1 => ?_⟩⟩⟩
        have KG : Kp b H9 G3 := Same.trans KG1 (Kp.of (Same.trans u2 u3))
        refine ⟨l6, rfl, _, _, _, ⟨rfl, rfl⟩, KG.hd q6 b6, Nat.lt_of_le_of_lt (show _ ≤ 1000 by rw [lit]; omega) (by decide), k0, by omega, hN _ _ ?_⟩
        have K10 := up (o := .lst (xt.take kk.toNat ++ [.ref t] ++ xt.drop kk.toNat)) (Same.trans (Same.trans K8 (Kp.of s9)) KG) z6
        obtain ⟨i3, i4, i5, i6⟩ := G8 K10
        have B10 := ((BG1.same u2).same u3).upd (o := .lst (xt.take kk.toNat ++ [.ref t] ++ xt.drop kk.toNat)) b6.symm c6
        have tk : Tk G3 (LK.hb (L2.upd G3 l6 (.lst (xt.take kk.toNat ++ [.ref t] ++ xt.drop kk.toNat))) b) := (Tk.upd (KG.hd q6 b6)).trans (Tk.hb B10)
        have ne6 : e ≠ l6 := fun z => by rw [z, KG1.hd q6 b6] at e0; cases e0
        have neb := new_ne BG1 e0
        have he : SL K (LK.hb (L2.upd G3 l6 (.lst (xt.take kk.toNat ++ [.ref t] ++ xt.drop kk.toNat))) b) (.ref t) (true, []) := ⟨t, e, [], rfl, seqT_tk tk (.inl (.inl t1)), by rw [hb_ne neb, upd_ne ne6]; exact u3 _ _ e1, .nil⟩
        refine ⟨_, _, _, l6, 0, 0, 0, xr, xg, xp, _, ⟨x.s, x.n, x.w, x.rest, x.sg, x.pl, x.st.take kk.toNat ++ [(true, [])] ++ x.st.drop kk.toNat⟩, rfl, B10.le (by omega), K10, by rw [upd_ne nf6.symm]; exact KG.hd qf bf, by rw [upd_ne n63]; exact KG.hd (s9 _ _ m3) b3, by rw [upd_ne n64]; exact KG.hd (s9 _ _ m4) b4, by rw [upd_ne n65]; exact KG.hd (s9 _ _ m5) b5, upd_same, b6, i3, i4, i5, ((i6.take _).app (.cons he .nil)).app (i6.drop _), ?_⟩
        refine ⟨g.s, g.n, g.w, g.rest.le (by decide) (Int.le_refl _) gw.2, ⟨g.sg.1, fun l hl => (g.sg.2 l hl).le (by decide) (Int.le_refl _) gw.2⟩, ⟨g.pl.1, fun l hl => (g.pl.2 l hl).le (by decide) (Int.le_refl _) gw.2⟩, ⟨?_, fun l hl => ?_⟩⟩
        · show (x.st.take kk.toNat ++ [(true, [])] ++ x.st.drop kk.toNat).length ≤ 100
          rw [List.length_append, List.length_append, List.length_take, List.length_drop, List.length_singleton]
          omega
        · have : l ∈ x.st ∨ l = (true, []) := by
            rcases List.mem_append.mp hl with hl | hl
            · rcases List.mem_append.mp hl with hl | hl
              · exact .inl (List.mem_of_mem_take hl)
              · exact .inr (List.mem_singleton.mp hl)
            · exact .inl (List.mem_of_mem_drop hl)
          rcases this with q | rfl
          · exact (g.st.2 l q).le (by decide) (Int.le_refl _) gw.2
          · exact ⟨Nat.zero_le _, fun p hp => absurd hp (by simp)⟩
      case w8 =>
        intro U hU
        walk_at "rs"
        have q6 := s9 _ _ m6
        have qf := s9 _ _ f01
        refine ite2 (fun c7 => ⟨_, SqL.of qf, .ref l6, rfl, l6, rfl, _, .inl (SqL.of q6), ite2 (fun cc => ?_) (fun _ => hU)⟩) (fun _ => hU)
        refine seq_op fun N2 hN2 => ?_
        walk_at "rs"
        refine ⟨_, SqL.of qf, .ref l6, rfl, l6, rfl, _, .inl (SqL.of q6), b, c, (xt.length : Int), N0 + 498, rfl, (B8.same s9).le (by omega), by omega, by omega, fun kk G1 k0 k1 BG1 KG1 => hN2 _ _ ?_⟩
        clear hN2 N2
        have gf := KG1.hd qf bf
        have g3 := KG1.hd (s9 _ _ m3) b3
        have g4 := KG1.hd (s9 _ _ m4) b4
        have g5 := KG1.hd (s9 _ _ m5) b5
        have g6 := KG1.hd q6 b6
        have KK1 : Kp b H G1 := Same.trans (Same.trans K8 (Kp.of s9)) KG1
        obtain ⟨v, hv⟩ : ∃ v, xt[kk.toNat]? = some v := ⟨_, List.getElem?_eq_getElem (by omega)⟩
        obtain ⟨sv, hsv, ⟨tv, pv, psv, rfl, htv, hpv, alv⟩⟩ := hit.get hv
        have htv1 : SqT K G1 tv [.str (kS sv.1), .ref pv] := Same.seqT (hb_le _ _) (Same.seqT KK1 htv)
        refine seq_op fun N2 hN2 => ?_
        walk_at "rs"
        refine ⟨_, SqL.of gf, .ref l6, rfl, l6, rfl, _, SqL.of g6, .ref tv, at_of (j := kk.toNat) (by omega) hv, hN2 _ _ ?_⟩
        clear hN2 N2
        walk_at "rs"
        refine ite2 (fun w8 => ?_) (fun _ => ite2 (fun w9 => ?_) (fun _ => ?_))
        · obtain ⟨npv, hpv1⟩ := hb_some (KK1 _ _ hpv)
          refine ⟨_, htv1, .str (kS sv.1), rfl, ?_⟩
          refine ⟨_, rfl, tv, _, 1, _, rfl, rfl, htv1, rfl, pv, psv, rfl, SqL.of hpv1, fun R hR => ⟨by decide, fun t G3 u3 t0 t1 => ?_⟩⟩
          have u2 : Same G1 (L2.upd G1 R (.lst psv.reverse)) := same_upd hR
          have nRb := new_ne BG1 hR
          have R1 := u3 R _ (upd_same : (L2.upd G1 R (.lst psv.reverse)) R = some (.lst psv.reverse))
          have u13 := Same.trans u2 u3
          refine ⟨_, SqL.of (u13 _ _ gf), .ref l6, rfl, l6, rfl, _, u13 _ _ g6, kk.toNat, ixn k0 k1, hN _ _ ?_⟩
          have K10 := up (o := .lst (xt.set kk.toNat (.ref t))) (Same.trans KK1 (Kp.of u13)) z6
          obtain ⟨i3, i4, i5, i6⟩ := G8 K10
          have B10 := (BG1.same u13).upd (o := .lst (xt.set kk.toNat (.ref t))) b6.symm c6
          have tk : Tk G3 (LK.hb (L2.upd G3 l6 (.lst (xt.set kk.toNat (.ref t)))) b) := (Tk.upd (u13 _ _ g6)).trans (Tk.hb B10)
          have nR6 : R ≠ l6 := fun z => by rw [z, g6] at hR; cases hR
          have hT : SL K (LK.hb (L2.upd G3 l6 (.lst (xt.set kk.toNat (.ref t)))) b) (.ref t) (sv.1, sv.2.reverse) := ⟨t, R, _, rfl, seqT_tk tk (.inl (.inl t1)), by rw [hb_ne nRb, upd_ne nR6]; exact R1, (alv.imp fun _ _ h => h.same K10).rev⟩
          refine ⟨_, _, _, l6, 0, 0, 0, xr, xg, xp, _, ⟨x.s, x.n, x.w, x.rest, x.sg, x.pl, x.st.set kk.toNat (sv.1, sv.2.reverse)⟩, rfl, B10.le (by omega), K10, by rw [upd_ne nf6.symm]; exact u13 _ _ gf, by rw [upd_ne n63]; exact u13 _ _ g3, by rw [upd_ne n64]; exact u13 _ _ g4, by rw [upd_ne n65]; exact u13 _ _ g5, upd_same, b6, i3, i4, i5, i6.set _ hT, ?_⟩
          refine ⟨g.s, g.n, g.w, g.rest.le (by decide) (Int.le_refl _) gw.2, ⟨g.sg.1, fun l hl => (g.sg.2 l hl).le (by decide) (Int.le_refl _) gw.2⟩, ⟨g.pl.1, fun l hl => (g.pl.2 l hl).le (by decide) (Int.le_refl _) gw.2⟩, ⟨by show (x.st.set kk.toNat (sv.1, sv.2.reverse)).length ≤ 100; rw [List.length_set]; exact gst, fun l hl => ?_⟩⟩
          rcases List.mem_or_eq_of_mem_set hl with hl | rfl
          · exact (g.st.2 l hl).le (by decide) (Int.le_refl _) gw.2
          · have gsv := g.st.2 sv (List.mem_of_getElem? hsv)
            exact ⟨by show sv.2.reverse.length ≤ 3; rw [List.length_reverse]; exact gsv.len, fun p hp => (gsv.it p (List.mem_reverse.mp hp)).le (by decide) (Int.le_refl _) gw.2⟩
        · refine ⟨_, SqL.of gf, .ref l6, rfl, l6, rfl, _, SqL.of g6, fun q1 G2 u2 q10 q11 => ⟨_, SqL.of (u2 _ _ gf), .ref l6, rfl, l6, rfl, _, SqL.of (u2 _ _ g6), fun q2 G3 u3 q20 q21 => ⟨_, u3 _ _ q11, _, q21, ?_, fun R G4 u4 R0 R1 => ?_⟩⟩⟩
          · have e1 : cutV xt (some kk) none = xt.drop kk.toNat := by
              have := cutV_drop xt kk.toNat
              rwa [Int.toNat_of_nonneg k0] at this
            have e2 : cutV xt none (some kk) = xt.take kk.toNat := by
              have := cutV_take xt kk.toNat
              rwa [Int.toNat_of_nonneg k0] at this
            rw [e1, e2, List.length_drop, List.length_take]
            exact Nat.le_trans (show _ ≤ 1000 by omega) (by decide)
          have u14 := Same.trans u2 (Same.trans u3 u4)
          refine ⟨_, u14 _ _ gf, 6, rfl, hN _ _ ?_⟩
          have e1 : cutV xt (some kk) none = xt.drop kk.toNat := by
            have := cutV_drop xt kk.toNat
            rwa [Int.toNat_of_nonneg k0] at this
          have e2 : cutV xt none (some kk) = xt.take kk.toNat := by
            have := cutV_take xt kk.toNat
            rwa [Int.toNat_of_nonneg k0] at this
          rw [e1, e2] at R1
          have K10 := up (o := .lst [.int x.s, .int x.n, .int x.w, .ref l3, .ref l4, .ref l5, .ref R]) (Same.trans KK1 (Kp.of u14)) zf
          obtain ⟨i3, i4, i5, i6⟩ := G8 K10
          have nRf : R ≠ f0 := fun z => by
            have := u3 _ _ (u2 _ _ gf)
            rw [z, this] at R0; cases R0
          have nRb := new_ne ((BG1.same u2).same u3) R0
          refine ⟨_, _, _, R, 0, 0, 0, xr, xg, xp, _, ⟨x.s, x.n, x.w, x.rest, x.sg, x.pl, x.st.drop kk.toNat ++ x.st.take kk.toNat⟩, rfl, ((BG1.same u14).le (by omega)).upd bf.symm cf, K10, upd_same, by rw [upd_ne nf3]; exact u14 _ _ g3, by rw [upd_ne nf4]; exact u14 _ _ g4, by rw [upd_ne nf5]; exact u14 _ _ g5, by rw [upd_ne nRf]; exact R1, nRb, i3, i4, i5, (i6.drop _).app (i6.take _), ?_⟩
          refine ⟨g.s, g.n, g.w, g.rest.le (by decide) (Int.le_refl _) gw.2, ⟨g.sg.1, fun l hl => (g.sg.2 l hl).le (by decide) (Int.le_refl _) gw.2⟩, ⟨g.pl.1, fun l hl => (g.pl.2 l hl).le (by decide) (Int.le_refl _) gw.2⟩, ⟨by show (x.st.drop kk.toNat ++ x.st.take kk.toNat).length ≤ 100; rw [List.length_append, List.length_drop, List.length_take]; omega, fun l hl => ?_⟩⟩
          rcases List.mem_append.mp hl with hl | hl
          · exact (g.st.2 l (List.mem_of_mem_drop hl)).le (by decide) (Int.le_refl _) gw.2
          · exact (g.st.2 l (List.mem_of_mem_take hl)).le (by decide) (Int.le_refl _) gw.2
        · refine ⟨_, SqL.of gf, .int x.w, rfl, b, c, N0, x.w, 2, rfl, BG1.le (by omega), gw.1, gw.2, by decide, by decide, fun v' sg' G2 BG2 KG2 hsl hgs => ?_⟩
          refine ⟨_, SqL.of (KG2.hd gf bf), .ref l6, rfl, l6, rfl, _, KG2.hd g6 b6, kk.toNat, ixn k0 k1, hN _ _ ?_⟩
          have K10 := up (o := .lst (xt.set kk.toNat v')) (Same.trans KK1 KG2) z6
          obtain ⟨i3, i4, i5, i6⟩ := G8 K10
          have B10 := BG2.upd (o := .lst (xt.set kk.toNat v')) b6.symm c6
          have x6 : G1 l6 ≠ none := by rw [g6]; exact Option.some_ne_none _
          have hT := (hsl.same (fr_upd (o := .lst (xt.set kk.toNat v')) (KG2.hd g6 b6) x6)).same (fr_hb BG1 B10)
          refine ⟨_, _, _, l6, 0, 0, 0, xr, xg, xp, _, ⟨x.s, x.n, x.w, x.rest, x.sg, x.pl, x.st.set kk.toNat sg'⟩, rfl, B10, K10, by rw [upd_ne nf6.symm]; exact KG2.hd gf bf, by rw [upd_ne n63]; exact KG2.hd g3 b3, by rw [upd_ne n64]; exact KG2.hd g4 b4, by rw [upd_ne n65]; exact KG2.hd g5 b5, upd_same, b6, i3, i4, i5, i6.set _ hT, ?_⟩
          refine ⟨g.s, g.n, g.w, g.rest.le (by decide) (Int.le_refl _) gw.2, ⟨g.sg.1, fun l hl => (g.sg.2 l hl).le (by decide) (Int.le_refl _) gw.2⟩, ⟨g.pl.1, fun l hl => (g.pl.2 l hl).le (by decide) (Int.le_refl _) gw.2⟩, ⟨by show (x.st.set kk.toNat sg').length ≤ 100; rw [List.length_set]; exact gst, fun l hl => ?_⟩⟩
          rcases List.mem_or_eq_of_mem_set hl with hl | rfl
          · exact (g.st.2 l hl).le (by decide) (Int.le_refl _) gw.2
          · exact hgs.le (by decide) (Int.le_refl _) gw.2
      case wz =>
        walk_at "rs"
        have q3 := s9 _ _ m3
        refine ⟨_, SqL.of (s9 _ _ f01), .ref l3, rfl, .inl ⟨rfl, _, SqL.of q3⟩, l3, _, rfl, rfl, q3, hN _ _ ?_⟩
        have K10 := up (o := .lst xr.reverse) (Same.trans K8 (Kp.of s9)) z3
        obtain ⟨i3, i4, i5, i6⟩ := G8 K10
        refine ⟨_, _, _, l6, 0, 0, 0, _, xg, xp, xt, ⟨x.s, x.n, x.w, x.rest.reverse, x.sg, x.pl, x.st⟩, rfl, ((B8.same s9).le (by omega)).upd b3.symm c3, K10, by rw [upd_ne nf3.symm]; exact s9 _ _ f01, upd_same, by rw [upd_ne n43.symm]; exact s9 _ _ m4, by rw [upd_ne n53.symm]; exact s9 _ _ m5, by rw [upd_ne n63.symm]; exact s9 _ _ m6, b6, i3.rev, i4, i5, i6, ?_⟩
        have gr : Gi 400 1 x.w x.rest.reverse := ⟨g.rest.hd, g.rest.w2, g.rest.ft.perm (List.reverse_perm _), fun z hz => g.rest.bd z (List.mem_reverse.mp hz)⟩
        exact ⟨g.s, g.n, g.w, gr.le (by decide) (Int.le_refl _) gw.2, ⟨g.sg.1, fun l hl => (g.sg.2 l hl).le (by decide) (Int.le_refl _) gw.2⟩, ⟨g.pl.1, fun l hl => (g.pl.2 l hl).le (by decide) (Int.le_refl _) gw.2⟩, ⟨g.st.1, fun l hl => (g.st.2 l hl).le (by decide) (Int.le_refl _) gw.2⟩⟩
    · rintro σ G ⟨x1, x3, x4, q6, s', n', w', r3, r4, r5, r6, y, rfl, BG, KG, e0, e3, e4, e5, e6, nq, i3, i4, i5, i6, gy⟩
      walk_at "rs"
      exact kq _ y G BG KG ⟨f0, _, _, _, _, rfl, by rw [hb_ne bf]; exact e0, ⟨l3, r3, rfl, by rw [hb_ne b3]; exact e3, i3⟩, ⟨l4, r4, rfl, by rw [hb_ne b4]; exact e4, i4⟩, ⟨l5, r5, rfl, by rw [hb_ne b5]; exact e5, i5⟩, ⟨q6, r6, rfl, by rw [hb_ne nq]; exact e6, i6⟩⟩ gy
end
end LK

set_option Elab.async false
set_option linter.all false
set_option maxRecDepth 100000
namespace LK
open PySem PySem.Spec PyProof.Rows L2
local macro_rules | `(tactic| walk_at "rs") => `(tactic| simp only [tFld, sFld, tMeth, tMethZ, tMakeK, tProp, tFmt, rEqO, rNeO, cxK, cxNK, tCallZ, tAsg, tOp, rI0, rS0, rB0, rI, rU, tUn, rEq, rNe, rIxL, rIxT, rIxS, rSetL, rSlLU, rSlS, rSlU, rCatL, rCatU, rRepL, rIn, tVar, tC, gName, gSub, tIfS, tTest, tB, tAnd, tOr, tNot, tNotV, tAndV, tOrV, tIf, tCall, tCons, tNil, tCB, tDrop, tRet, tRetN, tNext, tLstU, tTupU, tM0, tM1, tPar, tPar3, tAug, ipI, tBM, tBM0, rAppend, rPop, tBreak, sDPut, tDGet, tDGet2, tCont, tChain, tSl, tPart, tNoPart, L2.start, List.map, List.length_cons, List.length_nil, List.replicate, List.cons_append, List.nil_append, List.append_nil, List.getElem?_cons_zero, List.getElem?_cons_succ, List.set_cons_zero, List.set_cons_succ, Option.some.injEq, V.int.injEq, V.ref.injEq, V.str.injEq, V.bl.injEq, exists_eq_left', exists_eq_left, exists_and_left, decide_eq_true_eq, List.cons.injEq, and_true, true_and, scal, Bool.not_eq_true', decide_eq_false_iff_not, Nat.zero_add, Nat.reduceAdd, Nat.reduceSub, reduceCtorEq, false_and, exists_false, false_or, or_false, CPow, CPowW, CMul, CDiv, Int.reduceToNat, ↓reduceIte, wipe, sw, List.nil_append, List.singleton_append])
local macro_rules | `(tactic| walk_at "st") => `(tactic| (refine seq_op fun N hN => ?_; walk_at "rs"))
local macro_rules | `(tactic| walk_at "sd") => `(tactic| first | assumption | decide | omega)
local macro_rules | `(tactic| walk_at "rd") => `(tactic| repeat (first
  | refine ⟨_, SqL.of (by assumption), ?_⟩ | refine ⟨_, SqL.of upd_same, ?_⟩ | refine ⟨_, .inl (SqL.of (by assumption)), ?_⟩ | refine ⟨_, (by assumption : _ = some (HO.lst _)), ?_⟩ | refine ⟨_, upd_same, ?_⟩
  | refine ⟨_, rfl, ?_⟩ | refine And.intro (by walk_at "sd") ?_))

section
variable {P : Program} {w : World} {K : PySem.W.Frag} {mg : Str → Option Value} {base : Heap}
theorem ok__law_of (T : Txt w K mg) : FnOk P w K mg base CX0 2 T.a__law_of T.d__law_of ["bag", "things"] (sp__law_of K) := by
  refine T.F__law_of.ok sc__law_of (fun vs H Q E h => ?_) (fun cdv A outer s H vs Q E hr h => ?_)
  · obtain ⟨b, c, x, ys, N0, rfl, _⟩ := h
    rfl
  · obtain ⟨b, c, x, ys, N0, rfl, B, sq, sqb, ne, hl, k⟩ := h
    have hr__law_draw : Room 1 _ := hr.mono (by decide)
    have G__law_draw := ok__law_draw (P := P) (base := base) T
    refine ⟨_, (pss_one (ps_ret (pe_ix ix_seq (pv 1) (pe_call G__law_draw hr__law_draw (by rfl) T.m__law_draw T.F__law_draw.kp T.B__law_draw .nil pass0 (pa_cons (pv 0) (pa_cons (pe_callB call_len (by rfl) T.n_len (by decide +kernel) (pa_cons (pv 1) pa_nil)) pa_nil))) (fun _ _ => rfl)))), ?_⟩
    walk_at "rs"
    have ln : 0 < ys.length := by cases ys with | nil => exact absurd rfl ne | cons => exact Nat.succ_pos _
    have pick : ∀ (r : Int), 0 ≤ r → r < (ys.length : Int) → ∃ y, atI ys r = some y ∧ y ∈ ys := fun r r0 r1 => by
      have h1 : r.toNat < ys.length := by omega
      exact ⟨ys[r.toNat], at_of (j := r.toNat) (by omega) (List.getElem?_eq_getElem h1), List.getElem_mem h1⟩
    refine ⟨ys.length, ?_, b, c, _, N0, rfl, B, by omega, by omega, fun r H' r0 r1 B' K' => ?_⟩
    · rcases sq with ⟨p, rfl, h⟩ | ⟨p, rfl, h⟩ | ⟨z, rfl, hz, rfl⟩
      · exact .inl ⟨_, h, rfl⟩
      · exact .inr ⟨_, h, rfl⟩
      · refine ⟨Nat.le_trans hz (by decide), ?_⟩
        rw [List.length_map, Array.length_toList] <;> rfl
    · obtain ⟨y, e, hy⟩ := pick r r0 r1
      rcases sqb with ⟨p, rfl, h⟩ | ⟨p, rfl, h⟩ | ⟨z, rfl, hz, rfl⟩
      · exact .inl ⟨p, ys, r, y, rfl, rfl, Same.seq (hb_le _ _) (Same.seq K' h), e, k y H' hy B' K'⟩
      · exact .inr (.inl ⟨p, ys, r, y, rfl, rfl, Same.seqT (hb_le _ _) (Same.seqT K' h), e, k y H' hy B' K'⟩)
      · refine .inr (.inr ?_)
        have h1 : r.toNat < z.cps.toList.length := by rw [List.length_map] at r1; omega
        have e2 : atI z.cps.toList r = some z.cps.toList[r.toNat] := at_ofN (j := r.toNat) (by omega) (List.getElem?_eq_getElem h1)
        refine ⟨z, r, _, rfl, rfl, Nat.le_trans hz (by decide), e2, k _ H' ?_ B' K'⟩
        exact List.mem_map.mpr ⟨_, List.getElem_mem h1, rfl⟩
end
end LK

set_option Elab.async false
set_option linter.all false
set_option maxRecDepth 100000
namespace LK
open PySem PySem.Spec PyProof.Rows L2
local macro_rules | `(tactic| walk_at "rs") => `(tactic| simp only [tFld, sFld, tMeth, tMethZ, tMakeK, tProp, tFmt, rEqO, rNeO, cxK, cxNK, tCallZ, tAsg, tOp, rI0, rS0, rB0, rI, rU, tUn, rEq, rNe, rIxL, rIxT, rIxS, rSetL, rSlLU, rSlS, rSlU, rCatL, rCatU, rRepL, rIn, tVar, tC, gName, gSub, tIfS, tTest, tB, tAnd, tOr, tNot, tNotV, tAndV, tOrV, tIf, tCall, tCons, tNil, tCB, tDrop, tRet, tRetN, tNext, tLstU, tTupU, tM0, tM1, tPar, tPar3, tAug, ipI, tBM, tBM0, rAppend, rPop, tBreak, sDPut, tDGet, tDGet2, tCont, tChain, tSl, tPart, tNoPart, L2.start, List.map, List.length_cons, List.length_nil, List.replicate, List.cons_append, List.nil_append, List.append_nil, List.getElem?_cons_zero, List.getElem?_cons_succ, List.set_cons_zero, List.set_cons_succ, Option.some.injEq, V.int.injEq, V.ref.injEq, V.str.injEq, V.bl.injEq, exists_eq_left', exists_eq_left, exists_and_left, decide_eq_true_eq, List.cons.injEq, and_true, true_and, scal, Bool.not_eq_true', decide_eq_false_iff_not, Nat.zero_add, Nat.reduceAdd, Nat.reduceSub, reduceCtorEq, false_and, exists_false, false_or, or_false, CPow, CPowW, CMul, CDiv, Int.reduceToNat, ↓reduceIte, wipe, sw, List.nil_append, List.singleton_append])
local macro_rules | `(tactic| walk_at "st") => `(tactic| (refine seq_op fun N hN => ?_; walk_at "rs"))
local macro_rules | `(tactic| walk_at "sd") => `(tactic| first | assumption | decide | omega)
local macro_rules | `(tactic| walk_at "rd") => `(tactic| repeat (first
  | refine ⟨_, SqL.of (by assumption), ?_⟩ | refine ⟨_, SqL.of upd_same, ?_⟩ | refine ⟨_, .inl (SqL.of (by assumption)), ?_⟩ | refine ⟨_, (by assumption : _ = some (HO.lst _)), ?_⟩ | refine ⟨_, upd_same, ?_⟩
  | refine ⟨_, rfl, ?_⟩ | refine And.intro (by walk_at "sd") ?_))

section
variable {P : Program} {w : World} {K : PySem.W.Frag} {mg : Str → Option Value} {base : Heap}
def sp_law (K : PySem.W.Frag) : Sp := fun vs H Q _ => ∃ (a : Addr) (ns : List Int), vs = [.ref a] ∧ SqL K H a (ns.map V.int) ∧ ns.length ≤ 63 ∧ ∀ H', Q (.bl true) H'
abbrev cxLaw (P : Program) (w : World) (K : PySem.W.Frag) (mg : Str → Option Value) (base : Heap) (f : Addr) (cdv : Value) (A : Around) (outer : List Env) (s : Shared) (H : Hp) (E : XK) : Cx := (cxOf CX0 P w K mg base N_law "law" (defScope s_law) f cdv A outer s H E).nox
/-- a sheet's seven things out of its list -/
theorem dpD_inv {H : Hp} {u : V} {x : Nd} (h : Dp K H u (dD x)) : ∃ a e1 e2 e3 e4, u = .ref a ∧ SqL K H a [.int x.s, .int x.n, .int x.w, e1, e2, e3, e4] ∧ Dp K H e1 (dI x.rest) ∧ Dp K H e2 (dRs x.sg) ∧ Dp K H e3 (dRs x.pl) ∧ Dp K H e4 (dSs x.st) := by
  cases h with
  | lst h1 h2 => cases h2 with
    | cons a1 h2 => cases h2 with
      | cons a2 h2 => cases h2 with
        | cons a3 h2 => cases h2 with
          | cons a4 h2 => cases h2 with
            | cons a5 h2 => cases h2 with
              | cons a6 h2 => cases h2 with
                | cons a7 h2 =>
                  cases h2
                  cases a1
                  cases a2
                  cases a3
                  exact ⟨_, _, _, _, _, rfl, h1, a4, a5, a6, a7⟩
theorem dpD_mk {H : Hp} {a : Addr} {x : Nd} {e1 e2 e3 e4 : V} (h : SqL K H a [.int x.s, .int x.n, .int x.w, e1, e2, e3, e4]) (h1 : Dp K H e1 (dI x.rest)) (h2 : Dp K H e2 (dRs x.sg)) (h3 : Dp K H e3 (dRs x.pl)) (h4 : Dp K H e4 (dSs x.st)) : Dp K H (.ref a) (dD x) := .lst h (.cons (.int _) (.cons (.int _) (.cons (.int _) (.cons h1 (.cons h2 (.cons h3 (.cons h4 .nil)))))))
theorem eqO_at (T : Txt w K mg) {G : Hp} {v u : V} {y z : Nd} {R : Bool → Hp → Prop} (hv : NA K G T.A_Net v y) (hu : NA K G T.A_Net u z) (oy : OkN y) (oz : OkN z) (q : R (eqN y z) G) : ∃ a, v = .ref a ∧ ∃ dx fs, G a = some (.ins T.A_Net dx fs) ∧ ∃ t, TyX K G u t ∧ PySem.W.notFirst K T.A_Net t = true ∧ sp_eq K T.A_Net [v, u] G (fun v' H' => ∃ k, v' = .bl k ∧ R k H') E0 := by
  obtain ⟨a, dx, r1, r2, r3, r4, rfl, ha, _⟩ := id hv
  obtain ⟨b, dy, s1, s2, s3, s4, rfl, hb, _⟩ := id hu
  exact ⟨a, rfl, _, _, ha, .ref T.A_Net, .base (.ins hb T.C_Net T.cl_Net T.cg_Net T.ct_Net T.mr_Net), T.nf_Net, .ref a, y, .ref b, rfl, hv, oy, .inl ⟨z, hu, oz, _, rfl, q⟩⟩
theorem ok4 (k : Bool) : okD (.list [.bool k, .bool true, .bool true, .int 0]) = true ∧ dep (.list [.bool k, .bool true, .bool true, .int 0]) ≤ 8 := by cases k <;> decide
theorem law18 (T : Txt w K mg) {cdv : Value} {A : Around} {outer : List Env} {s : Shared} {H0 : Hp} {E : XK} (hr : Room 12 (A.deeper (envOfC "law" (defScope s_law) s.heap.objs.size T.a_law cdv))) : ∃ t, PSs (cxLaw P w K mg base T.a_law cdv A outer s H0 E) ((defBody s_law).drop 18) t ∧
    ∀ (D : Ends) (σ : L2.St) (H : Hp) (b c : Addr) (wd : Int) (vdue vnet vtwin : V) (nx : Nd) (x0 x2 x3 x5 x6 x8 x11 x12 x13 x14 : Option V), (∀ H', D.rt (.bl true) H') →
      σ = [x0, some (.ref b), x2, x3, some (.int wd), x5, x6, some vdue, x8, some vnet, some vtwin, x11, x12, x13, x14, none, none, none, none, none, none] → Bag 2000 H b c → 1 ≤ wd → wd = nx.w → Gn 1002 nx → nfN nx = nx → Dp K (hb H b) vdue (dD nx) → NA K H T.A_Net vnet nx → NA K H T.A_Net vtwin nx → t D σ H := by
  have hr__law_draw : Room 1 _ := hr.mono (by decide)
  have G__law_draw := ok__law_draw (P := P) (base := base) T
  have hr__law_stage : Room 5 _ := hr.mono (by decide)
  have G__law_stage := ok__law_stage (P := P) (base := base) T
  have hr__law_loose : Room 3 _ := hr.mono (by decide)
  have G__law_loose := ok__law_loose (P := P) (base := base) T
  have hr_Net__with_stages : Room 10 _ := hr.mono (by decide)
  have G_Net__with_stages := ok_Net__with_stages (P := P) (base := base) T
  have hr__law_settled_stage : Room 5 _ := hr.mono (by decide)
  have G__law_settled_stage := ok__law_settled_stage (P := P) (base := base) T
  have hr__law_told : Room 12 _ := hr
  have G__law_told := ok__law_told (P := P) (base := base) T
  have hr_Net__eq : Room 1 _ := hr.mono (by decide)
  have G_Net__eq := ok_Net__eq (P := P) (base := base) T
  have hr_Net__stages : Room 1 _ := hr.mono (by decide)
  have G_Net__stages := ok_Net__stages (P := P) (base := base) T
  have hr_Net__layers : Room 2 _ := hr.mono (by decide)
  have G_Net__layers := ok_Net__layers (P := P) (base := base) T
  have hr__law_like : Room 9 _ := hr.mono (by decide)
  have G__law_like := ok__law_like (P := P) (base := base) T 8
  refine ⟨_, (pss_cons (ps_setLc (i := 15) (own := [("k", 19)]) (g := gName 19) (tt := tYes) rfl sc_law.nd rfl rfl (sw_true rfl rfl rfl (by decide +kernel)) (pi_range1 (by rfl) T.n_range (pa_cons (pe_call G__law_draw hr__law_draw (by rfl) T.m__law_draw T.F__law_draw.kp T.B__law_draw .nil pass0 (pa_cons (pv 1) (pa_cons pe_int pa_nil))) pa_nil)) (blkOk_by (own := [("k", 19)]) (N := N_law) (sc := defScope s_law) (by decide +kernel)) (fun _ _ _ _ _ => pg_name (i := 19) sc_law.nd rfl (Or.inl rfl)) (fun _ _ _ _ _ => pts_nil) (fun _ _ _ _ _ => (pe_call G__law_stage hr__law_stage (by rfl) T.m__law_stage T.F__law_stage.kp T.B__law_stage .nil pass0 (pa_cons (pv 1) (pa_cons (pv 4) (pa_cons pe_int pa_nil))))))
      (pss_cons (ps_setLc (i := 16) (own := [("one", 20)]) (g := gName 20) (tt := tYes) rfl sc_law.nd rfl rfl (sw_true rfl rfl rfl (by decide +kernel)) (pi_list (pv 15)) (blkOk_by (own := [("one", 20)]) (N := N_law) (sc := defScope s_law) (by decide +kernel)) (fun _ _ _ _ _ => pg_name (i := 20) sc_law.nd rfl (Or.inl rfl)) (fun _ _ _ _ _ => pts_nil) (fun _ _ _ _ _ => (pe_call G__law_loose hr__law_loose (by rfl) T.m__law_loose T.F__law_loose.kp T.B__law_loose .nil pass0 (pa_cons (pv 1) (pa_cons (pv 20) pa_nil)))))
      (pss_cons (ps_set (i := 17) sc_law.nd rfl (Or.inl rfl) (pe_ifExp (pt_cmpR op_eqI (pe_call G__law_draw hr__law_draw (by rfl) T.m__law_draw T.F__law_draw.kp T.B__law_draw .nil pass0 (pa_cons (pv 1) (pa_cons pe_int pa_nil))) pe_int (nomark _)) (pe_methZ (pv 9) T.C_Net T.mt_Net__with_stages G_Net__with_stages hr_Net__with_stages T.Z_Net__with_stages pass0 (pk_cons (pv 16) pk_nil)) (pe_meth (pv 9) T.C_Net T.mt_Net__with_stages G_Net__with_stages hr_Net__with_stages T.B_Net__with_stages .nil pass0 (pa_cons (pv 16) pa_nil))))
      (pss_cons (ps_expr (pe_bm PySem.F.plainAttrs_list PySem.F.slot_list_append PySem.F.type_list_append mt_append (pv 16) (pa_cons (pe_tupU (pa_cons pe_str (pa_cons (pe_tupU pa_nil) pa_nil))) pa_nil)))
      (pss_cons (ps_set (i := 18) sc_law.nd rfl (Or.inl rfl) (pe_op op_catL (pe_slice sl_listU (pv 7) po_none (po_some pe_int)) (pe_lstU (pa_cons (pe_callTy call_tupleN (by rfl) T.n_tuple (by decide +kernel) (pa_cons (pe_lc (own := [("one", 20)]) (g := gName 20) (tt := tYes) rfl sc_law.nd (pi_list (pv 15)) (blkOk_by (own := [("one", 20)]) (N := N_law) (sc := defScope s_law) (by decide +kernel)) (fun _ _ _ _ _ => pg_name (i := 20) sc_law.nd rfl (Or.inl rfl)) (fun _ _ _ _ _ => pts_nil) (fun _ _ _ _ _ => (pe_call G__law_settled_stage hr__law_settled_stage (by rfl) T.m__law_settled_stage T.F__law_settled_stage.kp T.B__law_settled_stage .nil pass0 (pa_cons (pv 20) pa_nil)))) pa_nil)) pa_nil))))
      (pss_cons (ps_if (PW.pt (pw_or (pt_not (pt_val (pe_call G__law_told hr__law_told (by rfl) T.m__law_told T.F__law_told.kp T.B__law_told .nil pass0 (pa_cons (pv 17) (pa_cons (pv 18) pa_nil))))) (pw_or1 (pt_not (pt_val (pe_call G__law_told hr__law_told (by rfl) T.m__law_told T.F__law_told.kp T.B__law_told .nil pass0 (pa_cons (pv 9) (pa_cons (pv 7) pa_nil)))))))) (pss_one (ps_ret pe_bl)) pss_nil)
      (pss_cons (ps_set (i := 14) sc_law.nd rfl (Or.inl rfl) (pe_lstU (pa_cons (pe_cmpR (op_eqO G_Net__eq hr_Net__eq T.fi_eq T.ff_eq T.B_Net__eq pass0) (pv 17) (pv 9) (nomark _)) (pa_cons (pe_cmpR (op_eqO G_Net__eq hr_Net__eq T.fi_eq T.ff_eq T.B_Net__eq pass0) (pe_meth (pv 9) T.C_Net T.mt_Net__with_stages G_Net__with_stages hr_Net__with_stages T.B_Net__with_stages .nil pass0 (pa_cons (pe_ix ix_list (pv 7) pe_int (fun _ _ => rfl)) pa_nil)) (pv 9) (nomark _)) (pa_cons (pe_cmpR (op_eqO G_Net__eq hr_Net__eq T.fi_eq T.ff_eq T.B_Net__eq pass0) (pe_meth (pv 17) T.C_Net T.mt_Net__with_stages G_Net__with_stages hr_Net__with_stages T.B_Net__with_stages .nil pass0 (pa_cons (pe_meth0 (pv 9) T.C_Net T.mt_Net__stages G_Net__stages hr_Net__stages T.B_Net__stages .nil pass0) pa_nil)) (pv 10) (nomark _)) pa_nil)))))
      (pss_cons (ps_expr (pe_bm PySem.F.plainAttrs_list PySem.F.slot_list_append PySem.F.type_list_append mt_append (pv 14) (pa_cons (pe_prop (pe_meth (pv 9) T.C_Net T.mt_Net__with_stages G_Net__with_stages hr_Net__with_stages T.B_Net__with_stages .nil pass0 (pa_cons (pe_tupU pa_nil) pa_nil)) T.C_Net T.P_Net__layers G_Net__layers hr_Net__layers T.B_Net__layers .nil pass0 rfl) pa_nil)))
      (pss_one (ps_ret (pe_call G__law_like hr__law_like (by rfl) T.m__law_like T.F__law_like.kp T.B__law_like .nil pass0 (pa_cons (pv 14) (pa_cons (pe_lstU (pa_cons (pe_cmpR (op_eqD hr.units) (pv 18) (pv 7) (nomark _)) (pa_cons pe_bl (pa_cons pe_bl (pa_cons pe_int pa_nil))))) pa_nil))))))))))))), ?_⟩
  rintro D σ H b c wd vdue vnet vtwin nx x0 x2 x3 x5 x6 x8 x11 x12 x13 x14 k rfl B w1 ew g fx hdue hnet htwin
  obtain ⟨na, ndx, nr1, nr2, nr3, nr4, rfl, hna, hn1, hn2, hn3, hn4⟩ := id hnet
  have w2 := g.w.2
  refine seq_op fun N hN => ?_
  walk_at "rs"
  refine ⟨_, rfl, b, c, 4, 1999, rfl, B, by decide, by decide, fun r1 H1 r10 r11 B1 K1 => ⟨r1, rfl, by omega, by omega, fun Dl hDl => ?_⟩⟩
  refine lc_drawF (n := r1.toNat) (k := 400) (N := 500) (fun G v => ∃ s, SL K G v s ∧ Gs 400 wd s) (fun G G' v s ⟨l, h1, h2⟩ => ⟨l, h1.same s, h2⟩) hDl (B1.le (by omega)) (by omega) (fun x H4 M K4 B4 Q2 hq => ?_) fun H4 vs B4 K4 h4 lv hv => hN _ _ ?_
  · walk_at "rs"
    exact ⟨b, c, M, wd, 3, rfl, B4, w1, by omega, by decide, by decide, fun v sg H5 B5 K5 h1 h2 => hq v H5 B5 K5 ⟨sg, h1, h2⟩⟩
  clear hN N
  obtain ⟨sts, al⟩ := Al.ex hv
  have nDb := new_ne B1 hDl
  have cD : c ≠ Dl := fun e => by
    obtain ⟨xc, ec⟩ := B1.at2
    rw [← e, ec] at hDl; cases hDl
  have lsts : sts.length ≤ 3 := by have := al.len; omega
  have gsts : ∀ s ∈ sts, Gs 400 wd s := fun s hs => (al.mem' hs).choose_spec.2.2
  replace al : Al (SL K (LK.hb H4 b)) vs sts := al.imp fun _ _ h => h.1.same (fr_hb (B1.upd (o := .lst []) (Ne.symm nDb) cD) B4)
  have K04 : Kp b H H4 := Same.trans K1 K4
  refine seq_op fun N hN => ?_
  walk_at "rs"
  refine lc_drawL (K := K) (a := Dl) (xs := vs) (k := 20) (N := 100) sts (fun G v s => SW K G [] v s) (fun G G' v l s h => h.same s) (fun Q q => ⟨_, rfl, q⟩) h4 nDb (B4.le (by have := al.len; omega)) (by have := al.len; omega) al.len (fun j v y J M hx1 hy1 KJ BJ Q2 hq => ?_) fun D2 H5 us B5 K5 hD2 h5 al2 => hN _ _ ?_
  · obtain ⟨y', hy', hxy⟩ := al.get hx1
    rw [hy1] at hy'
    cases hy'
    walk_at "rs"
    exact ⟨b, c, M, v, y, rfl, BJ, hxy.same KJ, (gsts y (List.mem_of_getElem? hy1)).len, fun u H6 B6 K6 h1 => hq u H6 B6 K6 h1⟩
  clear hN N
  have nD2b := new_ne B4 hD2
  have K05 : Kp b H H5 := Same.trans K04 K5
  have cD2 : c ≠ D2 := fun e => by
    obtain ⟨xc, ec⟩ := B4.at2
    rw [← e, ec] at hD2; cases hD2
  have ssv5 : SsV K (LK.hb H5 b) (.ref D2) sts := ⟨D2, us, rfl, .inl (SqL.of (by rw [hb_ne nD2b]; exact h5)), al2.imp fun _ _ h => h.sv.same (fr_hb (B4.upd (o := .lst []) (Ne.symm nD2b) cD2) B5)⟩
  have gst3 : ∀ s ∈ sts, Gs 3900 nx.w s := fun s hs => by rw [← ew]; exact (gsts s hs).le (by decide) (Int.le_refl _) (by rw [ew]; exact w2)
  have g39 : Gn 3900 nx := ⟨g.s, g.n, g.w, g.rest.le (by decide) (Int.le_refl _) w2, ⟨g.sg.1, fun l hl => (g.sg.2 l hl).le (by decide) (Int.le_refl _) w2⟩, ⟨g.pl.1, fun l hl => (g.pl.2 l hl).le (by decide) (Int.le_refl _) w2⟩, ⟨g.st.1, fun l hl => (g.st.2 l hl).le (by decide) (Int.le_refl _) w2⟩⟩
  -- the net with other stages
  let nc : Nd := ⟨nx.s, nx.n, nx.w, nx.rest, nx.sg, nx.pl, sts.map nfS⟩
  refine cut_seq (fun σ G => ∃ vc : V, σ = [x0, some (.ref b), x2, x3, some (.int wd), x5, x6, some vdue, x8, some (.ref na), some vtwin, x11, x12, x13, x14, some (.ref Dl), some (.ref D2), some vc, none, none, none] ∧ Bag 50 G b c ∧ Kp b H5 G ∧ NA K G T.A_Net vc nc) (fun N hN => ?_) ?_
  · walk_at "rs"
    refine ⟨b, c, 3, 99, rfl, B5, by decide, by decide, fun r2 G1 _ _ BG1 KG1 => ⟨r2, rfl, ?_⟩⟩
    have K0G := Same.trans K05 KG1
    have hnG := hnet.tk (Tk.kp B K0G)
    have haG : G1 na = _ := Tk.kp B K0G _ _ hna (fun xs z => by cases z)
    have step : sp_ws K T.A_Net [.ref na, .ref D2] G1 (fun vc G => N [x0, some (.ref b), x2, x3, some (.int wd), x5, x6, some vdue, x8, some (.ref na), some vtwin, x11, x12, x13, x14, some (.ref Dl), some (.ref D2), some vc, none, none, none] G) E0 :=
      ⟨.ref na, nx, .ref D2, sts, rfl, hnG, fx, g39, (ssv5.same KG1).same (hb_le G1 b), by omega, gst3, fun t G' s' hc => hN _ _ ⟨t, rfl, (BG1.le (by omega)).same s', Same.trans KG1 (Kp.of s'), hc⟩⟩
    have lk : List.lookup (Str.ofString "with_stages") (fl [.int nx.s, .int nx.n, .int nx.w, nr1, nr2, nr3, nr4]) = none := rfl
    by_cases z : r2 = 0
    · rw [if_pos z]; exact ⟨_, _, haG, lk, step⟩
    · rw [if_neg z]; exact ⟨_, _, haG, lk, step⟩
  · rintro σ G ⟨vc, rfl, BG, KG, hc⟩
    have K0G := Same.trans K05 KG
    have d2G := KG.hd h5 nD2b
    have dlG := Kp.hd (Same.trans K5 KG) h4 nDb
    refine cut_seq (fun σ G' => σ = [x0, some (.ref b), x2, x3, some (.int wd), x5, x6, some vdue, x8, some (.ref na), some vtwin, x11, x12, x13, x14, some (.ref Dl), some (.ref D2), some vc, none, none, none] ∧ Tk G G' ∧ Kp b H4 G') (fun N hN => ?_) ?_
    · walk_at "rs"
      refine ⟨.inl ⟨rfl, us, SqL.of d2G⟩, Nat.zero_le _, fun p1 H2 s1 _ _ => ⟨by rw [sizeLine_eq]; omega, fun p2 H3 s2 _ _ => ⟨us, s2 _ _ (s1 _ _ d2G), by have := al2.len; rw [sizeLine_eq]; omega, hN _ _ ⟨rfl, ((Tk.of s1).trans (Tk.of s2)).trans (Tk.upd (s2 _ _ (s1 _ _ d2G))), ?_⟩⟩⟩⟩
      exact Kp.upd2 (Same.trans (Same.trans K5 KG) (Kp.of (s1.trans s2))) hD2
    rintro σ G1 ⟨rfl, TG1, KG1⟩
    have K01 := Same.trans K04 KG1
    have hc1 := hc.tk TG1
    have TH1 : Tk H G1 := (Tk.kp B K0G).trans TG1
    have hnet1 := hnet.tk TH1
    have htwin1 := htwin.tk TH1
    have due1 : Dp K G1 vdue (dD nx) := dp_same (hb_le G1 b) (dp_same K01 hdue)
    have dl1 := KG1.hd h4 nDb
    refine cut_seq (fun σ G' => ∃ vd : V, σ = [x0, some (.ref b), x2, x3, some (.int wd), x5, x6, some vdue, x8, some (.ref na), some vtwin, x11, x12, x13, x14, some (.ref Dl), some (.ref D2), some vc, some vd, none, none] ∧ Same G1 G' ∧ Dp K G' vd (dD nc)) (fun N hN => ?_) ?_
    · walk_at "rs"
      obtain ⟨ad, e1, e2, e3, e4, rfl, hl, he1, he2, he3, he4⟩ := dpD_inv due1
      refine ⟨ad, rfl, _, hl, fun p H2 s1 p0 p1 => ?_⟩
      refine lc_alL (K := K) (a := Dl) (xs := vs) (sts.map fun l => dS (nfS l)) (fun H v d => tdD d = true ∧ Dp K H v d) (fun G G' v d t h => ⟨h.1, dp_tk t h.1 h.2⟩) (fun Q q => ⟨_, rfl, q⟩) (SqL.of (s1 _ _ dl1)) (by have := al.len; omega) (by rw [List.length_map]; exact al.len) (fun j v y G hxj hyj s1' Q2 h2' => ?_) fun D3 H3 vs3 s3 _ e3' al3 => ?_
      · obtain ⟨z, hz, hvz⟩ := al.get hxj
        rw [List.getElem?_map, hz] at hyj
        obtain rfl : dS (nfS z) = y := Option.some.inj hyj
        walk_at "rs"
        exact ⟨v, 400, _, z, rfl, ((hvz.same KG1).same ((hb_le G1 b).trans (s1.trans s1'))).sv, gsts z (List.mem_of_getElem? hz), by decide, fun t H' s' h' => h2' _ _ s' ⟨td_S _, h'⟩⟩
      · refine ⟨D3, rfl, _, SqL.of e3', fun q H4' s4 q0 q1 => ⟨by rw [sizeLine_eq]; omega, fun p2 H5' s5 _ p25 => ⟨_, s5 _ _ (s4 _ _ (s3 _ _ p1)), _, p25, by rw [sizeLine_eq]; show 6 + 1 ≤ _; omega, fun p3 H6 s6 _ p36 => hN _ _ ⟨_, rfl, s1.trans (s3.trans (s4.trans (s5.trans s6))), ?_⟩⟩⟩⟩
        have sA : Same G1 H6 := s1.trans (s3.trans (s4.trans (s5.trans s6)))
        have sB : Same H3 H6 := s4.trans (s5.trans s6)
        refine dpD_mk (x := nc) (SqL.of p36) (dp_same sA he1) (dp_same sA he2) (dp_same sA he3) ?_
        refine Dp.tup (Same.seqT (s5.trans s6) (SqT.of q1)) ?_
        have e : nc.st.map dS = (sts.map fun l => dS (nfS l)) := by show (sts.map nfS).map dS = _; rw [List.map_map]; rfl
        rw [e]
        have := dpa_al (f := id) (al3.imp fun _ _ h => dp_same sB h.2)
        rwa [List.map_id] at this
    rintro σ G2 ⟨vd, rfl, s2, dd⟩
    have hc2 := hc1.same s2
    have hnet2 := hnet1.same s2
    have htwin2 := htwin1.same s2
    have due2 := dp_same s2 due1
    have gN : Gn 1002 nc := ⟨g.s, g.n, g.w, g.rest, g.sg, g.pl, by show (sts.map nfS).length ≤ 100; rw [List.length_map]; omega, fun s hs => by
      obtain ⟨s0, h0, rfl⟩ := List.mem_map.mp hs
      have := gsts s0 h0
      rw [ew] at this
      exact (this.nf (by decide)).le (by decide) (Int.le_refl _) w2⟩
    have gnc : OkN nc := gN.ok
    have gnx : OkN nx := g.ok
    refine cut_seq (fun σ G' => σ = [x0, some (.ref b), x2, x3, some (.int wd), x5, x6, some vdue, x8, some (.ref na), some vtwin, x11, x12, x13, x14, some (.ref Dl), some (.ref D2), some vc, some vd, none, none] ∧ Same G2 G') (fun N hN => ?_) ?_
    · walk_at "rs"
      refine ⟨_, vd, nc, rfl, hc2, dd, gnc, by rw [ew] at w1; exact w1, w2, fun H3 s3 => ⟨true, rfl, iteFF (by decide) ⟨_, vdue, nx, rfl, hnet2.same s3, dp_same s3 due2, gnx, by rw [ew] at w1; exact w1, w2, fun H4 s4 => ⟨true, rfl, iteFF (by decide) (hN _ _ ⟨rfl, s3.trans s4⟩)⟩⟩⟩⟩
    rintro σ G3 ⟨rfl, s3⟩
    have hc3 := hc2.same s3
    have hnet3 := hnet2.same s3
    have htwin3 := htwin2.same s3
    have due3 := dp_same s3 due2
    have dd3 := dp_same s3 dd
    refine cut_seq (fun σ G' => ∃ p : Addr, σ = [x0, some (.ref b), x2, x3, some (.int wd), x5, x6, some vdue, x8, some (.ref na), some vtwin, x11, x12, x13, some (.ref p), some (.ref Dl), some (.ref D2), some vc, some vd, none, none] ∧ Same G3 G' ∧ G3 p = none ∧ G' p = some (.lst [.bl (eqN nc nx), .bl true, .bl true])) (fun N hN => ?_) ?_
    · walk_at "rs"
      obtain ⟨ad, e1, e2, e3, e4, rfl, hl, he1, he2, he3, he4⟩ := dpD_inv due3
      have fst : nx.st.map nfS = nx.st := congrArg Nd.st fx
      have enx : (⟨nx.s, nx.n, nx.w, nx.rest, nx.sg, nx.pl, nx.st.map nfS⟩ : Nd) = nx := by rw [fst]
      have fnc : nfN nc = nc := by
        have h1 : LK.nf nx.rest = nx.rest := congrArg Nd.rest fx
        have h2 : nx.sg.map LK.nf = nx.sg := congrArg Nd.sg fx
        have h3 : nx.pl.map LK.nf = nx.pl := congrArg Nd.pl fx
        have h4 : (sts.map nfS).map nfS = sts.map nfS := by
          rw [List.map_map]
          exact List.map_congr_left fun s hs => (gsts s hs).nf2
        show (⟨nx.s, nx.n, nx.w, LK.nf nx.rest, nx.sg.map LK.nf, nx.pl.map LK.nf, (sts.map nfS).map nfS⟩ : Nd) = _
        rw [h1, h2, h3, h4]
      have hna3 : G3 na = _ := s3 _ _ (s2 _ _ (TH1 _ _ hna (fun xs z => by cases z)))
      have lk : List.lookup (Str.ofString "with_stages") (fl [.int nx.s, .int nx.n, .int nx.w, nr1, nr2, nr3, nr4]) = none := rfl
      have gc39 : Gn 3900 nc := ⟨gN.s, gN.n, gN.w, gN.rest.le (by decide) (Int.le_refl _) w2, ⟨gN.sg.1, fun l hl => (gN.sg.2 l hl).le (by decide) (Int.le_refl _) w2⟩, ⟨gN.pl.1, fun l hl => (gN.pl.2 l hl).le (by decide) (Int.le_refl _) w2⟩, ⟨gN.st.1, fun l hl => (gN.st.2 l hl).le (by decide) (Int.le_refl _) w2⟩⟩
      refine eqO_at T hc3 hnet3 gnc gnx ⟨_, _, hna3, lk, ad, rfl, _, hl, e4, rfl, .ref na, nx, e4, nx.st, rfl, hnet3, fx, g39, ssv_of he4, g.st.1, g39.st.2, fun t G' s' ht => eqO_at T (enx ▸ ht) (hnet3.same s') gnx gnx ?_⟩
      obtain ⟨ca, cdx, c1, c2, c3, c4, rfl, hca, _⟩ := id hc3
      refine ⟨ca, rfl, _, _, s' _ _ hca, rfl, _, _, s' _ _ hna3, rfl, .ref na, nx, rfl, hnet3.same s', fun r hr' => ⟨.ref ca, nc, r, nx.st, rfl, hc3.same s', fnc, gc39, ssv_of hr', g.st.1, g39.st.2, fun t2 G6 s6 ht2 => ?_⟩⟩
      have ht3 : NA K G6 T.A_Net t2 nx := enx ▸ ht2
      refine eqO_at T ht3 (htwin3.same (s'.trans s6)) gnx gnx ⟨by rw [sizeLine_eq]; omega, fun p H6 s7 p0 p6 => hN _ _ ⟨p, rfl, s'.trans (s6.trans s7), ?_, ?_⟩⟩
      · cases q : G3 p with
        | none => rfl
        | some o => rw [(s'.trans s6) _ _ q] at p0; cases p0
      · rw [eqN_refl] at p6; exact p6
    rintro σ G4 ⟨p, rfl, s4, p0, p4⟩
    refine cut_seq (fun σ G' => σ = [x0, some (.ref b), x2, x3, some (.int wd), x5, x6, some vdue, x8, some (.ref na), some vtwin, x11, x12, x13, some (.ref p), some (.ref Dl), some (.ref D2), some vc, some vd, none, none] ∧ Same G3 G' ∧ G' p = some (.lst [.bl (eqN nc nx), .bl true, .bl true, .int 0])) (fun N hN => ?_) ?_
    · walk_at "rs"
      have hnet4 := hnet3.same s4
      have hna4 : G4 na = _ := s4 _ _ (s3 _ _ (s2 _ _ (TH1 _ _ hna (fun xs z => by cases z))))
      have lk : List.lookup (Str.ofString "with_stages") (fl [.int nx.s, .int nx.n, .int nx.w, nr1, nr2, nr3, nr4]) = none := rfl
      refine ⟨.inl ⟨rfl, _, SqL.of p4⟩, _, _, hna4, lk, Nat.zero_le _, fun q H2 s1 q0 q1 => ⟨.ref na, nx, .ref q, [], rfl, hnet4.same s1, fx, g39, ⟨q, [], rfl, .inr (SqT.of q1), .nil⟩, Nat.zero_le _, fun s hs => absurd hs (by simp), fun t G' s' ht => ?_⟩⟩
      obtain ⟨ta, tdx, t1, t2, t3, t4, rfl, hta, _⟩ := id ht
      refine ⟨ta, rfl, _, _, hta, _, ht, Nat.zero_le _, fun H' s'' => ⟨_, s'' _ _ (s' _ _ (s1 _ _ p4)), by rw [sizeLine_eq]; show 3 < _; omega, hN _ _ ⟨rfl, fun a o e => by rw [upd_ne (fun z => by rw [z, p0] at e; cases e)]; exact s'' _ _ (s' _ _ (s1 _ _ (s4 _ _ e))), upd_same⟩⟩⟩
    rintro σ G5 ⟨rfl, s5, p5⟩
    walk_at "rs"
    refine ⟨_, _, dp_same s5 dd3, dp_same s5 due3, sh_D gnc, sh_D gnx, by rw [sizeLine_eq]; omega, fun p2 H6 s6 _ p6 => ?_⟩
    refine ⟨.ref p, .ref p2, .list [.bool (eqN nc nx), .bool true, .bool true, .int 0], rfl, .lst (SqL.of (s6 _ _ p5)) (.cons (.bl _) (.cons (.bl _) (.cons (.bl _) (.cons (.int _) .nil)))), .lst (SqL.of p6) (.cons (.bl _) (.cons (.bl _) (.cons (.bl _) (.cons (.int _) .nil)))), (ok4 _).1, (ok4 _).2, fun H7 _ => k H7⟩
end
end LK

set_option Elab.async false
set_option linter.all false
set_option maxRecDepth 100000
namespace LK
open PySem PySem.Spec PyProof.Rows L2
local macro_rules | `(tactic| walk_at "rs") => `(tactic| simp only [tFld, sFld, tMeth, tMethZ, tMakeK, tProp, tFmt, rEqO, rNeO, cxK, cxNK, tCallZ, tAsg, tOp, rI0, rS0, rB0, rI, rU, tUn, rEq, rNe, rIxL, rIxT, rIxS, rSetL, rSlLU, rSlS, rSlU, rCatL, rCatU, rRepL, rIn, tVar, tC, gName, gSub, tIfS, tTest, tB, tAnd, tOr, tNot, tNotV, tAndV, tOrV, tIf, tCall, tCons, tNil, tCB, tDrop, tRet, tRetN, tNext, tLstU, tTupU, tM0, tM1, tPar, tPar3, tAug, ipI, tBM, tBM0, rAppend, rPop, tBreak, sDPut, tDGet, tDGet2, tCont, tChain, tSl, tPart, tNoPart, L2.start, List.map, List.length_cons, List.length_nil, List.replicate, List.cons_append, List.nil_append, List.append_nil, List.getElem?_cons_zero, List.getElem?_cons_succ, List.set_cons_zero, List.set_cons_succ, Option.some.injEq, V.int.injEq, V.ref.injEq, V.str.injEq, V.bl.injEq, exists_eq_left', exists_eq_left, exists_and_left, decide_eq_true_eq, List.cons.injEq, and_true, true_and, scal, Bool.not_eq_true', decide_eq_false_iff_not, Nat.zero_add, Nat.reduceAdd, Nat.reduceSub, reduceCtorEq, false_and, exists_false, false_or, or_false, CPow, CPowW, CMul, CDiv, Int.reduceToNat, ↓reduceIte, wipe, sw, List.nil_append, List.singleton_append])
local macro_rules | `(tactic| walk_at "st") => `(tactic| (refine seq_op fun N hN => ?_; walk_at "rs"))
local macro_rules | `(tactic| walk_at "sd") => `(tactic| first | assumption | decide | omega)
local macro_rules | `(tactic| walk_at "rd") => `(tactic| repeat (first
  | refine ⟨_, SqL.of (by assumption), ?_⟩ | refine ⟨_, SqL.of upd_same, ?_⟩ | refine ⟨_, .inl (SqL.of (by assumption)), ?_⟩ | refine ⟨_, (by assumption : _ = some (HO.lst _)), ?_⟩ | refine ⟨_, upd_same, ?_⟩
  | refine ⟨_, rfl, ?_⟩ | refine And.intro (by walk_at "sd") ?_))

section
variable {P : Program} {w : World} {K : PySem.W.Frag} {mg : Str → Option Value} {base : Heap}
theorem neO_at (T : Txt w K mg) {G : Hp} {v u : V} {y z : Nd} {R : Bool → Hp → Prop} (hv : NA K G T.A_Net v y) (hu : NA K G T.A_Net u z) (oy : OkN y) (oz : OkN z) (q : R (eqN y z) G) : ∃ a, v = .ref a ∧ ∃ dx fs, G a = some (.ins T.A_Net dx fs) ∧ ∃ t, TyX K G u t ∧ PySem.W.notFirst K T.A_Net t = true ∧ sp_eq K T.A_Net [v, u] G (fun v' H' => ∃ k, v' = .bl k ∧ R k H') E0 := eqO_at T hv hu oy oz q
theorem eqO_no (T : Txt w K mg) {G : Hp} {v u : V} {y : Nd} {z : String} {R : Bool → Hp → Prop} (hv : NA K G T.A_Net v y) (hz : z = "list" ∨ z = "NoneType") (hu : TyX K G u (.type z)) (oy : OkN y) (q : R false G) : ∃ a, v = .ref a ∧ ∃ dx fs, G a = some (.ins T.A_Net dx fs) ∧ ∃ t, TyX K G u t ∧ PySem.W.notFirst K T.A_Net t = true ∧ sp_eq K T.A_Net [v, u] G (fun v' H' => ∃ k, v' = .bl k ∧ R k H') E0 := by
  obtain ⟨a, dx, r1, r2, r3, r4, rfl, ha, _⟩ := id hv
  refine ⟨a, rfl, _, _, ha, .type z, hu, ?_, .ref a, y, u, rfl, hv, oy, .inr ⟨z, hu, hz, _, rfl, q⟩⟩
  rcases hz with rfl | rfl
  · exact T.nl_Net
  · exact T.nn_Net
theorem ok6 (k : Bool) : okD (.list [.bool k, .bool k, .bool true, .bool false, .bool false, .bool false]) = true ∧ dep (.list [.bool k, .bool k, .bool true, .bool false, .bool false, .bool false]) ≤ 8 := by cases k <;> decide
theorem law12 (T : Txt w K mg) {cdv : Value} {A : Around} {outer : List Env} {s : Shared} {H0 : Hp} {E : XK} (hr : Room 12 (A.deeper (envOfC "law" (defScope s_law) s.heap.objs.size T.a_law cdv))) : ∃ t, PSs (cxLaw P w K mg base T.a_law cdv A outer s H0 E) ((defBody s_law).drop 12) t ∧
    ∀ (D : Ends) (σ : L2.St) (H : Hp) (b c : Addr) (wd : Int) (vsheet vdue vnet vtwin : V) (x : Nd) (x0 x2 x3 x6 x8 : Option V), (∀ H', D.rt (.bl true) H') →
      σ = [x0, some (.ref b), x2, x3, some (.int wd), some vsheet, x6, some vdue, x8, some vnet, some vtwin, none, none, none, none, none, none, none, none, none, none] → Bag 6000 H b c → 1 ≤ wd → wd = x.w → Gn 400 x → Smx x → ShL K (hb H b) vsheet x → Dp K (hb H b) vdue (dD (nfN x)) → NA K H T.A_Net vnet (nfN x) → NA K H T.A_Net vtwin (nfN x) → t D σ H := by
  have hr__law_altered : Room 6 _ := hr.mono (by decide)
  have G__law_altered := ok__law_altered (P := P) (base := base) T
  have hr__law_net : Room 11 _ := hr.mono (by decide)
  have G__law_net := ok__law_net (P := P) (base := base) T
  have hr__law_handed : Room 4 _ := hr.mono (by decide)
  have G__law_handed := ok__law_handed (P := P) (base := base) T
  have hr__law_settled : Room 6 _ := hr.mono (by decide)
  have G__law_settled := ok__law_settled (P := P) (base := base) T
  have hr__law_told : Room 12 _ := hr
  have G__law_told := ok__law_told (P := P) (base := base) T
  have hr_Net__eq : Room 1 _ := hr.mono (by decide)
  have G_Net__eq := ok_Net__eq (P := P) (base := base) T
  have hr_ne : Room 2 _ := hr.mono (by decide)
  have hr__law_like : Room 9 _ := hr.mono (by decide)
  have G__law_like := ok__law_like (P := P) (base := base) T 8
  obtain ⟨t18, h18, go18⟩ := law18 (P := P) (base := base) (outer := outer) (H0 := H0) (E := E) T hr
  refine ⟨_, (pss_cons (ps_set (i := 11) sc_law.nd rfl (Or.inl rfl) (pe_call G__law_altered hr__law_altered (by rfl) T.m__law_altered T.F__law_altered.kp T.B__law_altered .nil pass0 (pa_cons (pv 1) (pa_cons (pv 5) pa_nil))))
      (pss_cons (ps_set (i := 12) sc_law.nd rfl (Or.inl rfl) (pe_call G__law_net hr__law_net (by rfl) T.m__law_net T.F__law_net.kp T.B__law_net .nil pass0 (pa_cons (pv 1) (pa_cons (pe_call G__law_handed hr__law_handed (by rfl) T.m__law_handed T.F__law_handed.kp T.B__law_handed .nil pass0 (pa_cons (pv 1) (pa_cons (pv 11) pa_nil))) pa_nil))))
      (pss_cons (ps_set (i := 13) sc_law.nd rfl (Or.inl rfl) (pe_cmpR (op_eqD hr.units) (pe_call G__law_settled hr__law_settled (by rfl) T.m__law_settled T.F__law_settled.kp T.B__law_settled .nil pass0 (pa_cons (pv 11) pa_nil)) (pv 7) (nomark _)))
      (pss_cons (ps_if (pt_not (pt_val (pe_call G__law_told hr__law_told (by rfl) T.m__law_told T.F__law_told.kp T.B__law_told .nil pass0 (pa_cons (pv 12) (pa_cons (pe_call G__law_settled hr__law_settled (by rfl) T.m__law_settled T.F__law_settled.kp T.B__law_settled .nil pass0 (pa_cons (pv 11) pa_nil)) pa_nil))))) (pss_one (ps_ret pe_bl)) pss_nil)
      (pss_cons (ps_set (i := 14) sc_law.nd rfl (Or.inl rfl) (pe_lstU (pa_cons (pe_cmpR (op_eqO G_Net__eq hr_Net__eq T.fi_eq T.ff_eq T.B_Net__eq pass0) (pv 9) (pv 12) (nomark _)) (pa_cons (pe_cmpR (op_eqO G_Net__eq hr_Net__eq T.fi_eq T.ff_eq T.B_Net__eq pass0) (pv 12) (pv 9) (nomark _)) (pa_cons (pe_cmpR (op_eqO G_Net__eq hr_Net__eq T.fi_eq T.ff_eq T.B_Net__eq pass0) (pv 9) (pv 10) (nomark _)) (pa_cons (pe_cmpR (op_eqO G_Net__eq hr_Net__eq T.fi_eq T.ff_eq T.B_Net__eq pass0) (pv 9) (pv 7) (nomark _)) (pa_cons (pe_cmpR (op_eqO G_Net__eq hr_Net__eq T.fi_eq T.ff_eq T.B_Net__eq pass0) (pv 9) pe_non (nomark _)) (pa_cons (pe_cmpR (op_neO G_Net__eq hr_ne T.fi_eq T.ff_eq T.ne_Net T.mr_Net T.B_Net__eq pass0) (pv 9) (pv 10) (nomark _)) pa_nil))))))))
      (pss_cons (ps_if (pt_not (pt_val (pe_call G__law_like hr__law_like (by rfl) T.m__law_like T.F__law_like.kp T.B__law_like .nil pass0 (pa_cons (pv 14) (pa_cons (pe_lstU (pa_cons (pv 13) (pa_cons (pv 13) (pa_cons pe_bl (pa_cons pe_bl (pa_cons pe_bl (pa_cons pe_bl pa_nil))))))) pa_nil))))) (pss_one (ps_ret pe_bl)) pss_nil)
      h18)))))), ?_⟩
  rintro D σ H b c wd vsheet vdue vnet vtwin x x0 x2 x3 x6 x8 k rfl B w1 ew g sm hsh hdue hnet htwin
  have gnx : Gn 402 (nfN x) := g.nf (by decide)
  have onx : OkN (nfN x) := gnx.ok
  refine cut_seq (fun σ H1 => ∃ (u : V) (y : Nd), σ = [x0, some (.ref b), x2, x3, some (.int wd), some vsheet, x6, some vdue, x8, some vnet, some vtwin, some u, none, none, none, none, none, none, none, none, none] ∧ Bag 5500 H1 b c ∧ Kp b H H1 ∧ ShL K (LK.hb H1 b) u y ∧ Gn 2000 y) (fun N hN => ?_) ?_
  · walk_at "rs"
    exact ⟨b, c, 5500, vsheet, x, rfl, B, hsh, g, sm, fun u y H1 B1 K1 h1 g1 => hN _ _ ⟨u, y, rfl, B1, K1, h1, g1⟩⟩
  rintro σ H1 ⟨u, y, rfl, B1, K1, hy, gy⟩
  have gy39 : Gn 3900 y := ⟨gy.s, gy.n, gy.w, gy.rest.le (by decide) (Int.le_refl _) gy.w.2, ⟨gy.sg.1, fun l hl => (gy.sg.2 l hl).le (by decide) (Int.le_refl _) gy.w.2⟩, ⟨gy.pl.1, fun l hl => (gy.pl.2 l hl).le (by decide) (Int.le_refl _) gy.w.2⟩, ⟨gy.st.1, fun l hl => (gy.st.2 l hl).le (by decide) (Int.le_refl _) gy.w.2⟩⟩
  have ony : OkN (nfN y) := (gy.nf (by decide)).ok
  refine cut_seq (fun σ H3 => ∃ v : V, σ = [x0, some (.ref b), x2, x3, some (.int wd), some vsheet, x6, some vdue, x8, some vnet, some vtwin, some u, some v, none, none, none, none, none, none, none, none] ∧ Bag 2400 H3 b c ∧ Kp b H H3 ∧ ShL K H3 u y ∧ NA K H3 T.A_Net v (nfN y)) (fun N hN => ?_) ?_
  · walk_at "rs"
    refine ⟨b, c, 2500, u, y, rfl, B1, hy, gy39, fun h H2 B2 K2 h0 hh => ?_⟩
    refine ⟨b, c, h, 2497, y, rfl, B2, hh.hv.same (fr_hb B1 B2), gy39, fun v H3 B3 K3 h3 => hN _ _ ⟨v, rfl, B3.le (by decide), Same.trans K1 (Same.trans K2 K3), ?_, h3⟩⟩
    exact (hy.same (Same.trans K2 K3)).same (hb_le H3 b)
  rintro σ H3 ⟨v, rfl, B3, K3, hy3, hv3⟩
  have TH : Tk H H3 := Tk.kp B K3
  have hnet3 := hnet.tk TH
  have htwin3 := htwin.tk TH
  have due3 : Dp K H3 vdue (dD (nfN x)) := dp_same (hb_le H3 b) (dp_same K3 hdue)
  refine cut_seq (fun σ H4 => σ = [x0, some (.ref b), x2, x3, some (.int wd), some vsheet, x6, some vdue, x8, some vnet, some vtwin, some u, some v, some (.bl (eqN (nfN y) (nfN x))), none, none, none, none, none, none, none] ∧ Same H3 H4) (fun N hN => ?_) ?_
  · walk_at "rs"
    refine ⟨u, 2000, y, rfl, hy3, gy, by decide, fun q H4 s4 _ h4 => ?_⟩
    exact ⟨_, _, h4, dp_same s4 due3, sh_D ony, sh_D onx, hN _ _ ⟨rfl, s4⟩⟩
  rintro σ H4 ⟨rfl, s4⟩
  refine cut_seq (fun σ H5 => σ = [x0, some (.ref b), x2, x3, some (.int wd), some vsheet, x6, some vdue, x8, some vnet, some vtwin, some u, some v, some (.bl (eqN (nfN y) (nfN x))), none, none, none, none, none, none, none] ∧ Same H3 H5) (fun N hN => ?_) ?_
  · walk_at "rs"
    refine ⟨u, 2000, y, rfl, hy3.same s4, gy, by decide, fun q H5 s5 _ h5 => ?_⟩
    exact ⟨v, .ref q, nfN y, rfl, (hv3.same s4).same s5, h5, ony, gy.w.1, gy.w.2, fun H6 s6 => ⟨true, rfl, iteFF (by decide) (hN _ _ ⟨rfl, s4.trans (s5.trans s6)⟩)⟩⟩
  rintro σ H5 ⟨rfl, s5⟩
  have hv5 := hv3.same s5
  have hnet5 := hnet3.same s5
  have htwin5 := htwin3.same s5
  have due5 := dp_same s5 due3
  refine cut_seq (fun σ H6 => ∃ p : Addr, σ = [x0, some (.ref b), x2, x3, some (.int wd), some vsheet, x6, some vdue, x8, some vnet, some vtwin, some u, some v, some (.bl (eqN (nfN y) (nfN x))), some (.ref p), none, none, none, none, none, none] ∧ Same H5 H6 ∧ H6 p = some (.lst [.bl (eqN (nfN y) (nfN x)), .bl (eqN (nfN y) (nfN x)), .bl true, .bl false, .bl false, .bl false])) (fun N hN => ?_) ?_
  · walk_at "rs"
    refine eqO_at T hnet5 hv5 onx ony (eqO_at T hv5 hnet5 ony onx (eqO_at T hnet5 htwin5 onx onx (eqO_no T hnet5 (.inl rfl) (dp_ty due5) onx (eqO_no T hnet5 (.inr rfl) (dp_ty (.non : Dp K H5 .non .none)) onx (neO_at T hnet5 htwin5 onx onx ?_)))))
    refine ⟨by rw [sizeLine_eq]; omega, fun p H6 s6 _ p6 => hN _ _ ⟨p, rfl, s6, ?_⟩⟩
    rw [eqN_refl, eqN_symm (nfN x) (nfN y)] at p6
    exact p6
  rintro σ H6 ⟨p, rfl, s6, p6⟩
  refine cut_seq (fun σ H7 => σ = [x0, some (.ref b), x2, x3, some (.int wd), some vsheet, x6, some vdue, x8, some vnet, some vtwin, some u, some v, some (.bl (eqN (nfN y) (nfN x))), some (.ref p), none, none, none, none, none, none] ∧ Same H3 H7) (fun N hN => ?_) ?_
  · walk_at "rs"
    refine ⟨by rw [sizeLine_eq]; omega, fun p2 H7 s7 _ p7 => ?_⟩
    refine ⟨.ref p, .ref p2, .list [.bool (eqN (nfN y) (nfN x)), .bool (eqN (nfN y) (nfN x)), .bool true, .bool false, .bool false, .bool false], rfl, .lst (SqL.of (s7 _ _ p6)) (.cons (.bl _) (.cons (.bl _) (.cons (.bl _) (.cons (.bl _) (.cons (.bl _) (.cons (.bl _) .nil)))))), .lst (SqL.of p7) (.cons (.bl _) (.cons (.bl _) (.cons (.bl _) (.cons (.bl _) (.cons (.bl _) (.cons (.bl _) .nil)))))), (ok6 _).1, (ok6 _).2, fun H8 s8 => ⟨true, rfl, iteFF (by decide) (hN _ _ ⟨rfl, s5.trans (s6.trans (s7.trans s8))⟩)⟩⟩
  rintro σ H7 ⟨rfl, s7⟩
  have gg : Gn 1002 (nfN x) := ⟨gnx.s, gnx.n, gnx.w, gnx.rest.le (by decide) (Int.le_refl _) gnx.w.2, ⟨gnx.sg.1, fun l hl => (gnx.sg.2 l hl).le (by decide) (Int.le_refl _) gnx.w.2⟩, ⟨gnx.pl.1, fun l hl => (gnx.pl.2 l hl).le (by decide) (Int.le_refl _) gnx.w.2⟩, ⟨gnx.st.1, fun l hl => (gnx.st.2 l hl).le (by decide) (Int.le_refl _) gnx.w.2⟩⟩
  exact go18 D _ H7 b c wd vdue vnet vtwin (nfN x) x0 _ _ _ _ _ _ _ _ _ k rfl ((B3.same s7).le (by decide)) w1 ew gg g.nf2 (dp_same (Kp.of s7) (dp_same K3 hdue)) (hnet3.same s7) (htwin3.same s7)
end
end LK

set_option Elab.async false
set_option linter.all false
set_option maxRecDepth 100000
namespace LK
open PySem PySem.Spec PyProof.Rows L2
local macro_rules | `(tactic| walk_at "rs") => `(tactic| simp only [tFld, sFld, tMeth, tMethZ, tMakeK, tProp, tFmt, rEqO, rNeO, cxK, cxNK, tCallZ, tAsg, tOp, rI0, rS0, rB0, rI, rU, tUn, rEq, rNe, rIxL, rIxT, rIxS, rSetL, rSlLU, rSlS, rSlU, rCatL, rCatU, rRepL, rIn, tVar, tC, gName, gSub, tIfS, tTest, tB, tAnd, tOr, tNot, tNotV, tAndV, tOrV, tIf, tCall, tCons, tNil, tCB, tDrop, tRet, tRetN, tNext, tLstU, tTupU, tM0, tM1, tPar, tPar3, tAug, ipI, tBM, tBM0, rAppend, rPop, tBreak, sDPut, tDGet, tDGet2, tCont, tChain, tSl, tPart, tNoPart, L2.start, List.map, List.length_cons, List.length_nil, List.replicate, List.cons_append, List.nil_append, List.append_nil, List.getElem?_cons_zero, List.getElem?_cons_succ, List.set_cons_zero, List.set_cons_succ, Option.some.injEq, V.int.injEq, V.ref.injEq, V.str.injEq, V.bl.injEq, exists_eq_left', exists_eq_left, exists_and_left, decide_eq_true_eq, List.cons.injEq, and_true, true_and, scal, Bool.not_eq_true', decide_eq_false_iff_not, Nat.zero_add, Nat.reduceAdd, Nat.reduceSub, reduceCtorEq, false_and, exists_false, false_or, or_false, CPow, CPowW, CMul, CDiv, Int.reduceToNat, ↓reduceIte, wipe, sw, List.nil_append, List.singleton_append])
local macro_rules | `(tactic| walk_at "st") => `(tactic| (refine seq_op fun N hN => ?_; walk_at "rs"))
local macro_rules | `(tactic| walk_at "sd") => `(tactic| first | assumption | decide | omega)
local macro_rules | `(tactic| walk_at "rd") => `(tactic| repeat (first
  | refine ⟨_, SqL.of (by assumption), ?_⟩ | refine ⟨_, SqL.of upd_same, ?_⟩ | refine ⟨_, .inl (SqL.of (by assumption)), ?_⟩ | refine ⟨_, (by assumption : _ = some (HO.lst _)), ?_⟩ | refine ⟨_, upd_same, ?_⟩
  | refine ⟨_, rfl, ?_⟩ | refine And.intro (by walk_at "sd") ?_))

section
variable {P : Program} {w : World} {K : PySem.W.Frag} {mg : Str → Option Value} {base : Heap}
theorem Gn.le {m m' : Nat} {x : Nd} (g : Gn m x) (h : m ≤ m') : Gn m' x := ⟨g.s, g.n, g.w, g.rest.le h (Int.le_refl _) g.w.2, ⟨g.sg.1, fun l hl => (g.sg.2 l hl).le h (Int.le_refl _) g.w.2⟩, ⟨g.pl.1, fun l hl => (g.pl.2 l hl).le h (Int.le_refl _) g.w.2⟩, ⟨g.st.1, fun l hl => (g.st.2 l hl).le h (Int.le_refl _) g.w.2⟩⟩
theorem dpD_hb {N : Nat} {H : Hp} {b c : Addr} {u : V} {x : Nd} (B : Bag N H b c) (h : Dp K H u (dD x)) : Dp K (LK.hb H b) u (dD x) := by
  obtain ⟨a, e1, e2, e3, e4, rfl, hl, h1, h2, h3, h4⟩ := dpD_inv h
  have ne : ∀ o : HO, H a = some o → (∀ p ys, o ≠ .lst (.ref p :: ys)) → a ≠ b := fun o e n z => by
    obtain ⟨cells, i, g, m, d, hb1, _⟩ := B
    rw [z, hb1] at e
    cases e
    exact n _ _ rfl
  refine dpD_mk (x := x) ?_ (dp_tk (Tk.hb B) (td_I _) h1) (dp_tk (Tk.hb B) (td_Rs _) h2) (dp_tk (Tk.hb B) (td_Rs _) h3) (dp_tk (Tk.hb B) (td_Ss _) h4)
  rcases hl with (h | ⟨u, h⟩) | h
  · exact .inl (.inl (by rw [hb_ne (ne _ h (fun p ys z => by cases z))]; exact h))
  · exact .inl (.inr ⟨u, by rw [hb_ne (ne _ h (fun p ys z => by cases z))]; exact h⟩)
  · exact .inr h
theorem law05 (T : Txt w K mg) {cdv : Value} {A : Around} {outer : List Env} {s : Shared} {H0 : Hp} {E : XK} (hr : Room 12 (A.deeper (envOfC "law" (defScope s_law) s.heap.objs.size T.a_law cdv))) : ∃ t, PSs (cxLaw P w K mg base T.a_law cdv A outer s H0 E) ((defBody s_law).drop 5) t ∧
    ∀ (D : Ends) (σ : L2.St) (H : Hp) (b c : Addr) (wd : Int) (vsheet : V) (x : Nd) (x0 x2 x3 x6 : Option V), (∀ H', D.rt (.bl true) H') →
      σ = [x0, some (.ref b), x2, x3, some (.int wd), some vsheet, x6, none, none, none, none, none, none, none, none, none, none, none, none, none, none] → Bag 10000 H b c → 1 ≤ wd → wd = x.w → Gn 400 x → Smx x → ShL K (hb H b) vsheet x → t D σ H := by
  have hr__law_settled : Room 6 _ := hr.mono (by decide)
  have G__law_settled := ok__law_settled (P := P) (base := base) T
  have hr__law_handed : Room 4 _ := hr.mono (by decide)
  have G__law_handed := ok__law_handed (P := P) (base := base) T
  have hr__law_net : Room 11 _ := hr.mono (by decide)
  have G__law_net := ok__law_net (P := P) (base := base) T
  have hr__law_told : Room 12 _ := hr
  have G__law_told := ok__law_told (P := P) (base := base) T
  have hr__law_spoil : Room 1 _ := hr.mono (by decide)
  have G__law_spoil := ok__law_spoil (P := P) (base := base) T
  have hr_Net__init : Room 9 _ := hr.mono (by decide)
  have G_Net__init := ok_Net__init (P := P) (base := base) T
  obtain ⟨t12, h12, go12⟩ := law12 (P := P) (base := base) (outer := outer) (H0 := H0) (E := E) T hr
  refine ⟨_, (pss_cons (ps_set (i := 7) sc_law.nd rfl (Or.inl rfl) (pe_call G__law_settled hr__law_settled (by rfl) T.m__law_settled T.F__law_settled.kp T.B__law_settled .nil pass0 (pa_cons (pv 5) pa_nil)))
      (pss_cons (ps_set (i := 8) sc_law.nd rfl (Or.inl rfl) (pe_call G__law_handed hr__law_handed (by rfl) T.m__law_handed T.F__law_handed.kp T.B__law_handed .nil pass0 (pa_cons (pv 1) (pa_cons (pv 5) pa_nil))))
      (pss_cons (ps_set (i := 9) sc_law.nd rfl (Or.inl rfl) (pe_call G__law_net hr__law_net (by rfl) T.m__law_net T.F__law_net.kp T.B__law_net .nil pass0 (pa_cons (pv 1) (pa_cons (pv 8) pa_nil))))
      (pss_cons (ps_if (pt_not (pt_val (pe_call G__law_told hr__law_told (by rfl) T.m__law_told T.F__law_told.kp T.B__law_told .nil pass0 (pa_cons (pv 9) (pa_cons (pv 7) pa_nil))))) (pss_one (ps_ret pe_bl)) pss_nil)
      (pss_cons (ps_expr (pe_call G__law_spoil hr__law_spoil (by rfl) T.m__law_spoil T.F__law_spoil.kp T.B__law_spoil .nil pass0 (pa_cons (pv 8) pa_nil)))
      (pss_cons (ps_set (i := 10) sc_law.nd rfl (Or.inl rfl) (pe_makeK T.mk_Net G_Net__init hr_Net__init (by rfl) T.m_Net T.Z_Net__init_3_rest_sign_rows_place_rows_stages pass0 (pa_cons (pe_fld (pv 9) rfl) (pa_cons (pe_fld (pv 9) rfl) (pa_cons (pe_fld (pv 9) rfl) pa_nil))) (pk_cons (pe_ix ix_list (pv 7) pe_int (fun _ _ => rfl)) (pk_cons (pe_ix ix_list (pv 7) pe_int (fun _ _ => rfl)) (pk_cons (pe_ix ix_list (pv 7) pe_int (fun _ _ => rfl)) (pk_cons (pe_ix ix_list (pv 7) pe_int (fun _ _ => rfl)) pk_nil))))))
      (pss_cons (ps_if (PW.pt (pw_or (pt_not (pt_val (pe_call G__law_told hr__law_told (by rfl) T.m__law_told T.F__law_told.kp T.B__law_told .nil pass0 (pa_cons (pv 9) (pa_cons (pv 7) pa_nil))))) (pw_or1 (pt_not (pt_val (pe_call G__law_told hr__law_told (by rfl) T.m__law_told T.F__law_told.kp T.B__law_told .nil pass0 (pa_cons (pv 10) (pa_cons (pv 7) pa_nil)))))))) (pss_one (ps_ret pe_bl)) pss_nil)
      h12))))))), ?_⟩
  rintro D σ H b c wd vsheet x x0 x2 x3 x6 k rfl B w1 ew g sm hsh
  have g39 := g.le (m' := 3900) (by decide)
  have gnx : Gn 402 (nfN x) := g.nf (by decide)
  have onx : OkN (nfN x) := gnx.ok
  refine cut_seq (fun σ H1 => ∃ vdue : V, σ = [x0, some (.ref b), x2, x3, some (.int wd), some vsheet, x6, some vdue, none, none, none, none, none, none, none, none, none, none, none, none, none] ∧ Kp b H H1 ∧ Bag 10000 H1 b c ∧ Dp K (LK.hb H1 b) vdue (dD (nfN x))) (fun N hN => ?_) ?_
  · walk_at "rs"
    exact ⟨vsheet, 400, x, rfl, hsh.same (hb_le H b), g, by decide, fun q H1 s1 _ h1 => hN _ _ ⟨.ref q, rfl, Kp.of s1, B.same s1, dpD_hb (B.same s1) h1⟩⟩
  rintro σ H1 ⟨vdue, rfl, K1, B1, hdue⟩
  have hsh1 : ShL K (LK.hb H1 b) vsheet x := hsh.same K1
  refine cut_seq (fun σ H2 => ∃ h : Addr, σ = [x0, some (.ref b), x2, x3, some (.int wd), some vsheet, x6, some vdue, some (.ref h), none, none, none, none, none, none, none, none, none, none, none, none] ∧ Kp b H1 H2 ∧ Bag 7000 H2 b c ∧ HdW K (fr H1 H2) h x) (fun N hN => ?_) ?_
  · walk_at "rs"
    exact ⟨b, c, 7000, vsheet, x, rfl, B1, hsh1, g39, fun h H2 B2 K2 _ hh => hN _ _ ⟨h, rfl, K2, B2, hh⟩⟩
  rintro σ H2 ⟨h, rfl, K2, B2, hh⟩
  refine cut_seq (fun σ H3 => ∃ v : V, σ = [x0, some (.ref b), x2, x3, some (.int wd), some vsheet, x6, some vdue, some (.ref h), some v, none, none, none, none, none, none, none, none, none, none, none] ∧ Kp b H2 H3 ∧ Bag 6900 H3 b c ∧ NA K H3 T.A_Net v (nfN x)) (fun N hN => ?_) ?_
  · walk_at "rs"
    exact ⟨b, c, h, 6997, x, rfl, B2, hh.hv.same (fr_hb B1 B2), g39, fun v H3 B3 K3 h3 => hN _ _ ⟨v, rfl, K3, B3.le (by decide), h3⟩⟩
  rintro σ H3 ⟨v, rfl, K3, B3, hv3⟩
  have K13 : Kp b H1 H3 := Same.trans K2 K3
  have hh3 : HdW K (fr H1 H3) h x := hh.same (fr_kp B1 B2 K3)
  refine cut_seq (fun σ H4 => σ = [x0, some (.ref b), x2, x3, some (.int wd), some vsheet, x6, some vdue, some (.ref h), some v, none, none, none, none, none, none, none, none, none, none, none] ∧ Same H3 H4) (fun N hN => ?_) ?_
  · walk_at "rs"
    exact ⟨v, vdue, nfN x, rfl, hv3, dp_same (hb_le H3 b) (dp_same K13 hdue), onx, gnx.w.1, gnx.w.2, fun H4 s4 => ⟨true, rfl, iteFF (by decide) (hN _ _ ⟨rfl, s4⟩)⟩⟩
  rintro σ H4 ⟨rfl, s4⟩
  have K14 : Kp b H1 H4 := Same.trans K13 (Kp.of s4)
  have B4 := B3.same s4
  refine cut_seq (fun σ H5 => σ = [x0, some (.ref b), x2, x3, some (.int wd), some vsheet, x6, some vdue, some (.ref h), some v, none, none, none, none, none, none, none, none, none, none, none] ∧ Tk H4 H5 ∧ Kp b H1 H5 ∧ Bag 6900 H5 b c) (fun N hN => ?_) ?_
  · walk_at "rs"
    refine ⟨h, H1, x, rfl, hh3.same (fr_same s4), g39, fun H5 t5 l5 => hN _ _ ⟨rfl, t5, fun a o e => ?_, ?_⟩⟩
    · obtain ⟨na, e1⟩ := hb_some e
      have e4 := K14.hd e1 na
      rw [hb_ne na]
      by_cases q : ∃ xs, o = .lst xs
      · obtain ⟨xs, rfl⟩ := q
        exact l5 a xs e4 (by rw [e1]; exact fun z => by cases z)
      · exact t5 a o e4 fun xs z => q ⟨xs, z⟩
    · obtain ⟨yb, eb⟩ := B1.at
      obtain ⟨yc, ec⟩ := B1.at2
      obtain ⟨cells, i, gg, m, n, hb1, hc1, rest⟩ := B4
      exact ⟨cells, i, gg, m, n, l5 _ _ hb1 (by rw [eb]; exact fun z => by cases z), l5 _ _ hc1 (by rw [ec]; exact fun z => by cases z), rest⟩
  rintro σ H5 ⟨rfl, t5, K5, B5⟩
  have hv5 := (hv3.same s4).tk t5
  have due5 : Dp K H5 vdue (dD (nfN x)) := dp_same (hb_le H5 b) (dp_same K5 hdue)
  refine cut_seq (fun σ H6 => ∃ u : V, σ = [x0, some (.ref b), x2, x3, some (.int wd), some vsheet, x6, some vdue, some (.ref h), some v, some u, none, none, none, none, none, none, none, none, none, none] ∧ Same H5 H6 ∧ NA K H6 T.A_Net u (nfN x)) (fun N hN => ?_) ?_
  · walk_at "rs"
    obtain ⟨va, vdx, r1, r2, r3, r4, rfl, hva, _⟩ := id hv5
    obtain ⟨ad, e1, e2, e3, e4, rfl, hl, he1, he2, he3, he4⟩ := dpD_inv due5
    refine ⟨va, rfl, _, _, _, hva, T.C_Net, T.na_signs, _, rfl, va, rfl, _, _, _, hva, T.C_Net, T.na_n, _, rfl, va, rfl, _, _, _, hva, T.C_Net, T.na_width, _, rfl, ad, rfl, _, hl, e1, rfl, ad, rfl, _, hl, e2, rfl, ad, rfl, _, hl, e3, rfl, ad, rfl, _, hl, e4, rfl, fun a dx ha hd ne => ?_⟩
    exact mk_at (x := nfN x) (Q := fun v' H' => N [x0, some (.ref b), x2, x3, some (.int wd), some vsheet, x6, some (.ref ad), some (.ref h), some (.ref va), some v', none, none, none, none, none, none, none, none, none, none] H') (iv_of he1) (rv_of he2) (rv_of he3) (ssv_of he4) (gnx.le (by decide)) (fun t H' s n => hN _ _ ⟨t, rfl, s, by rw [g.nf2] at n; exact n⟩) ha hd ne
  rintro σ H6 ⟨u, rfl, s6, hu6⟩
  have hv6 := hv5.same s6
  have due6 := dp_same s6 due5
  refine cut_seq (fun σ H7 => σ = [x0, some (.ref b), x2, x3, some (.int wd), some vsheet, x6, some vdue, some (.ref h), some v, some u, none, none, none, none, none, none, none, none, none, none] ∧ Same H6 H7) (fun N hN => ?_) ?_
  · walk_at "rs"
    exact ⟨v, vdue, nfN x, rfl, hv6, due6, onx, gnx.w.1, gnx.w.2, fun H7 s7 => ⟨true, rfl, iteFF (by decide) ⟨u, vdue, nfN x, rfl, hu6.same s7, dp_same s7 due6, onx, gnx.w.1, gnx.w.2, fun H8 s8 => ⟨true, rfl, iteFF (by decide) (hN _ _ ⟨rfl, s7.trans s8⟩)⟩⟩⟩⟩
  rintro σ H7 ⟨rfl, s7⟩
  have K7 : Kp b H1 H7 := Same.trans K5 (Kp.of (s6.trans s7))
  exact go12 D _ H7 b c wd vsheet vdue v u x x0 x2 x3 x6 _ k rfl (((B5.same s6).same s7).le (by decide)) w1 ew g sm (hsh1.same K7) (dp_same K7 hdue) (hv6.same s7) (hu6.same s7)
end
end LK

set_option Elab.async false
set_option linter.all false
set_option maxRecDepth 100000
namespace LK
open PySem PySem.Spec PyProof.Rows L2
local macro_rules | `(tactic| walk_at "rs") => `(tactic| simp only [tFld, sFld, tMeth, tMethZ, tMakeK, tProp, tFmt, rEqO, rNeO, cxK, cxNK, tCallZ, tAsg, tOp, rI0, rS0, rB0, rI, rU, tUn, rEq, rNe, rIxL, rIxT, rIxS, rSetL, rSlLU, rSlS, rSlU, rCatL, rCatU, rRepL, rIn, tVar, tC, gName, gSub, tIfS, tTest, tB, tAnd, tOr, tNot, tNotV, tAndV, tOrV, tIf, tCall, tCons, tNil, tCB, tDrop, tRet, tRetN, tNext, tLstU, tTupU, tM0, tM1, tPar, tPar3, tAug, ipI, tBM, tBM0, rAppend, rPop, tBreak, sDPut, tDGet, tDGet2, tCont, tChain, tSl, tPart, tNoPart, L2.start, List.map, List.length_cons, List.length_nil, List.replicate, List.cons_append, List.nil_append, List.append_nil, List.getElem?_cons_zero, List.getElem?_cons_succ, List.set_cons_zero, List.set_cons_succ, Option.some.injEq, V.int.injEq, V.ref.injEq, V.str.injEq, V.bl.injEq, exists_eq_left', exists_eq_left, exists_and_left, decide_eq_true_eq, List.cons.injEq, and_true, true_and, scal, Bool.not_eq_true', decide_eq_false_iff_not, Nat.zero_add, Nat.reduceAdd, Nat.reduceSub, reduceCtorEq, false_and, exists_false, false_or, or_false, CPow, CPowW, CMul, CDiv, Int.reduceToNat, ↓reduceIte, wipe, sw, List.nil_append, List.singleton_append])
local macro_rules | `(tactic| walk_at "st") => `(tactic| (refine seq_op fun N hN => ?_; walk_at "rs"))
local macro_rules | `(tactic| walk_at "sd") => `(tactic| first | assumption | decide | omega)
local macro_rules | `(tactic| walk_at "rd") => `(tactic| repeat (first
  | refine ⟨_, SqL.of (by assumption), ?_⟩ | refine ⟨_, SqL.of upd_same, ?_⟩ | refine ⟨_, .inl (SqL.of (by assumption)), ?_⟩ | refine ⟨_, (by assumption : _ = some (HO.lst _)), ?_⟩ | refine ⟨_, upd_same, ?_⟩
  | refine ⟨_, rfl, ?_⟩ | refine And.intro (by walk_at "sd") ?_))

section
variable {P : Program} {w : World} {K : PySem.W.Frag} {mg : Str → Option Value} {base : Heap}
theorem ok_law (T : Txt w K mg) : FnOk P w K mg base CX0 13 T.a_law T.d_law ["script"] (sp_law K) := by
  refine T.F_law.ok sc_law (fun vs H Q E h => ?_) (fun cdv A outer s H vs Q E hr h => ?_)
  · obtain ⟨a, ns, rfl, _⟩ := h
    rfl
  · obtain ⟨a, ns, rfl, ha, l63, k⟩ := h
    have hr__law_bag : Room 1 _ := hr.mono (by decide)
    have G__law_bag := ok__law_bag (P := P) (base := base) T
    have hr__law_draw : Room 1 _ := hr.mono (by decide)
    have G__law_draw := ok__law_draw (P := P) (base := base) T
    have hr__law_sheet : Room 6 _ := hr.mono (by decide)
    have G__law_sheet := ok__law_sheet (P := P) (base := base) T
    have hr__law_of : Room 2 _ := hr.mono (by decide)
    have G__law_of := ok__law_of (P := P) (base := base) T
    obtain ⟨t05, h05, go05⟩ := law05 (P := P) (base := base) (outer := outer) (H0 := H) (E := E) T hr
    refine ⟨_, (pss_cons (ps_set (i := 1) sc_law.nd rfl (Or.inr rfl) (pe_call G__law_bag hr__law_bag (by rfl) T.m__law_bag T.F__law_bag.kp T.B__law_bag .nil pass0 (pa_cons (pv 0) pa_nil)))
      (pss_cons (ps_par (i := 2) (j := 3) (by rfl) sc_law.nd rfl rfl (by decide) rfl rfl (pa_cons (pe_op op_add pe_int (pe_call G__law_draw hr__law_draw (by rfl) T.m__law_draw T.F__law_draw.kp T.B__law_draw .nil pass0 (pa_cons (pv 1) (pa_cons pe_int pa_nil)))) (pa_cons (pe_op op_add pe_int (pe_call G__law_draw hr__law_draw (by rfl) T.m__law_draw T.F__law_draw.kp T.B__law_draw .nil pass0 (pa_cons (pv 1) (pa_cons pe_int pa_nil)))) pa_nil)) (by rfl))
      (pss_cons (ps_set (i := 4) sc_law.nd rfl (Or.inr rfl) (pe_ifExp (pt_cmpR op_gt (pe_call G__law_draw hr__law_draw (by rfl) T.m__law_draw T.F__law_draw.kp T.B__law_draw .nil pass0 (pa_cons (pv 1) (pa_cons pe_int pa_nil))) pe_int (nomark _)) (pe_op op_add pe_int (pe_call G__law_draw hr__law_draw (by rfl) T.m__law_draw T.F__law_draw.kp T.B__law_draw .nil pass0 (pa_cons (pv 1) (pa_cons pe_int pa_nil)))) (pe_op op_add pe_int (pe_call G__law_draw hr__law_draw (by rfl) T.m__law_draw T.F__law_draw.kp T.B__law_draw .nil pass0 (pa_cons (pv 1) (pa_cons pe_int pa_nil))))))
      (pss_cons (ps_set (i := 5) sc_law.nd rfl (Or.inl rfl) (pe_call G__law_sheet hr__law_sheet (by rfl) T.m__law_sheet T.F__law_sheet.kp T.B__law_sheet .nil pass0 (pa_cons (pv 1) (pa_cons (pv 2) (pa_cons (pv 3) (pa_cons (pv 4) (pa_cons (pe_call G__law_draw hr__law_draw (by rfl) T.m__law_draw T.F__law_draw.kp T.B__law_draw .nil pass0 (pa_cons (pv 1) (pa_cons pe_int pa_nil))) pa_nil)))))))
      (pss_cons (ps_if (pt_cmpR op_eqI (pe_call G__law_draw hr__law_draw (by rfl) T.m__law_draw T.F__law_draw.kp T.B__law_draw .nil pass0 (pa_cons (pv 1) (pa_cons pe_int pa_nil))) pe_int (nomark _)) (pss_cons (ps_set (i := 6) sc_law.nd rfl (Or.inl rfl) (pe_op op_add pe_int (pe_op op_mul (pe_call G__law_draw hr__law_draw (by rfl) T.m__law_draw T.F__law_draw.kp T.B__law_draw .nil pass0 (pa_cons (pv 1) (pa_cons pe_int pa_nil))) (pe_op op_sub pe_int (pe_callB call_len_seq (by rfl) T.n_len (by decide +kernel) (pa_cons (pe_ix ix_list (pv 5) pe_int (fun _ _ => rfl)) pa_nil))))))
      (pss_one (ps_asg (pe_op op_catL (pe_ix ix_list (pv 5) pe_int (fun _ _ => rfl)) (pe_lc (own := [("k", 19)]) (g := gName 19) (tt := tYes) rfl sc_law.nd (pi_range1 (by rfl) T.n_range (pa_cons (pv 6) pa_nil)) (blkOk_by (own := [("k", 19)]) (N := N_law) (sc := defScope s_law) (by decide +kernel)) (fun _ _ _ _ _ => pg_name (i := 19) sc_law.nd rfl (Or.inl rfl)) (fun _ _ _ _ _ => pts_nil) (fun _ _ _ _ _ => (pe_tupU (pa_cons (pe_call G__law_of hr__law_of (by rfl) T.m__law_of T.F__law_of.kp T.B__law_of .nil pass0 (pa_cons (pv 1) (pa_cons (pe_lstU (pa_cons pe_str (pa_cons pe_str pa_nil))) pa_nil))) (pa_cons (pe_lstU pa_nil) pa_nil)))))) (pg_sub (pv 5) pe_int set_list)))) pss_nil)
      h05))))), ?_⟩
    refine seq_op fun N hN => ?_
    walk_at "rs"
    refine ⟨a, ns, rfl, ha, l63, fun b c H1 s1 B1 b0 => hN _ _ ?_⟩
    clear hN N
    refine cut_seq (fun σ H2 => ∃ sz nz : Int, σ = [some (.ref a), some (.ref b), some (.int sz), some (.int nz), none, none, none, none, none, none, none, none, none, none, none, none, none, none, none, none, none] ∧ 2 ≤ sz ∧ sz ≤ 5 ∧ 1 ≤ nz ∧ nz ≤ 8 ∧ Bag 100000 H2 b c) (fun N hN => ?_) ?_
    · walk_at "rs"
      exact ⟨b, c, 4, 1099511627775, rfl, B1, by decide, by decide, fun r H2 r0 r1 B2 K2 => ⟨r, rfl, b, c, 8, 1099511627774, rfl, B2, by decide, by decide, fun r' H3 r0' r1' B3 K3 => ⟨r', rfl, _, _, ⟨rfl, rfl⟩, hN _ _ ⟨2 + r, 1 + r', rfl, by omega, by omega, by omega, by omega, B3.le (by decide)⟩⟩⟩⟩
    rintro σ H2 ⟨sz, nz, rfl, sz2, sz5, nz1, nz8, B2⟩
    refine cut_seq (fun σ H2 => ∃ wd : Int, σ = [some (.ref a), some (.ref b), some (.int sz), some (.int nz), some (.int wd), none, none, none, none, none, none, none, none, none, none, none, none, none, none, none, none] ∧ 1 ≤ wd ∧ wd ≤ 2000 ∧ Bag 90000 H2 b c) (fun N hN => ?_) ?_
    · walk_at "rs"
      refine ⟨b, c, 5, 99999, rfl, B2, by decide, by decide, fun r H3 r0 r1 B3 K3 => ⟨r, rfl, ite2 (fun _ => ?_) (fun _ => ?_)⟩⟩
      · exact ⟨b, c, 9, 99998, rfl, B3, by decide, by decide, fun r' H4 r0' r1' B4 K4 => ⟨r', rfl, hN _ _ ⟨1 + r', rfl, by omega, by omega, B4.le (by decide)⟩⟩⟩
      · exact ⟨b, c, 2000, 99998, rfl, B3, by decide, by decide, fun r' H4 r0' r1' B4 K4 => ⟨r', rfl, hN _ _ ⟨1 + r', rfl, by omega, by omega, B4.le (by decide)⟩⟩⟩
    rintro σ H3 ⟨wd, rfl, w1, w2, B3⟩
    refine cut_seq (fun σ H4 => ∃ (q : Addr) (x : Nd), σ = [some (.ref a), some (.ref b), some (.int sz), some (.int nz), some (.int wd), some (.ref q), none, none, none, none, none, none, none, none, none, none, none, none, none, none, none] ∧ ShZ K b H4 q x ∧ x.w = wd ∧ Gn 400 x ∧ x.st.length ≤ 5 ∧ Smx x ∧ Bag 70000 H4 b c ∧ c ≠ q) (fun N hN => ?_) ?_
    · walk_at "rs"
      refine ⟨b, c, 6, 89999, rfl, B3, by decide, by decide, fun r H4 r0 r1 B4 K4 => ?_⟩
      exact ⟨b, c, 79999, sz, nz, wd, r, rfl, B4.le (by decide), sz2, sz5, nz1, nz8, w1, w2, r0, by omega, fun q x H' B' K' q0 h1 h2 h3 h4 h5 => hN _ _ ⟨q, x, rfl, h1, h2, h3, h4, h5, B'.le (by decide), fun e => by
        obtain ⟨xc, ec⟩ := B4.at2
        rw [← e, ec] at q0; cases q0⟩⟩
    rintro σ H4 ⟨q, x, rfl, sh, ew, g, l5, sm, B4, ncq⟩
    refine cut_seq (fun σ H5 => ∃ (x : Nd) (v6 : Option V), σ = [some (.ref a), some (.ref b), some (.int sz), some (.int nz), some (.int wd), some (.ref q), v6, none, none, none, none, none, none, none, none, none, none, none, none, none, none] ∧ ShL K (LK.hb H5 b) (.ref q) x ∧ x.w = wd ∧ Gn 400 x ∧ Smx x ∧ Bag 10000 H5 b c) (fun N hN => ?_) ?_
    · walk_at "rs"
      refine ⟨b, c, 16, 69999, rfl, B4, by decide, by decide, fun r H5 r0 r1 B5 K5 => ⟨r, rfl, ite2 (fun _ => ?_) (fun _ => hN _ _ ⟨x, none, rfl, (sh.kp K5).shl, ew, g, sm, B5.le (by decide)⟩)⟩⟩
      replace sh := sh.kp K5
      clear B4 K5 r0 r1
      refine seq_op fun N2 hN2 => ?_
      walk_at "rs"
      refine ⟨b, c, 2, 69998, rfl, B5, by decide, by decide, fun r H6 r0 r1 B6 K6 => ?_⟩
      obtain ⟨vr, vg, vp, vt, eq, nqb, h1, h2, h3, ⟨at', xt, rfl, et, alt⟩⟩ := sh.kp K6
      obtain ⟨natq, et1⟩ := hb_some et
      obtain ⟨natb, et2⟩ := hb_some et1
      have lt := alt.len
      refine ⟨_, SqL.of eq, .ref at', rfl, at', rfl, xt, .inl (SqL.of et2), r, rfl, by omega, hN2 _ _ ?_⟩
      obtain ⟨many, em, m0, m1⟩ : ∃ n : Nat, 94 + r * (6 - (xt.length : Int)) = (n : Int) ∧ n + xt.length ≤ 100 ∧ 0 ≤ n := by
        have : r = 0 ∨ r = 1 := by omega
        rcases this with rfl | rfl
        · exact ⟨94, by omega, by omega, by omega⟩
        · exact ⟨94 + (6 - xt.length), by omega, by omega, by omega⟩
      rw [em]
      clear hN2 N2 sh B5 K6 r0 r1
      walk_at "rs"
      refine ⟨_, SqL.of eq, .ref at', rfl, _, rfl, (many : Int), rfl, by omega, by omega, fun Dl hDl => ?_⟩
      refine lc_drawF (n := (many : Int).toNat) (k := 1) (N := 60000) (fun G v => ∃ s, SL K G v s ∧ Gs 400 wd s) (fun G G' v s ⟨l, h1, h2⟩ => ⟨l, h1.same s, h2⟩) hDl (B6.le (by omega)) (by omega) (fun z H7 M K7 B7 Q2 hq => ?_) fun H7 vs B7 K7 h7 lv hv => ?_
      · walk_at "rs"
        refine ⟨by rw [sizeLine_eq]; omega, fun p H8 s8 p0 p1 => of_lst (B7.same s8) p1 (new_ne B7 p0) (by simp) (by decide) fun y H9 hy B9 K9 => ⟨by rw [sizeLine_eq]; omega, fun e H10 s10 e0 e1 => ⟨by rw [sizeLine_eq]; omega, fun t H11 s11 t0 t1 => ?_⟩⟩⟩
        obtain ⟨kk, rfl⟩ : ∃ kk, y = .str (kS kk) := by
          rcases List.mem_cons.mp hy with rfl | hy
          · exact ⟨true, rfl⟩
          · rw [List.mem_singleton.mp hy]; exact ⟨false, rfl⟩
        have KK : Kp b H7 H9 := Same.trans (Kp.of s8) K9
        exact hq (.ref t) H11 ((B9.same s10).same s11) (Same.trans KK (Kp.of (s10.trans s11))) ⟨(kk, []), ⟨t, e, [], rfl, SqT.of (fr_tk t _ t1 (fun xs z => by cases z)), fr_new (Kp.dom KK B9.at.choose_spec e e0) (s11 _ _ e1), .nil⟩, ⟨Nat.zero_le _, fun p hp => absurd hp (by simp)⟩⟩
      obtain ⟨sts, al6⟩ := Al.ex hv
      have e7 := K7.hd eq nqb
      have nD : Dl ≠ q := fun z => by rw [z, eq] at hDl; cases hDl
      have nDb := new_ne B6 hDl
      have xD : (L2.upd H6 Dl (.lst [])) q ≠ none := by rw [upd_ne nD.symm, eq]; exact Option.some_ne_none _
      have cD : c ≠ Dl := fun e => by
        obtain ⟨xc, ec⟩ := B6.at2
        rw [← e, ec] at hDl; cases hDl
      have lsts : sts.length = many := by have := al6.len; omega
      have gsts : ∀ s ∈ sts, Gs 400 wd s := fun s hs => (al6.mem' hs).choose_spec.2.2
      replace al6 := al6.imp fun _ _ h => h.1.same (fr_Zb (B6.upd (o := .lst []) (Ne.symm nDb) cD) B7 xD e7)
      refine ⟨at', rfl, Dl, rfl, xt, K7.hd et2 natb, vs, h7, by rw [sizeLine_eq]; have := al6.len; omega, fun p H8 s8 p0 p1 => ⟨_, s8 _ _ e7, 6, rfl, hN _ _ ⟨⟨x.s, x.n, x.w, x.rest, x.sg, x.pl, x.st ++ sts⟩, _, rfl, ?_, ew, ⟨g.s, g.n, g.w, g.rest, g.sg, g.pl, by show (x.st ++ sts).length ≤ 100; rw [List.length_append]; omega, fun s hs => ?_⟩, ⟨sm.rest, sm.sg, sm.pl⟩, ((B7.same s8).upd (Ne.symm nqb) ncq).le (by decide)⟩⟩⟩
      · have npb := new_ne B7 p0
        have npq : p ≠ q := fun z => by rw [z, e7] at p0; cases p0
        have S2 : ∀ o : HO, Same (Zb b q H7) (LK.hb (L2.upd H8 q o) b) := fun o => (Zb_kp (Kp.of s8)).trans ((hb_upd nqb).trans Zb_le)
        have S1 : ∀ o : HO, Same (Zb b q H6) (LK.hb (L2.upd H8 q o) b) := fun o => (Zb_kp K7).trans (S2 o)
        exact ⟨q, vr, vg, vp, .ref p, rfl, by rw [hb_ne nqb, upd_same]; rfl, h1.same (S1 _), h2.same (S1 _), h3.same (S1 _), ⟨p, xt ++ vs, rfl, by rw [hb_ne npb, upd_ne npq]; exact p1, (alt.imp fun _ _ h => h.same (S1 _)).app (al6.imp fun _ _ h => h.same (S2 _))⟩⟩
      · rcases List.mem_append.mp hs with hs | hs
        · exact g.st.2 s hs
        · show Gs 400 x.w s; rw [ew]; exact gsts s hs
    rintro σ H5 ⟨y, v6, rfl, hs, ey, gy, smy, B5⟩
    exact go05 _ _ H5 b c wd (.ref q) y _ _ _ _ k rfl B5 w1 ey.symm gy smy hs
end
end LK

set_option Elab.async false
set_option linter.all false
set_option maxRecDepth 100000
namespace LK
open PySem PySem.Spec PyProof.Rows L2
local macro_rules | `(tactic| walk_at "rs") => `(tactic| simp only [tFld, sFld, tMeth, tMethZ, tMakeK, tProp, tFmt, rEqO, rNeO, cxK, cxNK, tCallZ, tAsg, tOp, rI0, rS0, rB0, rI, rU, tUn, rEq, rNe, rIxL, rIxT, rIxS, rSetL, rSlLU, rSlS, rSlU, rCatL, rCatU, rRepL, rIn, tVar, tC, gName, gSub, tIfS, tTest, tB, tAnd, tOr, tNot, tNotV, tAndV, tOrV, tIf, tCall, tCons, tNil, tCB, tDrop, tRet, tRetN, tNext, tLstU, tTupU, tM0, tM1, tPar, tPar3, tAug, ipI, tBM, tBM0, rAppend, rPop, tBreak, sDPut, tDGet, tDGet2, tCont, tChain, tSl, tPart, tNoPart, L2.start, List.map, List.length_cons, List.length_nil, List.replicate, List.cons_append, List.nil_append, List.append_nil, List.getElem?_cons_zero, List.getElem?_cons_succ, List.set_cons_zero, List.set_cons_succ, Option.some.injEq, V.int.injEq, V.ref.injEq, V.str.injEq, V.bl.injEq, exists_eq_left', exists_eq_left, exists_and_left, decide_eq_true_eq, List.cons.injEq, and_true, true_and, scal, Bool.not_eq_true', decide_eq_false_iff_not, Nat.zero_add, Nat.reduceAdd, Nat.reduceSub, reduceCtorEq, false_and, exists_false, false_or, or_false, CPow, CPowW, CMul, CDiv, Int.reduceToNat, ↓reduceIte, wipe, sw, List.nil_append, List.singleton_append])
local macro_rules | `(tactic| walk_at "st") => `(tactic| (refine seq_op fun N hN => ?_; walk_at "rs"))
local macro_rules | `(tactic| walk_at "sd") => `(tactic| first | assumption | decide | omega)
local macro_rules | `(tactic| walk_at "rd") => `(tactic| repeat (first
  | refine ⟨_, SqL.of (by assumption), ?_⟩ | refine ⟨_, SqL.of upd_same, ?_⟩ | refine ⟨_, .inl (SqL.of (by assumption)), ?_⟩ | refine ⟨_, (by assumption : _ = some (HO.lst _)), ?_⟩ | refine ⟨_, upd_same, ?_⟩
  | refine ⟨_, rfl, ?_⟩ | refine And.intro (by walk_at "sd") ?_))
/-! ### what the head tells, as Bools -/
def oexB (K : PySem.W.Frag) (C : Addr) : Bool := (match K.lookup C with
  | some ⟨.type c, _, .cls cd, sl⟩ => (match cd.mro, sl.toList with
    | .ref C' :: bm, [_, _, _, _, some (.builtin n), _] => decide (c = "type") && (decide (C' = C) && (decide (n = "ValueError.__new__") && (!cd.hasDel && (cd.hasDict && PySem.HandSPX.refsVE bm))))
    | _, _ => false)
  | _ => false) && (He.eqO (PySem.W.findIn K (.ref C) "__setattr__") (some (some (.builtin "object.__setattr__"))) && (decide (PySem.W.subIn K (.ref C) (.type "BaseException") = some true) && (decide (PySem.W.typeIn K (.ref C) = some (.type "type")) && PySem.W.keepIn K (.ref C))))
theorem oexB_ok {K : PySem.W.Frag} {C : Addr} (h : oexB K C = true) : OexC K C := by
  obtain ⟨h1, h2⟩ := He.ba h
  obtain ⟨h3, h4⟩ := He.ba h2
  obtain ⟨h5, h6⟩ := He.ba h4
  obtain ⟨h7, h8⟩ := He.ba h6
  refine ⟨?_, He.eqO_ok h3, of_decide_eq_true h5, of_decide_eq_true h7, h8⟩
  cases e : K.lookup C with
  | none => rw [e] at h1; cases h1
  | some ob =>
    obtain ⟨oc, od, dt, osl⟩ := ob
    rw [e] at h1
    cases oc with
    | type c =>
      cases dt with
      | cls cd =>
        obtain ⟨nm, bs, mro, ns, qn, hd, sn, sb, ab, col, del⟩ := cd
        dsimp only at h1
        split at h1
        · rename_i xl C' bm k0 k1 k2 k3 n k5 es
          obtain ⟨a1, b1⟩ := He.ba h1
          obtain ⟨a2, b2⟩ := He.ba b1
          obtain ⟨a3, b3⟩ := He.ba b2
          obtain ⟨a4, b4⟩ := He.ba b3
          obtain ⟨a5, a6⟩ := He.ba b4
          have ec : c = "type" := of_decide_eq_true a1
          have eC : C' = C := of_decide_eq_true a2
          have en : n = "ValueError.__new__" := of_decide_eq_true a3
          have ed : del = false := by cases del with
            | false => rfl
            | true => cases a4
          have eh : hd = true := a5
          have eo : osl = #[k0, k1, k2, k3, some (.builtin n), k5] := by
            have := congrArg List.toArray es
            simpa using this
          subst ec eC en ed eh eo
          exact ⟨nm, qn, ns, bs, bm, sn, sb, ab, col, od, k0, k1, k2, k3, k5, rfl, a6⟩
        · cases h1
      | _ => cases h1
    | _ => cases dt <;> cases h1
def bvC (K : PySem.W.Frag) : Addr := He.ga K "BadValue"
def bvI (K : PySem.W.Frag) : Addr := He.fAd K ("BadValue", some "__init__")
abbrev nC (K : PySem.W.Frag) : Addr := He.ga K "Net"
def nI (K : PySem.W.Frag) : Addr := He.fAd K ("Net", some "__init__")
/-- a keyword-only default of Net.__init__ -/
def kwA (K : PySem.W.Frag) (x : Str) : Addr := match K.lookup (nI K) with
  | some ⟨_, _, .func fd, _⟩ => (match fd.kwdefaults with
    | .ref D => (match PySem.W.nsIn K D x with
      | some (some (.ref e)) => e
      | _ => 0)
    | _ => 0)
  | _ => 0
def kwB (K : PySem.W.Frag) (x : Str) : Bool := match K.lookup (nI K) with
  | some ⟨_, _, .func fd, _⟩ => (match fd.kwdefaults with
    | .ref D => He.eqO (PySem.W.nsIn K D x) (some (some (.ref (kwA K x))))
    | _ => false)
  | _ => false
def emB (K : PySem.W.Frag) (a : Addr) : Bool := match K.lookup a with
  | some ⟨.type c, _, .seq its _, _⟩ => decide (c = "tuple") && its.toList.isEmpty
  | _ => false
theorem emB_ok {K : PySem.W.Frag} {a : Addr} (h : emB K a = true) (H : Hp) : SqT K H a [] := by
  unfold emB at h
  cases q : K.lookup a with
  | none => rw [q] at h; cases h
  | some o =>
    obtain ⟨oc, od, dt, osl⟩ := o
    rw [q] at h
    cases oc with
    | type c =>
      cases dt with
      | seq its n =>
        obtain ⟨h1, h2⟩ := He.ba (show (decide (c = "tuple") && its.toList.isEmpty) = true from h)
        have e2 : its.toList = [] := List.isEmpty_iff.mp h2
        refine .inr ⟨_, its, n, q, congrArg Value.type (of_decide_eq_true h1), rfl, ?_, ?_⟩
        · have := congrArg List.length e2
          simp at this
          rw [this]; exact Nat.zero_le _
        · rw [e2]; exact .nil
      | _ => cases h
    | _ => cases dt <;> cases h
/-- the property's getter -/
def lyP (K : PySem.W.Frag) : Addr := He.ma K (nC K) "layers"
def lyG (K : PySem.W.Frag) : Addr := match PySem.W.recIn K (lyP K) "property" with
  | some (.ref g :: _) => g
  | _ => 0
def lyB (K : PySem.W.Frag) : Bool := match PySem.W.recIn K (lyP K) "property" with
  | some (.ref g :: _) => decide (g = lyG K)
  | _ => false
def lyW (K : PySem.W.Frag) : He.FnW := match K.lookup (lyG K) with
  | some ⟨_, _, .func fd, _⟩ => some (fd.name, fd.qualname, fd.params, fd.body, fd.scope, fd.globals, fd.closure, fd.builtins)
  | _ => none
def lyV : He.FnW := some ("layers", "Net.layers", defArgs s_Net__layers, .stmts (defBody s_Net__layers), defScope s_Net__layers, mainGlobals, [], builtinsNs)
def lyC (K : PySem.W.Frag) : Bool := PySem.W.keepIn K (.ref (lyG K)) && (match K.lookup (lyG K) with
  | some ⟨_, _, .func fd, _⟩ => PySem.W.codeIn K fd.code "Net.layers" && He.dflB K fd.defaults []
  | _ => false)
theorem ly_fun {K : PySem.W.Frag} (e : lyW K = lyV) (c : lyC K = true) : ∃ fd, FunD K "layers" "Net.layers" (defArgs s_Net__layers) (defBody s_Net__layers) (defScope s_Net__layers) [] [] (lyG K) fd := by
  obtain ⟨kp, c2⟩ := He.ba c
  unfold lyW at e
  cases q : K.lookup (lyG K) with
  | none => rw [q] at c2; cases c2
  | some o =>
    obtain ⟨oc, od, dt, osl⟩ := o
    rw [q] at c2 e
    cases dt with
    | func fd =>
      obtain ⟨n1, n2, n3, n4, n5, n6, n7, n8, n9, n10, n11, n12, n13, n14, n15⟩ := fd
      have e2 : (some (n1, n2, n3, n4, n5, n6, n7, n15) : He.FnW) = lyV := e
      simp only [lyV, Option.some.injEq, Prod.mk.injEq] at e2
      obtain ⟨h1, h2, h3, h4, h5, h6, h7, h8⟩ := e2
      subst h1 h2 h3 h4 h5 h6 h7 h8
      have c3 : (PySem.W.codeIn K n13 "Net.layers" && He.dflB K n8 []) = true := c2
      obtain ⟨k1, k3⟩ := He.ba c3
      exact ⟨_, ⟨oc, od, n8, n9, n10, n11, n12, n13, n14, osl, rfl, q, k1, He.dflB_ok k3, .inl rfl⟩, kp⟩
    | _ => cases c2
theorem ly_prop {K : PySem.W.Frag} (h1 : PySem.W.findIn K (.ref (nC K)) "layers" = some (some (.ref (lyP K)))) (h2 : PySem.W.specialIn K (.ref (lyP K)) "__get__" = some (some (.builtin "property.__get__"))) (h3 : PySem.W.takesIn K (.ref (lyP K)) = some true) (h4 : lyB K = true) : PropOf K (nC K) "layers" (lyP K) (lyG K) := by
  refine ⟨h1, h2, h3, ?_⟩
  unfold lyB at h4
  split at h4
  · rename_i g r e
    exact ⟨r, by rw [← of_decide_eq_true h4]; exact e⟩
  · cases h4
/-- the keyword-only defaults -/
theorem kw_fun {K : PySem.W.Frag} {x q : Str} {ps : Arguments} {b : List Stmt} {sc : Scope} {fd : FuncData} (F : FunD K x q ps b sc [] [] (nI K) fd) (h1 : kwB K "rest" = true) (h2 : kwB K "stages" = true) : FunD K x q ps b sc [] [("rest", .ref (kwA K "rest")), ("stages", .ref (kwA K "stages"))] (nI K) fd := by
  obtain ⟨oc, od, dV, kV, doc, pm, an, cdv, ct, osl, rfl, lk, hcd, hD, _⟩ := F.ex
  refine ⟨⟨oc, od, dV, kV, doc, pm, an, cdv, ct, osl, rfl, lk, hcd, hD, .inr ?_⟩, F.kp⟩
  unfold kwB at h1 h2
  rw [lk] at h1 h2
  cases kV with
  | ref D =>
    refine ⟨D, rfl, fun z hz => ?_⟩
    rcases List.mem_cons.mp hz with rfl | hz
    · exact ⟨_, He.eqO_ok (show He.eqO (PySem.W.nsIn K D "rest") (some (some (.ref (kwA K "rest")))) = true from h1), rfl⟩
    · rcases List.mem_cons.mp hz with rfl | hz
      · exact ⟨_, He.eqO_ok (show He.eqO (PySem.W.nsIn K D "stages") (some (some (.ref (kwA K "stages")))) = true from h2), rfl⟩
      · cases hz
  | _ => exact Bool.noConfusion (show false = true from h1)
def exB (K : PySem.W.Frag) : Bool := oexB K (bvC K) && (He.eqO (PySem.W.nsIn K mainGlobals "gcd") (some (some (.builtin "math.gcd"))) && (decide (PySem.W.typeIn K (.ref (bvI K)) = some (.type "function")) && (He.eqO (PySem.W.findIn K (.ref (bvC K)) "__init__") (some (some (.ref (bvI K)))) && (He.tupB K "ZERO" [.int 0, .int 1] && (He.eqO (PySem.W.findIn K (.ref (nC K)) "__class__") (some (some (.builtin "object.__class__"))) && (He.eqO (PySem.W.specialIn K (.builtin "object.__class__") "__get__") (some (some (.builtin "getset_descriptor.__get__"))) && (decide (PySem.W.takesIn K (.builtin "object.__class__") = some true) && (decide (PySem.W.mroIn K (nC K) (.type "object") = some true) && (decide (PySem.W.kitOne K (.ref (nC K)) (.ref (nC K)) = some true) && (decide (PySem.W.kitOne K (.type "list") (.ref (nC K)) = some false) && (decide (PySem.W.kitOne K (.type "NoneType") (.ref (nC K)) = some false) && (PySem.W.notFirst K (nC K) (.ref (nC K)) && (PySem.W.notFirst K (nC K) (.type "list") && (PySem.W.notFirst K (nC K) (.type "NoneType") && (He.eqO (PySem.W.findIn K (.ref (nC K)) "__ne__") (some (some (.builtin "object.__ne__"))) && (kwB K "rest" && (kwB K "stages" && (emB K (kwA K "rest") && (emB K (kwA K "stages") && (He.eqO (PySem.W.findIn K (.ref (nC K)) "layers") (some (some (.ref (lyP K)))) && (He.eqO (PySem.W.specialIn K (.ref (lyP K)) "__get__") (some (some (.builtin "property.__get__"))) && (decide (PySem.W.takesIn K (.ref (lyP K)) = some true) && (lyB K && (lyC K))))))))))))))))))))))))
def dInit : He.DefD := ⟨("BadValue", some "__init__"), "__init__", "BadValue.__init__", defArgs s_BadValue, defBody s_BadValue, defScope s_BadValue, [], []⟩
def dNI : He.DefD := ⟨("Net", some "__init__"), "__init__", "Net.__init__", defArgs s_Net__init, defBody s_Net__init, defScope s_Net__init, [], []⟩
def D_Net__rest_row : He.DefD := ⟨("Net", some "rest_row"), "rest_row", "Net.rest_row", defArgs s_Net__rest_row, defBody s_Net__rest_row, defScope s_Net__rest_row, [], []⟩
def D_Net__sign_rows : He.DefD := ⟨("Net", some "sign_rows"), "sign_rows", "Net.sign_rows", defArgs s_Net__sign_rows, defBody s_Net__sign_rows, defScope s_Net__sign_rows, [], []⟩
def D_Net__place_rows : He.DefD := ⟨("Net", some "place_rows"), "place_rows", "Net.place_rows", defArgs s_Net__place_rows, defBody s_Net__place_rows, defScope s_Net__place_rows, [], []⟩
def D_Net__stages : He.DefD := ⟨("Net", some "stages"), "stages", "Net.stages", defArgs s_Net__stages, defBody s_Net__stages, defScope s_Net__stages, [], []⟩
def D_Net__with_stages : He.DefD := ⟨("Net", some "with_stages"), "with_stages", "Net.with_stages", defArgs s_Net__with_stages, defBody s_Net__with_stages, defScope s_Net__with_stages, [], []⟩
def D_Net__eq : He.DefD := ⟨("Net", some "__eq__"), "__eq__", "Net.__eq__", defArgs s_Net__eq, defBody s_Net__eq, defScope s_Net__eq, [], []⟩
def D_Net__repr : He.DefD := ⟨("Net", some "__repr__"), "__repr__", "Net.__repr__", defArgs s_Net__repr, defBody s_Net__repr, defScope s_Net__repr, [], []⟩
def D_is_number : He.DefD := ⟨("is_number", none), "is_number", "is_number", defArgs s_is_number, defBody s_is_number, defScope s_is_number, [], []⟩
def D_is_fraction : He.DefD := ⟨("is_fraction", none), "is_fraction", "is_fraction", defArgs s_is_fraction, defBody s_is_fraction, defScope s_is_fraction, [], []⟩
def D_fraction : He.DefD := ⟨("fraction", none), "fraction", "fraction", defArgs s_fraction, defBody s_fraction, defScope s_fraction, [.int 1], []⟩
def D_plus : He.DefD := ⟨("plus", none), "plus", "plus", defArgs s_plus, defBody s_plus, defScope s_plus, [], []⟩
def D_are_sizes : He.DefD := ⟨("are_sizes", none), "are_sizes", "are_sizes", defArgs s_are_sizes, defBody s_are_sizes, defScope s_are_sizes, [], []⟩
def D_normal_entries : He.DefD := ⟨("normal_entries", none), "normal_entries", "normal_entries", defArgs s_normal_entries, defBody s_normal_entries, defScope s_normal_entries, [], []⟩
def D_normal_triples : He.DefD := ⟨("normal_triples", none), "normal_triples", "normal_triples", defArgs s_normal_triples, defBody s_normal_triples, defScope s_normal_triples, [], []⟩
def D_normal_part : He.DefD := ⟨("normal_part", none), "normal_part", "normal_part", defArgs s_normal_part, defBody s_normal_part, defScope s_normal_part, [], []⟩
def D_normal_stage : He.DefD := ⟨("normal_stage", none), "normal_stage", "normal_stage", defArgs s_normal_stage, defBody s_normal_stage, defScope s_normal_stage, [], []⟩
def D_is_column : He.DefD := ⟨("is_column", none), "is_column", "is_column", defArgs s_is_column, defBody s_is_column, defScope s_is_column, [], []⟩
def D_are_items : He.DefD := ⟨("are_items", none), "are_items", "are_items", defArgs s_are_items, defBody s_are_items, defScope s_are_items, [], []⟩
def D_is_item : He.DefD := ⟨("is_item", none), "is_item", "is_item", defArgs s_is_item, defBody s_is_item, defScope s_is_item, [], []⟩
def D_are_rows : He.DefD := ⟨("are_rows", none), "are_rows", "are_rows", defArgs s_are_rows, defBody s_are_rows, defScope s_are_rows, [], []⟩
def D_is_part : He.DefD := ⟨("is_part", none), "is_part", "is_part", defArgs s_is_part, defBody s_is_part, defScope s_is_part, [], []⟩
def D_is_stage : He.DefD := ⟨("is_stage", none), "is_stage", "is_stage", defArgs s_is_stage, defBody s_is_stage, defScope s_is_stage, [], []⟩
def D_check_stages : He.DefD := ⟨("check_stages", none), "check_stages", "check_stages", defArgs s_check_stages, defBody s_check_stages, defScope s_check_stages, [], []⟩
def D__law_bag : He.DefD := ⟨("_law_bag", none), "_law_bag", "_law_bag", defArgs s__law_bag, defBody s__law_bag, defScope s__law_bag, [], []⟩
def D__law_draw : He.DefD := ⟨("_law_draw", none), "_law_draw", "_law_draw", defArgs s__law_draw, defBody s__law_draw, defScope s__law_draw, [], []⟩
def D__law_of : He.DefD := ⟨("_law_of", none), "_law_of", "_law_of", defArgs s__law_of, defBody s__law_of, defScope s__law_of, [], []⟩
def D__law_either : He.DefD := ⟨("_law_either", none), "_law_either", "_law_either", defArgs s__law_either, defBody s__law_either, defScope s__law_either, [], []⟩
def D__law_like : He.DefD := ⟨("_law_like", none), "_law_like", "_law_like", defArgs s__law_like, defBody s__law_like, defScope s__law_like, [], []⟩
def D__law_gcd : He.DefD := ⟨("_law_gcd", none), "_law_gcd", "_law_gcd", defArgs s__law_gcd, defBody s__law_gcd, defScope s__law_gcd, [], []⟩
def D__law_low : He.DefD := ⟨("_law_low", none), "_law_low", "_law_low", defArgs s__law_low, defBody s__law_low, defScope s__law_low, [], []⟩
def D__law_plus : He.DefD := ⟨("_law_plus", none), "_law_plus", "_law_plus", defArgs s__law_plus, defBody s__law_plus, defScope s__law_plus, [], []⟩
def D__law_great : He.DefD := ⟨("_law_great", none), "_law_great", "_law_great", defArgs s__law_great, defBody s__law_great, defScope s__law_great, [], []⟩
def D__law_factor : He.DefD := ⟨("_law_factor", none), "_law_factor", "_law_factor", defArgs s__law_factor, defBody s__law_factor, defScope s__law_factor, [], []⟩
def D__law_items : He.DefD := ⟨("_law_items", none), "_law_items", "_law_items", defArgs s__law_items, defBody s__law_items, defScope s__law_items, [], []⟩
def D__law_normal : He.DefD := ⟨("_law_normal", none), "_law_normal", "_law_normal", defArgs s__law_normal, defBody s__law_normal, defScope s__law_normal, [], []⟩
def D__law_stage : He.DefD := ⟨("_law_stage", none), "_law_stage", "_law_stage", defArgs s__law_stage, defBody s__law_stage, defScope s__law_stage, [], []⟩
def D__law_settled_stage : He.DefD := ⟨("_law_settled_stage", none), "_law_settled_stage", "_law_settled_stage", defArgs s__law_settled_stage, defBody s__law_settled_stage, defScope s__law_settled_stage, [], []⟩
def D__law_sheet : He.DefD := ⟨("_law_sheet", none), "_law_sheet", "_law_sheet", defArgs s__law_sheet, defBody s__law_sheet, defScope s__law_sheet, [], []⟩
def D__law_settled : He.DefD := ⟨("_law_settled", none), "_law_settled", "_law_settled", defArgs s__law_settled, defBody s__law_settled, defScope s__law_settled, [], []⟩
def D__law_loose : He.DefD := ⟨("_law_loose", none), "_law_loose", "_law_loose", defArgs s__law_loose, defBody s__law_loose, defScope s__law_loose, [], []⟩
def D__law_handed : He.DefD := ⟨("_law_handed", none), "_law_handed", "_law_handed", defArgs s__law_handed, defBody s__law_handed, defScope s__law_handed, [], []⟩
def D__law_net : He.DefD := ⟨("_law_net", none), "_law_net", "_law_net", defArgs s__law_net, defBody s__law_net, defScope s__law_net, [], []⟩
def D__law_told : He.DefD := ⟨("_law_told", none), "_law_told", "_law_told", defArgs s__law_told, defBody s__law_told, defScope s__law_told, [], []⟩
def D__law_spoil : He.DefD := ⟨("_law_spoil", none), "_law_spoil", "_law_spoil", defArgs s__law_spoil, defBody s__law_spoil, defScope s__law_spoil, [], []⟩
def D__law_altered : He.DefD := ⟨("_law_altered", none), "_law_altered", "_law_altered", defArgs s__law_altered, defBody s__law_altered, defScope s__law_altered, [], []⟩
def D_law : He.DefD := ⟨("law", none), "law", "law", defArgs s_law, defBody s_law, defScope s_law, [], []⟩
def fnL : List He.DefD := [dInit, dNI, D_Net__rest_row, D_Net__sign_rows, D_Net__place_rows, D_Net__stages, D_Net__with_stages, D_Net__eq, D_Net__repr, D_is_number, D_is_fraction, D_fraction, D_plus, D_are_sizes, D_normal_entries, D_normal_triples, D_normal_part, D_normal_stage, D_is_column, D_are_items, D_is_item, D_are_rows, D_is_part, D_is_stage, D_check_stages, D__law_bag, D__law_draw, D__law_of, D__law_either, D__law_like, D__law_gcd, D__law_low, D__law_plus, D__law_great, D__law_factor, D__law_items, D__law_normal, D__law_stage, D__law_settled_stage, D__law_sheet, D__law_settled, D__law_loose, D__law_handed, D__law_net, D__law_told, D__law_spoil, D__law_altered, D_law]
def faL : List He.Fa := [.free "len", .free "int", .free "list", .free "tuple", .free "bool", .free "str", .free "dict", .free "isinstance", .free "all", .free "range", .free "zip", .free "abs", .free "sorted", .free "set", .free "enumerate", .free "repr", .glo "ZERO", .glo "BadValue", .glo "Net", .glo "is_number", .glo "is_fraction", .glo "fraction", .glo "plus", .glo "are_sizes", .glo "normal_entries", .glo "normal_triples", .glo "normal_part", .glo "normal_stage", .glo "is_column", .glo "are_items", .glo "is_item", .glo "are_rows", .glo "is_part", .glo "is_stage", .glo "check_stages", .glo "_law_bag", .glo "_law_draw", .glo "_law_of", .glo "_law_either", .glo "_law_like", .glo "_law_gcd", .glo "_law_low", .glo "_law_plus", .glo "_law_great", .glo "_law_factor", .glo "_law_items", .glo "_law_normal", .glo "_law_stage", .glo "_law_settled_stage", .glo "_law_sheet", .glo "_law_settled", .glo "_law_loose", .glo "_law_handed", .glo "_law_net", .glo "_law_told", .glo "_law_spoil", .glo "_law_altered", .glo "law", .noat "BadValue" "value", .noat "BadValue" "code", .int "MOST_WIDTH" 2000, .int "MOST_STAGES" 100, .cls "Net", .mkr "Net", .noat "Net" "signs", .noat "Net" "n", .noat "Net" "width", .noat "Net" "_rest_row", .noat "Net" "_sign_rows", .noat "Net" "_place_rows", .noat "Net" "_stages", .meth "Net" "rest_row", .meth "Net" "sign_rows", .meth "Net" "place_rows", .meth "Net" "stages", .meth "Net" "with_stages", .meth "Net" "__eq__", .meth "Net" "__repr__"]
def tsL : List He.Tab := []
def tfL : List He.Defn := []
theorem fun_ofD {K : PySem.W.Frag} {x q : Str} {st : Stmt} {f : Addr} {fd : FuncData} {kws : List (Str × V)} (F : FunD K x q (defArgs st) (defBody st) (defScope st) [] kws f fd) : Fun K x q st f fd := by
  obtain ⟨oc, od, dV, kV, doc, pm, an, cdv, ct, osl, rfl, lk, hcd, hD, _⟩ := F.ex
  rcases hD with ⟨_, rfl⟩ | ⟨e, _⟩
  · exact ⟨⟨oc, od, kV, doc, pm, an, cdv, ct, osl, rfl, lk, hcd⟩, F.kp⟩
  · exact absurd rfl e
theorem gA_rel : ∀ {vs mz zs : List V} {us mv ws : List Value}, Vals vs us → Vals mz mv → Vals zs ws → Vals (gA vs mz zs) (gA us mv ws)
  | _, [_, _], [_, _], _, _, _, h, .cons a (.cons b .nil), .cons c (.cons d .nil) => h.append (.cons a (.cons c (.cons d (.cons b .nil))))
  | _, [], _, _, _, _, h, .nil, _ => h
  | _, [_], _, _, _, _, h, .cons _ .nil, _ => h
  | _, _ :: _ :: _ :: _, _, _, _, _, h, .cons _ (.cons _ (.cons _ _)), _ => h
  | _, [_, _], [], _, _, _, h, .cons _ (.cons _ .nil), .nil => h
  | _, [_, _], [_], _, _, _, h, .cons _ (.cons _ .nil), .cons _ .nil => h
  | _, [_, _], _ :: _ :: _ :: _, _, _, _, h, .cons _ (.cons _ .nil), .cons _ (.cons _ (.cons _ _)) => h
theorem gB_rel : ∀ {vs mz zs : List V} {us mv ws : List Value}, Vals vs us → Vals mz mv → Vals zs ws → Vals (gB vs mz zs) (gB us mv ws)
  | _, [_], [_, _, _], _, _, _, h, .cons a .nil, .cons b (.cons c (.cons d .nil)) => h.append (.cons b (.cons c (.cons d (.cons a .nil))))
  | _, [], _, _, _, _, h, .nil, _ => h
  | _, _ :: _ :: _, _, _, _, _, h, .cons _ (.cons _ _), _ => h
  | _, [_], [], _, _, _, h, .cons _ .nil, .nil => h
  | _, [_], [_], _, _, _, h, .cons _ .nil, .cons _ .nil => h
  | _, [_], [_, _], _, _, _, h, .cons _ .nil, .cons _ (.cons _ .nil) => h
  | _, [_], _ :: _ :: _ :: _ :: _, _, _, _, h, .cons _ .nil, .cons _ (.cons _ (.cons _ (.cons _ _))) => h
theorem gC_rel : ∀ {vs mz zs : List V} {us mv ws : List Value}, Vals vs us → Vals mz mv → Vals zs ws → Vals (gC vs mz zs) (gC us mv ws)
  | _, [_], [_, _, _], _, _, _, h, .cons a .nil, .cons b (.cons c (.cons d .nil)) => h.append (.cons a (.cons d (.cons c (.cons b .nil))))
  | _, [], _, _, _, _, h, .nil, _ => h
  | _, _ :: _ :: _, _, _, _, _, h, .cons _ (.cons _ _), _ => h
  | _, [_], [], _, _, _, h, .cons _ .nil, .nil => h
  | _, [_], [_], _, _, _, h, .cons _ .nil, .cons _ .nil => h
  | _, [_], [_, _], _, _, _, h, .cons _ .nil, .cons _ (.cons _ .nil) => h
  | _, [_], _ :: _ :: _ :: _ :: _, _, _, _, h, .cons _ .nil, .cons _ (.cons _ (.cons _ (.cons _ _))) => h
theorem gD_rel : ∀ {vs mz zs : List V} {us mv ws : List Value}, Vals vs us → Vals mz mv → Vals zs ws → Vals (gD vs mz zs) (gD us mv ws) := fun h _ g => h.append g
set_option maxHeartbeats 0 in
theorem facts {P : Program} {w : World} {K : PySem.W.Frag} {h : Heap} {mg : Str → Option Value} {f : Addr} (X : K.In h) (G : h.Ns mainGlobals mg) (hfa : mg ("law" : Str) = some (.ref f)) (c : He.SaysX faL fnL tsL tfL exB w h K) (hly : lyW K = lyV) :
    ∃ fd : FuncData, (∀ (s : Shared) (u : Value), BindsTo s fd ⟨[u], []⟩ [("script", u)]) ∧ ∀ base : Heap, K.In base → base.Ns mainGlobals mg → FnOk P w K mg base CX0 13 f fd ["script"] (sp_law K) := by
  have d := c.t.d
  have ex := c.more
  obtain ⟨e_bv, ex⟩ := He.ba ex
  obtain ⟨e_gcd, ex⟩ := He.ba ex
  obtain ⟨e_bt, ex⟩ := He.ba ex
  obtain ⟨e_bi, ex⟩ := He.ba ex
  obtain ⟨e_zero, ex⟩ := He.ba ex
  obtain ⟨e_cl, ex⟩ := He.ba ex
  obtain ⟨e_cg, ex⟩ := He.ba ex
  obtain ⟨e_ct, ex⟩ := He.ba ex
  obtain ⟨e_mr, ex⟩ := He.ba ex
  obtain ⟨e_kk, ex⟩ := He.ba ex
  obtain ⟨e_kl, ex⟩ := He.ba ex
  obtain ⟨e_kn, ex⟩ := He.ba ex
  obtain ⟨e_nf, ex⟩ := He.ba ex
  obtain ⟨e_nl, ex⟩ := He.ba ex
  obtain ⟨e_nn, ex⟩ := He.ba ex
  obtain ⟨e_ne, ex⟩ := He.ba ex
  obtain ⟨e_k1, ex⟩ := He.ba ex
  obtain ⟨e_k2, ex⟩ := He.ba ex
  obtain ⟨e_m1, ex⟩ := He.ba ex
  obtain ⟨e_m2, ex⟩ := He.ba ex
  obtain ⟨e_l1, ex⟩ := He.ba ex
  obtain ⟨e_l2, ex⟩ := He.ba ex
  obtain ⟨e_l3, ex⟩ := He.ba ex
  obtain ⟨e_l4, ex⟩ := He.ba ex
  have e_l5 := ex
  obtain ⟨d_init, FD_init⟩ := d.def_ 0 (d := dInit) rfl
  obtain ⟨d_NI, FD_NI⟩ := d.def_ 1 (d := dNI) rfl
  obtain ⟨d_Net__rest_row, FD_Net__rest_row⟩ := d.def_ 2 (d := D_Net__rest_row) rfl
  obtain ⟨d_Net__sign_rows, FD_Net__sign_rows⟩ := d.def_ 3 (d := D_Net__sign_rows) rfl
  obtain ⟨d_Net__place_rows, FD_Net__place_rows⟩ := d.def_ 4 (d := D_Net__place_rows) rfl
  obtain ⟨d_Net__stages, FD_Net__stages⟩ := d.def_ 5 (d := D_Net__stages) rfl
  obtain ⟨d_Net__with_stages, FD_Net__with_stages⟩ := d.def_ 6 (d := D_Net__with_stages) rfl
  obtain ⟨d_Net__eq, FD_Net__eq⟩ := d.def_ 7 (d := D_Net__eq) rfl
  obtain ⟨d_Net__repr, FD_Net__repr⟩ := d.def_ 8 (d := D_Net__repr) rfl
  obtain ⟨d_is_number, FD_is_number⟩ := d.def_ 9 (d := D_is_number) rfl
  obtain ⟨d_is_fraction, FD_is_fraction⟩ := d.def_ 10 (d := D_is_fraction) rfl
  obtain ⟨d_fraction, FD_fraction⟩ := d.def_ 11 (d := D_fraction) rfl
  obtain ⟨d_plus, FD_plus⟩ := d.def_ 12 (d := D_plus) rfl
  obtain ⟨d_are_sizes, FD_are_sizes⟩ := d.def_ 13 (d := D_are_sizes) rfl
  obtain ⟨d_normal_entries, FD_normal_entries⟩ := d.def_ 14 (d := D_normal_entries) rfl
  obtain ⟨d_normal_triples, FD_normal_triples⟩ := d.def_ 15 (d := D_normal_triples) rfl
  obtain ⟨d_normal_part, FD_normal_part⟩ := d.def_ 16 (d := D_normal_part) rfl
  obtain ⟨d_normal_stage, FD_normal_stage⟩ := d.def_ 17 (d := D_normal_stage) rfl
  obtain ⟨d_is_column, FD_is_column⟩ := d.def_ 18 (d := D_is_column) rfl
  obtain ⟨d_are_items, FD_are_items⟩ := d.def_ 19 (d := D_are_items) rfl
  obtain ⟨d_is_item, FD_is_item⟩ := d.def_ 20 (d := D_is_item) rfl
  obtain ⟨d_are_rows, FD_are_rows⟩ := d.def_ 21 (d := D_are_rows) rfl
  obtain ⟨d_is_part, FD_is_part⟩ := d.def_ 22 (d := D_is_part) rfl
  obtain ⟨d_is_stage, FD_is_stage⟩ := d.def_ 23 (d := D_is_stage) rfl
  obtain ⟨d_check_stages, FD_check_stages⟩ := d.def_ 24 (d := D_check_stages) rfl
  obtain ⟨d__law_bag, FD__law_bag⟩ := d.def_ 25 (d := D__law_bag) rfl
  obtain ⟨d__law_draw, FD__law_draw⟩ := d.def_ 26 (d := D__law_draw) rfl
  obtain ⟨d__law_of, FD__law_of⟩ := d.def_ 27 (d := D__law_of) rfl
  obtain ⟨d__law_either, FD__law_either⟩ := d.def_ 28 (d := D__law_either) rfl
  obtain ⟨d__law_like, FD__law_like⟩ := d.def_ 29 (d := D__law_like) rfl
  obtain ⟨d__law_gcd, FD__law_gcd⟩ := d.def_ 30 (d := D__law_gcd) rfl
  obtain ⟨d__law_low, FD__law_low⟩ := d.def_ 31 (d := D__law_low) rfl
  obtain ⟨d__law_plus, FD__law_plus⟩ := d.def_ 32 (d := D__law_plus) rfl
  obtain ⟨d__law_great, FD__law_great⟩ := d.def_ 33 (d := D__law_great) rfl
  obtain ⟨d__law_factor, FD__law_factor⟩ := d.def_ 34 (d := D__law_factor) rfl
  obtain ⟨d__law_items, FD__law_items⟩ := d.def_ 35 (d := D__law_items) rfl
  obtain ⟨d__law_normal, FD__law_normal⟩ := d.def_ 36 (d := D__law_normal) rfl
  obtain ⟨d__law_stage, FD__law_stage⟩ := d.def_ 37 (d := D__law_stage) rfl
  obtain ⟨d__law_settled_stage, FD__law_settled_stage⟩ := d.def_ 38 (d := D__law_settled_stage) rfl
  obtain ⟨d__law_sheet, FD__law_sheet⟩ := d.def_ 39 (d := D__law_sheet) rfl
  obtain ⟨d__law_settled, FD__law_settled⟩ := d.def_ 40 (d := D__law_settled) rfl
  obtain ⟨d__law_loose, FD__law_loose⟩ := d.def_ 41 (d := D__law_loose) rfl
  obtain ⟨d__law_handed, FD__law_handed⟩ := d.def_ 42 (d := D__law_handed) rfl
  obtain ⟨d__law_net, FD__law_net⟩ := d.def_ 43 (d := D__law_net) rfl
  obtain ⟨d__law_told, FD__law_told⟩ := d.def_ 44 (d := D__law_told) rfl
  obtain ⟨d__law_spoil, FD__law_spoil⟩ := d.def_ 45 (d := D__law_spoil) rfl
  obtain ⟨d__law_altered, FD__law_altered⟩ := d.def_ 46 (d := D__law_altered) rfl
  obtain ⟨d_law, FD_law⟩ := d.def_ 47 (d := D_law) rfl
  obtain ⟨d_ly, FD_ly⟩ := ly_fun hly e_l5
  have F_ly : Fun K "layers" "Net.layers" s_Net__layers (lyG K) d_ly := fun_ofD FD_ly
  have b_ly := F_ly.binds (ps := ["self"]) fun _ _ _ _ _ _ us hl => match us, hl with | [_], _ => rfl
  have F_init : Fun K "__init__" "BadValue.__init__" s_BadValue (bvI K) d_init := fun_ofD FD_init
  have F_Net__rest_row : Fun K "rest_row" "Net.rest_row" s_Net__rest_row (He.ma K (nC K) "rest_row") d_Net__rest_row := fun_ofD FD_Net__rest_row
  have b_Net__rest_row := F_Net__rest_row.binds (ps := ["self"]) fun _ _ _ _ _ _ us hl => match us, hl with | [_], _ => rfl
  have F_Net__sign_rows : Fun K "sign_rows" "Net.sign_rows" s_Net__sign_rows (He.ma K (nC K) "sign_rows") d_Net__sign_rows := fun_ofD FD_Net__sign_rows
  have b_Net__sign_rows := F_Net__sign_rows.binds (ps := ["self"]) fun _ _ _ _ _ _ us hl => match us, hl with | [_], _ => rfl
  have F_Net__place_rows : Fun K "place_rows" "Net.place_rows" s_Net__place_rows (He.ma K (nC K) "place_rows") d_Net__place_rows := fun_ofD FD_Net__place_rows
  have b_Net__place_rows := F_Net__place_rows.binds (ps := ["self"]) fun _ _ _ _ _ _ us hl => match us, hl with | [_], _ => rfl
  have F_Net__stages : Fun K "stages" "Net.stages" s_Net__stages (He.ma K (nC K) "stages") d_Net__stages := fun_ofD FD_Net__stages
  have b_Net__stages := F_Net__stages.binds (ps := ["self"]) fun _ _ _ _ _ _ us hl => match us, hl with | [_], _ => rfl
  have F_Net__with_stages : Fun K "with_stages" "Net.with_stages" s_Net__with_stages (He.ma K (nC K) "with_stages") d_Net__with_stages := fun_ofD FD_Net__with_stages
  have b_Net__with_stages := F_Net__with_stages.binds (ps := ["self", "stages"]) fun _ _ _ _ _ _ us hl => match us, hl with | [_, _], _ => rfl
  have F_Net__eq : Fun K "__eq__" "Net.__eq__" s_Net__eq (He.ma K (nC K) "__eq__") d_Net__eq := fun_ofD FD_Net__eq
  have b_Net__eq := F_Net__eq.binds (ps := ["self", "other"]) fun _ _ _ _ _ _ us hl => match us, hl with | [_, _], _ => rfl
  have F_Net__repr : Fun K "__repr__" "Net.__repr__" s_Net__repr (He.ma K (nC K) "__repr__") d_Net__repr := fun_ofD FD_Net__repr
  have b_Net__repr := F_Net__repr.binds (ps := ["self"]) fun _ _ _ _ _ _ us hl => match us, hl with | [_], _ => rfl
  have F_is_number : Fun K "is_number" "is_number" s_is_number (He.ga K "is_number") d_is_number := fun_ofD FD_is_number
  have F_is_fraction : Fun K "is_fraction" "is_fraction" s_is_fraction (He.ga K "is_fraction") d_is_fraction := fun_ofD FD_is_fraction
  have F_plus : Fun K "plus" "plus" s_plus (He.ga K "plus") d_plus := fun_ofD FD_plus
  have F_are_sizes : Fun K "are_sizes" "are_sizes" s_are_sizes (He.ga K "are_sizes") d_are_sizes := fun_ofD FD_are_sizes
  have F_normal_entries : Fun K "normal_entries" "normal_entries" s_normal_entries (He.ga K "normal_entries") d_normal_entries := fun_ofD FD_normal_entries
  have F_normal_triples : Fun K "normal_triples" "normal_triples" s_normal_triples (He.ga K "normal_triples") d_normal_triples := fun_ofD FD_normal_triples
  have F_normal_part : Fun K "normal_part" "normal_part" s_normal_part (He.ga K "normal_part") d_normal_part := fun_ofD FD_normal_part
  have F_normal_stage : Fun K "normal_stage" "normal_stage" s_normal_stage (He.ga K "normal_stage") d_normal_stage := fun_ofD FD_normal_stage
  have F_is_column : Fun K "is_column" "is_column" s_is_column (He.ga K "is_column") d_is_column := fun_ofD FD_is_column
  have F_are_items : Fun K "are_items" "are_items" s_are_items (He.ga K "are_items") d_are_items := fun_ofD FD_are_items
  have F_is_item : Fun K "is_item" "is_item" s_is_item (He.ga K "is_item") d_is_item := fun_ofD FD_is_item
  have F_are_rows : Fun K "are_rows" "are_rows" s_are_rows (He.ga K "are_rows") d_are_rows := fun_ofD FD_are_rows
  have F_is_part : Fun K "is_part" "is_part" s_is_part (He.ga K "is_part") d_is_part := fun_ofD FD_is_part
  have F_is_stage : Fun K "is_stage" "is_stage" s_is_stage (He.ga K "is_stage") d_is_stage := fun_ofD FD_is_stage
  have F_check_stages : Fun K "check_stages" "check_stages" s_check_stages (He.ga K "check_stages") d_check_stages := fun_ofD FD_check_stages
  have F__law_bag : Fun K "_law_bag" "_law_bag" s__law_bag (He.ga K "_law_bag") d__law_bag := fun_ofD FD__law_bag
  have F__law_draw : Fun K "_law_draw" "_law_draw" s__law_draw (He.ga K "_law_draw") d__law_draw := fun_ofD FD__law_draw
  have F__law_of : Fun K "_law_of" "_law_of" s__law_of (He.ga K "_law_of") d__law_of := fun_ofD FD__law_of
  have F__law_either : Fun K "_law_either" "_law_either" s__law_either (He.ga K "_law_either") d__law_either := fun_ofD FD__law_either
  have F__law_like : Fun K "_law_like" "_law_like" s__law_like (He.ga K "_law_like") d__law_like := fun_ofD FD__law_like
  have F__law_gcd : Fun K "_law_gcd" "_law_gcd" s__law_gcd (He.ga K "_law_gcd") d__law_gcd := fun_ofD FD__law_gcd
  have F__law_low : Fun K "_law_low" "_law_low" s__law_low (He.ga K "_law_low") d__law_low := fun_ofD FD__law_low
  have F__law_plus : Fun K "_law_plus" "_law_plus" s__law_plus (He.ga K "_law_plus") d__law_plus := fun_ofD FD__law_plus
  have F__law_great : Fun K "_law_great" "_law_great" s__law_great (He.ga K "_law_great") d__law_great := fun_ofD FD__law_great
  have F__law_factor : Fun K "_law_factor" "_law_factor" s__law_factor (He.ga K "_law_factor") d__law_factor := fun_ofD FD__law_factor
  have F__law_items : Fun K "_law_items" "_law_items" s__law_items (He.ga K "_law_items") d__law_items := fun_ofD FD__law_items
  have F__law_normal : Fun K "_law_normal" "_law_normal" s__law_normal (He.ga K "_law_normal") d__law_normal := fun_ofD FD__law_normal
  have F__law_stage : Fun K "_law_stage" "_law_stage" s__law_stage (He.ga K "_law_stage") d__law_stage := fun_ofD FD__law_stage
  have F__law_settled_stage : Fun K "_law_settled_stage" "_law_settled_stage" s__law_settled_stage (He.ga K "_law_settled_stage") d__law_settled_stage := fun_ofD FD__law_settled_stage
  have F__law_sheet : Fun K "_law_sheet" "_law_sheet" s__law_sheet (He.ga K "_law_sheet") d__law_sheet := fun_ofD FD__law_sheet
  have F__law_settled : Fun K "_law_settled" "_law_settled" s__law_settled (He.ga K "_law_settled") d__law_settled := fun_ofD FD__law_settled
  have F__law_loose : Fun K "_law_loose" "_law_loose" s__law_loose (He.ga K "_law_loose") d__law_loose := fun_ofD FD__law_loose
  have F__law_handed : Fun K "_law_handed" "_law_handed" s__law_handed (He.ga K "_law_handed") d__law_handed := fun_ofD FD__law_handed
  have F__law_net : Fun K "_law_net" "_law_net" s__law_net (He.ga K "_law_net") d__law_net := fun_ofD FD__law_net
  have F__law_told : Fun K "_law_told" "_law_told" s__law_told (He.ga K "_law_told") d__law_told := fun_ofD FD__law_told
  have F__law_spoil : Fun K "_law_spoil" "_law_spoil" s__law_spoil (He.ga K "_law_spoil") d__law_spoil := fun_ofD FD__law_spoil
  have F__law_altered : Fun K "_law_altered" "_law_altered" s__law_altered (He.ga K "_law_altered") d__law_altered := fun_ofD FD__law_altered
  have F_law : Fun K "law" "law" s_law (He.ga K "law") d_law := fun_ofD FD_law
  have b_init := F_init.binds (ps := ["self", "value"]) fun _ _ _ _ _ _ us hl => match us, hl with | [_, _], _ => rfl
  have b_is_number := F_is_number.binds (ps := ["value"]) fun _ _ _ _ _ _ us hl => match us, hl with | [_], _ => rfl
  have b_is_fraction := F_is_fraction.binds (ps := ["value"]) fun _ _ _ _ _ _ us hl => match us, hl with | [_], _ => rfl
  have b_plus := F_plus.binds (ps := ["a", "b"]) fun _ _ _ _ _ _ us hl => match us, hl with | [_, _], _ => rfl
  have b_are_sizes := F_are_sizes.binds (ps := ["signs", "n"]) fun _ _ _ _ _ _ us hl => match us, hl with | [_, _], _ => rfl
  have b_normal_entries := F_normal_entries.binds (ps := ["entries"]) fun _ _ _ _ _ _ us hl => match us, hl with | [_], _ => rfl
  have b_normal_triples := F_normal_triples.binds (ps := ["triples"]) fun _ _ _ _ _ _ us hl => match us, hl with | [_], _ => rfl
  have b_normal_part := F_normal_part.binds (ps := ["kind", "part"]) fun _ _ _ _ _ _ us hl => match us, hl with | [_, _], _ => rfl
  have b_normal_stage := F_normal_stage.binds (ps := ["stage"]) fun _ _ _ _ _ _ us hl => match us, hl with | [_], _ => rfl
  have b_is_column := F_is_column.binds (ps := ["value", "width"]) fun _ _ _ _ _ _ us hl => match us, hl with | [_, _], _ => rfl
  have b_are_items := F_are_items.binds (ps := ["value", "many", "width"]) fun _ _ _ _ _ _ us hl => match us, hl with | [_, _, _], _ => rfl
  have b_is_item := F_is_item.binds (ps := ["value", "many", "width"]) fun _ _ _ _ _ _ us hl => match us, hl with | [_, _, _], _ => rfl
  have b_are_rows := F_are_rows.binds (ps := ["value", "many", "width"]) fun _ _ _ _ _ _ us hl => match us, hl with | [_, _, _], _ => rfl
  have b_is_part := F_is_part.binds (ps := ["kind", "value", "width"]) fun _ _ _ _ _ _ us hl => match us, hl with | [_, _, _], _ => rfl
  have b_is_stage := F_is_stage.binds (ps := ["value", "width"]) fun _ _ _ _ _ _ us hl => match us, hl with | [_, _], _ => rfl
  have b_check_stages := F_check_stages.binds (ps := ["stages", "width"]) fun _ _ _ _ _ _ us hl => match us, hl with | [_, _], _ => rfl
  have b__law_bag := F__law_bag.binds (ps := ["script"]) fun _ _ _ _ _ _ us hl => match us, hl with | [_], _ => rfl
  have b__law_draw := F__law_draw.binds (ps := ["bag", "many"]) fun _ _ _ _ _ _ us hl => match us, hl with | [_, _], _ => rfl
  have b__law_of := F__law_of.binds (ps := ["bag", "things"]) fun _ _ _ _ _ _ us hl => match us, hl with | [_, _], _ => rfl
  have b__law_either := F__law_either.binds (ps := ["bag", "things"]) fun _ _ _ _ _ _ us hl => match us, hl with | [_, _], _ => rfl
  have b__law_like := F__law_like.binds (ps := ["found", "due"]) fun _ _ _ _ _ _ us hl => match us, hl with | [_, _], _ => rfl
  have b__law_gcd := F__law_gcd.binds (ps := ["a", "b"]) fun _ _ _ _ _ _ us hl => match us, hl with | [_, _], _ => rfl
  have b__law_low := F__law_low.binds (ps := ["p", "q"]) fun _ _ _ _ _ _ us hl => match us, hl with | [_, _], _ => rfl
  have b__law_plus := F__law_plus.binds (ps := ["a", "b"]) fun _ _ _ _ _ _ us hl => match us, hl with | [_, _], _ => rfl
  have b__law_great := F__law_great.binds (ps := ["bag"]) fun _ _ _ _ _ _ us hl => match us, hl with | [_], _ => rfl
  have b__law_factor := F__law_factor.binds (ps := ["bag"]) fun _ _ _ _ _ _ us hl => match us, hl with | [_], _ => rfl
  have b__law_items := F__law_items.binds (ps := ["bag", "many", "width_z", "most"]) fun _ _ _ _ _ _ us hl => match us, hl with | [_, _, _, _], _ => rfl
  have b__law_normal := F__law_normal.binds (ps := ["items"]) fun _ _ _ _ _ _ us hl => match us, hl with | [_], _ => rfl
  have b__law_stage := F__law_stage.binds (ps := ["bag", "width_z", "most"]) fun _ _ _ _ _ _ us hl => match us, hl with | [_, _, _], _ => rfl
  have b__law_settled_stage := F__law_settled_stage.binds (ps := ["stage"]) fun _ _ _ _ _ _ us hl => match us, hl with | [_], _ => rfl
  have b__law_sheet := F__law_sheet.binds (ps := ["bag", "signs_z", "n_z", "width_z", "stages_y"]) fun _ _ _ _ _ _ us hl => match us, hl with | [_, _, _, _, _], _ => rfl
  have b__law_settled := F__law_settled.binds (ps := ["sheet"]) fun _ _ _ _ _ _ us hl => match us, hl with | [_], _ => rfl
  have b__law_loose := F__law_loose.binds (ps := ["bag", "stage"]) fun _ _ _ _ _ _ us hl => match us, hl with | [_, _], _ => rfl
  have b__law_handed := F__law_handed.binds (ps := ["bag", "sheet"]) fun _ _ _ _ _ _ us hl => match us, hl with | [_, _], _ => rfl
  have b__law_net := F__law_net.binds (ps := ["bag", "handed"]) fun _ _ _ _ _ _ us hl => match us, hl with | [_, _], _ => rfl
  have b__law_told := F__law_told.binds (ps := ["net", "due"]) fun _ _ _ _ _ _ us hl => match us, hl with | [_, _], _ => rfl
  have b__law_spoil := F__law_spoil.binds (ps := ["handed"]) fun _ _ _ _ _ _ us hl => match us, hl with | [_], _ => rfl
  have b__law_altered := F__law_altered.binds (ps := ["bag", "sheet"]) fun _ _ _ _ _ _ us hl => match us, hl with | [_, _], _ => rfl
  have b_law := F_law.binds (ps := ["script"]) fun _ _ _ _ _ _ us hl => match us, hl with | [_], _ => rfl
  have b_fraction : Binds K d_fraction ["p", "q"] [] := by
    obtain ⟨ds, hv, hb⟩ := FunD.binds1 (ps := ["p", "q"]) FD_fraction 2 1 (List.cons_ne_nil _ _) rfl fun _ _ _ _ _ _ _ us its h1 h2 => match us, its, h1, h2 with | [_, _], [_], _, _ => ⟨_, rfl, rfl⟩
    cases hv
    exact hb
  have F_NI := kw_fun FD_NI e_k1 e_k2
  obtain ⟨mv_Net__init_3_sign_rows_place_rows, z_Net__init_3_sign_rows_place_rows⟩ := F_NI.kbinds0 (ps := ["self", "signs", "n", "width", "rest", "sign_rows", "place_rows", "stages"]) 4 ["sign_rows", "place_rows"] [("rest", V.ref (kwA K "rest")), ("stages", V.ref (kwA K "stages"))] (fun us mv ws => gA us mv ws) (List.cons_ne_nil _ _) (fun z hz => by simp at hz ⊢; try (first | exact hz | (rcases hz with rfl | rfl <;> simp) | (subst hz; simp))) (fun h1 h2 h3 => gA_rel h1 h2 h3) fun _ _ _ _ _ _ us mv ws l1 l2 l3 => match us, mv, ws, l1, l2, l3 with | [_, _, _, _], [_, _], [_, _], _, _, _ => ⟨_, _, _, _, _, _, rfl, rfl, ⟨_, _, _, _, _, _, rfl, rfl, rfl⟩⟩
  obtain ⟨mv_Net__init_3_rest_sign_rows_place_rows, z_Net__init_3_rest_sign_rows_place_rows⟩ := F_NI.kbinds0 (ps := ["self", "signs", "n", "width", "rest", "sign_rows", "place_rows", "stages"]) 4 ["rest", "sign_rows", "place_rows"] [("stages", V.ref (kwA K "stages"))] (fun us mv ws => gB us mv ws) (List.cons_ne_nil _ _) (fun z hz => by simp at hz ⊢; try (first | exact hz | (rcases hz with rfl | rfl <;> simp) | (subst hz; simp))) (fun h1 h2 h3 => gB_rel h1 h2 h3) fun _ _ _ _ _ _ us mv ws l1 l2 l3 => match us, mv, ws, l1, l2, l3 with | [_, _, _, _], [_], [_, _, _], _, _, _ => ⟨_, _, _, _, _, _, rfl, rfl, rfl⟩
  obtain ⟨mv_Net__init_3_stages_place_rows_sign_rows, z_Net__init_3_stages_place_rows_sign_rows⟩ := F_NI.kbinds0 (ps := ["self", "signs", "n", "width", "rest", "sign_rows", "place_rows", "stages"]) 4 ["stages", "place_rows", "sign_rows"] [("rest", V.ref (kwA K "rest"))] (fun us mv ws => gC us mv ws) (List.cons_ne_nil _ _) (fun z hz => by simp at hz ⊢; try (first | exact hz | (rcases hz with rfl | rfl <;> simp) | (subst hz; simp))) (fun h1 h2 h3 => gC_rel h1 h2 h3) fun _ _ _ _ _ _ us mv ws l1 l2 l3 => match us, mv, ws, l1, l2, l3 with | [_, _, _, _], [_], [_, _, _], _, _, _ => ⟨_, _, _, _, _, _, rfl, rfl, rfl⟩
  obtain ⟨mv_Net__init_0_signs_n_width_rest_sign_rows_place_rows_stages, z_Net__init_0_signs_n_width_rest_sign_rows_place_rows_stages⟩ := F_NI.kbinds0 (ps := ["self", "signs", "n", "width", "rest", "sign_rows", "place_rows", "stages"]) 1 ["signs", "n", "width", "rest", "sign_rows", "place_rows", "stages"] [] (fun us mv ws => gD us mv ws) (List.cons_ne_nil _ _) (fun z hz => by simp at hz ⊢; try (first | exact hz | (rcases hz with rfl | rfl <;> simp) | (subst hz; simp))) (fun h1 h2 h3 => gD_rel h1 h2 h3) fun _ _ _ _ _ _ us mv ws l1 l2 l3 => match us, mv, ws, l1, l2, l3 with | [_], [], [_, _, _, _, _, _, _], _, _, _ => rfl
  obtain ⟨mv_Net__init_3_rest_sign_rows_place_rows_stages, z_Net__init_3_rest_sign_rows_place_rows_stages⟩ := F_NI.kbinds0 (ps := ["self", "signs", "n", "width", "rest", "sign_rows", "place_rows", "stages"]) 4 ["rest", "sign_rows", "place_rows", "stages"] [] (fun us mv ws => gD us mv ws) (List.cons_ne_nil _ _) (fun z hz => by simp at hz ⊢; try (first | exact hz | (rcases hz with rfl | rfl <;> simp) | (subst hz; simp))) (fun h1 h2 h3 => gD_rel h1 h2 h3) fun _ _ _ _ _ _ us mv ws l1 l2 l3 => match us, mv, ws, l1, l2, l3 with | [_, _, _, _], [], [_, _, _, _], _, _, _ => rfl
  have z_ws : KBn K d_Net__with_stages ["self", "stages"] 1 ["stages"] (fun us ws => us ++ ws) (fun vs zs => vs ++ zs) := by
    obtain ⟨oc, od, kV, doc, pm, an, cdv, ct, osl, rfl, lk, hcd⟩ := F_Net__with_stages.ex
    exact ⟨fun s us ws X l1 l2 => .of_eq (match us, ws, l1, l2 with | [_], [_], _, _ => rfl), fun h1 h2 => h1.append h2⟩
  obtain ⟨tW, hW⟩ := He.int_ok X G (d.fact 60 (f := .int "MOST_WIDTH" 2000) rfl)
  obtain ⟨tS, hS⟩ := He.int_ok X G (d.fact 61 (f := .int "MOST_STAGES" 100) rfl)
  let T : Txt w K mg := {
    n_len := He.free_ok X G (d.fact 0 (f := .free "len") rfl)
    n_int := He.free_ok X G (d.fact 1 (f := .free "int") rfl)
    n_list := He.free_ok X G (d.fact 2 (f := .free "list") rfl)
    n_tuple := He.free_ok X G (d.fact 3 (f := .free "tuple") rfl)
    n_bool := He.free_ok X G (d.fact 4 (f := .free "bool") rfl)
    n_str := He.free_ok X G (d.fact 5 (f := .free "str") rfl)
    n_dict := He.free_ok X G (d.fact 6 (f := .free "dict") rfl)
    n_isinstance := He.free_ok X G (d.fact 7 (f := .free "isinstance") rfl)
    n_all := He.free_ok X G (d.fact 8 (f := .free "all") rfl)
    n_range := He.free_ok X G (d.fact 9 (f := .free "range") rfl)
    n_zip := He.free_ok X G (d.fact 10 (f := .free "zip") rfl)
    n_abs := He.free_ok X G (d.fact 11 (f := .free "abs") rfl)
    n_sorted := He.free_ok X G (d.fact 12 (f := .free "sorted") rfl)
    n_set := He.free_ok X G (d.fact 13 (f := .free "set") rfl)
    n_enumerate := He.free_ok X G (d.fact 14 (f := .free "enumerate") rfl)
    n_repr := He.free_ok X G (d.fact 15 (f := .free "repr") rfl)
    m_gcd := PySem.W.mg_of X G (He.eqO_ok e_gcd)
    a_ZERO := He.ga K "ZERO"
    m_ZERO := He.glo_ok X G (d.fact 16 (f := .glo "ZERO") rfl)
    s_ZERO := fun H => He.tupB_ok e_zero H
    t_MOST_WIDTH := tW
    m_MOST_WIDTH := hW
    t_MOST_STAGES := tS
    m_MOST_STAGES := hS
    C_BadValue := bvC K
    f_BadValue := bvI K
    d_BadValue := d_init
    m_BadValue := He.glo_ok X G (d.fact 17 (f := .glo "BadValue") rfl)
    X_BadValue := oexB_ok e_bv
    i_BadValue := He.eqO_ok e_bi
    t_BadValue := of_decide_eq_true e_bt
    F_BadValue := F_init
    B_BadValue__init := b_init
    v_BadValue := He.noat_ok (d.fact 58 (f := .noat "BadValue" "value") rfl)
    c_BadValue := He.noat_ok (d.fact 59 (f := .noat "BadValue" "code") rfl)
    A_Net := nC K
    m_Net := He.glo_ok X G (d.fact 18 (f := .glo "Net") rfl)
    C_Net := He.cls_ok (d.fact 62 (f := .cls "Net") rfl)
    cl_Net := He.eqO_ok e_cl
    cg_Net := He.eqO_ok e_cg
    ct_Net := of_decide_eq_true e_ct
    mr_Net := of_decide_eq_true e_mr
    kk_Net := of_decide_eq_true e_kk
    kl_Net := of_decide_eq_true e_kl
    kn_Net := of_decide_eq_true e_kn
    nf_Net := e_nf
    nl_Net := e_nl
    nn_Net := e_nn
    ne_Net := He.eqO_ok e_ne
    D_rest := kwA K "rest"
    s_rest := fun H => emB_ok e_m1 H
    D_stages := kwA K "stages"
    s_stages := fun H => emB_ok e_m2 H
    na_signs := He.noat_ok (d.fact 64 (f := .noat "Net" "signs") rfl)
    na_n := He.noat_ok (d.fact 65 (f := .noat "Net" "n") rfl)
    na_width := He.noat_ok (d.fact 66 (f := .noat "Net" "width") rfl)
    na__rest_row := He.noat_ok (d.fact 67 (f := .noat "Net" "_rest_row") rfl)
    na__sign_rows := He.noat_ok (d.fact 68 (f := .noat "Net" "_sign_rows") rfl)
    na__place_rows := He.noat_ok (d.fact 69 (f := .noat "Net" "_place_rows") rfl)
    na__stages := He.noat_ok (d.fact 70 (f := .noat "Net" "_stages") rfl)
    a_Net__init := nI K
    d_Net__init := d_NI
    F_Net__init := F_NI
    a_Net__rest_row := He.ma K (nC K) "rest_row"
    d_Net__rest_row := d_Net__rest_row
    F_Net__rest_row := F_Net__rest_row
    B_Net__rest_row := b_Net__rest_row
    mt_Net__rest_row := He.meth_ok (d.fact 71 (f := .meth "Net" "rest_row") rfl)
    a_Net__sign_rows := He.ma K (nC K) "sign_rows"
    d_Net__sign_rows := d_Net__sign_rows
    F_Net__sign_rows := F_Net__sign_rows
    B_Net__sign_rows := b_Net__sign_rows
    mt_Net__sign_rows := He.meth_ok (d.fact 72 (f := .meth "Net" "sign_rows") rfl)
    a_Net__place_rows := He.ma K (nC K) "place_rows"
    d_Net__place_rows := d_Net__place_rows
    F_Net__place_rows := F_Net__place_rows
    B_Net__place_rows := b_Net__place_rows
    mt_Net__place_rows := He.meth_ok (d.fact 73 (f := .meth "Net" "place_rows") rfl)
    a_Net__stages := He.ma K (nC K) "stages"
    d_Net__stages := d_Net__stages
    F_Net__stages := F_Net__stages
    B_Net__stages := b_Net__stages
    mt_Net__stages := He.meth_ok (d.fact 74 (f := .meth "Net" "stages") rfl)
    a_Net__layers := lyG K
    d_Net__layers := d_ly
    F_Net__layers := F_ly
    B_Net__layers := b_ly
    a_Net__with_stages := He.ma K (nC K) "with_stages"
    d_Net__with_stages := d_Net__with_stages
    F_Net__with_stages := F_Net__with_stages
    B_Net__with_stages := b_Net__with_stages
    mt_Net__with_stages := He.meth_ok (d.fact 75 (f := .meth "Net" "with_stages") rfl)
    a_Net__eq := He.ma K (nC K) "__eq__"
    d_Net__eq := d_Net__eq
    F_Net__eq := F_Net__eq
    B_Net__eq := b_Net__eq
    a_Net__repr := He.ma K (nC K) "__repr__"
    d_Net__repr := d_Net__repr
    F_Net__repr := F_Net__repr
    B_Net__repr := b_Net__repr
    mk_Net := He.mkr_ok (d.fact 63 (f := .mkr "Net") rfl)
    p_Net__layers := lyP K
    P_Net__layers := ly_prop (He.eqO_ok e_l1) (He.eqO_ok e_l2) (of_decide_eq_true e_l3) e_l4
    fi_eq := (He.meth_ok (d.fact 76 (f := .meth "Net" "__eq__") rfl)).at_
    ff_eq := (He.meth_ok (d.fact 76 (f := .meth "Net" "__eq__") rfl)).fn
    fi_repr := (He.meth_ok (d.fact 77 (f := .meth "Net" "__repr__") rfl)).at_
    ff_repr := (He.meth_ok (d.fact 77 (f := .meth "Net" "__repr__") rfl)).fn
    mv_Net__init_3_sign_rows_place_rows := mv_Net__init_3_sign_rows_place_rows
    Z_Net__init_3_sign_rows_place_rows := z_Net__init_3_sign_rows_place_rows
    mv_Net__init_3_rest_sign_rows_place_rows := mv_Net__init_3_rest_sign_rows_place_rows
    Z_Net__init_3_rest_sign_rows_place_rows := z_Net__init_3_rest_sign_rows_place_rows
    mv_Net__init_3_stages_place_rows_sign_rows := mv_Net__init_3_stages_place_rows_sign_rows
    Z_Net__init_3_stages_place_rows_sign_rows := z_Net__init_3_stages_place_rows_sign_rows
    mv_Net__init_0_signs_n_width_rest_sign_rows_place_rows_stages := mv_Net__init_0_signs_n_width_rest_sign_rows_place_rows_stages
    Z_Net__init_0_signs_n_width_rest_sign_rows_place_rows_stages := z_Net__init_0_signs_n_width_rest_sign_rows_place_rows_stages
    mv_Net__init_3_rest_sign_rows_place_rows_stages := mv_Net__init_3_rest_sign_rows_place_rows_stages
    Z_Net__init_3_rest_sign_rows_place_rows_stages := z_Net__init_3_rest_sign_rows_place_rows_stages
    Z_Net__with_stages := z_ws
    a_is_number := He.ga K "is_number"
    d_is_number := d_is_number
    F_is_number := F_is_number
    m_is_number := He.glo_ok X G (d.fact 19 (f := .glo "is_number") rfl)
    B_is_number := b_is_number
    a_is_fraction := He.ga K "is_fraction"
    d_is_fraction := d_is_fraction
    F_is_fraction := F_is_fraction
    m_is_fraction := He.glo_ok X G (d.fact 20 (f := .glo "is_fraction") rfl)
    B_is_fraction := b_is_fraction
    a_fraction := He.ga K "fraction"
    d_fraction := d_fraction
    F_fraction := FD_fraction
    m_fraction := He.glo_ok X G (d.fact 21 (f := .glo "fraction") rfl)
    B_fraction := b_fraction
    a_plus := He.ga K "plus"
    d_plus := d_plus
    F_plus := F_plus
    m_plus := He.glo_ok X G (d.fact 22 (f := .glo "plus") rfl)
    B_plus := b_plus
    a_are_sizes := He.ga K "are_sizes"
    d_are_sizes := d_are_sizes
    F_are_sizes := F_are_sizes
    m_are_sizes := He.glo_ok X G (d.fact 23 (f := .glo "are_sizes") rfl)
    B_are_sizes := b_are_sizes
    a_normal_entries := He.ga K "normal_entries"
    d_normal_entries := d_normal_entries
    F_normal_entries := F_normal_entries
    m_normal_entries := He.glo_ok X G (d.fact 24 (f := .glo "normal_entries") rfl)
    B_normal_entries := b_normal_entries
    a_normal_triples := He.ga K "normal_triples"
    d_normal_triples := d_normal_triples
    F_normal_triples := F_normal_triples
    m_normal_triples := He.glo_ok X G (d.fact 25 (f := .glo "normal_triples") rfl)
    B_normal_triples := b_normal_triples
    a_normal_part := He.ga K "normal_part"
    d_normal_part := d_normal_part
    F_normal_part := F_normal_part
    m_normal_part := He.glo_ok X G (d.fact 26 (f := .glo "normal_part") rfl)
    B_normal_part := b_normal_part
    a_normal_stage := He.ga K "normal_stage"
    d_normal_stage := d_normal_stage
    F_normal_stage := F_normal_stage
    m_normal_stage := He.glo_ok X G (d.fact 27 (f := .glo "normal_stage") rfl)
    B_normal_stage := b_normal_stage
    a_is_column := He.ga K "is_column"
    d_is_column := d_is_column
    F_is_column := F_is_column
    m_is_column := He.glo_ok X G (d.fact 28 (f := .glo "is_column") rfl)
    B_is_column := b_is_column
    a_are_items := He.ga K "are_items"
    d_are_items := d_are_items
    F_are_items := F_are_items
    m_are_items := He.glo_ok X G (d.fact 29 (f := .glo "are_items") rfl)
    B_are_items := b_are_items
    a_is_item := He.ga K "is_item"
    d_is_item := d_is_item
    F_is_item := F_is_item
    m_is_item := He.glo_ok X G (d.fact 30 (f := .glo "is_item") rfl)
    B_is_item := b_is_item
    a_are_rows := He.ga K "are_rows"
    d_are_rows := d_are_rows
    F_are_rows := F_are_rows
    m_are_rows := He.glo_ok X G (d.fact 31 (f := .glo "are_rows") rfl)
    B_are_rows := b_are_rows
    a_is_part := He.ga K "is_part"
    d_is_part := d_is_part
    F_is_part := F_is_part
    m_is_part := He.glo_ok X G (d.fact 32 (f := .glo "is_part") rfl)
    B_is_part := b_is_part
    a_is_stage := He.ga K "is_stage"
    d_is_stage := d_is_stage
    F_is_stage := F_is_stage
    m_is_stage := He.glo_ok X G (d.fact 33 (f := .glo "is_stage") rfl)
    B_is_stage := b_is_stage
    a_check_stages := He.ga K "check_stages"
    d_check_stages := d_check_stages
    F_check_stages := F_check_stages
    m_check_stages := He.glo_ok X G (d.fact 34 (f := .glo "check_stages") rfl)
    B_check_stages := b_check_stages
    a__law_bag := He.ga K "_law_bag"
    d__law_bag := d__law_bag
    F__law_bag := F__law_bag
    m__law_bag := He.glo_ok X G (d.fact 35 (f := .glo "_law_bag") rfl)
    B__law_bag := b__law_bag
    a__law_draw := He.ga K "_law_draw"
    d__law_draw := d__law_draw
    F__law_draw := F__law_draw
    m__law_draw := He.glo_ok X G (d.fact 36 (f := .glo "_law_draw") rfl)
    B__law_draw := b__law_draw
    a__law_of := He.ga K "_law_of"
    d__law_of := d__law_of
    F__law_of := F__law_of
    m__law_of := He.glo_ok X G (d.fact 37 (f := .glo "_law_of") rfl)
    B__law_of := b__law_of
    a__law_either := He.ga K "_law_either"
    d__law_either := d__law_either
    F__law_either := F__law_either
    m__law_either := He.glo_ok X G (d.fact 38 (f := .glo "_law_either") rfl)
    B__law_either := b__law_either
    a__law_like := He.ga K "_law_like"
    d__law_like := d__law_like
    F__law_like := F__law_like
    m__law_like := He.glo_ok X G (d.fact 39 (f := .glo "_law_like") rfl)
    B__law_like := b__law_like
    a__law_gcd := He.ga K "_law_gcd"
    d__law_gcd := d__law_gcd
    F__law_gcd := F__law_gcd
    m__law_gcd := He.glo_ok X G (d.fact 40 (f := .glo "_law_gcd") rfl)
    B__law_gcd := b__law_gcd
    a__law_low := He.ga K "_law_low"
    d__law_low := d__law_low
    F__law_low := F__law_low
    m__law_low := He.glo_ok X G (d.fact 41 (f := .glo "_law_low") rfl)
    B__law_low := b__law_low
    a__law_plus := He.ga K "_law_plus"
    d__law_plus := d__law_plus
    F__law_plus := F__law_plus
    m__law_plus := He.glo_ok X G (d.fact 42 (f := .glo "_law_plus") rfl)
    B__law_plus := b__law_plus
    a__law_great := He.ga K "_law_great"
    d__law_great := d__law_great
    F__law_great := F__law_great
    m__law_great := He.glo_ok X G (d.fact 43 (f := .glo "_law_great") rfl)
    B__law_great := b__law_great
    a__law_factor := He.ga K "_law_factor"
    d__law_factor := d__law_factor
    F__law_factor := F__law_factor
    m__law_factor := He.glo_ok X G (d.fact 44 (f := .glo "_law_factor") rfl)
    B__law_factor := b__law_factor
    a__law_items := He.ga K "_law_items"
    d__law_items := d__law_items
    F__law_items := F__law_items
    m__law_items := He.glo_ok X G (d.fact 45 (f := .glo "_law_items") rfl)
    B__law_items := b__law_items
    a__law_normal := He.ga K "_law_normal"
    d__law_normal := d__law_normal
    F__law_normal := F__law_normal
    m__law_normal := He.glo_ok X G (d.fact 46 (f := .glo "_law_normal") rfl)
    B__law_normal := b__law_normal
    a__law_stage := He.ga K "_law_stage"
    d__law_stage := d__law_stage
    F__law_stage := F__law_stage
    m__law_stage := He.glo_ok X G (d.fact 47 (f := .glo "_law_stage") rfl)
    B__law_stage := b__law_stage
    a__law_settled_stage := He.ga K "_law_settled_stage"
    d__law_settled_stage := d__law_settled_stage
    F__law_settled_stage := F__law_settled_stage
    m__law_settled_stage := He.glo_ok X G (d.fact 48 (f := .glo "_law_settled_stage") rfl)
    B__law_settled_stage := b__law_settled_stage
    a__law_sheet := He.ga K "_law_sheet"
    d__law_sheet := d__law_sheet
    F__law_sheet := F__law_sheet
    m__law_sheet := He.glo_ok X G (d.fact 49 (f := .glo "_law_sheet") rfl)
    B__law_sheet := b__law_sheet
    a__law_settled := He.ga K "_law_settled"
    d__law_settled := d__law_settled
    F__law_settled := F__law_settled
    m__law_settled := He.glo_ok X G (d.fact 50 (f := .glo "_law_settled") rfl)
    B__law_settled := b__law_settled
    a__law_loose := He.ga K "_law_loose"
    d__law_loose := d__law_loose
    F__law_loose := F__law_loose
    m__law_loose := He.glo_ok X G (d.fact 51 (f := .glo "_law_loose") rfl)
    B__law_loose := b__law_loose
    a__law_handed := He.ga K "_law_handed"
    d__law_handed := d__law_handed
    F__law_handed := F__law_handed
    m__law_handed := He.glo_ok X G (d.fact 52 (f := .glo "_law_handed") rfl)
    B__law_handed := b__law_handed
    a__law_net := He.ga K "_law_net"
    d__law_net := d__law_net
    F__law_net := F__law_net
    m__law_net := He.glo_ok X G (d.fact 53 (f := .glo "_law_net") rfl)
    B__law_net := b__law_net
    a__law_told := He.ga K "_law_told"
    d__law_told := d__law_told
    F__law_told := F__law_told
    m__law_told := He.glo_ok X G (d.fact 54 (f := .glo "_law_told") rfl)
    B__law_told := b__law_told
    a__law_spoil := He.ga K "_law_spoil"
    d__law_spoil := d__law_spoil
    F__law_spoil := F__law_spoil
    m__law_spoil := He.glo_ok X G (d.fact 55 (f := .glo "_law_spoil") rfl)
    B__law_spoil := b__law_spoil
    a__law_altered := He.ga K "_law_altered"
    d__law_altered := d__law_altered
    F__law_altered := F__law_altered
    m__law_altered := He.glo_ok X G (d.fact 56 (f := .glo "_law_altered") rfl)
    B__law_altered := b__law_altered
    a_law := He.ga K "law"
    d_law := d_law
    F_law := F_law
    m_law := He.glo_ok X G (d.fact 57 (f := .glo "law") rfl)
    B_law := b_law
  }
  have ef : f = He.ga K "law" := by
    have e := hfa.symm.trans T.m_law
    cases e
    rfl
  refine ⟨d_law, fun s u => FunD.bindsA (ps := ["script"]) FD_law (fun _ _ _ _ _ _ us hl => match us, hl with | [_], _ => rfl) s [u] rfl, fun base _ _ => ?_⟩
  rw [ef]
  exact ok_law (P := P) (base := base) T
theorem walk {l : PySem.W.OpenLaw} {q : Program} {loose : List Str} {XP : (Str → Option Value) → Heap → Prop} {YP : World → Heap → Prop} {d : DefRec} {K : Params → PySem.W.Frag} (hn : l.most = some 63) (hdf : d.params.defaults = [])
    (hY : ∀ (w : World) (h : Heap), YP w h → (K w.params).In h)
    (F : ∀ (w : World) (mg : Str → Option Value) (fa : Addr) (h : Heap), (K w.params).In h → h.Ns mainGlobals mg → mg d.name = some (.ref fa) →
      ∃ fd : FuncData, (∀ (s : Shared) (u : Value), BindsTo s fd ⟨[u], []⟩ [("script", u)]) ∧ ∀ base : Heap, (K w.params).In base → base.Ns mainGlobals mg → FnOk l.prog w (K w.params) mg base CX0 13 fa fd ["script"] (sp_law (K w.params))) :
    PySem.W.WalkO q loose XP YP l.row.toRowW d [] (fun f vs => PySem.call f vs) :=
  L2.walk_of (n := 63) (k := 13) (x := "script") (CX := fun _ => CX0) (sp := fun w => sp_law (K w.params)) hn (by decide) hdf ⟨rfl, by decide, by decide⟩ hY F (fun _ _ a ns hl _ hS => ⟨a, ns, rfl, hS, hl, fun _ => rfl⟩) fun _ _ _ _ _ z => z
theorem says_of {K : PySem.W.Frag} {w : World} {h : Heap} (ht : He.obsT faL fnL tsL K = He.valT fnL tsL w) (hm : exB K = true) : He.SaysX faL fnL tsL tfL exB w h K :=
  ⟨ht, hm, fun p hp => (by cases hp), fun p hp => (by cases hp), fun p hp => (by cases hp)⟩
end LK

open PySem PySem.W PySem.Calls PyProof.Rows
set_option maxRecDepth 100000 in
set_option maxHeartbeats 0 in
theorem PySem.Challenge.cw_lookingnets_k14_nets_told_holds : PySem.Challenge.rw_lookingnets_k14_nets_told.Holds := by
  w_on; o_law; k_head; (case hw => w_witness2)
  k_fill
  refine LK.walk (l := PySem.Challenge.rw_lookingnets_k14_nets_told) rfl rfl (fun w h Y => PySem.W.kIn_of Y) ?F
  case F =>
    intro w mg fa h KX G hmg0
    have hmg : mg ("law" : PySem.Str) = some (.ref fa) := hmg0
    exact LK.facts KX G hmg (LK.says_of (by kernel_rfl) (by kernel_rfl)) (by kernel_rfl)
