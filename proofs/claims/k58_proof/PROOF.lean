import PyProof.Rows.All
import Wide.All
import OpenK.AllK
import Wide.FinOn
import HandS.ForMost
import HandS.TupAny
import HandS.Style
import HandS.IsInst
import HandS.Star
import HandS.RevRange
import HandS.Wide
import HandS.Conv
import PyProof.StrOps2
import HandS.Evl
import HandS.Flow
import HandS.CallLocal
import HandS.DictComp
import HandS.Rev
import HandS.Comp
import HandS.Lambda
import HandS.Nested
import HandS.EndTab
import KE.KNestM
import HandS.More
import KE.KDictZip
import HandS.Zip
import HandS.ForExc
import HandS.DictTup
import HandS.Walk
import KE.KDictKeyed
import HandS.Iter
import HandS.ExcIs
import HandS.ExcValue
import HandS.SetFor
import HandS.Deep
import PyProof.Rows.StrMeet
import HandS.Strs
import PySem.Challenge.RW_whatnext_k58_whole_as_the_asks_that_are
set_option Elab.async false
set_option maxRecDepth 100000
set_option maxHeartbeats 8000000
set_option linter.unusedVariables false
namespace KB
open PySem L2
open PySem.AutoSeq1 PySem.MeetsSeq PySem.MeetsSeq2 PySem.MeetsSeq3

def top (i : Nat) : Stmt := (PySem.Challenge.pw_whatnext_k58_whole_as_the_asks_that_are).main.body.getD i (.Pass ⟨0, 0, 0, 0⟩)

/-! ### two rules that the layer lacks: a list extended by a tuple, a text times a number -/
theorem ext_lt (l b : Addr) (us ws : Array Value) (n m : Nat) (dd : Option Addr) (sl : Array (Option Value))
    (h0 : ¬(!us.isEmpty && Builtin.List.listTooLong (us.size + ws.size)) = true) (h1 : us.size ≤ sizeLine) (h2 : us.size + ws.size ≤ sizeLine + 1) :
    Meets (Builtin.«list.extend» ⟨[.ref l, .ref b], []⟩) (fun _ R s => s.heap.get? l = some { cls := .type "list", dict := none, data := .seq us n, slots := #[] } ∧
      s.heap.get? b = some { cls := .type "tuple", dict := dd, data := .seq ws m, slots := sl } ∧
      R (.ok (.ret Value.none)) { s with heap := s.heap.update l (Obj.mapSeq fun x => x ++ ws), toks := s.toks }) := by
  refine .of_wp fun prog w A R s h => ?_
  obtain ⟨hp, g, d, tk, os⟩ := s
  obtain ⟨hl, hb, h⟩ := h
  have f1 := idx_int; have f2 := sub_tuple_tuple; have f3 := sub_list_list; have f4 := sub_tuple_list; have f5 := sub_list_tuple
  have hz' : (us ++ ws).size ≤ sizeLine + 1 := by
    rw [Array.size_append]
    exact h2
  wp_walk using (wpAny_updateSeq hl rfl (hz := h1) (_hz' := hz')), wpAny_loadPart' hl, wpAny_loadPart' hb
  exact ⟨_, rfl, h⟩
section
variable {X : Cx}
def rExtT (K : PySem.W.Frag) : V → List V → Hp → VK → Prop := fun x vs H Q => ∃ l b xs zs, x = .ref l ∧ vs = [.ref b] ∧ H l = some (.lst xs) ∧ SqT K H b zs ∧ xs.length + zs.length ≤ sizeLine ∧ Q .non (upd H l (.lst (xs ++ zs)))
theorem mt_extT : MtR X "list.extend" (rExtT X.K) := by
  intro pins s σ H x vs v us Q I rx rv h
  obtain ⟨l, b, xs, zs, rfl, rfl, hH, hB, hz, q⟩ := h
  cases rx
  obtain ⟨u, rfl, ru⟩ := rv.one
  cases ru
  obtain ⟨z, its, n, r, hl, e⟩ := I.lstM hH
  obtain ⟨its2, r2, ⟨⟨c2, d2, a2, s2⟩, e2, hc, n2, hd⟩, _⟩ := I.tuple hB
  cases hc
  cases hd
  have hl2 := r2.length
  have hsz : its.toArray.size + its2.toArray.size ≤ sizeLine := by
    rw [List.size_toArray, List.size_toArray]
    omega
  have hlong : ¬ (!its.toArray.isEmpty && Builtin.List.listTooLong (its.toArray.size + its2.toArray.size)) = true := by
    rw [notLongL hsz, Bool.and_false]
    exact Bool.false_ne_true
  refine call_meets F.slot_list_extend ⟨_, e, rfl⟩ F.entry_list_extend (F.args_list_extend_2 _ _)
    (ext_lt l b its.toArray its2.toArray n n2 d2 s2 hlong (by rw [List.size_toArray]; omega) (by omega)) ⟨e, e2, ?_⟩
  exact ⟨.non, _, I.lset (its' := its ++ its2) hH e (by simp) (r.append r2) (by rw [List.length_append]; exact hz), rfl, q⟩
end
end KB

namespace KB
open PySem L2

/-! ### terms as data -/
inductive Hd | num (z : Int) | nam (x : Str) | plus | less | tell | lett (x : Str) | iff | ask (f : Str)
inductive Tm | mk (h : Hd) (n : Nat) (k : Fin n → Tm)
def hs : Hd → Str
  | .num _ => "number" | .nam _ => "name" | .plus => "plus" | .less => "less" | .tell => "tell" | .lett _ => "let" | .iff => "if" | .ask _ => "ask"
/-- what stands at a, xs being its parts -/
def Lay (H : Hp) (a : Addr) : Hd → List V → Prop
  | .num z, xs => xs = [] ∧ H a = some (.tup [.str "number", .int z])
  | .nam x, xs => xs = [] ∧ H a = some (.tup [.str "name", .str x])
  | .plus, xs => xs.length = 2 ∧ H a = some (.tup (.str "plus" :: xs))
  | .less, xs => xs.length = 2 ∧ H a = some (.tup (.str "less" :: xs))
  | .tell, xs => xs.length = 1 ∧ H a = some (.tup (.str "tell" :: xs))
  | .lett x, xs => xs.length = 2 ∧ H a = some (.tup (.str "let" :: .str x :: xs))
  | .iff, xs => xs.length = 3 ∧ H a = some (.tup (.str "if" :: xs))
  | .ask f, xs => xs.length ≤ 4 ∧ ∃ p, H a = some (.tup [.str "ask", .str f, .ref p]) ∧ H p = some (.tup xs)
def Rfs {n : Nat} (ys : Fin n → Addr) : List V := List.ofFn fun i => V.ref (ys i)
def At (H : Hp) : Tm → Addr → Prop
  | .mk h n k, a => ∃ ys : Fin n → Addr, Lay H a h (Rfs ys) ∧ ∀ i, At H (k i) (ys i)
def cnt : Tm → Nat
  | .mk _ _ k => 1 + (List.ofFn fun i => cnt (k i)).sum
def flatHd : Hd → Bool
  | .num _ | .nam _ | .plus | .less => true
  | _ => false
def simple : Tm → Bool
  | .mk h _ k => flatHd h && (List.ofFn fun i => simple (k i)).all id
def letsOf : Tm → List Str
  | .mk h _ k => (match h with | .lett x => [x] | _ => []) ++ (List.ofFn fun i => letsOf (k i)).flatten

theorem Lay.mono {H H' : Hp} (e : Same H H') {a : Addr} {h : Hd} {xs : List V} (l : Lay H a h xs) : Lay H' a h xs := by
  cases h with
  | ask f => obtain ⟨z, p, h1, h2⟩ := l; exact ⟨z, p, e _ _ h1, e _ _ h2⟩
  | _ => exact ⟨l.1, e _ _ l.2⟩
theorem At.mono {H H' : Hp} (e : Same H H') : ∀ {t : Tm} {a : Addr}, At H t a → At H' t a := by
  intro t
  induction t with
  | mk h n k ih =>
    rintro a ⟨ys, l, r⟩
    exact ⟨ys, l.mono e, fun i => ih i (r i)⟩
/-- every node begins with its word -/
theorem Lay.head {H : Hp} {a : Addr} {h : Hd} {xs : List V} (l : Lay H a h xs) : ∃ r, H a = some (.tup (.str (hs h) :: r)) := by
  cases h with
  | ask f => obtain ⟨z, p, h1, h2⟩ := l; exact ⟨_, h1⟩
  | _ => exact ⟨_, l.2⟩

theorem same_new {H : Hp} {p : Addr} (h : H p = none) (o : HO) : Same H (upd H p o) := fun b u q => by
  rw [upd_ne (ne_of_none q h)]
  exact q
theorem sIx_at {n d : Nat} {i : Int} (h0 : 0 ≤ i) (h : i.toNat ≤ n) : HT.sIx n d (some i) = i.toNat := by
  show (if i < 0 then (i + (n : Int)).toNat else min i.toNat n) = i.toNat
  rw [if_neg (by omega)]
  omega
theorem sIx_no {n d : Nat} : HT.sIx n d none = d := rfl
theorem not_whole {xs : List V} {i : Int} (h0 : 0 < i) (h : i.toNat ≤ xs.length) : ¬ (HT.sIx xs.length 0 (some i) = 0 ∧ HT.sIx xs.length xs.length none = xs.length) := by
  rw [sIx_at (by omega) h]
  omega
theorem cut_from {xs : List V} {i : Int} (h0 : 0 ≤ i) (h : i.toNat ≤ xs.length) : cutV xs (some i) none = xs.drop i.toNat := by
  unfold cutV
  rw [sIx_at h0 h, sIx_no, List.take_of_length_le (by rw [List.length_drop]; exact Nat.le_refl _)]
theorem len1 {α : Type} {x : α} {r : List α} : 1 ≤ (x :: r).length := Nat.succ_le_succ (Nat.zero_le _)
theorem len2 {α : Type} {x y : α} {r : List α} : 2 ≤ (x :: y :: r).length := Nat.succ_le_succ len1
theorem cut1 {x : V} {r : List V} : cutV (x :: r) (some 1) none = r := cut_from (i := 1) (by decide) len1
theorem cut2 {x y : V} {r : List V} : cutV (x :: y :: r) (some 2) none = r := cut_from (i := 2) (by decide) len2
theorem itT {b : Bool} {A B : Prop} (e : b = true) (h : A) : if b = true then A else B := by
  rw [if_pos e]
  exact h
theorem itF {b : Bool} {A B : Prop} (e : b = false) (h : B) : if b = true then A else B := by
  rw [if_neg (by rw [e]; exact Bool.false_ne_true)]
  exact h
theorem at0 {x : V} {r : List V} : atI (x :: r) 0 = some x := at_of (j := 0) rfl rfl
theorem at1 {x y : V} {r : List V} : atI (x :: y :: r) 1 = some y := at_of (j := 1) rfl rfl
theorem at2 {x y z : V} {r : List V} : atI (x :: y :: z :: r) 2 = some z := at_of (j := 2) rfl rfl
theorem sz {n : Nat} (h : n ≤ 100000) : n ≤ sizeLine := Nat.le_trans h (by decide)
/-- the facts of the top -/
structure Ref (K : PySem.W.Frag) (mg : Str → Option Value) (x : Str) (f : Addr) (fd : FuncData) (ps : List Str) : Prop where
  m : mg x = some (.ref f)
  k : PySem.W.keepIn K (.ref f) = true
  b : Binds K fd ps []
structure Txt (K : PySem.W.Frag) (mg : Str → Option Value) : Prop where
  m_len : mg "len" = none
  m_isinstance : mg "isinstance" = none
  m_int : mg "int" = none
  m_tuple : mg "tuple" = none
  m_list : mg "list" = none
  m_str : mg "str" = none
  m_bool : mg "bool" = none
  m_max : mg "max" = none
  m_all : mg "all" = none
  m_dict : mg "dict" = none
  m_range : mg "range" = none
  m_enumerate : mg "enumerate" = none
  m_reversed : mg "reversed" = none

section
variable {P : Program} {w : World} {K : PySem.W.Frag} {mg : Str → Option Value} {base : Heap}
/-! ### parts_of and _law_parts -/
def spParts : Sp := fun vs H Q _ => ∃ a h xs, vs = [.ref a] ∧ Lay H a h xs ∧ ∀ p H', Same H H' → H' p = some (.tup xs) → Q (.ref p) H'
abbrev sparts_of : Stmt := top 9
theorem scparts_of : FnScope ["term"] ["term"] (defScope sparts_of) := ⟨rfl, rfl, rfl, by decide +kernel, rfl, by decide +kernel, by decide +kernel⟩
theorem ok_parts {f : Addr} {fd : FuncData} (F : Fun K "parts_of" "parts_of" sparts_of f fd) : FnOk P w K mg base CX0 1 f fd ["term"] spParts := by
  refine F.ok scparts_of (fun vs H Q E h => ?_) (fun cdv A outer s H vs Q E hr h => ?_)
  · obtain ⟨a, h, xs, rfl, _⟩ := h
    rfl
  obtain ⟨a, h, xs, rfl, l, q⟩ := h
  refine ⟨_, (pss_cons (ps_if (pt_cmpR op_in_seq (pe_ix ix_tup (pv 0) pe_int (fun _ _ => rfl)) (pe_tup (pa_cons pe_str (pa_cons pe_str pa_nil))) rfl) (pss_one (ps_ret (pe_tup pa_nil))) pss_nil)
    (pss_cons (ps_if (pt_cmpR op_eq (pe_ix ix_tup (pv 0) pe_int (fun _ _ => rfl)) pe_str (nomark _)) (pss_one (ps_ret (pe_ix ix_tup (pv 0) pe_int (fun _ _ => rfl)))) pss_nil)
    (pss_cons (ps_if (pt_cmpR op_eq (pe_ix ix_tup (pv 0) pe_int (fun _ _ => rfl)) pe_str (nomark _)) (pss_one (ps_ret (pe_slice sl_tupA (pv 0) (po_some pe_int) po_none))) pss_nil)
    (pss_one (ps_ret (pe_slice sl_tupA (pv 0) (po_some pe_int) po_none)))))), ?_⟩
  obtain ⟨r, hd⟩ := l.head
  refine ⟨_, rfl, a, _, _, _, rfl, rfl, SqT.of hd, at0, sz (by show 2 ≤ 100000; decide), fun t ht => ?_⟩
  have s1 := same_new ht (.tup [.str "number", .str "name"])
  have l1 := l.mono s1
  refine ⟨t, _, rfl, .inr (SqT.of upd_same), rfl, rfl, _, rfl, ?_⟩
  cases h with
  | num z =>
    refine itT rfl ⟨sz (by decide), fun p hp => q p _ (s1.trans (same_new hp _)) ?_⟩
    rw [l.1, upd_same]
  | nam z =>
    refine itT rfl ⟨sz (by decide), fun p hp => q p _ (s1.trans (same_new hp _)) ?_⟩
    rw [l.1, upd_same]
  | ask f =>
    obtain ⟨l1, p, l2, l3⟩ := l
    refine itF rfl ⟨_, rfl, a, _, _, _, rfl, rfl, SqT.of (s1 _ _ l2), at0, rfl, _, rfl, ?_⟩
    refine itT rfl ⟨_, rfl, a, _, _, _, rfl, rfl, SqT.of (s1 _ _ l2), at2, ?_⟩
    exact q p _ s1 (s1 _ _ l3)
  | lett x =>
    refine itF rfl ⟨_, rfl, a, _, _, _, rfl, rfl, SqT.of (s1 _ _ l.2), at0, rfl, _, rfl, ?_⟩
    refine itF rfl ⟨_, rfl, a, _, _, _, rfl, rfl, SqT.of (s1 _ _ l.2), at0, rfl, _, rfl, ?_⟩
    refine itT rfl ⟨_, rfl, _, rfl, a, _, rfl, SqT.of (s1 _ _ l.2), ?_, ?_⟩
    · exact fun z => absurd z (not_whole (by decide) len2)
    · intro _ p hp
      refine q p _ (s1.trans (same_new hp _)) ?_
      rw [upd_same, cut2]
  | plus | less | tell | iff =>
    refine itF rfl ⟨_, rfl, a, _, _, _, rfl, rfl, SqT.of (s1 _ _ l.2), at0, rfl, _, rfl, ?_⟩
    refine itF rfl ⟨_, rfl, a, _, _, _, rfl, rfl, SqT.of (s1 _ _ l.2), at0, rfl, _, rfl, ?_⟩
    refine itF rfl ⟨_, rfl, _, rfl, a, _, rfl, SqT.of (s1 _ _ l.2), ?_, ?_⟩
    · exact fun z => absurd z (not_whole (by decide) len1)
    · intro _ p hp
      refine q p _ (s1.trans (same_new hp _)) ?_
      rw [upd_same, cut1]
end
end KB

namespace KB
open PySem L2

/-! ### rules and small facts -/
def repS (z : Str) (k : Int) : Str := ⟨(List.replicate k.toNat z.cps).foldl (· ++ ·) #[]⟩
def rMulS : R2 := fun x y H Q => ∃ z k, x = .str z ∧ y = .int k ∧ 1 ≤ k ∧ k ≤ 1000 ∧ 1 ≤ z.length ∧ z.length ≤ 1000 ∧ Q (.str (repS z k)) H
theorem repS_one (z : Str) : repS z 1 = z := by
  unfold repS
  show (⟨#[] ++ z.cps⟩ : Str) = z
  rw [Array.empty_append]
theorem size_rep (xs : Array Nat) : ∀ (k : Nat) (acc : Array Nat), ((List.replicate k xs).foldl (· ++ ·) acc).size = acc.size + k * xs.size
  | 0, acc => by
    rw [Nat.zero_mul]
    rfl
  | k + 1, acc => by
    rw [List.replicate_succ, List.foldl_cons, size_rep xs k, Array.size_append, Nat.succ_mul]
    omega
theorem op_mul_str {X : Cx} : OpR X (binaryOp .Mult) rMulS := by
  intro pins s σ H x y v u Q I rx ry h
  obtain ⟨z, k, rfl, rfl, h1, h2, h3, h4, q⟩ := h
  obtain ⟨t, rfl⟩ := rx
  obtain ⟨t', rfl⟩ := ry
  refine PySem.P.mul_str ?_ ?_ ?_ ?_
  · rw [decide_eq_false (by omega), decide_eq_false (by omega)]
    rfl
  · intro _ _
    have e1 : (1000 : Int) * k ≤ 1000000 := by omega
    have e2 : (9223372036854775807 : Int) / k ≥ 9223372036854775 := by
      have e3 : (9223372036854775807 : Int) / k ≥ 9223372036854775807 / 1000 := by
        refine Int.le_ediv_of_mul_le (by omega) ?_
        have : (9223372036854775807 / 1000 : Int) = 9223372036854775 := by decide
        rw [this]
        have : (9223372036854775 : Int) * k ≤ 9223372036854775 * 1000 := Int.mul_le_mul_of_nonneg_left h2 (by decide)
        omega
      have : (9223372036854775807 / 1000 : Int) = 9223372036854775 := by decide
      omega
    have e4 : ((2 : Int) ^ 63 - 1) = 9223372036854775807 := by decide
    rw [e4]
    omega
  · intro _ _
    have e : z.length * k.toNat ≤ 1000 * 1000 := Nat.mul_le_mul h4 (by omega)
    exact decide_eq_false (by show ¬ _ > sizeLine; exact Nat.not_lt.mpr (Nat.le_trans e (by decide)))
  · rw [if_neg (by omega)]
    have hz : (z.length == 0) = false := by
      rw [beq_eq_false_iff_ne]
      omega
    by_cases hk : k = 1
    · subst hk
      rw [if_pos (by rfl)]
      rw [repS_one] at q
      exact ⟨.str z, H, I, ⟨t, rfl⟩, q⟩
    · have hk2 : (k == 1) = false := by
        rw [beq_eq_false_iff_ne]
        exact hk
      rw [if_neg (by rw [hk2, hz]; decide)]
      have e : z.length * k.toNat ≤ 1000 * 1000 := Nat.mul_le_mul h4 (by omega)
      have e2 := size_rep z.cps k.toNat #[]
      refine ⟨?_, .str (repS z k), H, I.tok _, ⟨_, rfl⟩, q⟩
      show (List.foldl (fun x1 x2 => x1 ++ x2) #[] (List.replicate k.toNat z.cps)).size ≤ sizeLine
      rw [e2, Nat.mul_comm]
      show 0 + z.length * k.toNat ≤ sizeLine
      rw [Nat.zero_add]
      exact Nat.le_trans e (by decide)

/-! ### stacks of terms -/
def Stk (H : Hp) : List V → List Tm → Prop
  | [], [] => True
  | v :: vs, t :: ts => (∃ b, v = .ref b ∧ At H t b) ∧ Stk H vs ts
  | _, _ => False
theorem Stk.mono {H H' : Hp} (e : Same H H') : ∀ {vs : List V} {ts : List Tm}, Stk H vs ts → Stk H' vs ts
  | [], [], _ => trivial
  | _ :: _, _ :: _, h => ⟨let ⟨b, e1, h1⟩ := h.1; ⟨b, e1, h1.mono e⟩, Stk.mono e h.2⟩
  | [], _ :: _, h => h.elim
  | _ :: _, [], h => h.elim
theorem Stk.app {H : Hp} : ∀ {vs us : List V} {ts ss : List Tm}, Stk H vs ts → Stk H us ss → Stk H (vs ++ us) (ts ++ ss)
  | [], _, [], _, _, k => k
  | _ :: _, _, _ :: _, _, h, k => ⟨h.1, Stk.app h.2 k⟩
  | [], _, _ :: _, _, h, _ => h.elim
  | _ :: _, _, [], _, h, _ => h.elim
theorem Stk.len {H : Hp} : ∀ {vs : List V} {ts : List Tm}, Stk H vs ts → vs.length = ts.length
  | [], [], _ => rfl
  | _ :: _, _ :: _, h => congrArg (· + 1) (Stk.len h.2)
  | [], _ :: _, h => h.elim
  | _ :: _, [], h => h.elim
theorem Stk.fn {H : Hp} : ∀ {n : Nat} {ys : Fin n → Addr} {k : Fin n → Tm}, (∀ i, At H (k i) (ys i)) → Stk H (Rfs ys) (List.ofFn k)
  | 0, _, _, _ => trivial
  | n + 1, ys, k, h => by
    unfold Rfs
    rw [List.ofFn_succ, List.ofFn_succ]
    exact ⟨⟨_, rfl, h 0⟩, Stk.fn (ys := fun i => ys i.succ) (k := fun i => k i.succ) fun i => h i.succ⟩
def cnts (ts : List Tm) : Nat := (ts.map cnt).sum
theorem cnts_app (a b : List Tm) : cnts (a ++ b) = cnts a + cnts b := by
  unfold cnts
  rw [List.map_append, List.sum_append]
theorem cnt_mk {h : Hd} {n : Nat} {k : Fin n → Tm} : cnt (.mk h n k) = 1 + cnts (List.ofFn k) := by
  show 1 + (List.ofFn fun i => cnt (k i)).sum = 1 + ((List.ofFn k).map cnt).sum
  rw [List.map_ofFn]
  rfl
theorem cnts_cons {t : Tm} {r : List Tm} : cnts (t :: r) = cnt t + cnts r := rfl
theorem cnt_pos : ∀ t : Tm, 1 ≤ cnt t
  | .mk _ _ _ => by rw [cnt_mk]; omega
section
variable {P : Program} {w : World} {K : PySem.W.Frag} {mg : Str → Option Value} {base : Heap}
theorem same_mut {H H' : Hp} {p : Addr} {o : HO} (e : Same H H') (h : H p = none) : Same H (upd H' p o) := fun a u ha => by
  rw [upd_ne (ne_of_none ha h)]
  exact e _ _ ha
/-- a list rewritten leaves the terms -/
theorem Lay.put {H : Hp} {l : Addr} {xs ys : List V} (hl : H l = some (.lst xs)) {a : Addr} {h : Hd} {us : List V} (q : Lay H a h us) : Lay (upd H l (.lst ys)) a h us := by
  have go : ∀ {b : Addr} {zs : List V}, H b = some (.tup zs) → upd H l (.lst ys) b = some (.tup zs) := fun {b zs} z => by
    rw [upd_ne (ne_of z hl (by intro e; cases e))]
    exact z
  cases h with
  | ask f => obtain ⟨z, p, h1, h2⟩ := q; exact ⟨z, p, go h1, go h2⟩
  | _ => exact ⟨q.1, go q.2⟩
theorem At.put {H : Hp} {l : Addr} {xs ys : List V} (hl : H l = some (.lst xs)) : ∀ {t : Tm} {a : Addr}, At H t a → At (upd H l (.lst ys)) t a := by
  intro t
  induction t with
  | mk h n k ih =>
    rintro a ⟨zs, q, r⟩
    exact ⟨zs, q.put hl, fun i => ih i (r i)⟩
theorem Stk.put {H : Hp} {l : Addr} {xs ys : List V} (hl : H l = some (.lst xs)) : ∀ {vs : List V} {ts : List Tm}, Stk H vs ts → Stk (upd H l (.lst ys)) vs ts
  | [], [], _ => trivial
  | _ :: _, _ :: _, h => ⟨let ⟨b, e1, h1⟩ := h.1; ⟨b, e1, h1.put hl⟩, Stk.put hl h.2⟩
  | [], _ :: _, h => h.elim
  | _ :: _, [], h => h.elim
end
end KB

namespace KB
open PySem L2

/-! ### what leaves the tuples -/
def TK (H H' : Hp) : Prop := ∀ a xs, H a = some (.tup xs) → H' a = some (.tup xs)
theorem TK.refl (H : Hp) : TK H H := fun _ _ h => h
theorem TK.trans {H H1 H2 : Hp} (a : TK H H1) (b : TK H1 H2) : TK H H2 := fun x o h => b x o (a x o h)
theorem tk_same {H H' : Hp} (e : Same H H') : TK H H' := fun a _ h => e a _ h
theorem tk_put {H : Hp} {l : Addr} {xs : List V} {o : HO} (hl : H l = some (.lst xs)) : TK H (upd H l o) := fun a zs z => by
  rw [upd_ne (ne_of z hl (by intro e; cases e))]
  exact z
theorem Lay.tk {H H' : Hp} (e : TK H H') {a : Addr} {h : Hd} {xs : List V} (l : Lay H a h xs) : Lay H' a h xs := by
  cases h with
  | ask f => obtain ⟨z, p, h1, h2⟩ := l; exact ⟨z, p, e _ _ h1, e _ _ h2⟩
  | _ => exact ⟨l.1, e _ _ l.2⟩
theorem At.tk {H H' : Hp} (e : TK H H') : ∀ {t : Tm} {a : Addr}, At H t a → At H' t a := by
  intro t
  induction t with
  | mk h n k ih =>
    rintro a ⟨ys, l, r⟩
    exact ⟨ys, l.tk e, fun i => ih i (r i)⟩

theorem Stk.tk {H H' : Hp} (e : TK H H') : ∀ {vs : List V} {ts : List Tm}, Stk H vs ts → Stk H' vs ts
  | [], [], _ => trivial
  | _ :: _, _ :: _, h => ⟨let ⟨b, e1, h1⟩ := h.1; ⟨b, e1, h1.tk e⟩, Stk.tk e h.2⟩
  | [], _ :: _, h => h.elim
  | _ :: _, [], h => h.elim
theorem Stk.get {H : Hp} : ∀ {vs : List V} {ts : List Tm} {i : Nat} {v : V}, Stk H vs ts → vs[i]? = some v → ∃ t, ts[i]? = some t ∧ ∃ b, v = .ref b ∧ At H t b
  | [], [], _, _, _, e => by simp at e
  | x :: vs, t :: ts, 0, v, h, e => ⟨t, rfl, by
    have e' : x = v := by simpa using e
    subst e'
    exact h.1⟩
  | x :: vs, t :: ts, i + 1, v, h, e => by
    obtain ⟨b, h1, h2⟩ := Stk.get (i := i) (v := v) h.2 (by simpa using e)
    exact ⟨b, by simpa using h1, h2⟩
  | [], _ :: _, _, _, h, _ => h.elim
  | _ :: _, [], _, _, h, _ => h.elim

/-! ### two lists, item by item -/
def All2 {α : Type} (R : α → V → Prop) : List α → List V → Prop
  | [], [] => True
  | a :: as, v :: vs => R a v ∧ All2 R as vs
  | _, _ => False
theorem All2.imp {α : Type} {R S : α → V → Prop} (e : ∀ a v, R a v → S a v) : ∀ {as : List α} {vs : List V}, All2 R as vs → All2 S as vs
  | [], [], _ => trivial
  | _ :: _, _ :: _, h => ⟨e _ _ h.1, All2.imp e h.2⟩
  | [], _ :: _, h => h.elim
  | _ :: _, [], h => h.elim
theorem All2.app {α : Type} {R : α → V → Prop} : ∀ {as bs : List α} {vs ws : List V}, All2 R as vs → All2 R bs ws → All2 R (as ++ bs) (vs ++ ws)
  | [], _, [], _, _, k => k
  | _ :: _, _, _ :: _, _, h, k => ⟨h.1, All2.app h.2 k⟩
  | [], _, _ :: _, _, h, _ => h.elim
  | _ :: _, _, [], _, h, _ => h.elim
theorem All2.len {α : Type} {R : α → V → Prop} : ∀ {as : List α} {vs : List V}, All2 R as vs → vs.length = as.length
  | [], [], _ => rfl
  | _ :: _, _ :: _, h => congrArg (· + 1) (All2.len h.2)
  | [], _ :: _, h => h.elim
  | _ :: _, [], h => h.elim
theorem All2.get {α : Type} {R : α → V → Prop} : ∀ {as : List α} {vs : List V} {i : Nat} {v : V}, All2 R as vs → vs[i]? = some v → ∃ a, as[i]? = some a ∧ R a v
  | [], [], _, _, _, e => by simp at e
  | a :: as, x :: vs, 0, v, h, e => ⟨a, rfl, by
    have e' : x = v := by simpa using e
    subst e'
    exact h.1⟩
  | a :: as, x :: vs, i + 1, v, h, e => by
    obtain ⟨b, h1, h2⟩ := All2.get (i := i) (v := v) h.2 (by simpa using e)
    exact ⟨b, by simpa using h1, h2⟩
  | [], _ :: _, _, _, h, _ => h.elim
  | _ :: _, [], _, _, h, _ => h.elim

end KB

namespace KB
open PySem L2

/-! ### books -/
abbrev Er := Str × List Str × Tm
def ErV (H : Hp) (e : Er) (v : V) : Prop := ∃ q r b, v = .ref q ∧ H q = some (.tup [.str e.1, .ref r, .ref b]) ∧ H r = some (.tup (e.2.1.map V.str)) ∧ At H e.2.2 b
theorem ErV.tk {H H' : Hp} (t : TK H H') {e : Er} {v : V} (h : ErV H e v) : ErV H' e v :=
  let ⟨q, r, b, e1, h1, h2, h3⟩ := h; ⟨q, r, b, e1, t _ _ h1, t _ _ h2, h3.tk t⟩
def BkAt (H : Hp) (es : List Er) (vs : List V) (p : Addr) : Prop := H p = some (.tup vs) ∧ All2 (ErV H) es vs
theorem BkAt.tk {H H' : Hp} (t : TK H H') {es : List Er} {vs : List V} {p : Addr} (h : BkAt H es vs p) : BkAt H' es vs p := ⟨t _ _ h.1, h.2.imp fun _ _ z => z.tk t⟩
theorem All2.map {α β : Type} {R : β → V → Prop} {f : α → β} : ∀ {as : List α} {vs : List V}, All2 (fun a v => R (f a) v) as vs → All2 R (as.map f) vs
  | [], [], _ => trivial
  | _ :: _, _ :: _, h => ⟨h.1, All2.map h.2⟩
  | [], _ :: _, h => h.elim
  | _ :: _, [], h => h.elim

section
variable {P : Program} {w : World} {K : PySem.W.Frag} {mg : Str → Option Value} {base : Heap}
theorem mem_of_get {α : Type} {l : List α} {i : Nat} {a : α} (h : l[i]? = some a) : a ∈ l := List.mem_of_getElem? h
end
end KB

namespace KB
open PySem L2

theorem catA_of {K : PySem.W.Frag} {H : Hp} {a b : Addr} {xs ys : List V} {Q : VK} (ha : H a = some (.tup xs)) (hb : H b = some (.tup ys)) (hl : xs.length + ys.length ≤ 100000)
    (q : ∀ p H', Same H H' → H' p = some (.tup (xs ++ ys)) → Q (.ref p) H') : rCatA K (.ref a) (.ref b) H Q := by
  refine ⟨a, b, xs, ys, rfl, rfl, SqT.of ha, SqT.of hb, sz hl, fun z => ?_, fun _ z => ?_, fun _ _ p hp => ?_⟩
  · refine q b H (Same.refl H) ?_
    rw [z]
    exact hb
  · refine q a H (Same.refl H) ?_
    rw [z, List.append_nil]
    exact ha
  · exact q p _ (same_new hp _) upd_same
def letsL (ts : List Tm) : List Str := (ts.map letsOf).flatten
def hdLets : Hd → List Str
  | .lett x => [x]
  | _ => []
theorem lets_mk {h : Hd} {n : Nat} {k : _root_.Fin n → Tm} : letsOf (.mk h n k) = hdLets h ++ letsL (List.ofFn k) := by
  have e : (List.ofFn fun i => letsOf (k i)) = (List.ofFn k).map letsOf := (List.map_ofFn ..).symm
  unfold letsL
  rw [← e]
  cases h <;> rfl
end KB

namespace KB
open PySem L2

/-! ### words as the program has them -/
def keptW : List Str := ["let", "be", "in", "tell", "if", "then", "else", "home", "zyzzyva"]
def small (c : Nat) : Bool := decide (97 ≤ c) && decide (c ≤ 122)
def isW (z : Str) : Bool := !keptW.contains z && (decide (1 ≤ z.length) && decide (z.length ≤ 8)) && z.cps.toList.all small
theorem isW_ok {z : Str} (h : isW z = true) : PySem.PyData.strOk z = true := by
  unfold isW at h
  rw [Bool.and_eq_true] at h
  have h2 := h.2
  rw [List.all_eq_true] at h2
  unfold PySem.PyData.strOk
  rw [← Array.all_toList, List.all_eq_true]
  intro c hc
  have := h2 c hc
  unfold small at this
  rw [Bool.and_eq_true] at this
  have := of_decide_eq_true this.2
  exact decide_eq_true (by omega)
/-! ### the tape and lists of words -/
def But1 (tp : Addr) (H H' : Hp) : Prop := ∀ b o, b ≠ tp → H b = some o → H' b = some o
def Tp (H : Hp) (tp : Addr) : Prop := ∃ z, H tp = some (.lst [.int z])
theorem But1.refl (tp : Addr) (H : Hp) : But1 tp H H := fun _ _ _ h => h
theorem But1.trans {tp : Addr} {H H1 H2 : Hp} (a : But1 tp H H1) (b : But1 tp H1 H2) : But1 tp H H2 := fun x o n h => b x o n (a x o n h)
theorem but_same {tp : Addr} {H H' : Hp} (e : Same H H') : But1 tp H H' := fun b o _ h => e b o h
theorem But1.tk {tp : Addr} {H H' : Hp} (ht : Tp H tp) (e : But1 tp H H') : TK H H' := fun a xs h => by
  obtain ⟨z, hz⟩ := ht
  exact e a _ (ne_of h hz (by intro q; cases q)) h
/-- a list of words -/
def Wls (H : Hp) (a : Addr) (xs : List Str) : Prop := H a = some (.lst (xs.map V.str)) ∧ ∀ x ∈ xs, isW x = true
theorem wls_tp {H : Hp} {a tp : Addr} {xs : List Str} (h : H a = some (.lst (xs.map V.str))) (t : Tp H tp) : a ≠ tp := by
  rintro rfl
  obtain ⟨z, hz⟩ := t
  rw [h] at hz
  have e := HO.lst.inj (Option.some.inj hz)
  cases xs with
  | nil => cases e
  | cons x r =>
    rw [List.map_cons] at e
    cases (List.cons.inj e).1
theorem Wls.but {tp a : Addr} {H H' : Hp} {xs : List Str} (e : But1 tp H H') (t : Tp H tp) (h : Wls H a xs) : Wls H' a xs := ⟨e _ _ (wls_tp h.1 t) h.1, h.2⟩
theorem dp_strs {K : PySem.W.Frag} {H : Hp} : ∀ xs : List Str, DpAll K H (xs.map V.str) (xs.map PyData.str)
  | [] => .nil
  | x :: r => .cons (.str x) (dp_strs r)
theorem lay_strs : ∀ {xs : List Str}, (∀ x ∈ xs, PySem.PyData.strOk x = true) → PySem.PyData.canLayAll0 (xs.map PyData.str) = true
  | [], _ => rfl
  | x :: r, h => by
    show (PySem.PyData.strOk x && PySem.PyData.canLayAll0 (r.map PyData.str)) = true
    rw [h x List.mem_cons_self, lay_strs fun y hy => h y (List.mem_cons_of_mem _ hy)]
    rfl
theorem shaped_of {d : PyData} (h1 : d.canLay0 = true) (h2 : d.depth ≤ 64) : SeqAt.shaped d = true := Bool.and_eq_true_iff.mpr ⟨h1, decide_eq_true h2⟩
theorem depth_strs : ∀ xs : List Str, PySem.PyData.depthAll (xs.map PyData.str) = 0
  | [] => rfl
  | x :: r => by
    show max (PySem.PyData.depth (.str x)) (PySem.PyData.depthAll (r.map PyData.str)) = 0
    rw [depth_strs r]
    rfl
theorem shaped_strs {xs : List Str} (h : ∀ x ∈ xs, isW x = true) : SeqAt.shaped (.list (xs.map PyData.str)) = true := by
  refine shaped_of (lay_strs fun x hx => isW_ok (h x hx)) ?_
  show PySem.PyData.depthAll (xs.map PyData.str) + 1 ≤ 64
  rw [depth_strs]
  decide
theorem eqv_nil (xs : List Str) : PyData.eqv (.list (xs.map PyData.str)) (.list []) = xs.isEmpty := by
  cases xs <;> rfl

section
variable {P : Program} {w : World} {K : PySem.W.Frag} {mg : Str → Option Value} {base : Heap}
/-! ### _law_cell_at -/
def spCell (K : PySem.W.Frag) : Sp := fun vs H Q _ => ∃ (a : Addr) (ns : List Int) (k : Int), vs = [.ref a, .int k] ∧ SqL K H a (ns.map V.int) ∧ 0 ≤ k ∧ ∀ z, Q (.int z) H
abbrev s_law_cell_at : Stmt := top 40
theorem scLcell_at : FnScope ["script", "k"] ["script", "k"] (defScope s_law_cell_at) := ⟨rfl, rfl, rfl, by decide +kernel, rfl, by decide +kernel, by decide +kernel⟩
theorem ok_cell (T : Txt K mg) {f : Addr} {fd : FuncData} (F : Fun K "_law_cell_at" "_law_cell_at" s_law_cell_at f fd) : FnOk P w K mg base CX0 1 f fd ["script", "k"] (spCell K) := by
  refine F.ok scLcell_at (fun vs H Q E h => ?_) (fun cdv A outer s H vs Q E hr h => ?_)
  · obtain ⟨a, ns, k, rfl, _⟩ := h
    rfl
  obtain ⟨a, ns, k, rfl, hS, h0, q⟩ := h
  refine ⟨_, (pss_cons (ps_if (pt_cmpR op_lt (pv 1) (pe_callB call_len_seq (by rfl) T.m_len PySem.boot_len (pa_cons (pv 0) pa_nil)) (nomark _)) (pss_one (ps_ret (pe_ix ix_list (pv 0) (pv 1) (fun _ _ => rfl)))) pss_nil)
    (pss_one (ps_ret pe_int))), ?_⟩
  refine ⟨_, rfl, _, rfl, a, _, rfl, .inl hS, _, _, rfl, rfl, _, rfl, ?_⟩
  refine ite2 (fun c => ?_) (fun c => ?_)
  · have c' : k < (((ns.map V.int).length : Nat) : Int) := of_decide_eq_true c
    rw [List.length_map] at c'
    have hk : k.toNat < ns.length := by omega
    refine ⟨_, rfl, _, rfl, a, _, _, .int ns[k.toNat], rfl, rfl, hS, at_of (j := k.toNat) (by omega) ?_, q _⟩
    rw [List.getElem?_map, List.getElem?_eq_getElem hk]
    rfl
  · exact q 0
/-! ### _law_tape -/
def spTape (K : PySem.W.Frag) : Sp := fun vs H Q _ => ∃ (a : Addr) (ns : List Int) (k : Int), vs = [.ref a, .int k] ∧ SqL K H a (ns.map V.int) ∧ 0 ≤ k ∧ k ≤ 1000 ∧ ∀ p z, H p = none → Q (.ref p) (upd H p (.lst [.int z]))
abbrev s_law_tape : Stmt := top 41
theorem scLtape : FnScope ["script", "k", "cell", "p", "one", "found", "turn"] ["script", "k"] (defScope s_law_tape) := ⟨rfl, rfl, rfl, by decide +kernel, rfl, by decide +kernel, by decide +kernel⟩
theorem ok_tape (T : Txt K mg) {f g : Addr} {fd gd : FuncData} (F : Fun K "_law_tape" "_law_tape" s_law_tape f fd) (G_law_cell_at : FnOk P w K mg base CX0 1 g gd ["script", "k"] (spCell K)) (R_law_cell_at : Ref K mg "_law_cell_at" g gd ["script", "k"]) : FnOk P w K mg base CX0 2 f fd ["script", "k"] (spTape K) := by
  refine F.ok scLtape (fun vs H Q E h => ?_) (fun cdv A outer s H vs Q E hr h => ?_)
  · obtain ⟨a, ns, k, rfl, _⟩ := h
    rfl
  obtain ⟨a, ns, k, rfl, hS, h0, h1, q⟩ := h
  refine ⟨_, (pss_cons (ps_set (i := 2) scLtape.nd rfl (Or.inl rfl) (pe_call G_law_cell_at hr rfl R_law_cell_at.m R_law_cell_at.k R_law_cell_at.b .nil pass0 (pa_cons (pv 0) (pa_cons (pv 1) pa_nil))))
    (pss_cons (ps_if (pt_cmpR op_eq (pv 2) pe_int (nomark _)) (pss_one (ps_ret (pe_lst (pa_cons pe_int pa_nil)))) pss_nil)
    (pss_cons (ps_if (pt_cmpR op_ge (pv 2) (pe_op op_pow pe_int pe_int) (nomark _)) (pss_one (ps_ret (pe_lst (pa_cons (pe_op op_sub (pv 2) (pe_op op_pow pe_int pe_int)) pa_nil)))) pss_nil)
    (pss_cons (ps_set (i := 3) scLtape.nd rfl (Or.inl rfl) pe_int)
    (pss_cons (ps_set (i := 4) scLtape.nd rfl (Or.inl rfl) (pe_op op_mod (pe_op op_add (pe_op op_add (pe_op op_mul (pv 2) pe_int) (pe_op op_mul pe_int (pv 1))) pe_int) (pv 3)))
    (pss_cons (ps_set (i := 5) scLtape.nd rfl (Or.inl rfl) (pv 4))
    (pss_cons (ps_for PassesOwn.never rfl (pi_range1 rfl T.m_range (pa_cons pe_int pa_nil)) (pg_name (i := 6) scLtape.nd rfl (Or.inl rfl)) (pss_cons (ps_set (i := 4) scLtape.nd rfl (Or.inl rfl) (pe_op op_mod (pe_op op_add (pe_op op_add (pe_op op_add (pe_op op_mul (pv 4) (pv 4)) (pe_op op_mul pe_int (pv 6))) (pv 2)) pe_int) (pv 3)))
    (pss_one (ps_set (i := 5) scLtape.nd rfl (Or.inl rfl) (pe_op op_add (pe_op op_mul (pv 5) (pv 3)) (pv 4))))))
    (pss_one (ps_ret (pe_lst (pa_cons (pv 5) pa_nil))))))))))), ?_⟩
  have b1 : ∀ x : Int, 0 ≤ x → x < 2305843009213693951 → -(2 ^ 64) < x ∧ x < 2 ^ 64 := fun x h1 h2 => by
    have e : (2 : Int) ^ 64 = 18446744073709551616 := by decide
    rw [e]
    omega
  refine ⟨_, rfl, _, rfl, a, ns, k, rfl, hS, h0, fun z => ?_⟩
  refine ⟨_, rfl, rfl, _, rfl, ?_⟩
  refine ite2 (fun c => ?_) (fun c => ?_)
  · exact ⟨sz (by show 1 ≤ 100000; decide), fun p hp => q p 0 hp⟩
  refine ⟨_, rfl, _, _, rfl, rfl, ⟨by decide, by decide, by decide⟩, _, _, rfl, rfl, _, rfl, ?_⟩
  refine ite2 (fun c => ?_) (fun c => ?_)
  · exact ⟨_, rfl, _, _, rfl, rfl, ⟨by decide, by decide, by decide⟩, _, _, rfl, rfl, sz (by show 1 ≤ 100000; decide), fun p hp => q p _ hp⟩
  refine ⟨_, rfl, _, _, rfl, rfl, .inr ⟨by decide, by decide⟩, _, rfl, _, _, rfl, rfl, .inl ⟨by decide, by decide⟩, _, _, rfl, rfl, _, _, rfl, rfl, _, rfl, _, _, rfl, rfl, (by show (0 : Int) < 2305843009213693951; decide), ?_⟩
  refine ⟨_, rfl, ?_⟩
  refine ⟨20, rfl, by decide, by decide, for_range (lo := 0) (n := 20) (fun i σ H' => ∃ one found o, σ = [some (.ref a), some (.int k), some (.int z), some (.int 2305843009213693951), some (.int one), some (.int found), o] ∧ H' = H ∧ 0 ≤ one ∧ one < 2305843009213693951) ?_ ?_ ?_⟩
  · exact ⟨_, _, _, rfl, rfl, Int.emod_nonneg _ (by decide), Int.emod_lt_of_pos _ (by decide)⟩
  · rintro i σ H' hi ⟨one, found, o, rfl, rfl, g0, g1⟩
    refine ⟨_, rfl, _, rfl, _, _, rfl, rfl, .inl (b1 one g0 g1), _, rfl, _, _, rfl, rfl, .inl ⟨by decide, by decide⟩, _, _, rfl, rfl, _, rfl, _, _, rfl, rfl, _, _, rfl, rfl, _, rfl, _, _, rfl, rfl, (by show (0 : Int) < 2305843009213693951; decide), ?_⟩
    refine ⟨_, rfl, _, rfl, _, _, rfl, rfl, .inr ⟨by decide, by decide⟩, _, rfl, _, _, rfl, rfl, ?_⟩
    exact ⟨_, _, _, rfl, rfl, Int.emod_nonneg _ (by decide), Int.emod_lt_of_pos _ (by decide)⟩
  · rintro σ H' ⟨one, found, o, rfl, rfl, g0, g1⟩
    exact ⟨_, rfl, sz (by show 1 ≤ 100000; decide), fun p hp => q p _ hp⟩
/-! ### _law_digit -/
def spDig : Sp := fun vs H Q _ => ∃ (tp : Addr) (many : Int), vs = [.ref tp, .int many] ∧ Tp H tp ∧ 0 < many ∧ many ≤ 100000000000000000000000000000000000000000000000000000000000 ∧ ∀ r H', 0 ≤ r → r < many → But1 tp H H' → Tp H' tp → Q (.int r) H'
theorem log_many {m : Int} (h0 : 0 < m) (h1 : m ≤ 100000000000000000000000000000000000000000000000000000000000) : m.natAbs.log2 < 9000 := by
  refine PySem.Flt.log2_lt_of (by decide) (Nat.lt_of_le_of_lt (m := 100000000000000000000000000000000000000000000000000000000000) (by omega) ?_)
  exact Nat.lt_of_lt_of_le (m := 2 ^ 200) (by decide) (Nat.pow_le_pow_right (by decide) (by decide))
abbrev s_law_digit : Stmt := top 42
theorem scLdigit : FnScope ["tape", "many", "found"] ["tape", "many"] (defScope s_law_digit) := ⟨rfl, rfl, rfl, by decide +kernel, rfl, by decide +kernel, by decide +kernel⟩
theorem ok_dig {f : Addr} {fd : FuncData} (F : Fun K "_law_digit" "_law_digit" s_law_digit f fd) : FnOk P w K mg base CX0 1 f fd ["tape", "many"] spDig := by
  refine F.ok scLdigit (fun vs H Q E h => ?_) (fun cdv A outer s H vs Q E hr h => ?_)
  · obtain ⟨tp, many, rfl, _⟩ := h
    rfl
  obtain ⟨tp, many, rfl, ⟨z, hz⟩, h0, h1, q⟩ := h
  refine ⟨_, (pss_cons (ps_set (i := 2) scLdigit.nd rfl (Or.inl rfl) (pe_op op_mod (pe_ix ix_list (pv 0) pe_int (fun _ _ => rfl)) (pv 1)))
    (pss_cons (ps_asg (pe_op op_fdivW (pe_ix ix_list (pv 0) pe_int (fun _ _ => rfl)) (pv 1)) (pg_sub (pv 0) pe_int set_list))
    (pss_one (ps_ret (pv 2))))), ?_⟩
  refine ⟨_, rfl, tp, _, _, _, rfl, rfl, SqL.of hz, at0, _, rfl, _, _, rfl, rfl, h0, ?_⟩
  refine ⟨_, rfl, tp, _, _, _, rfl, rfl, SqL.of hz, at0, _, rfl, _, _, rfl, rfl, ⟨h0, log_many h0 h1⟩, ?_⟩
  refine ⟨_, rfl, tp, _, _, 0, rfl, rfl, hz, rfl, ?_⟩
  refine ⟨_, rfl, q _ _ (Int.emod_nonneg _ (by omega)) (Int.emod_lt_of_pos _ h0) (fun b o n h => ?_) ⟨_, upd_same⟩⟩
  rw [upd_ne n]
  exact h
/-! ### _law_number -/
def spNum : Sp := fun vs H Q _ => ∃ (tp : Addr), vs = [.ref tp] ∧ Tp H tp ∧ ∀ r H', But1 tp H H' → Tp H' tp → 0 ≤ r → r < 1000 → Q (.int r) H'
abbrev s_law_number : Stmt := top 44
theorem scLnumber : FnScope ["tape", "way"] ["tape"] (defScope s_law_number) := ⟨rfl, rfl, rfl, by decide +kernel, rfl, by decide +kernel, by decide +kernel⟩
theorem at_some {xs : List V} {i : Int} (h0 : 0 ≤ i) (h1 : i < (xs.length : Int)) : ∃ v, atI xs i = some v ∧ v ∈ xs := by
  have h : i.toNat < xs.length := by omega
  exact ⟨xs[i.toNat], at_of (j := i.toNat) (by omega) (List.getElem?_eq_getElem h), List.getElem_mem h⟩
theorem ok_num {f g : Addr} {fd gd : FuncData} (F : Fun K "_law_number" "_law_number" s_law_number f fd) (G_law_digit : FnOk P w K mg base CX0 1 g gd ["tape", "many"] spDig) (R_law_digit : Ref K mg "_law_digit" g gd ["tape", "many"]) : FnOk P w K mg base CX0 2 f fd ["tape"] spNum := by
  refine F.ok scLnumber (fun vs H Q E h => ?_) (fun cdv A outer s H vs Q E hr h => ?_)
  · obtain ⟨tp, rfl, _⟩ := h
    rfl
  obtain ⟨tp, rfl, ht, q⟩ := h
  refine ⟨_, (pss_cons (ps_set (i := 1) scLnumber.nd rfl (Or.inl rfl) (pe_call G_law_digit hr rfl R_law_digit.m R_law_digit.k R_law_digit.b .nil pass0 (pa_cons (pv 0) (pa_cons pe_int pa_nil))))
    (pss_cons (ps_if (pt_cmpR op_eq (pv 1) pe_int (nomark _)) (pss_one (ps_ret (pe_call G_law_digit hr rfl R_law_digit.m R_law_digit.k R_law_digit.b .nil pass0 (pa_cons (pv 0) (pa_cons pe_int pa_nil))))) pss_nil)
    (pss_one (ps_ret (pe_ix ix_list (pe_lst (pa_cons pe_int (pa_cons pe_int (pa_cons pe_int (pa_cons pe_int (pa_cons pe_int pa_nil)))))) (pv 1) (fun _ _ => rfl)))))), ?_⟩
  refine ⟨_, rfl, tp, 6, rfl, ht, by decide, by decide, fun r H1 r0 r1 k1 t1 => ?_⟩
  refine ⟨_, rfl, rfl, _, rfl, ?_⟩
  refine ite2 (fun c => ?_) (fun c => ?_)
  · exact ⟨_, rfl, tp, 1000, rfl, t1, by decide, by decide, fun r2 H2 z0 z1 k2 t2 => q r2 H2 (k1.trans k2) t2 z0 z1⟩
  · have c' : r ≠ 5 := fun z => c (decide_eq_true (congrArg V.int z))
    refine ⟨sz (by show 5 ≤ 100000; decide), fun p hp => ?_⟩
    have np : tp ≠ p := by
      obtain ⟨z, hz⟩ := t1
      exact ne_of_none hz hp
    obtain ⟨v, hv, hm⟩ := at_some (xs := [V.int 0, .int 1, .int 1, .int 2, .int 3]) (i := r) r0 (by show r < 5; omega)
    have hi : ∃ n : Int, v = V.int n ∧ 0 ≤ n ∧ n < 1000 := by
      simp only [List.mem_cons, List.not_mem_nil, or_false] at hm
      rcases hm with z | z | z | z | z <;> exact ⟨_, z, by decide, by decide⟩
    obtain ⟨n, rfl, z0, z1⟩ := hi
    refine ⟨_, rfl, p, _, _, _, rfl, rfl, SqL.of upd_same, hv, ?_⟩
    refine q n _ (k1.trans (but_same (same_new hp _))) ?_ z0 z1
    obtain ⟨z, hz⟩ := t1
    exact ⟨z, same_new hp _ _ _ hz⟩
end
end KB

namespace KB
open PySem L2

/-! ### good terms -/
def okH : Hd → Prop
  | .nam x | .lett x | .ask x => isW x = true
  | .num z => 0 ≤ z ∧ z < 1000
  | _ => True
def okT : Tm → Prop
  | .mk h _ k => okH h ∧ ∀ i, okT (k i)
def HtLe : Nat → Tm → Prop
  | 0, _ => False
  | n + 1, .mk _ _ k => ∀ i, HtLe n (k i)
theorem HtLe.up : ∀ {n : Nat} {t : Tm}, HtLe n t → HtLe (n + 1) t
  | 0, _, h => h.elim
  | n + 1, .mk _ _ _, h => fun i => HtLe.up (n := n) (h i)
theorem HtLe.le {n m : Nat} {t : Tm} (h : HtLe n t) (e : n ≤ m) : HtLe m t := by
  induction e with
  | refl => exact h
  | step _ ih => exact ih.up
/-- each name within its word's reach, each ask with as many terms as hd says -/
def okN (hd : Str → Option Nat) : Hd → Nat → List Str → Prop
  | .nam x, _, xs => x ∈ xs
  | .ask f, n, _ => hd f = some n
  | _, _, _ => True
def inn : Hd → Nat → List Str → List Str
  | .lett x, 1, xs => xs ++ [x]
  | _, _, xs => xs
def okS (hd : Str → Option Nat) : Tm → List Str → Prop
  | .mk h n k, xs => okN hd h n xs ∧ ∀ i, okS hd (k i) (inn h i.val xs)
def mkL (h : Hd) (ts : List Tm) : Tm := .mk h ts.length fun i => ts.get i
theorem ofFn_get (ts : List Tm) : List.ofFn (fun i => ts.get i) = ts := by
  refine List.ext_getElem (by simp) fun i h1 h2 => ?_
  simp
theorem cnt_mkL {h : Hd} {ts : List Tm} : cnt (mkL h ts) = 1 + cnts ts := by
  unfold mkL
  rw [cnt_mk, ofFn_get]
theorem ok_mkL {h : Hd} {ts : List Tm} (a : okH h) (b : ∀ t ∈ ts, okT t) : okT (mkL h ts) := ⟨a, fun i => b _ (List.get_mem ts i)⟩
theorem ht_mkL {n : Nat} {h : Hd} {ts : List Tm} (b : ∀ t ∈ ts, HtLe n t) : HtLe (n + 1) (mkL h ts) := fun i => b _ (List.get_mem ts i)
theorem sc_mkL {hd : Str → Option Nat} {h : Hd} {ts : List Tm} {xs : List Str} (a : okN hd h ts.length xs) (b : ∀ i t, ts[i]? = some t → okS hd t (inn h i xs)) : okS hd (mkL h ts) xs :=
  ⟨a, fun i => b i.val _ (by rw [List.getElem?_eq_getElem i.isLt]; rfl)⟩
theorem lt_mkL {h : Hd} {ts : List Tm} : letsOf (mkL h ts) = hdLets h ++ letsL ts := by
  unfold mkL
  rw [lets_mk, ofFn_get]
theorem letsL_app (a b : List Tm) : letsL (a ++ b) = letsL a ++ letsL b := by
  unfold letsL
  rw [List.map_append, List.flatten_append]
theorem letsL_cons (t : Tm) (r : List Tm) : letsL (t :: r) = letsOf t ++ letsL r := by
  unfold letsL
  rw [List.map_cons, List.flatten_cons]
theorem stk_fn {H : Hp} : ∀ {vs : List V} {ts : List Tm}, Stk H vs ts → ∃ ys : _root_.Fin ts.length → Addr, Rfs ys = vs ∧ ∀ i, At H (ts.get i) (ys i)
  | [], [], _ => ⟨fun i => i.elim0, rfl, fun i => i.elim0⟩
  | v :: vs, t :: ts, h => by
    obtain ⟨⟨b, e, hb⟩, hr⟩ := h
    subst e
    obtain ⟨ys, e1, e2⟩ := stk_fn hr
    refine ⟨fun i => match i with | ⟨0, _⟩ => b | ⟨j + 1, hj⟩ => ys ⟨j, Nat.lt_of_succ_lt_succ hj⟩, ?_, ?_⟩
    · unfold Rfs
      show List.ofFn (n := ts.length + 1) _ = _
      rw [List.ofFn_succ, ← e1]
      rfl
    · rintro ⟨j, hj⟩
      cases j with
      | zero => exact hb
      | succ j => exact e2 ⟨j, Nat.lt_of_succ_lt_succ hj⟩
  | [], _ :: _, h => h.elim
  | _ :: _, [], h => h.elim
theorem at_mkL {H : Hp} {a : Addr} {h : Hd} {vs : List V} {ts : List Tm} (l : Lay H a h vs) (s : Stk H vs ts) : At H (mkL h ts) a := by
  obtain ⟨ys, e1, e2⟩ := stk_fn s
  refine ⟨ys, ?_, e2⟩
  rw [e1]
  exact l
/-- a new good term at a, of at most n terms, within at most d -/
structure Gd (H : Hp) (a : Addr) (n d : Nat) (hd : Str → Option Nat) (xs ls : List Str) (t : Tm) : Prop where
  at_ : At H t a
  ok : okT t
  cn : cnt t ≤ n
  dp : HtLe d t
  sc : okS hd t xs
  lt : letsOf t = ls
theorem Gd.tk {H H' : Hp} {a : Addr} {n d : Nat} {hd : Str → Option Nat} {xs ls : List Str} {t : Tm} (e : TK H H') (g : Gd H a n d hd xs ls t) : Gd H' a n d hd xs ls t := ⟨g.at_.tk e, g.ok, g.cn, g.dp, g.sc, g.lt⟩
theorem Gd.le {H : Hp} {a : Addr} {n d m e : Nat} {hd : Str → Option Nat} {xs ls : List Str} {t : Tm} (g : Gd H a n d hd xs ls t) (h1 : n ≤ m) (h2 : d ≤ e) : Gd H a m e hd xs ls t := ⟨g.at_, g.ok, Nat.le_trans g.cn h1, g.dp.le h2, g.sc, g.lt⟩
theorem gd_num {H : Hp} {a : Addr} {z : Int} {hd : Str → Option Nat} {xs : List Str} (l : Lay H a (.num z) []) (o : 0 ≤ z ∧ z < 1000) : Gd H a 1 1 hd xs [] (mkL (.num z) []) :=
  ⟨at_mkL l trivial, ok_mkL o (fun _ z => nomatch z), (by rw [cnt_mkL]; exact Nat.le_refl 1), ht_mkL (n := 0) (fun _ z => nomatch z), sc_mkL trivial (fun _ _ z => by simp at z), lt_mkL⟩
theorem gd_nam {H : Hp} {a : Addr} {x : Str} {hd : Str → Option Nat} {xs : List Str} (l : Lay H a (.nam x) []) (o : isW x = true) (m : x ∈ xs) : Gd H a 1 1 hd xs [] (mkL (.nam x) []) :=
  ⟨at_mkL l trivial, ok_mkL o (fun _ z => nomatch z), (by rw [cnt_mkL]; exact Nat.le_refl 1), ht_mkL (n := 0) (fun _ z => nomatch z), sc_mkL m (fun _ _ z => by simp at z), lt_mkL⟩

section
variable {P : Program} {w : World} {K : PySem.W.Frag} {mg : Str → Option Value} {base : Heap}
/-! ### _law_leaf -/
def spLeaf : Sp := fun vs H Q _ => ∃ (tp : Addr) (kv : V) (ar : Addr) (xs : List Str), vs = [.ref tp, kv, .ref ar] ∧ Tp H tp ∧ Wls H ar xs ∧ xs.length ≤ 1000 ∧ ∀ a t H', But1 tp H H' → Tp H' tp → (∀ hd, Gd H' a 1 1 hd xs [] t) → Q (.ref a) H'
abbrev s_law_leaf : Stmt := top 45
theorem scLleaf : FnScope ["tape", "known", "around"] ["tape", "known", "around"] (defScope s_law_leaf) := ⟨rfl, rfl, rfl, by decide +kernel, rfl, by decide +kernel, by decide +kernel⟩
theorem Tp.same {H H' : Hp} {tp : Addr} (e : Same H H') (t : Tp H tp) : Tp H' tp := let ⟨z, h⟩ := t; ⟨z, e _ _ h⟩
theorem ok_leaf (T : Txt K mg) {f g h : Addr} {fd gd hd : FuncData} (F : Fun K "_law_leaf" "_law_leaf" s_law_leaf f fd) (G_law_digit : FnOk P w K mg base CX0 1 g gd ["tape", "many"] spDig) (R_law_digit : Ref K mg "_law_digit" g gd ["tape", "many"])
    (G_law_number : FnOk P w K mg base CX0 2 h hd ["tape"] spNum) (R_law_number : Ref K mg "_law_number" h hd ["tape"]) : FnOk P w K mg base CX0 3 f fd ["tape", "known", "around"] spLeaf := by
  refine F.ok scLleaf (fun vs H Q E h => ?_) (fun cdv A outer s H vs Q E hr h => ?_)
  · obtain ⟨tp, kv, ar, xs, rfl, _⟩ := h
    rfl
  obtain ⟨tp, kv, ar, xs, rfl, ht, hw, hl, q⟩ := h
  refine ⟨_, (pss_cons (ps_if (PW.pt (pw_and (pt_cmpR (op_neD hr.units) (pv 2) (pe_lst pa_nil) (nomark _)) (pw_and1 (pt_cmpR op_gt (pe_call G_law_digit (hr.mono (by omega)) rfl R_law_digit.m R_law_digit.k R_law_digit.b .nil pass0 (pa_cons (pv 0) (pa_cons pe_int pa_nil))) pe_int (nomark _))))) (pss_one (ps_ret (pe_tup (pa_cons pe_str (pa_cons (pe_ix ix_list (pv 2) (pe_call G_law_digit (hr.mono (by omega)) rfl R_law_digit.m R_law_digit.k R_law_digit.b .nil pass0 (pa_cons (pv 0) (pa_cons (pe_callB call_len_seq (by rfl) T.m_len PySem.boot_len (pa_cons (pv 2) pa_nil)) pa_nil))) (fun _ _ => rfl)) pa_nil))))) pss_nil)
    (pss_one (ps_ret (pe_tup (pa_cons pe_str (pa_cons (pe_call G_law_number hr rfl R_law_number.m R_law_number.k R_law_number.b .nil pass0 (pa_cons (pv 0) pa_nil)) pa_nil)))))), ?_⟩
  have numW : ∀ H1, But1 tp H H1 → Tp H1 tp → (tRet (tTup (tCons (tC (.str "number")) (tCons (tCall spNum [] E0 (tCons (tVar 0) tNil)) tNil)))) { nx := fun x H' => Q V.non H', rt := Q } [some (.ref tp), some kv, some (.ref ar)] H1 := by
    intro H1 k1 t1
    refine ⟨_, rfl, tp, rfl, t1, fun r H2 k2 t2 r0 r1 => ⟨sz (by show 2 ≤ 100000; decide), fun p hp => ?_⟩⟩
    have s := same_new hp (.tup [.str "number", .int r])
    exact q p (mkL (.num r) []) _ ((k1.trans k2).trans (but_same s)) (t2.same s) (fun _ => gd_num ⟨rfl, upd_same⟩ ⟨r0, r1⟩)
  refine ⟨_, rfl, sz (by show 0 ≤ 100000; decide), fun p0 hp0 => ?_⟩
  have s0 := same_new hp0 (.lst [])
  refine ⟨.list (xs.map PyData.str), .list [], .lst (SqL.of (s0 _ _ hw.1)) (dp_strs xs), .lst (SqL.of upd_same) .nil, shaped_strs hw.2, rfl, _, rfl, ?_⟩
  rw [eqv_nil]
  cases xs with
  | nil => exact iteF (numW _ (but_same s0) (ht.same s0))
  | cons x0 xr =>
    refine iteT ⟨_, rfl, tp, 3, rfl, ht.same s0, by decide, by decide, fun r H1 r0 r1 k1 t1 => ?_⟩
    have k01 := (but_same s0).trans k1
    refine ⟨_, _, rfl, rfl, _, rfl, ?_⟩
    refine ite2 (fun c => ?_) (fun c => ?_)
    · have w1 := hw.but k01 ht
      refine ⟨_, rfl, _, rfl, _, rfl, ar, _, rfl, .inl (SqL.of w1.1), tp, _, rfl, t1, ?_, ?_, fun r2 H2 r3 r4 k2 t2 => ?_⟩
      · show (0 : Int) < (((x0 :: xr).map V.str).length : Nat)
        rw [List.length_map, List.length_cons]
        omega
      · rw [List.length_map]
        omega
      have w2 := w1.but k2 t1
      obtain ⟨v, hv, hm⟩ := at_some r3 r4
      obtain ⟨z, hz, rfl⟩ := List.mem_map.mp hm
      refine ⟨ar, _, _, _, rfl, rfl, SqL.of w2.1, hv, sz (by show 2 ≤ 100000; decide), fun p hp => ?_⟩
      have s := same_new hp (.tup [.str "name", .str z])
      exact q p (mkL (.nam z) []) _ ((k01.trans k2).trans (but_same s)) (t2.same s) (fun _ => gd_nam ⟨rfl, upd_same⟩ (hw.2 z hz) hz)
    · exact numW _ k01 t1
/-! ### _law_shares -/
def spShr : Sp := fun vs H Q _ => ∃ (tp : Addr) (room many : Int), vs = [.ref tp, .int room, .int many] ∧ Tp H tp ∧ 0 ≤ many ∧ many ≤ room ∧ room ≤ 1000 ∧
  ∀ (p : Addr) (xs : List Int) (H' : Hp), But1 tp H H' → Tp H' tp → H p = none → H' p = some (.lst (xs.map V.int)) → (xs.length : Int) = many → (∀ x ∈ xs, (1 : Int) ≤ x) → xs.sum ≤ room → Q (.ref p) H'
abbrev s_law_shares : Stmt := top 46
theorem scLshares : FnScope ["tape", "room", "many", "found", "left", "k", "more"] ["tape", "room", "many"] (defScope s_law_shares) := ⟨rfl, rfl, rfl, by decide +kernel, rfl, by decide +kernel, by decide +kernel⟩
theorem rep1 (n : Nat) : (List.replicate n [V.int 1]).flatten = (List.replicate n (1 : Int)).map V.int := by
  induction n with
  | zero => rfl
  | succ n ih =>
    rw [List.replicate_succ, List.flatten_cons, ih, List.replicate_succ]
    rfl
theorem sum1 (n : Nat) : (List.replicate n (1 : Int)).sum = n := by
  induction n with
  | zero => rfl
  | succ n ih =>
    rw [List.replicate_succ, List.sum_cons, ih]
    omega
theorem ok_shares (T : Txt K mg) {f g : Addr} {fd gd : FuncData} (F : Fun K "_law_shares" "_law_shares" s_law_shares f fd) (G_law_digit : FnOk P w K mg base CX0 1 g gd ["tape", "many"] spDig) (R_law_digit : Ref K mg "_law_digit" g gd ["tape", "many"]) : FnOk P w K mg base CX0 2 f fd ["tape", "room", "many"] spShr := by
  refine F.ok scLshares (fun vs H Q E h => ?_) (fun cdv A outer s H vs Q E hr h => ?_)
  · obtain ⟨tp, room, many, rfl, _⟩ := h
    rfl
  obtain ⟨tp, room, many, rfl, ht, h0, h1, h2, q⟩ := h
  refine ⟨_, (pss_cons (ps_set (i := 3) scLshares.nd rfl (Or.inl rfl) (pe_op op_rep (pe_lst (pa_cons pe_int pa_nil)) (pv 2)))
    (pss_cons (ps_set (i := 4) scLshares.nd rfl (Or.inl rfl) (pe_op op_sub (pv 1) (pv 2)))
    (pss_cons (ps_for PassesOwn.never rfl (pi_range1 rfl T.m_range (pa_cons (pv 2) pa_nil)) (pg_name (i := 5) scLshares.nd rfl (Or.inl rfl)) (pss_cons (ps_set (i := 6) scLshares.nd rfl (Or.inl rfl) (pe_call G_law_digit hr rfl R_law_digit.m R_law_digit.k R_law_digit.b .nil pass0 (pa_cons (pv 0) (pa_cons (pe_op op_add (pv 4) pe_int) pa_nil))))
    (pss_cons (ps_asg (pe_op op_add (pe_ix ix_list (pv 3) (pv 5) (fun _ _ => rfl)) (pv 6)) (pg_sub (pv 3) (pv 5) set_list))
    (pss_one (ps_set (i := 4) scLshares.nd rfl (Or.inl rfl) (pe_op op_sub (pv 4) (pv 6)))))))
    (pss_one (ps_ret (pv 3)))))), ?_⟩
  refine ⟨sz (by show 1 ≤ 100000; decide), fun p1 hp1 => ?_⟩
  have s1 := same_new hp1 (.lst [.int 1])
  refine ⟨_, rfl, p1, _, _, rfl, rfl, upd_same, by omega, by omega, sz (by show 1 * many.toNat ≤ 100000; omega), fun fl hfl => ?_⟩
  have s2 := same_new hfl (.lst (List.replicate many.toNat [V.int 1]).flatten)
  have s12 := s1.trans s2
  have hfl0 : H fl = none := s1.free hfl
  have f1 : upd (upd H p1 (.lst [.int 1])) fl (.lst (List.replicate many.toNat [V.int 1]).flatten) fl = some (.lst ((List.replicate many.toNat (1 : Int)).map V.int)) := by
    rw [upd_same, rep1]
  refine ⟨_, rfl, _, rfl, _, _, rfl, rfl, ?_⟩
  refine ⟨_, rfl, many, rfl, by omega, by omega, ?_⟩
  have ntp : fl ≠ tp := by
    obtain ⟨z, hz⟩ := ht
    exact (ne_of_none hz hfl0).symm
  refine for_range (lo := 0) (n := many.toNat) (fun i σ H' => ∃ left o5 o6 xs, σ = [some (.ref tp), some (.int room), some (.int many), some (.ref fl), some (.int left), o5, o6] ∧ But1 tp H H' ∧ Tp H' tp ∧ H' fl = some (.lst ((xs : List Int).map V.int)) ∧
    (xs.length : Int) = many ∧ (∀ x ∈ xs, (1 : Int) ≤ x) ∧ xs.sum + left = room ∧ 0 ≤ left) ?_ ?_ ?_
  · refine ⟨_, _, _, List.replicate many.toNat 1, rfl, but_same s12, ht.same s12, f1, ?_, ?_, ?_, by omega⟩
    · rw [List.length_replicate]
      omega
    · intro x hx
      rw [(List.mem_replicate.mp hx).2]
      decide
    · rw [sum1]
      omega
  · rintro i σ H1 hi ⟨left, o5, o6, xs, rfl, k1, t1, g1, g2, g3, g4, g5⟩
    refine ⟨_, rfl, _, rfl, _, _, rfl, rfl, tp, _, rfl, t1, by omega, ?_, fun r H2 r0 r1 k2 t2 => ?_⟩
    · have : xs.sum ≥ 0 := by
        clear g1 g2 g4
        induction xs with
        | nil => decide
        | cons x r ih =>
          have e1 := g3 x List.mem_cons_self
          have e2 := ih fun y hy => g3 y (List.mem_cons_of_mem _ hy)
          rw [List.sum_cons]
          omega
      omega
    have g6 := k2 _ _ ntp g1
    have hi2 : i < xs.length := by omega
    have hx : xs[i]? = some xs[i] := List.getElem?_eq_getElem hi2
    have e0 : (0 : Int) + (i : Nat) = ((i : Nat) : Int) := by omega
    refine ⟨_, rfl, _, rfl, fl, _, _, .int xs[i], rfl, rfl, SqL.of g6, ?_, _, rfl, _, _, rfl, rfl, ?_⟩
    · rw [e0]
      exact atI_nat (by rw [List.getElem?_map, hx]; rfl)
    refine ⟨_, rfl, _, rfl, fl, _, _, i, rfl, rfl, g6, ?_, ?_⟩
    · rw [e0, List.length_map]
      unfold ixN
      rw [if_pos (by omega), if_pos (by omega)]
      rfl
    refine ⟨_, rfl, _, rfl, _, _, rfl, rfl, ?_⟩
    refine ⟨_, _, _, xs.set i (xs[i] + r), rfl, fun b o n h => ?_, ?_, ?_, ?_, ?_, ?_, by omega⟩
    · by_cases e : b = fl
      · subst e
        rw [hfl0] at h
        cases h
      · rw [upd_ne e]
        exact k2 _ _ n (k1 _ _ n h)
    · obtain ⟨z, hz⟩ := t2
      exact ⟨z, by rw [upd_ne (Ne.symm ntp)]; exact hz⟩
    · rw [upd_same, List.map_set]
    · rw [List.length_set]
      exact g2
    · intro x hx'
      rcases List.mem_or_eq_of_mem_set hx' with z | z
      · exact g3 x z
      · have := g3 _ (List.getElem_mem hi2)
        omega
    · rw [sum_set hx]
      omega
  · rintro σ H1 ⟨left, o5, o6, xs, rfl, k1, t1, g1, g2, g3, g4, g5⟩
    exact ⟨_, rfl, q fl xs H1 k1 t1 hfl0 g1 g2 g3 (by omega)⟩
/-! ### _law_less_one -/
theorem simple_mkL {h : Hd} {ts : List Tm} (a : flatHd h = true) (b : ∀ t ∈ ts, simple t = true) : simple (mkL h ts) = true := by
  unfold mkL simple
  rw [a, Bool.true_and, List.all_eq_true]
  intro x hx
  obtain ⟨i, rfl⟩ := List.mem_ofFn.mp hx
  exact b _ (List.get_mem ts i)
def spLess : Sp := fun vs H Q _ => ∃ (ar : Addr) (xs : List Str), vs = [.ref ar] ∧ Wls H ar xs ∧ ∀ a t H', Same H H' → (∀ hd, Gd H' a 3 2 hd xs [] t) → simple t = true → Q (.ref a) H'
abbrev s_law_less_one : Stmt := top 47
theorem scLless_one : FnScope ["around"] ["around"] (defScope s_law_less_one) := ⟨rfl, rfl, rfl, by decide +kernel, rfl, by decide +kernel, by decide +kernel⟩
theorem ok_less {f : Addr} {fd : FuncData} (F : Fun K "_law_less_one" "_law_less_one" s_law_less_one f fd) : FnOk P w K mg base CX0 1 f fd ["around"] spLess := by
  refine F.ok scLless_one (fun vs H Q E h => ?_) (fun cdv A outer s H vs Q E hr h => ?_)
  · obtain ⟨ar, xs, rfl, _⟩ := h
    rfl
  obtain ⟨ar, xs, rfl, hw, q⟩ := h
  refine ⟨_, (pss_cons (ps_if (pt_cmpR (op_eqD hr.units) (pv 0) (pe_lst pa_nil) (nomark _)) (pss_one (ps_ret (pe_tup (pa_cons pe_str (pa_cons pe_int pa_nil))))) pss_nil)
    (pss_one (ps_ret (pe_tup (pa_cons pe_str (pa_cons (pe_tup (pa_cons pe_str (pa_cons (pe_ix ix_list (pv 0) pe_int (fun _ _ => rfl)) pa_nil))) (pa_cons (pe_tup (pa_cons pe_str (pa_cons pe_int pa_nil))) pa_nil))))))), ?_⟩
  refine ⟨_, rfl, sz (by show 0 ≤ 100000; decide), fun p0 hp0 => ?_⟩
  have s0 := same_new hp0 (.lst [])
  refine ⟨.list (xs.map PyData.str), .list [], .lst (SqL.of (s0 _ _ hw.1)) (dp_strs xs), .lst (SqL.of upd_same) .nil, shaped_strs hw.2, rfl, _, rfl, ?_⟩
  rw [eqv_nil]
  cases xs with
  | nil =>
    refine iteT ⟨sz (by show 2 ≤ 100000; decide), fun p hp => ?_⟩
    exact q p (mkL (.num 0) []) _ (s0.trans (same_new hp _)) (fun _ => (gd_num ⟨rfl, upd_same⟩ (by decide)).le (by decide) (by decide)) (simple_mkL rfl (fun _ z => nomatch z))
  | cons x0 xr =>
    refine iteF ⟨_, rfl, ar, _, _, _, rfl, rfl, SqL.of (s0 _ _ hw.1), at0, sz (by show 2 ≤ 100000; decide), fun p1 hp1 => ?_⟩
    have s1 := same_new hp1 (.tup [.str "name", .str x0])
    refine ⟨sz (by show 2 ≤ 100000; decide), fun p2 hp2 => ?_⟩
    have s2 := same_new hp2 (.tup [.str "number", .int 1])
    refine ⟨sz (by show 3 ≤ 100000; decide), fun p3 hp3 => ?_⟩
    have s3 := same_new hp3 (.tup [.str "less", .ref p1, .ref p2])
    have s23 := s2.trans s3
    have l1 : Lay _ p1 (.nam x0) [] := ⟨rfl, s23 _ _ upd_same⟩
    have l2 : Lay _ p2 (.num 1) [] := ⟨rfl, s3 _ _ upd_same⟩
    refine q p3 (mkL .less [mkL (.nam x0) [], mkL (.num 1) []]) _ (s0.trans (s1.trans s23)) (fun hd => ?_) (simple_mkL rfl fun t ht => by
      simp only [List.mem_cons, List.not_mem_nil, or_false] at ht
      rcases ht with z | z <;> subst z <;> exact simple_mkL rfl (fun _ z => nomatch z))
    have g1 := gd_nam (hd := hd) (xs := x0 :: xr) l1 (hw.2 x0 List.mem_cons_self) List.mem_cons_self
    have g2 := gd_num (hd := hd) (xs := x0 :: xr) l2 (by decide)
    refine ⟨?_, ?_, ?_, ?_, ?_, ?_⟩
    · exact at_mkL (vs := [.ref p1, .ref p2]) ⟨rfl, upd_same⟩ ⟨⟨p1, rfl, g1.at_⟩, ⟨p2, rfl, g2.at_⟩, trivial⟩
    · refine ok_mkL trivial fun t ht => ?_
      simp only [List.mem_cons, List.not_mem_nil, or_false] at ht
      rcases ht with z | z
      · subst z
        exact g1.ok
      · subst z
        exact g2.ok
    · have c1 := g1.cn
      have c2 := g2.cn
      rw [cnt_mkL, cnts_cons, cnts_cons]
      show 1 + (_ + (_ + 0)) ≤ 3
      omega
    · refine ht_mkL fun t ht => ?_
      simp only [List.mem_cons, List.not_mem_nil, or_false] at ht
      rcases ht with z | z
      · subst z
        exact g1.dp
      · subst z
        exact g2.dp
    · refine sc_mkL trivial fun i t hi => ?_
      match i, hi with
      | 0, hi =>
        cases (Option.some.inj hi)
        exact g1.sc
      | 1, hi =>
        cases (Option.some.inj hi)
        exact g2.sc
      | i + 2, hi => simp at hi
    · rw [lt_mkL, letsL_cons, letsL_cons, g1.lt, g2.lt]
      rfl
end
end KB

namespace KB
open PySem L2

/-! ### what a generator of terms has at hand -/
def But2 (tp wl : Addr) (H H' : Hp) : Prop := ∀ b o, b ≠ tp → b ≠ wl → H b = some o → H' b = some o
theorem But2.refl (tp wl : Addr) (H : Hp) : But2 tp wl H H := fun _ _ _ _ h => h
theorem But2.trans {tp wl : Addr} {H H1 H2 : Hp} (a : But2 tp wl H H1) (b : But2 tp wl H1 H2) : But2 tp wl H H2 := fun x o n m h => b x o n m (a x o n m h)
theorem But1.two {tp wl : Addr} {H H' : Hp} (a : But1 tp H H') : But2 tp wl H H' := fun x o n _ h => a x o n h
theorem but2_same {tp wl : Addr} {H H' : Hp} (e : Same H H') : But2 tp wl H H' := fun b o _ _ h => e b o h
def kwE : Key := Sum.inr "errands"
def kwH : Key := Sum.inr "heads"
def kwW : Key := Sum.inr "words"
def knD (el hd wl : Addr) : List (Key × V) := [(Sum.inr "errands", .ref el), (Sum.inr "heads", .ref hd), (Sum.inr "words", .ref wl)]
structure GS (H : Hp) (tp kd wl : Addr) (hF : Str → Option Nat) (ws : List Str) : Prop where
  t : Tp H tp
  w : Wls H wl ws
  wn : ws.length ≤ 100
  k : ∃ el hd fs kvs, H kd = some (.dK (knD el hd wl)) ∧ el ≠ wl ∧ Wls H el fs ∧ 0 < fs.length ∧ fs.length ≤ 100 ∧ H hd = some (.dK kvs) ∧ ∀ f ∈ fs, ∃ n : Int, valV kvs (Sum.inr f) = some (.int n) ∧ 0 ≤ n ∧ n ≤ 4 ∧ hF f = some n.toNat
theorem GS.ntk {H : Hp} {tp kd wl : Addr} {hF : Str → Option Nat} {ws : List Str} (g : GS H tp kd wl hF ws) {a : Addr} {o : HO} (h : H a = some o) (hn : ∀ xs, o ≠ .lst xs) : a ≠ tp ∧ a ≠ wl := by
  obtain ⟨z, hz⟩ := g.t
  exact ⟨ne_of h hz (hn _), ne_of h g.w.1 (hn _)⟩
theorem GS.tk {H H' : Hp} {tp kd wl : Addr} {hF : Str → Option Nat} {ws : List Str} (g : GS H tp kd wl hF ws) (b : But2 tp wl H H') : TK H H' := fun a _ h => by
  obtain ⟨n1, n2⟩ := g.ntk h (fun _ z => nomatch z)
  exact b a _ n1 n2 h
theorem GS.step {H H' : Hp} {tp kd wl : Addr} {hF : Str → Option Nat} {ws ws' : List Str} (g : GS H tp kd wl hF ws) (b : But2 tp wl H H') (t : Tp H' tp) (w : Wls H' wl ws') (wn : ws'.length ≤ 100) : GS H' tp kd wl hF ws' := by
  obtain ⟨el, hd, fs, kvs, k1, k2, k3, k4, k5, k6, k7⟩ := g.k
  refine ⟨t, w, wn, el, hd, fs, kvs, ?_, k2, ⟨b _ _ (wls_tp k3.1 g.t) k2 k3.1, k3.2⟩, k4, k5, ?_, k7⟩
  · obtain ⟨n1, n2⟩ := g.ntk k1 (fun _ z => nomatch z)
    exact b _ _ n1 n2 k1
  · obtain ⟨n1, n2⟩ := g.ntk k6 (fun _ z => nomatch z)
    exact b _ _ n1 n2 k6
theorem GS.one {H H' : Hp} {tp kd wl : Addr} {hF : Str → Option Nat} {ws : List Str} (g : GS H tp kd wl hF ws) (b : But1 tp H H') (t : Tp H' tp) : GS H' tp kd wl hF ws :=
  g.step b.two t (g.w.but b g.t) g.wn
theorem GS.same {H H' : Hp} {tp kd wl : Addr} {hF : Str → Option Nat} {ws : List Str} (g : GS H tp kd wl hF ws) (e : Same H H') : GS H' tp kd wl hF ws := g.one (but_same e) (g.t.same e)
theorem Wls.two {tp kd wl a : Addr} {H H' : Hp} {xs : List Str} {hF : Str → Option Nat} {ws : List Str} (e : But2 tp wl H H') (g : GS H tp kd wl hF ws) (n : a ≠ wl) (h : Wls H a xs) : Wls H' a xs := ⟨e _ _ (wls_tp h.1 g.t) n h.1, h.2⟩
/-- an object that was new stays -/
theorem GS.new {tp kd wl : Addr} {H : Hp} {hF : Str → Option Nat} {ws : List Str} (g : GS H tp kd wl hF ws) {p : Addr} (h : H p = none) : p ≠ tp ∧ p ≠ wl := by
  obtain ⟨z, hz⟩ := g.t
  exact ⟨(ne_of_none hz h).symm, (ne_of_none g.w.1 h).symm⟩
theorem But2.put {tp wl : Addr} {H H' : Hp} {p : Addr} {o : HO} (e : But2 tp wl H H') (h : H p = none) : But2 tp wl H (upd H' p o) := fun a u n m ha => by
  rw [upd_ne (ne_of_none ha h)]
  exact e _ _ n m ha
theorem GS.put {tp kd wl : Addr} {H : Hp} {hF : Str → Option Nat} {ws : List Str} (g : GS H tp kd wl hF ws) {p : Addr} {o o' : HO} (h : H p = some o) (n1 : p ≠ tp) (n2 : p ≠ wl) (n3 : p ≠ kd) (n4 : ∀ kvs, o ≠ .dK kvs) (n5 : ∀ x : Str, ∀ xs, o ≠ .lst (.str x :: xs)) : GS (upd H p o') tp kd wl hF ws := by
  obtain ⟨el, hd, fs, kvs, k1, k2, k3, k4, k5, k6, k7⟩ := g.k
  obtain ⟨z, hz⟩ := g.t
  refine ⟨⟨z, by rw [upd_ne n1.symm]; exact hz⟩, ⟨by rw [upd_ne n2.symm]; exact g.w.1, g.w.2⟩, g.wn, el, hd, fs, kvs, by rw [upd_ne n3.symm]; exact k1, k2, ⟨?_, k3.2⟩, k4, k5, ?_, k7⟩
  · have ne : el ≠ p := by
      rintro rfl
      rw [k3.1] at h
      cases fs with
      | nil => exact absurd k4 (Nat.lt_irrefl 0)
      | cons x r => exact n5 x _ (Option.some.inj h).symm
    rw [upd_ne ne]
    exact k3.1
  · have ne : hd ≠ p := by
      rintro rfl
      rw [k6] at h
      exact n4 _ (Option.some.inj h).symm
    rw [upd_ne ne]
    exact k6
theorem get_errands {H : Hp} {kd el hd wl : Addr} (h : H kd = some (.dK (knD el hd wl))) : DGet H kd (.str "errands") (some (.ref el)) := DGet.k (k := kwE) h
theorem get_heads {H : Hp} {kd el hd wl : Addr} (h : H kd = some (.dK (knD el hd wl))) : DGet H kd (.str "heads") (some (.ref hd)) := DGet.k (k := kwH) h
theorem get_words {H : Hp} {kd el hd wl : Addr} (h : H kd = some (.dK (knD el hd wl))) : DGet H kd (.str "words") (some (.ref wl)) := DGet.k (k := kwW) h
theorem get_of {H : Hp} {hd : Addr} {kvs : List (Key × V)} {f : Str} {v : V} (h : H hd = some (.dK kvs)) (e : valV kvs (Sum.inr f) = some v) : DGet H hd (.str f) (some v) := by
  have := DGet.k (k := Sum.inr f) h
  rw [e] at this
  exact this
theorem small64 {x : Int} (h0 : 0 ≤ x) (h1 : x < 1000000) : -(2 ^ 64) < x ∧ x < 2 ^ 64 := by
  have e : (2 : Int) ^ 64 = 18446744073709551616 := by decide
  rw [e]
  omega

theorem ite_share {c : Prop} [Decidable c] {A B P : Prop} (hB : P → B) (hP : ¬ c → P) (hA : c → (P → B) → A) : if c then A else B := by
  by_cases h : c
  · rw [if_pos h]
    exact hA h hB
  · rw [if_neg h]
    exact hB (hP h)

section
variable {P : Program} {w : World} {K : PySem.W.Frag} {mg : Str → Option Value} {base : Heap}
def spTerm (n : Nat) : Sp := fun vs H Q _ => ∃ (tp kd wl ar : Addr) (hF : Str → Option Nat) (ws xs : List Str) (room deep : Int), vs = [.ref tp, .ref kd, .ref ar, .int room, .int deep] ∧ GS H tp kd wl hF ws ∧ Wls H ar xs ∧ ar ≠ wl ∧ (xs.length : Int) + deep ≤ 500 ∧
  1 ≤ room ∧ room ≤ 900 ∧ 0 ≤ deep ∧ deep.toNat < n ∧ ∀ a t ls H' ws', But2 tp wl H H' → ws = ws' ++ List.reverse ls → GS H' tp kd wl hF ws' → Gd H' a room.toNat (deep.toNat + 2) hF xs ls t → Q (.ref a) H'
def spAsk (n : Nat) : Sp := fun vs H Q _ => ∃ (tp kd wl ar : Addr) (hF : Str → Option Nat) (ws xs : List Str) (room deep : Int), vs = [.ref tp, .ref kd, .ref ar, .int room, .int deep] ∧ GS H tp kd wl hF ws ∧ Wls H ar xs ∧ ar ≠ wl ∧ (xs.length : Int) + deep ≤ 500 ∧
  2 ≤ room ∧ room ≤ 900 ∧ 1 ≤ deep ∧ deep.toNat ≤ n ∧ ∀ a t ls H' ws', But2 tp wl H H' → ws = ws' ++ List.reverse ls → GS H' tp kd wl hF ws' → Gd H' a room.toNat (deep.toNat + 2) hF xs ls t → Q (.ref a) H'
abbrev s_law_ask : Stmt := top 48
theorem scLask : FnScope ["tape", "known", "around", "room", "deep", "f", "many", "some", "first", "shares", "k"] ["tape", "known", "around", "room", "deep"] (defScope s_law_ask) := ⟨rfl, rfl, rfl, by decide +kernel, rfl, by decide +kernel, by decide +kernel⟩
theorem le_sum {l : List Int} {x : Int} (h : ∀ y ∈ l, (1 : Int) ≤ y) (hx : x ∈ l) : x ≤ l.sum := by
  induction l with
  | nil => cases hx
  | cons a r ih =>
    have e : (0 : Int) ≤ r.sum := by
      clear ih hx
      induction r with
      | nil => decide
      | cons b s ih2 =>
        have e1 := h b (List.mem_cons_of_mem _ List.mem_cons_self)
        have e2 := ih2 fun y hy => by
          rcases List.mem_cons.mp hy with z | z
          · exact h y (List.mem_cons.mpr (.inl z))
          · exact h y (List.mem_cons_of_mem _ (List.mem_cons_of_mem _ z))
        rw [List.sum_cons]
        omega
    have ha := h a List.mem_cons_self
    rw [List.sum_cons]
    rcases List.mem_cons.mp hx with z | z
    · omega
    · have := ih (fun y hy => h y (List.mem_cons_of_mem _ hy)) z
      omega
/-- within the loop over an ask's terms, i of them made -/
def AskI (H : Hp) (tp kd wl ar sl sh : Addr) (hF : Str → Option Nat) (ws xs : List Str) (ss : List Int) (fn : Str) (room deep many fi : Int) (i : Nat) (σ : St) (H' : Hp) : Prop :=
  ∃ o10 vs ts wsi, σ = [some (.ref tp), some (.ref kd), some (.ref ar), some (.int room), some (.int deep), some (.str fn), some (.int many), some (.ref sl), some (.int fi), some (.ref sh), o10] ∧
  But2 tp wl H H' ∧ GS H' tp kd wl hF wsi ∧ ws = wsi ++ (letsL ts).reverse ∧ Wls H' ar xs ∧ H' sh = some (.lst (ss.map V.int)) ∧ H' sl = some (.lst vs) ∧ Stk H' vs ts ∧ ts.length = i ∧ (∀ t ∈ ts, okT t ∧ HtLe (deep.toNat + 1) t ∧ okS hF t xs) ∧ (cnts ts : Int) ≤ (ss.take i).sum + (if fi > 0 then 2 else 0)
theorem ok_ask (T : Txt K mg) {n : Nat} {f fg fh fs_ fl_ ft : Addr} {fd gd hd sd ld td : FuncData} (F : Fun K "_law_ask" "_law_ask" s_law_ask f fd) (G_law_digit : FnOk P w K mg base CX0 1 fg gd ["tape", "many"] spDig) (R_law_digit : Ref K mg "_law_digit" fg gd ["tape", "many"])
    (G_law_leaf : FnOk P w K mg base CX0 3 fh hd ["tape", "known", "around"] spLeaf) (R_law_leaf : Ref K mg "_law_leaf" fh hd ["tape", "known", "around"]) (G_law_shares : FnOk P w K mg base CX0 2 fs_ sd ["tape", "room", "many"] spShr) (R_law_shares : Ref K mg "_law_shares" fs_ sd ["tape", "room", "many"])
    (G_law_less_one : FnOk P w K mg base CX0 1 fl_ ld ["around"] spLess) (R_law_less_one : Ref K mg "_law_less_one" fl_ ld ["around"])
    (G_law_term : FnOk P w K mg base CX0 (2 * n + 4) ft td ["tape", "known", "around", "room", "deep"] (spTerm n)) (R_law_term : Ref K mg "_law_term" ft td ["tape", "known", "around", "room", "deep"]) : FnOk P w K mg base CX0 (2 * n + 5) f fd ["tape", "known", "around", "room", "deep"] (spAsk n) := by
  refine F.ok scLask (fun vs H Q E h => ?_) (fun cdv A outer s H vs Q E hr h => ?_)
  · obtain ⟨tp, kd, wl, ar, hF, ws, xs, room, deep, rfl, _⟩ := h
    rfl
  obtain ⟨tp, kd, wl, ar, hF, ws, xs, room, deep, rfl, hg, hw, naw, hx, hr1, hr2, hd1, hd2, q⟩ := h
  refine ⟨_, (pss_cons (ps_set (i := 5) scLask.nd rfl (Or.inl rfl) (pe_ix ix_list (pe_dget (hu_of hr) (pv 1) pe_str (fun _ _ => rfl)) (pe_call G_law_digit (hr.mono (by omega)) rfl R_law_digit.m R_law_digit.k R_law_digit.b .nil pass0 (pa_cons (pv 0) (pa_cons (pe_callB call_len_seq (by rfl) T.m_len PySem.boot_len (pa_cons (pe_dget (hu_of hr) (pv 1) pe_str (fun _ _ => rfl)) pa_nil)) pa_nil))) (fun _ _ => rfl)))
    (pss_cons (ps_set (i := 6) scLask.nd rfl (Or.inl rfl) (pe_dget (hu_of hr) (pe_dget (hu_of hr) (pv 1) pe_str (fun _ _ => rfl)) (pv 5) (fun _ _ => rfl)))
    (pss_cons (ps_if (PW.pt (pw_and (pt_cmpR op_gt (pe_op op_add (pv 6) pe_int) (pv 3) (nomark _)) (pw_and1 (pt_cmpR op_gt (pv 6) pe_int (nomark _))))) (pss_one (ps_ret (pe_call G_law_leaf (hr.mono (by omega)) rfl R_law_leaf.m R_law_leaf.k R_law_leaf.b .nil pass0 (pa_cons (pv 0) (pa_cons (pv 1) (pa_cons (pv 2) pa_nil)))))) pss_nil)
    (pss_cons (ps_set (i := 7) scLask.nd rfl (Or.inl rfl) (pe_lst pa_nil))
    (pss_cons (ps_set (i := 8) scLask.nd rfl (Or.inl rfl) (pe_op op_mul (pe_call G_law_digit (hr.mono (by omega)) rfl R_law_digit.m R_law_digit.k R_law_digit.b .nil pass0 (pa_cons (pv 0) (pa_cons pe_int pa_nil))) (pe_callTy call_int1 (by rfl) T.m_int (by decide +kernel) (pa_cons (pe_cmpR op_gt (pv 6) pe_int (nomark _)) pa_nil))))
    (pss_cons (ps_set (i := 9) scLask.nd rfl (Or.inl rfl) (pe_call G_law_shares (hr.mono (by omega)) rfl R_law_shares.m R_law_shares.k R_law_shares.b .nil pass0 (pa_cons (pv 0) (pa_cons (pe_callB (call_max2 rfl) (by rfl) T.m_max (by decide +kernel) (pa_cons (pv 6) (pa_cons (pe_op op_sub (pv 3) (pe_ix ix_list (pe_lst (pa_cons pe_int (pa_cons pe_int pa_nil))) (pe_callTy call_int1 (by rfl) T.m_int (by decide +kernel) (pa_cons (pe_cmpR op_gt (pv 8) pe_int (nomark _)) pa_nil)) (fun _ _ => rfl))) pa_nil))) (pa_cons (pv 6) pa_nil)))))
    (pss_cons (ps_for PassesOwn.never rfl (pi_range1 rfl T.m_range (pa_cons (pv 6) pa_nil)) (pg_name (i := 10) scLask.nd rfl (Or.inl rfl)) (pss_one (ps_if (PW.pt (pw_and (pt_cmpR op_eq (pv 10) pe_int (nomark _)) (pw_and1 (pt_cmpR op_gt (pv 8) pe_int (nomark _))))) (pss_one (ps_expr (pe_bm PySem.F.plainAttrs_list PySem.F.slot_list_append PySem.F.type_list_append mt_append (pv 7) (pa_cons (pe_call G_law_less_one (hr.mono (by omega)) rfl R_law_less_one.m R_law_less_one.k R_law_less_one.b .nil pass0 (pa_cons (pv 2) pa_nil)) pa_nil)))) (pss_one (ps_expr (pe_bm PySem.F.plainAttrs_list PySem.F.slot_list_append PySem.F.type_list_append mt_append (pv 7) (pa_cons (pe_call G_law_term hr rfl R_law_term.m R_law_term.k R_law_term.b .nil pass0 (pa_cons (pv 0) (pa_cons (pv 1) (pa_cons (pv 2) (pa_cons (pe_ix ix_list (pv 9) (pv 10) (fun _ _ => rfl)) (pa_cons (pe_op op_sub (pv 4) pe_int) pa_nil)))))) pa_nil)))))))
    (pss_one (ps_ret (pe_tup (pa_cons pe_str (pa_cons (pv 5) (pa_cons (pe_callTy call_tuple_of (by rfl) T.m_tuple (by decide +kernel) (pa_cons (pv 7) pa_nil)) pa_nil))))))))))))), ?_⟩
  obtain ⟨el, hd', fs, kvs, k1, k2, k3, k4, k5, k6, k7⟩ := hg.k
  refine ⟨_, rfl, kd, _, rfl, get_errands k1, _, rfl, _, rfl, kd, _, rfl, get_errands k1, el, _, rfl, .inl (SqL.of k3.1), tp, _, rfl, hg.t, ?_, ?_, fun r H1 r0 r1 b1 t1 => ?_⟩
  · rw [List.length_map]
    omega
  · rw [List.length_map]
    omega
  have g1 := hg.one b1 t1
  have k3' := k3.but b1 hg.t
  have k1' : H1 kd = some (.dK (knD el hd' wl)) := by
    obtain ⟨n1, _⟩ := hg.ntk k1 (fun _ z => nomatch z)
    exact b1 _ _ n1 k1
  have k6' : H1 hd' = some (.dK kvs) := by
    obtain ⟨n1, _⟩ := hg.ntk k6 (fun _ z => nomatch z)
    exact b1 _ _ n1 k6
  obtain ⟨v, hv, hm⟩ := at_some r0 r1
  obtain ⟨fn, hfn, rfl⟩ := List.mem_map.mp hm
  obtain ⟨many, hmany, m0, m4, mF⟩ := k7 fn hfn
  refine ⟨el, _, _, _, rfl, rfl, SqL.of k3'.1, hv, ?_⟩
  refine ⟨_, rfl, kd, _, rfl, get_heads k1', _, rfl, hd', _, rfl, get_of k6' hmany, ?_⟩
  have hw1 := hw.but b1 hg.t
  have leafW : ∀ H2, But2 tp wl H H2 → GS H2 tp kd wl hF ws → Wls H2 ar xs → ∀ s7 s8 s9 s10 : Option V, (tRet (tCall spLeaf [] E0 (tCons (tVar 0) (tCons (tVar 1) (tCons (tVar 2) tNil))))) { nx := fun x H' => Q V.non H', rt := Q }
      [some (.ref tp), some (.ref kd), some (.ref ar), some (.int room), some (.int deep), some (.str fn), some (.int many), s7, s8, s9, s10] H2 := by
    intro H2 b2 g2 w2 s7 s8 s9 s10
    refine ⟨_, rfl, _, rfl, _, rfl, tp, .ref kd, ar, xs, rfl, g2.t, w2, by omega, fun a t H3 b3 t3 gd => ?_⟩
    exact q a t [] H3 ws (b2.trans b3.two) (List.append_nil ws).symm (g2.one b3 t3) ((gd hF).le (by omega) (by omega))
  refine ⟨_, rfl, _, _, rfl, rfl, _, rfl, _, _, rfl, rfl, _, rfl, ?_⟩
  refine ite_share (P := many > 0 → many + 3 ≤ room) (fun hp => ?_) (fun c z => ?_) (fun c kB => ?_)
  rotate_left
  · have c' : ¬ room < many + 3 := fun y => c (decide_eq_true y)
    omega
  · refine ⟨_, rfl, _, _, rfl, rfl, _, rfl, ?_⟩
    refine ite2 (fun c2 => ?_) (fun c2 => ?_)
    · exact leafW H1 b1.two g1 hw1 _ _ _ _
    · exact kB fun z => absurd (decide_eq_true z) c2
  -- some = []
  refine ⟨sz (by show 0 ≤ 100000; decide), fun sl hsl => ?_⟩
  have s1 := same_new hsl (.lst [])
  have hsl0 : H sl = none := by
    cases e : H sl with
    | none => rfl
    | some o =>
      obtain ⟨n1, n2⟩ := g1.new hsl
      rw [b1 _ _ n1 e] at hsl
      cases hsl
  -- first
  refine ⟨_, rfl, tp, 4, rfl, g1.t.same s1, by decide, by decide, fun r2 H2 r3 r4 b2 t2 => ?_⟩
  have g1s := g1.same s1
  have g2 := g1s.one b2 t2
  obtain ⟨nst, nsw⟩ := g1.new hsl
  have h2 : H2 sl = some (.lst []) := b2 _ _ nst upd_same
  have B2 : But2 tp wl H H2 := b1.two.trans ((but2_same s1).trans b2.two)
  have w2 := (hw1.but (but_same s1) g1.t).but b2 g1s.t
  refine ⟨_, rfl, _, _, rfl, rfl, .inr ⟨_, rfl, _, _, rfl, rfl, .inl (small64 r3 (by omega)), ?_⟩⟩
  have hfirst : ∃ fi : Int, r2 * (if decide (many > 0) = true then 1 else 0) = fi ∧ 0 ≤ fi ∧ fi < 4 ∧ (fi > 0 → many > 0) := by
    by_cases c : many > 0
    · refine ⟨r2, ?_, r3, r4, fun _ => c⟩
      rw [if_pos (decide_eq_true c)]
      omega
    · refine ⟨0, ?_, by decide, by decide, fun z => by omega⟩
      rw [if_neg (by rw [decide_eq_false c]; exact Bool.false_ne_true)]
      omega
  obtain ⟨fi, efi, fi0, fi4, fim⟩ := hfirst
  simp only [efi]
  -- shares
  refine ⟨_, rfl, _, rfl, _, rfl, sz (by show 2 ≤ 100000; decide), fun p2 hp2 => ?_⟩
  have s3 := same_new hp2 (.lst [.int 1, .int 3])
  have hix : ∃ d : Int, atI [V.int 1, .int 3] (if decide (fi > 0) = true then 1 else 0) = some (.int d) ∧ ((fi > 0 ∧ d = 3) ∨ (¬ fi > 0 ∧ d = 1)) := by
    by_cases c : fi > 0
    · exact ⟨3, by rw [if_pos (decide_eq_true c)]; exact at1, .inl ⟨c, rfl⟩⟩
    · exact ⟨1, by rw [if_neg (by rw [decide_eq_false c]; exact Bool.false_ne_true)]; exact at0, .inr ⟨c, rfl⟩⟩
  obtain ⟨d, hd0, hd9⟩ := hix
  refine ⟨_, rfl, _, _, rfl, rfl, .inr ⟨_, rfl, p2, _, _, _, rfl, rfl, SqL.of upd_same, hd0, _, _, rfl, rfl, ?_⟩⟩
  have hmx : ∃ mx : Int, (if room - d > many then room - d else many) = mx ∧ many ≤ mx ∧ mx ≤ 900 ∧ (fi > 0 → mx = room - 3) ∧ (¬ fi > 0 → mx ≤ room - 1 ∨ (many = 0 ∧ mx ≤ room)) := by
    refine ⟨_, rfl, ?_⟩
    split <;> omega
  obtain ⟨mx, emx, mx0, mx1, mx2, mx3⟩ := hmx
  refine ⟨_, _, rfl, ?_⟩
  simp only [emx]
  refine ⟨_, rfl, tp, mx, many, rfl, g2.t.same s3, m0, mx0, by omega, fun sh ss H4 b4 t4 hsh h4 hsl4 hs1 hsum => ?_⟩
  have g3 := g2.same s3
  have g4 := g3.one b4 t4
  have B4 : But2 tp wl H H4 := B2.trans ((but2_same s3).trans b4.two)
  have w4 := (w2.but (but_same s3) g2.t).but b4 g3.t
  have h4s : H4 sl = some (.lst []) := b4 _ _ nst (s3 _ _ h2)
  have nsh : sh ≠ sl := (ne_of_none (s3 _ _ h2) hsh).symm
  obtain ⟨nht, nhw⟩ := g3.new hsh
  have nskd : sl ≠ kd := (ne_of_none k1 hsl0).symm
  have nsar : ar ≠ sl := ne_of_none hw.1 hsl0
  have hsh0 : sh ≠ sl := nsh
  refine ⟨_, rfl, many, rfl, by omega, by omega, ?_⟩
  refine for_range (lo := 0) (n := many.toNat) (AskI H tp kd wl ar sl sh hF ws xs ss fn room deep many fi) ?_ ?_ ?_
  · refine ⟨_, [], [], ws, rfl, B4, g4, (List.append_nil ws).symm, w4, h4, h4s, trivial, rfl, (fun _ z => nomatch z), ?_⟩
    show (0 : Int) ≤ 0 + _
    split <;> omega
  · rintro i σ H5 hi ⟨o10, vs, ts, wsi, rfl, B5, g5, hws5, w5, h5, h5s, k5s, hlen, hts, hcn⟩
    have hil : i < ss.length := by omega
    have hss : ss[i]? = some ss[i] := List.getElem?_eq_getElem hil
    have hs1i := hs1 _ (List.getElem_mem hil)
    have hsi := le_sum hs1 (List.getElem_mem hil)
    have htake := sum_take hss
    have hvl := k5s.len
    have e0 : (0 : Int) + (i : Nat) = ((i : Nat) : Int) := by omega
    have put : ∀ (a : Addr) (t : Tm) (H6 : Hp) (ws6 : List Str), But2 tp wl H5 H6 → GS H6 tp kd wl hF ws6 → wsi = ws6 ++ (letsOf t).reverse → okS hF t xs → At H6 t a → okT t → HtLe (deep.toNat + 1) t → (cnts (ts ++ [t]) : Int) ≤ (ss.take (i + 1)).sum + (if fi > 0 then 2 else 0) →
        ∃ l zs y, V.ref sl = .ref l ∧ [V.ref a] = [y] ∧ H6 l = some (.lst zs) ∧ zs.length < sizeLine ∧ AskI H tp kd wl ar sl sh hF ws xs ss fn room deep many fi (i + 1) [some (.ref tp), some (.ref kd), some (.ref ar), some (.int room), some (.int deep), some (.str fn), some (.int many), some (.ref sl), some (.int fi), some (.ref sh), some (.int (0 + (i : Nat)))] (upd H6 l (.lst (zs ++ [y]))) := by
      intro a t H6 ws6 b6 g6 hws6 sc6 at6 ok6 ht6 cn6
      have h6s : H6 sl = some (.lst vs) := b6 _ _ nst nsw h5s
      have tk6 := g5.tk b6
      refine ⟨sl, vs, .ref a, rfl, rfl, h6s, Nat.lt_of_le_of_lt (m := 1000) (by omega) (by decide), _, vs ++ [.ref a], ts ++ [t], ws6, rfl, ?_, ?_, ?_, ?_, ?_, upd_same, ?_, ?_, ?_, cn6⟩
      · exact (B5.trans b6).put hsl0
      · refine g6.put h6s nst nsw nskd (fun _ z => nomatch z) fun x zs z => ?_
        have e := HO.lst.inj z
        cases ts with
        | nil =>
          cases vs with
          | nil => cases e
          | cons _ _ => exact k5s.elim
        | cons t0 tr =>
          cases vs with
          | nil => cases e
          | cons v0 vr =>
            obtain ⟨⟨b0, e0', _⟩, _⟩ := k5s
            rw [e0'] at e
            cases (List.cons.inj e).1
      · rw [hws5, hws6, letsL_app, List.reverse_append, List.append_assoc]
        show _ = ws6 ++ ((letsOf t ++ []).reverse ++ _)
        rw [List.append_nil]
      · have w6 := w5.two b6 g5 naw
        exact ⟨by rw [upd_ne nsar]; exact w6.1, w6.2⟩
      · rw [upd_ne nsh]
        exact b6 _ _ nht nhw h5
      · exact ((k5s.tk tk6).app (us := [.ref a]) (ss := [t]) ⟨⟨a, rfl, at6⟩, trivial⟩).tk (tk_put h6s)
      · rw [List.length_append, hlen]
        rfl
      · intro u hu
        rcases List.mem_append.mp hu with z | z
        · exact hts u z
        · rw [List.mem_singleton.mp z]
          exact ⟨ok6, ht6, sc6⟩
    refine ⟨_, rfl, rfl, _, rfl, ?_⟩
    refine ite_share (P := ¬ (i = 0 ∧ fi > 0)) (fun hp2 => ?_) (fun c z => c (decide_eq_true (by rw [z.1]; rfl))) (fun c kB => ?_)
    · -- the term is drawn
      refine ⟨_, rfl, .inl ⟨rfl, _, SqL.of h5s⟩, _, rfl, _, rfl, _, rfl, _, rfl, _, rfl, sh, _, _, .int ss[i], rfl, rfl, SqL.of h5, ?_, _, rfl, _, _, rfl, rfl, ?_⟩
      · rw [e0]
        exact atI_nat (by rw [List.getElem?_map, hss]; rfl)
      refine ⟨tp, kd, wl, ar, hF, wsi, xs, ss[i], deep - 1, rfl, g5, w5, naw, by omega, hs1i, by omega, by omega, by omega, fun a t ls H6 ws6 b6 e6 g6 gd6 => ?_⟩
      refine put a t H6 ws6 b6 g6 (by rw [gd6.lt]; exact e6) gd6.sc gd6.at_ gd6.ok (gd6.dp.le (by omega)) ?_
      have c6 := gd6.cn
      rw [cnts_app, htake]
      show ((cnts ts + (cnt t + 0) : Nat) : Int) ≤ _
      omega
    · have c' : i = 0 := by
        have := V.int.inj (of_decide_eq_true c)
        omega
      refine ⟨_, rfl, _, _, rfl, rfl, _, rfl, ?_⟩
      refine ite2 (fun c2 => ?_) (fun c2 => ?_)
      · have c2' : fi > 0 := of_decide_eq_true c2
        refine ⟨_, rfl, .inl ⟨rfl, _, SqL.of h5s⟩, _, rfl, ar, xs, rfl, w5, fun a t H6 s6 gd6' _ => ?_⟩
        have gd6 := gd6' hF
        refine put a t H6 wsi (but2_same s6) (g5.same s6) (by rw [gd6.lt]; exact (List.append_nil wsi).symm) gd6.sc gd6.at_ gd6.ok (gd6.dp.le (by omega)) ?_
        have c6 := gd6.cn
        subst c'
        have hz : ts = [] := List.eq_nil_of_length_eq_zero hlen
        subst hz
        rw [htake, if_pos c2']
        show ((cnt t + 0 : Nat) : Int) ≤ 0 + _ + 2
        omega
      · exact kB fun z => c2 (decide_eq_true z.2)
  · rintro σ H5 ⟨o10, vs, ts, wsi, rfl, B5, g5, hws5, w5, h5, h5s, k5s, hlen, hts, hcn⟩
    refine ⟨_, rfl, _, rfl, sl, _, rfl, .inl ⟨SqL.of h5s, fun pp hpp => ⟨sz (by show 3 ≤ 100000; decide), fun pa hpa => ?_⟩⟩⟩
    have s6 := same_new hpp (.tup vs)
    have s7 := same_new hpa (.tup [.str "ask", .str fn, .ref pp])
    have s67 := s6.trans s7
    have hvl := k5s.len
    refine q pa (mkL (.ask fn) ts) (letsL ts) _ wsi (B5.trans (but2_same s67)) hws5 (g5.same s67) ⟨?_, ?_, ?_, ?_, ?_, lt_mkL⟩
    · exact at_mkL (vs := vs) ⟨by omega, pp, upd_same, s7 _ _ upd_same⟩ (k5s.mono s67)
    · exact ok_mkL (k3.2 fn hfn) fun t ht => (hts t ht).1
    · rw [cnt_mkL]
      have e1 : ss.take many.toNat = ss := List.take_of_length_le (by omega)
      rw [e1] at hcn
      by_cases c : fi > 0
      · rw [if_pos c] at hcn
        have := mx2 c
        omega
      · rw [if_neg c] at hcn
        rcases mx3 c with z | ⟨z1, z2⟩
        · omega
        · have hz : ts = [] := List.eq_nil_of_length_eq_zero (by omega)
          rw [hz]
          show 1 + 0 ≤ _
          omega
    · exact ht_mkL fun t ht => (hts t ht).2.1
    · refine sc_mkL ?_ fun i t hi => (hts t (mem_of_get hi)).2.2
      show hF fn = some ts.length
      rw [mF, hlen]
end
end KB

namespace KB
open PySem L2

theorem stk_ok_app {d : Nat} {hF : Str → Option Nat} {xs : List Str} {ts : List Tm} {t : Tm} (h : ∀ u ∈ ts, okT u ∧ HtLe d u ∧ okS hF u xs) (o : okT t) (k : HtLe d t) (c : okS hF t xs) : ∀ u ∈ ts ++ [t], okT u ∧ HtLe d u ∧ okS hF u xs := fun u hu => by
  rcases List.mem_append.mp hu with z | z
  · exact h u z
  · rw [List.mem_singleton.mp z]
    exact ⟨o, k, c⟩
theorem sum2 {xs : List Int} (h : xs.length = 2) : ∃ a b, xs = [a, b] := by
  match xs, h with
  | [a, b], _ => exact ⟨a, b, rfl⟩
section
variable {P : Program} {w : World} {K : PySem.W.Frag} {mg : Str → Option Value} {base : Heap}
abbrev s_law_term : Stmt := top 49
theorem scLterm : FnScope ["tape", "known", "around", "room", "deep", "words", "word", "x", "shares", "first", "some", "share"] ["tape", "known", "around", "room", "deep"] (defScope s_law_term) := ⟨rfl, rfl, rfl, by decide +kernel, rfl, by decide +kernel, by decide +kernel⟩
def wds10 : List V := [.str "plus", .str "less", .str "tell", .str "let", .str "if", .str "ask", .str "ask", .str "ask", .str "plus", .str "let"]
theorem ok_term (T : Txt K mg) {n : Nat} {f fg fh fs_ fa : Addr} {fd gd hd sd ad : FuncData} (F : Fun K "_law_term" "_law_term" s_law_term f fd) (G_law_digit : FnOk P w K mg base CX0 1 fg gd ["tape", "many"] spDig) (R_law_digit : Ref K mg "_law_digit" fg gd ["tape", "many"])
    (G_law_leaf : FnOk P w K mg base CX0 3 fh hd ["tape", "known", "around"] spLeaf) (R_law_leaf : Ref K mg "_law_leaf" fh hd ["tape", "known", "around"]) (G_law_shares : FnOk P w K mg base CX0 2 fs_ sd ["tape", "room", "many"] spShr) (R_law_shares : Ref K mg "_law_shares" fs_ sd ["tape", "room", "many"])
    (G_law_ask : FnOk P w K mg base CX0 (2 * n + 5) fa ad ["tape", "known", "around", "room", "deep"] (spAsk n)) (R_law_ask : Ref K mg "_law_ask" fa ad ["tape", "known", "around", "room", "deep"])
    (G_law_term : FnOk P w K mg base CX0 (2 * n + 4) f fd ["tape", "known", "around", "room", "deep"] (spTerm n)) (R_law_term : Ref K mg "_law_term" f fd ["tape", "known", "around", "room", "deep"]) : FnOk P w K mg base CX0 (2 * n + 6) f fd ["tape", "known", "around", "room", "deep"] (spTerm (n + 1)) := by
  refine F.ok scLterm (fun vs H Q E h => ?_) (fun cdv A outer s H vs Q E hr h => ?_)
  · obtain ⟨tp, kd, wl, ar, hF, ws, xs, room, deep, rfl, _⟩ := h
    rfl
  obtain ⟨tp, kd, wl, ar, hF, ws, xs, room, deep, rfl, hg, hw, naw, hx, hr1, hr2, hd1, hd2, q⟩ := h
  refine ⟨_, (pss_cons (ps_if (PW.pt (pw_or (pt_cmpR op_lt (pv 3) pe_int (nomark _)) (pw_or1 (pt_cmpR op_eq (pv 4) pe_int (nomark _))))) (pss_one (ps_ret (pe_call G_law_leaf (hr.mono (by omega)) rfl R_law_leaf.m R_law_leaf.k R_law_leaf.b .nil pass0 (pa_cons (pv 0) (pa_cons (pv 1) (pa_cons (pv 2) pa_nil)))))) pss_nil)
    (pss_cons (ps_set (i := 5) scLterm.nd rfl (Or.inl rfl) (pe_lst (pa_cons pe_str (pa_cons pe_str (pa_cons pe_str (pa_cons pe_str (pa_cons pe_str (pa_cons pe_str (pa_cons pe_str (pa_cons pe_str (pa_cons pe_str (pa_cons pe_str pa_nil))))))))))))
    (pss_cons (ps_set (i := 6) scLterm.nd rfl (Or.inl rfl) (pe_ix ix_list (pv 5) (pe_call G_law_digit (hr.mono (by omega)) rfl R_law_digit.m R_law_digit.k R_law_digit.b .nil pass0 (pa_cons (pv 0) (pa_cons pe_int pa_nil))) (fun _ _ => rfl)))
    (pss_cons (ps_if (pt_cmpR op_eq (pv 6) pe_str (nomark _)) (pss_one (ps_ret (pe_call G_law_ask hr rfl R_law_ask.m R_law_ask.k R_law_ask.b .nil pass0 (pa_cons (pv 0) (pa_cons (pv 1) (pa_cons (pv 2) (pa_cons (pv 3) (pa_cons (pv 4) pa_nil)))))))) pss_nil)
    (pss_cons (ps_if (PW.pt (pw_or (pt_cmpR op_eq (pv 6) pe_str (nomark _)) (pw_or1 (pt_cmpR op_lt (pv 3) pe_int (nomark _))))) (pss_one (ps_ret (pe_tup (pa_cons pe_str (pa_cons (pe_call G_law_term (hr.mono (by omega)) rfl R_law_term.m R_law_term.k R_law_term.b .nil pass0 (pa_cons (pv 0) (pa_cons (pv 1) (pa_cons (pv 2) (pa_cons (pe_op op_sub (pv 3) pe_int) (pa_cons (pe_op op_sub (pv 4) pe_int) pa_nil)))))) pa_nil))))) pss_nil)
    (Evl.pss_cut (ps_if (PW.pt (pw_and (pt_cmpR op_eq (pv 6) pe_str (nomark _)) (pw_and1 (pt_cmpR (op_neD hr.units) (pe_dget (hu_of hr) (pv 1) pe_str (fun _ _ => rfl)) (pe_lst pa_nil) (nomark _))))) (pss_cons (ps_set (i := 7) scLterm.nd rfl (Or.inl rfl) (pe_bm0 PySem.F.plainAttrs_list PySem.F.slot_list_pop PySem.F.type_list_pop mt_pop (pe_dget (hu_of hr) (pv 1) pe_str (fun _ _ => rfl))))
    (pss_cons (ps_set (i := 8) scLterm.nd rfl (Or.inl rfl) (pe_call G_law_shares (hr.mono (by omega)) rfl R_law_shares.m R_law_shares.k R_law_shares.b .nil pass0 (pa_cons (pv 0) (pa_cons (pe_op op_sub (pv 3) pe_int) (pa_cons pe_int pa_nil)))))
    (pss_cons (ps_set (i := 9) scLterm.nd rfl (Or.inl rfl) (pe_call G_law_term (hr.mono (by omega)) rfl R_law_term.m R_law_term.k R_law_term.b .nil pass0 (pa_cons (pv 0) (pa_cons (pv 1) (pa_cons (pv 2) (pa_cons (pe_ix ix_list (pv 8) pe_int (fun _ _ => rfl)) (pa_cons (pe_op op_sub (pv 4) pe_int) pa_nil)))))))
    (pss_one (ps_ret (pe_tup (pa_cons pe_str (pa_cons (pv 7) (pa_cons (pv 9) (pa_cons (pe_call G_law_term (hr.mono (by omega)) rfl R_law_term.m R_law_term.k R_law_term.b .nil pass0 (pa_cons (pv 0) (pa_cons (pv 1) (pa_cons (pe_op op_cat (pv 2) (pe_lst (pa_cons (pv 7) pa_nil))) (pa_cons (pe_ix ix_list (pv 8) pe_int (fun _ _ => rfl)) (pa_cons (pe_op op_sub (pv 4) pe_int) pa_nil)))))) pa_nil)))))))))) pss_nil)
    (pss_cons (ps_set (i := 8) scLterm.nd rfl (Or.inl rfl) (pe_call G_law_shares (hr.mono (by omega)) rfl R_law_shares.m R_law_shares.k R_law_shares.b .nil pass0 (pa_cons (pv 0) (pa_cons (pe_op op_sub (pv 3) pe_int) (pa_cons (pe_ix ix_list (pe_lst (pa_cons pe_int (pa_cons pe_int pa_nil))) (pe_callTy call_int1 (by rfl) T.m_int (by decide +kernel) (pa_cons (pe_cmpR op_eq (pv 6) pe_str (nomark _)) pa_nil)) (fun _ _ => rfl)) pa_nil)))))
    (pss_cons (ps_setLc (i := 10) (own := [("share", 11)]) (g := gName 11) (by rfl) scLterm.nd rfl rfl (sw_true rfl rfl rfl (by decide +kernel)) (pi_list (pv 8)) (blkOk_by (own := [("share", 11)]) (N := ["tape", "known", "around", "room", "deep", "words", "word", "x", "shares", "first", "some", "share"]) (sc := defScope s_law_term) (by decide +kernel)) (fun _ _ _ _ _ => (pg_name (i := 11) scLterm.nd rfl (Or.inl rfl))) (fun _ _ _ _ _ => pts_nil) (fun _ _ _ _ _ => (pe_call G_law_term (hr.mono (by omega)) rfl R_law_term.m R_law_term.k R_law_term.b .nil pass0 (pa_cons (pv 0) (pa_cons (pv 1) (pa_cons (pv 2) (pa_cons (pv 11) (pa_cons (pe_op op_sub (pv 4) pe_int) pa_nil))))))))
    (pss_one (ps_ret (pe_op op_catA (pe_tup (pa_cons (pe_ix ix_list (pe_lst (pa_cons (pv 6) (pa_cons pe_str pa_nil))) (pe_callTy call_int1 (by rfl) T.m_int (by decide +kernel) (pa_cons (pe_cmpR op_eq (pv 6) pe_str (nomark _)) pa_nil)) (fun _ _ => rfl)) pa_nil)) (pe_callTy call_tuple_of (by rfl) T.m_tuple (by decide +kernel) (pa_cons (pv 10) pa_nil))))))))))))), ?_⟩
  have leafW : ∀ s5 s6 s7 s8 s9 s10 s11 : Option V, (tRet (tCall spLeaf [] E0 (tCons (tVar 0) (tCons (tVar 1) (tCons (tVar 2) tNil))))) { nx := fun x H' => Q V.non H', rt := Q }
      [some (.ref tp), some (.ref kd), some (.ref ar), some (.int room), some (.int deep), s5, s6, s7, s8, s9, s10, s11] H := by
    intro s5 s6 s7 s8 s9 s10 s11
    refine ⟨_, rfl, _, rfl, _, rfl, tp, .ref kd, ar, xs, rfl, hg.t, hw, by omega, fun a t H3 b3 t3 gd => ?_⟩
    exact q a t [] H3 ws b3.two (List.append_nil ws).symm (hg.one b3 t3) ((gd hF).le (by omega) (by omega))
  refine ⟨_, rfl, _, _, rfl, rfl, _, rfl, ?_⟩
  refine ite2 (fun c1 => ?_) (fun c1 => ?_)
  · exact leafW _ _ _ _ _ _ _
  have hroom : 2 ≤ room := by
    have : ¬ room < 2 := fun z => c1 (decide_eq_true z)
    omega
  refine ⟨_, rfl, rfl, _, rfl, ?_⟩
  refine ite2 (fun c2 => ?_) (fun c2 => ?_)
  · exact leafW _ _ _ _ _ _ _
  have hdeep : 1 ≤ deep := by
    have : deep ≠ 0 := fun z => c2 (decide_eq_true (congrArg V.int z))
    omega
  clear leafW
  -- words, word
  refine ⟨sz (by show 10 ≤ 100000; decide), fun p0 hp0 => ?_⟩
  have s0 := same_new hp0 (.lst wds10)
  have g0 := hg.same s0
  have w0 := hw.but (but_same s0) hg.t
  obtain ⟨n0t, n0w⟩ := hg.new hp0
  refine ⟨_, rfl, _, rfl, tp, 10, rfl, g0.t, by decide, by decide, fun r H1 r0 r1 b1 t1 => ?_⟩
  have g1 := g0.one b1 t1
  have w1 := w0.but b1 g0.t
  have B1 : But2 tp wl H H1 := (but2_same s0).trans b1.two
  obtain ⟨v, hv, hm⟩ := at_some (xs := wds10) r0 (by show r < 10; exact r1)
  refine ⟨p0, _, _, v, rfl, rfl, SqL.of (b1 _ _ n0t upd_same), hv, ?_⟩
  -- the rest, for each word
  have hword : ∃ wd : Str, v = .str wd ∧ (wd = "ask" ∨ wd = "tell" ∨ wd = "let" ∨ wd = "if" ∨ wd = "plus" ∨ wd = "less") := by
    simp only [wds10, List.mem_cons, List.not_mem_nil, or_false] at hm
    rcases hm with z | z | z | z | z | z | z | z | z | z
    · exact ⟨_, z, .inr (.inr (.inr (.inr (.inl rfl))))⟩
    · exact ⟨_, z, .inr (.inr (.inr (.inr (.inr rfl))))⟩
    · exact ⟨_, z, .inr (.inl rfl)⟩
    · exact ⟨_, z, .inr (.inr (.inl rfl))⟩
    · exact ⟨_, z, .inr (.inr (.inr (.inl rfl)))⟩
    · exact ⟨_, z, .inl rfl⟩
    · exact ⟨_, z, .inl rfl⟩
    · exact ⟨_, z, .inl rfl⟩
    · exact ⟨_, z, .inr (.inr (.inr (.inr (.inl rfl))))⟩
    · exact ⟨_, z, .inr (.inr (.inl rfl))⟩
  obtain ⟨wd, rfl, hwd⟩ := hword
  refine ⟨_, rfl, rfl, _, rfl, ?_⟩
  refine ite2 (fun c3 => ?_) (fun c3 => ?_)
  · -- ask
    refine ⟨_, rfl, _, rfl, _, rfl, _, rfl, _, rfl, tp, kd, wl, ar, hF, ws, xs, room, deep, rfl, g1, w1, naw, hx, hroom, hr2, hdeep, by omega, fun a t ls H3 ws3 b3 e3 g3 gd => ?_⟩
    exact q a t ls H3 ws3 (B1.trans b3) e3 g3 gd
  have nask : wd ≠ "ask" := fun z => c3 (decide_eq_true (congrArg V.str z))
  have ndeep : (deep - 1).toNat < n := by omega
  refine ⟨_, rfl, rfl, _, rfl, ?_⟩
  have tellW : ∀ s5 s6 s7 s8 s9 s10 s11 : Option V, (tRet (tTup (tCons (tC (.str "tell")) (tCons (tCall (spTerm n) [] E0 (tCons (tVar 0) (tCons (tVar 1) (tCons (tVar 2) (tCons (tOp (rI0 fun i j => .int (i - j)) (tVar 3) (tC (.int 1))) (tCons (tOp (rI0 fun i j => .int (i - j)) (tVar 4) (tC (.int 1))) tNil)))))) tNil)))) { nx := fun x H' => Q V.non H', rt := Q }
      [some (.ref tp), some (.ref kd), some (.ref ar), some (.int room), some (.int deep), s5, s6, s7, s8, s9, s10, s11] H1 := by
    intro s5 s6 s7 s8 s9 s10 s11
    refine ⟨_, rfl, _, rfl, _, rfl, _, rfl, _, _, rfl, rfl, _, rfl, _, _, rfl, rfl, tp, kd, wl, ar, hF, ws, xs, room - 1, deep - 1, rfl, g1, w1, naw, by omega, by omega, by omega, by omega, ndeep, fun a t ls H3 ws3 b3 e3 g3 gd => ?_⟩
    refine ⟨sz (by show 2 ≤ 100000; decide), fun p hp => ?_⟩
    have s4 := same_new hp (.tup [.str "tell", .ref a])
    refine q p (mkL .tell [t]) ls _ ws3 (B1.trans (b3.trans (but2_same s4))) e3 (g3.same s4) ⟨?_, ?_, ?_, ?_, ?_, ?_⟩
    · exact at_mkL (vs := [.ref a]) ⟨rfl, upd_same⟩ ⟨⟨a, rfl, gd.at_.mono s4⟩, trivial⟩
    · exact ok_mkL trivial fun u hu => by
        rw [List.mem_singleton.mp hu]
        exact gd.ok
    · rw [cnt_mkL]
      have := gd.cn
      show 1 + (cnt t + 0) ≤ _
      omega
    · exact ht_mkL (n := deep.toNat + 1) fun u hu => by
        rw [List.mem_singleton.mp hu]
        exact gd.dp.le (by omega)
    · refine sc_mkL trivial fun i u hi => ?_
      rw [List.mem_singleton.mp (mem_of_get hi)]
      exact gd.sc
    · rw [lt_mkL, letsL_cons, gd.lt]
      exact List.append_nil ls
  refine ite2 (fun c4 => ?_) (fun c4 => ?_)
  · exact tellW _ _ _ _ _ _ _
  have ntell : wd ≠ "tell" := fun z => c4 (decide_eq_true (congrArg V.str z))
  refine ⟨_, rfl, _, _, rfl, rfl, _, rfl, ?_⟩
  refine ite2 (fun c5 => ?_) (fun c5 => ?_)
  · exact tellW _ _ _ _ _ _ _
  have hroom4 : 4 ≤ room := by
    have : ¬ room < 4 := fun z => c5 (decide_eq_true z)
    omega
  clear tellW
  obtain ⟨el, hd', fs, kvs, k1, k2, k3, k4, k5, k6, k7⟩ := g1.k
  have hws := g1.w
  have hwl := g1.wn
  refine ⟨fun σ' H' => Same H1 H' ∧ σ' = [some (.ref tp), some (.ref kd), some (.ref ar), some (.int room), some (.int deep), some (.ref p0), some (.str wd), none, none, none, none, none], ?_, ?_⟩
  · -- let
    refine ⟨_, rfl, rfl, _, rfl, ?_⟩
    refine ite2 (fun c6 => ?_) (fun c6 => ⟨Same.refl _, rfl⟩)
    refine ⟨_, rfl, kd, _, rfl, get_words k1, sz (by show 0 ≤ 100000; decide), fun p1 hp1 => ?_⟩
    have s2 := same_new hp1 (.lst [])
    refine ⟨.list (ws.map PyData.str), .list [], .lst (SqL.of (s2 _ _ hws.1)) (dp_strs ws), .lst (SqL.of upd_same) .nil, shaped_strs hws.2, rfl, _, rfl, ?_⟩
    rw [eqv_nil]
    cases hnil : ws with
    | nil => exact iteF ⟨s2, rfl⟩
    | cons y0 yr =>
      rw [← hnil]
      have hne : ws ≠ [] := by
        rw [hnil]
        exact List.cons_ne_nil _ _
      have hemp : ws.isEmpty = false := by
        rw [hnil]
        rfl
      rw [hemp]
      have g2 := g1.same s2
      have w2 := w1.but (but_same s2) g1.t
      have hws2 := s2 _ _ hws.1
      generalize upd H1 p1 (.lst []) = H2 at s2 g2 w2 hws2
      have hlast : (ws.map V.str)[(ws.map V.str).length - 1]? = some (.str (ws.getLast hne)) := by
        rw [List.length_map, List.getElem?_map, ← List.getLast?_eq_getElem?, List.getLast?_eq_some_getLast hne]
        rfl
      have hxl := hws.2 _ (List.getLast_mem hne)
      have hwsx : ws = ws.dropLast ++ [ws.getLast hne] := (List.dropLast_concat_getLast hne).symm
      generalize ws.getLast hne = xl at hlast hxl hwsx
      refine iteT ⟨_, rfl, kd, _, rfl, get_words (s2 _ _ k1), .inl ⟨rfl, _, SqL.of hws2⟩, wl, _, .str xl, rfl, rfl, hws2, hlast, ?_⟩
      have eD : (ws.map V.str).dropLast = ws.dropLast.map V.str := by rw [List.map_dropLast]
      rw [eD]
      have b3 : But2 tp wl H2 (upd H2 wl (.lst (ws.dropLast.map V.str))) := fun b o _ m h => by
        rw [upd_ne m]
        exact h
      have ntw : tp ≠ wl := (wls_tp hws2 g2.t).symm
      have g3 : GS (upd H2 wl (.lst (ws.dropLast.map V.str))) tp kd wl hF ws.dropLast := g2.step b3 (by
        obtain ⟨z, hz⟩ := g2.t
        exact ⟨z, by rw [upd_ne ntw]; exact hz⟩) ⟨upd_same, fun x hx => hws.2 x ((List.dropLast_sublist ws).subset hx)⟩ (by rw [List.length_dropLast]; omega)
      have w3 := w2.two b3 g2 naw
      have B3 : But2 tp wl H (upd H2 wl (.lst (ws.dropLast.map V.str))) := B1.trans ((but2_same s2).trans b3)
      generalize upd H2 wl (.lst (ws.dropLast.map V.str)) = H3 at b3 g3 w3 B3
      refine ⟨_, rfl, _, rfl, _, _, rfl, rfl, tp, room - 1, 2, rfl, g3.t, by decide, by omega, by omega, fun sh ss H4 b4 t4 hsh h4 hsl4 hs1 hsum => ?_⟩
      obtain ⟨x0, x1, rfl⟩ := sum2 (xs := ss) (by omega)
      have hx0 := hs1 x0 List.mem_cons_self
      have hx1 := hs1 x1 (List.mem_cons_of_mem _ List.mem_cons_self)
      have esum : x0 + x1 ≤ room - 1 := by
        have e : [x0, x1].sum = x0 + (x1 + 0) := rfl
        omega
      have g4 := g3.one b4 t4
      have w4 := w3.but b4 g3.t
      obtain ⟨nht, nhw⟩ := g3.new hsh
      -- first
      refine ⟨_, rfl, _, rfl, _, rfl, _, rfl, sh, _, _, _, rfl, rfl, SqL.of h4, at0, _, rfl, _, _, rfl, rfl, tp, kd, wl, ar, hF, _, xs, x0, deep - 1, rfl, g4, w4, naw, by omega, by omega, by omega, by omega, ndeep, fun a5 t5 ls5 H5 ws5 b5 e5 g5 gd5 => ?_⟩
      have w5 := w4.two b5 g4 naw
      have h5 := b5 _ _ nht nhw h4
      refine ⟨_, rfl, _, rfl, _, rfl, _, rfl, _, rfl, _, rfl, sz (by show 1 ≤ 100000; decide), fun p6 hp6 => ?_⟩
      have s6 := same_new hp6 (.lst [.str xl])
      refine ⟨ar, p6, _, _, rfl, rfl, s6 _ _ w5.1, upd_same, sz (by rw [List.length_map]; show xs.length + 1 ≤ 100000; omega), fun p7 hp7 => ?_⟩
      have s7 := same_new hp7 (.lst (xs.map V.str ++ [.str xl]))
      have s67 := s6.trans s7
      have g7 := g5.same s67
      obtain ⟨_, n7w⟩ := (g5.same s6).new hp7
      have w7 : Wls (upd (upd H5 p6 (.lst [.str xl])) p7 (.lst (xs.map V.str ++ [.str xl]))) p7 (xs ++ [xl]) := by
        refine ⟨?_, fun x hx => ?_⟩
        · rw [upd_same, List.map_append]
          rfl
        · rcases List.mem_append.mp hx with z | z
          · exact hw.2 x z
          · rw [List.mem_singleton.mp z]
            exact hxl
      refine ⟨_, rfl, sh, _, _, _, rfl, rfl, SqL.of (s67 _ _ h5), at1, _, rfl, _, _, rfl, rfl, tp, kd, wl, p7, hF, _, xs ++ [xl], x1, deep - 1, rfl, g7, w7, n7w, ?_, by omega, by omega, by omega, ndeep, fun a8 t8 ls8 H8 ws8 b8 e8 g8 gd8 => ?_⟩
      · rw [List.length_append, List.length_singleton]
        omega
      refine ⟨sz (by show 4 ≤ 100000; decide), fun p9 hp9 => ?_⟩
      have s9 := same_new hp9 (.tup [.str "let", .str xl, .ref a5, .ref a8])
      have tk59 := (tk_same s67).trans ((g7.tk b8).trans (tk_same s9))
      refine q p9 (mkL (.lett xl) [t5, t8]) ([xl] ++ (ls5 ++ ls8)) _ ws8 (B3.trans (b4.two.trans (b5.trans ((but2_same s67).trans (b8.trans (but2_same s9)))))) ?_ (g8.same s9) ⟨?_, ?_, ?_, ?_, ?_, ?_⟩
      · rw [hwsx, e5, e8]
        simp
      · exact at_mkL (vs := [.ref a5, .ref a8]) ⟨rfl, upd_same⟩ ⟨⟨a5, rfl, gd5.at_.tk tk59⟩, ⟨a8, rfl, gd8.at_.mono s9⟩, trivial⟩
      · refine ok_mkL hxl fun u hu => ?_
        rcases List.mem_cons.mp hu with z | z
        · rw [z]
          exact gd5.ok
        · rw [List.mem_singleton.mp z]
          exact gd8.ok
      · have c5 := gd5.cn
        have c8 := gd8.cn
        rw [cnt_mkL]
        show 1 + (cnt t5 + (cnt t8 + 0)) ≤ _
        omega
      · refine ht_mkL (n := deep.toNat + 1) fun u hu => ?_
        rcases List.mem_cons.mp hu with z | z
        · rw [z]
          exact gd5.dp.le (by omega)
        · rw [List.mem_singleton.mp z]
          exact gd8.dp.le (by omega)
      · refine sc_mkL trivial fun i u hi => ?_
        match i, hi with
        | 0, hi =>
          cases (Option.some.inj hi)
          exact gd5.sc
        | 1, hi =>
          cases (Option.some.inj hi)
          exact gd8.sc
        | i + 2, hi => simp at hi
      · rw [lt_mkL, letsL_cons, letsL_cons, gd5.lt, gd8.lt]
        show [xl] ++ (ls5 ++ (ls8 ++ [])) = _
        rw [List.append_nil]
  · rintro σ' H2 ⟨s2, rfl⟩
    have g2 := g1.same s2
    have w2 := w1.but (but_same s2) g1.t
    have B2 : But2 tp wl H H2 := B1.trans (but2_same s2)
    have hx9 : wd = "let" ∨ wd = "if" ∨ wd = "plus" ∨ wd = "less" := by
      rcases hwd with z | z | z
      · exact absurd z nask
      · exact absurd z ntell
      · exact z
    refine ⟨_, rfl, _, rfl, _, _, rfl, rfl, sz (by show 2 ≤ 100000; decide), fun p3 hp3 => ?_⟩
    have s3 := same_new hp3 (.lst [.int 2, .int 3])
    have hm3 : ∃ m : Int, atI [V.int 2, .int 3] (if decide (V.str wd = V.str "if") = true then 1 else 0) = some (.int m) ∧ 2 ≤ m ∧ m ≤ 3 ∧ (wd = "if" → m = 3) ∧ (wd ≠ "if" → m = 2) := by
      by_cases c : wd = "if"
      · exact ⟨3, by rw [if_pos (decide_eq_true (congrArg V.str c))]; exact at1, by decide, by decide, fun _ => rfl, fun z => absurd c z⟩
      · exact ⟨2, by rw [if_neg (by rw [decide_eq_false fun z => c (V.str.inj z)]; exact Bool.false_ne_true)]; exact at0, by decide, by decide, fun z => absurd z c, fun _ => rfl⟩
    obtain ⟨m, hm0, hm1, hm2, hm4, hm5⟩ := hm3
    refine ⟨_, rfl, rfl, .inr ⟨_, rfl, p3, _, _, _, rfl, rfl, SqL.of upd_same, hm0, ?_⟩⟩
    refine ⟨tp, room - 1, m, rfl, g2.t.same s3, by omega, by omega, by omega, fun sh ss H4 b4 t4 hsh h4 hsl4 hs1 hsum => ?_⟩
    have g3 := g2.same s3
    have g4 := g3.one b4 t4
    have B4 : But2 tp wl H H4 := B2.trans ((but2_same s3).trans b4.two)
    have w4 := (w2.but (but_same s3) g2.t).but b4 g3.t
    obtain ⟨nht, nhw⟩ := g3.new hsh
    refine ⟨_, rfl, sh, rfl, ⟨_, SqL.of h4⟩, fun D hD => lc_list (K := K) (a := sh) (xs := ss.map V.int) (fun j H' => ∃ wsi, But2 tp wl H H' ∧ GS H' tp kd wl hF wsi ∧ Wls H' ar xs ∧ H' sh = some (.lst (ss.map V.int)) ∧ ∃ vs ts, ws = wsi ++ (letsL ts).reverse ∧ H' D = some (.lst vs) ∧ Stk H' vs ts ∧ ts.length = j ∧ (∀ t ∈ ts, okT t ∧ HtLe (deep.toNat + 1) t ∧ okS hF t xs) ∧ (cnts ts : Int) ≤ (ss.take j).sum) ?_ ?_ ?_ ?_⟩
    · have s5 := same_new hD (.lst [])
      exact ⟨ws, B4.trans (but2_same s5), g4.same s5, w4.but (but_same s5) g4.t, s5 _ _ h4, [], [], (List.append_nil ws).symm, upd_same, trivial, rfl, (fun _ z => nomatch z), by show (0 : Int) ≤ 0; decide⟩
    · rintro j H' _ ⟨_, _, _, _, h, _⟩
      exact SqL.of h
    · rintro j x H5 hx ⟨wsi, B5, g5, w5, h5, vs, ts, hws5, hD5, k5s, hlen, hts, hcn⟩
      rw [List.getElem?_map] at hx
      obtain ⟨z, hz, rfl⟩ : ∃ z, ss[j]? = some z ∧ V.int z = x := by
        cases e : ss[j]? with
        | none =>
          rw [e] at hx
          cases hx
        | some z =>
          rw [e] at hx
          exact ⟨z, rfl, Option.some.inj hx⟩
      have hzm := mem_of_get hz
      have hz1 := hs1 z hzm
      have hz2 := le_sum hs1 hzm
      have htake := sum_take hz
      obtain ⟨nDt, nDw⟩ := g4.new hD
      have hDsh : D ≠ sh := (ne_of_none h4 hD).symm
      have hDkd : D ≠ kd := by
        obtain ⟨_, _, _, _, kk, _⟩ := g4.k
        exact (ne_of_none kk hD).symm
      have hDar : ar ≠ D := ne_of_none w4.1 hD
      have hjl : j < ss.length := (List.getElem?_eq_some_iff.mp hz).1
      have hvl := k5s.len
      have hD0 : H D = none := by
        cases e : H D with
        | none => rfl
        | some o =>
          rw [B4 _ _ nDt nDw e] at hD
          cases hD
      refine ⟨rfl, ?_⟩
      dsimp only [tYes]
      refine iteT ?_
      refine ⟨_, rfl, _, rfl, _, rfl, _, rfl, _, rfl, _, _, rfl, rfl, tp, kd, wl, ar, hF, wsi, xs, z, deep - 1, rfl, g5, w5, naw, by omega, hz1, by omega, by omega, ndeep, fun a t ls H6 ws6 b6 e6 g6 gd6 => ?_⟩
      have h6D := b6 _ _ nDt nDw hD5
      have tk6 := g5.tk b6
      refine ⟨vs, h6D, Nat.lt_of_le_of_lt (m := 1000) (by omega) (by decide), ws6, (B5.trans b6).put hD0, ?_, ?_, ?_, vs ++ [.ref a], ts ++ [t], ?_, upd_same, ?_, ?_, ?_, ?_⟩
      · refine g6.put h6D nDt nDw hDkd (fun _ z => nomatch z) fun x zs z => ?_
        have e := HO.lst.inj z
        cases ts with
        | nil =>
          cases vs with
          | nil => cases e
          | cons _ _ => exact k5s.elim
        | cons t0 tr =>
          cases vs with
          | nil => cases e
          | cons v0 vr =>
            obtain ⟨⟨b0, e0', _⟩, _⟩ := k5s
            rw [e0'] at e
            cases (List.cons.inj e).1
      · have w6 := w5.two b6 g5 naw
        exact ⟨by rw [upd_ne hDar]; exact w6.1, w6.2⟩
      · rw [upd_ne hDsh.symm]
        exact b6 _ _ nht nhw h5
      · rw [hws5, e6, letsL_app, letsL_cons, gd6.lt, List.reverse_append, List.append_assoc]
        show _ = ws6 ++ ((ls ++ []).reverse ++ _)
        rw [List.append_nil]
      · exact ((k5s.tk tk6).app (us := [.ref a]) (ss := [t]) ⟨⟨a, rfl, gd6.at_⟩, trivial⟩).tk (tk_put h6D)
      · rw [List.length_append, hlen]
        rfl
      · exact stk_ok_app hts gd6.ok (gd6.dp.le (by omega)) gd6.sc
      · have c6 := gd6.cn
        rw [cnts_app, htake]
        show ((cnts ts + (cnt t + 0) : Nat) : Int) ≤ _
        omega
    · rintro H5 ⟨wsi, B5, g5, w5, h5, vs, ts, hws5, hD5, k5s, hlen, hts, hcn⟩
      rw [List.length_map] at hlen hcn
      rw [List.take_length] at hcn
      have hvl := k5s.len
      refine ⟨_, rfl, sz (by show 2 ≤ 100000; decide), fun p6 hp6 => ?_⟩
      have s6 := same_new hp6 (.lst [.str wd, .str "plus"])
      have hw6 : ∃ hx : Hd, atI [V.str wd, .str "plus"] (if decide (V.str wd = V.str "let") = true then 1 else 0) = some (.str (hs hx)) ∧ okH hx ∧ hdLets hx = [] ∧ (∀ nn ys, okN hF hx nn ys) ∧ (∀ ii ys, inn hx ii ys = ys) ∧ (∀ (H' : Hp) (p : Addr), H' p = some (.tup (.str (hs hx) :: vs)) → Lay H' p hx vs) := by
        rcases hx9 with z | z | z | z
        · subst z
          exact ⟨.plus, at1, trivial, rfl, fun _ _ => trivial, fun _ _ => rfl, fun H' p h => ⟨by rw [hvl, hlen]; have := hm5 (by decide); omega, h⟩⟩
        · subst z
          exact ⟨.iff, at0, trivial, rfl, fun _ _ => trivial, fun _ _ => rfl, fun H' p h => ⟨by rw [hvl, hlen]; have := hm4 rfl; omega, h⟩⟩
        · subst z
          exact ⟨.plus, at0, trivial, rfl, fun _ _ => trivial, fun _ _ => rfl, fun H' p h => ⟨by rw [hvl, hlen]; have := hm5 (by decide); omega, h⟩⟩
        · subst z
          exact ⟨.less, at0, trivial, rfl, fun _ _ => trivial, fun _ _ => rfl, fun H' p h => ⟨by rw [hvl, hlen]; have := hm5 (by decide); omega, h⟩⟩
      obtain ⟨hx, hxa, hxo, hxn, hxN, hxi, hxl⟩ := hw6
      refine ⟨_, rfl, rfl, .inr ⟨_, rfl, p6, _, _, _, rfl, rfl, SqL.of upd_same, hxa, sz (by show 1 ≤ 100000; decide), fun p7 hp7 => ?_⟩⟩
      have s7 := same_new hp7 (.tup [.str (hs hx)])
      have s67 := s6.trans s7
      refine ⟨_, rfl, D, _, rfl, .inl ⟨SqL.of (s67 _ _ hD5), fun p8 hp8 => ?_⟩⟩
      have s8 := same_new hp8 (.tup vs)
      have s68 := s67.trans s8
      refine catA_of (s8 _ _ upd_same) upd_same (by show 1 + vs.length ≤ 100000; omega) fun p9 H9 s9 h9 => ?_
      have s69 := s68.trans s9
      refine q p9 (mkL hx ts) (letsL ts) H9 wsi (B5.trans (but2_same s69)) hws5 (g5.same s69) ⟨?_, ?_, ?_, ?_, ?_, ?_⟩
      · exact at_mkL (hxl H9 p9 h9) (k5s.mono s69)
      · exact ok_mkL hxo fun t ht => (hts t ht).1
      · rw [cnt_mkL]
        omega
      · exact ht_mkL (n := deep.toNat + 1) fun t ht => (hts t ht).2.1
      · refine sc_mkL (hxN _ _) fun i t hi => ?_
        rw [hxi]
        exact (hts t (mem_of_get hi)).2.2
      · rw [lt_mkL, hxn]
        rfl
theorem no_term {f : Addr} {fd : FuncData} {k : Nat} : FnOk P w K mg base CX0 k f fd ["tape", "known", "around", "room", "deep"] (spTerm 0) := by
  have no : ∀ vs H Q E, ¬ spTerm 0 vs H Q E := fun vs H Q E h => by
    obtain ⟨tp, kd, wl, ar, hF, ws, xs, room, deep, _, _, _, _, _, _, _, _, h0, _⟩ := h
    omega
  exact ⟨fun vs H Q E h => absurd h (no vs H Q E), fun A outer s H args us vs Q E _ _ _ _ h => absurd h (no vs H Q E)⟩
theorem all_term (T : Txt K mg) {f fg fh fs_ fl_ fa : Addr} {fd gd hd sd ld ad : FuncData} (F : Fun K "_law_term" "_law_term" s_law_term f fd) (FA : Fun K "_law_ask" "_law_ask" s_law_ask fa ad)
    (G_law_digit : FnOk P w K mg base CX0 1 fg gd ["tape", "many"] spDig) (R_law_digit : Ref K mg "_law_digit" fg gd ["tape", "many"])
    (G_law_leaf : FnOk P w K mg base CX0 3 fh hd ["tape", "known", "around"] spLeaf) (R_law_leaf : Ref K mg "_law_leaf" fh hd ["tape", "known", "around"]) (G_law_shares : FnOk P w K mg base CX0 2 fs_ sd ["tape", "room", "many"] spShr) (R_law_shares : Ref K mg "_law_shares" fs_ sd ["tape", "room", "many"])
    (G_law_less_one : FnOk P w K mg base CX0 1 fl_ ld ["around"] spLess) (R_law_less_one : Ref K mg "_law_less_one" fl_ ld ["around"])
    (R_law_term : Ref K mg "_law_term" f fd ["tape", "known", "around", "room", "deep"]) (R_law_ask : Ref K mg "_law_ask" fa ad ["tape", "known", "around", "room", "deep"]) : ∀ n : Nat, FnOk P w K mg base CX0 (2 * n + 4) f fd ["tape", "known", "around", "room", "deep"] (spTerm n)
  | 0 => no_term
  | n + 1 => by
    have ih := all_term T F FA G_law_digit R_law_digit G_law_leaf R_law_leaf G_law_shares R_law_shares G_law_less_one R_law_less_one R_law_term R_law_ask n
    exact ok_term T F G_law_digit R_law_digit G_law_leaf R_law_leaf G_law_shares R_law_shares (ok_ask T FA G_law_digit R_law_digit G_law_leaf R_law_leaf G_law_shares R_law_shares G_law_less_one R_law_less_one ih R_law_term) R_law_ask ih R_law_term
end
end KB

namespace KB
open PySem L2

/-! ### the words that are drawn -/
def lettersS : Str := "abcdefghijklmnopqrstuvwxyz"
def sgn (i : Nat) : Str := ⟨#[97 + i % 26]⟩
def endsL : List Str := ["", "a", "omelons"]
def someL : List Str := ["give", "ask", "post", "plus", "less", "name", "number", "to", "as", "f", "x", "aq", "bq", "lets", "ifs", "ina", "homes", "q"]
def w0 (turn : Nat) (e : Str) (k : Nat) : Str := sgn (turn + k) ++ e
def w1 (turn : Nat) (k : Nat) : Str := repS (sgn (turn + k / 8)) (1 + (k : Int) % 8)
def w2 (turn : Nat) (k : Nat) : Str := someL.getD ((turn + k) % 18) ""
def good16 (f : Nat → Str) : Bool := ((List.range 16).map f).all isW && decide ((List.range 16).map f).Nodup
theorem good_w0 : ∀ turn < 26, ∀ e ∈ endsL, good16 (w0 turn e) = true := by decide +kernel
theorem good_w1 : ∀ turn < 26, good16 (w1 turn) = true := by decide +kernel
theorem good_w2 : ∀ turn < 26, good16 (w2 turn) = true := by decide +kernel
theorem good_of {f : Nat → Str} (h : good16 f = true) {n : Nat} (hn : n ≤ 16) : (∀ x ∈ (List.range n).map f, isW x = true) ∧ ((List.range n).map f).Nodup := by
  unfold good16 at h
  rw [Bool.and_eq_true] at h
  have hs : ((List.range n).map f).Sublist ((List.range 16).map f) := (List.range_sublist.mpr hn).map f
  exact ⟨fun x hx => List.all_eq_true.mp h.1 x (hs.subset hx), (of_decide_eq_true h.2).sublist hs⟩
theorem letters_at {i : Int} (h0 : 0 ≤ i) (h1 : i < 26) : atI lettersS.cps.toList i = some (97 + i.toNat) := by
  have e : lettersS.cps.toList = (List.range 26).map (97 + ·) := by decide +kernel
  rw [e]
  obtain ⟨n, rfl⟩ : ∃ n : Nat, i = (n : Int) := ⟨i.toNat, by omega⟩
  rw [Int.toNat_natCast]
  refine atI_nat ?_
  rw [List.getElem?_map, List.getElem?_range (by omega)]
  rfl
theorem range_push {f : Nat → Str} (i : Nat) : ((List.range i).map f).map V.str ++ [V.str (f i)] = ((List.range (i + 1)).map f).map V.str := by
  rw [List.range_succ, List.map_append, List.map_append]
  rfl

section
variable {P : Program} {w : World} {K : PySem.W.Frag} {mg : Str → Option Value} {base : Heap}
def spWords : Sp := fun vs H Q _ => ∃ (tp : Addr) (many : Int), vs = [.ref tp, .int many] ∧ Tp H tp ∧ 0 ≤ many ∧ many ≤ 16 ∧
  ∀ (p : Addr) (xs : List Str) (H' : Hp), But1 tp H H' → Tp H' tp → H p = none → Wls H' p xs → (xs.length : Int) = many → xs.Nodup → Q (.ref p) H'
abbrev s_law_words : Stmt := top 43
theorem scLwords : FnScope ["tape", "many", "letters", "way", "turn", "ends", "k", "some"] ["tape", "many"] (defScope s_law_words) := ⟨rfl, rfl, rfl, by decide +kernel, rfl, by decide +kernel, by decide +kernel⟩
theorem ok_words (T : Txt K mg) {f g : Addr} {fd gd : FuncData} (F : Fun K "_law_words" "_law_words" s_law_words f fd) (G_law_digit : FnOk P w K mg base CX0 1 g gd ["tape", "many"] spDig) (R_law_digit : Ref K mg "_law_digit" g gd ["tape", "many"]) : FnOk P w K mg base CX0 2 f fd ["tape", "many"] spWords := by
  refine F.ok scLwords (fun vs H Q E h => ?_) (fun cdv A outer s H vs Q E hr h => ?_)
  · obtain ⟨tp, many, rfl, _⟩ := h
    rfl
  obtain ⟨tp, many, rfl, ht, hm0, hm1, q⟩ := h
  refine ⟨_, (pss_cons (ps_set (i := 2) scLwords.nd rfl (Or.inr rfl) pe_str)
    (pss_cons (ps_set (i := 3) scLwords.nd rfl (Or.inl rfl) (pe_call G_law_digit hr rfl R_law_digit.m R_law_digit.k R_law_digit.b .nil pass0 (pa_cons (pv 0) (pa_cons pe_int pa_nil))))
    (pss_cons (ps_set (i := 4) scLwords.nd rfl (Or.inr rfl) (pe_call G_law_digit hr rfl R_law_digit.m R_law_digit.k R_law_digit.b .nil pass0 (pa_cons (pv 0) (pa_cons pe_int pa_nil))))
    (pss_cons (ps_if (pt_cmpR op_eq (pv 3) pe_int (nomark _)) (pss_cons (ps_set (i := 5) scLwords.nd rfl (Or.inr rfl) (pe_ix ix_list (pe_lst (pa_cons pe_str (pa_cons pe_str (pa_cons pe_str pa_nil)))) (pe_call G_law_digit hr rfl R_law_digit.m R_law_digit.k R_law_digit.b .nil pass0 (pa_cons (pv 0) (pa_cons pe_int pa_nil))) (fun _ _ => rfl)))
    (pss_one (ps_ret (pe_lc (own := [("k", 6)]) (g := gName 6) (by rfl) scLwords.nd (pi_range1 rfl T.m_range (pa_cons (pv 1) pa_nil)) (blkOk_by (own := [("k", 6)]) (N := ["tape", "many", "letters", "way", "turn", "ends", "k", "some"]) (sc := defScope s_law_words) (by decide +kernel)) (fun _ _ _ _ _ => (pg_name (i := 6) scLwords.nd rfl (Or.inl rfl))) (fun _ _ _ _ _ => pts_nil) (fun _ _ _ _ _ => (pe_op op_add_str (pe_ix ix_str (pv 2) (pe_op op_mod (pe_op op_add (pv 4) (pv 6)) pe_int) (fun _ _ => rfl)) (pv 5))))))) pss_nil)
    (pss_cons (ps_if (pt_cmpR op_eq (pv 3) pe_int (nomark _)) (pss_one (ps_ret (pe_lc (own := [("k", 6)]) (g := gName 6) (by rfl) scLwords.nd (pi_range1 rfl T.m_range (pa_cons (pv 1) pa_nil)) (blkOk_by (own := [("k", 6)]) (N := ["tape", "many", "letters", "way", "turn", "ends", "k", "some"]) (sc := defScope s_law_words) (by decide +kernel)) (fun _ _ _ _ _ => (pg_name (i := 6) scLwords.nd rfl (Or.inl rfl))) (fun _ _ _ _ _ => pts_nil) (fun _ _ _ _ _ => (pe_op op_mul_str (pe_ix ix_str (pv 2) (pe_op op_mod (pe_op op_add (pv 4) (pe_op op_fdiv (pv 6) pe_int)) pe_int) (fun _ _ => rfl)) (pe_op op_add pe_int (pe_op op_mod (pv 6) pe_int))))))) pss_nil)
    (pss_cons (ps_set (i := 7) scLwords.nd rfl (Or.inr rfl) (pe_lst (pa_cons pe_str (pa_cons pe_str (pa_cons pe_str (pa_cons pe_str (pa_cons pe_str (pa_cons pe_str (pa_cons pe_str (pa_cons pe_str (pa_cons pe_str (pa_cons pe_str (pa_cons pe_str pa_nil)))))))))))))
    (pss_cons (ps_set (i := 7) scLwords.nd rfl (Or.inr rfl) (pe_op op_cat (pv 7) (pe_lst (pa_cons pe_str (pa_cons pe_str (pa_cons pe_str (pa_cons pe_str (pa_cons pe_str (pa_cons pe_str (pa_cons pe_str pa_nil))))))))))
    (pss_one (ps_ret (pe_lc (own := [("k", 6)]) (g := gName 6) (te := tOp (rIxL K) (tVar 7) (tOp (rI (fun _ j => 0 < j) fun i j => .int (i % j)) (tOp (rI0 fun i j => .int (i + j)) (tVar 4) (tVar 6)) (tC (.int 18)))) (by rfl) scLwords.nd (pi_range1 rfl T.m_range (pa_cons (pv 1) pa_nil)) (blkOk_by (own := [("k", 6)]) (N := ["tape", "many", "letters", "way", "turn", "ends", "k", "some"]) (sc := defScope s_law_words) (by decide +kernel)) (fun _ _ _ _ _ => (pg_name (i := 6) scLwords.nd rfl (Or.inl rfl))) (fun _ _ _ _ _ => pts_nil) (fun _ _ _ _ _ => (pe_ix ix_list (pv 7) (pe_op op_mod (pe_op op_add (pv 4) (pv 6)) pe_int) (fun _ _ => rfl))))))))))))), ?_⟩
  have fin : ∀ (f : Nat → Str), good16 f = true → ∀ (H1 : Hp) (D : Addr) (H' : Hp), But1 tp H H1 → Tp H1 tp → H1 D = none → Same H1 H' → H' D = some (.lst (((List.range many.toNat).map f).map V.str)) → Q (.ref D) H' := by
    intro f hf H1 D H' b1 t1 hD s1 h1
    obtain ⟨e1, e2⟩ := good_of hf (n := many.toNat) (by omega)
    refine q D _ H' (b1.trans (but_same s1)) (t1.same s1) ?_ ⟨h1, e1⟩ (by rw [List.length_map, List.length_range]; omega) e2
    cases e : H D with
    | none => rfl
    | some o =>
      obtain ⟨z, hz⟩ := t1
      rw [b1 _ _ (ne_of_none hz hD).symm e] at hD
      cases hD
  refine ⟨_, rfl, tp, 3, rfl, ht, by decide, by decide, fun way H1 _ _ b1 t1 => ?_⟩
  refine ⟨_, rfl, tp, 26, rfl, t1, by decide, by decide, fun turn H2 r0 r1 b2 t2 => ?_⟩
  have b12 := b1.trans b2
  refine ⟨_, rfl, rfl, _, rfl, ?_⟩
  refine ite2 (fun c1 => ?_) (fun c1 => ?_)
  · refine ⟨sz (by show 3 ≤ 100000; decide), fun p hp => ?_⟩
    have s3 := same_new hp (.lst [.str "", .str "a", .str "omelons"])
    have np : p ≠ tp := by
      obtain ⟨z, hz⟩ := t2
      exact (ne_of_none hz hp).symm
    refine ⟨_, rfl, tp, 3, rfl, t2.same s3, by decide, by decide, fun r H3 r2 r3 b3 t3 => ?_⟩
    obtain ⟨v, hv, hm⟩ := at_some (xs := endsL.map V.str) r2 r3
    obtain ⟨e, he, rfl⟩ := List.mem_map.mp hm
    have hel : e.length ≤ 100 := by
      have : ∀ x ∈ endsL, x.length ≤ 100 := by decide +kernel
      exact this e he
    refine ⟨p, _, _, _, rfl, rfl, SqL.of (b3 _ _ np upd_same), hv, ?_⟩
    have b4 := (b12.trans (but_same s3)).trans b3
    refine ⟨_, rfl, many, rfl, by omega, by omega, fun D hD => lc_range (lo := 0) (n := many.toNat) (fun i H' => Same H3 H' ∧ H' D = some (.lst (((List.range i).map (w0 turn.toNat e)).map V.str))) ⟨same_new hD _, upd_same⟩ ?_ ?_⟩
    · rintro i H' hi ⟨s5, h5⟩
      have ei : (turn + (0 + (i : Nat))) % 26 = (((turn.toNat + i) % 26 : Nat) : Int) := by omega
      refine ⟨rfl, ?_⟩
      dsimp only [tYes]
      refine iteT ?_
      refine ⟨_, rfl, _, rfl, _, rfl, _, _, rfl, rfl, _, _, rfl, rfl, (by show (0 : Int) < 26; decide), lettersS, _, _, rfl, rfl, (by decide +kernel), letters_at (Int.emod_nonneg _ (by decide)) (Int.emod_lt_of_pos _ (by decide)), ?_⟩
      refine ⟨_, rfl, _, _, rfl, rfl, sz (by show 1 + e.length ≤ 100000; omega), ?_⟩
      refine ⟨_, h5, Nat.lt_of_le_of_lt (m := 100) (by rw [List.length_map, List.length_map, List.length_range]; omega) (by decide), same_mut s5 hD, ?_⟩
      rw [upd_same, ← range_push]
      have e9 : w0 turn.toNat e i = (⟨#[97 + ((turn + (0 + (i : Nat))) % 26).toNat]⟩ : Str) ++ e := by
        rw [ei, Int.toNat_natCast]
        rfl
      rw [e9]
    · rintro H' ⟨s5, h5⟩
      exact fin _ (good_w0 turn.toNat (by omega) e he) H3 D H' b4 t3 hD s5 h5
  refine ⟨_, rfl, rfl, _, rfl, ?_⟩
  refine ite2 (fun c2 => ?_) (fun c2 => ?_)
  · refine ⟨_, rfl, many, rfl, by omega, by omega, fun D hD => lc_range (lo := 0) (n := many.toNat) (fun i H' => Same H2 H' ∧ H' D = some (.lst (((List.range i).map (w1 turn.toNat)).map V.str))) ⟨same_new hD _, upd_same⟩ ?_ ?_⟩
    · rintro i H' hi ⟨s5, h5⟩
      have ei : (turn + (0 + (i : Nat)) / 8) % 26 = (((turn.toNat + i / 8) % 26 : Nat) : Int) := by omega
      refine ⟨rfl, ?_⟩
      dsimp only [tYes]
      refine iteT ?_
      refine ⟨_, rfl, _, rfl, _, rfl, _, _, rfl, rfl, ⟨by decide, by decide⟩, _, _, rfl, rfl, _, _, rfl, rfl, (by show (0 : Int) < 26; decide), lettersS, _, _, rfl, rfl, (by decide +kernel), letters_at (Int.emod_nonneg _ (by decide)) (Int.emod_lt_of_pos _ (by decide)), ?_⟩
      refine ⟨_, rfl, _, _, rfl, rfl, (by show (0 : Int) < 8; decide), _, _, rfl, rfl, _, _, rfl, rfl, by omega, by omega, Nat.le_refl 1, by show 1 ≤ 1000; decide, ?_⟩
      refine ⟨_, h5, Nat.lt_of_le_of_lt (m := 100) (by rw [List.length_map, List.length_map, List.length_range]; omega) (by decide), same_mut s5 hD, ?_⟩
      rw [upd_same, ← range_push]
      have e9 : w1 turn.toNat i = repS (⟨#[97 + ((turn + (0 + (i : Nat)) / 8) % 26).toNat]⟩ : Str) (1 + (0 + (i : Nat)) % 8) := by
        rw [ei, Int.toNat_natCast, Int.zero_add]
        rfl
      rw [e9]
    · rintro H' ⟨s5, h5⟩
      exact fin _ (good_w1 turn.toNat (by omega)) H2 D H' b12 t2 hD s5 h5
  · refine ⟨sz (by show 11 ≤ 100000; decide), fun p1 hp1 => ?_⟩
    have s3 := same_new hp1 (.lst ((someL.take 11).map V.str))
    refine ⟨_, rfl, sz (by show 7 ≤ 100000; decide), fun p2 hp2 => ?_⟩
    have s4 := same_new hp2 (.lst ((someL.drop 11).map V.str))
    refine ⟨p1, p2, (someL.take 11).map V.str, (someL.drop 11).map V.str, rfl, rfl, s4 _ _ upd_same, upd_same, sz (by show 18 ≤ 100000; decide), fun p3 hp3 => ?_⟩
    have s5 := same_new hp3 (.lst ((someL.take 11).map V.str ++ (someL.drop 11).map V.str))
    have s35 := s3.trans (s4.trans s5)
    have h3 : upd (upd (upd H2 p1 (.lst ((someL.take 11).map V.str))) p2 (.lst ((someL.drop 11).map V.str))) p3 (.lst ((someL.take 11).map V.str ++ (someL.drop 11).map V.str)) p3 = some (.lst (someL.map V.str)) := upd_same
    have t3 := t2.same s35
    have b3 := b12.trans (but_same s35)
    refine ⟨_, rfl, many, rfl, by omega, by omega, fun D hD => lc_range (lo := 0) (n := many.toNat) (fun i H' => Same (upd (upd (upd H2 p1 (.lst ((someL.take 11).map V.str))) p2 (.lst ((someL.drop 11).map V.str))) p3 (.lst ((someL.take 11).map V.str ++ (someL.drop 11).map V.str))) H' ∧ H' D = some (.lst (((List.range i).map (w2 turn.toNat)).map V.str))) ⟨same_new hD _, upd_same⟩ ?_ ?_⟩
    · rintro i H' hi ⟨s6, h6⟩
      have ei : (turn + (0 + (i : Nat))) % 18 = (((turn.toNat + i) % 18 : Nat) : Int) := by omega
      have hat : atI (someL.map V.str) ((turn + (0 + (i : Nat))) % 18) = some (V.str (w2 turn.toNat i)) := by
        rw [ei]
        refine atI_nat ?_
        rw [List.getElem?_map]
        unfold w2
        have hl : (turn.toNat + i) % 18 < someL.length := Nat.mod_lt _ (by decide)
        rw [List.getElem?_eq_getElem hl, List.getD_eq_getElem?_getD, List.getElem?_eq_getElem hl]
        rfl
      refine ⟨rfl, ?_⟩
      dsimp only [tYes]
      refine iteT ?_
      refine ⟨_, rfl, _, rfl, _, rfl, _, _, rfl, rfl, _, _, rfl, rfl, (by show (0 : Int) < 18; decide), p3, _, _, _, rfl, rfl, SqL.of (s6 _ _ h3), hat, ?_⟩
      refine ⟨_, h6, Nat.lt_of_le_of_lt (m := 100) (by rw [List.length_map, List.length_map, List.length_range]; omega) (by decide), same_mut s6 hD, ?_⟩
      rw [upd_same, ← range_push]
    · rintro H' ⟨s6, h6⟩
      exact fin _ (good_w2 turn.toNat (by omega)) _ D H' b3 t3 hD s6 h6
end
end KB

namespace KB
open PySem L2

section
variable {P : Program} {w : World} {K : PySem.W.Frag} {mg : Str → Option Value} {base : Heap}
/-! ### _law_body -/
def spBody : Sp := fun vs H Q _ => ∃ (tp kd wl nl : Addr) (hF : Str → Option Nat) (ws xs : List Str) (room : Int), vs = [.ref tp, .ref kd, .ref nl, .int room] ∧ GS H tp kd wl hF ws ∧ Wls H nl xs ∧ nl ≠ wl ∧ xs.length ≤ 100 ∧ 8 ≤ room ∧ room ≤ 40 ∧
  ∀ a t ls H' ws', But2 tp wl H H' → ws = ws' ++ List.reverse ls → GS H' tp kd wl hF ws' → Gd H' a room.toNat 13 hF xs ls t → Q (.ref a) H'
abbrev s_law_body : Stmt := top 50
theorem scLbody : FnScope ["tape", "known", "names", "room", "shares", "one"] ["tape", "known", "names", "room"] (defScope s_law_body) := ⟨rfl, rfl, rfl, by decide +kernel, rfl, by decide +kernel, by decide +kernel⟩
theorem ok_body (T : Txt K mg) {f fg fs_ ft : Addr} {fd gd sd td : FuncData} (F : Fun K "_law_body" "_law_body" s_law_body f fd) (G_law_digit : FnOk P w K mg base CX0 1 fg gd ["tape", "many"] spDig) (R_law_digit : Ref K mg "_law_digit" fg gd ["tape", "many"])
    (G_law_shares : FnOk P w K mg base CX0 2 fs_ sd ["tape", "room", "many"] spShr) (R_law_shares : Ref K mg "_law_shares" fs_ sd ["tape", "room", "many"])
    (G_law_term : FnOk P w K mg base CX0 28 ft td ["tape", "known", "around", "room", "deep"] (spTerm 12)) (R_law_term : Ref K mg "_law_term" ft td ["tape", "known", "around", "room", "deep"]) : FnOk P w K mg base CX0 29 f fd ["tape", "known", "names", "room"] spBody := by
  refine F.ok scLbody (fun vs H Q E h => ?_) (fun cdv A outer s H vs Q E hr h => ?_)
  · obtain ⟨tp, kd, wl, nl, hF, ws, xs, room, rfl, _⟩ := h
    rfl
  obtain ⟨tp, kd, wl, nl, hF, ws, xs, room, rfl, hg, hw, nnw, hx, hr1, hr2, q⟩ := h
  refine ⟨_, (pss_cons (ps_if (PW.pt (pw_and (pt_cmpR (op_neD hr.units) (pv 2) (pe_lst pa_nil) (nomark _)) (pw_and1 (pt_cmpR op_gt (pe_call G_law_digit (hr.mono (by omega)) rfl R_law_digit.m R_law_digit.k R_law_digit.b .nil pass0 (pa_cons (pv 0) (pa_cons pe_int pa_nil))) pe_int (nomark _))))) (pss_cons (ps_set (i := 4) scLbody.nd rfl (Or.inl rfl) (pe_call G_law_shares (hr.mono (by omega)) rfl R_law_shares.m R_law_shares.k R_law_shares.b .nil pass0 (pa_cons (pv 0) (pa_cons (pe_op op_sub (pv 3) pe_int) (pa_cons pe_int pa_nil)))))
    (pss_cons (ps_set (i := 5) scLbody.nd rfl (Or.inl rfl) (pe_call G_law_term hr rfl R_law_term.m R_law_term.k R_law_term.b .nil pass0 (pa_cons (pv 0) (pa_cons (pv 1) (pa_cons (pv 2) (pa_cons (pe_ix ix_list (pv 4) pe_int (fun _ _ => rfl)) (pa_cons pe_int pa_nil)))))))
    (pss_one (ps_ret (pe_tup (pa_cons pe_str (pa_cons (pe_tup (pa_cons pe_str (pa_cons (pe_ix ix_list (pv 2) pe_int (fun _ _ => rfl)) pa_nil))) (pa_cons (pv 5) (pa_cons (pe_call G_law_term hr rfl R_law_term.m R_law_term.k R_law_term.b .nil pass0 (pa_cons (pv 0) (pa_cons (pv 1) (pa_cons (pv 2) (pa_cons (pe_ix ix_list (pv 4) pe_int (fun _ _ => rfl)) (pa_cons pe_int pa_nil)))))) pa_nil))))))))) pss_nil)
    (pss_one (ps_ret (pe_call G_law_term hr rfl R_law_term.m R_law_term.k R_law_term.b .nil pass0 (pa_cons (pv 0) (pa_cons (pv 1) (pa_cons (pv 2) (pa_cons (pv 3) (pa_cons pe_int pa_nil))))))))), ?_⟩
  have termW : ∀ H1, But2 tp wl H H1 → GS H1 tp kd wl hF ws → Wls H1 nl xs → (tRet (tCall (spTerm 12) [] E0 (tCons (tVar 0) (tCons (tVar 1) (tCons (tVar 2) (tCons (tVar 3) (tCons (tC (.int 11)) tNil))))))) { nx := fun x H' => Q V.non H', rt := Q } [some (.ref tp), some (.ref kd), some (.ref nl), some (.int room), none, none] H1 := by
    intro H1 b1 g1 w1
    refine ⟨_, rfl, _, rfl, _, rfl, _, rfl, tp, kd, wl, nl, hF, ws, xs, room, 11, rfl, g1, w1, nnw, by omega, by omega, by omega, by decide, by decide, fun a t ls H2 ws2 b2 e2 g2 gd => ?_⟩
    exact q a t ls H2 ws2 (b1.trans b2) e2 g2 (gd.le (Nat.le_refl _) (by decide))
  refine ⟨_, rfl, sz (by show 0 ≤ 100000; decide), fun p0 hp0 => ?_⟩
  have s0 := same_new hp0 (.lst [])
  have g0 := hg.same s0
  have w0 := hw.but (but_same s0) hg.t
  refine ⟨.list (xs.map PyData.str), .list [], .lst (SqL.of w0.1) (dp_strs xs), .lst (SqL.of upd_same) .nil, shaped_strs hw.2, rfl, _, rfl, ?_⟩
  rw [eqv_nil]
  cases xs with
  | nil => exact iteF (termW _ (but2_same s0) g0 w0)
  | cons x0 xr =>
    refine iteT ⟨_, rfl, tp, 4, rfl, g0.t, by decide, by decide, fun r H1 _ _ b1 t1 => ?_⟩
    have g1 := g0.one b1 t1
    have w1 := w0.but b1 g0.t
    have B1 : But2 tp wl H H1 := (but2_same s0).trans b1.two
    refine ⟨_, _, rfl, rfl, _, rfl, ?_⟩
    refine ite2 (fun c => ?_) (fun c => ?_)
    · refine ⟨_, rfl, _, rfl, _, _, rfl, rfl, tp, room - 2, 2, rfl, g1.t, by decide, by omega, by omega, fun sh ss H4 b4 t4 hsh h4 hsl4 hs1 hsum => ?_⟩
      obtain ⟨y0, y1, rfl⟩ := sum2 (xs := ss) (by omega)
      have hx0 := hs1 y0 List.mem_cons_self
      have hx1 := hs1 y1 (List.mem_cons_of_mem _ List.mem_cons_self)
      have esum : y0 + y1 ≤ room - 2 := by
        have e : [y0, y1].sum = y0 + (y1 + 0) := rfl
        omega
      have g4 := g1.one b4 t4
      have w4 := w1.but b4 g1.t
      obtain ⟨nht, nhw⟩ := g1.new hsh
      refine ⟨_, rfl, _, rfl, _, rfl, _, rfl, sh, _, _, _, rfl, rfl, SqL.of h4, at0, tp, kd, wl, nl, hF, ws, x0 :: xr, y0, 10, rfl, g4, w4, nnw, by omega, by omega, by omega, by decide, by decide, fun a5 t5 ls5 H5 ws5 b5 e5 g5 gd5 => ?_⟩
      have w5 := w4.two b5 g4 nnw
      have h5 := b5 _ _ nht nhw h4
      refine ⟨_, rfl, nl, _, _, _, rfl, rfl, SqL.of w5.1, at0, sz (by show 2 ≤ 100000; decide), fun p6 hp6 => ?_⟩
      have s6 := same_new hp6 (.tup [.str "name", .str x0])
      have g6 := g5.same s6
      have w6 := w5.but (but_same s6) g5.t
      refine ⟨_, rfl, _, rfl, _, rfl, _, rfl, _, rfl, sh, _, _, _, rfl, rfl, SqL.of (s6 _ _ h5), at1, tp, kd, wl, nl, hF, ws5, x0 :: xr, y1, 10, rfl, g6, w6, nnw, by omega, by omega, by omega, by decide, by decide, fun a8 t8 ls8 H8 ws8 b8 e8 g8 gd8 => ?_⟩
      refine ⟨sz (by show 4 ≤ 100000; decide), fun p9 hp9 => ?_⟩
      have s9 := same_new hp9 (.tup [.str "if", .ref p6, .ref a5, .ref a8])
      have tk68 := (g6.tk b8).trans (tk_same s9)
      have tk59 := (tk_same s6).trans tk68
      have l6 : Lay _ p6 (.nam x0) [] := ⟨rfl, tk68 _ _ upd_same⟩
      have gl := gd_nam (hd := hF) (xs := x0 :: xr) l6 (hw.2 x0 List.mem_cons_self) List.mem_cons_self
      refine q p9 (mkL .iff [mkL (.nam x0) [], t5, t8]) (ls5 ++ ls8) _ ws8 (B1.trans (b4.two.trans (b5.trans ((but2_same s6).trans (b8.trans (but2_same s9)))))) (by rw [e5, e8]; simp) (g8.same s9) ⟨?_, ?_, ?_, ?_, ?_, ?_⟩
      · exact at_mkL (vs := [.ref p6, .ref a5, .ref a8]) ⟨rfl, upd_same⟩ ⟨⟨p6, rfl, gl.at_⟩, ⟨a5, rfl, gd5.at_.tk tk59⟩, ⟨a8, rfl, gd8.at_.mono s9⟩, trivial⟩
      · refine ok_mkL trivial fun u hu => ?_
        rcases List.mem_cons.mp hu with z | z
        · rw [z]
          exact gl.ok
        · rcases List.mem_cons.mp z with z | z
          · rw [z]
            exact gd5.ok
          · rw [List.mem_singleton.mp z]
            exact gd8.ok
      · have c5 := gd5.cn
        have c8 := gd8.cn
        have c6 := gl.cn
        rw [cnt_mkL]
        show 1 + (cnt (mkL (.nam x0) []) + (cnt t5 + (cnt t8 + 0))) ≤ _
        omega
      · refine ht_mkL (n := 12) fun u hu => ?_
        rcases List.mem_cons.mp hu with z | z
        · rw [z]
          exact gl.dp.le (by decide)
        · rcases List.mem_cons.mp z with z | z
          · rw [z]
            exact gd5.dp.le (by decide)
          · rw [List.mem_singleton.mp z]
            exact gd8.dp.le (by decide)
      · refine sc_mkL trivial fun i u hi => ?_
        match i, hi with
        | 0, hi =>
          cases (Option.some.inj hi)
          exact gl.sc
        | 1, hi =>
          cases (Option.some.inj hi)
          exact gd5.sc
        | 2, hi =>
          cases (Option.some.inj hi)
          exact gd8.sc
        | i + 3, hi => simp at hi
      · rw [lt_mkL, letsL_cons, letsL_cons, letsL_cons, gl.lt, gd5.lt, gd8.lt]
        show [] ++ ([] ++ (ls5 ++ (ls8 ++ []))) = _
        rw [List.append_nil]
        rfl
    · exact termW _ B1 g1 w1

/-! ### _law_book -/
/-- a book that is good -/
structure GdE (hF : Str → Option Nat) (e : Er) : Prop where
  w : isW e.1 = true
  ws : ∀ x ∈ e.2.1, isW x = true
  n4 : e.2.1.length ≤ 4
  ok : okT e.2.2
  cn : cnt e.2.2 ≤ 40
  dp : HtLe 13 e.2.2
  hf : hF e.1 = some e.2.1.length
  sc : okS hF e.2.2 e.2.1
  un : (e.2.1 ++ letsOf e.2.2).Nodup
structure GdB (es : List Er) : Prop where
  len : 1 ≤ es.length ∧ es.length ≤ 6
  nd : (es.map (·.1)).Nodup
  er : ∃ hF : Str → Option Nat, (∀ e ∈ es, GdE hF e) ∧ ∀ f n, hF f = some n → f ∈ es.map (·.1)
def hFof (fs : List Str) (kvs : List (Key × V)) (f : Str) : Option Nat :=
  if f ∈ fs then (match valV kvs (Sum.inr f) with | some (.int n) => some n.toNat | _ => none) else none
theorem hFof_at {fs : List Str} {kvs : List (Key × V)} {f : Str} {n : Int} (h : f ∈ fs) (e : valV kvs (Sum.inr f) = some (.int n)) : hFof fs kvs f = some n.toNat := by
  unfold hFof
  rw [if_pos h, e]
theorem hFof_in {fs : List Str} {kvs : List (Key × V)} {f : Str} {n : Nat} (h : hFof fs kvs f = some n) : f ∈ fs := by
  unfold hFof at h
  by_cases c : f ∈ fs
  · exact c
  · rw [if_neg c] at h
    cases h
def spBook (K : PySem.W.Frag) : Sp := fun vs H Q _ => ∃ (sc : Addr) (ns : List Int) (start : Int), vs = [.ref sc, .int start] ∧ SqL K H sc (ns.map V.int) ∧ 0 ≤ start ∧ start ≤ 100 ∧ ∀ p es us H', Same H H' → BkAt H' es us p → GdB es → Q (.ref p) H'
abbrev s_law_book : Stmt := top 51
theorem scLbook : FnScope ["script", "start", "head", "errands", "heads", "f", "room", "found", "k", "tape", "words", "names", "known"] ["script", "start"] (defScope s_law_book) := ⟨rfl, rfl, rfl, by decide +kernel, rfl, by decide +kernel, by decide +kernel⟩
theorem merge_kn (el hd wl : Addr) : mergeK [] (knD el hd wl) = knD el hd wl := by
  have e1 : ¬ ((Sum.inr "errands" : Key) = (Sum.inr "heads" : Key)) := by decide +kernel
  have e2 : ¬ ((Sum.inr "errands" : Key) = (Sum.inr "words" : Key)) := by decide +kernel
  have e3 : ¬ ((Sum.inr "heads" : Key) = (Sum.inr "words" : Key)) := by decide +kernel
  unfold mergeK knD
  simp [putK, e1, e2, e3]
theorem cut_to {xs : List V} {i : Int} (h0 : 0 ≤ i) (h : i.toNat ≤ xs.length) : cutV xs none (some i) = xs.take i.toNat := by
  unfold cutV
  rw [sIx_no, sIx_at h0 h, List.drop_zero, Nat.sub_zero]
theorem ok_book (T : Txt K mg) {f fg ft fw fb : Addr} {fd gd td wd bd : FuncData} (F : Fun K "_law_book" "_law_book" s_law_book f fd) (G_law_digit : FnOk P w K mg base CX0 1 fg gd ["tape", "many"] spDig) (R_law_digit : Ref K mg "_law_digit" fg gd ["tape", "many"])
    (G_law_tape : FnOk P w K mg base CX0 2 ft td ["script", "k"] (spTape K)) (R_law_tape : Ref K mg "_law_tape" ft td ["script", "k"]) (G_law_words : FnOk P w K mg base CX0 2 fw wd ["tape", "many"] spWords) (R_law_words : Ref K mg "_law_words" fw wd ["tape", "many"])
    (G_law_body : FnOk P w K mg base CX0 29 fb bd ["tape", "known", "names", "room"] spBody) (R_law_body : Ref K mg "_law_body" fb bd ["tape", "known", "names", "room"]) : FnOk P w K mg base CX0 30 f fd ["script", "start"] (spBook K) := by
  refine F.ok scLbook (fun vs H Q E h => ?_) (fun cdv A outer s H vs Q E hr h => ?_)
  · obtain ⟨sc, ns, start, rfl, _⟩ := h
    rfl
  obtain ⟨sc, ns, start, rfl, hS, hst0, hst1, q⟩ := h
  refine ⟨_, (pss_cons (ps_set (i := 2) scLbook.nd rfl (Or.inl rfl) (pe_call G_law_tape (hr.mono (by omega)) rfl R_law_tape.m R_law_tape.k R_law_tape.b .nil pass0 (pa_cons (pv 0) (pa_cons (pv 1) pa_nil))))
    (pss_cons (ps_set (i := 3) scLbook.nd rfl (Or.inl rfl) (pe_call G_law_words (hr.mono (by omega)) rfl R_law_words.m R_law_words.k R_law_words.b .nil pass0 (pa_cons (pv 2) (pa_cons (pe_ix ix_list (pe_lst (pa_cons pe_int (pa_cons pe_int (pa_cons pe_int (pa_cons pe_int (pa_cons pe_int (pa_cons pe_int pa_nil))))))) (pe_call G_law_digit (hr.mono (by omega)) rfl R_law_digit.m R_law_digit.k R_law_digit.b .nil pass0 (pa_cons (pv 2) (pa_cons pe_int pa_nil))) (fun _ _ => rfl)) pa_nil))))
    (pss_cons (ps_set (i := 4) scLbook.nd rfl (Or.inl rfl) pe_dnewK)
    (pss_cons (ps_for PassesOwn.never rfl (pi_list (pv 3)) (pg_name (i := 5) scLbook.nd rfl (Or.inl rfl)) (pss_one (ps_dput (hu_of hr) (pv 4) (pv 5) (pe_ix ix_list (pe_lst (pa_cons pe_int (pa_cons pe_int (pa_cons pe_int (pa_cons pe_int (pa_cons pe_int (pa_cons pe_int pa_nil))))))) (pe_call G_law_digit (hr.mono (by omega)) rfl R_law_digit.m R_law_digit.k R_law_digit.b .nil pass0 (pa_cons (pv 2) (pa_cons pe_int pa_nil))) (fun _ _ => rfl)) rfl)))
    (pss_cons (ps_set (i := 6) scLbook.nd rfl (Or.inl rfl) (pe_ix ix_list (pe_lst (pa_cons pe_int (pa_cons pe_int (pa_cons pe_int (pa_cons pe_int pa_nil))))) (pe_call G_law_digit (hr.mono (by omega)) rfl R_law_digit.m R_law_digit.k R_law_digit.b .nil pass0 (pa_cons (pv 2) (pa_cons pe_int pa_nil))) (fun _ _ => rfl)))
    (pss_cons (ps_set (i := 7) scLbook.nd rfl (Or.inl rfl) (pe_lst pa_nil))
    (pss_cons (ps_for PassesOwn.never rfl (pi_range1 rfl T.m_range (pa_cons (pe_callB call_len_seq (by rfl) T.m_len PySem.boot_len (pa_cons (pv 3) pa_nil)) pa_nil)) (pg_name (i := 8) scLbook.nd rfl (Or.inl rfl)) (pss_cons (ps_set (i := 9) scLbook.nd rfl (Or.inl rfl) (pe_call G_law_tape (hr.mono (by omega)) rfl R_law_tape.m R_law_tape.k R_law_tape.b .nil pass0 (pa_cons (pv 0) (pa_cons (pe_op op_add (pe_op op_add (pv 1) pe_int) (pv 8)) pa_nil))))
    (pss_cons (ps_set (i := 10) scLbook.nd rfl (Or.inl rfl) (pe_call G_law_words (hr.mono (by omega)) rfl R_law_words.m R_law_words.k R_law_words.b .nil pass0 (pa_cons (pv 9) (pa_cons pe_int pa_nil))))
    (pss_cons (ps_set (i := 11) scLbook.nd rfl (Or.inl rfl) (pe_slice sl_list (pv 10) po_none (po_some (pe_dget (hu_of hr) (pv 4) (pe_ix ix_list (pv 3) (pv 8) (fun _ _ => rfl)) (fun _ _ => rfl)))))
    (pss_cons (ps_set (i := 12) scLbook.nd rfl (Or.inl rfl) (pe_disp (pps_cons pe_str (pv 3) (pps_cons pe_str (pv 4) (pps_cons pe_str (pe_slice sl_list (pv 10) (po_some (pe_callB call_len_seq (by rfl) T.m_len PySem.boot_len (pa_cons (pv 11) pa_nil))) po_none) pps_nil))) (by rfl) (by rfl) (fun z => by cases z) (by decide)))
    (pss_one (ps_expr (pe_bm PySem.F.plainAttrs_list PySem.F.slot_list_append PySem.F.type_list_append mt_append (pv 7) (pa_cons (pe_tup (pa_cons (pe_ix ix_list (pv 3) (pv 8) (fun _ _ => rfl)) (pa_cons (pe_callTy call_tuple_of (by rfl) T.m_tuple (by decide +kernel) (pa_cons (pv 11) pa_nil)) (pa_cons (pe_call G_law_body hr rfl R_law_body.m R_law_body.k R_law_body.b .nil pass0 (pa_cons (pv 9) (pa_cons (pv 12) (pa_cons (pv 11) (pa_cons (pv 6) pa_nil))))) pa_nil)))) pa_nil)))))))))
    (pss_one (ps_ret (pe_callTy call_tuple_of (by rfl) T.m_tuple (by decide +kernel) (pa_cons (pv 7) pa_nil))))))))))), ?_⟩
  refine ⟨_, rfl, _, rfl, sc, ns, start, rfl, hS, hst0, by omega, fun hp z0 hhp => ?_⟩
  have s1 := same_new hhp (.lst [.int z0])
  have t1 : Tp (upd H hp (.lst [.int z0])) hp := ⟨z0, upd_same⟩
  -- errands
  refine ⟨_, rfl, sz (by show 6 ≤ 100000; decide), fun p2 hp2 => ?_⟩
  have s2 := same_new hp2 (.lst [.int 1, .int 2, .int 2, .int 3, .int 4, .int 6])
  have t2 := t1.same s2
  have n2 : p2 ≠ hp := (ne_of_none upd_same hp2).symm
  refine ⟨_, rfl, hp, 6, rfl, t2, by decide, by decide, fun r H3 r0 r1 b3 t3 => ?_⟩
  have hme : ∃ m : Int, atI [V.int 1, .int 2, .int 2, .int 3, .int 4, .int 6] r = some (.int m) ∧ 1 ≤ m ∧ m ≤ 6 := by
    obtain ⟨v, hv, hm⟩ := at_some (xs := [V.int 1, .int 2, .int 2, .int 3, .int 4, .int 6]) r0 r1
    simp only [List.mem_cons, List.not_mem_nil, or_false] at hm
    rcases hm with z | z | z | z | z | z <;> subst z <;> exact ⟨_, hv, by decide, by decide⟩
  obtain ⟨m, hma, hm1, hm6⟩ := hme
  refine ⟨p2, _, _, _, rfl, rfl, SqL.of (b3 _ _ n2 upd_same), hma, ?_⟩
  refine ⟨hp, m, rfl, t3, by omega, by omega, fun el fs H4 b4 t4 hel w4 hfl hnd => ?_⟩
  have sH3 : Same H H3 := fun b o h => b3 _ _ (ne_of_none h hhp) (s2 _ _ (s1 _ _ h))
  have sH4 : Same H H4 := fun b o h => b4 _ _ (ne_of_none h hhp) (sH3 _ _ h)
  -- heads
  intro hd hhd
  have s5 := same_new hhd (.dK [])
  have t5 := t4.same s5
  have w5 := w4.but (but_same s5) t4
  have hhd0 : H hd = none := by
    cases e : H hd with
    | none => rfl
    | some o =>
      rw [sH4 _ _ e] at hhd
      cases hhd
  have nhd : hd ≠ hp := by
    obtain ⟨z, hz⟩ := t4
    exact (ne_of_none hz hhd).symm
  have neh : el ≠ hd := ne_of_none w4.1 hhd
  have hlen6 : fs.length ≤ 6 := by omega
  have sH5 : Same H (upd H4 hd (.dK [])) := sH4.trans s5
  have h5d : upd H4 hd (.dK []) hd = some (.dK []) := upd_same
  generalize upd H4 hd (.dK []) = H5 at s5 t5 w5 sH5 h5d
  refine ⟨_, rfl, el, rfl, ⟨_, SqL.of w5.1⟩, for_list (K := K) (a := el) (xs := fs.map V.str) (fun i σ H' => ∃ o kvs, σ = [some (.ref sc), some (.int start), some (.ref hp), some (.ref el), some (.ref hd), o, none, none, none, none, none, none, none] ∧
    But2 hp hd H5 H' ∧ Tp H' hp ∧ H' hd = some (.dK kvs) ∧ kvs.length ≤ i ∧ ∀ f ∈ fs.take i, ∃ n : Int, valV kvs (Sum.inr f) = some (.int n) ∧ 0 ≤ n ∧ n ≤ 4) ?_ ?_ ?_ ?_⟩
  · refine ⟨none, [], rfl, But2.refl _ _ _, t5, h5d, Nat.le_refl _, fun f hf => ?_⟩
    rw [List.take_zero] at hf
    cases hf
  · rintro i σ H' _ ⟨o, kvs, rfl, b6, _⟩
    exact SqL.of (b6 _ _ (wls_tp w5.1 t5) neh w5.1)
  · rintro i x σ H6 hx ⟨o, kvs, rfl, b6, t6, h6, hkl, hkv⟩
    rw [List.getElem?_map] at hx
    obtain ⟨fn, hfn, rfl⟩ : ∃ fn, fs[i]? = some fn ∧ V.str fn = x := by
      cases e : fs[i]? with
      | none =>
        rw [e] at hx
        cases hx
      | some fn =>
        rw [e] at hx
        exact ⟨fn, rfl, Option.some.inj hx⟩
    obtain ⟨hi, hi2⟩ := List.getElem?_eq_some_iff.mp hfn
    refine ⟨sz (by show 6 ≤ 100000; decide), fun p7 hp7 => ?_⟩
    have s7 := same_new hp7 (.lst [.int 1, .int 2, .int 1, .int 0, .int 3, .int 4])
    have n7 : p7 ≠ hp := by
      obtain ⟨z, hz⟩ := t6
      exact (ne_of_none hz hp7).symm
    refine ⟨_, rfl, hp, 6, rfl, t6.same s7, by decide, by decide, fun r2 H8 r3 r4 b8 t8 => ?_⟩
    have hne : ∃ m : Int, atI [V.int 1, .int 2, .int 1, .int 0, .int 3, .int 4] r2 = some (.int m) ∧ 0 ≤ m ∧ m ≤ 4 := by
      obtain ⟨v, hv, hm⟩ := at_some (xs := [V.int 1, .int 2, .int 1, .int 0, .int 3, .int 4]) r3 r4
      simp only [List.mem_cons, List.not_mem_nil, or_false] at hm
      rcases hm with z | z | z | z | z | z <;> subst z <;> exact ⟨_, hv, by decide, by decide⟩
    obtain ⟨m2, hma2, hm20, hm24⟩ := hne
    have h8 : H8 hd = some (.dK kvs) := b8 _ _ nhd (s7 _ _ h6)
    refine ⟨p7, _, _, _, rfl, rfl, SqL.of (b8 _ _ n7 upd_same), hma2, _, rfl, _, rfl, hd, _, rfl, DPut.k (k := Sum.inr fn) h8 (Nat.lt_of_le_of_lt (m := 1000) (by omega) (by decide)), ?_⟩
    refine ⟨_, _, rfl, fun b o n1 n2 hb => ?_, ?_, upd_same, ?_, ?_⟩
    · rw [upd_ne n2]
      exact b8 _ _ n1 (s7 _ _ (b6 _ _ n1 n2 hb))
    · obtain ⟨z, hz⟩ := t8
      exact ⟨z, by rw [upd_ne nhd.symm]; exact hz⟩
    · have := length_putK kvs (Sum.inr fn) (V.int m2)
      omega
    · intro f' hf'
      rw [List.take_succ_eq_append_getElem hi, hi2] at hf'
      by_cases e : f' = fn
      · subst e
        exact ⟨m2, by rw [valV_put, if_pos rfl], hm20, hm24⟩
      · rcases List.mem_append.mp hf' with z | z
        · obtain ⟨n3, q1, q2, q3⟩ := hkv f' z
          refine ⟨n3, ?_, q2, q3⟩
          rw [valV_put, if_neg (fun y => e (Sum.inr.inj y))]
          exact q1
        · exact absurd (List.mem_singleton.mp z) e
  rintro σ H6 ⟨o5, kvs, rfl, b6, t6, h6, _, hkv⟩
  rw [List.length_map, List.take_length] at hkv
  have w6 : Wls H6 el fs := ⟨b6 _ _ (wls_tp w5.1 t5) neh w5.1, w5.2⟩
  have sH6 : Same H H6 := fun b o hb => b6 _ _ (ne_of_none hb hhp) (ne_of_none hb hhd0) (sH5 _ _ hb)
  -- room
  refine ⟨sz (by show 4 ≤ 100000; decide), fun p7 hp7 => ?_⟩
  have s7 := same_new hp7 (.lst [.int 8, .int 14, .int 24, .int 40])
  have n7 : p7 ≠ hp := by
    obtain ⟨z, hz⟩ := t6
    exact (ne_of_none hz hp7).symm
  refine ⟨_, rfl, hp, 4, rfl, t6.same s7, by decide, by decide, fun r2 H8 r3 r4 b8 t8 => ?_⟩
  have hre : ∃ m : Int, atI [V.int 8, .int 14, .int 24, .int 40] r2 = some (.int m) ∧ 8 ≤ m ∧ m ≤ 40 := by
    obtain ⟨v, hv, hm⟩ := at_some (xs := [V.int 8, .int 14, .int 24, .int 40]) r3 r4
    simp only [List.mem_cons, List.not_mem_nil, or_false] at hm
    rcases hm with z | z | z | z <;> subst z <;> exact ⟨_, hv, by decide, by decide⟩
  obtain ⟨room, hra, hr8, hr40⟩ := hre
  refine ⟨p7, _, _, _, rfl, rfl, SqL.of (b8 _ _ n7 upd_same), hra, ?_⟩
  have sH8 : Same H H8 := fun b o hb => b8 _ _ (ne_of_none hb hhp) (s7 _ _ (sH6 _ _ hb))
  have w8 : Wls H8 el fs := ⟨b8 _ _ (wls_tp w6.1 t6) (s7 _ _ w6.1), w6.2⟩
  have h8 : H8 hd = some (.dK kvs) := b8 _ _ nhd (s7 _ _ h6)
  have hS8 : SqL K H8 sc (ns.map V.int) := sH8.seq hS
  clear h6 w6 sH6 s7 b8 t8 hp7 b6 t6
  -- found
  refine ⟨sz (by show 0 ≤ 100000; decide), fun fl hflN => ?_⟩
  have s9 := same_new hflN (.lst [])
  refine ⟨_, rfl, el, _, rfl, .inl (SqL.of (s9 _ _ w8.1)), _, rfl, by omega, by rw [List.length_map]; omega, ?_⟩
  have hnl : (((fs.map V.str).length : Nat) : Int).toNat = fs.length := by
    rw [Int.toNat_natCast, List.length_map]
  refine for_range (lo := 0) (n := (((fs.map V.str).length : Nat) : Int).toNat) (fun i σ H' => ∃ o8 o9 o10 o11 o12 vs es, σ = [some (.ref sc), some (.int start), some (.ref hp), some (.ref el), some (.ref hd), o5, some (.int room), some (.ref fl), o8, o9, o10, o11, o12] ∧
    Same H8 H' ∧ H' fl = some (.lst vs) ∧ All2 (ErV H') es vs ∧ es.length = i ∧ es.map (·.1) = fs.take i ∧ ∀ e ∈ es, GdE (hFof fs kvs) e) ?_ ?_ ?_
  · exact ⟨_, _, _, _, _, [], [], rfl, s9, upd_same, trivial, rfl, rfl, fun _ z => nomatch z⟩
  · rintro i σ H' hi ⟨o8, o9, o10, o11, o12, vs, es, rfl, sA, hfA, kA, hel2, hnm, hgd⟩
    rw [hnl] at hi
    have hfi : fs[i]? = some fs[i] := List.getElem?_eq_getElem hi
    have hfm := List.getElem_mem hi
    generalize fs[i] = fn at hfi hfm
    have ei : (0 : Int) + (i : Nat) = ((i : Nat) : Int) := by omega
    have hat : atI (fs.map V.str) ((0 : Int) + (i : Nat)) = some (V.str fn) := by
      rw [ei]
      exact atI_nat (by rw [List.getElem?_map, hfi]; rfl)
    obtain ⟨nn, hnn, hn0, hn4⟩ := hkv fn hfm
    -- tape
    refine ⟨_, rfl, _, rfl, _, _, rfl, rfl, _, rfl, _, _, rfl, rfl, sc, ns, _, rfl, sA.seq hS8, by omega, by omega, fun tp z htp => ?_⟩
    have sB := same_new htp (.lst [.int z])
    have tB : Tp (upd H' tp (.lst [.int z])) tp := ⟨z, upd_same⟩
    refine ⟨_, rfl, tp, 16, rfl, tB, by decide, by decide, fun wp ws HC bC tC hwp wC hwl hwnd => ?_⟩
    have hwl16 : ws.length = 16 := by omega
    have sC : Same H' HC := fun b o hb => bC _ _ (ne_of_none hb htp) (sB _ _ hb)
    have wCe : Wls HC el fs := ⟨sC _ _ (sA _ _ w8.1), w8.2⟩
    have hCd : HC hd = some (.dK kvs) := sC _ _ (sA _ _ h8)
    -- names
    refine ⟨_, rfl, _, rfl, _, rfl, _, rfl, el, _, _, _, rfl, rfl, SqL.of wCe.1, hat, hd, _, rfl, get_of hCd hnn, _, rfl, wp, _, rfl, SqL.of wC.1, fun np hnp => ?_⟩
    have eN : cutV (ws.map V.str) none (some nn) = (ws.take nn.toNat).map V.str := by
      rw [cut_to hn0 (by rw [List.length_map]; omega), List.map_take]
    rw [eN]
    have sD := same_new hnp (.lst ((ws.take nn.toNat).map V.str))
    have hD : upd HC np (.lst ((ws.take nn.toNat).map V.str)) np = some (.lst ((ws.take nn.toNat).map V.str)) := upd_same
    have tD := tC.same sD
    generalize upd HC np (.lst ((ws.take nn.toNat).map V.str)) = HD at sD hD tD
    -- known
    intro kd hkd
    have sE := same_new hkd (.dK [])
    refine ⟨_, rfl, _, rfl, _, rfl, _, rfl, np, _, rfl, .inl (SqL.of (sE _ _ hD)), _, rfl, wp, _, rfl, SqL.of (sE _ _ (sD _ _ wC.1)), fun wl hwlN => ?_⟩
    have eW : cutV (ws.map V.str) (some ((((ws.take nn.toNat).map V.str).length : Nat) : Int)) none = (ws.drop nn.toNat).map V.str := by
      have e1 : ((ws.take nn.toNat).map V.str).length = nn.toNat := by
        rw [List.length_map, List.length_take]
        omega
      rw [e1, cut_from (by omega) (by rw [List.length_map]; omega), List.map_drop, Int.toNat_natCast]
    rw [eW]
    have sF := same_new hwlN (.lst ((ws.drop nn.toNat).map V.str))
    have hkF : upd (upd HD kd (.dK [])) wl (.lst ((ws.drop nn.toNat).map V.str)) kd = some (.dK []) := sF _ _ upd_same
    have hwF : upd (upd HD kd (.dK [])) wl (.lst ((ws.drop nn.toNat).map V.str)) wl = some (.lst ((ws.drop nn.toNat).map V.str)) := upd_same
    have nwk : wl ≠ kd := (ne_of_none upd_same hwlN).symm
    have nwn : np ≠ wl := ne_of_none (sE _ _ hD) hwlN
    have sDF := sE.trans sF
    have nwe : el ≠ wl := ne_of_none (sE _ _ (sD _ _ wCe.1)) hwlN
    have hwl0 : H' wl = none := by
      cases e : H' wl with
      | none => rfl
      | some o =>
        rw [sE _ _ (sD _ _ (sC _ _ e))] at hwlN
        cases hwlN
    generalize upd (upd HD kd (.dK [])) wl (.lst ((ws.drop nn.toNat).map V.str)) = HF at sDF hkF hwF
    refine ⟨hkF, knD el hd wl, rfl, by show 3 ≤ 15; decide, ?_⟩
    rw [merge_kn]
    have sG : Same HD (upd HF kd (.dK (knD el hd wl))) := fun b o hb => by
      have nb : b ≠ kd := ne_of_none hb hkd
      rw [upd_ne nb]
      exact sDF _ _ hb
    have hkG : upd HF kd (.dK (knD el hd wl)) kd = some (.dK (knD el hd wl)) := upd_same
    have hwG : upd HF kd (.dK (knD el hd wl)) wl = some (.lst ((ws.drop nn.toNat).map V.str)) := by
      rw [upd_ne nwk]
      exact hwF
    generalize upd HF kd (.dK (knD el hd wl)) = HG at sG hkG hwG
    have sCG := sD.trans sG
    have gG : GS HG tp kd wl (hFof fs kvs) (ws.drop nn.toNat) := ⟨tC.same sCG, ⟨hwG, fun x hx => wC.2 x (List.mem_of_mem_drop hx)⟩, by rw [List.length_drop]; omega,
      el, hd, fs, kvs, hkG, nwe, ⟨sCG _ _ wCe.1, wCe.2⟩, by omega, by omega, sCG _ _ hCd, fun f hf => let ⟨n, e1, e2, e3⟩ := hkv f hf; ⟨n, e1, e2, e3, hFof_at hf e1⟩⟩
    have wG : Wls HG np (ws.take nn.toNat) := ⟨sG _ _ hD, fun x hx => wC.2 x (List.mem_of_mem_take hx)⟩
    -- the errand
    refine ⟨_, rfl, .inl ⟨rfl, _, SqL.of (sCG _ _ (sC _ _ hfA))⟩, _, rfl, _, rfl, el, _, _, _, rfl, rfl, SqL.of (sCG _ _ wCe.1), hat, _, rfl, np, _, rfl, .inl ⟨SqL.of wG.1, fun tl htl => ?_⟩⟩
    have sH := same_new htl (.tup ((ws.take nn.toNat).map V.str))
    refine ⟨_, rfl, _, rfl, _, rfl, _, rfl, tp, kd, wl, np, hFof fs kvs, ws.drop nn.toNat, ws.take nn.toNat, room, rfl, gG.same sH, wG.but (but_same sH) gG.t, nwn, by rw [List.length_take]; omega, hr8, hr40, fun a t ls HI wsI bI eI gI gdI => ?_⟩
    refine ⟨sz (by show 3 ≤ 100000; decide), fun ep hep => ?_⟩
    have sJ := same_new hep (.tup [.str fn, .ref tl, .ref a])
    have tkI : TK (upd HG tl (.tup ((ws.take nn.toNat).map V.str))) HI := (gG.same sH).tk bI
    have sX : Same H' HI := fun b o hb => bI _ _ (ne_of_none hb htp) (ne_of_none hb hwl0) (sH _ _ (sCG _ _ (sC _ _ hb)))
    have sXJ := sX.trans sJ
    have hfJ := sXJ _ _ hfA
    have hvl := kA.len
    refine ⟨fl, _, _, rfl, rfl, hfJ, Nat.lt_of_le_of_lt (m := 1000) (by omega) (by decide), ?_⟩
    have tkJ := (tk_same sXJ).trans (tk_put (o := .lst (vs ++ [.ref ep])) hfJ)
    have tkP := tk_put (o := .lst (vs ++ [.ref ep])) hfJ
    refine ⟨_, _, _, _, _, vs ++ [.ref ep], es ++ [(fn, ws.take nn.toNat, t)], rfl, same_mut (sA.trans sXJ) hflN, upd_same, ?_, ?_, ?_, ?_⟩
    · refine (kA.imp fun _ _ z => z.tk tkJ).app ⟨⟨ep, tl, a, rfl, tkP _ _ upd_same, tkP _ _ (sJ _ _ (tkI _ _ upd_same)), (gdI.at_.mono sJ).tk tkP⟩, trivial⟩
    · rw [List.length_append, hel2]
      rfl
    · rw [List.map_append, hnm, List.take_succ_eq_append_getElem hi]
      have e : fs[i] = fn := by
        rw [List.getElem?_eq_getElem hi] at hfi
        exact Option.some.inj hfi
      rw [e]
      rfl
    · intro e he
      rcases List.mem_append.mp he with z | z
      · exact hgd e z
      · rw [List.mem_singleton.mp z]
        have etk : (ws.take nn.toNat).length = nn.toNat := by
          rw [List.length_take]
          omega
        refine ⟨w8.2 fn hfm, fun x hx => wC.2 x (List.mem_of_mem_take hx), by show (ws.take nn.toNat).length ≤ 4; omega, gdI.ok, ?_, gdI.dp, ?_, gdI.sc, ?_⟩
        · have := gdI.cn
          show cnt t ≤ 40
          omega
        · show hFof fs kvs fn = some (ws.take nn.toNat).length
          rw [etk]
          exact hFof_at hfm hnn
        · show (ws.take nn.toNat ++ letsOf t).Nodup
          rw [gdI.lt]
          have e9 : ws = ws.take nn.toNat ++ (wsI ++ ls.reverse) := by rw [← eI, List.take_append_drop]
          rw [e9] at hwnd
          rw [List.nodup_append] at hwnd ⊢
          obtain ⟨n1, n2, n3⟩ := hwnd
          refine ⟨n1, ?_, fun a ha b hb => n3 a ha b (List.mem_append_right _ (List.mem_reverse.mpr hb))⟩
          have n4 := (List.nodup_append.mp n2).2.1
          exact (List.reverse_perm ls).nodup_iff.mp n4
  · rintro σ H' ⟨o8, o9, o10, o11, o12, vs, es, rfl, sA, hfA, kA, hel2, hnm, hgd⟩
    rw [hnl] at hel2 hnm
    rw [List.take_length] at hnm
    refine ⟨_, rfl, fl, _, rfl, .inl ⟨SqL.of hfA, fun p hp9 => ?_⟩⟩
    have sK := same_new hp9 (.tup vs)
    refine q p es vs _ ((sH8.trans sA).trans sK) ⟨upd_same, kA.imp fun _ _ z => z.tk (tk_same sK)⟩ ⟨by omega, by rw [hnm]; exact hnd, _, hgd, fun f n hf => by rw [hnm]; exact hFof_in hf⟩
end
end KB

namespace KB
open PySem L2 HT

/-! ### del xs[a:] -/
theorem filt_take {α : Type} (sel : Nat → Bool) (a : Nat) : ∀ (xs : List α) (j : Nat), (∀ k, j ≤ k → k < j + xs.length → sel k = decide (a ≤ k)) →
    (xs.zipIdx j).filterMap (fun p => if sel p.2 = true then none else some p.1) = xs.take (a - j)
  | [], _, _ => by simp
  | x :: r, j, h => by
    have h0 := h j (Nat.le_refl _) (by rw [List.length_cons]; omega)
    have ih := filt_take sel a r (j + 1) fun k h1 h2 => h k (by omega) (by rw [List.length_cons]; omega)
    rw [List.zipIdx_cons, List.filterMap_cons]
    by_cases c : a ≤ j
    · rw [decide_eq_true c] at h0
      simp only [h0, if_true]
      rw [ih]
      have e1 : a - j = 0 := by omega
      have e2 : a - (j + 1) = 0 := by omega
      rw [e1, e2]
      rfl
    · rw [decide_eq_false c] at h0
      simp only [h0]
      rw [ih]
      have e1 : a - j = (a - (j + 1)) + 1 := by omega
      rw [e1]
      rfl
theorem bounds_from {a n : Nat} (h : a ≤ n) : sliceBounds (some (a : Int)) none none n = ((a : Int), (n : Int), 1) := by
  simp only [sliceBounds, Option.getD_none]
  have h1 : ¬ ((a : Int) < 0) := by omega
  simp only [h1, if_false, show (1 : Int) > 0 by decide, if_true]
  congr 1
  omega
section
variable {prog : Program} {w : World} {A : Around} {E : Value → Shared → Prop} {s : Shared}
theorem delItem_from {l sl : Addr} {items : Array Value} {n : Nat} {vl : Value} {a : Nat} {Q : Unit → Shared → Prop}
    (e : s.heap.get? l = some { cls := .type "list", data := .seq items n }) (hs : s.heap.IsSliceOf sl vl .none .none) (pl : IsPart vl (some (a : Int))) (ha : a ≤ items.size)
    (hsz : items.size ≤ sizeLine) (h : ∀ g : Array Value → Array Value, g items = (items.toList.take a).toArray → Q () { s with heap := s.heap.update l (Obj.mapSeq g) }) :
    wpAny (model prog w) A (delItem (.ref l) (.ref sl)) Q E s := by
  have hl : s.heap.IsList l items := PySem.IsL.isList e
  obtain ⟨os, hos, hcs, hds⟩ := id hs
  have hTs : s.TypeIs (.ref sl) "slice" := ⟨os, hos, hcs⟩
  have hstep : ¬ ((rawPart none == rawInt 0) = true) := Bool.false_ne_true
  refine wpAny_delItem_slot hl.typeIs (by decide) F.slot_list_delitem (wpAny_call_entry F.slot_list_delitem hl.typeIs F.entry_list_delitem ?_ (F.args_list_delitem_2 _ _))
  show wpAny _ _ (Builtin.List.listSubscript? (.ref sl) >>= _) _ _ s
  refine wpAny_bind ?_
  unfold Builtin.List.listSubscript?
  refine wpAny_bind (wpAny_specialOf hTs slice_no_index ?_)
  simp only [Option.isNone_none, if_true]
  refine wpAny_pure ?_
  show wpAny _ _ (typeOf (.ref sl) >>= _) _ _ s
  refine wpAny_bind (wpAny_typeOf hTs ?_)
  first
    | rw [if_neg (by decide)]
    | refine PySem.W.KFB.if_not (by decide) ?_
  rw [listSliceParts_eq]
  refine wpAny_bind (wpAny_bind (wpAny_field hos hds (x := .none) rfl (wpAny_bind (wpAny_listPart .none ?_))))
  rw [if_neg hstep]
  refine wpAny_bind (wpAny_field hos hds (x := vl) rfl (wpAny_bind (wpAny_listPart pl ?_)))
  refine wpAny_bind (wpAny_field hos hds (x := .none) rfl (wpAny_bind (wpAny_listPart .none (wpAny_pure ?_))))
  unfold Builtin.List.listItems
  refine wpAny_bind (wpAny_bind (wpAny_seqItems e rfl (wpAny_pure ?_)))
  refine wpAny_bind (wpAny_of_eq ((sliceIndices_raw (some (a : Int)) none none items.size (by simp)).trans (congrArg (pure : Int × Int × Int → Sem (Int × Int × Int)) (bounds_from ha))) ?_)
  refine wpAny_bind (wpAny_rule ?_)
  show wpAny _ _ (updateSeq l _ >>= _) _ _ s
  have hsel : ∀ (sel : Nat → Bool), (∀ k : Nat, sel k = (((a : Int) ≤ (k : Int)) && ((k : Int) < (items.size : Int)) && (((k : Int) - (a : Int)) % 1 == 0))) →
      (List.filterMap (fun p => if sel p.2 = true then none else some p.1) items.toList.zipIdx).toArray = (items.toList.take a).toArray := by
    intro sel hk
    congr 1
    refine filt_take sel a items.toList 0 fun k _ h2 => ?_
    rw [hk k]
    have h3 : (k : Int) < (items.size : Int) := by
      rw [Array.length_toList] at h2
      omega
    have h4 : (((k : Int) - (a : Int)) % 1 == 0) = true := by
      rw [Int.emod_one]
      rfl
    rw [h4, decide_eq_true h3, Bool.and_true, Bool.and_true]
    by_cases c : a ≤ k
    · rw [decide_eq_true c, decide_eq_true (by omega)]
    · rw [decide_eq_false c, decide_eq_false (by omega)]
  refine wpAny_bind (wpAny_updateSeq (hz := hsz) (_hz' := ?sz) e rfl ?_)
  case sz =>
    refine Nat.le_trans (Nat.le_of_eq (congrArg Array.size (hsel _ fun k => rfl))) ?_
    rw [List.size_toArray, List.length_take]
    omega
  refine wpAny_bind (wpAny_letGo ?_)
  exact wpAny_pure ⟨.none, rfl, h _ (hsel _ fun k => rfl)⟩
end
section
variable {X : Cx} {pos : Pos}
/-- del xs[a:] -/
def tDelFrom (to ti : TE) : TS := fun D σ H => to σ H fun x H1 => tPart ti σ H1 fun o H2 => ∃ (l : Addr) (xs : List V) (a : Nat), x = .ref l ∧ o = some (a : Int) ∧ H2 l = some (.lst xs) ∧ a ≤ xs.length ∧ D.nx σ (upd H2 l (.lst (xs.take a)))
theorem ps_delFrom {o lo : Expr} {to ti : TE} {spos tpos : Pos} (ho : PE X o to) (hi : PE X lo ti) : PS X (.Delete [.Subscript o (.Slice (some lo) none none spos) tpos] pos) (tDelFrom to ti) := by
  refine ⟨fun pins s σ H D I h => ?_⟩
  refine wpAny_Delete (wpAny_deleteEach_cons (wpAny_delete_Subscript (thn (ho.run pins s σ H _ I h) fun u s1 ⟨x, H1, I1, rx, q1⟩ => ?_)))
  refine wpAny_Slice (thn ((po_some hi).run pins s1 σ H1 _ I1 q1) fun vl s2 ⟨l', H2, I2, pl, q2⟩ => thn (po_none.run pins s2 σ H2 (fun o H3 => o = none ∧ H3 = H2) I2 ⟨rfl, rfl⟩) fun vu s3 ⟨u', H3, I3, pu, eu, eH⟩ => ?_)
  subst eu eH
  rw [evalPart_none]
  refine wpAny_pure ?_
  obtain ⟨l, xs, a, ex, eo, hH, ha, q⟩ := q2
  subst ex eo
  cases (show u = Value.ref l from rx)
  have hvu : vu = Value.none := by
    cases pu
    rfl
  subst hvu
  have I4 : Inv X pins σ H3 { s3 with heap := s3.heap.push { cls := .type "slice", data := .fields #[vl, .none, .none] } } := I3.kept (t' := s3.toks) fun b ob q => Heap.get?_push_of_some _ q
  obtain ⟨z, its, n, r, hl, e⟩ := I4.lstM hH
  refine delItem_from (a := a) e (Heap.IsSliceOf.new ..) pl (by rw [List.size_toArray, ← hl]; exact ha) (by rw [List.size_toArray, ← hl]; exact z) fun g hg => ?_
  refine wpAny_deleteEach_nil ⟨σ, _, I4.lset (its' := its.take a) (t' := s3.toks) hH e hg (r.take a) ?_, q⟩
  rw [List.length_take]
  omega
end
end KB

namespace KB
open PySem L2 HT

def kidsT : Tm → List Tm | .mk _ _ k => List.ofFn k
def hdT : Tm → Hd | .mk h _ _ => h
def lazyH : Hd → Bool | .lett _ | .iff => true | _ => false
def noT : Tm := mkL .plus []
def kid (t : Tm) (i : Nat) : Tm := ((kidsT t)[i]?).getD noT
end KB

namespace HT
open PySem PySem.Spec PyProof.Rows
section
variable {prog : Program} {w : World} {A : Around} {E : Value → Shared → Prop} {s : Shared}
theorem sliceApplied_rev {sl : Addr} {vk : Value} {n : Nat} {Q : Int × Int × Nat → Shared → Prop} (hs : s.heap.IsSliceOf sl .none .none vk) (pk : IsPart vk (some (-1)))
    (h : Q ((n : Int) - 1, -1, n) s) : wpAny (model prog w) A (Builtin.Slice.sliceApplied (.ref sl) (pure (n : Int))) Q E s := by
  obtain ⟨os, hos, hcs, hds⟩ := id hs
  unfold Builtin.Slice.sliceApplied Builtin.Slice.sliceFields
  refine wpAny_bind (wpAny_bind (wpAny_field hos hds (x := .none) rfl (wpAny_bind (wpAny_field hos hds (x := .none) rfl (wpAny_bind (wpAny_field hos hds (x := vk) rfl (wpAny_pure ?_)))))))
  refine wpAny_bind (slicePart_ pk ?_)
  show wpAny _ _ (if ((-1 : Int) == 0) = true then _ else _) _ _ s
  rw [if_neg (by decide)]
  refine wpAny_bind (slicePart_none (wpAny_bind (slicePart_none (wpAny_bind (wpAny_pure ?_)))))
  show wpAny _ _ (pure ((n : Int) - 1, (-1 : Int), Builtin.Slice.slicePlaces ((n : Int) - 1) (-1) (-1))) _ _ s
  have e : Builtin.Slice.slicePlaces ((n : Int) - 1) (-1) (-1) = n := by
    unfold Builtin.Slice.slicePlaces
    have h1 : ¬ ((-1 : Int) > 0) := by omega
    have h2 : (-(-1) : Int) = 1 := by decide
    simp only [h1, if_false, h2, Int.ediv_one]
    split <;> omega
  rw [e]
  exact wpAny_pure h
theorem pick_rev (xs : Array Value) : ((List.range xs.size).filterMap fun (m : Nat) => xs[(((xs.size : Nat) : Int) - 1 + (m : Int) * (-1)).toNat]?).toArray = xs.toList.reverse.toArray := by
  have e : (fun (m : Nat) => xs[(((xs.size : Nat) : Int) - 1 + (m : Int) * (-1)).toNat]?) = fun m => xs[xs.size - 1 - m]? := by
    funext m
    have : (((xs.size : Nat) : Int) - 1 + (m : Int) * (-1)).toNat = xs.size - 1 - m := by omega
    rw [this]
  rw [e]
  have h := PySem.W.krv_range xs.size
  have e2 : (List.range xs.size).filterMap (fun m => xs[xs.size - 1 - m]?) = ((List.range xs.size).map fun k => xs.size - 1 - k).filterMap (xs[·]?) := by
    rw [List.filterMap_map]
    rfl
  rw [e2, h, List.filterMap_reverse, PySem.W.krv_all]
theorem getItem_tuple_rev {t sl : Addr} {items : Array Value} {vk : Value} {Q : Value → Shared → Prop} (ht : IsTup s.heap t items) (hs : s.heap.IsSliceOf sl .none .none vk) (pk : IsPart vk (some (-1)))
    (h : Q (.ref s.heap.objs.size) { s with heap := s.heap.push { cls := .type "tuple", data := .seq (items.toList.reverse).toArray } })
    (hsz : items.size ≤ sizeLine) : wpAny (model prog w) A (getItem (.ref t) (.ref sl)) Q E s := by
  have htake : sizeOk (.seq (items.toList.reverse).toArray) := by
    show (items.toList.reverse).toArray.size ≤ sizeLine
    rw [List.size_toArray, List.length_reverse, Array.length_toList]
    omega
  obtain ⟨os, hos, hcs, hds⟩ := id hs
  have hTs : s.TypeIs (.ref sl) "slice" := ⟨os, hos, hcs⟩
  unfold getItem
  try with_reducible refine wpAny_holding ?_
  first | refine wpAny_bind (wpAny_pure ?_) | skip
  refine wpAny_bind (wpAny_sequenceKey ht.typeIs (by decide) ?_)
  refine wpAny_bind (wpAny_callSpecial?_slot (name := Str.ofString "__getitem__") ht.typeIs PyProof.Rows.slot_tuple_getitem
    (wpAny_call_entry PyProof.Rows.slot_tuple_getitem ht.typeIs entry_tuple_getitem ?_ (args_tuple_getitem _ _)))
  show wpAny _ _ (Builtin.Tuple.tupleItemsOf (.ref t) >>= _) _ _ s
  refine wpAny_bind (tupleItemsOf_ ht ?_)
  refine wpAny_bind (wpAny_typeOf hTs ?_)
  rw [if_pos (by decide)]
  refine wpAny_bind (sliceApplied_rev hs pk ?_)
  have hno : ¬ ((((((items.size : Nat) : Int) - 1) == 0 && (-1 : Int) == 1 && items.size == items.size)) = true) := by
    intro q
    rw [Bool.and_eq_true, Bool.and_eq_true] at q
    exact absurd (eq_of_beq q.1.2) (by decide)
  show wpAny _ _ (if ((((items.size : Nat) : Int) - 1) == 0 && (-1 : Int) == 1 && items.size == items.size) = true then _ else _) _ _ s
  rw [if_neg hno, pick_rev]
  first
    | exact wpAny_bind (m := Builtin.Tuple.tupleExact _) (wpAny_newObj_type (wpAny_pure ⟨_, rfl, wpAny_pure h⟩) htake)
    | exact wpAny_bind (m := Builtin.Tuple.tupleExact _) (wpAny_newObj_type (wpAny_bind (wpAny_pure (wpAny_pure ⟨_, rfl, wpAny_pure h⟩))) htake)
    | exact wpAny_bind (wpAny_bind (m := Builtin.Tuple.tupleExact _) (wpAny_newObj_type (wpAny_pure (wpAny_pure ⟨_, rfl, wpAny_pure h⟩)) htake))
    | exact wpAny_bind (wpAny_bind (m := Builtin.Tuple.tupleExact _) (wpAny_newObj_type (wpAny_pure ⟨_, rfl, wpAny_pure h⟩) htake))
end
end HT

namespace KB
open PySem PySem.Spec PyProof.Rows L2
/-- t[::-1] of a tuple -/
def tRevT (K : PySem.W.Frag) (te : TE) (tk : TO) : TE := fun σ H Q => te σ H fun x H1 => tk σ H1 fun k H2 => k = some (-1) ∧ ∃ a xs, x = .ref a ∧ SqT K H2 a xs ∧ ∀ p, H2 p = none → Q (.ref p) (upd H2 p (.tup xs.reverse))
theorem pe_revT {X : Cx} {e : Expr} {te : TE} {st : Option Expr} {tk : TO} {pos p2 : Pos} (he : PE X e te) (hk : PO X st tk) (hs : ∀ a c : Addr, subscripted (.Slice none none st p2) false (.ref a) (.ref c) = operate [.ref a, .ref c] (getItem (.ref a) (.ref c)) := by intro _ _; rfl) : PE X (.Subscript e (.Slice none none st p2) pos) (tRevT X.K te tk) := by
  refine ⟨fun pins s σ H Q I h => ?_⟩
  refine Subscript_ (thn (he.run pins s σ H _ I h) fun v s1 ⟨x, H1, I1, r1, q1⟩ => ?_)
  refine wpAny_Slice (thn ((po_none (X := X)).run pins s1 σ H1 (fun l H' => l = none ∧ H' = H1) I1 ⟨rfl, rfl⟩) fun vl s2 ⟨l, H2, I2, pl, q2⟩ => thn ((po_none (X := X)).run pins s2 σ H2 (fun l H' => l = none ∧ H' = H1) I2 ⟨rfl, q2.2⟩) fun vu s3 ⟨u, H3, I3, pu, q3⟩ => ?_)
  obtain ⟨rfl, e2⟩ := q2
  obtain ⟨rfl, e3⟩ := q3
  subst e3
  cases pl
  cases pu
  refine thn (hk.run pins s3 σ H3 _ I3 q1) fun vk s4 ⟨k, H4, I4, pk, q4⟩ => ?_
  obtain ⟨rfl, a, xs, rfl, hx, q⟩ := q4
  have I5 : Inv X pins σ H4 { s4 with heap := s4.heap.push { cls := .type "slice", data := .fields #[.none, .none, vk] } } := I4.kept (t' := s4.toks) fun b ob q => Heap.get?_push_of_some _ q
  cases r1
  obtain ⟨its, r, ht, hz⟩ := I5.tuple hx
  have hlen : its.toArray.size = xs.length := by rw [List.size_toArray]; exact r.length.symm
  refine tail_any (T := "tuple") (ops := [.ref a, .ref s4.heap.objs.size]) ht.typeIs PyProof.Rows.slot_tuple_getitem.lookup ?_ (hs _ _)
  refine HT.getItem_tuple_rev ht (Heap.IsSliceOf.new ..) pk ?_ (by rw [hlen]; exact hz)
  refine ⟨.ref _, _, I5.laid (t' := s4.toks) (o := .tup xs.reverse) (fun b ob q => Heap.get?_push_of_some _ q) (Nat.le_refl _) ?_, rfl, q _ (I5.hok.fresh (Nat.le_refl _))⟩
  refine ⟨by rw [List.length_reverse]; exact hz, _, ?_, IsTup.new _ _⟩
  show Vals xs.reverse its.toArray.toList.reverse
  exact r.reverse
end KB

namespace KB
open PySem L2

/-! ### parts of turned books as data -/
inductive Pt
  | give (j : Str) (t : Tm)
  | ask (f : Str) (ts : List Tm) (j : Str)
  | tell (x : Str) (t : Tm) (p : Pt)
  | lett (x : Str) (t : Tm) (p : Pt)
  | iff (t : Tm) (p q : Pt)
  | post (j x : Str) (p q : Pt)
def RefV (H : Hp) (t : Tm) (v : V) : Prop := ∃ b, v = .ref b ∧ At H t b
def PAt (H : Hp) : Pt → Addr → Prop
  | .give j t, a => ∃ b, H a = some (.tup [.str "give", .str j, .ref b]) ∧ At H t b
  | .ask f ts j, a => ∃ q vs, H a = some (.tup [.str "ask", .str f, .ref q, .str j]) ∧ H q = some (.tup vs) ∧ All2 (RefV H) ts vs
  | .tell x t p, a => ∃ b c, H a = some (.tup [.str "tell", .str x, .ref b, .ref c]) ∧ At H t b ∧ PAt H p c
  | .lett x t p, a => ∃ b c, H a = some (.tup [.str "let", .str x, .ref b, .ref c]) ∧ At H t b ∧ PAt H p c
  | .iff t p q, a => ∃ b c d, H a = some (.tup [.str "if", .ref b, .ref c, .ref d]) ∧ At H t b ∧ PAt H p c ∧ PAt H q d
  | .post j x p q, a => ∃ c d, H a = some (.tup [.str "post", .str j, .str x, .ref c, .ref d]) ∧ PAt H p c ∧ PAt H q d
theorem RefV.tk {H H' : Hp} (k : TK H H') {t : Tm} {v : V} (h : RefV H t v) : RefV H' t v := let ⟨b, e, g⟩ := h; ⟨b, e, g.tk k⟩
theorem PAt.tk {H H' : Hp} (k : TK H H') : ∀ {p : Pt} {a : Addr}, PAt H p a → PAt H' p a
  | .give j t, a, ⟨b, h1, h2⟩ => ⟨b, k _ _ h1, h2.tk k⟩
  | .ask f ts j, a, ⟨q, vs, h1, h2, h3⟩ => ⟨q, vs, k _ _ h1, k _ _ h2, h3.imp fun _ _ z => z.tk k⟩
  | .tell x t p, a, ⟨b, c, h1, h2, h3⟩ => ⟨b, c, k _ _ h1, h2.tk k, PAt.tk k h3⟩
  | .lett x t p, a, ⟨b, c, h1, h2, h3⟩ => ⟨b, c, k _ _ h1, h2.tk k, PAt.tk k h3⟩
  | .iff t p q, a, ⟨b, c, d, h1, h2, h3, h4⟩ => ⟨b, c, d, k _ _ h1, h2.tk k, PAt.tk k h3, PAt.tk k h4⟩
  | .post j x p q, a, ⟨c, d, h1, h2, h3⟩ => ⟨c, d, k _ _ h1, PAt.tk k h2, PAt.tk k h3⟩
def pcnt : Pt → Nat
  | .give _ _ => 1
  | .ask _ _ _ => 1
  | .tell _ _ p => 1 + pcnt p
  | .lett _ _ p => 1 + pcnt p
  | .iff _ p q => 1 + pcnt p + pcnt q
  | .post _ _ p q => 1 + pcnt p + pcnt q
/-! ### trees, whatever they are made of -/
def plL {N : Type} (pl : N → List (List Int × N)) : Nat → List N → List (List Int × N)
  | _, [] => []
  | j, t :: ts => (pl t).map (fun e => ((j : Int) :: e.1, e.2)) ++ plL pl (j + 1) ts
structure Tre (N : Type) where
  kids : N → List N
  sz : N → Nat
  pl : N → List (List Int × N)
  A : Hp → N → Addr → Prop
  tk : ∀ {H H' : Hp} {n : N} {a : Addr}, TK H H' → A H n a → A H' n a
  szk : ∀ n, sz n = 1 + ((kids n).map sz).sum
  plk : ∀ n, pl n = ([], n) :: plL pl 0 (kids n)
namespace Tre
variable {N : Type} (R : Tre N)
def V (H : Hp) (n : N) (v : L2.V) : Prop := ∃ b, v = .ref b ∧ R.A H n b
def szs (ns : List N) : Nat := (ns.map R.sz).sum
def pre (n : N) : List N := (R.pl n).map (·.2)
def pres (ns : List N) : List N := (ns.map R.pre).flatten
theorem V.tk {R : Tre N} {H H' : Hp} (e : TK H H') {n : N} {v : L2.V} (h : R.V H n v) : R.V H' n v := let ⟨b, e1, h1⟩ := h; ⟨b, e1, R.tk e h1⟩
theorem szs_cons (n : N) (r : List N) : R.szs (n :: r) = R.sz n + R.szs r := rfl
theorem szs_app (a b : List N) : R.szs (a ++ b) = R.szs a + R.szs b := by
  unfold szs
  rw [List.map_append, List.sum_append]
theorem pos (n : N) : 1 ≤ R.sz n := by
  rw [R.szk]
  omega
theorem len_szs : ∀ ns : List N, ns.length ≤ R.szs ns
  | [] => Nat.le_refl _
  | n :: r => by
    have h1 := R.pos n
    have h2 := len_szs r
    rw [R.szs_cons, List.length_cons]
    omega
theorem pres_cons (n : N) (r : List N) : R.pres (n :: r) = R.pre n ++ R.pres r := rfl
theorem pres_app (a b : List N) : R.pres (a ++ b) = R.pres a ++ R.pres b := by
  unfold pres
  rw [List.map_append, List.flatten_append]
theorem plL_snd : ∀ (ns : List N) (j : Nat), (plL R.pl j ns).map (·.2) = R.pres ns
  | [], _ => rfl
  | n :: r, j => by
    show ((R.pl n).map (fun e => ((j : Int) :: e.1, e.2)) ++ plL R.pl (j + 1) r).map (·.2) = R.pre n ++ R.pres r
    rw [List.map_append, plL_snd r, List.map_map]
    rfl
theorem pre_mk (n : N) : R.pre n = n :: R.pres (R.kids n) := by
  unfold pre
  rw [R.plk, List.map_cons, R.plL_snd]
theorem pl_len (m : Nat) : ∀ n, R.sz n ≤ m → (R.pl n).length = R.sz n := by
  induction m with
  | zero => intro n h; have := R.pos n; omega
  | succ m ih =>
    intro n h
    have e := R.szk n
    have go : ∀ (ns : List N) (j : Nat), R.szs ns ≤ m → (plL R.pl j ns).length = R.szs ns := by
      intro ns
      induction ns with
      | nil => intro j _; rfl
      | cons a r ihr =>
        intro j hj
        rw [R.szs_cons] at hj ⊢
        show ((R.pl a).map (fun e => ((j : Int) :: e.1, e.2)) ++ plL R.pl (j + 1) r).length = _
        rw [List.length_append, List.length_map, ihr (j + 1) (by omega), ih a (by omega)]
    rw [R.plk, List.length_cons, go (R.kids n) 0 (by show ((R.kids n).map R.sz).sum ≤ m; omega), e]
    show R.szs (R.kids n) + 1 = 1 + R.szs (R.kids n)
    omega
end Tre
section
variable {P : Program} {w : World} {K : PySem.W.Frag} {mg : Str → Option Value} {base : Heap}
/-- what a function promises that tells the parts right in a part -/
def spKids {N : Type} (R : Tre N) : Sp := fun vs H Q _ => ∃ (n : N) (a : Addr), vs = [.ref a] ∧ R.A H n a ∧ ∀ p H' us, Same H H' → H' p = some (.tup us) → All2 (R.V H') (R.kids n) us → Q (.ref p) H'
/-! ### met -/
def spMet {N : Type} (R : Tre N) (g : Addr) : Sp := fun vs H Q _ => ∃ (n : N) (a : Addr), vs = [.ref a, .ref g] ∧ R.A H n a ∧ R.sz n ≤ 1000 ∧ ∀ p H' its, H p = none → Same H H' → H' p = some (.lst its) → All2 (R.V H') (R.pre n) its → Q (.ref p) H'
abbrev smet : Stmt := top 4
theorem scmet : FnScope ["body", "parts", "found", "waiting", "part"] ["body", "parts"] (defScope smet) := ⟨rfl, rfl, rfl, by decide +kernel, rfl, by decide +kernel, by decide +kernel⟩
def MetW {N : Type} (R : Tre N) (H : Hp) (a g fl wl : Addr) (n : N) (m : Nat) (σ : St) (H' : Hp) : Prop := ∃ o fv fs rs ts, σ = [some (.ref a), some (.ref g), some (.ref fl), some (.ref wl), o] ∧ Same H H' ∧ H' fl = some (.lst fv) ∧ All2 (R.V H') fs fv ∧ H' wl = some (.lst (List.reverse rs)) ∧ All2 (R.V H') ts rs ∧ m = R.szs ts ∧ fs.length + R.szs ts ≤ 1000 ∧ fs ++ R.pres ts = R.pre n
theorem ok_met {N : Type} (R : Tre N) {k : Nat} {f g : Addr} {fd gd : FuncData} {x : Str} (F : Fun K "met" "met" smet f fd) (Gparts : FnOk P w K mg base CX0 k g gd [x] (spKids R)) (kk : PySem.W.keepIn K (.ref g) = true) (bb : Binds K gd [x] []) : FnOk P w K mg base CX0 (k + 1) f fd ["body", "parts"] (spMet R g) := by
  refine F.ok scmet (fun vs H Q E h => ?_) (fun cdv A outer s H vs Q E hr h => ?_)
  · obtain ⟨n, a, rfl, _⟩ := h
    rfl
  obtain ⟨n, a, rfl, hA, hc, q⟩ := h
  refine ⟨_, (pss_cons (ps_set (i := 2) scmet.nd rfl (Or.inl rfl) (pe_lst pa_nil))
    (pss_cons (ps_set (i := 3) scmet.nd rfl (Or.inl rfl) (pe_lst (pa_cons (pv 0) pa_nil)))
    (pss_cons (ps_while PassesOwn.never (pt_truth (pv 3) (by intro _; rfl)) (pss_cons (ps_set (i := 4) scmet.nd rfl (Or.inl rfl) (pe_bm0 PySem.F.plainAttrs_list PySem.F.slot_list_pop PySem.F.type_list_pop mt_pop (pv 3)))
    (pss_cons (ps_expr (pe_bm PySem.F.plainAttrs_list PySem.F.slot_list_append PySem.F.type_list_append mt_append (pv 2) (pa_cons (pv 4) pa_nil)))
    (pss_one (ps_expr (pe_bm PySem.F.plainAttrs_list PySem.F.slot_list_extend PySem.F.type_list_extend mt_extT (pv 3) (pa_cons (pe_revT (pe_callL (i := 1) Gparts (hr.mono (by omega)) rfl (.inl rfl) kk bb .nil pass0 (pa_cons (pv 4) pa_nil)) (po_some (pe_un un_neg pe_int))) pa_nil)))))))
    (pss_one (ps_ret (pv 2)))))), ?_⟩
  refine ⟨sz (by show 0 ≤ 100000; decide), fun fl hfl => ?_⟩
  have s0 := same_new hfl (.lst [])
  have f0 : upd H fl (.lst []) fl = some (.lst []) := upd_same
  refine ⟨_, rfl, sz (by show 1 ≤ 100000; decide), fun wl hwl => ?_⟩
  have s1 := same_new hwl (.lst [.ref a])
  have hwf : fl ≠ wl := ne_of_none f0 hwl
  have sA := s0.trans s1
  refine ⟨MetW R H a g fl wl n, ⟨_, none, [], [], [.ref a], [n], rfl, sA, s1 _ _ f0, trivial, upd_same, ⟨⟨a, rfl, R.tk (tk_same sA) hA⟩, trivial⟩, rfl, ?_, ?_⟩, ?_⟩
  · show 0 + (R.sz n + 0) ≤ 1000
    omega
  · rw [R.pres_cons]
    exact List.append_nil _
  have hw0 : H wl = none := s0.free hwl
  clear s0 f0 hwl s1 sA
  rintro m σ H1 ⟨o, fv, fs, rs, ts, rfl, s1, h1, k1, h2, k2, rfl, hm, hP⟩
  refine ⟨_, rfl, _, .inl ⟨_, SqL.of h2, rfl⟩, ?_⟩
  cases rs with
  | nil =>
    cases ts with
    | cons _ _ => exact k2.elim
    | nil =>
      refine itF rfl ⟨_, rfl, ?_⟩
      have e : fs = R.pre n := by
        rw [← hP]
        exact (List.append_nil fs).symm
      subst e
      exact q _ _ _ hfl s1 h1 k1
  | cons r rs =>
    cases ts with
    | nil => exact k2.elim
    | cons t1 ts =>
      obtain ⟨⟨b, rfl, hb⟩, k3⟩ := k2
      refine itT (by simp) ⟨fun σ' H' => ∃ m', m' < R.szs (t1 :: ts) ∧ MetW R H a g fl wl n m' σ' H', fun _ _ z => z, ?_⟩
      -- part = waiting.pop()
      refine ⟨_, rfl, .inl ⟨rfl, _, SqL.of h2⟩, wl, _, .ref b, rfl, rfl, h2, by simp, ?_⟩
      have eD : ((V.ref b :: rs).reverse).dropLast = rs.reverse := by rw [List.reverse_cons, List.dropLast_concat]
      rw [eD]
      have tk2 : TK H1 (upd H1 wl (.lst rs.reverse)) := tk_put h2
      have s2 : Same H (upd H1 wl (.lst rs.reverse)) := same_mut s1 hw0
      have w2 : upd H1 wl (.lst rs.reverse) wl = some (.lst rs.reverse) := upd_same
      have f2 : upd H1 wl (.lst rs.reverse) fl = some (.lst fv) := by
        rw [upd_ne hwf]
        exact h1
      have k4 := k1.imp fun _ _ z => Tre.V.tk tk2 z
      have k5 := k3.imp fun _ _ z => Tre.V.tk tk2 z
      have b2 := R.tk tk2 hb
      clear tk2
      generalize upd H1 wl (.lst rs.reverse) = H2 at s2 w2 f2 k4 k5 b2
      -- found.append(part)
      have hfs := k4.len
      refine ⟨_, rfl, .inl ⟨rfl, _, SqL.of f2⟩, _, rfl, fl, _, _, rfl, rfl, f2, Nat.lt_of_le_of_lt (m := 1000) (by omega) (by decide), ?_⟩
      have tk3 : TK H2 (upd H2 fl (.lst (fv ++ [.ref b]))) := tk_put f2
      have s3 : Same H (upd H2 fl (.lst (fv ++ [.ref b]))) := same_mut s2 hfl
      have f3 : upd H2 fl (.lst (fv ++ [.ref b])) fl = some (.lst (fv ++ [.ref b])) := upd_same
      have w3 : upd H2 fl (.lst (fv ++ [.ref b])) wl = some (.lst rs.reverse) := by
        rw [upd_ne (Ne.symm hwf)]
        exact w2
      have b3 := R.tk tk3 b2
      have k6 : All2 (R.V _) (fs ++ [t1]) (fv ++ [.ref b]) := (k4.imp fun _ _ z => Tre.V.tk tk3 z).app ⟨⟨b, rfl, b3⟩, trivial⟩
      have k7 := k5.imp fun _ _ z => Tre.V.tk tk3 z
      clear tk3
      generalize upd H2 fl (.lst (fv ++ [.ref b])) = H3 at s3 f3 w3 b3 k6 k7
      -- waiting.extend(parts(part)[::-1])
      have hcm : R.szs (t1 :: ts) = 1 + R.szs (R.kids t1) + R.szs ts := by
        rw [R.szs_cons, R.szk]
        rfl
      refine ⟨_, rfl, .inl ⟨rfl, _, SqL.of w3⟩, rfl, _, rfl, t1, b, rfl, b3, fun p' H4 us s5 h4 kk4 => ?_⟩
      have hlen := kk4.len
      have k8 := k7.imp fun _ _ z => Tre.V.tk (tk_same s5) z
      have hlen2 := k8.len
      have z1 := R.len_szs (R.kids t1)
      have z2 := R.len_szs ts
      refine ⟨1, rfl, -1, rfl, rfl, p', _, rfl, SqT.of h4, fun p5 hp5 => ?_⟩
      have s6 := same_new hp5 (.tup us.reverse)
      have w6 := s6 _ _ (s5 _ _ w3)
      refine ⟨wl, p5, _, _, rfl, rfl, w6, SqT.of upd_same, sz (by rw [List.length_reverse, List.length_reverse]; omega), ?_⟩
      have s7 := s5.trans s6
      have tk8 := (tk_same s6).trans (tk_put (o := .lst (rs.reverse ++ us.reverse)) w6)
      refine ⟨R.szs (R.kids t1 ++ ts), ?_, some (.ref b), fv ++ [.ref b], fs ++ [t1], us ++ rs, R.kids t1 ++ ts, rfl, same_mut (s3.trans s7) hw0, ?_, ?_, ?_, ?_, rfl, ?_, ?_⟩
      · rw [R.szs_app, hcm]
        omega
      · rw [upd_ne hwf]
        exact s7 _ _ f3
      · exact (k6.imp fun _ _ z => Tre.V.tk (tk_same s5) z).imp fun _ _ z => Tre.V.tk tk8 z
      · rw [upd_same, List.reverse_append]
      · exact (kk4.imp fun _ _ z => Tre.V.tk tk8 z).app (k8.imp fun _ _ z => Tre.V.tk tk8 z)
      · rw [List.length_append, List.length_singleton, R.szs_app]
        omega
      · rw [← hP, R.pres_app, R.pres_cons, R.pre_mk]
        simp
end
end KB

namespace KB
open PySem L2 HT

/-! ### new words -/
def digs (k : Nat) : List Nat := (if h : k / 26 = 0 then [] else digs (k / 26)) ++ [97 + k % 26]
termination_by k
decreasing_by omega
theorem digs_eq (k : Nat) : digs k = (if k / 26 = 0 then [] else digs (k / 26)) ++ [97 + k % 26] := by
  rw [digs]
  by_cases h : k / 26 = 0
  · rw [dif_pos h, if_pos h]
  · rw [dif_neg h, if_neg h]
def digs0 (k : Nat) : List Nat := if k = 0 then [] else digs k
theorem digs0_eq {k : Nat} (h : k ≠ 0) : digs0 k = digs0 (k / 26) ++ [97 + k % 26] := by
  unfold digs0
  rw [if_neg h, digs_eq]
theorem digs_digs0 (k : Nat) : digs k = digs0 (k / 26) ++ [97 + k % 26] := digs_eq k
theorem digs_inj : ∀ {a b : Nat}, digs a = digs b → a = b := by
  have go : ∀ n a b : Nat, a ≤ n → digs a = digs b → a = b := by
    intro n
    induction n with
    | zero =>
      intro a b ha h
      have h0 : a = 0 := by omega
      subst h0
      rw [digs_eq 0, digs_eq b] at h
      have h1 : ([] : List Nat) = (if b / 26 = 0 then [] else digs (b / 26)) ∧ [97] = [97 + b % 26] := List.append_inj' h rfl
      have h2 : b % 26 = 0 := by
        have := (List.cons.inj h1.2).1
        omega
      by_cases c : b / 26 = 0
      · omega
      · rw [if_neg c, digs_eq] at h1
        have := congrArg List.length h1.1
        simp at this
    | succ n ih =>
      intro a b ha h
      rw [digs_eq a, digs_eq b] at h
      have h1 := List.append_inj' h rfl
      have h2 : a % 26 = b % 26 := by
        have := (List.cons.inj h1.2).1
        omega
      have ne : ∀ k, digs k ≠ [] := fun k z => by
        rw [digs_eq] at z
        simp at z
      by_cases c : a / 26 = 0
      · by_cases d : b / 26 = 0
        · omega
        · rw [if_pos c, if_neg d] at h1
          exact absurd h1.1.symm (ne _)
      · by_cases d : b / 26 = 0
        · rw [if_neg c, if_pos d] at h1
          exact absurd h1.1 (ne _)
        · rw [if_neg c, if_neg d] at h1
          have := ih (a / 26) (b / 26) (by omega) h1.1
          omega
  intro a b h
  exact go a a b (Nat.le_refl _) h
theorem digs_len : ∀ n k : Nat, k < 26 ^ (n + 1) → (digs k).length ≤ n + 1 := by
  intro n
  induction n with
  | zero =>
    intro k h
    rw [digs_eq, if_pos (by omega)]
    exact Nat.le_refl 1
  | succ n ih =>
    intro k h
    rw [digs_eq, List.length_append, List.length_singleton]
    by_cases c : k / 26 = 0
    · rw [if_pos c]
      simp
    · rw [if_neg c]
      have := ih (k / 26) (by
        rw [Nat.pow_succ] at h
        exact Nat.div_lt_of_lt_mul (by rw [Nat.mul_comm]; exact h))
      omega
def wordOf (k : Nat) : Str := ⟨(digs k ++ [113]).toArray⟩
theorem wordOf_inj {a b : Nat} (h : wordOf a = wordOf b) : a = b := by
  have h1 : (digs a ++ [113]).toArray = (digs b ++ [113]).toArray := congrArg Str.cps h
  have h2 := congrArg Array.toList h1
  exact digs_inj (List.append_inj' h2 rfl).1
theorem pig {α : Type} [DecidableEq α] : ∀ {l l' : List α}, l.Nodup → (∀ x ∈ l, x ∈ l') → l.length ≤ l'.length
  | [], _, _, _ => Nat.zero_le _
  | x :: r, l', hn, h => by
    have hx := h x List.mem_cons_self
    obtain ⟨hn1, hn2⟩ := List.nodup_cons.mp hn
    have := pig (l := r) (l' := l'.erase x) hn2 fun y hy => (List.mem_erase_of_ne (by intro z; subst z; exact hn1 hy)).mpr (h y (List.mem_cons_of_mem _ hy))
    rw [List.length_erase_of_mem hx] at this
    have hp : 0 < l'.length := List.length_pos_of_mem hx
    rw [List.length_cons]
    omega
theorem free_word (tk : List Str) (m : Nat) : ∃ k, m ≤ k ∧ k ≤ m + tk.length ∧ wordOf k ∉ tk := by
  by_cases h : ∃ i, i < tk.length + 1 ∧ wordOf (m + i) ∉ tk
  · obtain ⟨i, h1, h2⟩ := h
    exact ⟨m + i, by omega, by omega, h2⟩
  · have hall : ∀ x ∈ (List.range (tk.length + 1)).map fun i => wordOf (m + i), x ∈ tk := fun x hx => by
      obtain ⟨i, hi, rfl⟩ := List.mem_map.mp hx
      by_cases c : wordOf (m + i) ∈ tk
      · exact c
      · exact absurd ⟨i, List.mem_range.mp hi, c⟩ h
    have hnd : ((List.range (tk.length + 1)).map fun i => wordOf (m + i)).Nodup := by
      rw [List.nodup_iff_pairwise_ne, List.pairwise_map]
      refine List.Pairwise.imp ?_ List.nodup_range
      intro a b hab z
      exact hab (by have := wordOf_inj z; omega)
    have := pig hnd hall
    rw [List.length_map, List.length_range] at this
    omega
/-- a new word, and the count behind it -/
def NwR (tk : List Str) (m : Nat) (w : Str) (m' : Nat) : Prop := ∃ k, m ≤ k ∧ k ≤ m + tk.length ∧ w = wordOf k ∧ w ∉ tk ∧ m' = k + 1 ∧ ∀ i, m ≤ i → i < k → wordOf i ∈ tk

section
variable {P : Program} {w : World} {K : PySem.W.Frag} {mg : Str → Option Value} {base : Heap}
/-! ### word_of -/
structure TxS (K : PySem.W.Frag) (mg : Str → Option Value) : Prop where
  signs : ∃ t, mg "SIGNS" = some (.str lettersS t)
  behind : ∃ t, mg "BEHIND" = some (.str "q" t)
  home : ∃ t, mg "HOME" = some (.str "home" t)
def spWordOf : Sp := fun vs H Q _ => ∃ k : Nat, vs = [.int (k : Int)] ∧ k < 26 ^ 9 ∧ Q (.str (wordOf k)) H
abbrev sword_of : Stmt := top 30
theorem scword_of : FnScope ["k", "word", "rest"] ["k"] (defScope sword_of) := ⟨rfl, rfl, rfl, by decide +kernel, rfl, by decide +kernel, by decide +kernel⟩
theorem str_cons (c : Nat) (l : List Nat) : (⟨#[c]⟩ : Str) ++ ⟨l.toArray⟩ = ⟨(c :: l).toArray⟩ := by
  show (⟨#[c] ++ l.toArray⟩ : Str) = _
  congr 1
  simp
theorem ok_wordOf (T : Txt K mg) (S : TxS K mg) {f : Addr} {fd : FuncData} (F : Fun K "word_of" "word_of" sword_of f fd) : FnOk P w K mg base CX0 1 f fd ["k"] spWordOf := by
  refine F.ok scword_of (fun vs H Q E h => ?_) (fun cdv A outer s H vs Q E hr h => ?_)
  · obtain ⟨k, rfl, _⟩ := h
    rfl
  obtain ⟨k, rfl, hk, q⟩ := h
  obtain ⟨t1, hs⟩ := S.signs
  obtain ⟨t2, hb⟩ := S.behind
  refine ⟨_, (pss_cons (ps_set (i := 1) scword_of.nd rfl (Or.inl rfl) (pe_op op_add_str (pe_ix ix_str (pe_glob (v := .str lettersS) rfl hs ⟨_, rfl⟩) (pe_op op_mod (pv 0) (pe_callB call_len (by rfl) T.m_len PySem.boot_len (pa_cons (pe_glob (v := .str lettersS) rfl hs ⟨_, rfl⟩) pa_nil))) (fun _ _ => rfl)) (pe_glob (v := .str "q") rfl hb ⟨_, rfl⟩)))
    (pss_cons (ps_set (i := 2) scword_of.nd rfl (Or.inl rfl) (pe_op op_fdivW (pv 0) (pe_callB call_len (by rfl) T.m_len PySem.boot_len (pa_cons (pe_glob (v := .str lettersS) rfl hs ⟨_, rfl⟩) pa_nil))))
    (pss_cons (ps_while PassesOwn.never (pt_cmpR op_gt (pv 2) pe_int (nomark _)) (pss_cons (ps_set (i := 1) scword_of.nd rfl (Or.inl rfl) (pe_op op_add_str (pe_ix ix_str (pe_glob (v := .str lettersS) rfl hs ⟨_, rfl⟩) (pe_op op_mod (pv 2) (pe_callB call_len (by rfl) T.m_len PySem.boot_len (pa_cons (pe_glob (v := .str lettersS) rfl hs ⟨_, rfl⟩) pa_nil))) (fun _ _ => rfl)) (pv 1)))
    (pss_one (ps_set (i := 2) scword_of.nd rfl (Or.inl rfl) (pe_op op_fdivW (pv 2) (pe_callB call_len (by rfl) T.m_len PySem.boot_len (pa_cons (pe_glob (v := .str lettersS) rfl hs ⟨_, rfl⟩) pa_nil)))))))
    (pss_one (ps_ret (pv 1)))))), ?_⟩
  have hl26 : lettersS.length = 26 := by decide +kernel
  have hd10 : (digs k ++ [113]).length ≤ 10 := by
    rw [List.length_append]
    have := digs_len 8 k hk
    show (digs k).length + 1 ≤ 10
    omega
  have lenW : LenV K (.str lettersS) H 26 := ⟨by decide +kernel, hl26.symm⟩
  refine ⟨_, rfl, _, _, rfl, lenW, _, _, rfl, rfl, (by show (0 : Int) < 26; decide), lettersS, _, _, rfl, rfl, (by decide +kernel), letters_at (Int.emod_nonneg _ (by decide)) (Int.emod_lt_of_pos _ (by decide)), _, _, rfl, rfl, sz (by show 1 + 1 ≤ 100000; decide), ?_⟩
  refine ⟨_, rfl, _, _, rfl, lenW, _, _, rfl, rfl, ⟨by decide, log_many (by decide) (by decide)⟩, ?_⟩
  refine ⟨fun m σ H' => ∃ (r : Nat) (l : List Nat), σ = [some (.int (k : Int)), some (.str ⟨l.toArray⟩), some (.int (r : Int))] ∧ H = H' ∧ r = m ∧ digs0 r ++ l = digs k ++ [113], ⟨_, k / 26, [97 + k % 26, 113], ?_, rfl, rfl, ?_⟩, ?_⟩
  · congr 3
  · rw [digs_digs0 k]
    simp
  rintro m σ H' ⟨r, l, rfl, rfl, rfl, e⟩
  refine ⟨_, rfl, _, _, rfl, rfl, _, rfl, ?_⟩
  by_cases c : r = 0
  · subst c
    refine itF (decide_eq_false (by omega)) ⟨_, rfl, ?_⟩
    have e2 : l = digs k ++ [113] := e
    rw [e2]
    exact q
  · refine itT (decide_eq_true (by omega)) ⟨fun σ' H' => ∃ m', m' < r ∧ ∃ (r' : Nat) (l : List Nat), σ' = [some (.int (k : Int)), some (.str ⟨l.toArray⟩), some (.int (r' : Int))] ∧ H = H' ∧ r' = m' ∧ digs0 r' ++ l = digs k ++ [113], fun _ _ z => z, ?_⟩
    have hll : l.length ≤ 10 := by
      have := congrArg List.length e
      rw [List.length_append] at this
      omega
    refine ⟨_, rfl, _, _, rfl, lenW, _, _, rfl, rfl, (by show (0 : Int) < 26; decide), lettersS, _, _, rfl, rfl, (by decide +kernel), letters_at (Int.emod_nonneg _ (by decide)) (Int.emod_lt_of_pos _ (by decide)), _, rfl, _, _, rfl, rfl, sz (by show 1 + l.toArray.size ≤ 100000; rw [List.size_toArray]; omega), ?_⟩
    refine ⟨_, rfl, _, _, rfl, lenW, _, _, rfl, rfl, ⟨by decide, log_many (by decide) (by decide)⟩, ?_⟩
    refine ⟨r / 26, by omega, r / 26, (97 + r % 26) :: l, ?_, rfl, rfl, ?_⟩
    · rw [str_cons]
      congr 4
    · rw [← e, digs0_eq c]
      simp
end
end KB

namespace KB
open PySem L2 HT

/-! ### the turning of a body as a machine of data -/
inductive Ld | lett (x : Str) (s : Tm) | tell (x : Str) (s : Tm) | post (j x : Str) (u : Pt)
def putAh : List Ld → Pt → Pt
  | [], p => p
  | .lett x s :: r, p => .lett x s (putAh r p)
  | .tell x s :: r, p => .tell x s (putAh r p)
  | .post j x u :: r, p => .post j x (putAh r p) u
inductive Gt | t (s : Tm) | p (q : Pt)
inductive Jb | row | done (t : Tm) (j : Str) | put (t : Tm) (x : Str) | simple (t : Tm) | known (t : Tm) | close | lett (x : Str) | tell (x : Str) | post (j x : Str)
  | ask (f : Str) (n : Nat) (j : Str) | give (j : Str) | iff | op (l : Bool)
structure Cg where
  jobs : List Jb
  rows : List (List Ld)
  got : List Gt
  m : Nat
def endJ (t : Tm) (j : Str) : List Jb :=
  match hdT t, kidsT t with
  | .ask f, ts => ts.map Jb.simple ++ [.ask f ts.length j]
  | .iff, [a, b, c] => [.simple a, .row, .done b j, .row, .done c j, .iff]
  | _, _ => [.simple t, .give j]
def doneJ (t : Tm) (j : Str) : List Jb :=
  match hdT t, kidsT t with
  | .lett x, [a, b] => [.put a x, .done b j]
  | _, _ => endJ t j ++ [.close]
def plainH : Hd → Bool
  | .ask _ | .iff | .tell | .lett _ => false
  | _ => true
def wordH : Hd → Bool
  | .ask _ | .iff => true
  | _ => false
/-- a term put under x, w a new word where one is asked for -/
def putJ (t : Tm) (x w : Str) : List Jb :=
  match hdT t, kidsT t with
  | .lett y, [a, b] => [.put a y, .put b x]
  | .ask _, _ => endJ t w ++ [.post w x]
  | .iff, _ => endJ t w ++ [.post w x]
  | .tell, [a] => [.simple a, .tell x]
  | _, _ => [.simple t, .lett x]
def simpJ (t : Tm) (w : Str) : List Jb :=
  match hdT t, kidsT t with
  | .num _, _ => [.known t]
  | .nam _, _ => [.known t]
  | .plus, [a, b] => [.simple a, .simple b, .op false]
  | .less, [a, b] => [.simple a, .simple b, .op true]
  | .lett y, [a, b] => [.put a y, .simple b]
  | _, _ => [.put t w, .known (mkL (.nam w) [])]
/-- whether simpJ asks for a new word -/
def wordS : Hd → Bool
  | .ask _ | .iff | .tell => true
  | _ => false
def mkOp (l : Bool) (a b : Tm) : Tm := mkL (if l then .less else .plus) [a, b]
/-- one job that is finished -/
inductive FinJ : Jb → List (List Ld) → List Gt → List (List Ld) → List Gt → Prop
  | row {R G} : FinJ .row R G ([] :: R) G
  | close {r R q G} : FinJ .close (r :: R) (.p q :: G) R (.p (putAh r q) :: G)
  | lett {x r R s G} : FinJ (.lett x) (r :: R) (.t s :: G) ((r ++ [.lett x s]) :: R) G
  | tell {x r R s G} : FinJ (.tell x) (r :: R) (.t s :: G) ((r ++ [.tell x s]) :: R) G
  | post {j x r R q G} : FinJ (.post j x) (r :: R) (.p q :: G) ((r ++ [.post j x q]) :: R) G
  | known {t R G} : FinJ (.known t) R G R (.t t :: G)
  | ask {f j ts R G} : FinJ (.ask f ts.length j) R ((ts.map Gt.t).reverse ++ G) R (.p (.ask f ts j) :: G)
  | give {j s R G} : FinJ (.give j) R (.t s :: G) R (.p (.give j s) :: G)
  | iff {a b c R G} : FinJ .iff R (.p c :: .p b :: .t a :: G) R (.p (.iff a b c) :: G)
  | op {l a b R G} : FinJ (.op l) R (.t b :: .t a :: G) R (.t (mkOp l a b) :: G)
/-- what comes of a row of jobs -/
inductive Run (tk : List Str) : List Jb → List (List Ld) → List Gt → Nat → List (List Ld) → List Gt → Nat → Prop
  | nil {R G m} : Run tk [] R G m R G m
  | fin {j J R G m R1 G1 R2 G2 m2} : FinJ j R G R1 G1 → Run tk J R1 G1 m R2 G2 m2 → Run tk (j :: J) R G m R2 G2 m2
  | done {t j J R G m R2 G2 m2} : Run tk (doneJ t j ++ J) R G m R2 G2 m2 → Run tk (.done t j :: J) R G m R2 G2 m2
  | put {t x w J R G m m1 R2 G2 m2} : (wordH (hdT t) = true → NwR tk m w m1) → (wordH (hdT t) = false → m1 = m) → Run tk (putJ t x w ++ J) R G m1 R2 G2 m2 → Run tk (.put t x :: J) R G m R2 G2 m2
  | simple {t w J R G m m1 R2 G2 m2} : (wordS (hdT t) = true → NwR tk m w m1) → (wordS (hdT t) = false → m1 = m) → Run tk (simpJ t w ++ J) R G m1 R2 G2 m2 → Run tk (.simple t :: J) R G m R2 G2 m2
theorem Run.split {tk : List Str} {J : List Jb} {R G m R2 G2 m2} (h : Run tk J R G m R2 G2 m2) : ∀ {J1 J2 : List Jb}, J = J1 ++ J2 → ∃ R1 G1 m1, Run tk J1 R G m R1 G1 m1 ∧ Run tk J2 R1 G1 m1 R2 G2 m2 := by
  induction h with
  | nil =>
    intro J1 J2 e
    obtain ⟨rfl, rfl⟩ := List.append_eq_nil_iff.mp e.symm
    exact ⟨_, _, _, .nil, .nil⟩
  | fin f h ih =>
    intro J1 J2 e
    cases J1 with
    | nil => subst e; exact ⟨_, _, _, .nil, .fin f h⟩
    | cons a r =>
      obtain ⟨e1, e2⟩ := List.cons.inj e
      subst e1
      obtain ⟨R1, G1, m1, a1, a2⟩ := ih e2
      exact ⟨_, _, _, .fin f a1, a2⟩
  | @done t j J R G m R2 G2 m2 h ih =>
    intro J1 J2 e
    cases J1 with
    | nil => subst e; exact ⟨_, _, _, .nil, .done h⟩
    | cons a r =>
      obtain ⟨e1, e2⟩ := List.cons.inj e
      subst e1
      obtain ⟨R1, G1, m1, a1, a2⟩ := ih (J1 := doneJ t j ++ r) (J2 := J2) (by rw [e2]; exact (List.append_assoc _ r J2).symm)
      exact ⟨_, _, _, .done a1, a2⟩
  | @put t x w J R G m m1 R2 G2 m2 h1 h2 h ih =>
    intro J1 J2 e
    cases J1 with
    | nil => subst e; exact ⟨_, _, _, .nil, .put h1 h2 h⟩
    | cons a r =>
      obtain ⟨e1, e2⟩ := List.cons.inj e
      subst e1
      obtain ⟨R1, G1, m1, a1, a2⟩ := ih (J1 := putJ t x w ++ r) (J2 := J2) (by rw [e2]; exact (List.append_assoc _ r J2).symm)
      exact ⟨_, _, _, .put h1 h2 a1, a2⟩
  | @simple t w J R G m m1 R2 G2 m2 h1 h2 h ih =>
    intro J1 J2 e
    cases J1 with
    | nil => subst e; exact ⟨_, _, _, .nil, .simple h1 h2 h⟩
    | cons a r =>
      obtain ⟨e1, e2⟩ := List.cons.inj e
      subst e1
      obtain ⟨R1, G1, m1, a1, a2⟩ := ih (J1 := simpJ t w ++ r) (J2 := J2) (by rw [e2]; exact (List.append_assoc _ r J2).symm)
      exact ⟨_, _, _, .simple h1 h2 a1, a2⟩
/-! ### how much is left to be done -/
def wS (t : Tm) : Nat := 20 * cnt t + (if wordS (hdT t) = true then 2 else 0)
def wP (t : Tm) : Nat := 20 * cnt t + (if wordS (hdT t) = true then 0 else 2)
def wD (t : Tm) : Nat := 20 * cnt t + 5
def wJ : Jb → Nat
  | .done t _ => wD t
  | .put t _ => wP t
  | .simple t => wS t
  | _ => 1
def wJs (J : List Jb) : Nat := (J.map wJ).sum
theorem wJs_cons (j : Jb) (J : List Jb) : wJs (j :: J) = wJ j + wJs J := rfl
theorem wJs_app (a b : List Jb) : wJs (a ++ b) = wJs a + wJs b := by
  unfold wJs
  rw [List.map_append, List.sum_append]
theorem wJ_pos (j : Jb) : 1 ≤ wJ j := by
  cases j with
  | done t j => show 1 ≤ 20 * cnt t + 5; omega
  | put t x => have := cnt_pos t; show 1 ≤ 20 * cnt t + _; omega
  | simple t => have := cnt_pos t; show 1 ≤ 20 * cnt t + _; omega
  | _ => exact Nat.le_refl 1
theorem len_wJs : ∀ J : List Jb, J.length ≤ wJs J
  | [] => Nat.le_refl _
  | j :: r => by
    have := len_wJs r
    have := wJ_pos j
    rw [wJs_cons, List.length_cons]
    omega
theorem cnt_kids (t : Tm) : cnt t = 1 + cnts (kidsT t) := by
  cases t with
  | mk h n k => exact cnt_mk
theorem wS_le (t : Tm) : wS t ≤ 20 * cnt t + 2 := by
  unfold wS
  split <;> omega
theorem wP_le (t : Tm) : wP t ≤ 20 * cnt t + 2 := by
  unfold wP
  split <;> omega
theorem w_simples : ∀ ts : List Tm, wJs (ts.map Jb.simple) ≤ 20 * cnts ts + 2 * ts.length
  | [] => Nat.le_refl _
  | t :: r => by
    have := w_simples r
    have := wS_le t
    rw [List.map_cons, wJs_cons, cnts_cons, List.length_cons]
    show wS t + _ ≤ _
    omega
/-- the number of parts that a term of this kind has -/
def arH : Hd → Nat → Prop
  | .num _, n => n = 0
  | .nam _, n => n = 0
  | .plus, n => n = 2
  | .less, n => n = 2
  | .tell, n => n = 1
  | .lett _, n => n = 2
  | .iff, n => n = 3
  | .ask _, n => n ≤ 4
def arN (t : Tm) : Prop := arH (hdT t) (kidsT t).length
theorem Lay.ar {H : Hp} {a : Addr} {h : Hd} {xs : List V} (l : Lay H a h xs) : arH h xs.length := by
  cases h with
  | num z => rw [l.1]; rfl
  | nam z => rw [l.1]; rfl
  | ask f => exact l.1
  | _ => exact l.1
theorem two_of {α : Type} {l : List α} (h : l.length = 2) : ∃ a b, l = [a, b] := by
  match l, h with
  | [a, b], _ => exact ⟨a, b, rfl⟩
theorem three_of {α : Type} {l : List α} (h : l.length = 3) : ∃ a b c, l = [a, b, c] := by
  match l, h with
  | [a, b, c], _ => exact ⟨a, b, c, rfl⟩
theorem one_of {α : Type} {l : List α} (h : l.length = 1) : ∃ a, l = [a] := by
  match l, h with
  | [a], _ => exact ⟨a, rfl⟩
theorem w_end (t : Tm) (j : Str) (h : arN t) : wJs (endJ t j) ≤ 20 * cnt t + 3 ∧ (wordH (hdT t) = true → wJs (endJ t j) + 3 ≤ 20 * cnt t) := by
  have hc := cnt_kids t
  unfold arN at h
  unfold endJ
  cases hh : hdT t with
  | ask f =>
    rw [hh] at h
    have h4 : (kidsT t).length ≤ 4 := h
    have := w_simples (kidsT t)
    show wJs ((kidsT t).map Jb.simple ++ [.ask f (kidsT t).length j]) ≤ _ ∧ (_ → wJs ((kidsT t).map Jb.simple ++ [.ask f (kidsT t).length j]) + 3 ≤ _)
    rw [wJs_app]
    have e : wJs [Jb.ask f (kidsT t).length j] = 1 := rfl
    omega
  | iff =>
    rw [hh] at h
    obtain ⟨a, b, c, e⟩ := three_of (show (kidsT t).length = 3 from h)
    rw [e] at hc ⊢
    have e2 : cnts [a, b, c] = cnt a + (cnt b + (cnt c + 0)) := rfl
    have := wS_le a
    show (wS a + (1 + (wD b + (1 + (wD c + (1 + 0)))))) ≤ _ ∧ (_ → (wS a + (1 + (wD b + (1 + (wD c + (1 + 0)))))) + 3 ≤ _)
    unfold wD
    omega
  | _ =>
    have := wS_le t
    refine ⟨?_, fun z => nomatch z⟩
    show wS t + (1 + 0) ≤ _
    omega
theorem w_done (t : Tm) (j : Str) (h : arN t) : wJs (doneJ t j) < wD t := by
  have he := w_end t j h
  have hc := cnt_kids t
  unfold doneJ wD
  unfold arN at h
  cases hh : hdT t with
  | lett x =>
    rw [hh] at h
    obtain ⟨a, b, e⟩ := two_of (show (kidsT t).length = 2 from h)
    rw [e] at hc ⊢
    have e2 : cnts [a, b] = cnt a + (cnt b + 0) := rfl
    have := wP_le a
    show wP a + (wD b + 0) < _
    unfold wD
    omega
  | _ =>
    show wJs (endJ t j ++ [.close]) < _
    rw [wJs_app]
    have e : wJs [Jb.close] = 1 := rfl
    omega
theorem w_put (t : Tm) (x w : Str) (h : arN t) : wJs (putJ t x w) < wP t := by
  have he := w_end t w h
  have hc := cnt_kids t
  unfold arN at h
  unfold putJ
  cases hh : hdT t with
  | lett y =>
    rw [hh] at h
    obtain ⟨a, b, e⟩ := two_of (show (kidsT t).length = 2 from h)
    rw [e] at hc ⊢
    have e2 : cnts [a, b] = cnt a + (cnt b + 0) := rfl
    have := wP_le a
    have := wP_le b
    have e3 : wP t = 20 * cnt t + 2 := by unfold wP; rw [hh]; rfl
    show wP a + (wP b + 0) < _
    omega
  | ask f =>
    have e3 : wP t = 20 * cnt t := by unfold wP; rw [hh]; rfl
    have := he.2 (by rw [hh]; rfl)
    show wJs (endJ t w ++ [.post w x]) < _
    rw [wJs_app]
    have e : wJs [Jb.post w x] = 1 := rfl
    omega
  | iff =>
    have e3 : wP t = 20 * cnt t := by unfold wP; rw [hh]; rfl
    have := he.2 (by rw [hh]; rfl)
    show wJs (endJ t w ++ [.post w x]) < _
    rw [wJs_app]
    have e : wJs [Jb.post w x] = 1 := rfl
    omega
  | tell =>
    rw [hh] at h
    obtain ⟨a, e⟩ := one_of (show (kidsT t).length = 1 from h)
    rw [e] at hc ⊢
    have e2 : cnts [a] = cnt a + 0 := rfl
    have := wS_le a
    have e3 : wP t = 20 * cnt t := by unfold wP; rw [hh]; rfl
    show wS a + (1 + 0) < _
    omega
  | _ =>
    have e3 : wP t = 20 * cnt t + 2 := by unfold wP; rw [hh]; rfl
    have e4 : wS t = 20 * cnt t := by unfold wS; rw [hh]; rfl
    show wS t + (1 + 0) < _
    omega
theorem w_simple (t : Tm) (w : Str) (h : arN t) : wJs (simpJ t w) < wS t := by
  have hc := cnt_kids t
  unfold arN at h
  unfold simpJ
  have plain : ∀ l : Bool, (kidsT t).length = 2 → wS t = 20 * cnt t → ∃ a b, kidsT t = [a, b] ∧ wJs [.simple a, .simple b, .op l] < wS t := fun l h2 e3 => by
    obtain ⟨a, b, e⟩ := two_of h2
    rw [e] at hc
    have e2 : cnts [a, b] = cnt a + (cnt b + 0) := rfl
    have := wS_le a
    have := wS_le b
    refine ⟨a, b, e, ?_⟩
    show wS a + (wS b + (1 + 0)) < _
    omega
  cases hh : hdT t with
  | num z => have e3 : wS t = 20 * cnt t := by unfold wS; rw [hh]; rfl
             show 1 + 0 < _; omega
  | nam z => have e3 : wS t = 20 * cnt t := by unfold wS; rw [hh]; rfl
             show 1 + 0 < _; omega
  | plus =>
    rw [hh] at h
    obtain ⟨a, b, e, h9⟩ := plain false h (by unfold wS; rw [hh]; rfl)
    rw [e]
    exact h9
  | less =>
    rw [hh] at h
    obtain ⟨a, b, e, h9⟩ := plain true h (by unfold wS; rw [hh]; rfl)
    rw [e]
    exact h9
  | lett y =>
    rw [hh] at h
    obtain ⟨a, b, e⟩ := two_of (show (kidsT t).length = 2 from h)
    rw [e] at hc ⊢
    have e2 : cnts [a, b] = cnt a + (cnt b + 0) := rfl
    have := wP_le a
    have := wS_le b
    have e3 : wS t = 20 * cnt t := by unfold wS; rw [hh]; rfl
    show wP a + (wS b + 0) < _
    omega
  | _ =>
    have e3 : wS t = 20 * cnt t + 2 := by unfold wS; rw [hh]; rfl
    have e4 : wP t = 20 * cnt t := by unfold wP; rw [hh]; rfl
    show wP t + (1 + 0) < _
    omega
/-! ### nothing is left over, nothing is lacking -/
def okJ : List Jb → Nat → List Bool → Prop
  | [], r, g => r = 0 ∧ g = [true]
  | .row :: J, r, g => okJ J (r + 1) g
  | .done _ _ :: J, r, g => ∃ r', r = r' + 1 ∧ okJ J r' (true :: g)
  | .put _ _ :: J, r, g => 0 < r ∧ okJ J r g
  | .simple _ :: J, r, g => 0 < r ∧ okJ J r (false :: g)
  | .known _ :: J, r, g => okJ J r (false :: g)
  | .close :: J, r, g => ∃ r' g', r = r' + 1 ∧ g = true :: g' ∧ okJ J r' (true :: g')
  | .lett _ :: J, r, g => ∃ g', 0 < r ∧ g = false :: g' ∧ okJ J r g'
  | .tell _ :: J, r, g => ∃ g', 0 < r ∧ g = false :: g' ∧ okJ J r g'
  | .post _ _ :: J, r, g => ∃ g', 0 < r ∧ g = true :: g' ∧ okJ J r g'
  | .ask _ n _ :: J, r, g => ∃ g', g = List.replicate n false ++ g' ∧ okJ J r (true :: g')
  | .give _ :: J, r, g => ∃ g', g = false :: g' ∧ okJ J r (true :: g')
  | .iff :: J, r, g => ∃ g', g = true :: true :: false :: g' ∧ okJ J r (true :: g')
  | .op _ :: J, r, g => ∃ g', g = false :: false :: g' ∧ okJ J r (false :: g')
def kG : Gt → Bool
  | .t _ => false
  | .p _ => true
theorem ok_simples {J : List Jb} {r : Nat} (hr : 0 < r) : ∀ (ts : List Tm) (g : List Bool), okJ J r (List.replicate ts.length false ++ g) → okJ (ts.map Jb.simple ++ J) r g
  | [], g, h => h
  | t :: ts, g, h => by
    refine ⟨hr, ok_simples hr ts (false :: g) ?_⟩
    have e : List.replicate ts.length false ++ false :: g = List.replicate (t :: ts).length false ++ g := by
      rw [List.length_cons, List.replicate_succ']
      simp
    rw [e]
    exact h
theorem ok_end {t : Tm} {j : Str} {J : List Jb} {r : Nat} {g : List Bool} (h : arN t) (hr : 0 < r) (o : okJ J r (true :: g)) : okJ (endJ t j ++ J) r g := by
  unfold arN at h
  unfold endJ
  cases hh : hdT t with
  | ask f =>
    show okJ (((kidsT t).map Jb.simple ++ [.ask f (kidsT t).length j]) ++ J) r g
    rw [List.append_assoc]
    exact ok_simples hr _ g ⟨g, rfl, o⟩
  | iff =>
    rw [hh] at h
    obtain ⟨a, b, c, e⟩ := three_of (show (kidsT t).length = 3 from h)
    rw [e]
    exact ⟨hr, r, rfl, r, rfl, g, rfl, o⟩
  | _ => exact ⟨hr, g, rfl, o⟩
theorem ok_done {t : Tm} {j : Str} {J : List Jb} {r : Nat} {g : List Bool} (h : arN t) (o : okJ (.done t j :: J) r g) : okJ (doneJ t j ++ J) r g := by
  obtain ⟨r', rfl, o⟩ := o
  have he : okJ ((endJ t j ++ [.close]) ++ J) (r' + 1) g := by
    rw [List.append_assoc]
    exact ok_end h (Nat.succ_pos _) ⟨r', g, rfl, rfl, o⟩
  unfold arN at h
  unfold doneJ
  cases hh : hdT t with
  | lett x =>
    rw [hh] at h
    obtain ⟨a, b, e⟩ := two_of (show (kidsT t).length = 2 from h)
    rw [e]
    exact ⟨Nat.succ_pos _, r', rfl, o⟩
  | _ => exact he
theorem ok_put {t : Tm} {x w : Str} {J : List Jb} {r : Nat} {g : List Bool} (h : arN t) (o : okJ (.put t x :: J) r g) : okJ (putJ t x w ++ J) r g := by
  obtain ⟨hr, o⟩ := o
  have he : okJ ((endJ t w ++ [.post w x]) ++ J) r g := by
    rw [List.append_assoc]
    exact ok_end h hr ⟨g, hr, rfl, o⟩
  unfold arN at h
  unfold putJ
  cases hh : hdT t with
  | lett y =>
    rw [hh] at h
    obtain ⟨a, b, e⟩ := two_of (show (kidsT t).length = 2 from h)
    rw [e]
    exact ⟨hr, hr, o⟩
  | ask f => exact he
  | iff => exact he
  | tell =>
    rw [hh] at h
    obtain ⟨a, e⟩ := one_of (show (kidsT t).length = 1 from h)
    rw [e]
    exact ⟨hr, g, hr, rfl, o⟩
  | _ => exact ⟨hr, g, hr, rfl, o⟩
theorem ok_simp {t : Tm} {w : Str} {J : List Jb} {r : Nat} {g : List Bool} (h : arN t) (o : okJ (.simple t :: J) r g) : okJ (simpJ t w ++ J) r g := by
  obtain ⟨hr, o⟩ := o
  unfold arN at h
  unfold simpJ
  cases hh : hdT t with
  | num z => exact o
  | nam z => exact o
  | plus =>
    rw [hh] at h
    obtain ⟨a, b, e⟩ := two_of (show (kidsT t).length = 2 from h)
    rw [e]
    exact ⟨hr, hr, g, rfl, o⟩
  | less =>
    rw [hh] at h
    obtain ⟨a, b, e⟩ := two_of (show (kidsT t).length = 2 from h)
    rw [e]
    exact ⟨hr, hr, g, rfl, o⟩
  | lett y =>
    rw [hh] at h
    obtain ⟨a, b, e⟩ := two_of (show (kidsT t).length = 2 from h)
    rw [e]
    exact ⟨hr, hr, o⟩
  | _ => exact ⟨hr, o⟩
end KB

namespace KB
open PySem L2 HT

theorem tk_upd {H : Hp} {p : Addr} {o o' : HO} (h : H p = some o) (n : ∀ xs, o ≠ .tup xs) : TK H (upd H p o') := fun a xs e => by
  rw [upd_ne (ne_of e h (fun z => n xs z.symm))]
  exact e
structure TxN (K : PySem.W.Frag) (mg : Str → Option Value) (CN CT : Addr) : Prop where
  clN : Cls K CN
  nTaken : NoAttr K CN "taken"
  nMany : NoAttr K CN "many"
  clT : Cls K CT
  tNew : NoAttr K CT "new_words"
  tJobs : NoAttr K CT "jobs"
  tRows : NoAttr K CT "rows"
  tGot : NoAttr K CT "got"
  mgN : mg "NewWords" = some (.ref CN)
  mgT : mg "Turning" = some (.ref CT)
def fsN (t m : V) : List (Str × V) := [("taken", t), ("many", m)]
def fsT (w j r g : V) : List (Str × V) := [("new_words", w), ("jobs", j), ("rows", r), ("got", g)]
theorem n_many (t m v : V) : putF "many" v (fsN t m) = fsN t v := by rfl
def Tkn (H : Hp) (td : Addr) (tk : List Str) : Prop := ∃ kvs, H td = some (.dK kvs) ∧ ∀ x : Str, (valV kvs (Sum.inr x)).isSome = decide (x ∈ tk)
structure NWAt (CN : Addr) (H : Hp) (p dx td : Addr) (tk : List Str) (m : Nat) : Prop where
  ob : H p = some (.ins CN dx (fsN (.ref td) (.int (m : Int))))
  tk : Tkn H td tk
theorem NWAt.ne {CN : Addr} {H : Hp} {p dx td : Addr} {tk : List Str} {m : Nat} (h : NWAt CN H p dx td tk m) : td ≠ p := by
  obtain ⟨kvs, h1, _⟩ := h.tk
  exact ne_of h1 h.ob (by intro z; cases z)
theorem NWAt.put {CN : Addr} {H : Hp} {p dx td : Addr} {tk : List Str} {m : Nat} (h : NWAt CN H p dx td tk m) (m' : Nat) : NWAt CN (upd H p (.ins CN dx (fsN (.ref td) (.int (m' : Int))))) p dx td tk m' := by
  refine ⟨upd_same, ?_⟩
  obtain ⟨kvs, h1, h2⟩ := h.tk
  exact ⟨kvs, by rw [upd_ne h.ne]; exact h1, h2⟩

section
variable {P : Program} {w : World} {K : PySem.W.Frag} {mg : Str → Option Value} {base : Heap} {CN CT : Addr}
/-! ### NewWords -/
def spNew0 (CN : Addr) : Sp := fun vs H Q _ => ∃ (p dx tl : Addr) (tk : List Str), vs = [.ref p, .ref tl] ∧ H p = some (.ins CN dx []) ∧ H tl = some (.lst (tk.map V.str)) ∧ tk.length ≤ 1000 ∧
  ∀ H' td, (∀ b o, b ≠ p → H b = some o → H' b = some o) → H td = none → NWAt CN H' p dx td tk 0 → Q .non H'
abbrev sNew0 : Stmt := inClass (top 32) 0
theorem scNew0 : FnScope ["self", "taken", "word"] ["self", "taken"] (defScope sNew0) := ⟨rfl, rfl, rfl, by decide +kernel, rfl, by decide +kernel, by decide +kernel⟩
theorem ok_new0 (X : TxN K mg CN CT) {f : Addr} {fd : FuncData} (F : Fun K "__init__" "NewWords.__init__" sNew0 f fd) : FnOk P w K mg base CX0 1 f fd ["self", "taken"] (spNew0 CN) := by
  refine F.ok scNew0 (fun vs H Q E h => ?_) (fun cdv A outer s H vs Q E hr h => ?_)
  · obtain ⟨p, dx, tl, tk, rfl, _⟩ := h
    rfl
  obtain ⟨p, dx, tl, tk, rfl, hp, ht, hl, q⟩ := h
  refine ⟨_, pss_cons (ps_fld (pv 0) (pe_dc (own := [("word", 2)]) (g := gName 2) (tt := tYes) (tk := tVar 2) (tv := tC (.bl true)) (by rfl) scNew0.nd (pi_list (pv 1)) (blkOk_by (own := [("word", 2)]) (N := ["self", "taken", "word"]) (sc := defScope sNew0) (by decide +kernel)) (fun _ _ _ _ _ => pg_name (i := 2) scNew0.nd rfl (Or.inl rfl)) (fun _ _ _ _ _ => pts_nil) (fun _ _ _ _ _ => pv 2) (fun _ _ _ _ _ => pe_bl)) rfl)
    (pss_one (ps_fld (pv 0) pe_int rfl)), ?_⟩
  refine ⟨_, rfl, tl, rfl, ⟨_, SqL.of ht⟩, fun D hD => ?_⟩
  refine ⟨fun i m' H' => m' = tk.length - i ∧ i ≤ tk.length ∧ Same H H' ∧ ∃ kvs, H' D = some (.dK kvs) ∧ kvs.length ≤ i ∧ ∀ x : Str, (valV kvs (Sum.inr x)).isSome = decide (x ∈ tk.take i),
    ⟨_, rfl, Nat.zero_le _, same_new hD _, [], upd_same, Nat.le_refl _, fun x => by rw [List.take_zero]; rfl⟩, ?_⟩
  rintro i m' H1 ⟨rfl, hi, s1, kvs, hk, hkl, hall⟩
  by_cases c : i < tk.length
  · have hx1 : (tk.map V.str)[i]? = some (.str tk[i]) := by rw [List.getElem?_map, List.getElem?_eq_getElem c]; rfl
    refine .inr ⟨⟨_, _, SqL.of (s1 _ _ ht), hx1⟩, fun H' => i + 1 ≤ tk.length ∧ Same H H' ∧ ∃ kvs, H' D = some (.dK kvs) ∧ kvs.length ≤ i + 1 ∧ ∀ x : Str, (valV kvs (Sum.inr x)).isSome = decide (x ∈ tk.take (i + 1)),
      fun H' h => ⟨tk.length - (i + 1), by omega, rfl, h⟩, fun x H' hy => ?_⟩
    obtain ⟨e', hx⟩ := hy
    subst e'
    have hx := hx _ (SqL.of (s1 _ _ ht))
    rw [hx1] at hx
    cases hx
    refine ⟨rfl, ?_⟩
    dsimp only [tYes]
    rw [if_pos rfl]
    refine ⟨_, rfl, kvs, Sum.inr tk[i], rfl, hk, Nat.lt_of_le_of_lt (m := 1000) (by omega) (by decide), c, same_mut s1 hD, putK kvs (Sum.inr tk[i]) (.bl true), upd_same, Nat.le_trans (length_putK _ _ _) (Nat.succ_le_succ hkl), fun x => ?_⟩
    rw [valV_put, List.take_succ_eq_append_getElem c]
    by_cases e : x = tk[i]
    · rw [if_pos (by rw [e])]
      rw [decide_eq_true (by rw [e]; exact List.mem_append_right _ List.mem_cons_self)]
      rfl
    · rw [if_neg (fun z => e (Sum.inr.inj z)), hall]
      by_cases e2 : x ∈ tk.take i
      · rw [decide_eq_true e2, decide_eq_true (List.mem_append_left _ e2)]
      · rw [decide_eq_false e2, decide_eq_false fun z => ?_]
        rcases List.mem_append.mp z with z | z
        · exact e2 z
        · exact e (List.mem_singleton.mp z)
  · have ei : i = tk.length := by omega
    subst ei
    rw [List.take_length] at hall
    refine .inl ⟨⟨_, SqL.of (s1 _ _ ht), by rw [List.length_map]; exact Nat.le_refl _⟩, ?_⟩
    have hp1 := s1 _ _ hp
    have nD : D ≠ p := (ne_of_none hp hD).symm
    refine ⟨_, rfl, p, CN, dx, _, rfl, hp1, X.clN, X.nTaken, (by show 0 < 1000; decide), ?_⟩
    refine ⟨_, rfl, p, CN, dx, _, rfl, upd_same, X.clN, X.nMany, (by show 1 < 1000; decide), ?_⟩
    rw [upd_upd]
    refine q _ D (fun b o n hb => ?_) hD ⟨upd_same, kvs, ?_, hall⟩
    · rw [upd_ne n]
      exact s1 _ _ hb
    · rw [upd_ne nD]
      exact hk
/-! ### one_more -/
def spMore (CN : Addr) : Sp := fun vs H Q _ => ∃ (p dx td : Addr) (tk : List Str) (m : Nat), vs = [.ref p] ∧ NWAt CN H p dx td tk m ∧ m + tk.length + 2 < 26 ^ 9 ∧
  ∀ w m', NwR tk m w m' → Q (.str w) (upd H p (.ins CN dx (fsN (.ref td) (.int (m' : Int)))))
abbrev sMore : Stmt := inClass (top 32) 1
theorem scMore : FnScope ["self", "word"] ["self"] (defScope sMore) := ⟨rfl, rfl, rfl, by decide +kernel, rfl, by decide +kernel, by decide +kernel⟩
theorem ok_more (X : TxN K mg CN CT) {f f1 : Addr} {fd d1 : FuncData} (F : Fun K "one_more" "NewWords.one_more" sMore f fd) (Gword_of : FnOk P w K mg base CX0 1 f1 d1 ["k"] spWordOf) (Rword_of : Ref K mg "word_of" f1 d1 ["k"]) : FnOk P w K mg base CX0 2 f fd ["self"] (spMore CN) := by
  refine F.ok scMore (fun vs H Q E h => ?_) (fun cdv A outer s H vs Q E hr h => ?_)
  · obtain ⟨p, dx, td, tk, m, rfl, _⟩ := h
    rfl
  obtain ⟨p, dx, td, tk, m, rfl, hN, hb, q⟩ := h
  refine ⟨_, (pss_cons (ps_set (i := 1) scMore.nd rfl (Or.inl rfl) (pe_call Gword_of (hr.mono (by omega)) rfl Rword_of.m Rword_of.k Rword_of.b .nil pass0 (pa_cons (pe_fld (pv 0) rfl) pa_nil)))
    (pss_cons (ps_fldaug (pv 0) pe_int in_add)
    (pss_cons (ps_while PassesOwn.never (pt_cmp (pc_din (hu_of hr) (pv 1) (pe_fld (pv 0) rfl))) (pss_cons (ps_set (i := 1) scMore.nd rfl (Or.inl rfl) (pe_call Gword_of (hr.mono (by omega)) rfl Rword_of.m Rword_of.k Rword_of.b .nil pass0 (pa_cons (pe_fld (pv 0) rfl) pa_nil)))
    (pss_one (ps_fldaug (pv 0) pe_int in_add))))
    (pss_one (ps_ret (pv 1)))))), ?_⟩
  obtain ⟨k0, hk1, hk2, hk3⟩ := free_word tk m
  have step : ∀ (i : Nat), putF "many" (.int ((i : Int) + 1)) (fsN (.ref td) (.int (i : Int))) = fsN (.ref td) (.int ((i + 1 : Nat) : Int)) := fun i => by
    rw [n_many]
    rfl
  refine ⟨_, rfl, p, CN, dx, _, _, rfl, hN.ob, X.clN, X.nMany, rfl, m, rfl, by omega, ?_⟩
  refine ⟨_, rfl, p, CN, dx, _, _, rfl, hN.ob, X.clN, X.nMany, rfl, _, _, rfl, rfl, _, _, hN.ob, (by show 2 < 1000; decide), ?_⟩
  rw [step]
  refine ⟨fun μ σ H' => ∃ i : Nat, m ≤ i ∧ i ≤ k0 ∧ (∀ l, m ≤ l → l < i → wordOf l ∈ tk) ∧ σ = [some (.ref p), some (.str (wordOf i))] ∧ upd H p (.ins CN dx (fsN (.ref td) (.int ((i + 1 : Nat) : Int)))) = H' ∧ k0 - i = μ, ⟨_, m, Nat.le_refl _, hk1, fun l z1 z2 => by omega, rfl, rfl, rfl⟩, ?_⟩
  rintro μ σ H' ⟨i, h1, h2, hin, rfl, rfl, rfl⟩
  have hNi := hN.put (i + 1)
  obtain ⟨kvs, ht1, ht2⟩ := hNi.tk
  refine ⟨_, rfl, _, rfl, p, CN, dx, _, _, rfl, hNi.ob, X.clN, X.nTaken, rfl, td, _, rfl, DGet.k (k := Sum.inr (wordOf i)) ht1, _, rfl, ?_⟩
  rw [ht2]
  by_cases c : wordOf i ∈ tk
  · have hlt : i < k0 := by
      rcases Nat.lt_or_ge i k0 with z | z
      · exact z
      · have : i = k0 := by omega
        subst this
        exact absurd c hk3
    refine itT (decide_eq_true c) ⟨fun σ' H' => ∃ m', m' < k0 - i ∧ ∃ i : Nat, m ≤ i ∧ i ≤ k0 ∧ (∀ l, m ≤ l → l < i → wordOf l ∈ tk) ∧ σ' = [some (.ref p), some (.str (wordOf i))] ∧ upd H p (.ins CN dx (fsN (.ref td) (.int ((i + 1 : Nat) : Int)))) = H' ∧ k0 - i = m', fun _ _ z => z, ?_⟩
    refine ⟨_, rfl, p, CN, dx, _, _, rfl, hNi.ob, X.clN, X.nMany, rfl, i + 1, rfl, by omega, ?_⟩
    refine ⟨_, rfl, p, CN, dx, _, _, rfl, hNi.ob, X.clN, X.nMany, rfl, _, _, rfl, rfl, _, _, hNi.ob, (by show 2 < 1000; decide), ?_⟩
    rw [step, upd_upd]
    refine ⟨k0 - (i + 1), by omega, i + 1, by omega, by omega, fun l z1 z2 => ?_, rfl, rfl, rfl⟩
    rcases Nat.lt_or_ge l i with y | y
    · exact hin l z1 y
    · have : l = i := by omega
      subst this
      exact c
  · refine itF (decide_eq_false c) ⟨_, rfl, q _ (i + 1) ⟨i, h1, by omega, rfl, c, rfl, hin⟩⟩
end
end KB

namespace KB
open PySem L2 HT

/-! ### jobs, leads and what is made, as they stand -/
def JbA (H : Hp) (q : Addr) : Jb → Prop
  | .row => H q = some (.tup [.str "row"])
  | .done t j => ∃ b, H q = some (.tup [.str "done", .ref b, .str j]) ∧ At H t b
  | .put t x => ∃ b, H q = some (.tup [.str "put", .ref b, .str x]) ∧ At H t b
  | .simple t => ∃ b, H q = some (.tup [.str "simple", .ref b]) ∧ At H t b
  | .known t => ∃ b, H q = some (.tup [.str "known", .ref b]) ∧ At H t b
  | .close => H q = some (.tup [.str "close"])
  | .lett x => H q = some (.tup [.str "let", .str x])
  | .tell x => H q = some (.tup [.str "tell", .str x])
  | .post j x => H q = some (.tup [.str "post", .str j, .str x])
  | .ask f n j => H q = some (.tup [.str "ask", .str f, .int (n : Int), .str j])
  | .give j => H q = some (.tup [.str "give", .str j])
  | .iff => H q = some (.tup [.str "if"])
  | .op l => H q = some (.tup [.str (if l then "less" else "plus")])
def JbV (H : Hp) (j : Jb) (v : V) : Prop := ∃ q, v = .ref q ∧ JbA H q j
theorem JbA.tk {H H' : Hp} (e : TK H H') {q : Addr} {j : Jb} (h : JbA H q j) : JbA H' q j := by
  cases j with
  | done t j => obtain ⟨b, h1, h2⟩ := h; exact ⟨b, e _ _ h1, h2.tk e⟩
  | put t x => obtain ⟨b, h1, h2⟩ := h; exact ⟨b, e _ _ h1, h2.tk e⟩
  | simple t => obtain ⟨b, h1, h2⟩ := h; exact ⟨b, e _ _ h1, h2.tk e⟩
  | known t => obtain ⟨b, h1, h2⟩ := h; exact ⟨b, e _ _ h1, h2.tk e⟩
  | _ => exact e _ _ h
theorem JbV.tk {H H' : Hp} (e : TK H H') {j : Jb} {v : V} (h : JbV H j v) : JbV H' j v := let ⟨q, e1, h1⟩ := h; ⟨q, e1, h1.tk e⟩
def LdV (H : Hp) (l : Ld) (v : V) : Prop := ∃ q b, v = .ref q ∧ (match l with
  | .lett x s => H q = some (.tup [.str "let", .str x, .ref b]) ∧ At H s b
  | .tell x s => H q = some (.tup [.str "tell", .str x, .ref b]) ∧ At H s b
  | .post j x u => H q = some (.tup [.str "post", .str j, .str x, .ref b]) ∧ PAt H u b)
theorem LdV.tk {H H' : Hp} (e : TK H H') {l : Ld} {v : V} (h : LdV H l v) : LdV H' l v := by
  obtain ⟨q, b, e1, h1⟩ := h
  refine ⟨q, b, e1, ?_⟩
  cases l with
  | lett x s => exact ⟨e _ _ h1.1, h1.2.tk e⟩
  | tell x s => exact ⟨e _ _ h1.1, h1.2.tk e⟩
  | post j x u => exact ⟨e _ _ h1.1, PAt.tk e h1.2⟩
def GtV (H : Hp) (g : Gt) (v : V) : Prop := ∃ b, v = .ref b ∧ (match g with | .t s => At H s b | .p q => PAt H q b)
theorem GtV.tk {H H' : Hp} (e : TK H H') {g : Gt} {v : V} (h : GtV H g v) : GtV H' g v := by
  obtain ⟨b, e1, h1⟩ := h
  refine ⟨b, e1, ?_⟩
  cases g with
  | t s => exact At.tk e h1
  | p q => exact PAt.tk e h1
theorem all2_fnR {H : Hp} : ∀ {n : Nat} {k : _root_.Fin n → Tm} {ys : _root_.Fin n → Addr}, (∀ i, At H (k i) (ys i)) → All2 (RefV H) (List.ofFn k) (Rfs ys)
  | 0, _, _, _ => trivial
  | n + 1, k, ys, h => by
    unfold Rfs
    rw [List.ofFn_succ, List.ofFn_succ]
    exact ⟨⟨ys 0, rfl, h 0⟩, all2_fnR (k := fun i => k i.succ) (ys := fun i => ys i.succ) fun i => h i.succ⟩
theorem At.kids {H : Hp} {t : Tm} {a : Addr} (h : At H t a) : ∃ xs, Lay H a (hdT t) xs ∧ All2 (RefV H) (kidsT t) xs := by
  cases t with
  | mk hd n k =>
    obtain ⟨ys, l, r⟩ := h
    exact ⟨Rfs ys, l, all2_fnR r⟩
theorem At.ar {H : Hp} {t : Tm} {a : Addr} (h : At H t a) : arN t := by
  obtain ⟨xs, l, k⟩ := h.kids
  unfold arN
  rw [← k.len]
  exact l.ar
theorem all2_one {α : Type} {R : α → V → Prop} {a : α} {vs : List V} (h : All2 R [a] vs) : ∃ v, vs = [v] ∧ R a v := by
  match vs, h with
  | [v], ⟨h1, _⟩ => exact ⟨v, rfl, h1⟩
theorem all2_two {α : Type} {R : α → V → Prop} {a b : α} {vs : List V} (h : All2 R [a, b] vs) : ∃ v w, vs = [v, w] ∧ R a v ∧ R b w := by
  match vs, h with
  | [v, w], ⟨h1, h2, _⟩ => exact ⟨v, w, rfl, h1, h2⟩
theorem all2_three {α : Type} {R : α → V → Prop} {a b c : α} {vs : List V} (h : All2 R [a, b, c] vs) : ∃ v w x, vs = [v, w, x] ∧ R a v ∧ R b w ∧ R c x := by
  match vs, h with
  | [v, w, x], ⟨h1, h2, h3, _⟩ => exact ⟨v, w, x, rfl, h1, h2, h3⟩
theorem at3 {x y z u : V} {r : List V} : atI (x :: y :: z :: u :: r) 3 = some u := at_of (j := 3) rfl rfl
section
variable {P : Program} {w : World} {K : PySem.W.Frag} {mg : Str → Option Value} {base : Heap} {CN CT : Addr}
/-! ### jobs_to_end -/
def spJend : Sp := fun vs H Q _ => ∃ (a : Addr) (t : Tm) (j : Str), vs = [.ref a, .str j] ∧ At H t a ∧ ∀ r H' us, H r = none → Same H H' → H' r = some (.lst us) → All2 (JbV H') (endJ t j) us → Q (.ref r) H'
abbrev sjobs_to_end : Stmt := top 36
theorem scjobs_to_end : FnScope ["term", "j", "part", "sides"] ["term", "j"] (defScope sjobs_to_end) := ⟨rfl, rfl, rfl, by decide +kernel, rfl, by decide +kernel, by decide +kernel⟩
theorem hs_ask {h : Hd} (e : hs h = "ask") : ∃ f, h = .ask f := by
  cases h <;> dsimp only [hs] at e <;> first | exact ⟨_, rfl⟩ | exact absurd e (by decide)
theorem hs_iff {h : Hd} (e : hs h = "if") : h = .iff := by
  cases h <;> dsimp only [hs] at e <;> first | rfl | exact absurd e (by decide)
theorem hs_let {h : Hd} (e : hs h = "let") : ∃ x, h = .lett x := by
  cases h <;> dsimp only [hs] at e <;> first | exact ⟨_, rfl⟩ | exact absurd e (by decide)
theorem hs_tell {h : Hd} (e : hs h = "tell") : h = .tell := by
  cases h <;> dsimp only [hs] at e <;> first | rfl | exact absurd e (by decide)
theorem endJ_plain {t : Tm} {j : Str} (h1 : hs (hdT t) ≠ "ask") (h2 : hs (hdT t) ≠ "if") : endJ t j = [.simple t, .give j] := by
  unfold endJ
  cases hh : hdT t with
  | ask f => rw [hh] at h1; exact absurd rfl h1
  | iff => rw [hh] at h2; exact absurd rfl h2
  | _ => rfl
theorem ok_jend (T : Txt K mg) {f : Addr} {fd : FuncData} (F : Fun K "jobs_to_end" "jobs_to_end" sjobs_to_end f fd) : FnOk P w K mg base CX0 1 f fd ["term", "j"] spJend := by
  refine F.ok scjobs_to_end (fun vs H Q E h => ?_) (fun cdv A outer s H vs Q E hr h => ?_)
  · obtain ⟨a, t, j, rfl, _⟩ := h
    rfl
  obtain ⟨a, t, j, rfl, hA, q⟩ := h
  refine ⟨_, (pss_cons (ps_if (pt_cmpR op_eq (pe_ix ix_tup (pv 0) pe_int (fun _ _ => rfl)) pe_str (nomark _)) (pss_one (ps_ret (pe_lst (StX.pa_star (pe_lc (own := [("part", 2)]) (g := gName 2) (by rfl) scjobs_to_end.nd (pi_tup (pe_ix ix_tup (pv 0) pe_int (fun _ _ => rfl))) (blkOk_by (own := [("part", 2)]) (N := ["term", "j", "part", "sides"]) (sc := defScope sjobs_to_end) (by decide +kernel)) (fun _ _ _ _ _ => (pg_name (i := 2) scjobs_to_end.nd rfl (Or.inl rfl))) (fun _ _ _ _ _ => pts_nil) (fun _ _ _ _ _ => (pe_tup (pa_cons pe_str (pa_cons (pv 2) pa_nil))))) (pa_cons (pe_tup (pa_cons pe_str (pa_cons (pe_ix ix_tup (pv 0) pe_int (fun _ _ => rfl)) (pa_cons (pe_callB call_len_seq (by rfl) T.m_len PySem.boot_len (pa_cons (pe_ix ix_tup (pv 0) pe_int (fun _ _ => rfl)) pa_nil)) (pa_cons (pv 1) pa_nil))))) pa_nil))))) pss_nil)
    (pss_cons (ps_if (pt_cmpR op_eq (pe_ix ix_tup (pv 0) pe_int (fun _ _ => rfl)) pe_str (nomark _)) (pss_cons (ps_set (i := 3) scjobs_to_end.nd rfl (Or.inl rfl) (pe_lst (pa_cons (pe_tup (pa_cons pe_str pa_nil)) (pa_cons (pe_tup (pa_cons pe_str (pa_cons (pe_ix ix_tup (pv 0) pe_int (fun _ _ => rfl)) (pa_cons (pv 1) pa_nil)))) (pa_cons (pe_tup (pa_cons pe_str pa_nil)) (pa_cons (pe_tup (pa_cons pe_str (pa_cons (pe_ix ix_tup (pv 0) pe_int (fun _ _ => rfl)) (pa_cons (pv 1) pa_nil)))) pa_nil))))))
    (pss_one (ps_ret (pe_lst (pa_cons (pe_tup (pa_cons pe_str (pa_cons (pe_ix ix_tup (pv 0) pe_int (fun _ _ => rfl)) pa_nil))) (StX.pa_star (pv 3) (pa_cons (pe_tup (pa_cons pe_str pa_nil)) pa_nil))))))) pss_nil)
    (pss_one (ps_ret (pe_lst (pa_cons (pe_tup (pa_cons pe_str (pa_cons (pv 0) pa_nil))) (pa_cons (pe_tup (pa_cons pe_str (pa_cons (pv 1) pa_nil))) pa_nil))))))), ?_⟩
  obtain ⟨xs, l, kx⟩ := hA.kids
  obtain ⟨r0, hd⟩ := l.head
  have hlk := kx.len
  refine ⟨_, rfl, a, _, _, _, rfl, rfl, SqT.of hd, at0, rfl, _, rfl, ?_⟩
  refine ite2 (fun c => ?_) (fun c => ?_)
  · obtain ⟨g, hh⟩ := hs_ask (V.str.inj (of_decide_eq_true c))
    have eE : endJ t j = (kidsT t).map Jb.simple ++ [.ask g (kidsT t).length j] := by
      unfold endJ
      rw [hh]
    rw [eE] at q
    rw [hh] at l
    obtain ⟨l4, ap, la, lp⟩ := l
    refine ⟨_, rfl, a, _, _, _, rfl, rfl, SqT.of la, at2, ap, rfl, ⟨_, SqT.of lp⟩, fun D hD => lc_tup (K := K) (a := ap) (xs := xs) (fun i H' => Same H H' ∧ ∃ acc, H' D = some (.lst acc) ∧ All2 (JbV H') (((kidsT t).take i).map Jb.simple) acc) ⟨same_new hD _, [], upd_same, trivial⟩ ?_ ?_ ?_⟩
    · rintro i H' _ ⟨s1, _⟩
      exact SqT.of (s1 _ _ lp)
    · rintro i x H1 hx ⟨s1, acc, h1, k1⟩
      obtain ⟨u, hu, b, rfl, hb⟩ := kx.get hx
      have hil := (List.getElem?_eq_some_iff.mp hx).1
      refine ⟨rfl, ?_⟩
      dsimp only [tYes]
      refine iteT ⟨_, rfl, sz (by show 2 ≤ 100000; decide), fun t1 ht1 => ?_⟩
      have s2 := same_new ht1 (.tup [.str "simple", .ref b])
      have h2 := s2 _ _ h1
      have hal := k1.len
      rw [List.length_map, List.length_take] at hal
      refine ⟨acc, h2, Nat.lt_of_le_of_lt (m := 1000) (by omega) (by decide), same_mut (s1.trans s2) hD, _, upd_same, ?_⟩
      have tk := tk_put (o := .lst (acc ++ [.ref t1])) h2
      obtain ⟨hj, hj2⟩ := List.getElem?_eq_some_iff.mp hu
      rw [List.take_succ_eq_append_getElem hj, hj2, List.map_append]
      exact (k1.imp fun _ _ z => JbV.tk ((tk_same s2).trans tk) z).app ⟨⟨t1, rfl, b, tk _ _ upd_same, hb.tk ((tk_same (s1.trans s2)).trans tk)⟩, trivial⟩
    · rintro H1 ⟨s1, acc, h1, k1⟩
      rw [hlk, List.take_length] at k1
      have hal := k1.len
      rw [List.length_map] at hal
      refine ⟨D, acc, rfl, .inr (SqL.of h1), _, rfl, a, _, _, _, rfl, rfl, SqT.of (s1 _ _ la), at1, _, rfl, a, _, _, _, rfl, rfl, SqT.of (s1 _ _ la), at2, ap, _, rfl, .inr (SqT.of (s1 _ _ lp)), _, rfl, sz (by show 4 ≤ 100000; decide), fun t2 ht2 => ?_⟩
      rw [hlk]
      have s2 := same_new ht2 (.tup [.str "ask", .str g, .int ((kidsT t).length : Int), .str j])
      refine ⟨sz (by rw [List.length_append, List.length_singleton]; omega), fun r hr2 => ?_⟩
      have s3 := same_new hr2 (.lst (acc ++ [.ref t2]))
      have s12 := s1.trans s2
      refine q r _ _ (s12.free hr2) (s12.trans s3) upd_same ?_
      exact (k1.imp fun _ _ z => JbV.tk (tk_same (s2.trans s3)) z).app ⟨⟨t2, rfl, s3 _ _ upd_same⟩, trivial⟩
  refine ⟨_, rfl, a, _, _, _, rfl, rfl, SqT.of hd, at0, rfl, _, rfl, ?_⟩
  refine ite2 (fun c2 => ?_) (fun c2 => ?_)
  · have hh := hs_iff (V.str.inj (of_decide_eq_true c2))
    rw [hh] at l
    obtain ⟨u1, u2, u3, e3⟩ := three_of (show (kidsT t).length = 3 by rw [← hlk]; exact l.1)
    have eE : endJ t j = [.simple u1, .row, .done u2 j, .row, .done u3 j, .iff] := by
      unfold endJ
      rw [hh, e3]
    rw [eE] at q
    rw [e3] at kx
    obtain ⟨v1, v2, v3, rfl, ⟨b1, rfl, g1⟩, ⟨b2, rfl, g2⟩, ⟨b3, rfl, g3⟩⟩ := all2_three kx
    have la : H a = some (.tup [.str "if", .ref b1, .ref b2, .ref b3]) := l.2
    refine ⟨sz (by show 1 ≤ 100000; decide), fun t1 ht1 => ?_⟩
    have s1 := same_new ht1 (.tup [.str "row"])
    refine ⟨_, rfl, a, _, _, _, rfl, rfl, SqT.of (s1 _ _ la), at2, _, rfl, sz (by show 3 ≤ 100000; decide), fun t2 ht2 => ?_⟩
    have s2 := same_new ht2 (.tup [.str "done", .ref b2, .str j])
    refine ⟨sz (by show 1 ≤ 100000; decide), fun t3 ht3 => ?_⟩
    have s3 := same_new ht3 (.tup [.str "row"])
    refine ⟨_, rfl, a, _, _, _, rfl, rfl, SqT.of ((s1.trans (s2.trans s3)) _ _ la), at3, _, rfl, sz (by show 3 ≤ 100000; decide), fun t4 ht4 => ?_⟩
    have s4 := same_new ht4 (.tup [.str "done", .ref b3, .str j])
    refine ⟨sz (by show 4 ≤ 100000; decide), fun sl hsl => ?_⟩
    have s5 := same_new hsl (.lst [.ref t1, .ref t2, .ref t3, .ref t4])
    have s15 := s1.trans (s2.trans (s3.trans (s4.trans s5)))
    refine ⟨_, rfl, a, _, _, _, rfl, rfl, SqT.of (s15 _ _ la), at1, sz (by show 2 ≤ 100000; decide), fun t5 ht5 => ?_⟩
    have s6 := same_new ht5 (.tup [.str "simple", .ref b1])
    refine ⟨_, rfl, sl, _, rfl, .inr (SqL.of (s6 _ _ upd_same)), sz (by show 1 ≤ 100000; decide), fun t6 ht6 => ?_⟩
    have s7 := same_new ht6 (.tup [.str "if"])
    refine ⟨sz (by show 6 ≤ 100000; decide), fun r hr2 => ?_⟩
    have s8 := same_new hr2 (.lst [.ref t5, .ref t1, .ref t2, .ref t3, .ref t4, .ref t6])
    have s17 := s15.trans (s6.trans s7)
    have s18 := s17.trans s8
    have tkA := tk_same s18
    refine q r _ _ (s17.free hr2) s18 upd_same ⟨⟨t5, rfl, b1, (s7.trans s8) _ _ upd_same, g1.tk tkA⟩, ⟨t1, rfl, (s2.trans (s3.trans (s4.trans (s5.trans (s6.trans (s7.trans s8)))))) _ _ upd_same⟩,
      ⟨t2, rfl, b2, (s3.trans (s4.trans (s5.trans (s6.trans (s7.trans s8))))) _ _ upd_same, g2.tk tkA⟩, ⟨t3, rfl, (s4.trans (s5.trans (s6.trans (s7.trans s8)))) _ _ upd_same⟩, ⟨t4, rfl, b3, (s5.trans (s6.trans (s7.trans s8))) _ _ upd_same, g3.tk tkA⟩, ⟨t6, rfl, s8 _ _ upd_same⟩, trivial⟩
  · have eE : endJ t j = [.simple t, .give j] := endJ_plain (fun z => c (decide_eq_true (congrArg V.str z))) (fun z => c2 (decide_eq_true (congrArg V.str z)))
    rw [eE] at q
    refine ⟨_, rfl, sz (by show 2 ≤ 100000; decide), fun t1 ht1 => ?_⟩
    have s1 := same_new ht1 (.tup [.str "simple", .ref a])
    refine ⟨_, rfl, sz (by show 2 ≤ 100000; decide), fun t2 ht2 => ?_⟩
    have s2 := same_new ht2 (.tup [.str "give", .str j])
    refine ⟨sz (by show 2 ≤ 100000; decide), fun r hr2 => ?_⟩
    have s3 := same_new hr2 (.lst [.ref t1, .ref t2])
    have s13 := s1.trans (s2.trans s3)
    exact q r _ _ ((s1.trans s2).free hr2) s13 upd_same ⟨⟨t1, rfl, a, (s2.trans s3) _ _ upd_same, hA.tk (tk_same s13)⟩, ⟨t2, rfl, s3 _ _ upd_same⟩, trivial⟩
/-! ### put_ahead -/
def spAhead : Sp := fun vs H Q _ => ∃ (la b : Addr) (ls : List V) (r : List Ld) (p : Pt), vs = [.ref la, .ref b] ∧ H la = some (.lst ls) ∧ All2 (LdV H) r ls ∧ PAt H p b ∧ ∀ H' b', Same H H' → PAt H' (putAh r p) b' → Q (.ref b') H'
abbrev sput_ahead : Stmt := top 37
theorem scput_ahead : FnScope ["leads", "part", "lead", "head", "j", "x", "inner"] ["leads", "part"] (defScope sput_ahead) := ⟨rfl, rfl, rfl, by decide +kernel, rfl, by decide +kernel, by decide +kernel⟩
theorem ok_ahead (T : Txt K mg) {f : Addr} {fd : FuncData} (F : Fun K "put_ahead" "put_ahead" sput_ahead f fd) : FnOk P w K mg base CX0 1 f fd ["leads", "part"] spAhead := by
  refine F.ok scput_ahead (fun vs H Q E h => ?_) (fun cdv A outer s H vs Q E hr h => ?_)
  · obtain ⟨la, b, ls, r, p, rfl, _⟩ := h
    rfl
  obtain ⟨la, b, ls, r, p, rfl, hl, kl, hb, q⟩ := h
  refine ⟨_, (pss_cons (ps_for PassesOwn.never rfl (RT.pi_revA rfl T.m_reversed (pv 0)) (pg_name (i := 2) scput_ahead.nd rfl (Or.inl rfl)) (pss_one (ps_if (pt_cmpR op_eq (pe_ix ix_tup (pv 2) pe_int (fun _ _ => rfl)) pe_str (nomark _)) (pss_cons (ps_asg (pv 2) (pg_tup rfl (pgs_cons (pg_name (i := 3) scput_ahead.nd rfl (Or.inl rfl)) (pgs_cons (pg_name (i := 4) scput_ahead.nd rfl (Or.inl rfl)) (pgs_cons (pg_name (i := 5) scput_ahead.nd rfl (Or.inl rfl)) (pgs_cons (pg_name (i := 6) scput_ahead.nd rfl (Or.inl rfl)) pgs_nil))))))
    (pss_one (ps_set (i := 1) scput_ahead.nd rfl (Or.inl rfl) (pe_tup (pa_cons (pv 3) (pa_cons (pv 4) (pa_cons (pv 5) (pa_cons (pv 1) (pa_cons (pv 6) pa_nil))))))))) (pss_one (ps_set (i := 1) scput_ahead.nd rfl (Or.inl rfl) (pe_tup (StX.pa_star (pv 2) (pa_cons (pv 1) pa_nil))))))))
    (pss_one (ps_ret (pv 1)))), ?_⟩
  have hlen := kl.len
  refine ⟨_, rfl, la, ls, rfl, .inl ⟨SqL.of hl, ?_⟩⟩
  refine RT.for_Itv (K := K) (a := la) (xs := ls) (fun i σ H' => ∃ b' o2 o3 o4 o5 o6, σ = [some (.ref la), some (.ref b'), o2, o3, o4, o5, o6] ∧ Same H H' ∧ PAt H' (putAh (r.drop (r.length - i)) p) b') ?_ ?_ ?_ ?_
  · refine ⟨b, _, _, _, _, _, rfl, Same.refl _, ?_⟩
    rw [Nat.sub_zero, List.drop_length]
    exact hb
  · rintro i σ H' ⟨b', o2, o3, o4, o5, o6, rfl, s1, _⟩
    exact SqL.of (s1 _ _ hl)
  · rintro i x σ H1 hi hx ⟨b', o2, o3, o4, o5, o6, rfl, s1, h1⟩
    obtain ⟨ld, hld, q1, b1, rfl, g⟩ := kl.get hx
    rw [hlen] at hld hi
    have hj : r.length - 1 - i < r.length := by omega
    have eD : r.drop (r.length - (i + 1)) = ld :: r.drop (r.length - i) := by
      have e1 : r.length - (i + 1) = r.length - 1 - i := by omega
      have e2 : r.length - i = r.length - 1 - i + 1 := by omega
      rw [e1, e2, List.drop_eq_getElem_cons hj]
      congr 1
      rw [List.getElem?_eq_getElem hj] at hld
      exact Option.some.inj hld
    rw [eD]
    cases ld with
    | lett y s =>
      obtain ⟨g1, g2⟩ := g
      refine ⟨_, rfl, q1, _, _, _, rfl, rfl, SqT.of (s1 _ _ g1), at0, rfl, _, rfl, itF rfl ?_⟩
      refine ⟨_, rfl, q1, _, rfl, .inl (SqT.of (s1 _ _ g1)), _, rfl, sz (by show 4 ≤ 100000; decide), fun t1 ht1 => ?_⟩
      have s2 := same_new ht1 (.tup [.str "let", .str y, .ref b1, .ref b'])
      exact ⟨t1, _, _, _, _, _, rfl, s1.trans s2, b1, b', upd_same, g2.tk (tk_same (s1.trans s2)), PAt.tk (tk_same s2) h1⟩
    | tell y s =>
      obtain ⟨g1, g2⟩ := g
      refine ⟨_, rfl, q1, _, _, _, rfl, rfl, SqT.of (s1 _ _ g1), at0, rfl, _, rfl, itF rfl ?_⟩
      refine ⟨_, rfl, q1, _, rfl, .inl (SqT.of (s1 _ _ g1)), _, rfl, sz (by show 4 ≤ 100000; decide), fun t1 ht1 => ?_⟩
      have s2 := same_new ht1 (.tup [.str "tell", .str y, .ref b1, .ref b'])
      exact ⟨t1, _, _, _, _, _, rfl, s1.trans s2, b1, b', upd_same, g2.tk (tk_same (s1.trans s2)), PAt.tk (tk_same s2) h1⟩
    | post j y u =>
      obtain ⟨g1, g2⟩ := g
      refine ⟨_, rfl, q1, _, _, _, rfl, rfl, SqT.of (s1 _ _ g1), at0, rfl, _, rfl, itT rfl ?_⟩
      refine ⟨_, rfl, q1, _, rfl, SqT.of (s1 _ _ g1), rfl, _, _, rfl, _, _, rfl, _, _, rfl, _, _, rfl, rfl, ?_⟩
      refine ⟨_, rfl, _, rfl, _, rfl, _, rfl, _, rfl, sz (by show 5 ≤ 100000; decide), fun t1 ht1 => ?_⟩
      have s2 := same_new ht1 (.tup [.str "post", .str j, .str y, .ref b', .ref b1])
      exact ⟨t1, _, _, _, _, _, rfl, s1.trans s2, b', b1, upd_same, PAt.tk (tk_same s2) h1, PAt.tk (tk_same (s1.trans s2)) g2⟩
  · rintro σ H1 ⟨b', o2, o3, o4, o5, o6, rfl, s1, h1⟩
    rw [hlen, Nat.sub_self, List.drop_zero] at h1
    exact ⟨_, rfl, q H1 b' s1 h1⟩
end
end KB

namespace KB
open PySem L2 HT

/-! ### a turning as it stands -/
structure TuA where
  (p dT nw dN td jl rl gl : Addr)
def RowV (H : Hp) (r : List Ld) (v : V) : Prop := ∃ ra vs, v = .ref ra ∧ H ra = some (.lst vs) ∧ All2 (LdV H) r vs
structure TuAt (CN CT : Addr) (H0 H : Hp) (A : TuA) (tk : List Str) (c : Cg) (ras : List Addr) : Prop where
  ob : H A.p = some (.ins CT A.dT (fsT (.ref A.nw) (.ref A.jl) (.ref A.rl) (.ref A.gl)))
  nw : NWAt CN H A.nw A.dN A.td tk c.m
  js : ∃ js, H A.jl = some (.lst js.reverse) ∧ All2 (JbV H) c.jobs js
  rl : H A.rl = some (.lst (ras.map V.ref).reverse)
  rs : All2 (RowV H) c.rows (ras.map V.ref)
  gs : ∃ gs, H A.gl = some (.lst gs.reverse) ∧ All2 (GtV H) c.got gs
  nd : ras.Nodup
  n1 : A.jl ≠ A.rl
  n2 : A.jl ≠ A.gl
  n3 : A.rl ≠ A.gl
  n4 : A.p ≠ A.nw
  n5 : ∀ x ∈ ras, x ≠ A.jl ∧ x ≠ A.rl ∧ x ≠ A.gl
  sm : Same H0 H
  o1 : H0 A.jl = none
  o2 : H0 A.rl = none
  o3 : H0 A.gl = none
  o4 : H0 A.nw = none
  o5 : ∀ x ∈ ras, H0 x = none
section
variable {CN CT : Addr} {H0 H H' : Hp} {A : TuA} {tk : List Str} {c : Cg} {ras : List Addr}
theorem RowV.mono (e : Same H H') {r : List Ld} {v : V} (h : RowV H r v) : RowV H' r v := by
  obtain ⟨ra, vs, e1, h1, h2⟩ := h
  exact ⟨ra, vs, e1, e _ _ h1, h2.imp fun _ _ z => z.tk (tk_same e)⟩
theorem TuAt.mono (e : Same H H') (h : TuAt CN CT H0 H A tk c ras) : TuAt CN CT H0 H' A tk c ras := by
  obtain ⟨js, j1, j2⟩ := h.js
  obtain ⟨gs, g1, g2⟩ := h.gs
  obtain ⟨kvs, k1, k2⟩ := h.nw.tk
  exact ⟨e _ _ h.ob, ⟨e _ _ h.nw.ob, kvs, e _ _ k1, k2⟩, ⟨js, e _ _ j1, j2.imp fun _ _ z => z.tk (tk_same e)⟩, e _ _ h.rl, h.rs.imp fun _ _ z => z.mono e, ⟨gs, e _ _ g1, g2.imp fun _ _ z => z.tk (tk_same e)⟩, h.nd, h.n1, h.n2, h.n3, h.n4, h.n5, h.sm.trans e, h.o1, h.o2, h.o3, h.o4, h.o5⟩
/-- another address than that of a list -/
theorem TuAt.lst_ne (h : TuAt CN CT H0 H A tk c ras) {x : Addr} {xs : List V} (hx : H x = some (.lst xs)) : A.p ≠ x ∧ A.nw ≠ x ∧ A.td ≠ x := by
  obtain ⟨kvs, k1, k2⟩ := h.nw.tk
  exact ⟨ne_of h.ob hx (by intro z; cases z), ne_of h.nw.ob hx (by intro z; cases z), ne_of k1 hx (by intro z; cases z)⟩
theorem rows_put {x : Addr} {o : HO} {R : List (List Ld)} {ras : List Addr} (tk : TK H (upd H x o)) (n : ∀ y ∈ ras, y ≠ x) (h : All2 (RowV H) R (ras.map V.ref)) : All2 (RowV (upd H x o)) R (ras.map V.ref) := by
  induction ras generalizing R with
  | nil => cases R with
    | nil => trivial
    | cons _ _ => exact h.elim
  | cons a r ih => cases R with
    | nil => exact h.elim
    | cons b R =>
      obtain ⟨⟨ra, vs, e1, h1, h2⟩, h3⟩ := h
      refine ⟨⟨ra, vs, e1, ?_, h2.imp fun _ _ z => z.tk tk⟩, ih (fun y hy => n y (List.mem_cons_of_mem _ hy)) h3⟩
      cases e1
      rw [upd_ne (n a List.mem_cons_self)]
      exact h1
theorem TuAt.setJobs (h : TuAt CN CT H0 H A tk c ras) {J : List Jb} {js' : List V} (k : All2 (JbV H) J js') : TuAt CN CT H0 (upd H A.jl (.lst js'.reverse)) A tk { c with jobs := J } ras := by
  obtain ⟨js, j1, j2⟩ := h.js
  obtain ⟨gs, g1, g2⟩ := h.gs
  obtain ⟨kvs, k1, k2⟩ := h.nw.tk
  obtain ⟨e1, e2, e3⟩ := h.lst_ne j1
  have tkk : TK H (upd H A.jl (.lst js'.reverse)) := tk_put j1
  refine ⟨by rw [upd_ne e1]; exact h.ob, ⟨by rw [upd_ne e2]; exact h.nw.ob, kvs, by rw [upd_ne e3]; exact k1, k2⟩, ⟨js', upd_same, k.imp fun _ _ z => z.tk tkk⟩, by rw [upd_ne h.n1.symm]; exact h.rl, rows_put tkk (fun y hy => (h.n5 y hy).1) h.rs,
    ⟨gs, by rw [upd_ne h.n2.symm]; exact g1, g2.imp fun _ _ z => z.tk tkk⟩, h.nd, h.n1, h.n2, h.n3, h.n4, h.n5, same_mut h.sm h.o1, h.o1, h.o2, h.o3, h.o4, h.o5⟩
theorem TuAt.setGot (h : TuAt CN CT H0 H A tk c ras) {G : List Gt} {gs' : List V} (k : All2 (GtV H) G gs') : TuAt CN CT H0 (upd H A.gl (.lst gs'.reverse)) A tk { c with got := G } ras := by
  obtain ⟨js, j1, j2⟩ := h.js
  obtain ⟨gs, g1, g2⟩ := h.gs
  obtain ⟨kvs, k1, k2⟩ := h.nw.tk
  obtain ⟨e1, e2, e3⟩ := h.lst_ne g1
  have tkk : TK H (upd H A.gl (.lst gs'.reverse)) := tk_put g1
  refine ⟨by rw [upd_ne e1]; exact h.ob, ⟨by rw [upd_ne e2]; exact h.nw.ob, kvs, by rw [upd_ne e3]; exact k1, k2⟩, ⟨js, by rw [upd_ne h.n2]; exact j1, j2.imp fun _ _ z => z.tk tkk⟩, by rw [upd_ne h.n3]; exact h.rl, rows_put tkk (fun y hy => (h.n5 y hy).2.2) h.rs,
    ⟨gs', upd_same, k.imp fun _ _ z => z.tk tkk⟩, h.nd, h.n1, h.n2, h.n3, h.n4, h.n5, same_mut h.sm h.o3, h.o1, h.o2, h.o3, h.o4, h.o5⟩
theorem TuAt.setM (h : TuAt CN CT H0 H A tk c ras) (m' : Nat) : TuAt CN CT H0 (upd H A.nw (.ins CN A.dN (fsN (.ref A.td) (.int (m' : Int))))) A tk { c with m := m' } ras := by
  obtain ⟨js, j1, j2⟩ := h.js
  obtain ⟨gs, g1, g2⟩ := h.gs
  have tkk : TK H (upd H A.nw (.ins CN A.dN (fsN (.ref A.td) (.int (m' : Int))))) := tk_upd h.nw.ob (by intro xs z; cases z)
  have nr : ∀ y ∈ ras, y ≠ A.nw := fun y hy => by
    have : ∀ {R : List (List Ld)} {l : List Addr}, y ∈ l → All2 (RowV H) R (l.map V.ref) → ∃ vs, H y = some (.lst vs) := by
      intro R l
      induction l generalizing R with
      | nil => intro z; cases z
      | cons a r ih =>
        intro z k
        cases R with
        | nil => exact k.elim
        | cons b R =>
          obtain ⟨⟨ra, vs, e1, h1, h2⟩, h3⟩ := k
          cases e1
          rcases List.mem_cons.mp z with z | z
          · subst z; exact ⟨vs, h1⟩
          · exact ih z h3
    obtain ⟨vs, hv⟩ := this hy h.rs
    exact ne_of hv h.nw.ob (by intro z; cases z)
  refine ⟨by rw [upd_ne h.n4]; exact h.ob, h.nw.put m', ⟨js, by rw [upd_ne (h.lst_ne j1).2.1.symm]; exact j1, j2.imp fun _ _ z => z.tk tkk⟩, by rw [upd_ne (h.lst_ne h.rl).2.1.symm]; exact h.rl, rows_put tkk nr h.rs,
    ⟨gs, by rw [upd_ne (h.lst_ne g1).2.1.symm]; exact g1, g2.imp fun _ _ z => z.tk tkk⟩, h.nd, h.n1, h.n2, h.n3, h.n4, h.n5, same_mut h.sm h.o4, h.o1, h.o2, h.o3, h.o4, h.o5⟩
/-- a new row -/
theorem TuAt.pushRow (h : TuAt CN CT H0 H A tk c ras) {ra : Addr} (n : H ra = none) : TuAt CN CT H0 (upd (upd H ra (.lst [])) A.rl (.lst ((ra :: ras).map V.ref).reverse)) A tk { c with rows := [] :: c.rows } (ra :: ras) := by
  have e := same_new n (.lst [])
  have h1 := h.mono e
  obtain ⟨js, j1, j2⟩ := h1.js
  obtain ⟨gs, g1, g2⟩ := h1.gs
  obtain ⟨kvs, k1, k2⟩ := h1.nw.tk
  obtain ⟨e1, e2, e3⟩ := h1.lst_ne h1.rl
  have old : ∀ {x : Addr} {o : HO}, H x = some o → x ≠ ra := fun q => ne_of_none q n
  obtain ⟨js0, j10, _⟩ := h.js
  obtain ⟨gs0, g10, _⟩ := h.gs
  have nr := old h.rl
  have tkk : TK (upd H ra (.lst [])) (upd (upd H ra (.lst [])) A.rl (.lst ((ra :: ras).map V.ref).reverse)) := tk_put h1.rl
  refine ⟨by rw [upd_ne e1]; exact h1.ob, ⟨by rw [upd_ne e2]; exact h1.nw.ob, kvs, by rw [upd_ne e3]; exact k1, k2⟩, ⟨js, by rw [upd_ne h.n1]; exact j1, j2.imp fun _ _ z => z.tk tkk⟩, upd_same,
    ⟨⟨ra, [], rfl, by rw [upd_ne nr.symm]; exact upd_same, trivial⟩, rows_put tkk (fun y hy => (h.n5 y hy).2.1) h1.rs⟩, ⟨gs, by rw [upd_ne h.n3.symm]; exact g1, g2.imp fun _ _ z => z.tk tkk⟩, ?_, h.n1, h.n2, h.n3, h.n4, ?_, same_mut h1.sm h.o2, h.o1, h.o2, h.o3, h.o4, ?_⟩
  · refine List.nodup_cons.mpr ⟨fun z => ?_, h.nd⟩
    have : ∀ {R : List (List Ld)} {l : List Addr}, ra ∈ l → All2 (RowV H) R (l.map V.ref) → False := by
      intro R l
      induction l generalizing R with
      | nil => intro z; cases z
      | cons a r ih =>
        intro z k
        cases R with
        | nil => exact k.elim
        | cons b R =>
          obtain ⟨⟨r2, vs, e1, h1, h2⟩, h3⟩ := k
          cases e1
          rcases List.mem_cons.mp z with z | z
          · subst z
            rw [h1] at n
            cases n
          · exact ih z h3
    exact this z h.rs
  · intro y hy
    rcases List.mem_cons.mp hy with z | z
    · subst z
      exact ⟨(old j10).symm, nr.symm, (old g10).symm⟩
    · exact h.n5 y z
  · intro y hy
    rcases List.mem_cons.mp hy with z | z
    · subst z
      exact h.sm.free n
    · exact h.o5 y z
/-- the last row taken away -/
theorem TuAt.popRow {r : List Ld} {R : List (List Ld)} {ra : Addr} (h : TuAt CN CT H0 H A tk { c with rows := r :: R } (ra :: ras)) : TuAt CN CT H0 (upd H A.rl (.lst (ras.map V.ref).reverse)) A tk { c with rows := R } ras := by
  obtain ⟨js, j1, j2⟩ := h.js
  obtain ⟨gs, g1, g2⟩ := h.gs
  obtain ⟨kvs, k1, k2⟩ := h.nw.tk
  obtain ⟨e1, e2, e3⟩ := h.lst_ne h.rl
  have tkk : TK H (upd H A.rl (.lst (ras.map V.ref).reverse)) := tk_put h.rl
  exact ⟨by rw [upd_ne e1]; exact h.ob, ⟨by rw [upd_ne e2]; exact h.nw.ob, kvs, by rw [upd_ne e3]; exact k1, k2⟩, ⟨js, by rw [upd_ne h.n1]; exact j1, j2.imp fun _ _ z => z.tk tkk⟩, upd_same,
    rows_put tkk (fun y hy => (h.n5 y (List.mem_cons_of_mem _ hy)).2.1) h.rs.2, ⟨gs, by rw [upd_ne h.n3.symm]; exact g1, g2.imp fun _ _ z => z.tk tkk⟩, (List.nodup_cons.mp h.nd).2, h.n1, h.n2, h.n3, h.n4, fun y hy => h.n5 y (List.mem_cons_of_mem _ hy), same_mut h.sm h.o2, h.o1, h.o2, h.o3, h.o4, fun y hy => h.o5 y (List.mem_cons_of_mem _ hy)⟩
/-- a lead put behind the last row's -/
theorem TuAt.addLead {r : List Ld} {R : List (List Ld)} {ra : Addr} {vs : List V} {l : Ld} {v : V} (h : TuAt CN CT H0 H A tk { c with rows := r :: R } (ra :: ras)) (hv : H ra = some (.lst vs)) (kv : All2 (LdV H) r vs) (kl : LdV H l v) :
    TuAt CN CT H0 (upd H ra (.lst (vs ++ [v]))) A tk { c with rows := (r ++ [l]) :: R } (ra :: ras) := by
  obtain ⟨js, j1, j2⟩ := h.js
  obtain ⟨gs, g1, g2⟩ := h.gs
  obtain ⟨kvs, k1, k2⟩ := h.nw.tk
  obtain ⟨e1, e2, e3⟩ := h.lst_ne hv
  obtain ⟨a1, a2, a3⟩ := h.n5 ra List.mem_cons_self
  have tkk : TK H (upd H ra (.lst (vs ++ [v]))) := tk_put hv
  have nd := List.nodup_cons.mp h.nd
  refine ⟨by rw [upd_ne e1]; exact h.ob, ⟨by rw [upd_ne e2]; exact h.nw.ob, kvs, by rw [upd_ne e3]; exact k1, k2⟩, ⟨js, by rw [upd_ne a1.symm]; exact j1, j2.imp fun _ _ z => z.tk tkk⟩, by rw [upd_ne a2.symm]; exact h.rl,
    ⟨⟨ra, vs ++ [v], rfl, upd_same, (kv.imp fun _ _ z => z.tk tkk).app ⟨kl.tk tkk, trivial⟩⟩, rows_put tkk (fun y hy z => nd.1 (z ▸ hy)) h.rs.2⟩, ⟨gs, by rw [upd_ne a3.symm]; exact g1, g2.imp fun _ _ z => z.tk tkk⟩, h.nd, h.n1, h.n2, h.n3, h.n4, h.n5, same_mut h.sm (h.o5 ra List.mem_cons_self), h.o1, h.o2, h.o3, h.o4, h.o5⟩
end
theorem l_new (a b c d : V) : (fsT a b c d).lookup ("new_words" : Str) = some a := by rfl
theorem l_jobs (a b c d : V) : (fsT a b c d).lookup ("jobs" : Str) = some b := by rfl
theorem l_rows (a b c d : V) : (fsT a b c d).lookup ("rows" : Str) = some c := by rfl
theorem l_got (a b c d : V) : (fsT a b c d).lookup ("got" : Str) = some d := by rfl
section
variable {P : Program} {w : World} {K : PySem.W.Frag} {mg : Str → Option Value} {base : Heap} {CN CT : Addr}
/-! ### jobs_done -/
def spJdone : Sp := fun vs H Q _ => ∃ (p a : Addr) (t : Tm) (j : Str), vs = [.ref p, .ref a, .str j] ∧ At H t a ∧ ∀ r H' us, H r = none → Same H H' → H' r = some (.lst us) → All2 (JbV H') (doneJ t j) us → Q (.ref r) H'
abbrev sJdone : Stmt := inClass (top 38) 3
theorem scJdone : FnScope ["self", "term", "j"] ["self", "term", "j"] (defScope sJdone) := ⟨rfl, rfl, rfl, by decide +kernel, rfl, by decide +kernel, by decide +kernel⟩
theorem ok_jdone {f f1 : Addr} {fd d1 : FuncData} (F : Fun K "jobs_done" "Turning.jobs_done" sJdone f fd) (Gjobs_to_end : FnOk P w K mg base CX0 1 f1 d1 ["term", "j"] spJend) (Rjobs_to_end : Ref K mg "jobs_to_end" f1 d1 ["term", "j"]) : FnOk P w K mg base CX0 2 f fd ["self", "term", "j"] spJdone := by
  refine F.ok scJdone (fun vs H Q E h => ?_) (fun cdv A outer s H vs Q E hr h => ?_)
  · obtain ⟨p, a, t, j, rfl, _⟩ := h
    rfl
  obtain ⟨p, a, t, j, rfl, hA, q⟩ := h
  refine ⟨_, (pss_cons (ps_if (pt_cmpR op_eq (pe_ix ix_tup (pv 1) pe_int (fun _ _ => rfl)) pe_str (nomark _)) (pss_one (ps_ret (pe_lst (pa_cons (pe_tup (pa_cons pe_str (pa_cons (pe_ix ix_tup (pv 1) pe_int (fun _ _ => rfl)) (pa_cons (pe_ix ix_tup (pv 1) pe_int (fun _ _ => rfl)) pa_nil)))) (pa_cons (pe_tup (pa_cons pe_str (pa_cons (pe_ix ix_tup (pv 1) pe_int (fun _ _ => rfl)) (pa_cons (pv 2) pa_nil)))) pa_nil))))) pss_nil)
    (pss_one (ps_ret (pe_lst (StX.pa_star (pe_call Gjobs_to_end (hr.mono (by omega)) rfl Rjobs_to_end.m Rjobs_to_end.k Rjobs_to_end.b .nil pass0 (pa_cons (pv 1) (pa_cons (pv 2) pa_nil))) (pa_cons (pe_tup (pa_cons pe_str pa_nil)) pa_nil)))))), ?_⟩
  obtain ⟨xs, l, kx⟩ := hA.kids
  obtain ⟨r0, hd⟩ := l.head
  have hlk := kx.len
  refine ⟨_, rfl, a, _, _, _, rfl, rfl, SqT.of hd, at0, rfl, _, rfl, ?_⟩
  refine ite2 (fun c => ?_) (fun c => ?_)
  · obtain ⟨x, hh⟩ := hs_let (V.str.inj (of_decide_eq_true c))
    rw [hh] at l
    obtain ⟨u1, u2, e2⟩ := two_of (show (kidsT t).length = 2 by rw [← hlk]; exact l.1)
    have eE : doneJ t j = [.put u1 x, .done u2 j] := by
      unfold doneJ
      rw [hh, e2]
    rw [eE] at q
    rw [e2] at kx
    obtain ⟨v1, v2, rfl, ⟨b1, rfl, g1⟩, ⟨b2, rfl, g2⟩⟩ := all2_two kx
    have la : H a = some (.tup [.str "let", .str x, .ref b1, .ref b2]) := l.2
    refine ⟨_, rfl, a, _, _, _, rfl, rfl, SqT.of la, at2, _, rfl, a, _, _, _, rfl, rfl, SqT.of la, at1, sz (by show 3 ≤ 100000; decide), fun t1 ht1 => ?_⟩
    have s1 := same_new ht1 (.tup [.str "put", .ref b1, .str x])
    refine ⟨_, rfl, a, _, _, _, rfl, rfl, SqT.of (s1 _ _ la), at3, _, rfl, sz (by show 3 ≤ 100000; decide), fun t2 ht2 => ?_⟩
    have s2 := same_new ht2 (.tup [.str "done", .ref b2, .str j])
    refine ⟨sz (by show 2 ≤ 100000; decide), fun r hr2 => ?_⟩
    have s3 := same_new hr2 (.lst [.ref t1, .ref t2])
    have s13 := s1.trans (s2.trans s3)
    exact q r _ _ ((s1.trans s2).free hr2) s13 upd_same ⟨⟨t1, rfl, b1, (s2.trans s3) _ _ upd_same, g1.tk (tk_same s13)⟩, ⟨t2, rfl, b2, s3 _ _ upd_same, g2.tk (tk_same s13)⟩, trivial⟩
  · have eE : doneJ t j = endJ t j ++ [.close] := by
      unfold doneJ
      cases hh : hdT t with
      | lett x => rw [hh] at c; exact absurd (decide_eq_true rfl) c
      | _ => rfl
    rw [eE] at q
    refine ⟨_, rfl, _, rfl, a, t, j, rfl, hA, fun r1 H1 us1 hr1 s1 h1 k1 => ?_⟩
    have hl1 := len_wJs (endJ t j)
    have hul := k1.len
    refine ⟨r1, us1, rfl, .inr (SqL.of h1), sz (by show 1 ≤ 100000; decide), fun t1 ht1 => ?_⟩
    have s2 := same_new ht1 (.tup [.str "close"])
    have hcn : (endJ t j).length ≤ 10 := by
      have ha := hA.ar
      unfold arN at ha
      unfold endJ
      cases hh : hdT t with
      | ask g =>
        rw [hh] at ha
        have h4 : (kidsT t).length ≤ 4 := ha
        show ((kidsT t).map Jb.simple ++ [Jb.ask g (kidsT t).length j]).length ≤ 10
        rw [List.length_append, List.length_map, List.length_singleton]
        omega
      | iff =>
        rw [hh] at ha
        obtain ⟨u1, u2, u3, e3⟩ := three_of (show (kidsT t).length = 3 from ha)
        rw [e3]
        show 6 ≤ 10
        decide
      | _ => show 2 ≤ 10; decide
    refine ⟨sz (by rw [List.length_append, List.length_singleton]; omega), fun r hr2 => ?_⟩
    have s3 := same_new hr2 (.lst (us1 ++ [.ref t1]))
    have s12 := s1.trans s2
    exact q r _ _ (s12.free hr2) (s12.trans s3) upd_same ((k1.imp fun _ _ z => JbV.tk (tk_same (s2.trans s3)) z).app ⟨⟨t1, rfl, s3 _ _ upd_same⟩, trivial⟩)
theorem endJ_len {t : Tm} {j : Str} (ha : arN t) : (endJ t j).length ≤ 10 := by
  unfold arN at ha
  unfold endJ
  cases hh : hdT t with
  | ask g =>
    rw [hh] at ha
    have h4 : (kidsT t).length ≤ 4 := ha
    show ((kidsT t).map Jb.simple ++ [Jb.ask g (kidsT t).length j]).length ≤ 10
    rw [List.length_append, List.length_map, List.length_singleton]
    omega
  | iff =>
    rw [hh] at ha
    obtain ⟨u1, u2, u3, e3⟩ := three_of (show (kidsT t).length = 3 from ha)
    rw [e3]
    show 6 ≤ 10
    decide
  | _ => show 2 ≤ 10; decide
/-! ### jobs_put, jobs_simple -/
def spJput (CN CT : Addr) : Sp := fun vs H Q _ => ∃ (H0 : Hp) (A : TuA) (tk : List Str) (c : Cg) (ras : List Addr) (a : Addr) (t : Tm) (x : Str), vs = [.ref A.p, .ref a, .str x] ∧ TuAt CN CT H0 H A tk c ras ∧ At H t a ∧ c.m + tk.length + 2 < 26 ^ 9 ∧
  ∀ r H' us w m', (wordH (hdT t) = true → NwR tk c.m w m') → (wordH (hdT t) = false → m' = c.m) → TK H H' → TuAt CN CT H0 H' A tk { c with m := m' } ras → H' r = some (.lst us) → All2 (JbV H') (putJ t x w) us → Q (.ref r) H'
abbrev sJput : Stmt := inClass (top 38) 4
theorem scJput : FnScope ["self", "term", "x", "j"] ["self", "term", "x"] (defScope sJput) := ⟨rfl, rfl, rfl, by decide +kernel, rfl, by decide +kernel, by decide +kernel⟩
theorem ok_jput (X : TxN K mg CN CT) {f f1 fm : Addr} {fd d1 dm : FuncData} (F : Fun K "jobs_put" "Turning.jobs_put" sJput f fd) (Gjobs_to_end : FnOk P w K mg base CX0 1 f1 d1 ["term", "j"] spJend) (Rjobs_to_end : Ref K mg "jobs_to_end" f1 d1 ["term", "j"])
    (GM : FnOk P w K mg base CX0 2 fm dm ["self"] (spMore CN)) (bM : Binds K dm ["self"] []) (mM : Meth K CN "one_more" fm) : FnOk P w K mg base CX0 3 f fd ["self", "term", "x"] (spJput CN CT) := by
  refine F.ok scJput (fun vs H Q E h => ?_) (fun cdv A outer s H vs Q E hr h => ?_)
  · obtain ⟨H0, A, tk, c, ras, a, t, x, rfl, _⟩ := h
    rfl
  obtain ⟨H0, A, tk, c, ras, a, t, x, rfl, hT, hA, hm, q⟩ := h
  refine ⟨_, (pss_cons (ps_if (pt_cmpR op_eq (pe_ix ix_tup (pv 1) pe_int (fun _ _ => rfl)) pe_str (nomark _)) (pss_one (ps_ret (pe_lst (pa_cons (pe_tup (pa_cons pe_str (pa_cons (pe_ix ix_tup (pv 1) pe_int (fun _ _ => rfl)) (pa_cons (pe_ix ix_tup (pv 1) pe_int (fun _ _ => rfl)) pa_nil)))) (pa_cons (pe_tup (pa_cons pe_str (pa_cons (pe_ix ix_tup (pv 1) pe_int (fun _ _ => rfl)) (pa_cons (pv 2) pa_nil)))) pa_nil))))) pss_nil)
    (pss_cons (ps_if (pt_cmpR op_in_seq (pe_ix ix_tup (pv 1) pe_int (fun _ _ => rfl)) (pe_tup (pa_cons pe_str (pa_cons pe_str pa_nil))) rfl) (pss_cons (ps_set (i := 3) scJput.nd rfl (Or.inl rfl) (pe_meth0 (pe_fld (pv 0) rfl) X.clN mM GM (hr.mono (by omega)) bM .nil pass0))
    (pss_one (ps_ret (pe_lst (StX.pa_star (pe_call Gjobs_to_end (hr.mono (by omega)) rfl Rjobs_to_end.m Rjobs_to_end.k Rjobs_to_end.b .nil pass0 (pa_cons (pv 1) (pa_cons (pv 3) pa_nil))) (pa_cons (pe_tup (pa_cons pe_str (pa_cons (pv 3) (pa_cons (pv 2) pa_nil)))) pa_nil)))))) pss_nil)
    (pss_cons (ps_if (pt_cmpR op_eq (pe_ix ix_tup (pv 1) pe_int (fun _ _ => rfl)) pe_str (nomark _)) (pss_one (ps_ret (pe_lst (pa_cons (pe_tup (pa_cons pe_str (pa_cons (pe_ix ix_tup (pv 1) pe_int (fun _ _ => rfl)) pa_nil))) (pa_cons (pe_tup (pa_cons pe_str (pa_cons (pv 2) pa_nil))) pa_nil))))) pss_nil)
    (pss_one (ps_ret (pe_lst (pa_cons (pe_tup (pa_cons pe_str (pa_cons (pv 1) pa_nil))) (pa_cons (pe_tup (pa_cons pe_str (pa_cons (pv 2) pa_nil))) pa_nil)))))))), ?_⟩
  obtain ⟨xs, l, kx⟩ := hA.kids
  obtain ⟨r0, hd⟩ := l.head
  have hlk := kx.len
  refine ⟨_, rfl, a, _, _, _, rfl, rfl, SqT.of hd, at0, rfl, _, rfl, ?_⟩
  refine ite2 (fun c0 => ?_) (fun c0 => ?_)
  · obtain ⟨y, hh⟩ := hs_let (V.str.inj (of_decide_eq_true c0))
    rw [hh] at l
    obtain ⟨u1, u2, e2⟩ := two_of (show (kidsT t).length = 2 by rw [← hlk]; exact l.1)
    have eE : ∀ w, putJ t x w = [.put u1 y, .put u2 x] := fun w => by
      unfold putJ
      rw [hh, e2]
    rw [e2] at kx
    obtain ⟨v1, v2, rfl, ⟨b1, rfl, g1⟩, ⟨b2, rfl, g2⟩⟩ := all2_two kx
    have la : H a = some (.tup [.str "let", .str y, .ref b1, .ref b2]) := l.2
    refine ⟨_, rfl, a, _, _, _, rfl, rfl, SqT.of la, at2, _, rfl, a, _, _, _, rfl, rfl, SqT.of la, at1, sz (by show 3 ≤ 100000; decide), fun t1 ht1 => ?_⟩
    have s1 := same_new ht1 (.tup [.str "put", .ref b1, .str y])
    refine ⟨_, rfl, a, _, _, _, rfl, rfl, SqT.of (s1 _ _ la), at3, _, rfl, sz (by show 3 ≤ 100000; decide), fun t2 ht2 => ?_⟩
    have s2 := same_new ht2 (.tup [.str "put", .ref b2, .str x])
    refine ⟨sz (by show 2 ≤ 100000; decide), fun r hr2 => ?_⟩
    have s3 := same_new hr2 (.lst [.ref t1, .ref t2])
    have s13 := s1.trans (s2.trans s3)
    refine q r _ _ "" c.m (fun z => by rw [hh] at z; cases z) (fun _ => rfl) (tk_same s13) (hT.mono s13) upd_same ?_
    rw [eE]
    exact ⟨⟨t1, rfl, b1, (s2.trans s3) _ _ upd_same, g1.tk (tk_same s13)⟩, ⟨t2, rfl, b2, s3 _ _ upd_same, g2.tk (tk_same s13)⟩, trivial⟩
  refine ⟨_, rfl, a, _, _, _, rfl, rfl, SqT.of hd, at0, sz (by show 2 ≤ 100000; decide), fun t0 ht0 => ?_⟩
  have s0 := same_new ht0 (.tup [.str "ask", .str "if"])
  refine ⟨t0, _, rfl, .inr (SqT.of upd_same), rfl, rfl, _, rfl, ?_⟩
  have hin : inV (.str (hs (hdT t))) [.str "ask", .str "if"] = wordH (hdT t) := by
    cases hdT t <;> rfl
  have hT0 := hT.mono s0
  have hA0 := hA.tk (tk_same s0)
  have hd0 := s0 _ _ hd
  generalize upd H t0 (.tup [.str "ask", .str "if"]) = Ha at s0 hT0 hA0 hd0
  show if inV (.str (hs (hdT t))) [.str "ask", .str "if"] = true then _ else _
  rw [hin]
  cases hw : wordH (hdT t) with
  | true =>
    refine itT rfl ⟨_, rfl, A.p, CT, _, _, _, rfl, hT0.ob, X.clT, X.tNew, l_new _ _ _ _, A.nw, _, _, rfl, hT0.nw.ob, by rfl, A.nw, A.dN, A.td, tk, c.m, rfl, hT0.nw, hm, fun w m' hwm => ?_⟩
    have hT1 := hT0.setM m'
    have tk1 : TK Ha (upd Ha A.nw (.ins CN A.dN (fsN (.ref A.td) (.int (m' : Int))))) := tk_upd hT0.nw.ob (by intro xs z; cases z)
    have hA1 := hA0.tk tk1
    generalize upd Ha A.nw (.ins CN A.dN (fsN (.ref A.td) (.int (m' : Int)))) = H1 at hT1 tk1 hA1
    have eE : putJ t x w = endJ t w ++ [.post w x] := by
      unfold putJ
      cases hh : hdT t with
      | ask g => rfl
      | iff => rfl
      | _ => rw [hh] at hw; cases hw
    refine ⟨_, rfl, _, rfl, a, t, w, rfl, hA1, fun r1 H2 us1 hr1 s2 h2 k2 => ?_⟩
    have hul := k2.len
    have hel := endJ_len (j := w) hA.ar
    refine ⟨r1, us1, rfl, .inr (SqL.of h2), _, rfl, _, rfl, sz (by show 3 ≤ 100000; decide), fun t1 ht1 => ?_⟩
    have s3 := same_new ht1 (.tup [.str "post", .str w, .str x])
    refine ⟨sz (by rw [List.length_append, List.length_singleton]; omega), fun r hr2 => ?_⟩
    have s4 := same_new hr2 (.lst (us1 ++ [.ref t1]))
    refine q r _ _ w m' (fun _ => hwm) (fun z => by rw [hw] at z; cases z) ((tk_same s0).trans (tk1.trans (tk_same (s2.trans (s3.trans s4))))) (hT1.mono (s2.trans (s3.trans s4))) upd_same ?_
    rw [eE]
    exact (k2.imp fun _ _ z => JbV.tk (tk_same (s3.trans s4)) z).app ⟨⟨t1, rfl, s4 _ _ upd_same⟩, trivial⟩
  | false =>
    refine itF rfl ⟨_, rfl, a, _, _, _, rfl, rfl, SqT.of hd0, at0, rfl, _, rfl, ?_⟩
    refine ite2 (fun c2 => ?_) (fun c2 => ?_)
    · have hh := hs_tell (V.str.inj (of_decide_eq_true c2))
      rw [hh] at l
      obtain ⟨u1, e1⟩ := one_of (show (kidsT t).length = 1 by rw [← hlk]; exact l.1)
      have eE : ∀ w, putJ t x w = [.simple u1, .tell x] := fun w => by
        unfold putJ
        rw [hh, e1]
      rw [e1] at kx
      obtain ⟨v1, rfl, b1, rfl, g1⟩ := all2_one kx
      have la : Ha a = some (.tup [.str "tell", .ref b1]) := s0 _ _ l.2
      refine ⟨_, rfl, a, _, _, _, rfl, rfl, SqT.of la, at1, sz (by show 2 ≤ 100000; decide), fun t1 ht1 => ?_⟩
      have s1 := same_new ht1 (.tup [.str "simple", .ref b1])
      refine ⟨_, rfl, sz (by show 2 ≤ 100000; decide), fun t2 ht2 => ?_⟩
      have s2 := same_new ht2 (.tup [.str "tell", .str x])
      refine ⟨sz (by show 2 ≤ 100000; decide), fun r hr2 => ?_⟩
      have s3 := same_new hr2 (.lst [.ref t1, .ref t2])
      have s13 := s1.trans (s2.trans s3)
      refine q r _ _ "" c.m (fun z => by rw [hw] at z; cases z) (fun _ => rfl) (tk_same (s0.trans s13)) (hT0.mono s13) upd_same ?_
      rw [eE]
      exact ⟨⟨t1, rfl, b1, (s2.trans s3) _ _ upd_same, g1.tk (tk_same (s0.trans s13))⟩, ⟨t2, rfl, s3 _ _ upd_same⟩, trivial⟩
    · have eE : ∀ w, putJ t x w = [.simple t, .lett x] := fun w => by
        unfold putJ
        cases hh : hdT t with
        | lett y => rw [hh] at c0; exact absurd (decide_eq_true rfl) c0
        | tell => rw [hh] at c2; exact absurd (decide_eq_true rfl) c2
        | ask g => rw [hh] at hw; cases hw
        | iff => rw [hh] at hw; cases hw
        | _ => rfl
      refine ⟨_, rfl, sz (by show 2 ≤ 100000; decide), fun t1 ht1 => ?_⟩
      have s1 := same_new ht1 (.tup [.str "simple", .ref a])
      refine ⟨_, rfl, sz (by show 2 ≤ 100000; decide), fun t2 ht2 => ?_⟩
      have s2 := same_new ht2 (.tup [.str "let", .str x])
      refine ⟨sz (by show 2 ≤ 100000; decide), fun r hr2 => ?_⟩
      have s3 := same_new hr2 (.lst [.ref t1, .ref t2])
      have s13 := s1.trans (s2.trans s3)
      refine q r _ _ "" c.m (fun z => by rw [hw] at z; cases z) (fun _ => rfl) (tk_same (s0.trans s13)) (hT0.mono s13) upd_same ?_
      rw [eE]
      exact ⟨⟨t1, rfl, a, (s2.trans s3) _ _ upd_same, hA0.tk (tk_same s13)⟩, ⟨t2, rfl, s3 _ _ upd_same⟩, trivial⟩
end
end KB

namespace KB
open PySem L2 HT
section
variable {P : Program} {w : World} {K : PySem.W.Frag} {mg : Str → Option Value} {base : Heap} {CN CT : Addr}
def spJsimp (CN CT : Addr) : Sp := fun vs H Q _ => ∃ (H0 : Hp) (A : TuA) (tk : List Str) (c : Cg) (ras : List Addr) (a : Addr) (t : Tm), vs = [.ref A.p, .ref a] ∧ TuAt CN CT H0 H A tk c ras ∧ At H t a ∧ c.m + tk.length + 2 < 26 ^ 9 ∧
  ∀ r H' us w m', (wordS (hdT t) = true → NwR tk c.m w m') → (wordS (hdT t) = false → m' = c.m) → TK H H' → TuAt CN CT H0 H' A tk { c with m := m' } ras → H' r = some (.lst us) → All2 (JbV H') (simpJ t w) us → Q (.ref r) H'
abbrev sJsimp : Stmt := inClass (top 38) 5
theorem scJsimp : FnScope ["self", "term", "x"] ["self", "term"] (defScope sJsimp) := ⟨rfl, rfl, rfl, by decide +kernel, rfl, by decide +kernel, by decide +kernel⟩
theorem ok_jsimp (X : TxN K mg CN CT) {f fm : Addr} {fd dm : FuncData} (F : Fun K "jobs_simple" "Turning.jobs_simple" sJsimp f fd)
    (GM : FnOk P w K mg base CX0 2 fm dm ["self"] (spMore CN)) (bM : Binds K dm ["self"] []) (mM : Meth K CN "one_more" fm) : FnOk P w K mg base CX0 3 f fd ["self", "term"] (spJsimp CN CT) := by
  refine F.ok scJsimp (fun vs H Q E h => ?_) (fun cdv A outer s H vs Q E hr h => ?_)
  · obtain ⟨H0, A, tk, c, ras, a, t, rfl, _⟩ := h
    rfl
  obtain ⟨H0, A, tk, c, ras, a, t, rfl, hT, hA, hm, q⟩ := h
  refine ⟨_, (pss_cons (ps_if (pt_cmpR op_in_seq (pe_ix ix_tup (pv 1) pe_int (fun _ _ => rfl)) (pe_tup (pa_cons pe_str (pa_cons pe_str pa_nil))) rfl) (pss_one (ps_ret (pe_lst (pa_cons (pe_tup (pa_cons pe_str (pa_cons (pv 1) pa_nil))) pa_nil)))) pss_nil)
    (pss_cons (ps_if (pt_cmpR op_in_seq (pe_ix ix_tup (pv 1) pe_int (fun _ _ => rfl)) (pe_tup (pa_cons pe_str (pa_cons pe_str pa_nil))) rfl) (pss_one (ps_ret (pe_lst (pa_cons (pe_tup (pa_cons pe_str (pa_cons (pe_ix ix_tup (pv 1) pe_int (fun _ _ => rfl)) pa_nil))) (pa_cons (pe_tup (pa_cons pe_str (pa_cons (pe_ix ix_tup (pv 1) pe_int (fun _ _ => rfl)) pa_nil))) (pa_cons (pe_tup (pa_cons (pe_ix ix_tup (pv 1) pe_int (fun _ _ => rfl)) pa_nil)) pa_nil)))))) pss_nil)
    (pss_cons (ps_if (pt_cmpR op_eq (pe_ix ix_tup (pv 1) pe_int (fun _ _ => rfl)) pe_str (nomark _)) (pss_one (ps_ret (pe_lst (pa_cons (pe_tup (pa_cons pe_str (pa_cons (pe_ix ix_tup (pv 1) pe_int (fun _ _ => rfl)) (pa_cons (pe_ix ix_tup (pv 1) pe_int (fun _ _ => rfl)) pa_nil)))) (pa_cons (pe_tup (pa_cons pe_str (pa_cons (pe_ix ix_tup (pv 1) pe_int (fun _ _ => rfl)) pa_nil))) pa_nil))))) pss_nil)
    (pss_cons (ps_set (i := 2) scJsimp.nd rfl (Or.inl rfl) (pe_meth0 (pe_fld (pv 0) rfl) X.clN mM GM (hr.mono (by omega)) bM .nil pass0))
    (pss_one (ps_ret (pe_lst (pa_cons (pe_tup (pa_cons pe_str (pa_cons (pv 1) (pa_cons (pv 2) pa_nil)))) (pa_cons (pe_tup (pa_cons pe_str (pa_cons (pe_tup (pa_cons pe_str (pa_cons (pv 2) pa_nil))) pa_nil))) pa_nil))))))))), ?_⟩
  obtain ⟨xs, l, kx⟩ := hA.kids
  obtain ⟨r0, hd⟩ := l.head
  have hlk := kx.len
  -- ("number", "name")
  refine ⟨_, rfl, a, _, _, _, rfl, rfl, SqT.of hd, at0, sz (by show 2 ≤ 100000; decide), fun t0 ht0 => ?_⟩
  have s0 := same_new ht0 (.tup [.str "number", .str "name"])
  refine ⟨t0, _, rfl, .inr (SqT.of upd_same), rfl, rfl, _, rfl, ?_⟩
  have hT0 := hT.mono s0
  have hA0 := hA.tk (tk_same s0)
  have l0 := l.mono s0
  have kx0 := kx.imp fun _ _ z => RefV.tk (tk_same s0) z
  have hd0 := s0 _ _ hd
  generalize upd H t0 (.tup [.str "number", .str "name"]) = Ha at s0 hT0 hA0 l0 kx0 hd0
  clear hd l kx
  have leaf : (hs (hdT t) = "number" ∨ hs (hdT t) = "name") → ∀ w, simpJ t w = [.known t] := fun z w => by
    unfold simpJ
    cases hh : hdT t <;> rw [hh] at z <;> dsimp only [hs] at z <;> first | rfl | (exfalso; revert z; decide)
  show if inV (.str (hs (hdT t))) [.str "number", .str "name"] = true then _ else _
  by_cases c1 : inV (.str (hs (hdT t))) [.str "number", .str "name"] = true
  · refine itT c1 ⟨_, rfl, sz (by show 2 ≤ 100000; decide), fun t1 ht1 => ?_⟩
    have hz : hs (hdT t) = "number" ∨ hs (hdT t) = "name" := by
      cases hh : hdT t <;> rw [hh] at c1 <;> dsimp only [hs] at c1 <;> first | exact .inl rfl | exact .inr rfl | (exfalso; revert c1; decide)
    have s1 := same_new ht1 (.tup [.str "known", .ref a])
    refine ⟨sz (by show 1 ≤ 100000; decide), fun r hr2 => ?_⟩
    have s2 := same_new hr2 (.lst [.ref t1])
    have s12 := s1.trans s2
    have nw : wordS (hdT t) = false := by
      cases hh : hdT t <;> rw [hh] at hz <;> dsimp only [hs] at hz <;> first | rfl | (exfalso; revert hz; decide)
    refine q r _ _ "" c.m (fun z => by rw [nw] at z; cases z) (fun _ => rfl) (tk_same (s0.trans s12)) (hT0.mono s12) upd_same ?_
    rw [leaf hz]
    exact ⟨⟨t1, rfl, a, s2 _ _ upd_same, hA0.tk (tk_same s12)⟩, trivial⟩
  refine itF (Bool.eq_false_iff.mpr c1) ?_
  -- ("plus", "less")
  refine ⟨_, rfl, a, _, _, _, rfl, rfl, SqT.of hd0, at0, sz (by show 2 ≤ 100000; decide), fun t2 ht2 => ?_⟩
  have s2 := same_new ht2 (.tup [.str "plus", .str "less"])
  refine ⟨t2, _, rfl, .inr (SqT.of upd_same), rfl, rfl, _, rfl, ?_⟩
  have hT2 := hT0.mono s2
  have hA2 := hA0.tk (tk_same s2)
  have l2 := l0.mono s2
  have kx2 := kx0.imp fun _ _ z => RefV.tk (tk_same s2) z
  have hd2 := s2 _ _ hd0
  have s02 := s0.trans s2
  generalize upd Ha t2 (.tup [.str "plus", .str "less"]) = Hb at s2 s02 hT2 hA2 l2 kx2 hd2
  have opW : ∀ (b : Bool), hdT t = (if b then Hd.less else Hd.plus) → ∃ u1 u2 b1 b2, (∀ w, simpJ t w = [.simple u1, .simple u2, .op b]) ∧ Hb a = some (.tup [.str (if b then "less" else "plus"), .ref b1, .ref b2]) ∧ At Hb u1 b1 ∧ At Hb u2 b2 := fun b hh => by
    rw [hh] at l2
    have h2 : (kidsT t).length = 2 := by
      rw [← hlk]
      cases b <;> exact l2.1
    obtain ⟨u1, u2, e2⟩ := two_of h2
    rw [e2] at kx2
    obtain ⟨v1, v2, e3, ⟨b1, e4, g1⟩, ⟨b2, e5, g2⟩⟩ := all2_two kx2
    subst e3 e4 e5
    refine ⟨u1, u2, b1, b2, fun w => ?_, ?_, g1, g2⟩
    · unfold simpJ
      rw [hh, e2]
      cases b <;> rfl
    · cases b <;> exact l2.2
  show if inV (.str (hs (hdT t))) [.str "plus", .str "less"] = true then _ else _
  by_cases c2 : inV (.str (hs (hdT t))) [.str "plus", .str "less"] = true
  · have hz : ∃ b : Bool, hdT t = (if b then Hd.less else Hd.plus) := by
      cases hh : hdT t <;> rw [hh] at c2 <;> dsimp only [hs] at c2 <;> first | exact ⟨false, rfl⟩ | exact ⟨true, rfl⟩ | (exfalso; revert c2; decide)
    obtain ⟨b, hh⟩ := hz
    obtain ⟨u1, u2, b1, b2, eE, la, g1, g2⟩ := opW b hh
    refine itT c2 ⟨_, rfl, a, _, _, _, rfl, rfl, SqT.of la, at1, sz (by show 2 ≤ 100000; decide), fun t3 ht3 => ?_⟩
    have s3 := same_new ht3 (.tup [.str "simple", .ref b1])
    refine ⟨_, rfl, a, _, _, _, rfl, rfl, SqT.of (s3 _ _ la), at2, sz (by show 2 ≤ 100000; decide), fun t4 ht4 => ?_⟩
    have s4 := same_new ht4 (.tup [.str "simple", .ref b2])
    refine ⟨_, rfl, a, _, _, _, rfl, rfl, SqT.of ((s3.trans s4) _ _ la), at0, sz (by show 1 ≤ 100000; decide), fun t5 ht5 => ?_⟩
    have s5 := same_new ht5 (.tup [.str (if b then "less" else "plus")])
    refine ⟨sz (by show 3 ≤ 100000; decide), fun r hr2 => ?_⟩
    have s6 := same_new hr2 (.lst [.ref t3, .ref t4, .ref t5])
    have s36 := s3.trans (s4.trans (s5.trans s6))
    have nw : wordS (hdT t) = false := by
      rw [hh]
      cases b <;> rfl
    refine q r _ _ "" c.m (fun z => by rw [nw] at z; cases z) (fun _ => rfl) (tk_same (s02.trans s36)) (hT2.mono s36) upd_same ?_
    rw [eE]
    exact ⟨⟨t3, rfl, b1, (s4.trans (s5.trans s6)) _ _ upd_same, g1.tk (tk_same s36)⟩, ⟨t4, rfl, b2, (s5.trans s6) _ _ upd_same, g2.tk (tk_same s36)⟩, ⟨t5, rfl, s6 _ _ upd_same⟩, trivial⟩
  refine itF (Bool.eq_false_iff.mpr c2) ?_
  refine ⟨_, rfl, a, _, _, _, rfl, rfl, SqT.of hd2, at0, rfl, _, rfl, ?_⟩
  refine ite2 (fun c3 => ?_) (fun c3 => ?_)
  · obtain ⟨y, hh⟩ := hs_let (V.str.inj (of_decide_eq_true c3))
    rw [hh] at l2
    obtain ⟨u1, u2, e2⟩ := two_of (show (kidsT t).length = 2 by rw [← hlk]; exact l2.1)
    have eE : ∀ w, simpJ t w = [.put u1 y, .simple u2] := fun w => by
      unfold simpJ
      rw [hh, e2]
    rw [e2] at kx2
    obtain ⟨v1, v2, rfl, ⟨b1, rfl, g1⟩, ⟨b2, rfl, g2⟩⟩ := all2_two kx2
    have la : Hb a = some (.tup [.str "let", .str y, .ref b1, .ref b2]) := l2.2
    refine ⟨_, rfl, a, _, _, _, rfl, rfl, SqT.of la, at2, _, rfl, a, _, _, _, rfl, rfl, SqT.of la, at1, sz (by show 3 ≤ 100000; decide), fun t3 ht3 => ?_⟩
    have s3 := same_new ht3 (.tup [.str "put", .ref b1, .str y])
    refine ⟨_, rfl, a, _, _, _, rfl, rfl, SqT.of (s3 _ _ la), at3, sz (by show 2 ≤ 100000; decide), fun t4 ht4 => ?_⟩
    have s4 := same_new ht4 (.tup [.str "simple", .ref b2])
    refine ⟨sz (by show 2 ≤ 100000; decide), fun r hr2 => ?_⟩
    have s5 := same_new hr2 (.lst [.ref t3, .ref t4])
    have s35 := s3.trans (s4.trans s5)
    have nw : wordS (hdT t) = false := by rw [hh]; rfl
    refine q r _ _ "" c.m (fun z => by rw [nw] at z; cases z) (fun _ => rfl) (tk_same (s02.trans s35)) (hT2.mono s35) upd_same ?_
    rw [eE]
    exact ⟨⟨t3, rfl, b1, (s4.trans s5) _ _ upd_same, g1.tk (tk_same s35)⟩, ⟨t4, rfl, b2, s5 _ _ upd_same, g2.tk (tk_same s35)⟩, trivial⟩
  · have nw : wordS (hdT t) = true := by
      cases hh : hdT t with
      | num z => rw [hh] at c1; exact absurd rfl c1
      | nam z => rw [hh] at c1; exact absurd rfl c1
      | plus => rw [hh] at c2; exact absurd rfl c2
      | less => rw [hh] at c2; exact absurd rfl c2
      | lett y => rw [hh] at c3; exact absurd (decide_eq_true rfl) c3
      | _ => rfl
    have eE : ∀ w, simpJ t w = [.put t w, .known (mkL (.nam w) [])] := fun w => by
      unfold simpJ
      cases hh : hdT t <;> rw [hh] at nw <;> first | rfl | cases nw
    refine ⟨_, rfl, A.p, CT, _, _, _, rfl, hT2.ob, X.clT, X.tNew, l_new _ _ _ _, A.nw, _, _, rfl, hT2.nw.ob, by rfl, A.nw, A.dN, A.td, tk, c.m, rfl, hT2.nw, hm, fun w m' hwm => ?_⟩
    have hT3 := hT2.setM m'
    have tk3 : TK Hb (upd Hb A.nw (.ins CN A.dN (fsN (.ref A.td) (.int (m' : Int))))) := tk_upd hT2.nw.ob (by intro xs z; cases z)
    have hA3 := hA2.tk tk3
    generalize upd Hb A.nw (.ins CN A.dN (fsN (.ref A.td) (.int (m' : Int)))) = H1 at hT3 tk3 hA3
    refine ⟨_, rfl, _, rfl, sz (by show 3 ≤ 100000; decide), fun t4 ht4 => ?_⟩
    have s4 := same_new ht4 (.tup [.str "put", .ref a, .str w])
    refine ⟨_, rfl, sz (by show 2 ≤ 100000; decide), fun t5 ht5 => ?_⟩
    have s5 := same_new ht5 (.tup [.str "name", .str w])
    refine ⟨sz (by show 2 ≤ 100000; decide), fun t6 ht6 => ?_⟩
    have s6 := same_new ht6 (.tup [.str "known", .ref t5])
    refine ⟨sz (by show 2 ≤ 100000; decide), fun r hr2 => ?_⟩
    have s7 := same_new hr2 (.lst [.ref t4, .ref t6])
    have s47 := s4.trans (s5.trans (s6.trans s7))
    refine q r _ _ w m' (fun _ => hwm) (fun z => by rw [nw] at z; cases z) ((tk_same s02).trans (tk3.trans (tk_same s47))) (hT3.mono s47) upd_same ?_
    rw [eE]
    exact ⟨⟨t4, rfl, a, (s5.trans (s6.trans s7)) _ _ upd_same, hA3.tk (tk_same s47)⟩, ⟨t6, rfl, t5, s7 _ _ upd_same, at_mkL (vs := []) ⟨rfl, (s6.trans s7) _ _ upd_same⟩ trivial⟩, trivial⟩
/-! ### jobs_of -/
def mkJ (j : Jb) (w : Str) : List Jb := match j with | .done t j => doneJ t j | .put t x => putJ t x w | .simple t => simpJ t w | _ => []
def wordJ : Jb → Bool | .put t _ => wordH (hdT t) | .simple t => wordS (hdT t) | _ => false
def isMk : Jb → Bool | .done _ _ | .put _ _ | .simple _ => true | _ => false
def spJof (CN CT : Addr) : Sp := fun vs H Q _ => ∃ (H0 : Hp) (A : TuA) (tk : List Str) (c : Cg) (ras : List Addr) (b : Addr) (j : Jb), vs = [.ref A.p, .ref b] ∧ TuAt CN CT H0 H A tk c ras ∧ JbA H b j ∧ isMk j = true ∧ c.m + tk.length + 2 < 26 ^ 9 ∧
  ∀ r H' us w m', (wordJ j = true → NwR tk c.m w m') → (wordJ j = false → m' = c.m) → TuAt CN CT H0 H' A tk { c with m := m' } ras → H' r = some (.lst us) → All2 (JbV H') (mkJ j w) us → Q (.ref r) H'
abbrev sJof : Stmt := inClass (top 38) 2
theorem scJof : FnScope ["self", "job"] ["self", "job"] (defScope sJof) := ⟨rfl, rfl, rfl, by decide +kernel, rfl, by decide +kernel, by decide +kernel⟩
theorem ok_jof (X : TxN K mg CN CT) {f g1 g2 g3 : Addr} {fd d1 d2 d3 : FuncData} (F : Fun K "jobs_of" "Turning.jobs_of" sJof f fd) (G1 : FnOk P w K mg base CX0 2 g1 d1 ["self", "term", "j"] spJdone) (b1 : Binds K d1 ["self", "term", "j"] []) (m1 : Meth K CT "jobs_done" g1)
    (G2 : FnOk P w K mg base CX0 3 g2 d2 ["self", "term", "x"] (spJput CN CT)) (b2 : Binds K d2 ["self", "term", "x"] []) (m2 : Meth K CT "jobs_put" g2) (G3 : FnOk P w K mg base CX0 3 g3 d3 ["self", "term"] (spJsimp CN CT)) (b3 : Binds K d3 ["self", "term"] []) (m3 : Meth K CT "jobs_simple" g3) :
    FnOk P w K mg base CX0 4 f fd ["self", "job"] (spJof CN CT) := by
  refine F.ok scJof (fun vs H Q E h => ?_) (fun cdv A outer s H vs Q E hr h => ?_)
  · obtain ⟨H0, A, tk, c, ras, b, j, rfl, _⟩ := h
    rfl
  obtain ⟨H0, A, tk, c, ras, b, j, rfl, hT, hJ, hj, hm, q⟩ := h
  refine ⟨_, (pss_cons (ps_if (pt_cmpR op_eq (pe_ix ix_tup (pv 1) pe_int (fun _ _ => rfl)) pe_str (nomark _)) (pss_one (ps_ret (pe_meth (pv 0) X.clT m1 G1 (hr.mono (by omega)) b1 .nil pass0 (pa_cons (pe_ix ix_tup (pv 1) pe_int (fun _ _ => rfl)) (pa_cons (pe_ix ix_tup (pv 1) pe_int (fun _ _ => rfl)) pa_nil))))) pss_nil)
    (pss_cons (ps_if (pt_cmpR op_eq (pe_ix ix_tup (pv 1) pe_int (fun _ _ => rfl)) pe_str (nomark _)) (pss_one (ps_ret (pe_meth (pv 0) X.clT m2 G2 (hr.mono (by omega)) b2 .nil pass0 (pa_cons (pe_ix ix_tup (pv 1) pe_int (fun _ _ => rfl)) (pa_cons (pe_ix ix_tup (pv 1) pe_int (fun _ _ => rfl)) pa_nil))))) pss_nil)
    (pss_one (ps_ret (pe_meth (pv 0) X.clT m3 G3 (hr.mono (by omega)) b3 .nil pass0 (pa_cons (pe_ix ix_tup (pv 1) pe_int (fun _ _ => rfl)) pa_nil)))))), ?_⟩
  cases j with
  | done t j =>
    obtain ⟨a, h1, h2⟩ := hJ
    refine ⟨_, rfl, b, _, _, _, rfl, rfl, SqT.of h1, at0, rfl, _, rfl, itT rfl ⟨_, rfl, A.p, _, _, rfl, hT.ob, by rfl, _, rfl, b, _, _, _, rfl, rfl, SqT.of h1, at1, _, rfl, b, _, _, _, rfl, rfl, SqT.of h1, at2, A.p, a, t, j, rfl, h2, fun r H' us hr' s1 g1 k1 => ?_⟩⟩
    exact q r H' us "" c.m (fun z => by cases z) (fun _ => rfl) (hT.mono s1) g1 k1
  | put t x =>
    obtain ⟨a, h1, h2⟩ := hJ
    refine ⟨_, rfl, b, _, _, _, rfl, rfl, SqT.of h1, at0, rfl, _, rfl, itF rfl ⟨_, rfl, b, _, _, _, rfl, rfl, SqT.of h1, at0, rfl, _, rfl, itT rfl ⟨_, rfl, A.p, _, _, rfl, hT.ob, by rfl, _, rfl, b, _, _, _, rfl, rfl, SqT.of h1, at1, _, rfl, b, _, _, _, rfl, rfl, SqT.of h1, at2,
      H0, A, tk, c, ras, a, t, x, rfl, hT, h2, hm, fun r H' us w m' g1 g2 tk1 g3 g4 g5 => ?_⟩⟩⟩
    exact q r H' us w m' g1 g2 g3 g4 g5
  | simple t =>
    obtain ⟨a, h1, h2⟩ := hJ
    refine ⟨_, rfl, b, _, _, _, rfl, rfl, SqT.of h1, at0, rfl, _, rfl, itF rfl ⟨_, rfl, b, _, _, _, rfl, rfl, SqT.of h1, at0, rfl, _, rfl, itF rfl ⟨_, rfl, A.p, _, _, rfl, hT.ob, by rfl, _, rfl, b, _, _, _, rfl, rfl, SqT.of h1, at1,
      H0, A, tk, c, ras, a, t, rfl, hT, h2, hm, fun r H' us w m' g1 g2 tk1 g3 g4 g5 => ?_⟩⟩⟩
    exact q r H' us w m' g1 g2 g3 g4 g5
  | _ => cases hj
end
end KB

namespace KB
open PySem L2 HT
theorem popE {v : V} {r : List V} : ((v :: r).reverse).dropLast = r.reverse := by rw [List.reverse_cons, List.dropLast_concat]
theorem taken_split {H : Hp} : ∀ {n : Nat} {got : List Gt} {gs : List V} {g' : List Bool}, All2 (GtV H) got gs → got.map kG = List.replicate n false ++ g' →
    ∃ (ts : List Tm) (G : List Gt) (gs1 gs2 : List V), got = (ts.map Gt.t).reverse ++ G ∧ ts.length = n ∧ gs = gs1.reverse ++ gs2 ∧ All2 (RefV H) ts gs1 ∧ All2 (GtV H) G gs2 ∧ gs1.length = n ∧ G.map kG = g'
  | 0, got, gs, g', h, e => ⟨[], got, [], gs, rfl, rfl, rfl, trivial, h, rfl, e⟩
  | n + 1, [], gs, g', h, e => by
    rw [List.replicate_succ] at e
    cases e
  | n + 1, g :: got, [], g', h, e => h.elim
  | n + 1, g :: got, v :: gs, g', h, e => by
    rw [List.replicate_succ, List.map_cons, List.cons_append] at e
    obtain ⟨e1, e2⟩ := List.cons.inj e
    obtain ⟨ts, G, gs1, gs2, a1, a2, a3, a4, a5, a6, a7⟩ := taken_split h.2 e2
    cases g with
    | p q => cases e1
    | t s =>
      obtain ⟨b, eb, hb⟩ := h.1
      refine ⟨ts ++ [s], G, gs1 ++ [v], gs2, ?_, ?_, ?_, a4.app ⟨⟨b, eb, hb⟩, trivial⟩, a5, ?_, a7⟩
      · rw [a1]
        simp
      · rw [List.length_append, a2]
        rfl
      · rw [a3]
        simp
      · rw [List.length_append, a6]
        rfl
theorem drop_rev {gs1 gs2 : List V} : ((gs1.reverse ++ gs2).reverse).drop (((gs1.reverse ++ gs2).reverse).length - gs1.length) = gs1 ∧ ((gs1.reverse ++ gs2).reverse).take (((gs1.reverse ++ gs2).reverse).length - gs1.length) = gs2.reverse := by
  have e : (gs1.reverse ++ gs2).reverse = gs2.reverse ++ gs1 := by simp
  rw [e]
  have e2 : (gs2.reverse ++ gs1).length - gs1.length = gs2.reverse.length := by
    rw [List.length_append]
    omega
  rw [e2]
  exact ⟨List.drop_left, List.take_left⟩
theorem last_at {l : List V} {x : V} : atI (l ++ [x]) (-1) = some x := by
  unfold atI ixN
  have e : (l ++ [x]).length = l.length + 1 := by rw [List.length_append]; rfl
  rw [if_neg (by decide), if_pos (by rw [e]; omega), e]
  have e2 : ((-1 : Int) + ((l.length + 1 : Nat) : Int)).toNat = l.length := by omega
  rw [e2]
  show (l ++ [x])[l.length]? = some x
  rw [List.getElem?_append_right (Nat.le_refl _), Nat.sub_self]
  rfl
theorem two_at {H : Hp} {l : Bool} {a b c : Addr} {s t : Tm} (h : H a = some (.tup [.str (if l then "less" else "plus"), .ref b, .ref c])) (h1 : At H s b) (h2 : At H t c) : At H (mkOp l s t) a := by
  unfold mkOp
  cases l
  · exact at_mkL (h := .plus) (vs := [.ref b, .ref c]) ⟨rfl, h⟩ ⟨⟨b, rfl, h1⟩, ⟨c, rfl, h2⟩, trivial⟩
  · exact at_mkL (h := .less) (vs := [.ref b, .ref c]) ⟨rfl, h⟩ ⟨⟨b, rfl, h1⟩, ⟨c, rfl, h2⟩, trivial⟩
section
variable {P : Program} {w : World} {K : PySem.W.Frag} {mg : Str → Option Value} {base : Heap} {CN CT : Addr}
/-! ### last_taken -/
def spLast : Sp := fun vs H Q _ => ∃ (gl : Addr) (xs : List V) (n : Nat), vs = [.ref gl, .int (n : Int)] ∧ H gl = some (.lst xs) ∧ n ≤ xs.length ∧
  ∀ H2 v, Same H H2 → H2 v = some (.tup (xs.drop (xs.length - n))) → Q (.ref v) (upd H2 gl (.lst (xs.take (xs.length - n))))
abbrev slast_taken : Stmt := top 6
theorem sclast_taken : FnScope ["got", "many", "first", "taken"] ["got", "many"] (defScope slast_taken) := ⟨rfl, rfl, rfl, by decide +kernel, rfl, by decide +kernel, by decide +kernel⟩
theorem ok_last (T : Txt K mg) {f : Addr} {fd : FuncData} (F : Fun K "last_taken" "last_taken" slast_taken f fd) : FnOk P w K mg base CX0 1 f fd ["got", "many"] spLast := by
  refine F.ok sclast_taken (fun vs H Q E h => ?_) (fun cdv A outer s H vs Q E hr h => ?_)
  · obtain ⟨gl, xs, n, rfl, _⟩ := h
    rfl
  obtain ⟨gl, xs, n, rfl, hg, hn, q⟩ := h
  refine ⟨_, pss_cons (ps_set (i := 2) sclast_taken.nd rfl (Or.inl rfl) (pe_op op_sub (pe_callB call_len_seq (by rfl) T.m_len PySem.boot_len (pa_cons (pv 0) pa_nil)) (pv 1)))
    (pss_cons (ps_set (i := 3) sclast_taken.nd rfl (Or.inl rfl) (pe_callTy call_tuple_of (by rfl) T.m_tuple (by decide +kernel) (pa_cons (pe_slice sl_list (pv 0) (po_some (pv 2)) po_none) pa_nil)))
    (pss_cons (ps_delFrom (pv 0) (pv 2)) (pss_one (ps_ret (pv 3))))), ?_⟩
  refine ⟨_, rfl, gl, _, rfl, .inl (SqL.of hg), _, rfl, _, _, rfl, rfl, ?_⟩
  have efirst : (xs.length : Int) - (n : Int) = ((xs.length - n : Nat) : Int) := by omega
  refine ⟨_, rfl, _, rfl, _, rfl, gl, _, rfl, SqL.of hg, fun u hu => ⟨u, _, rfl, .inl ⟨SqL.of upd_same, fun v hv => ?_⟩⟩⟩
  have ecut : cutV xs (some ((xs.length : Int) - (n : Int))) none = xs.drop (xs.length - n) := by
    rw [efirst, cut_from (by omega) (by omega), Int.toNat_natCast]
  have sA := (same_new hu (.lst (cutV xs (some ((xs.length : Int) - (n : Int))) none))).trans (same_new hv (.tup (cutV xs (some ((xs.length : Int) - (n : Int))) none)))
  have hv2 : upd (upd H u (.lst (cutV xs (some ((xs.length : Int) - (n : Int))) none))) v (.tup (cutV xs (some ((xs.length : Int) - (n : Int))) none)) v = some (.tup (xs.drop (xs.length - n))) := by
    rw [upd_same, ecut]
  exact ⟨_, rfl, _, rfl, _, rfl, gl, xs, xs.length - n, rfl, congrArg some efirst, sA _ _ hg, Nat.sub_le _ _, _, rfl, q _ _ sA hv2⟩
/-! ### finish -/
structure SzC (c : Cg) : Prop where
  r : c.rows.length ≤ 5000
  g : c.got.length ≤ 5000
  l : ∀ r ∈ c.rows, r.length ≤ 5000
def spFin (CN CT : Addr) : Sp := fun vs H Q _ => ∃ (H0 : Hp) (A : TuA) (tk : List Str) (c : Cg) (ras : List Addr) (b : Addr) (j : Jb), vs = [.ref A.p, .ref b] ∧ TuAt CN CT H0 H A tk c ras ∧ JbA H b j ∧ isMk j = false ∧ okJ (j :: c.jobs) c.rows.length (c.got.map kG) ∧ SzC c ∧
  ∀ H' R1 G1 ras', FinJ j c.rows c.got R1 G1 → TuAt CN CT H0 H' A tk { c with rows := R1, got := G1 } ras' → Q .non H'
abbrev sFin : Stmt := inClass (top 38) 6
theorem scFin : FnScope ["self", "job", "head"] ["self", "job"] (defScope sFin) := ⟨rfl, rfl, rfl, by decide +kernel, rfl, by decide +kernel, by decide +kernel⟩
theorem TuAt.top {H0 H : Hp} {A : TuA} {tk : List Str} {J : List Jb} {r : List Ld} {R : List (List Ld)} {G : List Gt} {m : Nat} {ras : List Addr} (h : TuAt CN CT H0 H A tk ⟨J, r :: R, G, m⟩ ras) : ∃ ra ras' vs, ras = ra :: ras' ∧ H ra = some (.lst vs) ∧ All2 (LdV H) r vs := by
  have hr := h.rs
  match ras, hr with
  | ra :: ras', ⟨⟨x, vs, e1, h1, h2⟩, _⟩ => cases e1; exact ⟨ra, ras', vs, rfl, h1, h2⟩
theorem ok_fin (T : Txt K mg) (X : TxN K mg CN CT) {f f1 f2 : Addr} {fd d1 d2 : FuncData} (F : Fun K "finish" "Turning.finish" sFin f fd) (Gput_ahead : FnOk P w K mg base CX0 1 f1 d1 ["leads", "part"] spAhead) (Rput_ahead : Ref K mg "put_ahead" f1 d1 ["leads", "part"])
    (Glast_taken : FnOk P w K mg base CX0 1 f2 d2 ["got", "many"] spLast) (Rlast_taken : Ref K mg "last_taken" f2 d2 ["got", "many"]) : FnOk P w K mg base CX0 2 f fd ["self", "job"] (spFin CN CT) := by
  refine F.ok scFin (fun vs H Q E h => ?_) (fun cdv A outer s H vs Q E hr h => ?_)
  · obtain ⟨H0, A, tk, c, ras, b, j, rfl, _⟩ := h
    rfl
  obtain ⟨H0, A, tk, ⟨J, R, G, m⟩, ras, b, j, rfl, hT, hJ, hj, ho, hz, q⟩ := h
  refine ⟨_, (pss_cons (ps_set (i := 2) scFin.nd rfl (Or.inl rfl) (pe_ix ix_tup (pv 1) pe_int (fun _ _ => rfl)))
    (pss_one (ps_if (pt_cmpR op_eq (pv 2) pe_str (nomark _)) (pss_one (ps_expr (pe_bm PySem.F.plainAttrs_list PySem.F.slot_list_append PySem.F.type_list_append mt_append (pe_fld (pv 0) rfl) (pa_cons (pe_lst pa_nil) pa_nil)))) (pss_one (ps_if (pt_cmpR op_eq (pv 2) pe_str (nomark _)) (pss_one (ps_expr (pe_bm PySem.F.plainAttrs_list PySem.F.slot_list_append PySem.F.type_list_append mt_append (pe_fld (pv 0) rfl) (pa_cons (pe_call Gput_ahead (hr.mono (by omega)) rfl Rput_ahead.m Rput_ahead.k Rput_ahead.b .nil pass0 (pa_cons (pe_bm0 PySem.F.plainAttrs_list PySem.F.slot_list_pop PySem.F.type_list_pop mt_pop (pe_fld (pv 0) rfl)) (pa_cons (pe_bm0 PySem.F.plainAttrs_list PySem.F.slot_list_pop PySem.F.type_list_pop mt_pop (pe_fld (pv 0) rfl)) pa_nil))) pa_nil)))) (pss_one (ps_if (pt_cmpR op_in_seq (pv 2) (pe_tup (pa_cons pe_str (pa_cons pe_str (pa_cons pe_str pa_nil)))) rfl) (pss_one (ps_expr (pe_bm PySem.F.plainAttrs_list PySem.F.slot_list_append PySem.F.type_list_append mt_append (pe_ix ix_list (pe_fld (pv 0) rfl) (pe_un un_neg pe_int) (fun _ _ => rfl)) (pa_cons (pe_tup (StX.pa_star (pv 1) (pa_cons (pe_bm0 PySem.F.plainAttrs_list PySem.F.slot_list_pop PySem.F.type_list_pop mt_pop (pe_fld (pv 0) rfl)) pa_nil))) pa_nil)))) (pss_one (ps_if (pt_cmpR op_eq (pv 2) pe_str (nomark _)) (pss_one (ps_expr (pe_bm PySem.F.plainAttrs_list PySem.F.slot_list_append PySem.F.type_list_append mt_append (pe_fld (pv 0) rfl) (pa_cons (pe_ix ix_tup (pv 1) pe_int (fun _ _ => rfl)) pa_nil)))) (pss_one (ps_if (pt_cmpR op_eq (pv 2) pe_str (nomark _)) (pss_one (ps_expr (pe_bm PySem.F.plainAttrs_list PySem.F.slot_list_append PySem.F.type_list_append mt_append (pe_fld (pv 0) rfl) (pa_cons (pe_tup (pa_cons (pv 2) (pa_cons (pe_ix ix_tup (pv 1) pe_int (fun _ _ => rfl)) (pa_cons (pe_call Glast_taken (hr.mono (by omega)) rfl Rlast_taken.m Rlast_taken.k Rlast_taken.b .nil pass0 (pa_cons (pe_fld (pv 0) rfl) (pa_cons (pe_ix ix_tup (pv 1) pe_int (fun _ _ => rfl)) pa_nil))) (pa_cons (pe_ix ix_tup (pv 1) pe_int (fun _ _ => rfl)) pa_nil))))) pa_nil)))) (pss_one (ps_if (pt_cmpR op_eq (pv 2) pe_str (nomark _)) (pss_one (ps_expr (pe_bm PySem.F.plainAttrs_list PySem.F.slot_list_append PySem.F.type_list_append mt_append (pe_fld (pv 0) rfl) (pa_cons (pe_tup (StX.pa_star (pv 1) (pa_cons (pe_bm0 PySem.F.plainAttrs_list PySem.F.slot_list_pop PySem.F.type_list_pop mt_pop (pe_fld (pv 0) rfl)) pa_nil))) pa_nil)))) (pss_one (ps_if (pt_cmpR op_eq (pv 2) pe_str (nomark _)) (pss_one (ps_expr (pe_bm PySem.F.plainAttrs_list PySem.F.slot_list_append PySem.F.type_list_append mt_append (pe_fld (pv 0) rfl) (pa_cons (pe_tup (pa_cons (pv 2) (StX.pa_star (pe_call Glast_taken (hr.mono (by omega)) rfl Rlast_taken.m Rlast_taken.k Rlast_taken.b .nil pass0 (pa_cons (pe_fld (pv 0) rfl) (pa_cons pe_int pa_nil))) pa_nil))) pa_nil)))) (pss_one (ps_expr (pe_bm PySem.F.plainAttrs_list PySem.F.slot_list_append PySem.F.type_list_append mt_append (pe_fld (pv 0) rfl) (pa_cons (pe_tup (pa_cons (pv 2) (StX.pa_star (pe_call Glast_taken (hr.mono (by omega)) rfl Rlast_taken.m Rlast_taken.k Rlast_taken.b .nil pass0 (pa_cons (pe_fld (pv 0) rfl) (pa_cons pe_int pa_nil))) pa_nil))) pa_nil))))))))))))))))))), ?_⟩

  obtain ⟨gs, hg1, hg2⟩ := hT.gs
  have hgl : gs.length = G.length := hg2.len
  have hzg : G.length ≤ 5000 := hz.g
  have hzr : R.length ≤ 5000 := hz.r
  have hrl : ras.length = R.length := by
    have := hT.rs.len
    rw [List.length_map] at this
    exact this
  cases j with
  | done t j => cases hj
  | put t x => cases hj
  | simple t => cases hj
  | row =>
    have h1 : H b = some (.tup [.str "row"]) := hJ
    refine ⟨_, rfl, b, _, _, _, rfl, rfl, SqT.of h1, at0, ?_⟩
    refine ⟨_, rfl, rfl, _, rfl, itT rfl ?_⟩
    refine ⟨_, rfl, A.p, CT, _, _, _, rfl, hT.ob, X.clT, X.tRows, l_rows _ _ _ _, .inl ⟨rfl, _, SqL.of hT.rl⟩, sz (by show 0 ≤ 100000; decide), fun ra hra => ?_⟩
    refine ⟨A.rl, _, _, rfl, rfl, same_new hra _ _ _ hT.rl, Nat.lt_of_le_of_lt (m := 5000) (by rw [List.length_reverse, List.length_map]; omega) (by decide), ?_⟩
    have hP := hT.pushRow hra
    rw [List.map_cons, List.reverse_cons] at hP
    exact q _ _ _ _ .row hP
  | close =>
    have h1 : H b = some (.tup [.str "close"]) := hJ
    obtain ⟨r', g', e1, e2, _⟩ := ho
    match R, G, gs with
    | r :: R, .p p0 :: G, v :: gs =>
      obtain ⟨⟨b1, rfl, hb1⟩, hg3⟩ := hg2
      obtain ⟨ra, ras', vs, rfl, hv, kv⟩ := hT.top
      refine ⟨_, rfl, b, _, _, _, rfl, rfl, SqT.of h1, at0, ?_⟩
      refine ⟨_, rfl, rfl, _, rfl, itF rfl ⟨_, rfl, rfl, _, rfl, itT rfl ?_⟩⟩
      refine ⟨_, rfl, A.p, CT, _, _, _, rfl, hT.ob, X.clT, X.tGot, l_got _ _ _ _, .inl ⟨rfl, _, SqL.of hg1⟩, ?_⟩
      refine ⟨_, rfl, A.p, CT, _, _, _, rfl, hT.ob, X.clT, X.tRows, l_rows _ _ _ _, .inl ⟨rfl, _, SqL.of hT.rl⟩, A.rl, _, .ref ra, rfl, rfl, hT.rl, by simp, ?_⟩
      rw [List.map_cons, popE]
      have hT1 : TuAt CN CT H0 (upd H A.rl (.lst (ras'.map V.ref).reverse)) A tk ⟨J, R, .p p0 :: G, m⟩ ras' := TuAt.popRow (c := ⟨J, [], .p p0 :: G, m⟩) hT
      have hv1 : upd H A.rl (.lst (ras'.map V.ref).reverse) ra = some (.lst vs) := by
        rw [upd_ne (hT.n5 ra List.mem_cons_self).2.1]
        exact hv
      have tk1 : TK H (upd H A.rl (.lst (ras'.map V.ref).reverse)) := tk_put hT.rl
      have hg4 : upd H A.rl (.lst (ras'.map V.ref).reverse) A.gl = some (.lst ((V.ref b1 :: gs).reverse)) := by
        rw [upd_ne hT.n3.symm]
        exact hg1
      have kv1 := kv.imp fun _ _ z => z.tk tk1
      have hb2 := PAt.tk tk1 hb1
      have hg5 := hg3.imp fun _ _ z => z.tk tk1
      have nrg : ra ≠ A.gl := (hT.n5 ra List.mem_cons_self).2.2
      generalize upd H A.rl (.lst (ras'.map V.ref).reverse) = H1 at hT1 hv1 tk1 hg4 kv1 hb2 hg5
      refine ⟨_, rfl, A.p, CT, _, _, _, rfl, hT1.ob, X.clT, X.tGot, l_got _ _ _ _, .inl ⟨rfl, _, SqL.of hg4⟩, A.gl, _, .ref b1, rfl, rfl, hg4, by simp, ?_⟩
      rw [popE]
      have hT2 : TuAt CN CT H0 (upd H1 A.gl (.lst gs.reverse)) A tk ⟨J, R, G, m⟩ ras' := hT1.setGot hg5
      have tk2 : TK H1 (upd H1 A.gl (.lst gs.reverse)) := tk_put hg4
      refine ⟨ra, b1, vs, r, p0, rfl, by rw [upd_ne nrg]; exact hv1, kv1.imp fun _ _ z => z.tk tk2, PAt.tk tk2 hb2, fun H3 b3 s3 h3 => ?_⟩
      have hT3 := hT2.mono s3
      have hgl3 : H3 A.gl = some (.lst gs.reverse) := s3 _ _ upd_same
      have kg3 : All2 (GtV H3) G gs := (hg5.imp fun _ _ z => z.tk tk2).imp fun _ _ z => z.tk (tk_same s3)
      have hl3 := kg3.len
      rw [List.length_cons] at hzg
      refine ⟨A.gl, _, _, rfl, rfl, hgl3, Nat.lt_of_le_of_lt (m := 5000) (by rw [List.length_reverse]; omega) (by decide), ?_⟩
      have hT4 := hT3.setGot (G := .p (putAh r p0) :: G) (gs' := .ref b3 :: gs) ⟨⟨b3, rfl, h3⟩, kg3⟩
      rw [List.reverse_cons] at hT4
      exact q _ _ _ _ .close hT4
    | [], _, _ => cases e1
    | _ :: _, [], _ => cases e2
    | _ :: _, .t _ :: _, _ => cases e2
    | _ :: _, .p _ :: _, [] => exact hg2.elim
  | known t =>
    obtain ⟨b1, h1, h2⟩ := hJ
    refine ⟨_, rfl, b, _, _, _, rfl, rfl, SqT.of h1, at0, ?_⟩
    refine ⟨_, rfl, rfl, _, rfl, itF rfl ⟨_, rfl, rfl, _, rfl, itF rfl ⟨_, rfl, sz (by show 3 ≤ 100000; decide), fun t0 ht0 => ⟨t0, _, rfl, .inr (SqT.of upd_same), rfl, rfl, _, rfl, itF rfl ⟨_, rfl, rfl, _, rfl, itT rfl ?_⟩⟩⟩⟩⟩
    have s0 := same_new ht0 (.tup [.str "let", .str "tell", .str "post"])
    have hT0 := hT.mono s0
    have hg0 := s0 _ _ hg1
    have h10 := s0 _ _ h1
    have kg0 := hg2.imp fun _ _ z => z.tk (tk_same s0)
    refine ⟨_, rfl, A.p, CT, _, _, _, rfl, hT0.ob, X.clT, X.tGot, l_got _ _ _ _, .inl ⟨rfl, _, SqL.of hg0⟩, _, rfl, b, _, _, _, rfl, rfl, SqT.of h10, at1, A.gl, _, _, rfl, rfl, hg0, Nat.lt_of_le_of_lt (m := 5000) (by rw [List.length_reverse]; omega) (by decide), ?_⟩
    have hT4 := hT0.setGot (G := .t t :: G) (gs' := .ref b1 :: gs) ⟨⟨b1, rfl, h2.tk (tk_same s0)⟩, kg0⟩
    rw [List.reverse_cons] at hT4
    exact q _ _ _ _ .known hT4
  | lett x =>
    have h1 : H b = some (.tup [.str "let", .str x]) := hJ
    obtain ⟨g', e1, e2, _⟩ := ho
    match R, G, gs with
    | r :: R, .t s :: G, v :: gs =>
      obtain ⟨⟨b1, rfl, hb1⟩, hg3⟩ := hg2
      obtain ⟨ra, ras', vs, rfl, hv, kv⟩ := hT.top
      refine ⟨_, rfl, b, _, _, _, rfl, rfl, SqT.of h1, at0, ?_⟩
      refine ⟨_, rfl, rfl, _, rfl, itF rfl ⟨_, rfl, rfl, _, rfl, itF rfl ⟨_, rfl, sz (by show 3 ≤ 100000; decide), fun t0 ht0 => ⟨t0, _, rfl, .inr (SqT.of upd_same), rfl, rfl, _, rfl, itT rfl ?_⟩⟩⟩⟩
      have s0 := same_new ht0 (.tup [.str "let", .str "tell", .str "post"])
      have hT0 := hT.mono s0
      have hg0 := s0 _ _ hg1
      have h10 := s0 _ _ h1
      have hv0 := s0 _ _ hv
      have kv0 := kv.imp fun _ _ z => LdV.tk (tk_same s0) z
      have kg0 := hg3.imp fun _ _ z => GtV.tk (tk_same s0) z
      have hb0 := hb1.tk (tk_same s0)
      have hrl0 := hT0.rl
      rw [List.map_cons, List.reverse_cons] at hrl0
      generalize upd H t0 (.tup [.str "let", .str "tell", .str "post"]) = Ha at s0 hT0 hg0 h10 hv0 kv0 kg0 hb0 hrl0
      refine ⟨_, rfl, A.p, CT, _, _, _, rfl, hT0.ob, X.clT, X.tRows, l_rows _ _ _ _, 1, rfl, A.rl, _, _, _, rfl, rfl, SqL.of hrl0, last_at, .inl ⟨rfl, _, SqL.of hv0⟩, ?_⟩
      refine ⟨_, rfl, b, _, rfl, .inl (SqT.of h10), ?_⟩
      refine ⟨_, rfl, A.p, CT, _, _, _, rfl, hT0.ob, X.clT, X.tGot, l_got _ _ _ _, .inl ⟨rfl, _, SqL.of hg0⟩, A.gl, _, .ref b1, rfl, rfl, hg0, by simp, ?_⟩
      rw [popE]
      have hT1 : TuAt CN CT H0 (upd Ha A.gl (.lst gs.reverse)) A tk ⟨J, r :: R, G, m⟩ (ra :: ras') := hT0.setGot kg0
      have tk1 : TK Ha (upd Ha A.gl (.lst gs.reverse)) := tk_put hg0
      have hv1 : upd Ha A.gl (.lst gs.reverse) ra = some (.lst vs) := by
        rw [upd_ne (hT.n5 ra List.mem_cons_self).2.2]
        exact hv0
      have kv1 := kv0.imp fun _ _ z => z.tk tk1
      have hb2 := hb0.tk tk1
      generalize upd Ha A.gl (.lst gs.reverse) = Hb at hT1 tk1 hv1 kv1 hb2
      refine ⟨sz (by show 3 ≤ 100000; decide), fun t2 ht2 => ?_⟩
      have s2 := same_new ht2 (.tup [.str "let", .str x, .ref b1])
      have hT2 := hT1.mono s2
      have hv2 := s2 _ _ hv1
      have kv2 := kv1.imp fun _ _ z => LdV.tk (tk_same s2) z
      have hlv := kv2.len
      have hz1 := hz.l r List.mem_cons_self
      refine ⟨ra, _, _, rfl, rfl, hv2, Nat.lt_of_le_of_lt (m := 5000) (by omega) (by decide), ?_⟩
      have hT3 := TuAt.addLead (c := ⟨J, [], G, m⟩) (l := .lett x s) (v := .ref t2) hT2 hv2 kv2 ⟨t2, b1, rfl, upd_same, hb2.tk (tk_same s2)⟩
      exact q _ _ _ _ .lett hT3
    | [], _, _ => cases e1
    | _ :: _, [], _ => cases e2
    | _ :: _, .p _ :: _, _ => cases e2
    | _ :: _, .t _ :: _, [] => exact hg2.elim
  | tell x =>
    have h1 : H b = some (.tup [.str "tell", .str x]) := hJ
    obtain ⟨g', e1, e2, _⟩ := ho
    match R, G, gs with
    | r :: R, .t s :: G, v :: gs =>
      obtain ⟨⟨b1, rfl, hb1⟩, hg3⟩ := hg2
      obtain ⟨ra, ras', vs, rfl, hv, kv⟩ := hT.top
      refine ⟨_, rfl, b, _, _, _, rfl, rfl, SqT.of h1, at0, ?_⟩
      refine ⟨_, rfl, rfl, _, rfl, itF rfl ⟨_, rfl, rfl, _, rfl, itF rfl ⟨_, rfl, sz (by show 3 ≤ 100000; decide), fun t0 ht0 => ⟨t0, _, rfl, .inr (SqT.of upd_same), rfl, rfl, _, rfl, itT rfl ?_⟩⟩⟩⟩
      have s0 := same_new ht0 (.tup [.str "let", .str "tell", .str "post"])
      have hT0 := hT.mono s0
      have hg0 := s0 _ _ hg1
      have h10 := s0 _ _ h1
      have hv0 := s0 _ _ hv
      have kv0 := kv.imp fun _ _ z => LdV.tk (tk_same s0) z
      have kg0 := hg3.imp fun _ _ z => GtV.tk (tk_same s0) z
      have hb0 := hb1.tk (tk_same s0)
      have hrl0 := hT0.rl
      rw [List.map_cons, List.reverse_cons] at hrl0
      generalize upd H t0 (.tup [.str "let", .str "tell", .str "post"]) = Ha at s0 hT0 hg0 h10 hv0 kv0 kg0 hb0 hrl0
      refine ⟨_, rfl, A.p, CT, _, _, _, rfl, hT0.ob, X.clT, X.tRows, l_rows _ _ _ _, 1, rfl, A.rl, _, _, _, rfl, rfl, SqL.of hrl0, last_at, .inl ⟨rfl, _, SqL.of hv0⟩, ?_⟩
      refine ⟨_, rfl, b, _, rfl, .inl (SqT.of h10), ?_⟩
      refine ⟨_, rfl, A.p, CT, _, _, _, rfl, hT0.ob, X.clT, X.tGot, l_got _ _ _ _, .inl ⟨rfl, _, SqL.of hg0⟩, A.gl, _, .ref b1, rfl, rfl, hg0, by simp, ?_⟩
      rw [popE]
      have hT1 : TuAt CN CT H0 (upd Ha A.gl (.lst gs.reverse)) A tk ⟨J, r :: R, G, m⟩ (ra :: ras') := hT0.setGot kg0
      have tk1 : TK Ha (upd Ha A.gl (.lst gs.reverse)) := tk_put hg0
      have hv1 : upd Ha A.gl (.lst gs.reverse) ra = some (.lst vs) := by
        rw [upd_ne (hT.n5 ra List.mem_cons_self).2.2]
        exact hv0
      have kv1 := kv0.imp fun _ _ z => z.tk tk1
      have hb2 := hb0.tk tk1
      generalize upd Ha A.gl (.lst gs.reverse) = Hb at hT1 tk1 hv1 kv1 hb2
      refine ⟨sz (by show 3 ≤ 100000; decide), fun t2 ht2 => ?_⟩
      have s2 := same_new ht2 (.tup [.str "tell", .str x, .ref b1])
      have hT2 := hT1.mono s2
      have hv2 := s2 _ _ hv1
      have kv2 := kv1.imp fun _ _ z => LdV.tk (tk_same s2) z
      have hlv := kv2.len
      have hz1 := hz.l r List.mem_cons_self
      refine ⟨ra, _, _, rfl, rfl, hv2, Nat.lt_of_le_of_lt (m := 5000) (by omega) (by decide), ?_⟩
      have hT3 := TuAt.addLead (c := ⟨J, [], G, m⟩) (l := .tell x s) (v := .ref t2) hT2 hv2 kv2 ⟨t2, b1, rfl, upd_same, hb2.tk (tk_same s2)⟩
      exact q _ _ _ _ .tell hT3
    | [], _, _ => cases e1
    | _ :: _, [], _ => cases e2
    | _ :: _, .p _ :: _, _ => cases e2
    | _ :: _, .t _ :: _, [] => exact hg2.elim
  | post j x =>
    have h1 : H b = some (.tup [.str "post", .str j, .str x]) := hJ
    obtain ⟨g', e1, e2, _⟩ := ho
    match R, G, gs with
    | r :: R, .p s :: G, v :: gs =>
      obtain ⟨⟨b1, rfl, hb1⟩, hg3⟩ := hg2
      obtain ⟨ra, ras', vs, rfl, hv, kv⟩ := hT.top
      refine ⟨_, rfl, b, _, _, _, rfl, rfl, SqT.of h1, at0, ?_⟩
      refine ⟨_, rfl, rfl, _, rfl, itF rfl ⟨_, rfl, rfl, _, rfl, itF rfl ⟨_, rfl, sz (by show 3 ≤ 100000; decide), fun t0 ht0 => ⟨t0, _, rfl, .inr (SqT.of upd_same), rfl, rfl, _, rfl, itT rfl ?_⟩⟩⟩⟩
      have s0 := same_new ht0 (.tup [.str "let", .str "tell", .str "post"])
      have hT0 := hT.mono s0
      have hg0 := s0 _ _ hg1
      have h10 := s0 _ _ h1
      have hv0 := s0 _ _ hv
      have kv0 := kv.imp fun _ _ z => LdV.tk (tk_same s0) z
      have kg0 := hg3.imp fun _ _ z => GtV.tk (tk_same s0) z
      have hb0 := PAt.tk (tk_same s0) hb1
      have hrl0 := hT0.rl
      rw [List.map_cons, List.reverse_cons] at hrl0
      generalize upd H t0 (.tup [.str "let", .str "tell", .str "post"]) = Ha at s0 hT0 hg0 h10 hv0 kv0 kg0 hb0 hrl0
      refine ⟨_, rfl, A.p, CT, _, _, _, rfl, hT0.ob, X.clT, X.tRows, l_rows _ _ _ _, 1, rfl, A.rl, _, _, _, rfl, rfl, SqL.of hrl0, last_at, .inl ⟨rfl, _, SqL.of hv0⟩, ?_⟩
      refine ⟨_, rfl, b, _, rfl, .inl (SqT.of h10), ?_⟩
      refine ⟨_, rfl, A.p, CT, _, _, _, rfl, hT0.ob, X.clT, X.tGot, l_got _ _ _ _, .inl ⟨rfl, _, SqL.of hg0⟩, A.gl, _, .ref b1, rfl, rfl, hg0, by simp, ?_⟩
      rw [popE]
      have hT1 : TuAt CN CT H0 (upd Ha A.gl (.lst gs.reverse)) A tk ⟨J, r :: R, G, m⟩ (ra :: ras') := hT0.setGot kg0
      have tk1 : TK Ha (upd Ha A.gl (.lst gs.reverse)) := tk_put hg0
      have hv1 : upd Ha A.gl (.lst gs.reverse) ra = some (.lst vs) := by
        rw [upd_ne (hT.n5 ra List.mem_cons_self).2.2]
        exact hv0
      have kv1 := kv0.imp fun _ _ z => z.tk tk1
      have hb2 := PAt.tk tk1 hb0
      generalize upd Ha A.gl (.lst gs.reverse) = Hb at hT1 tk1 hv1 kv1 hb2
      refine ⟨sz (by show 4 ≤ 100000; decide), fun t2 ht2 => ?_⟩
      have s2 := same_new ht2 (.tup [.str "post", .str j, .str x, .ref b1])
      have hT2 := hT1.mono s2
      have hv2 := s2 _ _ hv1
      have kv2 := kv1.imp fun _ _ z => LdV.tk (tk_same s2) z
      have hlv := kv2.len
      have hz1 := hz.l r List.mem_cons_self
      refine ⟨ra, _, _, rfl, rfl, hv2, Nat.lt_of_le_of_lt (m := 5000) (by omega) (by decide), ?_⟩
      have hT3 := TuAt.addLead (c := ⟨J, [], G, m⟩) (l := .post j x s) (v := .ref t2) hT2 hv2 kv2 ⟨t2, b1, rfl, upd_same, PAt.tk (tk_same s2) hb2⟩
      exact q _ _ _ _ .post hT3
    | [], _, _ => cases e1
    | _ :: _, [], _ => cases e2
    | _ :: _, .t _ :: _, _ => cases e2
    | _ :: _, .p _ :: _, [] => exact hg2.elim
  | ask f n j =>
    have h1 : H b = some (.tup [.str "ask", .str f, .int (n : Int), .str j]) := hJ
    obtain ⟨g', e1, _⟩ := ho
    refine ⟨_, rfl, b, _, _, _, rfl, rfl, SqT.of h1, at0, ?_⟩
    refine ⟨_, rfl, rfl, _, rfl, itF rfl ⟨_, rfl, rfl, _, rfl, itF rfl ⟨_, rfl, sz (by show 3 ≤ 100000; decide), fun t0 ht0 => ⟨t0, _, rfl, .inr (SqT.of upd_same), rfl, rfl, _, rfl, itF rfl ⟨_, rfl, rfl, _, rfl, itF rfl ⟨_, rfl, rfl, _, rfl, itT rfl ?_⟩⟩⟩⟩⟩⟩
    have s0 := same_new ht0 (.tup [.str "let", .str "tell", .str "post"])
    have hT0 := hT.mono s0
    have hg0 := s0 _ _ hg1
    have h10 := s0 _ _ h1
    generalize hHa : upd H t0 (.tup [.str "let", .str "tell", .str "post"]) = Ha at s0 hT0 hg0 h10
    obtain ⟨ts, G2, gs1, gs2, a1, a2, a3, a4, a5, a6, _⟩ := taken_split (hg2.imp fun _ _ z => GtV.tk (tk_same s0) z) e1
    subst a1 a2 a3
    have hd := drop_rev (gs1 := gs1) (gs2 := gs2)
    rw [a6] at hd
    refine ⟨_, rfl, A.p, CT, _, _, _, rfl, hT0.ob, X.clT, X.tGot, l_got _ _ _ _, .inl ⟨rfl, _, SqL.of hg0⟩, ?_⟩
    refine ⟨_, rfl, _, rfl, b, _, _, _, rfl, rfl, SqT.of h10, at1, ?_⟩
    refine ⟨_, rfl, A.p, CT, _, _, _, rfl, hT0.ob, X.clT, X.tGot, l_got _ _ _ _, _, rfl, b, _, _, _, rfl, rfl, SqT.of h10, at2, A.gl, _, ts.length, rfl, hg0, by simp; omega, fun H2 v s2 hv => ?_⟩
    rw [hd.1] at hv
    rw [hd.2]
    have hT2 := hT0.mono s2
    have a5' : All2 (GtV H2) G2 gs2 := a5.imp fun _ _ z => GtV.tk (tk_same s2) z
    have hT3 : TuAt CN CT H0 (upd H2 A.gl (.lst gs2.reverse)) A tk ⟨J, R, G2, m⟩ ras := hT2.setGot a5'
    have hgl2 := s2 _ _ hg0
    have tk3 : TK H2 (upd H2 A.gl (.lst gs2.reverse)) := tk_put hgl2
    have h13 := tk3 _ _ (s2 _ _ h10)
    have hv3 := tk3 _ _ hv
    have a43 : All2 (RefV (upd H2 A.gl (.lst gs2.reverse))) ts gs1 := a4.imp fun _ _ z => (RefV.tk (tk_same s2) z).tk tk3
    have hgl3 : upd H2 A.gl (.lst gs2.reverse) A.gl = some (.lst gs2.reverse) := upd_same
    have a53 : All2 (GtV (upd H2 A.gl (.lst gs2.reverse))) G2 gs2 := a5'.imp fun _ _ z => GtV.tk tk3 z
    generalize upd H2 A.gl (.lst gs2.reverse) = H3 at hT3 h13 hv3 a43 hgl3 a53 tk3
    refine ⟨_, rfl, b, _, _, _, rfl, rfl, SqT.of h13, at3, sz (by show 4 ≤ 100000; decide), fun t3 ht3 => ?_⟩
    have s4 := same_new ht3 (.tup [.str "ask", .str f, .ref v, .str j])
    have hT4 := hT3.mono s4
    have hl2 := a5.len
    rw [List.length_append] at hzg
    refine ⟨A.gl, _, _, rfl, rfl, s4 _ _ hgl3, Nat.lt_of_le_of_lt (m := 5000) (by rw [List.length_reverse]; omega) (by decide), ?_⟩
    have hT5 := hT4.setGot (G := .p (.ask f ts j) :: G2) (gs' := .ref t3 :: gs2) ⟨⟨t3, rfl, v, gs1, upd_same, s4 _ _ hv3, a43.imp fun _ _ z => RefV.tk (tk_same s4) z⟩, a53.imp fun _ _ z => GtV.tk (tk_same s4) z⟩
    rw [List.reverse_cons] at hT5
    exact q _ _ _ _ .ask hT5
  | give j =>
    have h1 : H b = some (.tup [.str "give", .str j]) := hJ
    obtain ⟨g', e2, _⟩ := ho
    match G, gs with
    | .t s :: G, v :: gs =>
      obtain ⟨⟨b1, rfl, hb1⟩, hg3⟩ := hg2
      refine ⟨_, rfl, b, _, _, _, rfl, rfl, SqT.of h1, at0, ?_⟩
      refine ⟨_, rfl, rfl, _, rfl, itF rfl ⟨_, rfl, rfl, _, rfl, itF rfl ⟨_, rfl, sz (by show 3 ≤ 100000; decide), fun t0 ht0 => ⟨t0, _, rfl, .inr (SqT.of upd_same), rfl, rfl, _, rfl, itF rfl ⟨_, rfl, rfl, _, rfl, itF rfl ⟨_, rfl, rfl, _, rfl, itF rfl ⟨_, rfl, rfl, _, rfl, itT rfl ?_⟩⟩⟩⟩⟩⟩⟩
      have s0 := same_new ht0 (.tup [.str "let", .str "tell", .str "post"])
      have hT0 := hT.mono s0
      have hg0 := s0 _ _ hg1
      have h10 := s0 _ _ h1
      generalize hHa : upd H t0 (.tup [.str "let", .str "tell", .str "post"]) = Ha at s0 hT0 hg0 h10
      have kg0 := hg3.imp fun _ _ z => GtV.tk (tk_same s0) z
      have hb0 := hb1.tk (tk_same s0)
      refine ⟨_, rfl, A.p, CT, _, _, _, rfl, hT0.ob, X.clT, X.tGot, l_got _ _ _ _, .inl ⟨rfl, _, SqL.of hg0⟩, ?_⟩
      refine ⟨_, rfl, b, _, rfl, .inl (SqT.of h10), ?_⟩
      refine ⟨_, rfl, A.p, CT, _, _, _, rfl, hT0.ob, X.clT, X.tGot, l_got _ _ _ _, .inl ⟨rfl, _, SqL.of hg0⟩, A.gl, _, .ref b1, rfl, rfl, hg0, by simp, ?_⟩
      rw [popE]
      have hT1 : TuAt CN CT H0 (upd Ha A.gl (.lst gs.reverse)) A tk ⟨J, R, G, m⟩ ras := hT0.setGot kg0
      have tk1 : TK Ha (upd Ha A.gl (.lst gs.reverse)) := tk_put hg0
      have kg1 := kg0.imp fun _ _ z => z.tk tk1
      have hb2 := hb0.tk tk1
      have hgl1 : upd Ha A.gl (.lst gs.reverse) A.gl = some (.lst gs.reverse) := upd_same
      generalize upd Ha A.gl (.lst gs.reverse) = Hb at hT1 tk1 kg1 hb2 hgl1
      refine ⟨sz (by show 3 ≤ 100000; decide), fun t2 ht2 => ?_⟩
      have s2 := same_new ht2 (.tup [.str "give", .str j, .ref b1])
      have hT2 := hT1.mono s2
      have hlg := kg1.len
      rw [List.length_cons] at hzg
      refine ⟨A.gl, _, _, rfl, rfl, s2 _ _ hgl1, Nat.lt_of_le_of_lt (m := 5000) (by rw [List.length_reverse]; omega) (by decide), ?_⟩
      have hT3 := hT2.setGot (G := .p (.give j s) :: G) (gs' := .ref t2 :: gs) ⟨⟨t2, rfl, b1, upd_same, hb2.tk (tk_same s2)⟩, kg1.imp fun _ _ z => GtV.tk (tk_same s2) z⟩
      rw [List.reverse_cons] at hT3
      exact q _ _ _ _ .give hT3
    | [], _ => cases e2
    | .p _ :: _, _ => cases e2
    | .t _ :: _, [] => exact hg2.elim
  | iff =>
    have h1 : H b = some (.tup [.str "if"]) := hJ
    obtain ⟨g', e2, _⟩ := ho
    match G, gs with
    | .p c0 :: .p c1 :: .t c2 :: G, v0 :: v1 :: v2 :: gs =>
      obtain ⟨⟨b0, rfl, hb0⟩, ⟨b1, rfl, hb1⟩, ⟨b2, rfl, hb2⟩, hg3⟩ := hg2
      refine ⟨_, rfl, b, _, _, _, rfl, rfl, SqT.of h1, at0, ?_⟩
      refine ⟨_, rfl, rfl, _, rfl, itF rfl ⟨_, rfl, rfl, _, rfl, itF rfl ⟨_, rfl, sz (by show 3 ≤ 100000; decide), fun t0 ht0 => ⟨t0, _, rfl, .inr (SqT.of upd_same), rfl, rfl, _, rfl, itF rfl ⟨_, rfl, rfl, _, rfl, itF rfl ⟨_, rfl, rfl, _, rfl, itF rfl ⟨_, rfl, rfl, _, rfl, itF rfl ⟨_, rfl, rfl, _, rfl, itT rfl ?_⟩⟩⟩⟩⟩⟩⟩⟩
      have s0 := same_new ht0 (.tup [.str "let", .str "tell", .str "post"])
      have hT0 := hT.mono s0
      have hg0 := s0 _ _ hg1
      have h10 := s0 _ _ h1
      generalize hHa : upd H t0 (.tup [.str "let", .str "tell", .str "post"]) = Ha at s0 hT0 hg0 h10
      have kg0 := hg3.imp fun _ _ z => GtV.tk (tk_same s0) z
      have hc0 := PAt.tk (tk_same s0) hb0
      have hc1 := PAt.tk (tk_same s0) hb1
      have hc2 := At.tk (tk_same s0) hb2
      refine ⟨_, rfl, A.p, CT, _, _, _, rfl, hT0.ob, X.clT, X.tGot, l_got _ _ _ _, .inl ⟨rfl, _, SqL.of hg0⟩, ?_⟩
      have hd := drop_rev (gs1 := [V.ref b2, V.ref b1, V.ref b0]) (gs2 := gs)
      have e9 : (V.ref b0 :: V.ref b1 :: V.ref b2 :: gs : List V) = [V.ref b2, V.ref b1, V.ref b0].reverse ++ gs := rfl
      rw [e9] at hg0
      refine ⟨_, rfl, _, rfl, A.p, CT, _, _, _, rfl, hT0.ob, X.clT, X.tGot, l_got _ _ _ _, A.gl, _, 3, rfl, hg0, by simp, fun H2 v s2 hv => ?_⟩
      have hv' : H2 v = some (.tup [V.ref b2, V.ref b1, V.ref b0]) := hv.trans (congrArg (fun z => some (HO.tup z)) hd.1)
      have hd2 : ([V.ref b2, V.ref b1, V.ref b0].reverse ++ gs).reverse.take (([V.ref b2, V.ref b1, V.ref b0].reverse ++ gs).reverse.length - 3) = gs.reverse := hd.2
      rw [hd2]
      have hT2 := hT0.mono s2
      have kg2 : All2 (GtV H2) G gs := kg0.imp fun _ _ z => GtV.tk (tk_same s2) z
      have hT3 : TuAt CN CT H0 (upd H2 A.gl (.lst gs.reverse)) A tk ⟨J, R, G, m⟩ ras := hT2.setGot kg2
      have tk3 : TK H2 (upd H2 A.gl (.lst gs.reverse)) := tk_put (s2 _ _ hg0)
      have hv3 := tk3 _ _ hv'
      have kg3 := kg2.imp fun _ _ z => GtV.tk tk3 z
      have tk03 := (tk_same s2).trans tk3
      have hd0 := PAt.tk tk03 hc0
      have hd1 := PAt.tk tk03 hc1
      have hd2x := At.tk tk03 hc2
      have hgl3 : upd H2 A.gl (.lst gs.reverse) A.gl = some (.lst gs.reverse) := upd_same
      generalize upd H2 A.gl (.lst gs.reverse) = H3 at hT3 hv3 kg3 tk3 tk03 hgl3 hd0 hd1 hd2x
      refine ⟨v, _, rfl, .inl (SqT.of hv3), sz (by show 4 ≤ 100000; decide), fun t3 ht3 => ?_⟩
      have s4 := same_new ht3 (.tup (.str "if" :: [V.ref b2, V.ref b1, V.ref b0]))
      have hT4 := hT3.mono s4
      have hlg := kg3.len
      simp only [List.length_cons] at hzg
      refine ⟨A.gl, _, _, rfl, rfl, s4 _ _ hgl3, Nat.lt_of_le_of_lt (m := 5000) (by rw [List.length_reverse]; omega) (by decide), ?_⟩
      have hT5 := hT4.setGot (G := .p (.iff c2 c1 c0) :: G) (gs' := .ref t3 :: gs) ⟨⟨t3, rfl, b2, b1, b0, upd_same, hd2x.tk (tk_same s4), PAt.tk (tk_same s4) hd1, PAt.tk (tk_same s4) hd0⟩, kg3.imp fun _ _ z => GtV.tk (tk_same s4) z⟩
      rw [List.reverse_cons] at hT5
      exact q _ _ _ _ .iff hT5
    | [], _ => cases e2
    | .t _ :: _, _ => cases e2
    | .p _ :: [], _ => cases e2
    | .p _ :: .t _ :: _, _ => cases e2
    | .p _ :: .p _ :: [], _ => cases e2
    | .p _ :: .p _ :: .p _ :: _, _ => cases e2
    | .p _ :: .p _ :: .t _ :: _, [] => exact hg2.elim
    | .p _ :: .p _ :: .t _ :: _, [_] => exact hg2.2.elim
    | .p _ :: .p _ :: .t _ :: _, [_, _] => exact hg2.2.2.elim
  | op l =>
    cases l with
    | false =>
      have h1 : H b = some (.tup [.str "plus"]) := hJ
      obtain ⟨g', e2, _⟩ := ho
      match G, gs with
      | .t c0 :: .t c1 :: G, v0 :: v1 :: gs =>
        obtain ⟨⟨b0, rfl, hb0⟩, ⟨b1, rfl, hb1⟩, hg3⟩ := hg2
        refine ⟨_, rfl, b, _, _, _, rfl, rfl, SqT.of h1, at0, ?_⟩
        refine ⟨_, rfl, rfl, _, rfl, itF rfl ⟨_, rfl, rfl, _, rfl, itF rfl ⟨_, rfl, sz (by show 3 ≤ 100000; decide), fun t0 ht0 => ⟨t0, _, rfl, .inr (SqT.of upd_same), rfl, rfl, _, rfl, itF rfl ⟨_, rfl, rfl, _, rfl, itF rfl ⟨_, rfl, rfl, _, rfl, itF rfl ⟨_, rfl, rfl, _, rfl, itF rfl ⟨_, rfl, rfl, _, rfl, itF rfl ?_⟩⟩⟩⟩⟩⟩⟩⟩
        have s0 := same_new ht0 (.tup [.str "let", .str "tell", .str "post"])
        have hT0 := hT.mono s0
        have hg0 := s0 _ _ hg1
        have h10 := s0 _ _ h1
        generalize hHa : upd H t0 (.tup [.str "let", .str "tell", .str "post"]) = Ha at s0 hT0 hg0 h10
        have kg0 := hg3.imp fun _ _ z => GtV.tk (tk_same s0) z
        have hc0 := At.tk (tk_same s0) hb0
        have hc1 := At.tk (tk_same s0) hb1
        refine ⟨_, rfl, A.p, CT, _, _, _, rfl, hT0.ob, X.clT, X.tGot, l_got _ _ _ _, .inl ⟨rfl, _, SqL.of hg0⟩, ?_⟩
        have hd := drop_rev (gs1 := [V.ref b1, V.ref b0]) (gs2 := gs)
        have e9 : (V.ref b0 :: V.ref b1 :: gs : List V) = [V.ref b1, V.ref b0].reverse ++ gs := rfl
        rw [e9] at hg0
        refine ⟨_, rfl, _, rfl, A.p, CT, _, _, _, rfl, hT0.ob, X.clT, X.tGot, l_got _ _ _ _, A.gl, _, 2, rfl, hg0, by simp, fun H2 v s2 hv => ?_⟩
        have hv' : H2 v = some (.tup [V.ref b1, V.ref b0]) := hv.trans (congrArg (fun z => some (HO.tup z)) hd.1)
        have hd2 : ([V.ref b1, V.ref b0].reverse ++ gs).reverse.take (([V.ref b1, V.ref b0].reverse ++ gs).reverse.length - 2) = gs.reverse := hd.2
        rw [hd2]
        have hT2 := hT0.mono s2
        have kg2 : All2 (GtV H2) G gs := kg0.imp fun _ _ z => GtV.tk (tk_same s2) z
        have hT3 : TuAt CN CT H0 (upd H2 A.gl (.lst gs.reverse)) A tk ⟨J, R, G, m⟩ ras := hT2.setGot kg2
        have tk3 : TK H2 (upd H2 A.gl (.lst gs.reverse)) := tk_put (s2 _ _ hg0)
        have hv3 := tk3 _ _ hv'
        have kg3 := kg2.imp fun _ _ z => GtV.tk tk3 z
        have tk03 := (tk_same s2).trans tk3
        have hd0 := At.tk tk03 hc0
        have hd1 := At.tk tk03 hc1
        have hgl3 : upd H2 A.gl (.lst gs.reverse) A.gl = some (.lst gs.reverse) := upd_same
        generalize upd H2 A.gl (.lst gs.reverse) = H3 at hT3 hv3 kg3 tk3 tk03 hgl3 hd0 hd1
        refine ⟨v, _, rfl, .inl (SqT.of hv3), sz (by show 3 ≤ 100000; decide), fun t3 ht3 => ?_⟩
        have s4 := same_new ht3 (.tup (.str "plus" :: [V.ref b1, V.ref b0]))
        have hT4 := hT3.mono s4
        have hlg := kg3.len
        simp only [List.length_cons] at hzg
        refine ⟨A.gl, _, _, rfl, rfl, s4 _ _ hgl3, Nat.lt_of_le_of_lt (m := 5000) (by rw [List.length_reverse]; omega) (by decide), ?_⟩
        have hT5 := hT4.setGot (G := .t (mkOp false c1 c0) :: G) (gs' := .ref t3 :: gs) ⟨⟨t3, rfl, two_at (l := false) upd_same (hd1.tk (tk_same s4)) (hd0.tk (tk_same s4))⟩, kg3.imp fun _ _ z => GtV.tk (tk_same s4) z⟩
        rw [List.reverse_cons] at hT5
        exact q _ _ _ _ .op hT5
      | [], _ => cases e2
      | .p _ :: _, _ => cases e2
      | .t _ :: [], _ => cases e2
      | .t _ :: .p _ :: _, _ => cases e2
      | .t _ :: .t _ :: _, [] => exact hg2.elim
      | .t _ :: .t _ :: _, [_] => exact hg2.2.elim
    | true =>
      have h1 : H b = some (.tup [.str "less"]) := hJ
      obtain ⟨g', e2, _⟩ := ho
      match G, gs with
      | .t c0 :: .t c1 :: G, v0 :: v1 :: gs =>
        obtain ⟨⟨b0, rfl, hb0⟩, ⟨b1, rfl, hb1⟩, hg3⟩ := hg2
        refine ⟨_, rfl, b, _, _, _, rfl, rfl, SqT.of h1, at0, ?_⟩
        refine ⟨_, rfl, rfl, _, rfl, itF rfl ⟨_, rfl, rfl, _, rfl, itF rfl ⟨_, rfl, sz (by show 3 ≤ 100000; decide), fun t0 ht0 => ⟨t0, _, rfl, .inr (SqT.of upd_same), rfl, rfl, _, rfl, itF rfl ⟨_, rfl, rfl, _, rfl, itF rfl ⟨_, rfl, rfl, _, rfl, itF rfl ⟨_, rfl, rfl, _, rfl, itF rfl ⟨_, rfl, rfl, _, rfl, itF rfl ?_⟩⟩⟩⟩⟩⟩⟩⟩
        have s0 := same_new ht0 (.tup [.str "let", .str "tell", .str "post"])
        have hT0 := hT.mono s0
        have hg0 := s0 _ _ hg1
        have h10 := s0 _ _ h1
        generalize hHa : upd H t0 (.tup [.str "let", .str "tell", .str "post"]) = Ha at s0 hT0 hg0 h10
        have kg0 := hg3.imp fun _ _ z => GtV.tk (tk_same s0) z
        have hc0 := At.tk (tk_same s0) hb0
        have hc1 := At.tk (tk_same s0) hb1
        refine ⟨_, rfl, A.p, CT, _, _, _, rfl, hT0.ob, X.clT, X.tGot, l_got _ _ _ _, .inl ⟨rfl, _, SqL.of hg0⟩, ?_⟩
        have hd := drop_rev (gs1 := [V.ref b1, V.ref b0]) (gs2 := gs)
        have e9 : (V.ref b0 :: V.ref b1 :: gs : List V) = [V.ref b1, V.ref b0].reverse ++ gs := rfl
        rw [e9] at hg0
        refine ⟨_, rfl, _, rfl, A.p, CT, _, _, _, rfl, hT0.ob, X.clT, X.tGot, l_got _ _ _ _, A.gl, _, 2, rfl, hg0, by simp, fun H2 v s2 hv => ?_⟩
        have hv' : H2 v = some (.tup [V.ref b1, V.ref b0]) := hv.trans (congrArg (fun z => some (HO.tup z)) hd.1)
        have hd2 : ([V.ref b1, V.ref b0].reverse ++ gs).reverse.take (([V.ref b1, V.ref b0].reverse ++ gs).reverse.length - 2) = gs.reverse := hd.2
        rw [hd2]
        have hT2 := hT0.mono s2
        have kg2 : All2 (GtV H2) G gs := kg0.imp fun _ _ z => GtV.tk (tk_same s2) z
        have hT3 : TuAt CN CT H0 (upd H2 A.gl (.lst gs.reverse)) A tk ⟨J, R, G, m⟩ ras := hT2.setGot kg2
        have tk3 : TK H2 (upd H2 A.gl (.lst gs.reverse)) := tk_put (s2 _ _ hg0)
        have hv3 := tk3 _ _ hv'
        have kg3 := kg2.imp fun _ _ z => GtV.tk tk3 z
        have tk03 := (tk_same s2).trans tk3
        have hd0 := At.tk tk03 hc0
        have hd1 := At.tk tk03 hc1
        have hgl3 : upd H2 A.gl (.lst gs.reverse) A.gl = some (.lst gs.reverse) := upd_same
        generalize upd H2 A.gl (.lst gs.reverse) = H3 at hT3 hv3 kg3 tk3 tk03 hgl3 hd0 hd1
        refine ⟨v, _, rfl, .inl (SqT.of hv3), sz (by show 3 ≤ 100000; decide), fun t3 ht3 => ?_⟩
        have s4 := same_new ht3 (.tup (.str "less" :: [V.ref b1, V.ref b0]))
        have hT4 := hT3.mono s4
        have hlg := kg3.len
        simp only [List.length_cons] at hzg
        refine ⟨A.gl, _, _, rfl, rfl, s4 _ _ hgl3, Nat.lt_of_le_of_lt (m := 5000) (by rw [List.length_reverse]; omega) (by decide), ?_⟩
        have hT5 := hT4.setGot (G := .t (mkOp true c1 c0) :: G) (gs' := .ref t3 :: gs) ⟨⟨t3, rfl, two_at (l := true) upd_same (hd1.tk (tk_same s4)) (hd0.tk (tk_same s4))⟩, kg3.imp fun _ _ z => GtV.tk (tk_same s4) z⟩
        rw [List.reverse_cons] at hT5
        exact q _ _ _ _ .op hT5
      | [], _ => cases e2
      | .p _ :: _, _ => cases e2
      | .t _ :: [], _ => cases e2
      | .t _ :: .p _ :: _, _ => cases e2
      | .t _ :: .t _ :: _, [] => exact hg2.elim
      | .t _ :: .t _ :: _, [_] => exact hg2.2.elim
end
end KB

namespace KB
open PySem L2 HT

/-! ### go -/
def SzB (n : Nat) (R : List (List Ld)) (G : List Gt) : Prop := R.length ≤ n ∧ G.length ≤ n ∧ ∀ r ∈ R, r.length ≤ n
theorem FinJ.sz {j : Jb} {R R1 : List (List Ld)} {G G1 : List Gt} {n : Nat} (f : FinJ j R G R1 G1) (h : SzB n R G) : SzB (n + 1) R1 G1 := by
  obtain ⟨h1, h2, h3⟩ := h
  cases f with
  | row => exact ⟨by rw [List.length_cons]; omega, by omega, fun r hr => by
      rcases List.mem_cons.mp hr with z | z
      · subst z; exact Nat.zero_le _
      · exact Nat.le_succ_of_le (h3 r z)⟩
  | close =>
    rw [List.length_cons] at h1 h2
    exact ⟨by omega, by rw [List.length_cons]; omega, fun r hr => Nat.le_succ_of_le (h3 r (List.mem_cons_of_mem _ hr))⟩
  | lett =>
    rw [List.length_cons] at h1 h2
    refine ⟨by rw [List.length_cons]; omega, by omega, fun r hr => ?_⟩
    rcases List.mem_cons.mp hr with z | z
    · subst z
      have := h3 _ List.mem_cons_self
      rw [List.length_append, List.length_singleton]
      omega
    · exact Nat.le_succ_of_le (h3 r (List.mem_cons_of_mem _ z))
  | tell =>
    rw [List.length_cons] at h1 h2
    refine ⟨by rw [List.length_cons]; omega, by omega, fun r hr => ?_⟩
    rcases List.mem_cons.mp hr with z | z
    · subst z
      have := h3 _ List.mem_cons_self
      rw [List.length_append, List.length_singleton]
      omega
    · exact Nat.le_succ_of_le (h3 r (List.mem_cons_of_mem _ z))
  | post =>
    rw [List.length_cons] at h1 h2
    refine ⟨by rw [List.length_cons]; omega, by omega, fun r hr => ?_⟩
    rcases List.mem_cons.mp hr with z | z
    · subst z
      have := h3 _ List.mem_cons_self
      rw [List.length_append, List.length_singleton]
      omega
    · exact Nat.le_succ_of_le (h3 r (List.mem_cons_of_mem _ z))
  | known => exact ⟨by omega, by rw [List.length_cons]; omega, fun r hr => Nat.le_succ_of_le (h3 r hr)⟩
  | ask =>
    rw [List.length_append] at h2
    exact ⟨by omega, by rw [List.length_cons]; omega, fun r hr => Nat.le_succ_of_le (h3 r hr)⟩
  | give => exact ⟨by omega, by simp only [List.length_cons] at h2 ⊢; omega, fun r hr => Nat.le_succ_of_le (h3 r hr)⟩
  | iff => exact ⟨by omega, by simp only [List.length_cons] at h2 ⊢; omega, fun r hr => Nat.le_succ_of_le (h3 r hr)⟩
  | op => exact ⟨by omega, by simp only [List.length_cons] at h2 ⊢; omega, fun r hr => Nat.le_succ_of_le (h3 r hr)⟩
theorem kG_ts (ts : List Tm) : (ts.map Gt.t).reverse.map kG = List.replicate ts.length false := by
  rw [List.map_reverse, List.map_map]
  have : (kG ∘ Gt.t) = fun _ => false := rfl
  rw [this, List.map_const', List.reverse_replicate]
theorem FinJ.ok {j : Jb} {J : List Jb} {R R1 : List (List Ld)} {G G1 : List Gt} (f : FinJ j R G R1 G1) (o : okJ (j :: J) R.length (G.map kG)) : okJ J R1.length (G1.map kG) := by
  cases f with
  | row => exact o
  | close =>
    obtain ⟨r', g', e1, e2, o⟩ := o
    rw [List.length_cons] at e1
    cases Nat.succ.inj e1
    cases (List.cons.inj e2).2
    exact o
  | lett =>
    obtain ⟨g', _, e2, o⟩ := o
    cases (List.cons.inj e2).2
    exact o
  | tell =>
    obtain ⟨g', _, e2, o⟩ := o
    cases (List.cons.inj e2).2
    exact o
  | post =>
    obtain ⟨g', _, e2, o⟩ := o
    cases (List.cons.inj e2).2
    exact o
  | known => exact o
  | ask =>
    obtain ⟨g', e2, o⟩ := o
    rw [List.map_append, kG_ts] at e2
    cases List.append_cancel_left e2
    exact o
  | give =>
    obtain ⟨g', e2, o⟩ := o
    cases (List.cons.inj e2).2
    exact o
  | iff =>
    obtain ⟨g', e2, o⟩ := o
    cases (List.cons.inj (List.cons.inj (List.cons.inj e2).2).2).2
    exact o
  | op =>
    obtain ⟨g', e2, o⟩ := o
    cases (List.cons.inj (List.cons.inj e2).2).2
    exact o
def jn : Jb → Str
  | .row => "row"
  | .done _ _ => "done"
  | .put _ _ => "put"
  | .simple _ => "simple"
  | .known _ => "known"
  | .close => "close"
  | .lett _ => "let"
  | .tell _ => "tell"
  | .post _ _ => "post"
  | .ask _ _ _ => "ask"
  | .give _ => "give"
  | .iff => "if"
  | .op l => if l then "less" else "plus"
theorem JbA.head {H : Hp} {q : Addr} {j : Jb} (h : JbA H q j) : ∃ r, H q = some (.tup (.str (jn j) :: r)) := by
  cases j with
  | done t j => obtain ⟨b, h1, h2⟩ := h; exact ⟨_, h1⟩
  | put t x => obtain ⟨b, h1, h2⟩ := h; exact ⟨_, h1⟩
  | simple t => obtain ⟨b, h1, h2⟩ := h; exact ⟨_, h1⟩
  | known t => obtain ⟨b, h1, h2⟩ := h; exact ⟨_, h1⟩
  | _ => exact ⟨_, h⟩
theorem jn_mk (j : Jb) : inV (.str (jn j)) [.str "done", .str "put", .str "simple"] = isMk j := by
  cases j with
  | op l => cases l <;> rfl
  | _ => rfl
theorem JbA.okm {H : Hp} {q : Addr} {j : Jb} (h : JbA H q j) (hm : isMk j = true) (w : Str) : wJs (mkJ j w) < wJ j ∧ ∀ {J : List Jb} {r : Nat} {g : List Bool}, okJ (j :: J) r g → okJ (mkJ j w ++ J) r g := by
  cases j with
  | done t j => obtain ⟨b, h1, h2⟩ := h; exact ⟨w_done t j h2.ar, fun o => ok_done h2.ar o⟩
  | put t x => obtain ⟨b, h1, h2⟩ := h; exact ⟨w_put t x w h2.ar, fun o => ok_put h2.ar o⟩
  | simple t => obtain ⟨b, h1, h2⟩ := h; exact ⟨w_simple t w h2.ar, fun o => ok_simp h2.ar o⟩
  | _ => cases hm
theorem run_mk {tk : List Str} {j : Jb} {w : Str} {J : List Jb} {R G m m' R2 G2 m2} (hm : isMk j = true) (h1 : wordJ j = true → NwR tk m w m') (h2 : wordJ j = false → m' = m) (h : Run tk (mkJ j w ++ J) R G m' R2 G2 m2) : Run tk (j :: J) R G m R2 G2 m2 := by
  cases j with
  | done t j => cases h2 rfl; exact .done h
  | put t x => exact .put h1 h2 h
  | simple t => exact .simple h1 h2 h
  | _ => cases hm
theorem nw_le {tk : List Str} {m : Nat} {w : Str} {m' : Nat} {b : Bool} (h1 : b = true → NwR tk m w m') (h2 : b = false → m' = m) (ht : tk.length ≤ 200) : m' ≤ m + 201 := by
  cases b with
  | true =>
    obtain ⟨k, k1, k2, _, _, k3, _⟩ := h1 rfl
    omega
  | false =>
    have := h2 rfl
    omega
section
variable {P : Program} {w : World} {K : PySem.W.Frag} {mg : Str → Option Value} {base : Heap} {CN CT : Addr}
def spGo (CN CT : Addr) : Sp := fun vs H Q _ => ∃ (H0 : Hp) (A : TuA) (tk : List Str) (m0 : Nat) (l : Addr) (J : List Jb) (us : List V), vs = [.ref A.p, .ref l] ∧ TuAt CN CT H0 H A tk ⟨[], [], [], m0⟩ [] ∧ H l = some (.lst us) ∧ All2 (JbV H) J us ∧ okJ J 0 [] ∧
  wJs J ≤ 2000 ∧ tk.length ≤ 200 ∧ m0 ≤ 1000 ∧ ∀ H' q m', Run tk J [] [] m0 [] [.p q] m' → TuAt CN CT H0 H' A tk ⟨[], [], [.p q], m'⟩ [] → Q .non H'
abbrev sGo : Stmt := inClass (top 38) 1
theorem scGo : FnScope ["self", "jobs", "job"] ["self", "jobs"] (defScope sGo) := ⟨rfl, rfl, rfl, by decide +kernel, rfl, by decide +kernel, by decide +kernel⟩
def GoW (CN CT : Addr) (H0 : Hp) (A : TuA) (tk : List Str) (J : List Jb) (m0 : Nat) (l : Addr) (μ : Nat) (σ : St) (H' : Hp) : Prop := ∃ (c : Cg) (ras : List Addr) (o : Option V) (n : Nat), σ = [some (.ref A.p), some (.ref l), o] ∧ TuAt CN CT H0 H' A tk c ras ∧ μ = wJs c.jobs ∧ okJ c.jobs c.rows.length (c.got.map kG) ∧
  SzB n c.rows c.got ∧ n + wJs c.jobs ≤ 2000 ∧ c.m + 300 * wJs c.jobs ≤ 700000 ∧ ∀ R2 G2 m2, Run tk c.jobs c.rows c.got c.m R2 G2 m2 → Run tk J [] [] m0 R2 G2 m2
theorem ok_go (X : TxN K mg CN CT) {f g1 g2 : Addr} {fd d1 d2 : FuncData} (F : Fun K "go" "Turning.go" sGo f fd) (G1 : FnOk P w K mg base CX0 4 g1 d1 ["self", "job"] (spJof CN CT)) (b1 : Binds K d1 ["self", "job"] []) (m1 : Meth K CT "jobs_of" g1)
    (G2 : FnOk P w K mg base CX0 2 g2 d2 ["self", "job"] (spFin CN CT)) (b2 : Binds K d2 ["self", "job"] []) (m2 : Meth K CT "finish" g2) : FnOk P w K mg base CX0 5 f fd ["self", "jobs"] (spGo CN CT) := by
  refine F.ok scGo (fun vs H Q E h => ?_) (fun cdv A outer s H vs Q E hr h => ?_)
  · obtain ⟨H0, A, tk, m0, l, J, us, rfl, _⟩ := h
    rfl
  obtain ⟨H0, A, tk, m0, l, J, us, rfl, hT, hl, kJ, hok, hw, htk, hm0, q⟩ := h
  refine ⟨_, (pss_cons (ps_expr (pe_bm PySem.F.plainAttrs_list PySem.F.slot_list_extend PySem.F.type_list_extend mt_extend (pe_fld (pv 0) rfl) (pa_cons (pe_revL (pv 1)) pa_nil)))
    (pss_one (ps_while PassesOwn.never (pt_truth (pe_fld (pv 0) rfl) (by intro _; rfl)) (pss_cons (ps_set (i := 2) scGo.nd rfl (Or.inl rfl) (pe_bm0 PySem.F.plainAttrs_list PySem.F.slot_list_pop PySem.F.type_list_pop mt_pop (pe_fld (pv 0) rfl)))
    (pss_one (ps_if (pt_cmpR op_in_seq (pe_ix ix_tup (pv 2) pe_int (fun _ _ => rfl)) (pe_tup (pa_cons pe_str (pa_cons pe_str (pa_cons pe_str pa_nil)))) rfl) (pss_one (ps_expr (pe_bm PySem.F.plainAttrs_list PySem.F.slot_list_extend PySem.F.type_list_extend mt_extend (pe_fld (pv 0) rfl) (pa_cons (pe_revL (pe_meth (pv 0) X.clT m1 G1 (hr.mono (by omega)) b1 .nil pass0 (pa_cons (pv 2) pa_nil))) pa_nil)))) (pss_one (ps_expr (pe_meth (pv 0) X.clT m2 G2 (hr.mono (by omega)) b2 .nil pass0 (pa_cons (pv 2) pa_nil)))))))))), ?_⟩
  obtain ⟨js, j1, j2⟩ := hT.js
  have ej : js = [] := by
    cases js with
    | nil => rfl
    | cons _ _ => exact j2.elim
  subst ej
  have hlu := kJ.len
  have hlw := len_wJs J
  refine ⟨_, rfl, A.p, CT, _, _, _, rfl, hT.ob, X.clT, X.tJobs, l_jobs _ _ _ _, .inl ⟨rfl, _, SqL.of j1⟩, ?_⟩
  refine ⟨_, rfl, l, us, rfl, SqL.of hl, fun p hp => ?_⟩
  have s1 := same_new hp (.lst us.reverse)
  refine ⟨A.jl, p, _, us.reverse, rfl, rfl, s1 _ _ j1, upd_same, sz (by rw [List.length_reverse, List.length_reverse]; show 0 + us.length ≤ 100000; omega), ?_⟩
  have hT1 := (hT.mono s1).setJobs (J := J) (js' := us) (kJ.imp fun _ _ z => JbV.tk (tk_same s1) z)
  refine ⟨GoW CN CT H0 A tk J m0 l, ⟨_, _, [], none, 0, rfl, hT1, rfl, hok, ⟨Nat.le_refl _, Nat.le_refl _, fun r hr => by cases hr⟩, by show 0 + wJs J ≤ 2000; omega, by show m0 + 300 * wJs J ≤ 700000; omega, fun _ _ _ z => z⟩, ?_⟩
  clear s1 hT1 hp j1 j2 hT hl kJ hok hlu hlw
  rintro μ σ H1 ⟨⟨J1, R, G, m⟩, ras, o, n, rfl, hT, rfl, hok, hz, hn, hm, hrun⟩
  dsimp only at hok hz hn hm hrun
  obtain ⟨js, j1, j2⟩ := hT.js
  refine ⟨_, rfl, A.p, CT, _, _, _, rfl, hT.ob, X.clT, X.tJobs, l_jobs _ _ _ _, _, .inl ⟨_, SqL.of j1, rfl⟩, ?_⟩
  cases js with
  | nil =>
    cases J1 with
    | cons _ _ => exact j2.elim
    | nil =>
      refine itF rfl ?_
      obtain ⟨e1, e2⟩ := hok
      cases R with
      | cons _ _ => cases e1
      | nil =>
        match G, e2 with
        | [.p q1], _ =>
          have er := hT.rs
          cases ras with
          | cons _ _ => exact er.elim
          | nil => exact q H1 q1 m (hrun _ _ _ .nil) hT
  | cons v js =>
    cases J1 with
    | nil => exact j2.elim
    | cons j J1 =>
      obtain ⟨⟨b, rfl, hb⟩, k2⟩ := j2
      refine itT (by simp) ⟨fun σ' H' => ∃ m', m' < wJs (j :: J1) ∧ GoW CN CT H0 A tk J m0 l m' σ' H', fun _ _ z => z, ?_⟩
      refine ⟨_, rfl, A.p, CT, _, _, _, rfl, hT.ob, X.clT, X.tJobs, l_jobs _ _ _ _, .inl ⟨rfl, _, SqL.of j1⟩, A.jl, _, .ref b, rfl, rfl, j1, by simp, ?_⟩
      rw [popE]
      have hT2 := hT.setJobs (J := J1) (js' := js) k2
      have tk2 : TK H1 (upd H1 A.jl (.lst js.reverse)) := tk_put j1
      have hb2 := hb.tk tk2
      dsimp only at hT2
      generalize upd H1 A.jl (.lst js.reverse) = H2 at hT2 tk2 hb2
      obtain ⟨r0, hd⟩ := hb2.head
      refine ⟨_, rfl, b, _, _, _, rfl, rfl, SqT.of hd, at0, sz (by show 3 ≤ 100000; decide), fun t0 ht0 => ?_⟩
      refine ⟨t0, _, rfl, .inr (SqT.of upd_same), rfl, rfl, _, rfl, ?_⟩
      have s0 := same_new ht0 (.tup [.str "done", .str "put", .str "simple"])
      have hT3 := hT2.mono s0
      have hb3 := hb2.tk (tk_same s0)
      generalize upd H2 t0 (.tup [.str "done", .str "put", .str "simple"]) = H3 at s0 hT3 hb3
      rw [wJs_cons] at hn hm
      have hwp := wJ_pos j
      show if inV (.str (jn j)) [.str "done", .str "put", .str "simple"] = true then _ else _
      rw [jn_mk]
      by_cases cm : isMk j = true
      · refine itT cm ?_
        obtain ⟨js3, j3, k3⟩ := hT3.js
        refine ⟨_, rfl, A.p, CT, _, _, _, rfl, hT3.ob, X.clT, X.tJobs, l_jobs _ _ _ _, .inl ⟨rfl, _, SqL.of j3⟩, ?_⟩
        refine ⟨_, rfl, A.p, _, _, rfl, hT3.ob, by rfl, _, rfl, H0, A, tk, ⟨J1, R, G, m⟩, ras, b, j, rfl, hT3, hb3, cm, ?_, fun r H4 us w m' g1 g2 hT4 g4 g5 => ?_⟩
        · refine Nat.lt_of_le_of_lt (m := 1000000) ?_ (by decide)
          show m + tk.length + 2 ≤ 1000000
          omega
        refine ⟨r, us, rfl, SqL.of g4, fun p hp => ?_⟩
        have s5 := same_new hp (.lst us.reverse)
        obtain ⟨js4, j4, k4⟩ := hT4.js
        obtain ⟨h7, h8⟩ := hb3.okm cm w
        have lu := g5.len
        have lw := len_wJs (mkJ j w)
        have l4 := k4.len
        have lw4 := len_wJs J1
        dsimp only at l4
        refine ⟨A.jl, p, _, us.reverse, rfl, rfl, s5 _ _ j4, upd_same, sz (by rw [List.length_reverse, List.length_reverse]; omega), ?_⟩
        rw [← List.reverse_append]
        have k5 : All2 (JbV (upd H4 p (.lst us.reverse))) (mkJ j w ++ J1) (us ++ js4) := (g5.imp fun _ _ z => JbV.tk (tk_same s5) z).app (k4.imp fun _ _ z => JbV.tk (tk_same s5) z)
        have hT5 := (hT4.mono s5).setJobs k5
        have hmm := nw_le g1 g2 htk
        dsimp only at hmm
        refine ⟨wJs (mkJ j w ++ J1), by rw [wJs_app, wJs_cons]; omega, _, ras, _, n, rfl, hT5, rfl, h8 hok, hz, by rw [wJs_app]; omega, ?_, fun R2 G2 m2 z => hrun _ _ _ (run_mk cm g1 g2 z)⟩
        show m' + 300 * wJs (mkJ j w ++ J1) ≤ 700000
        rw [wJs_app]
        omega
      · refine itF (Bool.eq_false_iff.mpr cm) ?_
        refine ⟨_, rfl, A.p, _, _, rfl, hT3.ob, by rfl, _, rfl, H0, A, tk, ⟨J1, R, G, m⟩, ras, b, j, rfl, hT3, hb3, Bool.eq_false_iff.mpr cm, hok, ⟨Nat.le_trans hz.1 (by omega), Nat.le_trans hz.2.1 (by omega), fun r hr => Nat.le_trans (hz.2.2 r hr) (by omega)⟩, fun H4 R1 G1 ras' f hT4 => ?_⟩
        dsimp only at f hT4
        exact ⟨wJs J1, by rw [wJs_cons]; omega, _, ras', _, n + 1, rfl, hT4, rfl, f.ok hok, f.sz hz, by show n + 1 + wJs J1 ≤ 2000; omega, by show m + 300 * wJs J1 ≤ 700000; omega, fun R2 G2 m2 z => hrun _ _ _ (.fin f z)⟩
end
end KB

namespace KB
open PySem L2 HT

/-! ### terms as trees -/
def plT : Tm → List (List Int × Tm)
  | .mk h n k => ([], .mk h n k) :: (List.ofFn fun i : _root_.Fin n => (plT (k i)).map (fun e => ((i.val : Int) :: e.1, e.2))).flatten
theorem plT_fn : ∀ {n : Nat} {k : _root_.Fin n → Tm} {j : Nat}, (List.ofFn fun i : _root_.Fin n => (plT (k i)).map (fun e => (((j + i.val : Nat) : Int) :: e.1, e.2))).flatten = plL plT j (List.ofFn k)
  | 0, _, _ => rfl
  | n + 1, k, j => by
    rw [List.ofFn_succ, List.ofFn_succ, List.flatten_cons]
    show _ = (plT (k 0)).map (fun e => ((j : Int) :: e.1, e.2)) ++ plL plT (j + 1) _
    rw [← plT_fn (k := fun i => k i.succ) (j := j + 1)]
    congr 3
    · funext i
      have e : j + (i.succ).val = j + 1 + i.val := by
        rw [_root_.Fin.val_succ]
        omega
      rw [e]
theorem plT_eq (t : Tm) : plT t = ([], t) :: plL plT 0 (kidsT t) := by
  cases t with
  | mk h n k =>
    show _ = ([], Tm.mk h n k) :: plL plT 0 (List.ofFn k)
    rw [← plT_fn]
    show _ :: _ = _
    congr 4
    funext i
    rw [Nat.zero_add]
def TrT : Tre Tm where
  kids := kidsT
  sz := cnt
  pl := plT
  A H t a := At H t a
  tk e h := h.tk e
  szk n := cnt_kids n
  plk n := plT_eq n
def letW (t : Tm) : Option Str := match hdT t with | .lett x => some x | _ => none
def wordsIn (xs : List Str) (t : Tm) : List Str := xs ++ (TrT.pre t).filterMap letW
theorem wordsIn_len (xs : List Str) (t : Tm) : (wordsIn xs t).length ≤ xs.length + cnt t := by
  unfold wordsIn
  rw [List.length_append]
  have h1 := List.length_filterMap_le letW (TrT.pre t)
  have h2 : (TrT.pre t).length = cnt t := by
    show (List.map _ (TrT.pl t)).length = _
    rw [List.length_map]
    exact TrT.pl_len _ t (Nat.le_refl _)
  omega
section
variable {P : Program} {w : World} {K : PySem.W.Frag} {mg : Str → Option Value} {base : Heap} {CN CT : Addr}
theorem parts_kids {f : Addr} {fd : FuncData} (F : FnOk P w K mg base CX0 1 f fd ["term"] spParts) : FnOk P w K mg base CX0 1 f fd ["term"] (spKids TrT) := by
  refine F.imp fun vs H Q E h => ?_
  obtain ⟨n, a, rfl, hA, q⟩ := h
  obtain ⟨xs, l, k⟩ := At.kids hA
  exact ⟨a, hdT n, xs, rfl, l, fun p H' s hp => q p H' xs s hp (k.imp fun _ _ z => RefV.tk (tk_same s) z)⟩
def spWordsIn : Sp := fun vs H Q _ => ∃ (np a : Addr) (xs : List Str) (t : Tm), vs = [.ref np, .ref a] ∧ H np = some (.tup (xs.map V.str)) ∧ At H t a ∧ cnt t ≤ 1000 ∧ xs.length ≤ 100 ∧ ∀ H' p, H p = none → Same H H' → H' p = some (.lst ((wordsIn xs t).map V.str)) → Q (.ref p) H'
abbrev swords_in : Stmt := top 11
theorem scwords_in : FnScope ["names", "body", "term"] ["names", "body"] (defScope swords_in) := ⟨rfl, rfl, rfl, by decide +kernel, rfl, by decide +kernel, by decide +kernel⟩
theorem ok_wordsIn {f f1 f2 : Addr} {fd d1 d2 : FuncData} (F : Fun K "words_in" "words_in" swords_in f fd) (Gmet : FnOk P w K mg base CX0 2 f1 d1 ["body", "parts"] (spMet TrT f2)) (Rmet : Ref K mg "met" f1 d1 ["body", "parts"]) (Rparts_of : Ref K mg "parts_of" f2 d2 ["term"]) : FnOk P w K mg base CX0 3 f fd ["names", "body"] spWordsIn := by
  refine F.ok scwords_in (fun vs H Q E h => ?_) (fun cdv A outer s H vs Q E hr h => ?_)
  · obtain ⟨np, a, xs, t, rfl, _⟩ := h
    rfl
  obtain ⟨np, a, xs, t, rfl, hn, hA, hc, hx, q⟩ := h
  refine ⟨_, (pss_one (ps_ret (pe_lst (StX.pa_star (pv 0) (StX.pa_star (pe_lc (own := [("term", 2)]) (g := gName 2) (tt := tTest (tOp rEq (tOp (rIxT K) (tVar 2) (tC (.int 0))) (tC (.str "let")))) (te := tOp (rIxT K) (tVar 2) (tC (.int 1))) (by rfl) scwords_in.nd (pi_list (pe_call Gmet (hr.mono (by omega)) rfl Rmet.m Rmet.k Rmet.b .nil pass0 (pa_cons (pv 1) (pa_cons (pe_glob (v := .ref f2) rfl Rparts_of.m rfl) pa_nil)))) (blkOk_by (own := [("term", 2)]) (N := ["names", "body", "term"]) (sc := defScope swords_in) (by decide +kernel)) (fun _ _ _ _ _ => (pg_name (i := 2) scwords_in.nd rfl (Or.inl rfl))) (fun _ _ _ _ _ => (pts_one (pt_cmpR op_eq (pe_ix ix_tup (pv 2) pe_int (fun _ _ => rfl)) pe_str (nomark _)))) (fun _ _ _ _ _ => (pe_ix ix_tup (pv 2) pe_int (fun _ _ => rfl)))) pa_nil))))), ?_⟩
  refine ⟨_, rfl, np, _, rfl, .inl (SqT.of hn), _, rfl, t, a, rfl, hA, hc, fun pm H1 its hpm s1 h1 k1 => ?_⟩
  have hlp : its.length = cnt t := by
    rw [k1.len]
    show (List.map _ (TrT.pl t)).length = _
    rw [List.length_map]
    exact TrT.pl_len _ t (Nat.le_refl _)
  refine ⟨pm, rfl, ⟨_, SqL.of h1⟩, fun D hD => lc_list (K := K) (a := pm) (xs := its) (fun i H' => Same H1 H' ∧ H' D = some (.lst ((((TrT.pre t).take i).filterMap letW).map V.str))) ⟨same_new hD _, upd_same⟩ ?_ ?_ ?_⟩
  · rintro i H' _ ⟨s2, _⟩
    exact SqL.of (s2 _ _ h1)
  · rintro i x H2 hx2 ⟨s2, h2⟩
    obtain ⟨u, hu, b, rfl, hb⟩ := k1.get hx2
    obtain ⟨hj, hj2⟩ := List.getElem?_eq_some_iff.mp hu
    have hb2 := At.tk (tk_same s2) hb
    obtain ⟨ys, l, _⟩ := hb2.kids
    obtain ⟨r0, hd⟩ := l.head
    have hle := List.length_filterMap_le letW ((TrT.pre t).take i)
    rw [List.length_take] at hle
    have hpl : (TrT.pre t).length = cnt t := by rw [← k1.len]; exact hlp
    refine ⟨rfl, ?_⟩
    refine ⟨_, rfl, b, _, _, _, rfl, rfl, SqT.of hd, at0, rfl, _, rfl, ?_⟩
    rw [List.take_succ_eq_append_getElem hj, hj2, List.filterMap_append, List.map_append]
    refine ite2 (fun c => ?_) (fun c => ?_)
    · obtain ⟨y, hh⟩ := hs_let (V.str.inj (of_decide_eq_true c))
      rw [hh] at l
      refine ⟨_, rfl, b, _, _, _, rfl, rfl, SqT.of l.2, at1, ?_⟩
      refine ⟨_, h2, Nat.lt_of_le_of_lt (m := 1000) (by rw [List.length_map]; omega) (by decide), same_mut s2 hD, ?_⟩
      have e : [u].filterMap letW = [y] := by
        simp [letW, hh]
      rw [e]
      exact upd_same
    · have e : [u].filterMap letW = [] := by
        have : letW u = none := by
          unfold letW
          cases hh : hdT u with
          | lett x => rw [hh] at c; exact absurd (decide_eq_true rfl) c
          | _ => rfl
        simp [this]
      rw [e, List.map_nil, List.append_nil]
      exact ⟨s2, h2⟩
  · rintro H2 ⟨s2, h2⟩
    rw [show its.length = (TrT.pre t).length from k1.len, List.take_length] at h2
    have hwl := wordsIn_len xs t
    have e : (wordsIn xs t).map V.str = xs.map V.str ++ ((TrT.pre t).filterMap letW).map V.str := by
      unfold wordsIn
      rw [List.map_append]
    refine ⟨D, _, rfl, .inr (SqL.of h2), ?_⟩
    show (xs.map V.str ++ (((TrT.pre t).filterMap letW).map V.str ++ [])).length ≤ sizeLine ∧ _
    rw [List.append_nil, ← e]
    refine ⟨sz (by rw [List.length_map]; omega), fun p hp => ?_⟩
    have s3 := same_new hp (.lst ((wordsIn xs t).map V.str))
    exact q _ p ((s1.trans s2).free hp) ((s1.trans s2).trans s3) upd_same
end
end KB

namespace KB
open PySem L2 HT

section
variable {P : Program} {w : World} {K : PySem.W.Frag} {mg : Str → Option Value} {base : Heap} {CN CT : Addr}
/-! ### a new turning -/
def spT0 (CT : Addr) : Sp := fun vs H Q _ => ∃ (p dx nw : Addr), vs = [.ref p, .ref nw] ∧ H p = some (.ins CT dx []) ∧
  ∀ H' jl rl gl, (∀ b o, b ≠ p → H b = some o → H' b = some o) → H jl = none → H rl = none → H gl = none → jl ≠ rl → jl ≠ gl → rl ≠ gl → H' p = some (.ins CT dx (fsT (.ref nw) (.ref jl) (.ref rl) (.ref gl))) → H' jl = some (.lst []) → H' rl = some (.lst []) → H' gl = some (.lst []) → Q .non H'
abbrev sT0 : Stmt := inClass (top 38) 0
theorem scT0 : FnScope ["self", "new_words"] ["self", "new_words"] (defScope sT0) := ⟨rfl, rfl, rfl, by decide +kernel, rfl, by decide +kernel, by decide +kernel⟩
theorem ok_t0 (X : TxN K mg CN CT) {f : Addr} {fd : FuncData} (F : Fun K "__init__" "Turning.__init__" sT0 f fd) : FnOk P w K mg base CX0 1 f fd ["self", "new_words"] (spT0 CT) := by
  refine F.ok scT0 (fun vs H Q E h => ?_) (fun cdv A outer s H vs Q E hr h => ?_)
  · obtain ⟨p, dx, nw, rfl, _⟩ := h
    rfl
  obtain ⟨p, dx, nw, rfl, hp, q⟩ := h
  refine ⟨_, (pss_cons (ps_fld (pv 0) (pv 1) rfl)
    (pss_cons (ps_fld (pv 0) (pe_lst pa_nil) rfl)
    (pss_cons (ps_fld (pv 0) (pe_lst pa_nil) rfl)
    (pss_one (ps_fld (pv 0) (pe_lst pa_nil) rfl))))), ?_⟩
  refine ⟨_, rfl, _, rfl, p, CT, dx, _, rfl, hp, X.clT, X.tNew, (by show 0 < 1000; decide), ?_⟩
  have a1 : upd H p (.ins CT dx [("new_words", .ref nw)]) p = some (.ins CT dx [("new_words", .ref nw)]) := upd_same
  have b1 : ∀ b o, b ≠ p → H b = some o → upd H p (.ins CT dx [("new_words", .ref nw)]) b = some o := fun b o n hb => by rw [upd_ne n]; exact hb
  have f1 : ∀ {b}, upd H p (.ins CT dx [("new_words", .ref nw)]) b = none → H b = none ∧ b ≠ p := fun {b} hb => by
    by_cases e : b = p
    · subst e; rw [a1] at hb; cases hb
    · rw [upd_ne e] at hb; exact ⟨hb, e⟩
  rw [show putF "new_words" (.ref nw) [] = ([("new_words", .ref nw)] : List (Str × V)) from rfl]
  generalize upd H p (.ins CT dx [("new_words", .ref nw)]) = H1 at a1 b1 f1
  refine ⟨sz (by decide), fun jl hjl => ?_⟩
  have s2 := same_new hjl (.lst [])
  have njp := (f1 hjl).2
  refine ⟨_, rfl, p, CT, dx, _, rfl, s2 _ _ a1, X.clT, X.tJobs, (by show 1 < 1000; decide), ?_⟩
  have a2 : upd (upd H1 jl (.lst [])) p (.ins CT dx [("new_words", .ref nw), ("jobs", .ref jl)]) p = some (.ins CT dx [("new_words", .ref nw), ("jobs", .ref jl)]) := upd_same
  have j2 : upd (upd H1 jl (.lst [])) p (.ins CT dx [("new_words", .ref nw), ("jobs", .ref jl)]) jl = some (.lst []) := by rw [upd_ne njp]; exact upd_same
  have b2 : ∀ b o, b ≠ p → H1 b = some o → upd (upd H1 jl (.lst [])) p (.ins CT dx [("new_words", .ref nw), ("jobs", .ref jl)]) b = some o := fun b o n hb => by rw [upd_ne n]; exact s2 _ _ hb
  have f2 : ∀ {b}, upd (upd H1 jl (.lst [])) p (.ins CT dx [("new_words", .ref nw), ("jobs", .ref jl)]) b = none → H1 b = none ∧ b ≠ p ∧ b ≠ jl := fun {b} hb => by
    by_cases e : b = p
    · subst e; rw [a2] at hb; cases hb
    · by_cases e2 : b = jl
      · subst e2; rw [j2] at hb; cases hb
      · rw [upd_ne e, upd_ne e2] at hb; exact ⟨hb, e, e2⟩
  rw [show putF "jobs" (.ref jl) [("new_words", .ref nw)] = ([("new_words", .ref nw), ("jobs", .ref jl)] : List (Str × V)) from rfl]
  generalize upd (upd H1 jl (.lst [])) p (.ins CT dx [("new_words", .ref nw), ("jobs", .ref jl)]) = H2 at a2 j2 b2 f2
  refine ⟨sz (by decide), fun rl hrl => ?_⟩
  have s3 := same_new hrl (.lst [])
  obtain ⟨hr1, nrp, nrj⟩ := f2 hrl
  refine ⟨_, rfl, p, CT, dx, _, rfl, s3 _ _ a2, X.clT, X.tRows, (by show 2 < 1000; decide), ?_⟩
  have a3 : upd (upd H2 rl (.lst [])) p (.ins CT dx [("new_words", .ref nw), ("jobs", .ref jl), ("rows", .ref rl)]) p = some (.ins CT dx [("new_words", .ref nw), ("jobs", .ref jl), ("rows", .ref rl)]) := upd_same
  have r3 : upd (upd H2 rl (.lst [])) p (.ins CT dx [("new_words", .ref nw), ("jobs", .ref jl), ("rows", .ref rl)]) rl = some (.lst []) := by rw [upd_ne nrp]; exact upd_same
  have b3 : ∀ b o, b ≠ p → H2 b = some o → upd (upd H2 rl (.lst [])) p (.ins CT dx [("new_words", .ref nw), ("jobs", .ref jl), ("rows", .ref rl)]) b = some o := fun b o n hb => by rw [upd_ne n]; exact s3 _ _ hb
  have f3 : ∀ {b}, upd (upd H2 rl (.lst [])) p (.ins CT dx [("new_words", .ref nw), ("jobs", .ref jl), ("rows", .ref rl)]) b = none → H2 b = none ∧ b ≠ p ∧ b ≠ rl := fun {b} hb => by
    by_cases e : b = p
    · subst e; rw [a3] at hb; cases hb
    · by_cases e2 : b = rl
      · subst e2; rw [r3] at hb; cases hb
      · rw [upd_ne e, upd_ne e2] at hb; exact ⟨hb, e, e2⟩
  rw [show putF "rows" (.ref rl) [("new_words", .ref nw), ("jobs", .ref jl)] = ([("new_words", .ref nw), ("jobs", .ref jl), ("rows", .ref rl)] : List (Str × V)) from rfl]
  generalize upd (upd H2 rl (.lst [])) p (.ins CT dx [("new_words", .ref nw), ("jobs", .ref jl), ("rows", .ref rl)]) = H3 at a3 r3 b3 f3
  refine ⟨sz (by decide), fun gl hgl => ?_⟩
  have s4 := same_new hgl (.lst [])
  obtain ⟨hg2, ngp, ngr⟩ := f3 hgl
  obtain ⟨hg1, _, ngj⟩ := f2 hg2
  refine ⟨_, rfl, p, CT, dx, _, rfl, s4 _ _ a3, X.clT, X.tGot, (by show 3 < 1000; decide), ?_⟩
  refine q _ jl rl gl (fun b o n hb => ?_) (f1 hjl).1 (f1 hr1).1 (f1 hg1).1 nrj.symm ngj.symm ngr.symm upd_same ?_ ?_ ?_
  · rw [upd_ne n]
    exact s4 _ _ (b3 _ _ n (b2 _ _ n (b1 _ _ n hb)))
  · rw [upd_ne njp]
    exact s4 _ _ (b3 _ _ njp j2)
  · rw [upd_ne nrp]
    exact s4 _ _ r3
  · rw [upd_ne ngp]
    exact upd_same
/-! ### turned_body -/
def RunB (xs : List Str) (t : Tm) (p : Pt) : Prop := ∃ m', Run (wordsIn xs t) [.row, .done t "home"] [] [] 0 [] [.p p] m'
def spTBody : Sp := fun vs H Q _ => ∃ (np a : Addr) (xs : List Str) (t : Tm), vs = [.ref np, .ref a] ∧ H np = some (.tup (xs.map V.str)) ∧ At H t a ∧ cnt t ≤ 90 ∧ xs.length ≤ 10 ∧ ∀ H' b p, Same H H' → RunB xs t p → PAt H' p b → Q (.ref b) H'
abbrev sturned_body : Stmt := top 35
theorem scturned_body : FnScope ["names", "body", "turning"] ["names", "body"] (defScope sturned_body) := ⟨rfl, rfl, rfl, by decide +kernel, rfl, by decide +kernel, by decide +kernel⟩
theorem ok_tbody (X : TxN K mg CN CT) (S : TxS K mg) {f f1 fN fT fg : Addr} {fd d1 dN dT dg : FuncData} (F : Fun K "turned_body" "turned_body" sturned_body f fd) (Gwords_in : FnOk P w K mg base CX0 3 f1 d1 ["names", "body"] spWordsIn) (Rwords_in : Ref K mg "words_in" f1 d1 ["names", "body"])
    (GN : FnOk P w K mg base CX0 1 fN dN ["self", "taken"] (spNew0 CN)) (BN : Binds K dN ["self", "taken"] []) (MN : Mk K CN fN) (GT : FnOk P w K mg base CX0 1 fT dT ["self", "new_words"] (spT0 CT)) (BT : Binds K dT ["self", "new_words"] []) (MT : Mk K CT fT)
    (Ggo : FnOk P w K mg base CX0 5 fg dg ["self", "jobs"] (spGo CN CT)) (bgo : Binds K dg ["self", "jobs"] []) (mgo : Meth K CT "go" fg) : FnOk P w K mg base CX0 6 f fd ["names", "body"] spTBody := by
  refine F.ok scturned_body (fun vs H Q E h => ?_) (fun cdv A outer s H vs Q E hr h => ?_)
  · obtain ⟨np, a, xs, t, rfl, _⟩ := h
    rfl
  obtain ⟨np, a, xs, t, rfl, hn, hA, hc, hx, q⟩ := h
  obtain ⟨th, eh⟩ := S.home
  refine ⟨_, (pss_cons (ps_set (i := 2) scturned_body.nd rfl (Or.inl rfl) (pe_make MT GT (hr.mono (by omega)) rfl X.mgT BT .nil pass0 (pa_cons (pe_make MN GN (hr.mono (by omega)) rfl X.mgN BN .nil pass0 (pa_cons (pe_call Gwords_in (hr.mono (by omega)) rfl Rwords_in.m Rwords_in.k Rwords_in.b .nil pass0 (pa_cons (pv 0) (pa_cons (pv 1) pa_nil))) pa_nil)) pa_nil)))
    (pss_cons (ps_expr (pe_meth (pv 2) X.clT mgo Ggo hr bgo .nil pass0 (pa_cons (pe_lst (pa_cons (pe_tup (pa_cons pe_str pa_nil)) (pa_cons (pe_tup (pa_cons pe_str (pa_cons (pv 1) (pa_cons (pe_glob (v := .str "home") rfl eh ⟨_, rfl⟩) pa_nil)))) pa_nil))) pa_nil)))
    (pss_one (ps_ret (pe_bm0 PySem.F.plainAttrs_list PySem.F.slot_list_pop PySem.F.type_list_pop mt_pop (pe_fld (pv 2) rfl)))))), ?_⟩
  refine ⟨_, rfl, _, rfl, np, a, xs, t, rfl, hn, hA, by omega, by omega, fun H1 tl htl s1 h1 => ?_⟩
  have hwl := wordsIn_len xs t
  intro x1 dx1 hx1 hdx1 nx1
  have sA : Same H1 (upd (upd H1 dx1 (.own x1)) x1 (.ins CN dx1 [])) := fun b u z => by
    rw [upd_ne (ne_of_none z hx1), upd_ne (ne_of_none z hdx1)]
    exact z
  refine ⟨x1, dx1, tl, wordsIn xs t, rfl, upd_same, sA _ _ h1, by omega, fun H2 td k2 htd n2 => ⟨rfl, ?_⟩⟩
  have s2 : Same H1 H2 := fun b u z => k2 b u (ne_of_none z hx1) (sA b u z)
  intro x2 dx2 hx2 hdx2 nx2
  have sB : Same H2 (upd (upd H2 dx2 (.own x2)) x2 (.ins CT dx2 [])) := fun b u z => by
    rw [upd_ne (ne_of_none z hx2), upd_ne (ne_of_none z hdx2)]
    exact z
  refine ⟨x2, dx2, x1, rfl, upd_same, fun H3 jl rl gl k3 hj hr3 hg n1 n2' n3 p3 j3 r3 g3 => ⟨rfl, ?_⟩⟩
  have s3 : Same H2 H3 := fun b u z => k3 b u (ne_of_none z hx2) (sB b u z)
  have s13 := s1.trans (s2.trans s3)
  have fr : ∀ {b}, upd (upd H2 dx2 (.own x2)) x2 (.ins CT dx2 []) b = none → H b = none := fun {b} z => s1.free (s2.free (sB.free z))
  have nw3 : NWAt CN H3 x1 dx1 td (wordsIn xs t) 0 := by
    obtain ⟨kvs, q1, q2⟩ := n2.tk
    exact ⟨s3 _ _ n2.ob, kvs, s3 _ _ q1, q2⟩
  have n4 : x2 ≠ x1 := fun z => by
    rw [z, n2.ob] at hx2
    cases hx2
  have hT : TuAt CN CT H H3 ⟨x2, dx2, x1, dx1, td, jl, rl, gl⟩ (wordsIn xs t) ⟨[], [], [], 0⟩ [] :=
    ⟨p3, nw3, ⟨[], j3, trivial⟩, r3, trivial, ⟨[], g3, trivial⟩, List.nodup_nil, n1, n2', n3, n4, (fun y hy => absurd hy (List.not_mem_nil)), s13, fr hj, fr hr3, fr hg, s1.free hx1, (fun y hy => absurd hy (List.not_mem_nil))⟩
  have hA3 := hA.tk (tk_same s13)
  clear k2 k3 sA sB nw3 p3 j3 r3 g3 hx1 hdx1 hx2 hdx2 n2
  refine ⟨_, rfl, x2, _, _, rfl, hT.ob, by rfl, sz (by show 1 ≤ 100000; decide), fun t1 ht1 => ?_⟩
  have s4 := same_new ht1 (.tup [.str "row"])
  refine ⟨_, rfl, sz (by show 3 ≤ 100000; decide), fun t2 ht2 => ?_⟩
  have s5 := same_new ht2 (.tup [.str "done", .ref a, .str "home"])
  refine ⟨sz (by show 2 ≤ 100000; decide), fun l hl => ?_⟩
  have s6 := same_new hl (.lst [.ref t1, .ref t2])
  refine ⟨H, ⟨x2, dx2, x1, dx1, td, jl, rl, gl⟩, wordsIn xs t, 0, l, [.row, .done t "home"], [.ref t1, .ref t2], rfl, hT.mono (s4.trans (s5.trans s6)), upd_same, ⟨⟨t1, rfl, (s5.trans s6) _ _ upd_same⟩, ⟨t2, rfl, a, s6 _ _ upd_same, hA3.tk (tk_same (s4.trans (s5.trans s6)))⟩, trivial⟩, ⟨0, rfl, rfl, rfl⟩, ?_, by omega, by decide, fun H4 p m' hrun hT4 => ?_⟩
  · show 1 + (20 * cnt t + 5 + 0) ≤ 2000
    omega
  obtain ⟨gs, g1, g2⟩ := hT4.gs
  match gs, g2 with
  | [v], ⟨⟨b, e, hb⟩, _⟩ =>
    subst e
    refine ⟨_, rfl, x2, CT, _, _, _, rfl, hT4.ob, X.clT, X.tGot, l_got _ _ _ _, .inl ⟨rfl, _, SqL.of g1⟩, gl, _, .ref b, rfl, rfl, g1, by simp, ?_⟩
    have tk : TK H4 (upd H4 gl (.lst (List.reverse [V.ref b]).dropLast)) := tk_put g1
    refine q _ b p (same_mut hT4.sm hT4.o3) ⟨m', hrun⟩ (PAt.tk tk hb)
/-! ### turn_book -/
def TurV (H : Hp) (e : Er) (v : V) : Prop := ∃ q r b p, v = .ref q ∧ H q = some (.tup [.str e.1, .ref r, .ref b]) ∧ H r = some (.tup (e.2.1.map V.str)) ∧ RunB e.2.1 e.2.2 p ∧ PAt H p b
theorem TurV.tk {H H' : Hp} (t : TK H H') {e : Er} {v : V} (h : TurV H e v) : TurV H' e v :=
  let ⟨q, r, b, p, e1, h1, h2, h3, h4⟩ := h; ⟨q, r, b, p, e1, t _ _ h1, t _ _ h2, h3, PAt.tk t h4⟩
def spTBook : Sp := fun vs H Q _ => ∃ (p : Addr) (es : List Er) (us : List V), vs = [.ref p] ∧ BkAt H es us p ∧ es.length ≤ 6 ∧ (∀ e ∈ es, cnt e.2.2 ≤ 90 ∧ e.2.1.length ≤ 10) ∧ ∀ H' p' vs, Same H H' → H' p' = some (.tup vs) → All2 (TurV H') es vs → Q (.ref p') H'
abbrev sturn_book : Stmt := top 34
theorem scturn_book : FnScope ["book", "name", "names", "body"] ["book"] (defScope sturn_book) := ⟨rfl, rfl, rfl, by decide +kernel, rfl, by decide +kernel, by decide +kernel⟩
theorem ok_tbook (T : Txt K mg) {f f1 : Addr} {fd d1 : FuncData} (F : Fun K "turn_book" "turn_book" sturn_book f fd) (Gturned_body : FnOk P w K mg base CX0 6 f1 d1 ["names", "body"] spTBody) (Rturned_body : Ref K mg "turned_body" f1 d1 ["names", "body"]) : FnOk P w K mg base CX0 7 f fd ["book"] spTBook := by
  refine F.ok scturn_book (fun vs H Q E h => ?_) (fun cdv A outer s H vs Q E hr h => ?_)
  · obtain ⟨p, es, us, rfl, _⟩ := h
    rfl
  obtain ⟨p, es, us, rfl, hB, hl6, hc, q⟩ := h
  refine ⟨_, (pss_one (ps_ret (pe_callTy call_tuple_of (by rfl) T.m_tuple (by decide +kernel) (pa_cons (pe_lc (own := [("name", 1), ("names", 2), ("body", 3)]) (g := gTup K 3 (gCons (gName 1) (gCons (gName 2) (gCons (gName 3) gNil)))) (by rfl) scturn_book.nd (pi_tup (pv 0)) (blkOk_by (own := [("name", 1), ("names", 2), ("body", 3)]) (N := ["book", "name", "names", "body"]) (sc := defScope sturn_book) (by decide +kernel)) (fun _ _ _ _ _ => (pg_tup rfl (pgs_cons (pg_name (i := 1) scturn_book.nd rfl (Or.inl rfl)) (pgs_cons (pg_name (i := 2) scturn_book.nd rfl (Or.inl rfl)) (pgs_cons (pg_name (i := 3) scturn_book.nd rfl (Or.inl rfl)) pgs_nil))))) (fun _ _ _ _ _ => pts_nil) (fun _ _ _ _ _ => (pe_tup (pa_cons (pv 1) (pa_cons (pv 2) (pa_cons (pe_call Gturned_body hr rfl Rturned_body.m Rturned_body.k Rturned_body.b .nil pass0 (pa_cons (pv 2) (pa_cons (pv 3) pa_nil))) pa_nil)))))) pa_nil)))), ?_⟩
  refine ⟨_, rfl, p, rfl, ⟨_, SqT.of hB.1⟩, fun D hD => lc_tup (K := K) (a := p) (xs := us) (fun i H' => Same H H' ∧ ∃ acc, H' D = some (.lst acc) ∧ All2 (TurV H') (es.take i) acc) ⟨same_new hD _, [], upd_same, by rw [List.take_zero]; trivial⟩ ?_ ?_ ?_⟩
  · rintro i H' _ ⟨s2, _⟩
    exact SqT.of (s2 _ _ hB.1)
  · rintro i x H2 hx2 ⟨s2, acc, h2, k2⟩
    obtain ⟨e, he, qa, r, b, rfl, g1, g2, g3⟩ := hB.2.get hx2
    have hee := mem_of_get he
    obtain ⟨hc1, hc2⟩ := hc e hee
    obtain ⟨hj, hj2⟩ := List.getElem?_eq_some_iff.mp he
    have hle := k2.len
    rw [List.length_take] at hle
    refine ⟨qa, _, rfl, SqT.of (s2 _ _ g1), rfl, _, _, rfl, _, _, rfl, _, _, rfl, rfl, rfl, ?_⟩
    dsimp only [tYes]
    refine iteT ⟨_, rfl, _, rfl, _, rfl, _, rfl, r, b, e.2.1, e.2.2, rfl, s2 _ _ g2, At.tk (tk_same s2) g3, hc1, hc2, fun H3 b3 p3 s3 hrun hp3 => ?_⟩
    refine ⟨sz (by show 3 ≤ 100000; decide), fun t3 ht3 => ?_⟩
    have s4 := same_new ht3 (.tup [.str e.1, .ref r, .ref b3])
    have s34 := s3.trans s4
    have h4 := s34 _ _ h2
    have tk := tk_put (o := .lst (acc ++ [.ref t3])) h4
    refine ⟨acc, h4, Nat.lt_of_le_of_lt (m := 100) (by omega) (by decide), same_mut (s2.trans s34) hD, _, upd_same, ?_⟩
    rw [List.take_succ_eq_append_getElem hj, hj2]
    exact ((k2.imp fun _ _ z => TurV.tk (tk_same s34) z).imp fun _ _ z => z.tk tk).app ⟨⟨t3, r, b3, p3, rfl, tk _ _ upd_same, tk _ _ ((s2.trans s34) _ _ g2), hrun, PAt.tk ((tk_same s4).trans tk) hp3⟩, trivial⟩
  · rintro H2 ⟨s2, acc, h2, k2⟩
    rw [hB.2.len, List.take_length] at k2
    refine ⟨D, acc, rfl, .inl ⟨SqL.of h2, fun p' hp' => ?_⟩⟩
    have s3 := same_new hp' (.tup acc)
    exact q _ p' acc (s2.trans s3) upd_same (k2.imp fun _ _ z => TurV.tk (tk_same s3) z)
end
end KB

namespace KB
open PySem L2

/-! ### what the turning of a term leaves, told by the term -/
mutual
inductive CpS (tk : List Str) : Tm → Nat → List Ld → Tm → Nat → Prop
  | leaf {t m} : (∃ z, hdT t = .num z) ∨ (∃ x, hdT t = .nam x) → CpS tk t m [] t m
  | op {t m ls sa sb m2} {l : Bool} : hdT t = (if l = true then Hd.less else Hd.plus) → CpL tk (kidsT t) m ls [sa, sb] m2 → CpS tk t m ls (mkOp l sa sb) m2
  | lett {t y a b m la m1 lb s m2} : hdT t = .lett y → kidsT t = [a, b] → CpP tk a y m la m1 → m ≤ m1 → CpS tk b m1 lb s m2 → CpS tk t m (la ++ lb) s m2
  | word {t m w m1 ls m2} : wordS (hdT t) = true → NwR tk m w m1 → CpP tk t w m1 ls m2 → CpS tk t m ls (mkL (.nam w) []) m2
inductive CpP (tk : List Str) : Tm → Str → Nat → List Ld → Nat → Prop
  | lett {t x y a b m la m1 lb m2} : hdT t = .lett y → kidsT t = [a, b] → CpP tk a y m la m1 → m ≤ m1 → CpP tk b x m1 lb m2 → CpP tk t x m (la ++ lb) m2
  | ask {t f x w m m1 la ss m2} : hdT t = .ask f → NwR tk m w m1 → CpL tk (kidsT t) m1 la ss m2 → CpP tk t x m (la ++ [.post w x (.ask f ss w)]) m2
  | iff {t x w a b c m m1 la s m2 lb qb m3 lc qc m4} : hdT t = .iff → kidsT t = [a, b, c] → NwR tk m w m1 → CpS tk a m1 la s m2 → CpD tk b w m2 lb qb m3 → m2 ≤ m3 → CpD tk c w m3 lc qc m4 → m3 ≤ m4 →
      CpP tk t x m (la ++ [.post w x (.iff s (putAh lb qb) (putAh lc qc))]) m4
  | tell {t x a m la s m1} : hdT t = .tell → kidsT t = [a] → CpS tk a m la s m1 → CpP tk t x m (la ++ [.tell x s]) m1
  | plain {t x m la s m1} : plainH (hdT t) = true → CpS tk t m la s m1 → CpP tk t x m (la ++ [.lett x s]) m1
inductive CpD (tk : List Str) : Tm → Str → Nat → List Ld → Pt → Nat → Prop
  | lett {t j y a b m la m1 lb q m2} : hdT t = .lett y → kidsT t = [a, b] → CpP tk a y m la m1 → m ≤ m1 → CpD tk b j m1 lb q m2 → CpD tk t j m (la ++ lb) q m2
  | ask {t f j m la ss m1} : hdT t = .ask f → CpL tk (kidsT t) m la ss m1 → CpD tk t j m la (.ask f ss j) m1
  | iff {t j a b c m la s m2 lb qb m3 lc qc m4} : hdT t = .iff → kidsT t = [a, b, c] → CpS tk a m la s m2 → CpD tk b j m2 lb qb m3 → m2 ≤ m3 → CpD tk c j m3 lc qc m4 →
      CpD tk t j m la (.iff s (putAh lb qb) (putAh lc qc)) m4
  | give {t j m la s m1} : lazyH (hdT t) = false → wordH (hdT t) = false → CpS tk t m la s m1 → CpD tk t j m la (.give j s) m1
inductive CpL (tk : List Str) : List Tm → Nat → List Ld → List Tm → Nat → Prop
  | nil {m} : CpL tk [] m [] [] m
  | cons {t ts m la s m1 lb ss m2} : CpS tk t m la s m1 → m ≤ m1 → CpL tk ts m1 lb ss m2 → CpL tk (t :: ts) m (la ++ lb) (s :: ss) m2
end
theorem CpL.len {tk : List Str} : ∀ {ts : List Tm} {m : Nat} {ls : List Ld} {ss : List Tm} {m2 : Nat}, CpL tk ts m ls ss m2 → ss.length = ts.length
  | [], _, _, _, _, .nil => rfl
  | _ :: _, _, _, _, _, .cons _ _ h => by rw [List.length_cons, List.length_cons, h.len]
theorem NwR.lt {tk : List Str} {m m1 : Nat} {w : Str} (h : NwR tk m w m1) : m ≤ m1 := by
  obtain ⟨k, h1, _, _, _, rfl, _⟩ := h
  omega
/-- the count of new words never falls -/
theorem Run.up {tk : List Str} {J : List Jb} {R G m R2 G2 m2} (h : Run tk J R G m R2 G2 m2) : m ≤ m2 := by
  induction h with
  | nil => exact Nat.le_refl _
  | fin _ _ ih => exact ih
  | done _ ih => exact ih
  | @put t _ w _ _ _ m m1 _ _ _ h1 h2 _ ih =>
    cases c : wordH (hdT t) with
    | true => exact Nat.le_trans (h1 c).lt ih
    | false => rw [h2 c] at ih; exact ih
  | @simple t w _ _ _ m m1 _ _ _ h1 h2 _ ih =>
    cases c : wordS (hdT t) with
    | true => exact Nat.le_trans (h1 c).lt ih
    | false => rw [h2 c] at ih; exact ih
/-- each part has as many parts as its kind says -/
def arA : Tm → Prop
  | .mk h n k => arH h n ∧ ∀ i, arA (k i)
theorem arA.kid {t u : Tm} (h : arA t) (e : u ∈ kidsT t) : arA u := by
  obtain ⟨hd, n, k⟩ := t
  obtain ⟨i, rfl⟩ := List.mem_ofFn.mp e
  exact h.2 i
theorem arA.len {t : Tm} (h : arA t) : arH (hdT t) (kidsT t).length := by
  obtain ⟨hd, n, k⟩ := t
  show arH hd (List.ofFn k).length
  rw [List.length_ofFn]
  exact h.1
theorem cnt_kid {t u : Tm} (e : u ∈ kidsT t) : cnt u < cnt t := by
  rw [cnt_kids t]
  have : ∀ {l : List Tm}, u ∈ l → cnt u ≤ cnts l := by
    intro l
    induction l with
    | nil => intro h; cases h
    | cons a r ih =>
      intro h
      rw [cnts_cons]
      rcases List.mem_cons.mp h with rfl | h
      · omega
      · have := ih h; omega
  have := this e
  omega
theorem Run.nil_eq {tk : List Str} {R G m R2 G2 m2} (h : Run tk [] R G m R2 G2 m2) : R2 = R ∧ G2 = G ∧ m2 = m := by
  cases h
  exact ⟨rfl, rfl, rfl⟩
def finJ : Jb → Bool
  | .done _ _ => false
  | .put _ _ => false
  | .simple _ => false
  | _ => true
theorem Run.one_fin {tk : List Str} {j : Jb} {R G m R2 G2 m2} (hj : finJ j = true) (h : Run tk [j] R G m R2 G2 m2) : FinJ j R G R2 G2 ∧ m2 = m := by
  cases h with
  | fin f h =>
    obtain ⟨rfl, rfl, rfl⟩ := h.nil_eq
    exact ⟨f, rfl⟩
  | done => exact absurd hj Bool.false_ne_true
  | put => exact absurd hj Bool.false_ne_true
  | simple => exact absurd hj Bool.false_ne_true
theorem fin_ask {f j : Str} {n : Nat} {R G R2 G2} (h : FinJ (.ask f n j) R G R2 G2) : ∃ (ts : List Tm) (G' : List Gt), ts.length = n ∧ G = (ts.map Gt.t).reverse ++ G' ∧ R2 = R ∧ G2 = .p (.ask f ts j) :: G' := by
  cases h
  exact ⟨_, _, rfl, rfl, rfl, rfl⟩
theorem map_t_injZ {a b : List Tm} (h : a.map Gt.t = b.map Gt.t) : a = b := by
  induction a generalizing b with
  | nil => cases b with
    | nil => rfl
    | cons _ _ => cases h
  | cons x a ih => cases b with
    | nil => cases h
    | cons y b =>
      obtain ⟨h1, h2⟩ := List.cons.inj h
      rw [Gt.t.inj h1, ih h2]
def ComS (tk : List Str) (t : Tm) : Prop := ∀ r R G m R2 G2 m2, Run tk [.simple t] (r :: R) G m R2 G2 m2 → ∃ ls s, R2 = (r ++ ls) :: R ∧ G2 = .t s :: G ∧ CpS tk t m ls s m2
def ComP (tk : List Str) (t : Tm) : Prop := ∀ x r R G m R2 G2 m2, Run tk [.put t x] (r :: R) G m R2 G2 m2 → ∃ ls, R2 = (r ++ ls) :: R ∧ G2 = G ∧ CpP tk t x m ls m2
def ComD (tk : List Str) (t : Tm) : Prop := ∀ j r R G m R2 G2 m2, Run tk [.done t j] (r :: R) G m R2 G2 m2 → ∃ ls q, R2 = R ∧ G2 = .p (putAh (r ++ ls) q) :: G ∧ CpD tk t j m ls q m2
theorem comL {tk : List Str} : ∀ {ts : List Tm}, (∀ t ∈ ts, ComS tk t) → ∀ {r R G m R2 G2 m2}, Run tk (ts.map Jb.simple) (r :: R) G m R2 G2 m2 → ∃ ls ss, R2 = (r ++ ls) :: R ∧ G2 = (ss.map Gt.t).reverse ++ G ∧ CpL tk ts m ls ss m2
  | [], _, r, R, G, m, R2, G2, m2, h => by
    obtain ⟨rfl, rfl, rfl⟩ := h.nil_eq
    exact ⟨[], [], by rw [List.append_nil], rfl, .nil⟩
  | t :: ts, ih, r, R, G, m, R2, G2, m2, h => by
    obtain ⟨R1, G1, m1, h1, h2⟩ := h.split (J1 := [.simple t]) (J2 := ts.map Jb.simple) rfl
    obtain ⟨la, s, rfl, rfl, c1⟩ := ih t List.mem_cons_self _ _ _ _ _ _ _ h1
    obtain ⟨lb, ss, rfl, rfl, c2⟩ := comL (fun u hu => ih u (List.mem_cons_of_mem _ hu)) h2
    exact ⟨la ++ lb, s :: ss, by rw [List.append_assoc], by simp, .cons c1 h1.up c2⟩
/-- an if's two sides, each in a row of its own -/
theorem comI {tk : List Str} {b c : Tm} (hb : ComD tk b) (hc : ComD tk c) {j : Str} {s : Tm} {R G m R2 G2 m2} (h : Run tk [.row, .done b j, .row, .done c j, .iff] R (.t s :: G) m R2 G2 m2) :
    ∃ lb qb m3 lc qc, R2 = R ∧ G2 = .p (.iff s (putAh lb qb) (putAh lc qc)) :: G ∧ CpD tk b j m lb qb m3 ∧ m ≤ m3 ∧ CpD tk c j m3 lc qc m2 ∧ m3 ≤ m2 := by
  obtain ⟨R1, G1, m1, h1, h⟩ := h.split (J1 := [.row]) (J2 := [.done b j, .row, .done c j, .iff]) rfl
  obtain ⟨f1, rfl⟩ := h1.one_fin rfl
  cases f1
  obtain ⟨R1, G1, m1, h1, h⟩ := h.split (J1 := [.done b j]) (J2 := [.row, .done c j, .iff]) rfl
  obtain ⟨lb, qb, rfl, rfl, c1⟩ := hb _ _ _ _ _ _ _ _ h1
  obtain ⟨R2', G2', m2', h2, h⟩ := h.split (J1 := [.row]) (J2 := [.done c j, .iff]) rfl
  obtain ⟨f1, rfl⟩ := h2.one_fin rfl
  cases f1
  obtain ⟨R3, G3, m3, h3, h⟩ := h.split (J1 := [.done c j]) (J2 := [.iff]) rfl
  obtain ⟨lc, qc, rfl, rfl, c2⟩ := hc _ _ _ _ _ _ _ _ h3
  obtain ⟨f1, rfl⟩ := h.one_fin rfl
  cases f1
  exact ⟨lb, qb, _, lc, qc, rfl, rfl, c1, h1.up, c2, h3.up⟩
theorem comp_ (tk : List Str) (n : Nat) : ∀ t, cnt t ≤ n → arA t → ComS tk t ∧ ComP tk t ∧ ComD tk t := by
  induction n with
  | zero =>
    intro t h
    have := cnt_pos t
    omega
  | succ n ih =>
    intro t hn ha
    have kd : ∀ u ∈ kidsT t, ComS tk u ∧ ComP tk u ∧ ComD tk u := fun u hu => ih u (by have := cnt_kid hu; omega) (ha.kid hu)
    have har := ha.len
    -- the kinds that are put under a new word
    have hP1 : plainH (hdT t) = false → ComP tk t := by
      intro hp x r R G m R2 G2 m2 h
      cases h with
      | fin f _ => cases f
      | @put _ _ w _ _ _ _ m1 _ _ _ h1 h2 h =>
        rw [List.append_nil] at h
        unfold putJ endJ at h
        cases hh : hdT t with
        | lett y =>
          rw [hh] at h har h1 h2
          obtain ⟨a, b, e⟩ := two_of har
          rw [e] at h
          have h0 := h2 rfl
          subst h0
          obtain ⟨R1, G1, m1, k1, k2⟩ := h.split (J1 := [.put a y]) (J2 := [.put b x]) rfl
          obtain ⟨la, rfl, rfl, c1⟩ := (kd a (by rw [e]; simp)).2.1 _ _ _ _ _ _ _ _ k1
          obtain ⟨lb, rfl, rfl, c2⟩ := (kd b (by rw [e]; simp)).2.1 _ _ _ _ _ _ _ _ k2
          exact ⟨la ++ lb, by rw [List.append_assoc], rfl, .lett hh e c1 k1.up c2⟩
        | ask f =>
          rw [hh] at h h1 h2
          have hw := h1 rfl
          have h : Run tk (((kidsT t).map Jb.simple ++ [.ask f (kidsT t).length w]) ++ [.post w x]) (r :: R) G m1 R2 G2 m2 := h
          rw [List.append_assoc] at h
          obtain ⟨R1, G1, m3, k1, k2⟩ := h.split rfl
          obtain ⟨la, ss, rfl, rfl, c1⟩ := comL (fun u hu => (kd u hu).1) k1
          obtain ⟨R3, G3, m4, k3, k4⟩ := k2.split (J1 := [.ask f (kidsT t).length w]) (J2 := [.post w x]) rfl
          obtain ⟨f1, rfl⟩ := k3.one_fin rfl
          obtain ⟨ts, G', l1, l2, rfl, rfl⟩ := fin_ask f1
          obtain ⟨l3, rfl⟩ := List.append_inj l2 (by rw [List.length_reverse, List.length_reverse, List.length_map, List.length_map, l1, c1.len])
          have := map_t_injZ (List.reverse_inj.mp l3)
          subst this
          obtain ⟨f2, rfl⟩ := k4.one_fin rfl
          cases f2
          exact ⟨la ++ [.post w x (.ask f ss w)], by rw [List.append_assoc], rfl, .ask hh hw c1⟩
        | iff =>
          rw [hh] at h har h1 h2
          obtain ⟨a, b, c, e⟩ := three_of har
          rw [e] at h
          have hw := h1 rfl
          have h : Run tk [.simple a, .row, .done b w, .row, .done c w, .iff, .post w x] (r :: R) G m1 R2 G2 m2 := h
          obtain ⟨R1, G1, m3, k1, k2⟩ := h.split (J1 := [.simple a]) (J2 := [.row, .done b w, .row, .done c w, .iff, .post w x]) rfl
          obtain ⟨la, s, rfl, rfl, c1⟩ := (kd a (by rw [e]; simp)).1 _ _ _ _ _ _ _ k1
          obtain ⟨R3, G3, m4, k3, k4⟩ := k2.split (J1 := [.row, .done b w, .row, .done c w, .iff]) (J2 := [.post w x]) rfl
          obtain ⟨lb, qb, m5, lc, qc, rfl, rfl, d1, d2, d3, d4⟩ := comI (kd b (by rw [e]; simp)).2.2 (kd c (by rw [e]; simp)).2.2 k3
          obtain ⟨f2, rfl⟩ := k4.one_fin rfl
          cases f2
          exact ⟨la ++ [.post w x (.iff s (putAh lb qb) (putAh lc qc))], by rw [List.append_assoc], rfl, .iff hh e hw c1 d1 d2 d3 d4⟩
        | tell =>
          rw [hh] at h har h1 h2
          obtain ⟨a, e⟩ := one_of har
          rw [e] at h
          have h0 := h2 rfl
          subst h0
          obtain ⟨R1, G1, m3, k1, k2⟩ := h.split (J1 := [.simple a]) (J2 := [.tell x]) rfl
          obtain ⟨la, s, rfl, rfl, c1⟩ := (kd a (by rw [e]; simp)).1 _ _ _ _ _ _ _ k1
          obtain ⟨f2, rfl⟩ := k2.one_fin rfl
          cases f2
          exact ⟨la ++ [.tell x s], by rw [List.append_assoc], rfl, .tell hh e c1⟩
        | num z => rw [hh] at hp; cases hp
        | nam z => rw [hh] at hp; cases hp
        | plus => rw [hh] at hp; cases hp
        | less => rw [hh] at hp; cases hp
    have hS : ComS tk t := by
      intro r R G m R2 G2 m2 h
      cases h with
      | fin f _ => cases f
      | @simple _ w _ _ _ _ m1 _ _ _ h1 h2 h =>
        rw [List.append_nil] at h
        unfold simpJ at h
        have leaf : (∃ z, hdT t = .num z) ∨ (∃ x, hdT t = .nam x) → m1 = m → Run tk [.known t] (r :: R) G m1 R2 G2 m2 → ∃ ls s, R2 = (r ++ ls) :: R ∧ G2 = .t s :: G ∧ CpS tk t m ls s m2 := by
          intro hl e h
          subst e
          obtain ⟨f2, rfl⟩ := h.one_fin rfl
          cases f2
          exact ⟨[], t, by rw [List.append_nil], rfl, .leaf hl⟩
        have op : ∀ (l : Bool) (a b : Tm), hdT t = (if l = true then Hd.less else Hd.plus) → kidsT t = [a, b] → m1 = m → Run tk [.simple a, .simple b, .op l] (r :: R) G m1 R2 G2 m2 → ∃ ls s, R2 = (r ++ ls) :: R ∧ G2 = .t s :: G ∧ CpS tk t m ls s m2 := by
          intro l a b hl e em h
          subst em
          obtain ⟨R1, G1, m3, k1, k2⟩ := h.split (J1 := [a, b].map Jb.simple) (J2 := [.op l]) rfl
          obtain ⟨la, ss, rfl, rfl, c1⟩ := comL (fun u hu => (kd u (by rw [e]; exact hu)).1) k1
          have hl2 := c1.len
          obtain ⟨sa, sb, rfl⟩ := two_of hl2
          obtain ⟨f2, rfl⟩ := k2.one_fin rfl
          cases f2
          exact ⟨la, mkOp l sa sb, rfl, rfl, .op hl (by rw [e]; exact c1)⟩
        have word : wordS (hdT t) = true → plainH (hdT t) = false → Run tk [.put t w, .known (mkL (.nam w) [])] (r :: R) G m1 R2 G2 m2 → ∃ ls s, R2 = (r ++ ls) :: R ∧ G2 = .t s :: G ∧ CpS tk t m ls s m2 := by
          intro hw hp h
          obtain ⟨R1, G1, m3, k1, k2⟩ := h.split (J1 := [.put t w]) (J2 := [.known (mkL (.nam w) [])]) rfl
          obtain ⟨la, rfl, rfl, c1⟩ := hP1 hp _ _ _ _ _ _ _ _ k1
          obtain ⟨f2, rfl⟩ := k2.one_fin rfl
          cases f2
          exact ⟨la, _, rfl, rfl, .word hw (h1 hw) c1⟩
        cases hh : hdT t with
        | num z => rw [hh] at h h2 leaf; exact leaf (.inl ⟨z, rfl⟩) (h2 rfl) h
        | nam z => rw [hh] at h h2 leaf; exact leaf (.inr ⟨z, rfl⟩) (h2 rfl) h
        | plus =>
          rw [hh] at h h2 har
          obtain ⟨a, b, e⟩ := two_of har
          rw [e] at h
          exact op false a b hh e (h2 rfl) h
        | less =>
          rw [hh] at h h2 har
          obtain ⟨a, b, e⟩ := two_of har
          rw [e] at h
          exact op true a b hh e (h2 rfl) h
        | lett y =>
          rw [hh] at h h2 har
          obtain ⟨a, b, e⟩ := two_of har
          rw [e] at h
          have h0 := h2 rfl
          subst h0
          obtain ⟨R1, G1, m3, k1, k2⟩ := h.split (J1 := [.put a y]) (J2 := [.simple b]) rfl
          obtain ⟨la, rfl, rfl, c1⟩ := (kd a (by rw [e]; simp)).2.1 _ _ _ _ _ _ _ _ k1
          obtain ⟨lb, s, rfl, rfl, c2⟩ := (kd b (by rw [e]; simp)).1 _ _ _ _ _ _ _ k2
          exact ⟨la ++ lb, s, by rw [List.append_assoc], rfl, .lett hh e c1 k1.up c2⟩
        | tell => rw [hh] at h word; exact word rfl rfl h
        | iff => rw [hh] at h word; exact word rfl rfl h
        | ask f => rw [hh] at h word; exact word rfl rfl h
    have hP : ComP tk t := by
      cases hp : plainH (hdT t) with
      | false => exact hP1 hp
      | true =>
        intro x r R G m R2 G2 m2 h
        cases h with
        | fin f _ => cases f
        | @put _ _ w _ _ _ _ m1 _ _ _ h1 h2 h =>
          rw [List.append_nil] at h
          unfold putJ at h
          have key : m1 = m → Run tk [.simple t, .lett x] (r :: R) G m1 R2 G2 m2 → ∃ ls, R2 = (r ++ ls) :: R ∧ G2 = G ∧ CpP tk t x m ls m2 := by
            intro e h
            subst e
            obtain ⟨R1, G1, m3, k1, k2⟩ := h.split (J1 := [.simple t]) (J2 := [.lett x]) rfl
            obtain ⟨la, s, rfl, rfl, c1⟩ := hS _ _ _ _ _ _ _ k1
            obtain ⟨f2, rfl⟩ := k2.one_fin rfl
            cases f2
            exact ⟨la ++ [.lett x s], by rw [List.append_assoc], rfl, .plain hp c1⟩
          cases hh : hdT t with
          | num z => rw [hh] at h h2; exact key (h2 rfl) h
          | nam z => rw [hh] at h h2; exact key (h2 rfl) h
          | plus => rw [hh] at h h2; exact key (h2 rfl) h
          | less => rw [hh] at h h2; exact key (h2 rfl) h
          | lett y => rw [hh] at hp; cases hp
          | tell => rw [hh] at hp; cases hp
          | iff => rw [hh] at hp; cases hp
          | ask f => rw [hh] at hp; cases hp
    refine ⟨hS, hP, ?_⟩
    intro j r R G m R2 G2 m2 h
    cases h with
    | fin f _ => cases f
    | done h =>
      rw [List.append_nil] at h
      unfold doneJ endJ at h
      have give : lazyH (hdT t) = false → wordH (hdT t) = false → Run tk [.simple t, .give j, .close] (r :: R) G m R2 G2 m2 → ∃ ls q, R2 = R ∧ G2 = .p (putAh (r ++ ls) q) :: G ∧ CpD tk t j m ls q m2 := by
        intro z1 z2 h
        obtain ⟨R1, G1, m3, k1, k2⟩ := h.split (J1 := [.simple t]) (J2 := [.give j, .close]) rfl
        obtain ⟨la, s, rfl, rfl, c1⟩ := hS _ _ _ _ _ _ _ k1
        obtain ⟨R3, G3, m4, k3, k4⟩ := k2.split (J1 := [.give j]) (J2 := [.close]) rfl
        obtain ⟨f2, rfl⟩ := k3.one_fin rfl
        cases f2
        obtain ⟨f3, rfl⟩ := k4.one_fin rfl
        cases f3
        exact ⟨la, .give j s, rfl, rfl, .give z1 z2 c1⟩
      cases hh : hdT t with
      | lett y =>
        rw [hh] at h har
        obtain ⟨a, b, e⟩ := two_of har
        rw [e] at h
        obtain ⟨R1, G1, m3, k1, k2⟩ := h.split (J1 := [.put a y]) (J2 := [.done b j]) rfl
        obtain ⟨la, rfl, rfl, c1⟩ := (kd a (by rw [e]; simp)).2.1 _ _ _ _ _ _ _ _ k1
        obtain ⟨lb, q, rfl, rfl, c2⟩ := (kd b (by rw [e]; simp)).2.2 _ _ _ _ _ _ _ _ k2
        exact ⟨la ++ lb, q, rfl, by rw [List.append_assoc], .lett hh e c1 k1.up c2⟩
      | ask f =>
        rw [hh] at h
        have h : Run tk (((kidsT t).map Jb.simple ++ [.ask f (kidsT t).length j]) ++ [.close]) (r :: R) G m R2 G2 m2 := h
        rw [List.append_assoc] at h
        obtain ⟨R1, G1, m3, k1, k2⟩ := h.split rfl
        obtain ⟨la, ss, rfl, rfl, c1⟩ := comL (fun u hu => (kd u hu).1) k1
        obtain ⟨R3, G3, m4, k3, k4⟩ := k2.split (J1 := [.ask f (kidsT t).length j]) (J2 := [.close]) rfl
        obtain ⟨f1, rfl⟩ := k3.one_fin rfl
        obtain ⟨ts, G', l1, l2, rfl, rfl⟩ := fin_ask f1
        obtain ⟨l3, rfl⟩ := List.append_inj l2 (by rw [List.length_reverse, List.length_reverse, List.length_map, List.length_map, l1, c1.len])
        have := map_t_injZ (List.reverse_inj.mp l3)
        subst this
        obtain ⟨f2, rfl⟩ := k4.one_fin rfl
        cases f2
        exact ⟨la, .ask f ss j, rfl, rfl, .ask hh c1⟩
      | iff =>
        rw [hh] at h har
        obtain ⟨a, b, c, e⟩ := three_of har
        rw [e] at h
        have h : Run tk [.simple a, .row, .done b j, .row, .done c j, .iff, .close] (r :: R) G m R2 G2 m2 := h
        obtain ⟨R1, G1, m3, k1, k2⟩ := h.split (J1 := [.simple a]) (J2 := [.row, .done b j, .row, .done c j, .iff, .close]) rfl
        obtain ⟨la, s, rfl, rfl, c1⟩ := (kd a (by rw [e]; simp)).1 _ _ _ _ _ _ _ k1
        obtain ⟨R3, G3, m4, k3, k4⟩ := k2.split (J1 := [.row, .done b j, .row, .done c j, .iff]) (J2 := [.close]) rfl
        obtain ⟨lb, qb, m5, lc, qc, rfl, rfl, d1, d2, d3, d4⟩ := comI (kd b (by rw [e]; simp)).2.2 (kd c (by rw [e]; simp)).2.2 k3
        obtain ⟨f2, rfl⟩ := k4.one_fin rfl
        cases f2
        exact ⟨la, .iff s (putAh lb qb) (putAh lc qc), rfl, rfl, .iff hh e c1 d1 d2 d3⟩
      | num z => rw [hh] at h give; exact give rfl rfl h
      | nam z => rw [hh] at h give; exact give rfl rfl h
      | plus => rw [hh] at h give; exact give rfl rfl h
      | less => rw [hh] at h give; exact give rfl rfl h
      | tell => rw [hh] at h give; exact give rfl rfl h
/-- a body turned -/
theorem comB {xs : List Str} {t : Tm} {p : Pt} (ha : arA t) (h : RunB xs t p) : ∃ ls q m, p = putAh ls q ∧ CpD (wordsIn xs t) t "home" 0 ls q m := by
  obtain ⟨m', h⟩ := h
  obtain ⟨R1, G1, m1, k1, k2⟩ := h.split (J1 := [.row]) (J2 := [.done t "home"]) rfl
  obtain ⟨f2, rfl⟩ := k1.one_fin rfl
  cases f2
  obtain ⟨ls, q, _, e, c⟩ := (comp_ _ _ t (Nat.le_refl _) ha).2.2 _ _ _ _ _ _ _ _ k2
  obtain ⟨e1, _⟩ := List.cons.inj e
  exact ⟨ls, q, m', Gt.p.inj e1, c⟩
end KB

namespace KB
open PySem L2

/-! ### how many new words, how large what is made -/
def pcL : List Ld → Nat
  | [] => 0
  | .lett _ _ :: r => 1 + pcL r
  | .tell _ _ :: r => 1 + pcL r
  | .post _ _ u :: r => 1 + pcnt u + pcL r
theorem pcL_put : ∀ (ls : List Ld) (q : Pt), pcnt (putAh ls q) = pcL ls + pcnt q
  | [], q => by show pcnt q = 0 + pcnt q; omega
  | .lett _ _ :: r, q => by show 1 + pcnt (putAh r q) = 1 + pcL r + pcnt q; rw [pcL_put r q]; omega
  | .tell _ _ :: r, q => by show 1 + pcnt (putAh r q) = 1 + pcL r + pcnt q; rw [pcL_put r q]; omega
  | .post _ _ u :: r, q => by show 1 + pcnt (putAh r q) + pcnt u = 1 + pcnt u + pcL r + pcnt q; rw [pcL_put r q]; omega
theorem pcL_app : ∀ (a b : List Ld), pcL (a ++ b) = pcL a + pcL b
  | [], b => by show pcL b = 0 + pcL b; omega
  | .lett _ _ :: r, b => by show 1 + pcL (r ++ b) = 1 + pcL r + pcL b; rw [pcL_app r b]; omega
  | .tell _ _ :: r, b => by show 1 + pcL (r ++ b) = 1 + pcL r + pcL b; rw [pcL_app r b]; omega
  | .post _ _ u :: r, b => by show 1 + pcnt u + pcL (r ++ b) = 1 + pcnt u + pcL r + pcL b; rw [pcL_app r b]; omega
structure Bd (U m m' n : Nat) : Prop where
  up : m ≤ m'
  le : m' ≤ m + n * U
theorem Bd.refl (U m n : Nat) : Bd U m m n := ⟨Nat.le_refl _, Nat.le_add_right _ _⟩
theorem Bd.trans {U m m1 m2 a b n : Nat} (h1 : Bd U m m1 a) (h2 : Bd U m1 m2 b) (e : a + b ≤ n) : Bd U m m2 n := by
  refine ⟨Nat.le_trans h1.up h2.up, ?_⟩
  have h3 := h1.le
  have h4 := h2.le
  have h5 := Nat.mul_le_mul_right U e
  rw [Nat.add_mul] at h5
  omega
theorem Bd.mono {U m m1 a n : Nat} (h1 : Bd U m m1 a) (e : a ≤ n) : Bd U m m1 n := h1.trans (Bd.refl U m1 0) (by omega)
section
variable {tk : List Str}
theorem NwR.bd {m m1 : Nat} {w : Str} (h : NwR tk m w m1) : Bd (tk.length + 1) m m1 1 := by
  obtain ⟨k, h1, h2, _, _, rfl, _⟩ := h
  exact ⟨by omega, by omega⟩
def BS (tk : List Str) (t : Tm) : Prop := ∀ {m ls s m'}, CpS tk t m ls s m' → Bd (tk.length + 1) m m' (4 * cnt t) ∧ pcL ls ≤ 4 * cnt t ∧ (plainH (hdT t) = true → Bd (tk.length + 1) m m' (4 * cnt t - 4) ∧ pcL ls ≤ 4 * cnt t - 4)
def BP (tk : List Str) (t : Tm) : Prop := ∀ {x m ls m'}, CpP tk t x m ls m' → Bd (tk.length + 1) m m' (4 * cnt t - 1) ∧ pcL ls ≤ 4 * cnt t
def BD (tk : List Str) (t : Tm) : Prop := ∀ {j m ls q m'}, CpD tk t j m ls q m' → Bd (tk.length + 1) m m' (4 * cnt t) ∧ pcL ls + pcnt q ≤ 4 * cnt t + 1
theorem bL : ∀ {ts : List Tm}, (∀ u ∈ ts, BS tk u) → ∀ {m ls ss m'}, CpL tk ts m ls ss m' → Bd (tk.length + 1) m m' (4 * cnts ts) ∧ pcL ls ≤ 4 * cnts ts
  | [], _, m, ls, ss, m', h => by
    cases h
    exact ⟨Bd.refl _ _ _, Nat.zero_le _⟩
  | t :: ts, ih, m, ls, ss, m', h => by
    cases h with
    | cons h1 _ h2 =>
      obtain ⟨a1, a2, _⟩ := ih t List.mem_cons_self h1
      obtain ⟨b1, b2⟩ := bL (fun u hu => ih u (List.mem_cons_of_mem _ hu)) h2
      rw [cnts_cons, pcL_app]
      exact ⟨a1.trans b1 (by omega), by omega⟩
theorem cnts_one (a : Tm) : cnts [a] = cnt a := by rw [cnts_cons]; rfl
theorem cnts_two (a b : Tm) : cnts [a, b] = cnt a + cnt b := by rw [cnts_cons, cnts_one]
theorem cnts_three (a b c : Tm) : cnts [a, b, c] = cnt a + (cnt b + cnt c) := by rw [cnts_cons, cnts_two]
theorem bnd_ (tk : List Str) (n : Nat) : ∀ t, cnt t ≤ n → BS tk t ∧ BP tk t ∧ BD tk t := by
  induction n with
  | zero =>
    intro t h
    have := cnt_pos t
    omega
  | succ n ih =>
    intro t hn
    have kd : ∀ u ∈ kidsT t, BS tk u ∧ BP tk u ∧ BD tk u := fun u hu => ih u (by have := cnt_kid hu; omega)
    have hk := cnt_kids t
    have hP1 : plainH (hdT t) = false → BP tk t := by
      intro hp x m ls m' h
      cases h with
      | @lett _ _ y a b _ la m1 lb _ hh he h1 _ h2 =>
        obtain ⟨a1, a2⟩ := (kd a (by rw [he]; simp)).2.1 h1
        obtain ⟨b1, b2⟩ := (kd b (by rw [he]; simp)).2.1 h2
        rw [he, cnts_two] at hk
        have := cnt_pos a
        have := cnt_pos b
        rw [pcL_app]
        exact ⟨a1.trans b1 (by omega), by omega⟩
      | @ask _ f _ w _ m1 la ss _ hh hn hL =>
        obtain ⟨a1, a2⟩ := bL (fun u hu => (kd u hu).1) hL
        rw [pcL_app]
        refine ⟨hn.bd.trans a1 (by omega), ?_⟩
        show pcL la + (1 + 1 + 0) ≤ _
        omega
      | @iff _ _ w a b c _ m1 la s m2 lb qb m3 lc qc _ hh he hn h1 h2 _ h3 _ =>
        obtain ⟨a1, a2, _⟩ := (kd a (by rw [he]; simp)).1 h1
        obtain ⟨b1, b2⟩ := (kd b (by rw [he]; simp)).2.2 h2
        obtain ⟨c1, c2⟩ := (kd c (by rw [he]; simp)).2.2 h3
        rw [he, cnts_three] at hk
        rw [pcL_app]
        refine ⟨hn.bd.trans (a1.trans (b1.trans c1 (Nat.le_refl _)) (Nat.le_refl _)) (by omega), ?_⟩
        show pcL la + (1 + (1 + pcnt (putAh lb qb) + pcnt (putAh lc qc)) + 0) ≤ _
        rw [pcL_put, pcL_put]
        omega
      | @tell _ _ a _ la s _ hh he h1 =>
        obtain ⟨a1, a2, _⟩ := (kd a (by rw [he]; simp)).1 h1
        rw [he, cnts_one] at hk
        rw [pcL_app]
        refine ⟨a1.mono (by omega), ?_⟩
        show pcL la + (1 + 0) ≤ _
        omega
      | plain hp2 => rw [hp] at hp2; cases hp2
    have hS : BS tk t := by
      intro m ls s m' h
      have hpos := cnt_pos t
      cases h with
      | leaf hl => exact ⟨Bd.refl _ _ _, Nat.zero_le _, fun _ => ⟨Bd.refl _ _ _, Nat.zero_le _⟩⟩
      | @op _ _ _ sa sb _ lo hh hL =>
        obtain ⟨a1, a2⟩ := bL (fun u hu => (kd u hu).1) hL
        exact ⟨a1.mono (by omega), by omega, fun _ => ⟨a1.mono (by omega), by omega⟩⟩
      | @lett _ y a b _ la m1 lb _ _ hh he h1 _ h2 =>
        obtain ⟨a1, a2⟩ := (kd a (by rw [he]; simp)).2.1 h1
        obtain ⟨b1, b2, _⟩ := (kd b (by rw [he]; simp)).1 h2
        rw [he, cnts_two] at hk
        rw [pcL_app]
        exact ⟨a1.trans b1 (by omega), by omega, fun z => by rw [hh] at z; cases z⟩
      | @word _ _ w m1 _ _ hw hn h1 =>
        have hpl : plainH (hdT t) = false := by
          cases hh : hdT t <;> rw [hh] at hw <;> first | rfl | cases hw
        obtain ⟨a1, a2⟩ := hP1 hpl h1
        exact ⟨hn.bd.trans a1 (by omega), a2, fun z => by rw [hpl] at z; cases z⟩
    have hP : BP tk t := by
      cases hp : plainH (hdT t) with
      | false => exact hP1 hp
      | true =>
        intro x m ls m' h
        have hpos := cnt_pos t
        cases h with
        | plain _ h1 =>
          obtain ⟨_, _, h⟩ := hS h1
          obtain ⟨a1, a2⟩ := h hp
          rw [pcL_app]
          refine ⟨a1.mono (by omega), ?_⟩
          show _ + (1 + 0) ≤ _
          omega
        | lett hh _ _ _ _ => rw [hh] at hp; cases hp
        | ask hh _ _ => rw [hh] at hp; cases hp
        | iff hh _ _ _ _ _ _ _ => rw [hh] at hp; cases hp
        | tell hh _ _ => rw [hh] at hp; cases hp
    refine ⟨hS, hP, ?_⟩
    intro j m ls q m' h
    cases h with
    | @lett _ _ y a b _ la m1 lb _ _ hh he h1 _ h2 =>
      obtain ⟨a1, a2⟩ := (kd a (by rw [he]; simp)).2.1 h1
      obtain ⟨b1, b2⟩ := (kd b (by rw [he]; simp)).2.2 h2
      rw [he, cnts_two] at hk
      rw [pcL_app]
      exact ⟨a1.trans b1 (by omega), by omega⟩
    | @ask _ f _ _ la ss _ hh hL =>
      obtain ⟨a1, a2⟩ := bL (fun u hu => (kd u hu).1) hL
      refine ⟨a1.mono (by omega), ?_⟩
      show pcL _ + 1 ≤ _
      omega
    | @iff _ _ a b c _ la s m2 lb qb m3 lc qc _ hh he h1 h2 _ h3 =>
      obtain ⟨a1, a2, _⟩ := (kd a (by rw [he]; simp)).1 h1
      obtain ⟨b1, b2⟩ := (kd b (by rw [he]; simp)).2.2 h2
      obtain ⟨c1, c2⟩ := (kd c (by rw [he]; simp)).2.2 h3
      rw [he, cnts_three] at hk
      refine ⟨a1.trans (b1.trans c1 (Nat.le_refl _)) (by omega), ?_⟩
      show pcL ls + (1 + pcnt (putAh lb qb) + pcnt (putAh lc qc)) ≤ _
      rw [pcL_put, pcL_put]
      omega
    | give _ _ h1 =>
      obtain ⟨a1, a2, _⟩ := hS h1
      refine ⟨a1, ?_⟩
      show pcL ls + 1 ≤ _
      omega
theorem CpS.up {t : Tm} {m ls s m'} (h : CpS tk t m ls s m') : m ≤ m' := ((bnd_ tk _ t (Nat.le_refl _)).1 h).1.up
theorem CpP.up {t : Tm} {x m ls m'} (h : CpP tk t x m ls m') : m ≤ m' := ((bnd_ tk _ t (Nat.le_refl _)).2.1 h).1.up
theorem CpD.up {t : Tm} {j m ls q m'} (h : CpD tk t j m ls q m') : m ≤ m' := ((bnd_ tk _ t (Nat.le_refl _)).2.2 h).1.up
theorem CpL.up {ts : List Tm} {m ls ss m'} (h : CpL tk ts m ls ss m') : m ≤ m' := (bL (fun u _ => (bnd_ tk _ u (Nat.le_refl _)).1) h).1.up
end
end KB

namespace KB
open PySem L2

/-! ### words as the program has them -/
/-- the words that idle posts get -/
def idleW : List Str := ["xja", "xjb", "xjc", "xjd", "xje", "xjf", "xva", "xvb", "xvc", "xvd", "xve", "xvf"]
def isV (z : Str) : Bool := isW z || idleW.contains z
theorem isV_of {z : Str} (h : isW z = true) : isV z = true := by
  unfold isV
  rw [h]
  rfl
theorem idle_ok : ∀ z ∈ idleW, PySem.PyData.strOk z = true := by decide +kernel
theorem isV_ok {z : Str} (h : isV z = true) : PySem.PyData.strOk z = true := by
  unfold isV at h
  rcases Bool.or_eq_true_iff.mp h with h | h
  · exact isW_ok h
  · exact idle_ok z (by simpa using h)
/-! ### the tape and lists of words -/
section
variable {P : Program} {w : World} {K : PySem.W.Frag} {mg : Str → Option Value} {base : Heap}
/-! ### _law_cell_at -/
/-! ### _law_tape -/
/-! ### _law_digit -/
/-! ### _law_number -/
end
end KB

namespace KB
open PySem L2

/-! ### good terms -/
def okH_J7 : Hd → Prop
  | .nam x => isV x = true
  | .lett x | .ask x => isW x = true
  | .num z => 0 ≤ z ∧ z < 1000
  | _ => True
section
variable {P : Program} {w : World} {K : PySem.W.Frag} {mg : Str → Option Value} {base : Heap}
/-! ### _law_leaf -/
/-! ### _law_shares -/
/-! ### _law_less_one -/
end
end KB

namespace KB
open PySem L2

/-! ### parts of turned books as data -/
/-- a simple term within words -/
structure SmT (hd : Str → Option Nat) (xs : List Str) (t : Tm) : Prop where
  ok : okT t
  si : simple t = true
  sc : okS hd t xs
  cn : cnt t ≤ 3
  ht : HtLe 2 t
def okP (hd : Str → Option Nat) : Pt → List Str → List Str → Prop
  | .give j t, xs, hs => j ∈ hs ∧ SmT hd xs t
  | .ask f ts j, xs, hs => j ∈ hs ∧ isW f = true ∧ hd f = some ts.length ∧ ts.length ≤ 4 ∧ ∀ t ∈ ts, SmT hd xs t
  | .tell x t p, xs, hs => isW x = true ∧ SmT hd xs t ∧ okP hd p (xs ++ [x]) hs
  | .lett x t p, xs, hs => isW x = true ∧ SmT hd xs t ∧ okP hd p (xs ++ [x]) hs
  | .iff t p q, xs, hs => SmT hd xs t ∧ okP hd p xs hs ∧ okP hd q xs hs
  | .post j x p q, xs, hs => isW j = true ∧ isW x = true ∧ okP hd p (xs ++ [x]) hs ∧ okP hd q xs (hs ++ [j])
/-- the words and the posts' words that a part binds, as they are met -/
def wP_J7 : Pt → List Str
  | .give _ _ => []
  | .ask _ _ _ => []
  | .tell x _ p => x :: wP_J7 p
  | .lett x _ p => x :: wP_J7 p
  | .iff _ p q => wP_J7 p ++ wP_J7 q
  | .post _ x p q => x :: (wP_J7 p ++ wP_J7 q)
def jP : Pt → List Str
  | .give _ _ => []
  | .ask _ _ _ => []
  | .tell _ _ p => jP p
  | .lett _ _ p => jP p
  | .iff _ p q => jP p ++ jP q
  | .post j _ p q => j :: (jP p ++ jP q)

/-! ### what the generator of parts has at hand -/
def But3 (tp wl pl : Addr) (H H' : Hp) : Prop := ∀ b o, b ≠ tp → b ≠ wl → b ≠ pl → H b = some o → H' b = some o
theorem But3.refl (tp wl pl : Addr) (H : Hp) : But3 tp wl pl H H := fun _ _ _ _ _ h => h
theorem But3.trans {tp wl pl : Addr} {H H1 H2 : Hp} (a : But3 tp wl pl H H1) (b : But3 tp wl pl H1 H2) : But3 tp wl pl H H2 := fun x o n m l h => b x o n m l (a x o n m l h)
theorem But1.three {tp wl pl : Addr} {H H' : Hp} (a : But1 tp H H') : But3 tp wl pl H H' := fun x o n _ _ h => a x o n h
abbrev kgE : Key := Sum.inr "errands"
abbrev kgH : Key := Sum.inr "heads"
abbrev kgW : Key := Sum.inr "words"
abbrev kgR : Key := Sum.inr "room"
abbrev kgP : Key := Sum.inr "posts"
abbrev kgS : Key := Sum.inr "straight"
def knT (el hd wl pl : Addr) (room : Int) (st : Bool) : List (Key × V) := [(kgE, .ref el), (kgH, .ref hd), (kgW, .ref wl), (kgR, .int room), (kgP, .ref pl), (kgS, .bl st)]
structure GT (H : Hp) (tp kd wl pl : Addr) (hF : Str → Option Nat) (ws js : List Str) : Prop where
  t : Tp H tp
  w : Wls H wl ws
  p : Wls H pl js
  wn : ws.length ≤ 100
  pn : js.length ≤ 100
  wp : wl ≠ pl
  k : ∃ el hd fs kvs room st, H kd = some (.dK (knT el hd wl pl room st)) ∧ 1 ≤ room ∧ room ≤ 9 ∧ el ≠ wl ∧ el ≠ pl ∧ Wls H el fs ∧ 0 < fs.length ∧ fs.length ≤ 100 ∧ H hd = some (.dK kvs) ∧ ∀ f ∈ fs, ∃ n : Int, valV kvs (Sum.inr f) = some (.int n) ∧ 0 ≤ n ∧ n ≤ 4 ∧ hF f = some n.toNat
section
variable {H H' : Hp} {tp kd wl pl : Addr} {hF : Str → Option Nat} {ws js ws' js' : List Str}
theorem GT.ntk (g : GT H tp kd wl pl hF ws js) {a : Addr} {o : HO} (h : H a = some o) (hn : ∀ xs, o ≠ .lst xs) : a ≠ tp ∧ a ≠ wl ∧ a ≠ pl := by
  obtain ⟨z, hz⟩ := g.t
  exact ⟨ne_of h hz (hn _), ne_of h g.w.1 (hn _), ne_of h g.p.1 (hn _)⟩
theorem GT.tk (g : GT H tp kd wl pl hF ws js) (b : But3 tp wl pl H H') : TK H H' := fun a _ h => by
  obtain ⟨n1, n2, n3⟩ := g.ntk h (fun _ z => nomatch z)
  exact b a _ n1 n2 n3 h
theorem GT.step (g : GT H tp kd wl pl hF ws js) (b : But3 tp wl pl H H') (t : Tp H' tp) (w : Wls H' wl ws') (p : Wls H' pl js') (wn : ws'.length ≤ 100) (pn : js'.length ≤ 100) : GT H' tp kd wl pl hF ws' js' := by
  obtain ⟨el, hd, fs, kvs, room, st, k1, r1, r2, k2, k2', k3, k4, k5, k6, k7⟩ := g.k
  refine ⟨t, w, p, wn, pn, g.wp, el, hd, fs, kvs, room, st, ?_, r1, r2, k2, k2', ⟨b _ _ (wls_tp k3.1 g.t) k2 k2' k3.1, k3.2⟩, k4, k5, ?_, k7⟩
  · obtain ⟨n1, n2, n3⟩ := g.ntk k1 (fun _ z => nomatch z)
    exact b _ _ n1 n2 n3 k1
  · obtain ⟨n1, n2, n3⟩ := g.ntk k6 (fun _ z => nomatch z)
    exact b _ _ n1 n2 n3 k6
theorem GT.one (g : GT H tp kd wl pl hF ws js) (b : But1 tp H H') (t : Tp H' tp) : GT H' tp kd wl pl hF ws js := g.step b.three t (g.w.but b g.t) (g.p.but b g.t) g.wn g.pn
theorem GT.same (g : GT H tp kd wl pl hF ws js) (e : Same H H') : GT H' tp kd wl pl hF ws js := g.one (but_same e) (g.t.same e)
theorem Wls.three {a : Addr} {xs : List Str} (e : But3 tp wl pl H H') (g : GT H tp kd wl pl hF ws js) (n : a ≠ wl) (m : a ≠ pl) (h : Wls H a xs) : Wls H' a xs := ⟨e _ _ (wls_tp h.1 g.t) n m h.1, h.2⟩
theorem GT.new (g : GT H tp kd wl pl hF ws js) {p : Addr} (h : H p = none) : p ≠ tp ∧ p ≠ wl ∧ p ≠ pl := by
  obtain ⟨z, hz⟩ := g.t
  exact ⟨(ne_of_none hz h).symm, (ne_of_none g.w.1 h).symm, (ne_of_none g.p.1 h).symm⟩
variable {el hd : Addr} {room : Int} {st : Bool}
end
/-- the hand-ons around -/
def Hls (H : Hp) (a : Addr) (hs : List Str) : Prop := H a = some (.lst (hs.map V.str))
end KB

namespace KB
open PySem L2

section
variable {P : Program} {w : World} {K : PySem.W.Frag} {mg : Str → Option Value} {base : Heap}
/-! ### _law_simple -/
/-- a simple term at a, of at most n terms, within d -/
structure GdS (H : Hp) (a : Addr) (n d : Nat) (hd : Str → Option Nat) (xs : List Str) (t : Tm) : Prop where
  g : Gd H a n d hd xs [] t
  s : simple t = true
theorem GdS.tk {H H' : Hp} {a : Addr} {n d : Nat} {hd : Str → Option Nat} {xs : List Str} {t : Tm} (k : TK H H') (g : GdS H a n d hd xs t) : GdS H' a n d hd xs t := ⟨g.g.tk k, g.s⟩
theorem tp_tk {tp : Addr} {H H' : Hp} (t : Tp H tp) (b : But1 tp H H') : TK H H' := b.tk t
theorem no_sp {k : Nat} {f : Addr} {fd : FuncData} {ps : List Str} : FnOk P w K mg base CX0 k f fd ps (fun _ _ _ _ => False) := ⟨fun _ _ _ _ z => z.elim, fun _ _ _ _ _ _ _ _ _ _ _ _ _ z => z.elim⟩
end
end KB

namespace KB
open PySem L2

section
variable {P : Program} {w : World} {K : PySem.W.Frag} {mg : Str → Option Value} {base : Heap}
/-! ### _law_part -/
/-- what stands around a part that is to be drawn -/
structure PtIn (H : Hp) (tp kd wl pl ar hl : Addr) (hF : Str → Option Nat) (ws js xs hs : List Str) : Prop where
  g : GT H tp kd wl pl hF ws js
  w : Wls H ar xs
  a1 : ar ≠ wl
  a2 : ar ≠ pl
  h : Hls H hl hs
  h0 : hl ≠ tp
  h1 : hl ≠ wl
  h2 : hl ≠ pl
  ne : hs ≠ []
  wj : ws.length ≤ js.length
  l1 : xs.length + ws.length ≤ 200
  l2 : hs.length + js.length ≤ 200
/-- what is told of a part that was drawn -/
structure PtOut (H H' : Hp) (tp kd wl pl : Addr) (hF : Str → Option Nat) (ws js xs hs : List Str) (n : Nat) (a : Addr) (p : Pt) (ws' js' ls ms : List Str) : Prop where
  b : But3 tp wl pl H H'
  g : GT H' tp kd wl pl hF ws' js'
  wj : ws'.length ≤ js'.length
  e1 : ws = ws' ++ ls.reverse
  e2 : js = js' ++ ms.reverse
  at_ : PAt H' p a
  ok : okP hF p xs hs
  cn : pcnt p ≤ n
  s1 : (wP_J7 p).Sublist ls
  s2 : (jP p).Sublist ms
theorem PtIn.step {H H' : Hp} {tp kd wl pl ar hl : Addr} {hF : Str → Option Nat} {ws js ws' js' xs hs : List Str} (I : PtIn H tp kd wl pl ar hl hF ws js xs hs) (b : But3 tp wl pl H H') (g : GT H' tp kd wl pl hF ws' js') (wj : ws'.length ≤ js'.length) (l1 : ws'.length ≤ ws.length) (l2 : js'.length ≤ js.length) : PtIn H' tp kd wl pl ar hl hF ws' js' xs hs := by
  have h1 := I.l1
  have h2 := I.l2
  exact ⟨g, I.w.three b I.g I.a1 I.a2, I.a1, I.a2, b _ _ I.h0 I.h1 I.h2 I.h, I.h0, I.h1, I.h2, I.ne, wj, by omega, by omega⟩
theorem PtIn.one {H H' : Hp} {tp kd wl pl ar hl : Addr} {hF : Str → Option Nat} {ws js xs hs : List Str} (I : PtIn H tp kd wl pl ar hl hF ws js xs hs) (b : But1 tp H H') (t : Tp H' tp) : PtIn H' tp kd wl pl ar hl hF ws js xs hs := I.step b.three (I.g.one b t) I.wj (Nat.le_refl _) (Nat.le_refl _)
theorem PtIn.same {H H' : Hp} {tp kd wl pl ar hl : Addr} {hF : Str → Option Nat} {ws js xs hs : List Str} (I : PtIn H tp kd wl pl ar hl hF ws js xs hs) (s : Same H H') : PtIn H' tp kd wl pl ar hl hF ws js xs hs := I.one (but_same s) (I.g.t.same s)
end
end KB

namespace KB
open PySem L2

section
variable {P : Program} {w : World} {K : PySem.W.Frag} {mg : Str → Option Value} {base : Heap}
/-! ### _law_turned_body -/
theorem PtOut.le {H H' : Hp} {tp kd wl pl : Addr} {hF : Str → Option Nat} {ws js xs hs : List Str} {n m : Nat} {a : Addr} {p : Pt} {ws' js' ls ms : List Str} (h : n ≤ m) (O : PtOut H H' tp kd wl pl hF ws js xs hs n a p ws' js' ls ms) : PtOut H H' tp kd wl pl hF ws js xs hs m a p ws' js' ls ms :=
  ⟨O.b, O.g, O.wj, O.e1, O.e2, O.at_, O.ok, Nat.le_trans O.cn h, O.s1, O.s2⟩
theorem PtOut.pre {H0 H H' : Hp} {tp kd wl pl : Addr} {hF : Str → Option Nat} {ws js xs hs : List Str} {n : Nat} {a : Addr} {p : Pt} {ws' js' ls ms : List Str} (b : But3 tp wl pl H0 H) (O : PtOut H H' tp kd wl pl hF ws js xs hs n a p ws' js' ls ms) : PtOut H0 H' tp kd wl pl hF ws js xs hs n a p ws' js' ls ms :=
  ⟨b.trans O.b, O.g, O.wj, O.e1, O.e2, O.at_, O.ok, O.cn, O.s1, O.s2⟩
end
end KB

namespace KB
open PySem L2

/-! ### turned books -/
abbrev TEr := Str × List Str × Pt
def TErV (H : Hp) (e : TEr) (v : V) : Prop := ∃ q r b, v = .ref q ∧ H q = some (.tup [.str e.1, .ref r, .ref b]) ∧ H r = some (.tup (e.2.1.map V.str)) ∧ PAt H e.2.2 b
theorem TErV.tk {H H' : Hp} (t : TK H H') {e : TEr} {v : V} (h : TErV H e v) : TErV H' e v :=
  let ⟨q, r, b, e1, h1, h2, h3⟩ := h; ⟨q, r, b, e1, t _ _ h1, t _ _ h2, h3.tk t⟩
def TBkAt (H : Hp) (es : List TEr) (vs : List V) (p : Addr) : Prop := H p = some (.tup vs) ∧ All2 (TErV H) es vs
structure GdTE (hF : Str → Option Nat) (e : TEr) : Prop where
  w : isW e.1 = true
  ws : ∀ x ∈ e.2.1, isW x = true
  n4 : e.2.1.length ≤ 4
  ok : okP hF e.2.2 e.2.1 ["home"]
  cn : pcnt e.2.2 ≤ 13
  hf : hF e.1 = some e.2.1.length
  un : (e.2.1 ++ wP_J7 e.2.2).Nodup
  uj : (jP e.2.2).Nodup
structure GdTB (es : List TEr) : Prop where
  len : 1 ≤ es.length ∧ es.length ≤ 6
  nd : (es.map (·.1)).Nodup
  er : ∃ hF : Str → Option Nat, (∀ e ∈ es, GdTE hF e) ∧ ∀ f n, hF f = some n → f ∈ es.map (·.1)
section
variable {P : Program} {w : World} {K : PySem.W.Frag} {mg : Str → Option Value} {base : Heap}
/-! ### _law_turned_book -/
end
end KB

namespace KB
open PySem L2 HT
theorem layAll : ∀ {ds : List PyData}, (∀ d ∈ ds, d.canLay0 = true) → PySem.PyData.canLayAll0 ds = true
  | [], _ => rfl
  | d :: r, h => by
    show (d.canLay0 && PySem.PyData.canLayAll0 r) = true
    rw [h d List.mem_cons_self, layAll fun x hx => h x (List.mem_cons_of_mem _ hx)]
    rfl
theorem depthAll_le {m : Nat} : ∀ {ds : List PyData}, (∀ d ∈ ds, d.depth ≤ m) → PySem.PyData.depthAll ds ≤ m
  | [], _ => Nat.zero_le _
  | d :: r, h => by
    show max d.depth (PySem.PyData.depthAll r) ≤ m
    have h1 := h d List.mem_cons_self
    have h2 := depthAll_le fun x hx => h x (List.mem_cons_of_mem _ hx)
    omega
theorem depth_tup {m : Nat} {ds : List PyData} (h : ∀ d ∈ ds, d.depth ≤ m) : (PyData.tuple ds).depth ≤ m + 1 := by
  show PySem.PyData.depthAll ds + 1 ≤ m + 1
  have := depthAll_le h
  omega
theorem lay_lit {x : Str} (h : PySem.PyData.strOk x = true) : (PyData.str x).canLay0 = true := h
theorem lay_str {x : Str} (h : isW x = true) : (PyData.str x).canLay0 = true := isW_ok h
/-! ### terms as data -/
def pdH : Hd → List PyData → PyData
  | .num z, _ => .tuple [.str "number", .int z]
  | .nam x, _ => .tuple [.str "name", .str x]
  | .plus, ds => .tuple (.str "plus" :: ds)
  | .less, ds => .tuple (.str "less" :: ds)
  | .tell, ds => .tuple (.str "tell" :: ds)
  | .lett x, ds => .tuple (.str "let" :: .str x :: ds)
  | .iff, ds => .tuple (.str "if" :: ds)
  | .ask f, ds => .tuple [.str "ask", .str f, .tuple ds]
def pd : Tm → PyData
  | .mk h _ k => pdH h (List.ofFn fun i => pd (k i))
theorem lay_pdH {h : Hd} {ds : List PyData} (o : okH h) (l : ∀ d ∈ ds, d.canLay0 = true) : (pdH h ds).canLay0 = true := by
  have la := layAll l
  cases h with
  | num z =>
    refine layAll fun d hd => ?_
    rcases List.mem_cons.mp hd with y | y
    · rw [y]
      exact lay_lit (by decide +kernel)
    · rw [List.mem_singleton.mp y]
      rfl
  | nam x =>
    refine layAll fun d hd => ?_
    rcases List.mem_cons.mp hd with z | z
    · rw [z]
      exact lay_lit (by decide +kernel)
    · rw [List.mem_singleton.mp z]
      exact lay_str o
  | lett x =>
    refine layAll fun d hd => ?_
    rcases List.mem_cons.mp hd with z | z
    · rw [z]
      exact lay_lit (by decide +kernel)
    · rcases List.mem_cons.mp z with z | z
      · rw [z]
        exact lay_str o
      · exact l d z
  | ask f =>
    refine layAll fun d hd => ?_
    rcases List.mem_cons.mp hd with z | z
    · rw [z]
      exact lay_lit (by decide +kernel)
    · rcases List.mem_cons.mp z with z | z
      · rw [z]
        exact lay_str o
      · rw [List.mem_singleton.mp z]
        exact la
  | _ =>
    refine layAll fun d hd => ?_
    rcases List.mem_cons.mp hd with z | z
    · rw [z]
      exact lay_lit (by decide +kernel)
    · exact l d z
theorem lay_pd : ∀ {t : Tm}, okT t → (pd t).canLay0 = true := by
  intro t
  induction t with
  | mk h n k ih =>
    rintro ⟨o, r⟩
    refine lay_pdH o fun d hd => ?_
    obtain ⟨i, rfl⟩ := List.mem_ofFn.mp hd
    exact ih i (r i)
theorem depth_pdH {h : Hd} {m : Nat} {ds : List PyData} (l : ∀ d ∈ ds, d.depth ≤ m) : (pdH h ds).depth ≤ m + 2 := by
  cases h with
  | num z => exact Nat.le_trans (depth_tup (m := 0) fun d hd => by
      rcases List.mem_cons.mp hd with y | y
      · rw [y]
        exact Nat.le_refl 0
      · rw [List.mem_singleton.mp y]
        exact Nat.le_refl 0) (by omega)
  | nam x => exact Nat.le_trans (depth_tup (m := 0) fun d hd => by
      rcases List.mem_cons.mp hd with z | z
      · rw [z]
        exact Nat.le_refl 0
      · rw [List.mem_singleton.mp z]
        exact Nat.le_refl 0) (by omega)
  | lett x =>
    refine Nat.le_trans (depth_tup (m := m) fun d hd => ?_) (by omega)
    rcases List.mem_cons.mp hd with z | z
    · rw [z]
      exact Nat.zero_le _
    · rcases List.mem_cons.mp z with z | z
      · rw [z]
        exact Nat.zero_le _
      · exact l d z
  | ask f =>
    refine depth_tup (m := m + 1) fun d hd => ?_
    rcases List.mem_cons.mp hd with z | z
    · rw [z]
      exact Nat.zero_le _
    · rcases List.mem_cons.mp z with z | z
      · rw [z]
        exact Nat.zero_le _
      · rw [List.mem_singleton.mp z]
        exact depth_tup l
  | _ =>
    refine Nat.le_trans (depth_tup (m := m) fun d hd => ?_) (by omega)
    rcases List.mem_cons.mp hd with z | z
    · rw [z]
      exact Nat.zero_le _
    · exact l d z
theorem depth_pd : ∀ {n : Nat} {t : Tm}, HtLe n t → (pd t).depth ≤ 2 * n
  | 0, _, h => h.elim
  | n + 1, .mk h m k, r => by
    refine Nat.le_trans (depth_pdH (h := h) (m := 2 * n) fun d hd => ?_) (by omega)
    obtain ⟨i, rfl⟩ := List.mem_ofFn.mp hd
    exact depth_pd (r i)
theorem dp_ints {K : PySem.W.Frag} {H : Hp} : ∀ ks : List Int, DpAll K H (ks.map V.int) (ks.map PyData.int)
  | [] => .nil
  | k :: r => .cons (.int k) (dp_ints r)
/-! ### parts of turned books as data -/
/-- a simple term, good -/
structure STm (t : Tm) : Prop where
  ok : okT t
  si : simple t = true
  cn : cnt t ≤ 200
  ht : HtLe 30 t
theorem SmT.st {hd : Str → Option Nat} {xs : List Str} {t : Tm} (h : SmT hd xs t) : STm t := ⟨h.ok, h.si, Nat.le_trans h.cn (by decide), h.ht.le (by decide)⟩
/-- a part whose words are words -/
def kP : Pt → Prop
  | .give j t => PySem.PyData.strOk j = true ∧ STm t
  | .ask f ts j => PySem.PyData.strOk j = true ∧ isW f = true ∧ ts.length ≤ 4 ∧ ∀ t ∈ ts, STm t
  | .tell x t p => isW x = true ∧ STm t ∧ kP p
  | .lett x t p => isW x = true ∧ STm t ∧ kP p
  | .iff t p q => STm t ∧ kP p ∧ kP q
  | .post j x p q => isV j = true ∧ isV x = true ∧ kP p ∧ kP q
theorem okP_kP {hd : Str → Option Nat} : ∀ {p : Pt} {xs hs : List Str}, (∀ j ∈ hs, PySem.PyData.strOk j = true) → okP hd p xs hs → kP p
  | .give j t, _, _, hh, h => ⟨hh _ h.1, h.2.st⟩
  | .ask f ts j, _, _, hh, h => ⟨hh _ h.1, h.2.1, h.2.2.2.1, fun t ht => (h.2.2.2.2 t ht).st⟩
  | .tell x t p, _, _, hh, h => ⟨h.1, h.2.1.st, okP_kP hh h.2.2⟩
  | .lett x t p, _, _, hh, h => ⟨h.1, h.2.1.st, okP_kP hh h.2.2⟩
  | .iff t p q, _, _, hh, h => ⟨h.1.st, okP_kP hh h.2.1, okP_kP hh h.2.2⟩
  | .post j x p q, _, _, hh, h => ⟨isV_of h.1, isV_of h.2.1, okP_kP hh h.2.2.1, okP_kP (fun k hk => by
      rcases List.mem_append.mp hk with z | z
      · exact hh k z
      · rw [List.mem_singleton.mp z]
        exact isW_ok h.1) h.2.2.2⟩
theorem STm.lay {t : Tm} (h : STm t) : (pd t).canLay0 = true := lay_pd h.ok
theorem STm.dep {t : Tm} (h : STm t) : (pd t).depth ≤ 60 := depth_pd h.ht
/-! ### all parts and terms of a part, counted -/
def ncnt : Pt → Nat
  | .give _ t => 1 + cnt t
  | .ask _ ts _ => 1 + cnts ts
  | .tell _ t p => 1 + cnt t + ncnt p
  | .lett _ t p => 1 + cnt t + ncnt p
  | .iff t p q => 1 + cnt t + ncnt p + ncnt q
  | .post _ _ p q => 1 + ncnt p + ncnt q
end KB

namespace KB
open PySem L2

/-! ### trees, whatever they are made of -/
namespace Tre
variable {N : Type} (R : Tre N)
theorem pl_short (m : Nat) : ∀ n, R.sz n ≤ m → ∀ e ∈ R.pl n, e.1.length < R.sz n := by
  induction m with
  | zero => intro n h; have := R.pos n; omega
  | succ m ih =>
    intro n h
    have e := R.szk n
    have go : ∀ (ns : List N) (j : Nat), R.szs ns ≤ m → ∀ e ∈ plL R.pl j ns, e.1.length ≤ R.szs ns := by
      intro ns
      induction ns with
      | nil => intro j _ e he; cases he
      | cons a r ihr =>
        intro j hj e he
        rw [R.szs_cons] at hj ⊢
        have he' : e ∈ (R.pl a).map (fun e => ((j : Int) :: e.1, e.2)) ++ plL R.pl (j + 1) r := he
        rcases List.mem_append.mp he' with z | z
        · obtain ⟨e', h1, rfl⟩ := List.mem_map.mp z
          have := ih a (by omega) e' h1
          show e'.1.length + 1 ≤ _
          omega
        · have := ihr (j + 1) (by omega) e z
          omega
    intro x hx
    rw [R.plk] at hx
    have e2 : R.sz n = 1 + R.szs (R.kids n) := e
    rcases List.mem_cons.mp hx with z | z
    · subst z
      show 0 < R.sz n
      omega
    · have := go (R.kids n) 0 (by omega) x z
      omega
end Tre
section
variable {P : Program} {w : World} {K : PySem.W.Frag} {mg : Str → Option Value} {base : Heap}
/-! ### met -/
/-! ### placed -/
/-- a tuple that begins with pre -/
def PlV (H : Hp) (pre : List V) (ks : List Int) (v : V) : Prop := ∃ r, v = .ref r ∧ H r = some (.tup (pre ++ ks.map V.int))
theorem PlV.tk {H H' : Hp} (e : TK H H') {pre : List V} {ks : List Int} {v : V} (h : PlV H pre ks v) : PlV H' pre ks v :=
  let ⟨r, e1, h1⟩ := h; ⟨r, e1, e _ _ h1⟩
/-- a place and its part -/
def EntV {N : Type} (A : Hp → N → Addr → Prop) (H : Hp) (pre : List V) (kt : List Int × N) (v : V) : Prop := ∃ q r b, v = .ref q ∧ H q = some (.tup [.ref r, .ref b]) ∧ H r = some (.tup (pre ++ kt.1.map V.int)) ∧ A H kt.2 b
theorem EntV.tk {N : Type} {A : Hp → N → Addr → Prop} {H H' : Hp} (ta : ∀ {n : N} {a : Addr}, TK H H' → A H n a → A H' n a) (e : TK H H') {pre : List V} {kt : List Int × N} {v : V} (h : EntV A H pre kt v) : EntV A H' pre kt v :=
  let ⟨q, r, b, e1, h1, h2, h3⟩ := h; ⟨q, r, b, e1, e _ _ h1, e _ _ h2, ta e h3⟩
def entsN {N : Type} (ks : List Int) : Nat → List N → List (List Int × N)
  | _, [] => []
  | j, t :: ts => (ks ++ [(j : Int)], t) :: entsN ks (j + 1) ts
theorem entsN_snd {N : Type} {ks : List Int} : ∀ {ts : List N} {j : Nat}, (entsN ks j ts).map (·.2) = ts
  | [], _ => rfl
  | t :: ts, j => by
    show t :: (entsN ks (j + 1) ts).map (·.2) = t :: ts
    rw [entsN_snd]
theorem entsN_drop {N : Type} {ks : List Int} {kl : List N} {i : Nat} (h : i < kl.length) : entsN ks i (kl.drop i) = (ks ++ [(i : Int)], kl[i]) :: entsN ks (i + 1) (kl.drop (i + 1)) := by
  rw [List.drop_eq_getElem_cons h]
  rfl
namespace Tre
variable {N : Type} (R : Tre N)
def at_ (ks : List Int) (l : List (List Int × N)) : List (List Int × N) := l.map fun e => (ks ++ e.1, e.2)
def spread (es : List (List Int × N)) : List (List Int × N) := (es.map fun kt => at_ kt.1 (R.pl kt.2)).flatten
def ecnt (es : List (List Int × N)) : Nat := R.szs (es.map (·.2))
theorem spread_cons {e : List Int × N} {r : List (List Int × N)} : R.spread (e :: r) = at_ e.1 (R.pl e.2) ++ R.spread r := rfl
theorem spread_app {a b : List (List Int × N)} : R.spread (a ++ b) = R.spread a ++ R.spread b := by
  unfold spread
  rw [List.map_append, List.flatten_append]
theorem spread_ents {ks : List Int} : ∀ {ts : List N} {j : Nat}, R.spread (entsN ks j ts) = at_ ks (plL R.pl j ts)
  | [], _ => rfl
  | t :: ts, j => by
    show R.spread ((ks ++ [(j : Int)], t) :: entsN ks (j + 1) ts) = at_ ks ((R.pl t).map (fun e => ((j : Int) :: e.1, e.2)) ++ plL R.pl (j + 1) ts)
    rw [R.spread_cons, spread_ents]
    unfold at_
    rw [List.map_append, List.map_map]
    congr 1
    refine List.map_congr_left fun p _ => ?_
    show ((ks ++ [(j : Int)]) ++ p.1, p.2) = (ks ++ ((j : Int) :: p.1), p.2)
    rw [List.append_assoc]
    rfl
end Tre
def spPlaced {N : Type} (R : Tre N) (gp : Addr) : Sp := fun vs H Q _ => ∃ (nm : Str) (a : Addr) (n : N), vs = [.str nm, .ref a, .ref gp] ∧ R.A H n a ∧ R.sz n ≤ 1000 ∧ ∀ p H' its, H p = none → Same H H' → H' p = some (.lst its) → All2 (EntV R.A H' [.str nm]) (R.pl n) its → Q (.ref p) H'
abbrev splaced : Stmt := top 5
theorem scplaced : FnScope ["name", "body", "parts", "found", "waiting", "place", "part", "own", "k"] ["name", "body", "parts"] (defScope splaced) := ⟨rfl, rfl, rfl, by decide +kernel, rfl, by decide +kernel, by decide +kernel⟩
def PldW {N : Type} (R : Tre N) (H : Hp) (nm : Str) (a gp fl wl : Addr) (t : N) (m : Nat) (σ : St) (H' : Hp) : Prop := ∃ o1 o2 o3 o4 fs fv rs es, σ = [some (.str nm), some (.ref a), some (.ref gp), some (.ref fl), some (.ref wl), o1, o2, o3, o4] ∧ Same H H' ∧ H fl = none ∧ H wl = none ∧ fl ≠ wl ∧
  H' fl = some (.lst fv) ∧ All2 (EntV R.A H' [.str nm]) fs fv ∧ H' wl = some (.lst (List.reverse rs)) ∧ All2 (EntV R.A H' [.str nm]) es rs ∧ m = R.ecnt es ∧ fs.length + R.ecnt es ≤ 1000 ∧ fs ++ R.spread es = R.pl t
/-- within the loop over the parts, i of them put there -/
def PldI {N : Type} (R : Tre N) (H : Hp) (nm : Str) (a gp fl wl b ra pp : Addr) (fs : List (List Int × N)) (ks : List Int) (kl : List N) (es : List (List Int × N)) (ys : List V) (i : Nat) (σ : St) (H' : Hp) : Prop :=
  ∃ o4, σ = [some (.str nm), some (.ref a), some (.ref gp), some (.ref fl), some (.ref wl), some (.ref ra), some (.ref b), some (.ref pp), o4] ∧ Same H H' ∧ (∃ fv, H' fl = some (.lst fv) ∧ All2 (EntV R.A H' [.str nm]) fs fv) ∧
  (∃ rs, H' wl = some (.lst (List.reverse rs)) ∧ All2 (EntV R.A H' [.str nm]) (entsN ks (kl.length - i) (kl.drop (kl.length - i)) ++ es) rs) ∧ H' ra = some (.tup (.str nm :: ks.map V.int)) ∧ H' pp = some (.tup ys) ∧ All2 (R.V H') kl ys
theorem ok_placed {N : Type} (R : Tre N) (T : Txt K mg) {k : Nat} {f g : Addr} {fd gd : FuncData} {x : Str} (F : Fun K "placed" "placed" splaced f fd) (Gparts : FnOk P w K mg base CX0 k g gd [x] (spKids R)) (kk : PySem.W.keepIn K (.ref g) = true) (bb : Binds K gd [x] []) : FnOk P w K mg base CX0 (k + 1) f fd ["name", "body", "parts"] (spPlaced R g) := by
  refine F.ok scplaced (fun vs H Q E h => ?_) (fun cdv A outer s H vs Q E hr h => ?_)
  · obtain ⟨nm, a, t, rfl, _⟩ := h
    rfl
  obtain ⟨nm, a, t, rfl, hA, hc, q⟩ := h
  refine ⟨_, (pss_cons (ps_set (i := 3) scplaced.nd rfl (Or.inl rfl) (pe_lst pa_nil))
    (pss_cons (ps_set (i := 4) scplaced.nd rfl (Or.inl rfl) (pe_lst (pa_cons (pe_tup (pa_cons (pe_tup (pa_cons (pv 0) pa_nil)) (pa_cons (pv 1) pa_nil))) pa_nil)))
    (pss_cons (ps_while PassesOwn.never (pt_truth (pv 4) (by intro _; rfl)) (pss_cons (ps_asg (pe_bm0 PySem.F.plainAttrs_list PySem.F.slot_list_pop PySem.F.type_list_pop mt_pop (pv 4)) (pg_tup rfl (pgs_cons (pg_name (i := 5) scplaced.nd rfl (Or.inl rfl)) (pgs_cons (pg_name (i := 6) scplaced.nd rfl (Or.inl rfl)) pgs_nil))))
    (pss_cons (ps_expr (pe_bm PySem.F.plainAttrs_list PySem.F.slot_list_append PySem.F.type_list_append mt_append (pv 3) (pa_cons (pe_tup (pa_cons (pv 5) (pa_cons (pv 6) pa_nil))) pa_nil)))
    (pss_cons (ps_set (i := 7) scplaced.nd rfl (Or.inl rfl) (pe_callL (i := 2) Gparts (hr.mono (by omega)) rfl (.inl rfl) kk bb .nil pass0 (pa_cons (pv 6) pa_nil)))
    (pss_one (ps_for PassesOwn.never rfl (pi_revR rfl T.m_reversed (prg_1 rfl T.m_range (pe_callB call_len_seq (by rfl) T.m_len PySem.boot_len (pa_cons (pv 7) pa_nil)))) (pg_name (i := 8) scplaced.nd rfl (Or.inl rfl)) (pss_one (ps_expr (pe_bm PySem.F.plainAttrs_list PySem.F.slot_list_append PySem.F.type_list_append mt_append (pv 4) (pa_cons (pe_tup (pa_cons (pe_tup (StX.pa_star (pv 5) (pa_cons (pv 8) pa_nil))) (pa_cons (pe_ix ix_tup (pv 7) (pv 8) (fun _ _ => rfl)) pa_nil))) pa_nil))))))))))
    (pss_one (ps_ret (pv 3)))))), ?_⟩
  refine ⟨sz (by show 0 ≤ 100000; decide), fun fl hfl => ?_⟩
  have s0 := same_new hfl (.lst [])
  refine ⟨_, rfl, sz (by show 1 ≤ 100000; decide), fun p0 hp0 => ?_⟩
  have s1 := same_new hp0 (.tup [.str nm])
  refine ⟨_, rfl, sz (by show 2 ≤ 100000; decide), fun p1 hp1 => ?_⟩
  have s2 := same_new hp1 (.tup [.ref p0, .ref a])
  refine ⟨sz (by show 1 ≤ 100000; decide), fun wl hwl => ?_⟩
  have s3 := same_new hwl (.lst [.ref p1])
  have hfl3 := s3 _ _ (s2 _ _ (s1 _ _ (upd_same (H := H) (a := fl) (o := .lst []))))
  have hwf : fl ≠ wl := ne_of_none (s2 _ _ (s1 _ _ upd_same)) hwl
  have sA : Same H _ := s0.trans (s1.trans (s2.trans s3))
  refine ⟨PldW R H nm a g fl wl t, ⟨_, none, none, none, none, [], [], [.ref p1], [([], t)], rfl, sA, hfl, (s0.trans (s1.trans s2)).free hwl, hwf, hfl3, trivial, upd_same, ⟨⟨p1, p0, a, rfl, s3 _ _ upd_same, s3 _ _ (s2 _ _ upd_same), R.tk (tk_same sA) hA⟩, trivial⟩, rfl, ?_, ?_⟩, ?_⟩
  · show 0 + (R.sz t + 0) ≤ 1000
    omega
  · rw [R.spread_cons]
    show [] ++ ((R.pl t).map (fun e => ([] ++ e.1, e.2)) ++ []) = R.pl t
    simp
  clear hfl3 s3 hwl s2 hp1 s1 hp0 s0 sA
  rintro m σ H1 ⟨o1, o2, o3, o4, fs, fv, rs, es, rfl, s1, hf0, hw0, _, h1, k1, h2, k2, rfl, hm, hP⟩
  refine ⟨_, rfl, _, .inl ⟨_, SqL.of h2, rfl⟩, ?_⟩
  cases rs with
  | nil =>
    cases es with
    | cons _ _ => exact k2.elim
    | nil =>
      refine itF rfl ⟨_, rfl, ?_⟩
      have e : fs = R.pl t := by
        rw [← hP]
        exact (List.append_nil fs).symm
      subst e
      exact q _ _ _ hfl s1 h1 k1
  | cons r rs =>
    cases es with
    | nil => exact k2.elim
    | cons e1 es =>
      obtain ⟨ks, t1⟩ := e1
      obtain ⟨⟨qa, ra, b, rfl, g1, g2, g3⟩, k3⟩ := k2
      refine itT (by simp) ⟨fun σ' H' => ∃ m', m' < R.ecnt ((ks, t1) :: es) ∧ PldW R H nm a g fl wl t m' σ' H', fun _ _ z => z, ?_⟩
      -- place, part = waiting.pop()
      refine ⟨_, rfl, .inl ⟨rfl, _, SqL.of h2⟩, wl, _, .ref qa, rfl, rfl, h2, by simp, ?_⟩
      have eD : ((V.ref qa :: rs).reverse).dropLast = rs.reverse := by rw [List.reverse_cons, List.dropLast_concat]
      rw [eD]
      have tk2 : TK H1 (upd H1 wl (.lst rs.reverse)) := tk_put h2
      have s2 : Same H (upd H1 wl (.lst rs.reverse)) := same_mut s1 hw0
      have w2 : upd H1 wl (.lst rs.reverse) wl = some (.lst rs.reverse) := upd_same
      have f2 : upd H1 wl (.lst rs.reverse) fl = some (.lst fv) := by
        rw [upd_ne hwf]
        exact h1
      have k4 := k1.imp fun _ _ z => EntV.tk R.tk tk2 z
      have k5 := k3.imp fun _ _ z => EntV.tk R.tk tk2 z
      have g4 := tk2 _ _ g1
      have g5 := tk2 _ _ g2
      have g6 := R.tk tk2 g3
      clear tk2
      generalize upd H1 wl (.lst rs.reverse) = H2 at s2 w2 f2 k4 k5 g4 g5 g6
      refine ⟨qa, _, rfl, SqT.of g4, rfl, _, _, rfl, _, _, rfl, rfl, ?_⟩
      -- found.append((place, part))
      have hfs := k4.len
      refine ⟨_, rfl, .inl ⟨rfl, _, SqL.of f2⟩, _, rfl, _, rfl, sz (by show 2 ≤ 100000; decide), fun p2 hp2 => ?_⟩
      have s3 := same_new hp2 (.tup [.ref ra, .ref b])
      have f3 := s3 _ _ f2
      refine ⟨fl, _, _, rfl, rfl, f3, Nat.lt_of_le_of_lt (m := 1000) (by omega) (by decide), ?_⟩
      have tk3 : TK H2 (upd (upd H2 p2 (.tup [.ref ra, .ref b])) fl (.lst (fv ++ [.ref p2]))) := (tk_same s3).trans (tk_put f3)
      have s4 : Same H (upd (upd H2 p2 (.tup [.ref ra, .ref b])) fl (.lst (fv ++ [.ref p2]))) := same_mut (s2.trans s3) hf0
      have f4 : upd (upd H2 p2 (.tup [.ref ra, .ref b])) fl (.lst (fv ++ [.ref p2])) fl = some (.lst (fv ++ [.ref p2])) := upd_same
      have w4 : upd (upd H2 p2 (.tup [.ref ra, .ref b])) fl (.lst (fv ++ [.ref p2])) wl = some (.lst rs.reverse) := by
        rw [upd_ne (Ne.symm hwf)]
        exact s3 _ _ w2
      have g7 : upd (upd H2 p2 (.tup [.ref ra, .ref b])) fl (.lst (fv ++ [.ref p2])) p2 = some (.tup [.ref ra, .ref b]) := tk_put f3 _ _ upd_same
      have g8 := tk3 _ _ g5
      have g9 := R.tk tk3 g6
      have k6 : All2 (EntV R.A _ [.str nm]) (fs ++ [(ks, t1)]) (fv ++ [.ref p2]) := (k4.imp fun _ _ z => EntV.tk R.tk tk3 z).app ⟨⟨p2, _, _, rfl, g7, g8, g9⟩, trivial⟩
      have k7 := k5.imp fun _ _ z => EntV.tk R.tk tk3 z
      clear tk3 g7
      generalize upd (upd H2 p2 (.tup [.ref ra, .ref b])) fl (.lst (fv ++ [.ref p2])) = H4 at s4 f4 w4 k6 k7 g8 g9
      -- own = parts(part)
      refine ⟨rfl, _, rfl, t1, b, rfl, g9, fun pp H5 ys s5 g10 hys => ?_⟩
      have f5 := s5 _ _ f4
      have w5 := s5 _ _ w4
      have s6 : Same H H5 := s4.trans s5
      have k8 := k6.imp fun _ _ z => EntV.tk R.tk (tk_same s5) z
      have k9 := k7.imp fun _ _ z => EntV.tk R.tk (tk_same s5) z
      have g11 := s5 _ _ g8
      have hkl := hys.len
      have hec : R.ecnt ((ks, t1) :: es) = 1 + R.szs (R.kids t1) + R.ecnt es := by
        show R.sz t1 + R.ecnt es = _
        rw [R.szk]
        rfl
      have hnk := R.len_szs (R.kids t1)
      have hes := R.len_szs (es.map (·.2))
      rw [List.length_map] at hes
      have hes2 : es.length ≤ R.ecnt es := hes
      refine ⟨_, rfl, pp, _, rfl, .inr (SqT.of g10), _, rfl, by decide, by decide, by omega, by omega, ?_⟩
      rw [hkl]
      generalize hn : (R.kids t1).length = n at hkl hnk
      have e0 : ((n : Int) - 0).toNat = n := by omega
      rw [e0]
      refine for_rangeC (lo := 0 + (n : Int) - 1) (c := -1) (n := n) (PldI R H nm a g fl wl b ra pp (fs ++ [(ks, t1)]) ks (R.kids t1) es ys) ?_ ?_ ?_
      · refine ⟨_, rfl, s6, ⟨_, f5, k8⟩, ⟨rs, w5, ?_⟩, g11, g10, hys⟩
        rw [Nat.sub_zero, List.drop_length]
        exact k9
      · rintro i σ' H6 hi ⟨o4', rfl, r1, ⟨fv6, r2, r3⟩, ⟨rs6, r4, r5⟩, r6, r7, r8⟩
        rw [hn] at r5
        have hj : n - i - 1 < n := by omega
        have ej : (0 : Int) + (n : Int) - 1 + ((i : Nat) : Int) * (-1) = ((n - i - 1 : Nat) : Int) := by omega
        rw [ej]
        obtain ⟨v, hv⟩ : ∃ v, ys[n - i - 1]? = some v := ⟨_, List.getElem?_eq_getElem (by rw [hkl]; exact hj)⟩
        obtain ⟨tj, htj, bj, rfl, hbj⟩ := r8.get hv
        have hes6 := r5.len
        rw [List.length_append] at hes6
        have hle6 : (entsN ks (n - i) ((R.kids t1).drop (n - i))).length ≤ n := by
          have z := congrArg List.length (entsN_snd (ks := ks) (ts := (R.kids t1).drop (n - i)) (j := n - i))
          rw [List.length_map, List.length_drop, hn] at z
          omega
        refine ⟨_, rfl, .inl ⟨rfl, _, SqL.of r4⟩, _, rfl, ra, _, rfl, .inl (SqT.of r6), _, rfl, sz ?_, fun p3 hp3 => ?_⟩
        · have z9 : (ks, t1) ∈ R.pl t := by
            rw [← hP, R.spread_cons]
            refine List.mem_append_right _ (List.mem_append_left _ ?_)
            show (ks, t1) ∈ (R.pl t1).map (fun e => (ks ++ e.1, e.2))
            rw [R.plk, List.map_cons]
            exact List.mem_cons.mpr (.inl (by rw [List.append_nil]))
          have z8 := R.pl_short _ t (Nat.le_refl _) _ z9
          show ((.str nm :: ks.map V.int) ++ [V.int ((n - i - 1 : Nat) : Int)]).length ≤ 100000
          rw [List.length_append, List.length_cons, List.length_map, List.length_singleton]
          have z7 : ks.length < R.sz t := z8
          omega
        have t3 := same_new hp3 (.tup ((.str nm :: ks.map V.int) ++ [.int ((n - i - 1 : Nat) : Int)]))
        refine ⟨_, rfl, _, rfl, pp, _, _, _, rfl, rfl, SqT.of (t3 _ _ r7), atI_nat hv, sz (by show 2 ≤ 100000; decide), fun p4 hp4 => ?_⟩
        have t4 := same_new hp4 (.tup [.ref p3, .ref bj])
        have w6 := t4 _ _ (t3 _ _ r4)
        refine ⟨wl, _, _, rfl, rfl, w6, Nat.lt_of_le_of_lt (m := 2000) (by rw [List.length_reverse]; omega) (by decide), ?_⟩
        have tt := t3.trans t4
        have tk6 := (tk_same tt).trans (tk_put (o := .lst (rs6.reverse ++ [.ref p4])) w6)
        refine ⟨_, rfl, same_mut (r1.trans tt) hw0, ⟨fv6, ?_, r3.imp fun _ _ z => EntV.tk R.tk tk6 z⟩, ⟨.ref p4 :: rs6, ?_, ?_⟩, tk6 _ _ r6, tk6 _ _ r7, r8.imp fun _ _ z => Tre.V.tk tk6 z⟩
        · rw [upd_ne hwf]
          exact tt _ _ r2
        · rw [upd_same, List.reverse_cons]
        · rw [hn]
          have e2 : n - (i + 1) = n - i - 1 := by omega
          have e3 : n - i - 1 + 1 = n - i := by omega
          rw [e2, entsN_drop (by rw [hn]; exact hj), e3]
          refine ⟨⟨p4, p3, bj, rfl, ?_, ?_, ?_⟩, r5.imp fun _ _ z => EntV.tk R.tk tk6 z⟩
          · exact tk_put w6 _ _ upd_same
          · have z := (tk_same t4).trans (tk_put (o := .lst (rs6.reverse ++ [.ref p4])) w6) _ _ (upd_same (H := H6) (a := p3) (o := .tup ((.str nm :: ks.map V.int) ++ [.int ((n - i - 1 : Nat) : Int)])))
            rw [z]
            simp
          · have e9 : (R.kids t1)[n - i - 1]'(by rw [hn]; exact hj) = tj := by
              rw [List.getElem?_eq_getElem (by rw [hn]; exact hj)] at htj
              exact Option.some.inj htj
            show R.A _ ((R.kids t1)[n - i - 1]'(by rw [hn]; exact hj)) bj
            rw [e9]
            exact R.tk tk6 hbj
      · rintro σ' H6 ⟨o4', rfl, r1, ⟨fv6, r2, r3⟩, ⟨rs6, r4, r5⟩, r6, r7, r8⟩
        rw [hn, Nat.sub_self, List.drop_zero] at r5
        have e3 : R.ecnt (entsN ks 0 (R.kids t1) ++ es) = R.szs (R.kids t1) + R.ecnt es := by
          unfold Tre.ecnt
          rw [List.map_append, entsN_snd, R.szs_app]
        refine ⟨_, ?_, _, _, _, _, fs ++ [(ks, t1)], fv6, rs6, _, rfl, r1, hf0, hw0, hwf, r2, r3, r4, r5, rfl, ?_, ?_⟩
        · rw [e3, hec]
          omega
        · rw [e3, List.length_append, List.length_singleton]
          omega
        · rw [← hP, R.spread_cons, R.spread_app, R.spread_ents, R.plk]
          unfold Tre.at_
          simp
end
end KB

namespace KB
open PySem L2

def termsP : Pt → List Tm
  | .give _ t => [t]
  | .ask _ ts _ => ts
  | .tell _ t _ => [t]
  | .lett _ t _ => [t]
  | .iff t _ _ => [t]
  | .post _ _ _ _ => []
def restP : Pt → List Pt
  | .give _ _ => []
  | .ask _ _ _ => []
  | .tell _ _ p => [p]
  | .lett _ _ p => [p]
  | .iff _ p q => [p, q]
  | .post _ _ p q => [p, q]
/-! ### turned parts as a tree -/
def plP : Pt → List (List Int × Pt)
  | .give j t => [([], .give j t)]
  | .ask f ts j => [([], .ask f ts j)]
  | .tell x t p => ([], .tell x t p) :: ((plP p).map (fun e => (((0 : Nat) : Int) :: e.1, e.2)) ++ [])
  | .lett x t p => ([], .lett x t p) :: ((plP p).map (fun e => (((0 : Nat) : Int) :: e.1, e.2)) ++ [])
  | .iff t p q => ([], .iff t p q) :: ((plP p).map (fun e => (((0 : Nat) : Int) :: e.1, e.2)) ++ ((plP q).map (fun e => (((1 : Nat) : Int) :: e.1, e.2)) ++ []))
  | .post j x p q => ([], .post j x p q) :: ((plP p).map (fun e => (((0 : Nat) : Int) :: e.1, e.2)) ++ ((plP q).map (fun e => (((1 : Nat) : Int) :: e.1, e.2)) ++ []))
def TrP : Tre Pt where
  kids := restP
  sz := pcnt
  pl := plP
  A := PAt
  tk e h := PAt.tk e h
  szk n := by cases n <;> simp [pcnt, restP, Nat.add_assoc]
  plk n := by cases n <;> rfl
/-! ### turned parts and their terms as a tree -/
abbrev Nd := Pt ⊕ Tm
def plT_J7 : Tm → List (List Int × Nd)
  | .mk h n k => ([], .inr (.mk h n k)) :: (List.ofFn fun i : Fin n => (plT_J7 (k i)).map (fun e => ((i.val : Int) :: e.1, e.2))).flatten
def plTs : Nat → List Tm → List (List Int × Nd)
  | _, [] => []
  | j, t :: ts => (plT_J7 t).map (fun e => ((j : Int) :: e.1, e.2)) ++ plTs (j + 1) ts
def plQ : Pt → List (List Int × Nd)
  | .give j t => ([], .inl (.give j t)) :: ((plT_J7 t).map (fun e => (((0 : Nat) : Int) :: e.1, e.2)) ++ [])
  | .ask f ts j => ([], .inl (.ask f ts j)) :: plTs 0 ts
  | .tell x t p => ([], .inl (.tell x t p)) :: ((plT_J7 t).map (fun e => (((0 : Nat) : Int) :: e.1, e.2)) ++ ((plQ p).map (fun e => (((1 : Nat) : Int) :: e.1, e.2)) ++ []))
  | .lett x t p => ([], .inl (.lett x t p)) :: ((plT_J7 t).map (fun e => (((0 : Nat) : Int) :: e.1, e.2)) ++ ((plQ p).map (fun e => (((1 : Nat) : Int) :: e.1, e.2)) ++ []))
  | .iff t p q => ([], .inl (.iff t p q)) :: ((plT_J7 t).map (fun e => (((0 : Nat) : Int) :: e.1, e.2)) ++ ((plQ p).map (fun e => (((1 : Nat) : Int) :: e.1, e.2)) ++ ((plQ q).map (fun e => (((2 : Nat) : Int) :: e.1, e.2)) ++ [])))
  | .post j x p q => ([], .inl (.post j x p q)) :: ((plQ p).map (fun e => (((0 : Nat) : Int) :: e.1, e.2)) ++ ((plQ q).map (fun e => (((1 : Nat) : Int) :: e.1, e.2)) ++ []))
def plN : Nd → List (List Int × Nd)
  | .inl p => plQ p
  | .inr t => plT_J7 t
def kidsN : Nd → List Nd
  | .inl p => (termsP p).map .inr ++ (restP p).map .inl
  | .inr (.mk _ _ k) => (List.ofFn k).map .inr
def szN : Nd → Nat
  | .inl p => ncnt p
  | .inr t => cnt t
def NAt (H : Hp) : Nd → Addr → Prop
  | .inl p, a => PAt H p a ∧ kP p
  | .inr t, a => At H t a ∧ simple t = true
theorem plTs_plL : ∀ (ts : List Tm) (j : Nat), plTs j ts = plL plN j (ts.map .inr)
  | [], _ => rfl
  | t :: ts, j => by
    show (plT_J7 t).map (fun e => ((j : Int) :: e.1, e.2)) ++ plTs (j + 1) ts = (plT_J7 t).map (fun e => ((j : Int) :: e.1, e.2)) ++ plL plN (j + 1) (ts.map .inr)
    rw [plTs_plL ts (j + 1)]
theorem plT_fn_J7 : ∀ {n : Nat} {k : Fin n → Tm} {j : Nat}, (List.ofFn fun i : Fin n => (plT_J7 (k i)).map (fun e => (((j + i.val : Nat) : Int) :: e.1, e.2))).flatten = plTs j (List.ofFn k)
  | 0, _, _ => rfl
  | n + 1, k, j => by
    rw [List.ofFn_succ, List.ofFn_succ, List.flatten_cons]
    show _ = (plT_J7 (k 0)).map (fun e => ((j : Int) :: e.1, e.2)) ++ plTs (j + 1) _
    rw [← plT_fn_J7 (k := fun i => k i.succ) (j := j + 1)]
    congr 3
    · funext i
      have e : j + (i.succ).val = j + 1 + i.val := by
        rw [Fin.val_succ]
        omega
      rw [e]
theorem plT_mk {h : Hd} {n : Nat} {k : Fin n → Tm} : plT_J7 (.mk h n k) = ([], .inr (.mk h n k)) :: plTs 0 (List.ofFn k) := by
  rw [← plT_fn_J7]
  show _ :: _ = _
  congr 4
  funext i
  rw [Nat.zero_add]
theorem szs_inr (ts : List Tm) : ((ts.map Sum.inr).map szN).sum = cnts ts := by
  rw [List.map_map]
  rfl
def TrN : Tre Nd where
  kids := kidsN
  sz := szN
  pl := plN
  A := NAt
  tk {H H' n a} e h := by
    cases n with
    | inl p => exact ⟨PAt.tk e h.1, h.2⟩
    | inr t => exact ⟨h.1.tk e, h.2⟩
  szk n := by
    cases n with
    | inl p =>
      cases p with
      | ask f ts j =>
        show 1 + cnts ts = 1 + (((ts.map Sum.inr ++ []).map szN)).sum
        rw [List.append_nil, szs_inr]
      | _ => simp [szN, ncnt, kidsN, termsP, restP, Nat.add_assoc]
    | inr t =>
      obtain ⟨h, n, k⟩ := t
      show cnt (.mk h n k) = 1 + (((List.ofFn k).map Sum.inr).map szN).sum
      rw [szs_inr, cnt_mk]
  plk n := by
    cases n with
    | inl p =>
      cases p with
      | ask f ts j =>
        show ([], .inl (.ask f ts j)) :: plTs 0 ts = ([], .inl (.ask f ts j)) :: plL plN 0 (ts.map .inr ++ [])
        rw [List.append_nil, plTs_plL]
      | _ => rfl
    | inr t =>
      obtain ⟨h, n, k⟩ := t
      show plT_J7 (.mk h n k) = ([], .inr (.mk h n k)) :: plL plN 0 ((List.ofFn k).map .inr)
      rw [plT_mk, plTs_plL]
theorem cut3 {x y z : V} {r : List V} : cutV (x :: y :: z :: r) (some 3) none = r := cut_from (i := 3) (by decide) (Nat.succ_le_succ len2)
theorem len3 {α : Type} {x y z : α} {r : List α} : 3 ≤ (x :: y :: z :: r).length := Nat.succ_le_succ len2
theorem all2_fn {H : Hp} : ∀ {n : Nat} {k : Fin n → Tm} {ys : Fin n → Addr}, (∀ i, At H (k i) (ys i)) → All2 (RefV H) (List.ofFn k) (Rfs ys)
  | 0, _, _, _ => trivial
  | n + 1, k, ys, h => by
    unfold Rfs
    rw [List.ofFn_succ, List.ofFn_succ]
    exact ⟨⟨ys 0, rfl, h 0⟩, all2_fn (k := fun i => k i.succ) (ys := fun i => ys i.succ) fun i => h i.succ⟩
theorem simple_mk {h : Hd} {n : Nat} {k : Fin n → Tm} (e : simple (.mk h n k) = true) : flatHd h = true ∧ ∀ i, simple (k i) = true := by
  have e' : (flatHd h && (List.ofFn fun i => simple (k i)).all id) = true := e
  rw [Bool.and_eq_true, List.all_eq_true] at e'
  exact ⟨e'.1, fun i => e'.2 _ (List.mem_ofFn.mpr ⟨i, rfl⟩)⟩
theorem all2_mem {α : Type} {R S : α → V → Prop} : ∀ {as : List α} {vs : List V}, All2 R as vs → (∀ a ∈ as, ∀ v, R a v → S a v) → All2 S as vs
  | [], [], _, _ => trivial
  | a :: as, v :: vs, h, e => ⟨e a List.mem_cons_self v h.1, all2_mem h.2 fun b hb => e b (List.mem_cons_of_mem _ hb)⟩
  | [], _ :: _, h, _ => h.elim
  | _ :: _, [], h, _ => h.elim
def heads : List V := [.str "number", .str "name", .str "plus", .str "less"]
theorem flat_in2 (h : Hd) : inV (.str (hs h)) heads = flatHd h := by
  cases h <;> rfl
/-- how a part begins -/
def hsP : Pt → Str
  | .give _ _ => "give" | .ask _ _ _ => "ask" | .tell _ _ _ => "tell" | .lett _ _ _ => "let" | .iff _ _ _ => "if" | .post _ _ _ _ => "post"
theorem PAt.head {H : Hp} {p : Pt} {a : Addr} (h : PAt H p a) : ∃ r, H a = some (.tup (.str (hsP p) :: r)) := by
  cases p with
  | give j t => obtain ⟨b, h1, _⟩ := h; exact ⟨_, h1⟩
  | ask f ts j => obtain ⟨b, vs, h1, _⟩ := h; exact ⟨_, h1⟩
  | tell x t p => obtain ⟨b, c, h1, _⟩ := h; exact ⟨_, h1⟩
  | lett x t p => obtain ⟨b, c, h1, _⟩ := h; exact ⟨_, h1⟩
  | iff t p q => obtain ⟨b, c, d, h1, _⟩ := h; exact ⟨_, h1⟩
  | post j x p q => obtain ⟨c, d, h1, _⟩ := h; exact ⟨_, h1⟩
theorem kP_terms {p : Pt} (h : kP p) : ∀ t ∈ termsP p, simple t = true := by
  intro t ht
  cases p with
  | give j u => rw [List.mem_singleton.mp ht]; exact h.2.si
  | ask f ts j => exact (h.2.2.2 t ht).si
  | tell x u p => rw [List.mem_singleton.mp ht]; exact h.2.1.si
  | lett x u p => rw [List.mem_singleton.mp ht]; exact h.2.1.si
  | iff u p q => rw [List.mem_singleton.mp ht]; exact h.1.si
  | post j x p q => cases ht
theorem kP_rest {p : Pt} (h : kP p) : ∀ u ∈ restP p, kP u := by
  intro u hu
  cases p with
  | give j t => cases hu
  | ask f ts j => cases hu
  | tell x t p => rw [List.mem_singleton.mp hu]; exact h.2.2
  | lett x t p => rw [List.mem_singleton.mp hu]; exact h.2.2
  | iff t p q =>
    rcases List.mem_cons.mp hu with z | z
    · rw [z]; exact h.2.1
    · rw [List.mem_singleton.mp z]; exact h.2.2
  | post j x p q =>
    rcases List.mem_cons.mp hu with z | z
    · rw [z]; exact h.2.2.1
    · rw [List.mem_singleton.mp z]; exact h.2.2.2
section
variable {P : Program} {w : World} {K : PySem.W.Frag} {mg : Str → Option Value} {base : Heap}
/-! ### terms_in -/
def spTermsIn : Sp := fun vs H Q _ => ∃ (a : Addr) (p : Pt), vs = [.ref a] ∧ PAt H p a ∧ ∀ H' q vs, Same H H' → H' q = some (.tup vs) → All2 (RefV H') (termsP p) vs → Q (.ref q) H'
abbrev sterms_in : Stmt := top 16
theorem scterms_in : FnScope ["part"] ["part"] (defScope sterms_in) := ⟨rfl, rfl, rfl, by decide +kernel, rfl, by decide +kernel, by decide +kernel⟩
theorem ok_tin {f : Addr} {fd : FuncData} (F : Fun K "terms_in" "terms_in" sterms_in f fd) : FnOk P w K mg base CX0 1 f fd ["part"] spTermsIn := by
  refine F.ok scterms_in (fun vs H Q E h => ?_) (fun cdv A outer s H vs Q E hr h => ?_)
  · obtain ⟨a, p, rfl, _⟩ := h
    rfl
  obtain ⟨a, p, rfl, hA, q⟩ := h
  refine ⟨_, (pss_cons (ps_if (pt_cmpR op_eq (pe_ix ix_tup (pv 0) pe_int (fun _ _ => rfl)) pe_str (nomark _)) (pss_one (ps_ret (pe_ix ix_tup (pv 0) pe_int (fun _ _ => rfl)))) pss_nil)
    (pss_cons (ps_if (pt_cmpR op_eq (pe_ix ix_tup (pv 0) pe_int (fun _ _ => rfl)) pe_str (nomark _)) (pss_one (ps_ret (pe_slice sl_tupA (pv 0) (po_some pe_int) (po_some pe_int)))) pss_nil)
    (pss_cons (ps_if (pt_cmpR op_eq (pe_ix ix_tup (pv 0) pe_int (fun _ _ => rfl)) pe_str (nomark _)) (pss_one (ps_ret (pe_tup pa_nil))) pss_nil)
    (pss_one (ps_ret (pe_slice sl_tupA (pv 0) (po_some pe_int) (po_some pe_int))))))), ?_⟩
  cases p with
  | give j t =>
    obtain ⟨b, h1, h2⟩ := hA
    refine ⟨_, rfl, a, _, _, _, rfl, rfl, SqT.of h1, at0, rfl, _, rfl, itF rfl ⟨_, rfl, a, _, _, _, rfl, rfl, SqT.of h1, at0, rfl, _, rfl, itF rfl ⟨_, rfl, a, _, _, _, rfl, rfl, SqT.of h1, at0, rfl, _, rfl, itF rfl ?_⟩⟩⟩
    refine ⟨_, rfl, _, rfl, _, rfl, a, _, rfl, SqT.of h1, fun z => absurd z (by show ¬ (HT.sIx 3 0 (some 2) = 0 ∧ HT.sIx 3 3 (some 3) = 3); decide), fun _ p hp => ?_⟩
    have s1 := same_new hp (.tup [V.ref b])
    exact q _ p [.ref b] s1 upd_same ⟨⟨b, rfl, h2.mono s1⟩, trivial⟩
  | ask g ts j =>
    obtain ⟨b, vs, h1, h2, h3⟩ := hA
    exact ⟨_, rfl, a, _, _, _, rfl, rfl, SqT.of h1, at0, rfl, _, rfl, itT rfl ⟨_, rfl, a, _, _, _, rfl, rfl, SqT.of h1, at2, q H b vs (Same.refl H) h2 h3⟩⟩
  | tell x t p =>
    obtain ⟨b, c, h1, h2, h3⟩ := hA
    refine ⟨_, rfl, a, _, _, _, rfl, rfl, SqT.of h1, at0, rfl, _, rfl, itF rfl ⟨_, rfl, a, _, _, _, rfl, rfl, SqT.of h1, at0, rfl, _, rfl, itF rfl ⟨_, rfl, a, _, _, _, rfl, rfl, SqT.of h1, at0, rfl, _, rfl, itF rfl ?_⟩⟩⟩
    refine ⟨_, rfl, _, rfl, _, rfl, a, _, rfl, SqT.of h1, fun z => absurd z (by show ¬ (HT.sIx 4 0 (some 2) = 0 ∧ HT.sIx 4 4 (some 3) = 4); decide), fun _ p hp => ?_⟩
    have s1 := same_new hp (.tup [V.ref b])
    exact q _ p [.ref b] s1 upd_same ⟨⟨b, rfl, h2.mono s1⟩, trivial⟩
  | lett x t p =>
    obtain ⟨b, c, h1, h2, h3⟩ := hA
    refine ⟨_, rfl, a, _, _, _, rfl, rfl, SqT.of h1, at0, rfl, _, rfl, itF rfl ⟨_, rfl, a, _, _, _, rfl, rfl, SqT.of h1, at0, rfl, _, rfl, itF rfl ⟨_, rfl, a, _, _, _, rfl, rfl, SqT.of h1, at0, rfl, _, rfl, itF rfl ?_⟩⟩⟩
    refine ⟨_, rfl, _, rfl, _, rfl, a, _, rfl, SqT.of h1, fun z => absurd z (by show ¬ (HT.sIx 4 0 (some 2) = 0 ∧ HT.sIx 4 4 (some 3) = 4); decide), fun _ p hp => ?_⟩
    have s1 := same_new hp (.tup [V.ref b])
    exact q _ p [.ref b] s1 upd_same ⟨⟨b, rfl, h2.mono s1⟩, trivial⟩
  | iff t p p2 =>
    obtain ⟨b, c, d, h1, h2, h3, h4⟩ := hA
    refine ⟨_, rfl, a, _, _, _, rfl, rfl, SqT.of h1, at0, rfl, _, rfl, itF rfl ⟨_, rfl, a, _, _, _, rfl, rfl, SqT.of h1, at0, rfl, _, rfl, itT rfl ?_⟩⟩
    refine ⟨_, rfl, _, rfl, _, rfl, a, _, rfl, SqT.of h1, fun z => absurd z (by show ¬ (HT.sIx 4 0 (some 1) = 0 ∧ HT.sIx 4 4 (some 2) = 4); decide), fun _ p hp => ?_⟩
    have s1 := same_new hp (.tup [V.ref b])
    exact q _ p [.ref b] s1 upd_same ⟨⟨b, rfl, h2.mono s1⟩, trivial⟩
  | post j x p p2 =>
    obtain ⟨c, d, h1, h2, h3⟩ := hA
    refine ⟨_, rfl, a, _, _, _, rfl, rfl, SqT.of h1, at0, rfl, _, rfl, itF rfl ⟨_, rfl, a, _, _, _, rfl, rfl, SqT.of h1, at0, rfl, _, rfl, itF rfl ⟨_, rfl, a, _, _, _, rfl, rfl, SqT.of h1, at0, rfl, _, rfl, itT rfl ?_⟩⟩⟩
    exact ⟨sz (by show 0 ≤ 100000; decide), fun p hp => q _ p [] (same_new hp _) upd_same trivial⟩
/-! ### rest_of -/
abbrev srest_of : Stmt := top 17
theorem screst_of : FnScope ["part"] ["part"] (defScope srest_of) := ⟨rfl, rfl, rfl, by decide +kernel, rfl, by decide +kernel, by decide +kernel⟩
theorem ok_rest {f : Addr} {fd : FuncData} (F : Fun K "rest_of" "rest_of" srest_of f fd) : FnOk P w K mg base CX0 1 f fd ["part"] (spKids TrP) := by
  refine F.ok screst_of (fun vs H Q E h => ?_) (fun cdv A outer s H vs Q E hr h => ?_)
  · obtain ⟨p, a, rfl, _⟩ := h
    rfl
  obtain ⟨p, a, rfl, hA, q⟩ := h
  refine ⟨_, (pss_cons (ps_if (pt_cmpR op_eq (pe_ix ix_tup (pv 0) pe_int (fun _ _ => rfl)) pe_str (nomark _)) (pss_one (ps_ret (pe_slice sl_tupA (pv 0) (po_some pe_int) po_none))) pss_nil)
    (pss_cons (ps_if (pt_cmpR op_in_seq (pe_ix ix_tup (pv 0) pe_int (fun _ _ => rfl)) (pe_tup (pa_cons pe_str (pa_cons pe_str pa_nil))) rfl) (pss_one (ps_ret (pe_tup pa_nil))) pss_nil)
    (pss_one (ps_ret (pe_slice sl_tupA (pv 0) (po_some pe_int) po_none))))), ?_⟩
  have hA' : PAt H p a := hA
  obtain ⟨r, hd⟩ := hA'.head
  refine ⟨_, rfl, a, _, _, _, rfl, rfl, SqT.of hd, at0, rfl, _, rfl, ?_⟩
  cases p with
  | iff t p1 p2 =>
    obtain ⟨b, c, d, h1, h2, h3, h4⟩ := hA'
    refine itT rfl ⟨_, rfl, _, rfl, a, _, rfl, SqT.of h1, fun z => absurd z (not_whole (by decide) len2), fun _ pa hpa => ?_⟩
    have s1 := same_new hpa (.tup (cutV [.str "if", .ref b, .ref c, .ref d] (some 2) none))
    exact q pa _ [.ref c, .ref d] s1 (by rw [upd_same, cut2]) ⟨⟨c, rfl, PAt.tk (tk_same s1) h3⟩, ⟨d, rfl, PAt.tk (tk_same s1) h4⟩, trivial⟩
  | give j t =>
    refine itF rfl ⟨_, rfl, a, _, _, _, rfl, rfl, SqT.of hd, at0, sz (by show 2 ≤ 100000; decide), fun t1 ht1 => ⟨t1, _, rfl, .inr (SqT.of upd_same), rfl, rfl, _, rfl, itT rfl ⟨sz (by show 0 ≤ 100000; decide), fun pa hpa => ?_⟩⟩⟩
    exact q pa _ [] ((same_new ht1 _).trans (same_new hpa _)) upd_same trivial
  | ask g ts j =>
    refine itF rfl ⟨_, rfl, a, _, _, _, rfl, rfl, SqT.of hd, at0, sz (by show 2 ≤ 100000; decide), fun t1 ht1 => ⟨t1, _, rfl, .inr (SqT.of upd_same), rfl, rfl, _, rfl, itT rfl ⟨sz (by show 0 ≤ 100000; decide), fun pa hpa => ?_⟩⟩⟩
    exact q pa _ [] ((same_new ht1 _).trans (same_new hpa _)) upd_same trivial
  | tell x t p1 =>
    obtain ⟨b, c, h1, h2, h3⟩ := hA'
    refine itF rfl ⟨_, rfl, a, _, _, _, rfl, rfl, SqT.of h1, at0, sz (by show 2 ≤ 100000; decide), fun t1 ht1 => ⟨t1, _, rfl, .inr (SqT.of upd_same), rfl, rfl, _, rfl, itF rfl ?_⟩⟩
    have s0 := same_new ht1 (.tup [.str "give", .str "ask"])
    refine ⟨_, rfl, _, rfl, a, _, rfl, SqT.of (s0 _ _ h1), fun z => absurd z (not_whole (by decide) len3), fun _ pa hpa => ?_⟩
    have s1 := s0.trans (same_new hpa (.tup (cutV [.str "tell", .str x, .ref b, .ref c] (some 3) none)))
    exact q pa _ [.ref c] s1 (by rw [upd_same, cut3]) ⟨⟨c, rfl, PAt.tk (tk_same s1) h3⟩, trivial⟩
  | lett x t p1 =>
    obtain ⟨b, c, h1, h2, h3⟩ := hA'
    refine itF rfl ⟨_, rfl, a, _, _, _, rfl, rfl, SqT.of h1, at0, sz (by show 2 ≤ 100000; decide), fun t1 ht1 => ⟨t1, _, rfl, .inr (SqT.of upd_same), rfl, rfl, _, rfl, itF rfl ?_⟩⟩
    have s0 := same_new ht1 (.tup [.str "give", .str "ask"])
    refine ⟨_, rfl, _, rfl, a, _, rfl, SqT.of (s0 _ _ h1), fun z => absurd z (not_whole (by decide) len3), fun _ pa hpa => ?_⟩
    have s1 := s0.trans (same_new hpa (.tup (cutV [.str "let", .str x, .ref b, .ref c] (some 3) none)))
    exact q pa _ [.ref c] s1 (by rw [upd_same, cut3]) ⟨⟨c, rfl, PAt.tk (tk_same s1) h3⟩, trivial⟩
  | post j x p1 p2 =>
    obtain ⟨c, d, h1, h2, h3⟩ := hA'
    refine itF rfl ⟨_, rfl, a, _, _, _, rfl, rfl, SqT.of h1, at0, sz (by show 2 ≤ 100000; decide), fun t1 ht1 => ⟨t1, _, rfl, .inr (SqT.of upd_same), rfl, rfl, _, rfl, itF rfl ?_⟩⟩
    have s0 := same_new ht1 (.tup [.str "give", .str "ask"])
    refine ⟨_, rfl, _, rfl, a, _, rfl, SqT.of (s0 _ _ h1), fun z => absurd z (not_whole (by decide) len3), fun _ pa hpa => ?_⟩
    have s1 := s0.trans (same_new hpa (.tup (cutV [.str "post", .str j, .str x, .ref c, .ref d] (some 3) none)))
    exact q pa _ [.ref c, .ref d] s1 (by rw [upd_same, cut3]) ⟨⟨c, rfl, PAt.tk (tk_same s1) h2⟩, ⟨d, rfl, PAt.tk (tk_same s1) h3⟩, trivial⟩
/-! ### turned_parts -/
abbrev sturned_parts : Stmt := top 18
theorem scturned_parts : FnScope ["part"] ["part"] (defScope sturned_parts) := ⟨rfl, rfl, rfl, by decide +kernel, rfl, by decide +kernel, by decide +kernel⟩
theorem ok_tparts (hS : ∃ a, mg "SIMPLE_HEADS" = some (.ref a) ∧ ∀ H, SqT K H a heads) {f f1 f2 f3 : Addr} {fd d1 d2 d3 : FuncData} (F : Fun K "turned_parts" "turned_parts" sturned_parts f fd) (Gparts_of : FnOk P w K mg base CX0 1 f1 d1 ["term"] spParts) (Rparts_of : Ref K mg "parts_of" f1 d1 ["term"])
    (Gterms_in : FnOk P w K mg base CX0 1 f2 d2 ["part"] spTermsIn) (Rterms_in : Ref K mg "terms_in" f2 d2 ["part"]) (Grest_of : FnOk P w K mg base CX0 1 f3 d3 ["part"] (spKids TrP)) (Rrest_of : Ref K mg "rest_of" f3 d3 ["part"]) : FnOk P w K mg base CX0 2 f fd ["part"] (spKids TrN) := by
  refine F.ok scturned_parts (fun vs H Q E h => ?_) (fun cdv A outer s H vs Q E hr h => ?_)
  · obtain ⟨p, a, rfl, _⟩ := h
    rfl
  obtain ⟨n, a, rfl, hA, q⟩ := h
  obtain ⟨sh, msh, hsh⟩ := hS
  refine ⟨_, (pss_cons (ps_if (pt_cmpR op_in_seq (pe_ix ix_tup (pv 0) pe_int (fun _ _ => rfl)) (pe_glob (v := .ref sh) rfl msh rfl) rfl) (pss_one (ps_ret (pe_call Gparts_of (hr.mono (by omega)) rfl Rparts_of.m Rparts_of.k Rparts_of.b .nil pass0 (pa_cons (pv 0) pa_nil)))) pss_nil)
    (pss_one (ps_ret (pe_op op_catA (pe_call Gterms_in (hr.mono (by omega)) rfl Rterms_in.m Rterms_in.k Rterms_in.b .nil pass0 (pa_cons (pv 0) pa_nil)) (pe_call Grest_of (hr.mono (by omega)) rfl Rrest_of.m Rrest_of.k Rrest_of.b .nil pass0 (pa_cons (pv 0) pa_nil)))))), ?_⟩
  cases n with
  | inr t =>
    obtain ⟨hT, hsi⟩ := hA
    obtain ⟨h, n, k⟩ := t
    obtain ⟨ys, l, hk⟩ := hT
    obtain ⟨r, hd⟩ := l.head
    obtain ⟨e1, e2⟩ := simple_mk hsi
    refine ⟨_, rfl, a, _, _, _, rfl, rfl, SqT.of hd, at0, sh, _, rfl, .inr (hsh _), rfl, rfl, _, rfl, itT ?_ ⟨_, rfl, a, h, _, rfl, l, fun p H1 s1 h1 => ?_⟩⟩
    · show inV (.str (hs h)) heads = true
      rw [flat_in2, e1]
    · refine q p H1 _ s1 h1 ?_
      have z := all2_fn (k := k) (ys := ys) fun i => (hk i).mono s1
      refine All2.map (f := Sum.inr) (all2_mem z fun u hu v hv => ?_)
      obtain ⟨b, rfl, hb⟩ := hv
      obtain ⟨i, rfl⟩ := List.mem_ofFn.mp hu
      exact ⟨b, rfl, hb, e2 i⟩
  | inl p =>
    obtain ⟨hA', hk⟩ : PAt H p a ∧ kP p := hA
    obtain ⟨r, hd⟩ := hA'.head
    refine ⟨_, rfl, a, _, _, _, rfl, rfl, SqT.of hd, at0, sh, _, rfl, .inr (hsh _), rfl, rfl, _, rfl, itF ?_ ⟨_, rfl, a, p, rfl, hA', fun H1 b1 us1 s1 g1 k1 => ?_⟩⟩
    · show inV (.str (hsP p)) heads = false
      cases p <;> rfl
    · refine ⟨_, rfl, p, a, rfl, PAt.tk (tk_same s1) hA', fun b2 H2 us2 s2 g2 k2 => ?_⟩
      have z1 := k1.len
      have z2 := k2.len
      have l1 : (termsP p).length ≤ 4 := by
        cases p with
        | ask f ts j => exact hk.2.2.1
        | _ => show (_ : List Tm).length ≤ 4; simp [termsP]
      have l2 : (restP p).length ≤ 2 := by cases p <;> simp [restP]
      refine catA_of (s2 _ _ g1) g2 (by show us1.length + us2.length ≤ 100000; rw [z1, z2]; show (termsP p).length + (restP p).length ≤ 100000; omega) fun b3 H3 s3 g3 => ?_
      refine q b3 H3 _ ((s1.trans s2).trans s3) g3 ?_
      refine All2.app (All2.map (f := Sum.inr) (all2_mem k1 fun t ht v hv => ?_)) (All2.map (f := Sum.inl) (all2_mem k2 fun u hu v hv => ?_))
      · obtain ⟨b, e, hb⟩ := hv
        exact ⟨b, e, hb.mono (s2.trans s3), kP_terms hk t ht⟩
      · obtain ⟨b, e, hb⟩ := hv
        exact ⟨b, e, PAt.tk (tk_same s3) hb, kP_rest hk u hu⟩
/-! ### hand_of -/
end
end KB

namespace KB
open PySem L2 HT

/-! ### idle posts -/
def passed : Pt → Str → Bool
  | .give _ t, x => PyData.eqv (pd t) (.tuple [.str "name", .str x])
  | _, _ => false
def PlS (H : Hp) (x : Str × List Int) (v : V) : Prop := ∃ r, v = .ref r ∧ H r = some (.tup (.str x.1 :: x.2.map V.int))
theorem PlS.tk {H H' : Hp} (e : TK H H') {x : Str × List Int} {v : V} (h : PlS H x v) : PlS H' x v := let ⟨r, a, b⟩ := h; ⟨r, a, e _ _ b⟩
theorem STm.shaped {t : Tm} (h : STm t) : SeqAt.shaped (pd t) = true := shaped_of h.lay (Nat.le_trans h.dep (by decide))
theorem at4 {x y z u t : V} {r : List V} : atI (x :: y :: z :: u :: t :: r) 4 = some t := at_of (j := 4) rfl rfl
section
variable {P : Program} {w : World} {K : PySem.W.Frag} {mg : Str → Option Value} {base : Heap}
/-! ### is_handed_to -/
/-! ### is_passed_on -/
/-! ### is_idle -/
/-! ### idle_places -/
end
end KB

namespace KB
open PySem L2 HT

/-! ### the law's own walks -/
def lkids : Pt → List (Int × Pt)
  | .give _ _ => []
  | .ask _ _ _ => []
  | .tell _ _ p => [(1, p)]
  | .lett _ _ p => [(1, p)]
  | .iff _ p q => [(1, p), (2, q)]
  | .post _ _ p q => [(0, p), (1, q)]
def allP : Pt → List (List Int × Pt)
  | .give j t => [([], .give j t)]
  | .ask f ts j => [([], .ask f ts j)]
  | .tell x t p => ([], .tell x t p) :: ((allP p).map (fun e => ((1 : Int) :: e.1, e.2)) ++ [])
  | .lett x t p => ([], .lett x t p) :: ((allP p).map (fun e => ((1 : Int) :: e.1, e.2)) ++ [])
  | .iff t p q => ([], .iff t p q) :: ((allP p).map (fun e => ((1 : Int) :: e.1, e.2)) ++ ((allP q).map (fun e => ((2 : Int) :: e.1, e.2)) ++ []))
  | .post j x p q => ([], .post j x p q) :: ((allP p).map (fun e => ((0 : Int) :: e.1, e.2)) ++ ((allP q).map (fun e => ((1 : Int) :: e.1, e.2)) ++ []))
def allK (ks : List (Int × Pt)) : List (List Int × Pt) := (ks.map fun k => (allP k.2).map fun e => (k.1 :: e.1, e.2)).flatten
theorem allP_mk (p : Pt) : allP p = ([], p) :: allK (lkids p) := by cases p <;> rfl
theorem pc_pos : ∀ p : Pt, 1 ≤ pcnt p := fun p => TrP.pos p
theorem allP_len : ∀ p : Pt, (allP p).length = pcnt p
  | .give j t => rfl
  | .ask f ts j => rfl
  | .tell x t p => by simp [allP, pcnt, allP_len p]; omega
  | .lett x t p => by simp [allP, pcnt, allP_len p]; omega
  | .iff t p q => by simp [allP, pcnt, allP_len p, allP_len q]; omega
  | .post j x p q => by simp [allP, pcnt, allP_len p, allP_len q]; omega
theorem lk_cnt {p : Pt} {k : Int × Pt} (h : k ∈ lkids p) : pcnt k.2 < pcnt p := by
  cases p with
  | give j t => cases h
  | ask f ts j => cases h
  | tell x t p => rw [List.mem_singleton.mp h]; show pcnt p < 1 + pcnt p; omega
  | lett x t p => rw [List.mem_singleton.mp h]; show pcnt p < 1 + pcnt p; omega
  | iff t p q =>
    rcases List.mem_cons.mp h with z | z
    · rw [z]; show pcnt p < 1 + pcnt p + pcnt q; omega
    · rw [List.mem_singleton.mp z]; show pcnt q < 1 + pcnt p + pcnt q; omega
  | post j x p q =>
    rcases List.mem_cons.mp h with z | z
    · rw [z]; show pcnt p < 1 + pcnt p + pcnt q; omega
    · rw [List.mem_singleton.mp z]; show pcnt q < 1 + pcnt p + pcnt q; omega
def kcnt (ks : List (Int × Pt)) : Nat := (ks.map fun k => pcnt k.2).sum
theorem kcnt_lk (p : Pt) : kcnt (lkids p) < pcnt p := by
  cases p <;> simp [kcnt, lkids, pcnt] <;> omega
theorem kcnt_take (ks : List (Int × Pt)) (i : Nat) : kcnt (ks.take i) ≤ kcnt ks := by
  have e : kcnt ks = kcnt (ks.take i) + kcnt (ks.drop i) := by
    unfold kcnt
    rw [← List.sum_append, ← List.map_append, List.take_append_drop]
  omega
theorem allK_len : ∀ ks : List (Int × Pt), (allK ks).length = kcnt ks
  | [] => rfl
  | k :: r => by
    show ((allP k.2).map (fun e => (k.1 :: e.1, e.2)) ++ allK r).length = pcnt k.2 + kcnt r
    rw [List.length_append, List.length_map, allP_len, allK_len r]
theorem allK_take {ks : List (Int × Pt)} {i : Nat} {k : Int × Pt} (h : ks[i]? = some k) : allK (ks.take (i + 1)) = allK (ks.take i) ++ (allP k.2).map fun e => (k.1 :: e.1, e.2) := by
  obtain ⟨hi, he⟩ := List.getElem?_eq_some_iff.mp h
  unfold allK
  rw [List.take_succ_eq_append_getElem hi, List.map_append, List.flatten_append, he]
  simp
/-- a part within, by its number -/
def KidV (H : Hp) (k : Int × Pt) (v : V) : Prop := ∃ q b, v = .ref q ∧ H q = some (.tup [.int k.1, .ref b]) ∧ PAt H k.2 b
theorem KidV.tk {H H' : Hp} (e : TK H H') {k : Int × Pt} {v : V} (h : KidV H k v) : KidV H' k v := let ⟨q, b, e1, h1, h2⟩ := h; ⟨q, b, e1, e _ _ h1, h2.tk e⟩
theorem EntV.deep {H : Hp} {pre : List V} {i : Int} {e : List Int × Pt} {v : V} (h : EntV PAt H (pre ++ [.int i]) e v) : EntV PAt H pre (i :: e.1, e.2) v := by
  obtain ⟨q, r, b, e1, h1, h2, h3⟩ := h
  refine ⟨q, r, b, e1, h1, ?_, h3⟩
  rw [h2, List.append_assoc]
  rfl
theorem EntV.tkP {H H' : Hp} (e : TK H H') {pre : List V} {kt : List Int × Pt} {v : V} (h : EntV PAt H pre kt v) : EntV PAt H' pre kt v := EntV.tk (fun t z => PAt.tk t z) e h
theorem hsP_ask {p : Pt} (h : hsP p = "ask") : ∃ f ts j, p = .ask f ts j := by
  cases p <;> dsimp only [hsP] at h <;> first | exact ⟨_, _, _, rfl⟩ | exact absurd h (by decide)
section
variable {P : Program} {w : World} {K : PySem.W.Frag} {mg : Str → Option Value} {base : Heap}
/-! ### _law_kids -/
def spLKids : Sp := fun vs H Q _ => ∃ (a : Addr) (p : Pt), vs = [.ref a] ∧ PAt H p a ∧ ∀ r H' us, H r = none → Same H H' → H' r = some (.lst us) → All2 (KidV H') (lkids p) us → Q (.ref r) H'
abbrev s_law_kids : Stmt := top 53
theorem scLkids : FnScope ["part"] ["part"] (defScope s_law_kids) := ⟨rfl, rfl, rfl, by decide +kernel, rfl, by decide +kernel, by decide +kernel⟩
theorem ok_lkids {f : Addr} {fd : FuncData} (F : Fun K "_law_kids" "_law_kids" s_law_kids f fd) : FnOk P w K mg base CX0 1 f fd ["part"] spLKids := by
  refine F.ok scLkids (fun vs H Q E h => ?_) (fun cdv A outer s H vs Q E hr h => ?_)
  · obtain ⟨a, p, rfl, _⟩ := h
    rfl
  obtain ⟨a, p, rfl, hA, q⟩ := h
  refine ⟨_, (pss_cons (ps_if (PW.pt (pw_or (pt_cmpR op_eq (pe_ix ix_tup (pv 0) pe_int (fun _ _ => rfl)) pe_str (nomark _)) (pw_or1 (pt_cmpR op_eq (pe_ix ix_tup (pv 0) pe_int (fun _ _ => rfl)) pe_str (nomark _))))) (pss_one (ps_ret (pe_lst pa_nil))) pss_nil)
    (pss_cons (ps_if (pt_cmpR op_eq (pe_ix ix_tup (pv 0) pe_int (fun _ _ => rfl)) pe_str (nomark _)) (pss_one (ps_ret (pe_lst (pa_cons (pe_tup (pa_cons pe_int (pa_cons (pe_ix ix_tup (pv 0) pe_int (fun _ _ => rfl)) pa_nil))) (pa_cons (pe_tup (pa_cons pe_int (pa_cons (pe_ix ix_tup (pv 0) pe_int (fun _ _ => rfl)) pa_nil))) pa_nil))))) pss_nil)
    (pss_cons (ps_if (pt_cmpR op_eq (pe_ix ix_tup (pv 0) pe_int (fun _ _ => rfl)) pe_str (nomark _)) (pss_one (ps_ret (pe_lst (pa_cons (pe_tup (pa_cons pe_int (pa_cons (pe_ix ix_tup (pv 0) pe_int (fun _ _ => rfl)) pa_nil))) (pa_cons (pe_tup (pa_cons pe_int (pa_cons (pe_ix ix_tup (pv 0) pe_int (fun _ _ => rfl)) pa_nil))) pa_nil))))) pss_nil)
    (pss_one (ps_ret (pe_lst (pa_cons (pe_tup (pa_cons pe_int (pa_cons (pe_ix ix_tup (pv 0) pe_int (fun _ _ => rfl)) pa_nil))) pa_nil))))))), ?_⟩
  obtain ⟨r0, hd⟩ := hA.head
  refine ⟨_, rfl, a, _, _, _, rfl, rfl, SqT.of hd, at0, rfl, _, rfl, ?_⟩
  cases p with
  | give j t => exact itT rfl (itT rfl ⟨sz (by show 0 ≤ 100000; decide), fun r hr => q r _ [] hr (same_new hr _) upd_same trivial⟩)
  | ask g ts j => exact itF rfl ⟨_, rfl, a, _, _, _, rfl, rfl, SqT.of hd, at0, rfl, _, rfl, itT rfl ⟨sz (by show 0 ≤ 100000; decide), fun r hr => q r _ [] hr (same_new hr _) upd_same trivial⟩⟩
  | post j x p p2 =>
    obtain ⟨c, d, h1, h2, h3⟩ := hA
    refine itF rfl ⟨_, rfl, a, _, _, _, rfl, rfl, SqT.of h1, at0, rfl, _, rfl, itF rfl ⟨_, rfl, a, _, _, _, rfl, rfl, SqT.of h1, at0, rfl, _, rfl, itT rfl ?_⟩⟩
    refine ⟨_, rfl, a, _, _, _, rfl, rfl, SqT.of h1, at3, sz (by show 2 ≤ 100000; decide), fun t1 ht1 => ?_⟩
    have s1 := same_new ht1 (.tup [.int 0, .ref c])
    refine ⟨_, rfl, a, _, _, _, rfl, rfl, SqT.of (s1 _ _ h1), at4, sz (by show 2 ≤ 100000; decide), fun t2 ht2 => ?_⟩
    have s2 := same_new ht2 (.tup [.int 1, .ref d])
    refine ⟨sz (by show 2 ≤ 100000; decide), fun r hr => ?_⟩
    have s3 := same_new hr (.lst [.ref t1, .ref t2])
    have s := s1.trans (s2.trans s3)
    exact q r _ _ ((s1.trans s2).free hr) s upd_same ⟨⟨t1, c, rfl, (s2.trans s3) _ _ upd_same, h2.tk (tk_same s)⟩, ⟨t2, d, rfl, s3 _ _ upd_same, h3.tk (tk_same s)⟩, trivial⟩
  | iff t p p2 =>
    obtain ⟨b, c, d, h1, h2, h3, h4⟩ := hA
    refine itF rfl ⟨_, rfl, a, _, _, _, rfl, rfl, SqT.of h1, at0, rfl, _, rfl, itF rfl ⟨_, rfl, a, _, _, _, rfl, rfl, SqT.of h1, at0, rfl, _, rfl, itF rfl ⟨_, rfl, a, _, _, _, rfl, rfl, SqT.of h1, at0, rfl, _, rfl, itT rfl ?_⟩⟩⟩
    refine ⟨_, rfl, a, _, _, _, rfl, rfl, SqT.of h1, at2, sz (by show 2 ≤ 100000; decide), fun t1 ht1 => ?_⟩
    have s1 := same_new ht1 (.tup [.int 1, .ref c])
    refine ⟨_, rfl, a, _, _, _, rfl, rfl, SqT.of (s1 _ _ h1), at3, sz (by show 2 ≤ 100000; decide), fun t2 ht2 => ?_⟩
    have s2 := same_new ht2 (.tup [.int 2, .ref d])
    refine ⟨sz (by show 2 ≤ 100000; decide), fun r hr => ?_⟩
    have s3 := same_new hr (.lst [.ref t1, .ref t2])
    have s := s1.trans (s2.trans s3)
    exact q r _ _ ((s1.trans s2).free hr) s upd_same ⟨⟨t1, c, rfl, (s2.trans s3) _ _ upd_same, h3.tk (tk_same s)⟩, ⟨t2, d, rfl, s3 _ _ upd_same, h4.tk (tk_same s)⟩, trivial⟩
  | tell x t p =>
    obtain ⟨b, c, h1, h2, h3⟩ := hA
    refine itF rfl ⟨_, rfl, a, _, _, _, rfl, rfl, SqT.of h1, at0, rfl, _, rfl, itF rfl ⟨_, rfl, a, _, _, _, rfl, rfl, SqT.of h1, at0, rfl, _, rfl, itF rfl ⟨_, rfl, a, _, _, _, rfl, rfl, SqT.of h1, at0, rfl, _, rfl, itF rfl ?_⟩⟩⟩
    refine ⟨_, rfl, a, _, _, _, rfl, rfl, SqT.of h1, at3, sz (by show 2 ≤ 100000; decide), fun t1 ht1 => ?_⟩
    have s1 := same_new ht1 (.tup [.int 1, .ref c])
    refine ⟨sz (by show 1 ≤ 100000; decide), fun r hr => ?_⟩
    have s3 := same_new hr (.lst [.ref t1])
    exact q r _ _ (s1.free hr) (s1.trans s3) upd_same ⟨⟨t1, c, rfl, s3 _ _ upd_same, h3.tk (tk_same (s1.trans s3))⟩, trivial⟩
  | lett x t p =>
    obtain ⟨b, c, h1, h2, h3⟩ := hA
    refine itF rfl ⟨_, rfl, a, _, _, _, rfl, rfl, SqT.of h1, at0, rfl, _, rfl, itF rfl ⟨_, rfl, a, _, _, _, rfl, rfl, SqT.of h1, at0, rfl, _, rfl, itF rfl ⟨_, rfl, a, _, _, _, rfl, rfl, SqT.of h1, at0, rfl, _, rfl, itF rfl ?_⟩⟩⟩
    refine ⟨_, rfl, a, _, _, _, rfl, rfl, SqT.of h1, at3, sz (by show 2 ≤ 100000; decide), fun t1 ht1 => ?_⟩
    have s1 := same_new ht1 (.tup [.int 1, .ref c])
    refine ⟨sz (by show 1 ≤ 100000; decide), fun r hr => ?_⟩
    have s3 := same_new hr (.lst [.ref t1])
    exact q r _ _ (s1.free hr) (s1.trans s3) upd_same ⟨⟨t1, c, rfl, s3 _ _ upd_same, h3.tk (tk_same (s1.trans s3))⟩, trivial⟩
/-! ### _law_all -/
def spLAll : Nat → Sp
  | 0 => fun _ _ _ _ => False
  | n + 1 => fun vs H Q _ => ∃ (a pl : Addr) (p : Pt) (pre : List V), vs = [.ref a, .ref pl] ∧ PAt H p a ∧ pcnt p ≤ n + 1 ∧ pcnt p ≤ 1000 ∧ H pl = some (.tup pre) ∧ pre.length + n ≤ 2000 ∧ ∀ r H' us, H r = none → Same H H' → H' r = some (.lst us) → All2 (EntV PAt H' pre) (allP p) us → Q (.ref r) H'
abbrev s_law_all : Stmt := top 54
theorem scLall : FnScope ["part", "place", "found", "number", "one"] ["part", "place"] (defScope s_law_all) := ⟨rfl, rfl, rfl, by decide +kernel, rfl, by decide +kernel, by decide +kernel⟩
theorem ok_lall (n : Nat) {f f1 : Addr} {fd d1 : FuncData} (F : Fun K "_law_all" "_law_all" s_law_all f fd) (G_law_kids : FnOk P w K mg base CX0 1 f1 d1 ["part"] spLKids) (R_law_kids : Ref K mg "_law_kids" f1 d1 ["part"])
    (G_law_all : FnOk P w K mg base CX0 (n + 1) f fd ["part", "place"] (spLAll n)) (R_law_all : Ref K mg "_law_all" f fd ["part", "place"]) : FnOk P w K mg base CX0 (n + 2) f fd ["part", "place"] (spLAll (n + 1)) := by
  refine F.ok scLall (fun vs H Q E h => ?_) (fun cdv A outer s H vs Q E hr h => ?_)
  · obtain ⟨a, pl, p, pre, rfl, _⟩ := h
    rfl
  obtain ⟨a, pl, p, pre, rfl, hA, hn, hk, hpl, hpr, q⟩ := h
  refine ⟨_, (pss_cons (ps_set (i := 2) scLall.nd rfl (Or.inl rfl) (pe_lst (pa_cons (pe_tup (pa_cons (pv 1) (pa_cons (pv 0) pa_nil))) pa_nil)))
    (pss_cons (ps_for PassesOwn.never rfl (pi_list (pe_call G_law_kids (hr.mono (by omega)) rfl R_law_kids.m R_law_kids.k R_law_kids.b .nil pass0 (pa_cons (pv 0) pa_nil))) (pg_tup rfl (pgs_cons (pg_name (i := 3) scLall.nd rfl (Or.inl rfl)) (pgs_cons (pg_name (i := 4) scLall.nd rfl (Or.inl rfl)) pgs_nil))) (pss_one (ps_set (i := 2) scLall.nd rfl (Or.inl rfl) (pe_op op_cat (pv 2) (pe_call G_law_all (hr.mono (by omega)) rfl R_law_all.m R_law_all.k R_law_all.b .nil pass0 (pa_cons (pv 4) (pa_cons (pe_op op_catA (pv 1) (pe_tup (pa_cons (pv 3) pa_nil))) pa_nil)))))))
    (pss_one (ps_ret (pv 2))))), ?_⟩
  refine ⟨_, rfl, _, rfl, sz (by show 2 ≤ 100000; decide), fun t0 ht0 => ?_⟩
  have s1 := same_new ht0 (.tup [.ref pl, .ref a])
  refine ⟨sz (by show 1 ≤ 100000; decide), fun fl0 hfl0 => ?_⟩
  have s2 := same_new hfl0 (.lst [.ref t0])
  have s12 := s1.trans s2
  refine ⟨_, rfl, a, p, rfl, hA.tk (tk_same s12), fun kl H1 ks hkl s3 hk1 kk1 => ?_⟩
  have s13 := s12.trans s3
  have hlk := kk1.len
  refine ⟨kl, rfl, ⟨_, SqL.of hk1⟩, for_list (K := K) (a := kl) (xs := ks) (fun i σ H' => ∃ fl fv o3 o4, σ = [some (.ref a), some (.ref pl), some (.ref fl), o3, o4] ∧ H fl = none ∧ Same H1 H' ∧ H' fl = some (.lst fv) ∧ All2 (EntV PAt H' pre) (([], p) :: allK ((lkids p).take i)) fv) ?_ ?_ ?_ ?_⟩
  · refine ⟨fl0, [.ref t0], none, none, rfl, s1.free hfl0, Same.refl _, s3 _ _ upd_same, ?_⟩
    rw [List.take_zero]
    refine ⟨⟨t0, pl, a, rfl, s3 _ _ (s2 _ _ upd_same), ?_, hA.tk (tk_same s13)⟩, trivial⟩
    rw [List.map_nil, List.append_nil]
    exact s13 _ _ hpl
  · rintro i σ H' _ ⟨fl, fv, o3, o4, rfl, _, s4, _⟩
    exact SqL.of (s4 _ _ hk1)
  · rintro i x σ H2 hx ⟨fl, fv, o3, o4, rfl, hf0, s4, hf, kf⟩
    obtain ⟨k, hk', qa, b, rfl, g1, g2⟩ := kk1.get hx
    have hkm := mem_of_get hk'
    have hkc := lk_cnt hkm
    refine ⟨qa, _, rfl, SqT.of (s4 _ _ g1), rfl, _, _, rfl, _, _, rfl, rfl, ?_⟩
    have sH2 := s13.trans s4
    refine ⟨_, rfl, _, rfl, _, rfl, _, rfl, sz (by show 1 ≤ 100000; decide), fun t1 ht1 => ?_⟩
    have s5 := same_new ht1 (.tup [.int k.1])
    refine catA_of (s5 _ _ (sH2 _ _ hpl)) upd_same (by show pre.length + 1 ≤ 100000; omega) fun t2 H3 s6 g3 => ?_
    have s56 := s5.trans s6
    cases n with
    | zero => have := pc_pos k.2; omega
    | succ n =>
      refine ⟨b, t2, k.2, _, rfl, (g2.tk (tk_same s4)).tk (tk_same s56), by omega, by omega, g3, by rw [List.length_append, List.length_singleton]; omega, fun r H4 us hr4 s7 g4 k4 => ?_⟩
      have s57 := s56.trans s7
      have e1 := kf.len
      have e2 := k4.len
      rw [allP_len] at e2
      have e3 : (([], p) :: allK ((lkids p).take i)).length ≤ 1000 := by
        rw [List.length_cons, allK_len]
        have := kcnt_take (lkids p) i
        have := kcnt_lk p
        omega
      refine ⟨fl, r, _, _, rfl, rfl, s57 _ _ hf, g4, sz (by omega), fun p5 hp5 => ?_⟩
      have s8 := same_new hp5 (.lst (fv ++ us))
      refine ⟨p5, fv ++ us, _, _, rfl, ?_, s4.trans (s57.trans s8), upd_same, ?_⟩
      · exact (sH2.trans s57).free hp5
      · rw [allK_take hk']
        exact All2.app (as := ([], p) :: allK ((lkids p).take i)) (kf.imp fun _ _ z => EntV.tkP (tk_same (s57.trans s8)) z) (All2.map (f := fun (e : List Int × Pt) => (k.1 :: e.1, e.2)) (k4.imp fun _ _ z => EntV.tkP (tk_same s8) (EntV.deep z)))
  · rintro σ H2 ⟨fl, fv, o3, o4, rfl, hf0, s4, hf, kf⟩
    refine ⟨_, rfl, ?_⟩
    rw [hlk, List.take_length, ← allP_mk] at kf
    exact q fl H2 fv hf0 (s13.trans s4) hf kf
theorem all_lall {f f1 : Addr} {fd d1 : FuncData} (F : Fun K "_law_all" "_law_all" s_law_all f fd) (G_law_kids : FnOk P w K mg base CX0 1 f1 d1 ["part"] spLKids) (R_law_kids : Ref K mg "_law_kids" f1 d1 ["part"]) (R_law_all : Ref K mg "_law_all" f fd ["part", "place"]) : ∀ n : Nat, FnOk P w K mg base CX0 (n + 1) f fd ["part", "place"] (spLAll n)
  | 0 => no_sp
  | n + 1 => ok_lall n F G_law_kids R_law_kids (all_lall F G_law_kids R_law_kids R_law_all n) R_law_all
/-! ### _law_ends -/
/-! ### _law_is_idle -/
/-! ### _law_all_of -/
end
end KB

namespace KB
open PySem PySem.Spec PyProof.Rows L2 LamX NdefX

/-! ### what stays where tables of code objects may grow -/
def Sx (H H' : Hp) : Prop := ExtN H H' ∧ ∀ b, H' b = none → H b = none
theorem Sx.refl (H : Hp) : Sx H H := ⟨ExtN.refl H, fun _ z => z⟩
theorem Sx.trans {H H1 H2 : Hp} (a : Sx H H1) (b : Sx H1 H2) : Sx H H2 := ⟨a.1.trans b.1, fun x z => a.2 x (b.2 x z)⟩
theorem Sx.free {H H' : Hp} (s : Sx H H') {b : Addr} (z : H' b = none) : H b = none := s.2 b z
theorem Sx.at_ {H H' : Hp} (s : Sx H H') {b : Addr} {o : HO} (h : H b = some o) (n : ∀ ps, o ≠ .tbl ps) : H' b = some o := s.1 b o h n
theorem Sx.t {H H' : Hp} (s : Sx H H') {b : Addr} {xs : List V} (h : H b = some (.tup xs)) : H' b = some (.tup xs) := s.1 b _ h fun _ z => nomatch z
theorem Sx.l {H H' : Hp} (s : Sx H H') {b : Addr} {xs : List V} (h : H b = some (.lst xs)) : H' b = some (.lst xs) := s.1 b _ h fun _ z => nomatch z
theorem Sx.d {H H' : Hp} (s : Sx H H') {b : Addr} {kvs : List (Key × V)} (h : H b = some (.dK kvs)) : H' b = some (.dK kvs) := s.1 b _ h fun _ z => nomatch z
theorem Sx.tk {H H' : Hp} (s : Sx H H') : TK H H' := fun _ _ h => s.t h
theorem Sx.code {H H' : Hp} (s : Sx H H') {c : Addr} {q : Str} (h : H c = some (CodeO c q)) : H' c = some (CodeO c q) := s.1 c _ h codeO_ne
theorem sx_same {H H' : Hp} (s : Same H H') : Sx H H' := ⟨fun b o h _ => s b o h, fun b z => s.free z⟩
theorem tabs_new {T : List (Addr × Str)} {H H' : Hp} (t : Tabs T H) (s : Same H H') : Tabs T H' := t.ext fun b o h => s b o h
/-- nothing that is a table is written -/
theorem tabs_mut {T : List (Addr × Str)} {H : Hp} (t : Tabs T H) {a : Addr} {xs : List V} (h : H a = some (.lst xs)) (o : HO) : Tabs T (upd H a o) := fun p hp => by
  obtain ⟨ps, h1, h2, h3⟩ := t p hp
  refine ⟨ps, by rw [upd_ne (ne_of h1 h (fun z => nomatch z))]; exact h1, h2, fun pos cv hc => ?_⟩
  obtain ⟨c, e1, e2⟩ := h3 pos cv hc
  refine ⟨c, e1, ?_⟩
  rw [upd_ne (ne_of e2 h (fun z => by unfold CodeO at z; cases z))]
  exact e2
/-! ### a lambda with parameters -/
/-- its words, the cells that it captured, its code object -/
structure LF where
  qual : Str
  pr : Arguments
  bd : Expr
  sc : Scope
  cl : List (Str × Addr)
  c : Addr
abbrev LF.obj (F : LF) (pm ctv : Value) : Obj := PySem.W.kla_obj "<lambda>" F.qual F.pr F.bd F.sc F.cl pm F.c ctv
def LamO (f : Addr) (F : LF) : HO := .ext fun h => ∃ pm ctv : Value, h.get? f = some (F.obj pm ctv)
theorem lamO_ne {f : Addr} {F : LF} (ps : Array Value) : LamO f F ≠ .tbl ps := fun z => by
  unfold LamO at z
  cases z
/-- what is known of a lambda at f -/
def Kn (f : Addr) (F : LF) (H : Hp) : Prop := H f = some (LamO f F) ∧ H F.c = some (CodeO F.c F.qual)
theorem Kn.sx {f : Addr} {F : LF} {H H' : Hp} (s : Sx H H') (k : Kn f F H) : Kn f F H' := ⟨s.1 f _ k.1 lamO_ne, s.code k.2⟩
section
variable {X : Cx} {pins : List (Addr × Obj)} {σ : L2.St} {H : Hp} {s : Shared}
end
section
variable {X : Cx} {pins : List (Addr × Obj)} {σ : L2.St} {H : Hp} {s : Shared}
end
/-! ### a parameter that holds a lambda, called -/
/-! ### a def that is handed a lambda -/
end KB

namespace KB
open PySem L2 HT

theorem All2.take {α : Type} {S : α → V → Prop} : ∀ {as : List α} {vs : List V} (n : Nat), All2 S as vs → All2 S (as.take n) (vs.take n)
  | _, _, 0, _ => trivial
  | [], [], _ + 1, _ => trivial
  | a :: as, v :: vs, n + 1, h => ⟨h.1, All2.take n h.2⟩
  | [], _ :: _, _ + 1, h => h.elim
  | _ :: _, [], _ + 1, h => h.elim
/-! ### remade as a machine of data -/
section
variable {N B : Type} (R : Tre N) (g : N → List B → B) (F : N → B)
end
section
variable {P : Program} {w : World} {K : PySem.W.Frag} {mg : Str → Option Value} {base : Heap} {N B : Type}
def WtV (R : Tre N) (H : Hp) (e : N × Bool) (v : V) : Prop := ∃ q a, v = .ref q ∧ H q = some (.tup [.ref a, .bl e.2]) ∧ R.A H e.1 a
theorem WtV.tk {R : Tre N} {H H' : Hp} (k : TK H H') {e : N × Bool} {v : V} (h : WtV R H e v) : WtV R H' e v := let ⟨q, a, e1, h1, h2⟩ := h; ⟨q, a, e1, k _ _ h1, R.tk k h2⟩
end
end KB

namespace KB
open PySem L2 HT
open PySem.Sem (wp)
open RZ (nextOf_tuple_item nextOf_tuple_end)

/-! ### dict(zip(xs, ys)) of two tuples: the pair that was given out stands still -/
section
variable {prog : Program} {w : World} {A : Around} {E : Value → Shared → Prop} {s : Shared}
structure ZT (h : Heap) (z TI i1 i2 l1 l2 : Addr) (xs ys : Array Value) (k : Nat) : Prop where
  pr : IsPair h TI (.ref i1) (.ref i2)
  a1 : h.IsTupleIter i1 l1 k
  a2 : h.IsTupleIter i2 l2 k
  t1 : h.IsTuple l1 xs
  t2 : h.IsTuple l2 ys
theorem ZT.at {h h' : Heap} {z TI i1 i2 l1 l2 : Addr} {xs ys : Array Value} {k : Nat} (x : ZT h z TI i1 i2 l1 l2 xs ys k) (e : ∀ c, c = TI ∨ c = i1 ∨ c = i2 ∨ c = l1 ∨ c = l2 → ∀ o, h.get? c = some o → h'.get? c = some o) :
    ZT h' z TI i1 i2 l1 l2 xs ys k :=
  ⟨e _ (by simp) _ x.pr, x.a1.at fun o => e _ (by simp) o, x.a2.at fun o => e _ (by simp) o, x.t1.at fun o => e _ (by simp) o, x.t2.at fun o => e _ (by simp) o⟩
end
end KB

namespace KB
open PySem PySem.Spec PyProof.Rows L2 LamX

/-! ### the end of a law that writes out and makes lambdas: tables of code objects, and no repr under way -/
section
variable {P : Program} {w : World} {K : PySem.W.Frag} {mg mb : Str → Option Value} {k : Nat} {fa a : Addr} {cs : List (Addr × Addr)} {fd : FuncData} {x : Str} {sp : Sp} {s : Shared} {vs : List Value} {ns : List Int}
/-- what the head knows of the tables -/
structure HeadT (K : PySem.W.Frag) (mg : Str → Option Value) (h : Heap) (cs : List (Addr × Addr)) : Prop where
  empty : ∀ p ∈ cs, h.get? p.2 = some { cls := .none, data := .fields #[] }
  own : ∀ p ∈ cs, K.lookup p.2 = none
  code : ∀ p ∈ cs, PySem.W.CodeHd h p.1 p.2
  blt : ∃ (bm : Addr) (ob : Obj), mg "__builtins__" = some (.ref bm) ∧ bm ≠ builtinsNs ∧ h.get? bm = some ob ∧ ob.cls = .type "module" ∧ ob.dict = some builtinsNs ∧ ob.data = .plain
theorem HeadT.at_ {h : Heap} (T : HeadT K mg h cs) {b : Addr} (m : b ∈ cs.map (·.2)) : h.get? b = some { cls := .none, data := .fields #[] } ∧ K.lookup b = none := by
  obtain ⟨p, hp, rfl⟩ := List.mem_map.mp m
  exact ⟨T.empty p hp, T.own p hp⟩
end
end KB

namespace KB
open PySem L2

/-! ### the number of a simple term -/
abbrev Env := Str → Option Int
def evH (env : Env) : Hd → List Int → Int
  | .num z, _ => z
  | .nam x, _ => (env x).getD 0
  | .plus, l => Int.fmod (l.getD 0 0 + l.getD 1 0) 1000
  | .less, l => Int.fmod (l.getD 0 0 - l.getD 1 0) 1000
  | _, _ => 0
def evS (env : Env) : Tm → Int
  | .mk h _ k => evH env h (List.ofFn fun i => evS env (k i))
/-- each name of a simple term has its number -/
def hasN (env : Env) : Tm → Prop
  | .mk h _ k => (match h with | .nam x => ∃ z, env x = some z | _ => True) ∧ ∀ i, hasN env (k i)
section
variable {P : Program} {w : World} {K : PySem.W.Frag} {mg : Str → Option Value} {base : Heap}
end
end KB

namespace KB
open PySem L2

/-! ### what a run wants of parts -/
/-- simple, its names within these -/
structure RTm (xs : List Str) (t : Tm) : Prop where
  ok : okT t
  si : simple t = true
  n : ∀ env : Env, (∀ x ∈ xs, ∃ z, env x = some z) → hasN env t
  cn : cnt t ≤ 200
  ht : HtLe 64 t
def rP (hd : Str → Option Nat) : Pt → List Str → List Str → Prop
  | .give j t, xs, hs => j ∈ hs ∧ RTm xs t
  | .ask f ts j, xs, hs => j ∈ hs ∧ isW f = true ∧ hd f = some ts.length ∧ ts.length ≤ 4 ∧ ∀ t ∈ ts, RTm xs t
  | .tell x t p, xs, hs => isW x = true ∧ RTm xs t ∧ rP hd p (xs ++ [x]) hs
  | .lett x t p, xs, hs => isW x = true ∧ RTm xs t ∧ rP hd p (xs ++ [x]) hs
  | .iff t p q, xs, hs => RTm xs t ∧ rP hd p xs hs ∧ rP hd q xs hs
  | .post j x p q, xs, hs => isW j = true ∧ isW x = true ∧ rP hd p (xs ++ [x]) hs ∧ rP hd q xs (hs ++ [j])
structure RTE (hF : Str → Option Nat) (e : TEr) : Prop where
  w : isW e.1 = true
  ws : ∀ x ∈ e.2.1, isW x = true
  n4 : e.2.1.length ≤ 5
  ok : rP hF e.2.2 e.2.1 ["home"]
  cn : pcnt e.2.2 ≤ 900
  hf : hF e.1 = some e.2.1.length
  nd : e.2.1.Nodup
theorem hasN_of {hd : Str → Option Nat} {env : Env} : ∀ {t : Tm} {xs : List Str}, simple t = true → okS hd t xs → (∀ x ∈ xs, ∃ z, env x = some z) → hasN env t := by
  intro t
  induction t with
  | mk h n k ih =>
    intro xs hs ho he
    obtain ⟨hf, hk⟩ := simple_mk hs
    obtain ⟨o1, o2⟩ := ho
    refine ⟨?_, fun i => ih i (hk i) ?_ he⟩
    · cases h with
      | nam x => exact he x o1
      | _ => exact trivial
    · have e := o2 i
      cases h with
      | lett x => exact absurd hf Bool.false_ne_true
      | _ => exact e
theorem SmT.rtm {hd : Str → Option Nat} {xs : List Str} {t : Tm} (h : SmT hd xs t) : RTm xs t := ⟨h.ok, h.si, fun env he => hasN_of h.si h.sc he, Nat.le_trans h.cn (by decide), h.ht.le (by decide)⟩
theorem rP_of {hd : Str → Option Nat} : ∀ {p : Pt} {xs js : List Str}, okP hd p xs js → rP hd p xs js
  | .give _ _, _, _, h => ⟨h.1, h.2.rtm⟩
  | .ask _ _ _, _, _, h => ⟨h.1, h.2.1, h.2.2.1, h.2.2.2.1, fun t ht => (h.2.2.2.2 t ht).rtm⟩
  | .tell _ _ _, _, _, h => ⟨h.1, h.2.1.rtm, rP_of h.2.2⟩
  | .lett _ _ _, _, _, h => ⟨h.1, h.2.1.rtm, rP_of h.2.2⟩
  | .iff _ _ _, _, _, h => ⟨h.1.rtm, rP_of h.2.1, rP_of h.2.2⟩
  | .post _ _ _ _, _, _, h => ⟨h.1, h.2.1, rP_of h.2.2.1, rP_of h.2.2.2⟩
theorem GdTE.rt {hd : Str → Option Nat} {e : TEr} (g : GdTE hd e) : RTE hd e := ⟨g.w, g.ws, Nat.le_trans g.n4 (by decide), rP_of g.ok, Nat.le_trans g.cn (by decide), g.hf, (List.nodup_append.mp g.un).1⟩

/-! ### a turned run as a machine of data; wt and lim are for its end alone -/
inductive Ev | ask (f : Str) (ns : List Int) | tell (z : Int)
inductive Fe | no | done (z : Int) | long
/-- a hand-on that was made: its word, T, what was around it (hand-ons by number, 0 the end), how high it is -/
structure HR where
  x : Str
  T : Pt
  env : Env
  hs : Str → Option Nat
  h : Int
  wt : Nat
structure CT where
  most : Nat
  asked : Nat
  trail : List Ev
  fin : Fe
  deepest : Int
  made : Int
  part : Pt
  env : Env
  hs : Str → Option Nat
  tab : List HR
  lim : Nat
def setE (env : Env) (x : Str) (z : Int) : Env := fun y => if y = x then some z else env y
def setH (hs : Str → Option Nat) (j : Str) (i : Nat) : Str → Option Nat := fun y => if y = j then some i else hs y
def envOf : List Str → List Int → Env
  | x :: xs, n :: ns => fun y => if y = x then some n else envOf xs ns y
  | _, _ => fun _ => none
def wtAt (tab : List HR) : Nat → Nat
  | 0 => 0
  | k + 1 => (tab[k]?.map (·.wt)).getD 0
def hiAt (tab : List HR) : Nat → Int
  | 0 => 0
  | k + 1 => (tab[k]?.map (·.h)).getD 0
def hAt (hs : Str → Option Nat) (j : Str) : Nat := (hs j).getD 0
def askT (es : List TEr) (c : CT) (f : Str) (ns : List Int) (i : Nat) : CT :=
  if c.asked = c.most then { c with fin := .long } else
  match es.find? (fun e => decide (e.1 = f)) with
  | none => c
  | some e => { c with asked := c.asked + 1, trail := c.trail ++ [.ask f ns], deepest := max c.deepest (hiAt c.tab i), part := e.2.2, env := envOf e.2.1 ns, hs := fun y => if y = "home" then some i else none }
def stepT (es : List TEr) (c : CT) : CT :=
  match c.part with
  | .give j t =>
    match hAt c.hs j with
    | 0 => { c with fin := .done (evS c.env t) }
    | k + 1 =>
      match c.tab[k]? with
      | none => c
      | some r => { c with part := r.T, env := setE r.env r.x (evS c.env t), hs := r.hs, lim := r.wt - pcnt r.T }
  | .ask f ts j => askT es c f (ts.map (evS c.env)) (hAt c.hs j)
  | .tell x t p => { c with trail := c.trail ++ [.tell (evS c.env t)], env := setE c.env x (evS c.env t), part := p }
  | .lett x t p => { c with env := setE c.env x (evS c.env t), part := p }
  | .iff t p q => { c with part := if evS c.env t = 0 then q else p }
  | .post j x p q => { c with made := c.made + 1, tab := c.tab ++ [⟨x, p, c.env, c.hs, hiAt c.tab (hAt c.hs "home") + 1, pcnt p + c.lim⟩], hs := setH c.hs j (c.tab.length + 1), part := q, lim := pcnt p + c.lim }

/-! ### what holds all along -/
def fU : Fe → Nat
  | .no => 1
  | _ => 0
def muB (B : Nat) (c : CT) : Nat := (c.most - c.asked) * B + (pcnt c.part + c.lim) + fU c.fin
def muT (c : CT) : Nat := muB 1000 c
theorem pcnt_pos (p : Pt) : 1 ≤ pcnt p := by
  cases p <;> unfold pcnt <;> omega
/-- words and hand-ons are around, up to so many hand-ons -/
structure InE (hd : Str → Option Nat) (tab : List HR) (n : Nat) (p : Pt) (env : Env) (hs : Str → Option Nat) (xs js : List Str) (lim : Nat) : Prop where
  ok : rP hd p xs js
  e : ∀ x ∈ xs, ∃ z, env x = some z
  h : ∀ j ∈ js, ∃ i, hs j = some i
  b : ∀ j i, hs j = some i → i ≤ n ∧ wtAt tab i ≤ lim
  m : ("home" : Str) ∈ js
structure RecOk (hd : Str → Option Nat) (tab : List HR) (k : Nat) (r : HR) : Prop where
  sc : ∃ xs js, InE hd tab k r.T (setE r.env r.x 0) r.hs (xs ++ [r.x]) js (r.wt - pcnt r.T)
  w : pcnt r.T ≤ r.wt
structure WfT (es : List TEr) (hd : Str → Option Nat) (c : CT) : Prop where
  go : c.fin = .no
  as_ : c.asked ≤ c.most
  at_ : ∃ xs js, InE hd c.tab c.tab.length c.part c.env c.hs xs js c.lim
  tb : ∀ (k : Nat) (r : HR), c.tab[k]? = some r → RecOk hd c.tab k r
structure TEsOk (es : List TEr) (hd : Str → Option Nat) : Prop where
  er : ∀ e ∈ es, RTE hd e
  dom : ∀ f n, hd f = some n → f ∈ es.map (·.1)
theorem TEsOk.found {es : List TEr} {hd : Str → Option Nat} (E : TEsOk es hd) {f : Str} {n : Nat} (h : hd f = some n) : ∃ e, es.find? (fun e => decide (e.1 = f)) = some e ∧ e ∈ es ∧ e.1 = f ∧ e.2.1.length = n := by
  obtain ⟨e0, h0, h1⟩ := List.mem_map.mp (E.dom f n h)
  cases hf : es.find? (fun e => decide (e.1 = f)) with
  | none => exact absurd (decide_eq_true h1) (List.find?_eq_none.mp hf e0 h0)
  | some e =>
    have hm := List.mem_of_find?_eq_some hf
    have he : e.1 = f := of_decide_eq_true (List.find?_some (p := fun e : TEr => decide (e.1 = f)) hf)
    have g := (E.er e hm).hf
    rw [he, h] at g
    exact ⟨e, rfl, hm, he, (Option.some.inj g).symm⟩
theorem envOf_some : ∀ {xs : List Str} {ns : List Int} {x : Str}, xs.length = ns.length → x ∈ xs → ∃ z, envOf xs ns x = some z
  | [], _, _, _, h => by cases h
  | _ :: _, [], _, h, _ => by simp at h
  | y :: ys, n :: ns, x, hl, h => by
    by_cases c : x = y
    · exact ⟨n, if_pos c⟩
    · obtain ⟨z, hz⟩ := envOf_some (xs := ys) (ns := ns) (by simpa using hl) (by
        rcases List.mem_cons.mp h with q | q
        · exact absurd q c
        · exact q)
      exact ⟨z, (if_neg c).trans hz⟩
theorem wtAt_app {tab : List HR} {r : HR} {i : Nat} (h : i ≤ tab.length) : wtAt (tab ++ [r]) i = wtAt tab i := by
  cases i with
  | zero => rfl
  | succ k =>
    show (((tab ++ [r])[k]?).map (·.wt)).getD 0 = ((tab[k]?).map (·.wt)).getD 0
    rw [List.getElem?_append_left (by omega)]
theorem wtAt_last {tab : List HR} {r : HR} : wtAt (tab ++ [r]) (tab.length + 1) = r.wt := by
  show (((tab ++ [r])[tab.length]?).map (·.wt)).getD 0 = r.wt
  rw [List.getElem?_append_right (Nat.le_refl _), Nat.sub_self]
  rfl
theorem InE.app {hd : Str → Option Nat} {tab : List HR} {r : HR} {n : Nat} {p : Pt} {env : Env} {hs : Str → Option Nat} {xs js : List Str} {lim : Nat} (I : InE hd tab n p env hs xs js lim) (hn : n ≤ tab.length) : InE hd (tab ++ [r]) n p env hs xs js lim :=
  ⟨I.ok, I.e, I.h, fun j i e => let ⟨a, b⟩ := I.b j i e; ⟨a, by rw [wtAt_app (by omega)]; exact b⟩, I.m⟩
theorem setE_some {env : Env} {xs : List Str} {x : Str} {z : Int} (h : ∀ y ∈ xs, ∃ z, env y = some z) : ∀ y ∈ xs ++ [x], ∃ w, setE env x z y = some w := by
  intro y hy
  unfold setE
  by_cases c : y = x
  · exact ⟨z, if_pos c⟩
  · rw [if_neg c]
    rcases List.mem_append.mp hy with q | q
    · exact h y q
    · exact absurd (List.mem_singleton.mp q) c
/-- one step keeps it, and something falls -/
theorem wf_stepB {es : List TEr} {hd : Str → Option Nat} (E : TEsOk es hd) {B : Nat} (hB : ∀ e ∈ es, pcnt e.2.2 < B) {c : CT} (w : WfT es hd c) : (WfT es hd (stepT es c) ∨ (stepT es c).fin ≠ .no) ∧ muB B (stepT es c) < muB B c := by
  obtain ⟨xs, js, I⟩ := w.at_
  have hgo := w.go
  have ok := I.ok
  cases hp : c.part with
  | give j t =>
    rw [hp] at ok
    obtain ⟨i, hi⟩ := I.h j ok.1
    have hA : hAt c.hs j = i := by
      unfold hAt
      rw [hi]
      rfl
    obtain ⟨bi, bw⟩ := I.b j i hi
    cases i with
    | zero =>
      have eS : stepT es c = { c with fin := .done (evS c.env t) } := by
        unfold stepT
        rw [hp]
        show (match hAt c.hs j with | 0 => _ | k + 1 => _) = _
        rw [hA]
      rw [eS]
      refine ⟨.inr (fun z => by cases z), ?_⟩
      unfold muB
      rw [hgo]
      show (c.most - c.asked) * B + (pcnt c.part + c.lim) + 0 < (c.most - c.asked) * B + (pcnt c.part + c.lim) + 1
      omega
    | succ k =>
      have hk : k < c.tab.length := by omega
      have hr : c.tab[k]? = some c.tab[k] := List.getElem?_eq_getElem hk
      generalize c.tab[k] = r at hr
      have R := w.tb k r hr
      have hw : wtAt c.tab (k + 1) = r.wt := by
        show ((c.tab[k]?).map (·.wt)).getD 0 = r.wt
        rw [hr]
        rfl
      rw [hw] at bw
      have eS : stepT es c = { c with part := r.T, env := setE r.env r.x (evS c.env t), hs := r.hs, lim := r.wt - pcnt r.T } := by
        unfold stepT
        rw [hp]
        show (match hAt c.hs j with | 0 => _ | k + 1 => _) = _
        rw [hA]
        show (match c.tab[k]? with | none => c | some r => _) = _
        rw [hr]
      rw [eS]
      obtain ⟨xs', js', J⟩ := R.sc
      refine ⟨.inl ⟨hgo, w.as_, ⟨xs' ++ [r.x], js', J.ok, ?_, J.h, fun j i e => let ⟨a, b⟩ := J.b j i e; ⟨by show i ≤ c.tab.length; omega, b⟩, J.m⟩, w.tb⟩, ?_⟩
      · intro y hy
        obtain ⟨z, hz⟩ := J.e y hy
        show ∃ z, setE r.env r.x (evS c.env t) y = some z
        unfold setE at hz ⊢
        by_cases q : y = r.x
        · exact ⟨_, if_pos q⟩
        · rw [if_neg q] at hz ⊢
          exact ⟨z, hz⟩
      · have h1 := R.w
        unfold muB
        rw [hp]
        show (c.most - c.asked) * B + (pcnt r.T + (r.wt - pcnt r.T)) + fU c.fin < (c.most - c.asked) * B + (1 + c.lim) + fU c.fin
        omega
  | ask f ts j =>
    rw [hp] at ok
    obtain ⟨i, hi⟩ := I.h j ok.1
    have hA : hAt c.hs j = i := by
      unfold hAt
      rw [hi]
      rfl
    obtain ⟨bi, bw⟩ := I.b j i hi
    have eS : stepT es c = askT es c f (ts.map (evS c.env)) (hAt c.hs j) := by
      unfold stepT
      rw [hp]
    rw [eS, hA]
    obtain ⟨e, f1, f2, f3, f4⟩ := E.found ok.2.2.1
    have ge := E.er e f2
    unfold askT
    by_cases ha : c.asked = c.most
    · rw [if_pos ha]
      refine ⟨.inr (fun z => by cases z), ?_⟩
      unfold muB
      rw [hgo]
      show (c.most - c.asked) * B + (pcnt c.part + c.lim) + 0 < (c.most - c.asked) * B + (pcnt c.part + c.lim) + 1
      omega
    · rw [if_neg ha, f1]
      have has := w.as_
      refine ⟨.inl ⟨hgo, by show c.asked + 1 ≤ c.most; omega, ⟨e.2.1, ["home"], ge.ok, fun x hx => envOf_some (by rw [f4, List.length_map]) hx, fun y hy => ⟨i, if_pos (List.mem_singleton.mp hy)⟩, fun y i2 h2 => ?_, List.mem_cons_self⟩, w.tb⟩, ?_⟩
      · have h2 : (if y = "home" then some i else none) = some i2 := h2
        by_cases q : y = "home"
        · rw [if_pos q] at h2
          cases h2
          exact ⟨bi, bw⟩
        · rw [if_neg q] at h2
          cases h2
      · have hc := hB e f2
        have hmul : (c.most - c.asked) * B = (c.most - (c.asked + 1)) * B + B := by
          have e1 : c.most - c.asked = (c.most - (c.asked + 1)) + 1 := by omega
          rw [e1, Nat.succ_mul]
        have hpp := pcnt_pos c.part
        unfold muB
        show (c.most - (c.asked + 1)) * B + (pcnt e.2.2 + c.lim) + fU c.fin < (c.most - c.asked) * B + (pcnt c.part + c.lim) + fU c.fin
        omega
  | tell x t p =>
    rw [hp] at ok
    have eS : stepT es c = { c with trail := c.trail ++ [.tell (evS c.env t)], env := setE c.env x (evS c.env t), part := p } := by
      unfold stepT
      rw [hp]
    rw [eS]
    refine ⟨.inl ⟨hgo, w.as_, ⟨xs ++ [x], js, ok.2.2, setE_some I.e, I.h, I.b, I.m⟩, w.tb⟩, ?_⟩
    unfold muB
    rw [hp]
    show (c.most - c.asked) * B + (pcnt p + c.lim) + fU c.fin < (c.most - c.asked) * B + (1 + pcnt p + c.lim) + fU c.fin
    omega
  | lett x t p =>
    rw [hp] at ok
    have eS : stepT es c = { c with env := setE c.env x (evS c.env t), part := p } := by
      unfold stepT
      rw [hp]
    rw [eS]
    refine ⟨.inl ⟨hgo, w.as_, ⟨xs ++ [x], js, ok.2.2, setE_some I.e, I.h, I.b, I.m⟩, w.tb⟩, ?_⟩
    unfold muB
    rw [hp]
    show (c.most - c.asked) * B + (pcnt p + c.lim) + fU c.fin < (c.most - c.asked) * B + (1 + pcnt p + c.lim) + fU c.fin
    omega
  | iff t p q =>
    rw [hp] at ok
    have eS : stepT es c = { c with part := if evS c.env t = 0 then q else p } := by
      unfold stepT
      rw [hp]
    rw [eS]
    refine ⟨.inl ⟨hgo, w.as_, ⟨xs, js, ?_, I.e, I.h, I.b, I.m⟩, w.tb⟩, ?_⟩
    · show rP hd (if evS c.env t = 0 then q else p) xs js
      split
      · exact ok.2.2
      · exact ok.2.1
    · unfold muB
      rw [hp]
      show (c.most - c.asked) * B + (pcnt (if evS c.env t = 0 then q else p) + c.lim) + fU c.fin < (c.most - c.asked) * B + (1 + pcnt p + pcnt q + c.lim) + fU c.fin
      split <;> omega
  | post j x p q =>
    rw [hp] at ok
    have eS : stepT es c = { c with made := c.made + 1, tab := c.tab ++ [⟨x, p, c.env, c.hs, hiAt c.tab (hAt c.hs "home") + 1, pcnt p + c.lim⟩], hs := setH c.hs j (c.tab.length + 1), part := q, lim := pcnt p + c.lim } := by
      unfold stepT
      rw [hp]
    rw [eS]
    refine ⟨.inl ⟨hgo, w.as_, ⟨xs, js ++ [j], ok.2.2.2, I.e, ?_, ?_, List.mem_append_left _ I.m⟩, ?_⟩, ?_⟩
    · intro y hy
      show ∃ i, setH c.hs j (c.tab.length + 1) y = some i
      unfold setH
      by_cases e : y = j
      · exact ⟨_, if_pos e⟩
      · rw [if_neg e]
        rcases List.mem_append.mp hy with z | z
        · exact I.h y z
        · exact absurd (List.mem_singleton.mp z) e
    · intro y i hi
      have hi : (if y = j then some (c.tab.length + 1) else c.hs y) = some i := hi
      show i ≤ (c.tab ++ [_]).length ∧ wtAt (c.tab ++ [_]) i ≤ pcnt p + c.lim
      rw [List.length_append]
      by_cases e : y = j
      · rw [if_pos e] at hi
        cases hi
        refine ⟨Nat.le_refl _, ?_⟩
        rw [wtAt_last]
        exact Nat.le_refl _
      · rw [if_neg e] at hi
        obtain ⟨a, b⟩ := I.b y i hi
        refine ⟨by omega, ?_⟩
        rw [wtAt_app a]
        omega
    · intro k r hk
      by_cases hlt : k < c.tab.length
      · have hk : (c.tab ++ [_])[k]? = some r := hk
        rw [List.getElem?_append_left hlt] at hk
        have R := w.tb k r hk
        obtain ⟨xs', js', J⟩ := R.sc
        exact ⟨⟨xs', js', J.app (by omega)⟩, R.w⟩
      · have hk : (c.tab ++ [_])[k]? = some r := hk
        have hlen := (List.getElem?_eq_some_iff.mp hk).1
        rw [List.length_append, List.length_singleton] at hlen
        have hk2 : k = c.tab.length := by omega
        subst hk2
        rw [List.getElem?_append_right (Nat.le_refl _), Nat.sub_self] at hk
        have hr := (Option.some.inj hk).symm
        subst hr
        refine ⟨⟨xs, js, (InE.mk ok.2.2.1 (setE_some I.e) I.h (fun y i e => ?_) I.m : InE hd c.tab c.tab.length p _ _ _ _ _).app (Nat.le_refl _)⟩, Nat.le_add_right _ _⟩
        obtain ⟨a, b⟩ := I.b y i e
        refine ⟨a, ?_⟩
        show wtAt c.tab i ≤ pcnt p + c.lim - pcnt p
        omega
    · unfold muB
      rw [hp]
      show (c.most - c.asked) * B + (pcnt q + (pcnt p + c.lim)) + fU c.fin < (c.most - c.asked) * B + (1 + pcnt p + pcnt q + c.lim) + fU c.fin
      omega
theorem wf_stepT {es : List TEr} {hd : Str → Option Nat} (E : TEsOk es hd) {c : CT} (w : WfT es hd c) : (WfT es hd (stepT es c) ∨ (stepT es c).fin ≠ .no) ∧ muT (stepT es c) < muT c := wf_stepB E (fun e he => by have := (E.er e he).cn; omega) w
end KB

namespace KB
open PySem L2 HT LamX NdefX

/-! ### simple terms as a tree -/
/-- what is asked of the numbers' table: a name for the number of each word -/
def EnvAt (H : Hp) (env : Env) (b : Addr) : Prop := ∃ kvs : List (Key × V), H b = some (.dK kvs) ∧ kvs.length ≤ 1000 ∧ ∀ x : Str, valV kvs (Sum.inr x) = (env x).map V.int
theorem EnvAt.sx {H H' : Hp} (s : Sx H H') {env : Env} {b : Addr} (h : EnvAt H env b) : EnvAt H' env b := let ⟨kvs, h1, h2⟩ := h; ⟨kvs, s.d h1, h2⟩
section
variable {P : Program} {w : World} {K : PySem.W.Frag} {mg : Str → Option Value} {base : Heap}
/-! ### combined -/
/-! ### number_by_parts -/
/-! ### number_of -/
end
end KB

namespace KB
open PySem L2 HT

theorem passX {X : Cx} {P : Program} {w : World} : Passes (L2.CX P w) X E0 := fun _ _ _ _ _ _ _ h => by
  obtain ⟨_, _, _, _, _, _, _, _, _, _, _, _, z⟩ := h
  exact z.elim
/-- an own class of exceptions, over ValueError, without __init__ -/
structure XcT (K : PySem.W.Frag) (mg : Str → Option Value) (x : Str) (C : Addr) : Prop where
  g : mg x = some (.ref C)
  x : PySem.W.excIn K C [.type "ValueError", .type "Exception", .type "BaseException", .type "object"] "ValueError.__new__" = true
  k : PySem.W.keepIn K (.ref C) = true
  b : PySem.W.subIn K (.ref C) (.type "BaseException") = some true
  t : PySem.W.typeIn K (.ref C) = some (.type "type")
section
variable {P : Program} {w : World} {K : PySem.W.Frag} {mg : Str → Option Value} {base : Heap} {CN CM : Addr}
/-! ### is_whole -/
/-! ### errand_named in a turned book, any name -/
def spNamT : Sp := fun vs H Q _ => ∃ (p : Addr) (es : List TEr) (us : List V) (f : Str), vs = [.ref p, .str f] ∧ TBkAt H es us p ∧ (∀ i e, es[i]? = some e → e.1 = f → (∀ (j : Nat) e', j < i → es[j]? = some e' → e'.1 ≠ f) → ∀ v, TErV H e v → Q v H) ∧ ((∀ e ∈ es, e.1 ≠ f) → Q .non H)
abbrev serrand_named : Stmt := top 10
theorem scerrand_named : FnScope ["book", "f", "errand"] ["book", "f"] (defScope serrand_named) := ⟨rfl, rfl, rfl, by decide +kernel, rfl, by decide +kernel, by decide +kernel⟩
theorem ok_nam {f : Addr} {fd : FuncData} (F : Fun K "errand_named" "errand_named" serrand_named f fd) : FnOk P w K mg base CX0 1 f fd ["book", "f"] spNamT := by
  refine F.ok scerrand_named (fun vs H Q E h => ?_) (fun cdv A outer s H vs Q E hr h => ?_)
  · obtain ⟨p, es, us, f, rfl, _⟩ := h
    rfl
  obtain ⟨p, es, us, nm, rfl, hB, q1, q2⟩ := h
  refine ⟨_, (pss_cons (ps_for PassesOwn.never rfl (pi_tup (pv 0)) (pg_name (i := 2) scerrand_named.nd rfl (Or.inl rfl)) (pss_one (ps_if (pt_cmpR op_eq (pe_ix ix_tup (pv 2) pe_int (fun _ _ => rfl)) (pv 1) (nomark _)) (pss_one (ps_ret (pv 2))) pss_nil)))
    (pss_one (ps_ret pe_non))), ?_⟩
  refine ⟨_, rfl, p, rfl, ⟨_, SqT.of hB.1⟩, for_tup (xs := us) (fun j σ H' => ∃ o, σ = [some (.ref p), some (.str nm), o] ∧ H' = H ∧ ∀ i e, i < j → es[i]? = some e → e.1 ≠ nm) ⟨_, rfl, rfl, fun i e h => absurd h (Nat.not_lt_zero _)⟩ ?_ ?_ ?_⟩
  · rintro j σ H' _ ⟨o, rfl, rfl, _⟩
    exact SqT.of hB.1
  · rintro j x σ H' hx ⟨o, rfl, rfl, hj⟩
    obtain ⟨e, he, hev⟩ := hB.2.get hx
    obtain ⟨qa, r, b, rfl, g1, g2, g3⟩ := id hev
    refine ⟨_, rfl, qa, _, _, _, rfl, rfl, SqT.of g1, at0, _, rfl, rfl, _, rfl, ?_⟩
    by_cases c : e.1 = nm
    · exact itT (decide_eq_true (congrArg V.str c)) ⟨_, rfl, q1 j e he c (fun i e' hi he' => hj i e' hi he') _ hev⟩
    · refine itF (decide_eq_false fun z => c (V.str.inj z)) ⟨_, rfl, rfl, fun i e' hi he' => ?_⟩
      by_cases z : i = j
      · subst z
        rw [he] at he'
        cases he'
        exact c
      · exact hj i e' (by omega) he'
  · rintro σ H' ⟨o, rfl, rfl, hj⟩
    refine q2 fun e he => ?_
    obtain ⟨i, hi⟩ := List.mem_iff_getElem?.mp he
    refine hj i e ?_ hi
    rw [hB.2.len]
    exact (List.getElem?_eq_some_iff.mp hi).1
/-! ### need_errand -/
def spNeedE (CN : Addr) : Sp := fun vs H Q E => ∃ (p : Addr) (es : List TEr) (us : List V) (f : Str), vs = [.ref p, .str f] ∧ TBkAt H es us p ∧ ((∃ e ∈ es, e.1 = f) → Q .non H) ∧ ((∀ e ∈ es, e.1 ≠ f) → E (.ref CN) none H)
abbrev sneed_errand : Stmt := top 13
theorem scneed_errand : FnScope ["book", "f"] ["book", "f"] (defScope sneed_errand) := ⟨rfl, rfl, rfl, by decide +kernel, rfl, by decide +kernel, by decide +kernel⟩
theorem ok_needE (XNoAsking : XcT K mg "NoAsking" CN) {f f1 : Addr} {fd d1 : FuncData} (F : Fun K "need_errand" "need_errand" sneed_errand f fd)
    (Gerrand_named : FnOk P w K mg base CX0 1 f1 d1 ["book", "f"] spNamT) (Rerrand_named : Ref K mg "errand_named" f1 d1 ["book", "f"]) : FnOk P w K mg base (L2.CX P w) 2 f fd ["book", "f"] (spNeedE CN) := by
  refine F.okX scneed_errand (fun vs H Q E h => ?_) (fun cdv A outer s H vs Q E hr h => ?_)
  · obtain ⟨p, es, us, f, rfl, _⟩ := h
    rfl
  obtain ⟨p, es, us, nm, rfl, hB, q1, q2⟩ := h
  refine ⟨_, (pss_one (ps_if (pt_cmpR op_isN (pe_call Gerrand_named (hr.mono (by omega)) rfl Rerrand_named.m Rerrand_named.k Rerrand_named.b .nil pass0 (pa_cons (pv 0) (pa_cons (pv 1) pa_nil))) pe_non (nomark _)) (pss_one (ps_raise rfl (takes_of rfl rfl rfl rfl) (pmk_own PySem.F.excBase_ValueError XNoAsking.x XNoAsking.g XNoAsking.k (raises_own XNoAsking.b XNoAsking.t) rfl))) pss_nil)), ?_⟩
  refine ⟨_, rfl, _, rfl, p, es, us, nm, rfl, hB, fun i e he hn hj v hv => ?_, fun hno => ?_⟩
  · obtain ⟨qa, r, b, rfl, g1, g2, g3⟩ := hv
    exact ⟨rfl, _, rfl, itF (decide_eq_false (by intro z; cases z)) (q1 ⟨e, mem_of_get he, hn⟩)⟩
  · exact ⟨rfl, _, rfl, itT (decide_eq_true rfl) (q2 hno)⟩
/-! ### need_asking -/
/-! ### need_most -/
end
end KB

namespace KB
open PySem L2 HT LamX NdefX

variable {CR : Addr}
/-! ### what stays where objects of classes are written -/
def Ix (CR : Addr) (H H' : Hp) : Prop := (∀ b o, H b = some o → (∀ d fs, o ≠ .ins CR d fs) → (∀ ps, o ≠ .tbl ps) → H' b = some o) ∧ ∀ b, H' b = none → H b = none
theorem Ix.refl (H : Hp) : Ix CR H H := ⟨fun _ _ z _ _ => z, fun _ z => z⟩
theorem Ix.trans {H H1 H2 : Hp} (a : Ix CR H H1) (b : Ix CR H1 H2) : Ix CR H H2 := ⟨fun x o h n m => b.1 x o (a.1 x o h n m) n m, fun x z => a.2 x (b.2 x z)⟩
theorem Ix.free {H H' : Hp} (s : Ix CR H H') {b : Addr} (z : H' b = none) : H b = none := s.2 b z
theorem Ix.t {H H' : Hp} (s : Ix CR H H') {b : Addr} {xs : List V} (h : H b = some (.tup xs)) : H' b = some (.tup xs) := s.1 b _ h (fun _ _ z => nomatch z) fun _ z => nomatch z
theorem Ix.l {H H' : Hp} (s : Ix CR H H') {b : Addr} {xs : List V} (h : H b = some (.lst xs)) : H' b = some (.lst xs) := s.1 b _ h (fun _ _ z => nomatch z) fun _ z => nomatch z
theorem Ix.d {H H' : Hp} (s : Ix CR H H') {b : Addr} {kvs : List (Key × V)} (h : H b = some (.dK kvs)) : H' b = some (.dK kvs) := s.1 b _ h (fun _ _ z => nomatch z) fun _ z => nomatch z
theorem Ix.tk {H H' : Hp} (s : Ix CR H H') : TK H H' := fun _ _ h => s.t h
theorem ix_sx {H H' : Hp} (s : Sx H H') : Ix CR H H' := ⟨fun b o h _ m => s.1 b o h m, s.2⟩
theorem ix_mut {H H' : Hp} (s : Ix CR H H') {a : Addr} (h : H a = none) (o : HO) : Ix CR H (upd H' a o) := by
  refine ⟨fun b u z n m => ?_, fun b z => ?_⟩
  · rw [upd_ne (ne_of_none z h)]
    exact s.1 b u z n m
  · by_cases e : b = a
    · rw [e]; exact h
    · rw [upd_ne e] at z
      exact s.2 b z
theorem ix_ins {H H' : Hp} (s : Ix CR H H') {a : Addr} {d : Addr} {fs : List (Str × V)} (h : H a = some (.ins CR d fs)) (o : HO) : Ix CR H (upd H' a o) := by
  refine ⟨fun b u z n m => ?_, fun b z => ?_⟩
  · have e : b ≠ a := fun e => by
      subst e
      rw [h] at z
      exact n _ _ (Option.some.inj z).symm
    rw [upd_ne e]
    exact s.1 b u z n m
  · by_cases e : b = a
    · subst e
      rw [upd_same] at z
      cases z
    · rw [upd_ne e] at z
      exact s.2 b z
/-! ### words and hand-ons around -/
abbrev HsT := Str → Option Nat
def EnvN (H : Hp) (env : Env) (n : Nat) (b : Addr) : Prop := ∃ kvs : List (Key × V), H b = some (.dK kvs) ∧ kvs.length ≤ n ∧ ∀ x : Str, valV kvs (Sum.inr x) = (env x).map V.int
theorem EnvN.ix {H H' : Hp} (s : Ix CR H H') {env : Env} {n : Nat} {b : Addr} (h : EnvN H env n b) : EnvN H' env n b := let ⟨kvs, h1, h2⟩ := h; ⟨kvs, s.d h1, h2⟩
theorem EnvN.at_ {H : Hp} {env : Env} {n : Nat} {b : Addr} (h : EnvN H env n b) (hn : n ≤ 1000) : EnvAt H env b := let ⟨kvs, h1, h2, h3⟩ := h; ⟨kvs, h1, Nat.le_trans h2 hn, h3⟩
theorem EnvN.le {H : Hp} {env : Env} {n m : Nat} {b : Addr} (e : n ≤ m) (h : EnvN H env n b) : EnvN H env m b := let ⟨kvs, h1, h2, h3⟩ := h; ⟨kvs, h1, Nat.le_trans h2 e, h3⟩
/-! ### a part passed, as data -/
/-- hand-ons, whatever they are kept as -/
structure GM (CR : Addr) (G : Type) where
  new : G → Str → Pt → Env → HsT → G
  nid : G → Nat
  HV : Hp → G → Nat → V → Prop
  ix : ∀ {H H' : Hp} {g : G} {i : Nat} {v : V}, Ix CR H H' → HV H g i v → HV H' g i v
  mu : ∀ {H : Hp} {a : Addr} {xs : List V} {o : HO} {g : G} {i : Nat} {v : V}, H a = some (.lst xs) → HV H g i v → HV (upd H a o) g i v
  mono : ∀ {H : Hp} {g : G} {x : Str} {p : Pt} {env : Env} {hs : HsT} {i : Nat} {v : V}, HV H g i v → HV H (new g x p env hs) i v
def HdN {G : Type} (M : GM CR G) (g : G) (H : Hp) (hs : HsT) (n : Nat) (b : Addr) : Prop := ∃ kvs : List (Key × V), H b = some (.dK kvs) ∧ kvs.length ≤ n ∧ ∀ (j : Str) (i : Nat), hs j = some i → ∃ v, M.HV H g i v ∧ valV kvs (Sum.inr j) = some v
theorem HdN.ix {G : Type} {M : GM CR G} {g : G} {H H' : Hp} (s : Ix CR H H') {hs : HsT} {n : Nat} {b : Addr} (h : HdN M g H hs n b) : HdN M g H' hs n b := let ⟨kvs, h1, h2, h3⟩ := h; ⟨kvs, s.d h1, h2, fun j i e => let ⟨v, a, c⟩ := h3 j i e; ⟨v, M.ix s a, c⟩⟩
theorem HdN.le {G : Type} {M : GM CR G} {g : G} {H : Hp} {hs : HsT} {n m : Nat} {b : Addr} (e : n ≤ m) (h : HdN M g H hs n b) : HdN M g H hs m b := let ⟨kvs, h1, h2, h3⟩ := h; ⟨kvs, h1, Nat.le_trans h2 e, h3⟩
/-- what is around, told by words and hand-ons -/
structure Sc (p : Pt) (env : Env) (hs : HsT) : Prop where
  ok : ∃ hd xs js, rP hd p xs js ∧ (∀ x ∈ xs, ∃ z, env x = some z) ∧ (∀ j ∈ js, ∃ i, hs j = some i) ∧ ("home" : Str) ∈ js
theorem Sc.home {p : Pt} {env : Env} {hs : HsT} (h : Sc p env hs) : ∃ i, hs "home" = some i := let ⟨_, _, _, _, _, c, d⟩ := h.ok; c _ d
section
variable {P : Program} {w : World} {K : PySem.W.Frag} {mg : Str → Option Value} {base : Heap} {G : Type}
/-! ### passed -/
end
end KB

namespace KB
open PySem L2 HT LamX NdefX

/-! ### the attributes of a TurnedRunning and a HandOn -/
structure TV where
  (errands most trail fin deepest made asked part words hands : V)
def fsT_J7 (r : TV) : List (Str × V) := [("errands", r.errands), ("most", r.most), ("trail", r.trail), ("end", r.fin), ("deepest", r.deepest), ("made", r.made), ("asked", r.asked), ("part", r.part), ("words", r.words), ("hands", r.hands)]
def fsH (p w h n : V) : List (Str × V) := [("post", p), ("words", w), ("hands", h), ("height", n)]
/-! ### hand-ons as objects -/
inductive HonAt (CH : Addr) (H : Hp) (tab : List HR) : Nat → V → Prop
  | fin (a dx wb hb : Addr) : H a = some (.ins CH dx (fsH .non (.ref wb) (.ref hb) (.int 0))) → HonAt CH H tab 0 (.ref a)
  | mk (k : Nat) (r : HR) (a dx pb wb hb : Addr) (n : Nat) (j : Str) (q : Pt) (kvs : List (Key × V)) (vf : Str → V) : tab[k]? = some r → H a = some (.ins CH dx (fsH (.ref pb) (.ref wb) (.ref hb) (.int r.h))) → PAt H (.post j r.x r.T q) pb → EnvN H r.env n wb →
      H hb = some (.dK kvs) → kvs.length ≤ n → n + 1 + pcnt r.T ≤ 1000 → (∀ j i, r.hs j = some i → valV kvs (Sum.inr j) = some (vf j)) → (∀ j i, r.hs j = some i → HonAt CH H tab i (vf j)) → HonAt CH H tab (k + 1) (.ref a)
theorem HonAt.keep {CH : Addr} {H H' : Hp} {tab tab' : List HR} (ht : ∀ (k : Nat) (r : HR), tab[k]? = some r → tab'[k]? = some r) (hi : ∀ a dx fs, H a = some (.ins CH dx fs) → H' a = some (.ins CH dx fs)) (htk : TK H H') (hd : ∀ a kvs, H a = some (.dK kvs) → H' a = some (.dK kvs)) :
    ∀ {i : Nat} {v : V}, HonAt CH H tab i v → HonAt CH H' tab' i v := by
  intro i v h
  induction h with
  | fin a dx wb hb h => exact .fin a dx wb hb (hi _ _ _ h)
  | mk k r a dx pb wb hb n j q kvs vf h1 h2 h3 h4 h5 h6 h7 h8 h9 ih =>
    obtain ⟨kvw, e1, e2⟩ := h4
    exact .mk k r a dx pb wb hb n j q kvs vf (ht _ _ h1) (hi _ _ _ h2) (PAt.tk htk h3) ⟨kvw, hd _ _ e1, e2⟩ (hd _ _ h5) h6 h7 h8 ih
structure TG where
  tab : List HR
  made : Int
  lim : Nat
def newG (g : TG) (x : Str) (p : Pt) (env : Env) (hs : HsT) : TG := ⟨g.tab ++ [⟨x, p, env, hs, hiAt g.tab (hAt hs "home") + 1, pcnt p + g.lim⟩], g.made + 1, pcnt p + g.lim⟩
theorem tab_app {tab : List HR} {r : HR} : ∀ (k : Nat) (s : HR), tab[k]? = some s → (tab ++ [r])[k]? = some s := fun k s h => by
  rw [List.getElem?_append_left (List.getElem?_eq_some_iff.mp h).1]
  exact h
def MT {CH CR : Addr} (ne : CH ≠ CR) : GM CR TG where
  new := newG
  nid g := g.tab.length + 1
  HV H g i v := HonAt CH H g.tab i v
  ix s h := h.keep (fun _ _ z => z) (fun a dx fs z => s.1 a _ z (fun d f e => ne (by cases e; rfl)) fun _ e => nomatch e) s.tk fun a kvs z => s.d z
  mu hl h := h.keep (fun _ _ z => z) (fun a dx fs z => by rw [upd_ne (ne_of z hl (fun e => nomatch e))]; exact z) (tk_put hl) fun a kvs z => by rw [upd_ne (ne_of z hl (fun e => nomatch e))]; exact z
  mono h := h.keep tab_app (fun _ _ _ z => z) (fun _ _ z => z) fun _ _ z => z
section
variable {P : Program} {w : World} {K : PySem.W.Frag} {mg : Str → Option Value} {base : Heap} {CH CR : Addr}
/-! ### HandOn(post, words, hands, height) -/
/-! ### make -/
end
end KB

namespace KB
open PySem L2 HT LamX NdefX

/-! ### steps in a row -/
inductive RchT (es : List TEr) : CT → CT → Prop
  | refl (c : CT) : RchT es c c
  | snoc {c c1 : CT} : RchT es c c1 → c1.fin = .no → RchT es c (stepT es c1)
theorem RchT.trans {es : List TEr} {a b c : CT} (h : RchT es a b) (k : RchT es b c) : RchT es a c := by
  induction k with
  | refl => exact h
  | snoc _ e ih => exact .snoc ih e
theorem RchT.one {es : List TEr} {c : CT} (h : c.fin = .no) : RchT es c (stepT es c) := .snoc (.refl c) h
theorem RchT.wf {es : List TEr} {hd : Str → Option Nat} (E : TEsOk es hd) {c c' : CT} (h : RchT es c c') (w : WfT es hd c) : (WfT es hd c' ∨ c'.fin ≠ .no) ∧ muT c' ≤ muT c := by
  induction h with
  | refl => exact ⟨.inl w, Nat.le_refl _⟩
  | snoc _ e ih =>
    obtain ⟨a, b⟩ := wf_stepT E (ih.1.resolve_right fun z => z e)
    exact ⟨a, by have := ih.2; omega⟩
/-- how long what is told gets -/
def szT (c : CT) : Nat := c.trail.length + muT c
theorem step_trail {es : List TEr} {c : CT} : (stepT es c).trail.length ≤ c.trail.length + 1 := by
  unfold stepT askT
  repeat' split
  all_goals first | exact Nat.le_succ _ | (show (c.trail ++ [_]).length ≤ _; rw [List.length_append]; exact Nat.le_refl _)
theorem RchT.sz {es : List TEr} {hd : Str → Option Nat} (E : TEsOk es hd) {c c' : CT} (h : RchT es c c') (w : WfT es hd c) : szT c' ≤ szT c := by
  induction h with
  | refl => exact Nat.le_refl _
  | @snoc c1 h e ih =>
    obtain ⟨a, b⟩ := wf_stepT E ((h.wf E w).1.resolve_right fun z => z e)
    have := step_trail (es := es) (c := c1)
    unfold szT at ih ⊢
    omega
/-- the run where a part is passed -/
def gOf (c : CT) : TG := ⟨c.tab, c.made, c.lim⟩
/-! ### how a run on its way stands in the heap -/
structure AdT where
  dx : Addr
  ed : Addr
  tl : Addr
  ev : V
  tv : List V
def FeV (H : Hp) : Fe → V → Prop
  | .no, v => v = .non
  | .done z, v => ∃ q, v = .ref q ∧ H q = some (.tup [.str "done", .int z])
  | .long, v => ∃ q, v = .ref q ∧ H q = some (.tup [.str "long"])
def EvV (H : Hp) : Ev → V → Prop
  | .ask f ns, v => ∃ q r, v = .ref q ∧ H q = some (.tup [.str "ask", .str f, .ref r]) ∧ H r = some (.tup (ns.map V.int))
  | .tell z, v => ∃ q, v = .ref q ∧ H q = some (.tup [.str "tell", .int z])
theorem FeV.tk {H H' : Hp} (e : TK H H') {f : Fe} {v : V} (h : FeV H f v) : FeV H' f v := by
  cases f with
  | no => exact h
  | done z => exact let ⟨q, a, b⟩ := h; ⟨q, a, e _ _ b⟩
  | long => exact let ⟨q, a, b⟩ := h; ⟨q, a, e _ _ b⟩
theorem EvV.tk {H H' : Hp} (e : TK H H') {f : Ev} {v : V} (h : EvV H f v) : EvV H' f v := by
  cases f with
  | ask f ns => exact let ⟨q, r, a, b, c⟩ := h; ⟨q, r, a, e _ _ b, e _ _ c⟩
  | tell z => exact let ⟨q, a, b⟩ := h; ⟨q, a, e _ _ b⟩
theorem FeV.no {H : Hp} {f : Fe} {v : V} (h : FeV H f v) : v = .non ↔ f = .no := by
  cases f with
  | no => exact ⟨fun _ => rfl, fun _ => h⟩
  | done z => exact ⟨fun e => (by obtain ⟨q, a, _⟩ := h; rw [e] at a; cases a), fun e => nomatch e⟩
  | long => exact ⟨fun e => (by obtain ⟨q, a, _⟩ := h; rw [e] at a; cases a), fun e => nomatch e⟩
/-- the errands' table -/
def ErT (H : Hp) (es : List TEr) (D : Addr) : Prop := ∃ kvs : List (Key × V), H D = some (.dK kvs) ∧ ∀ e ∈ es, ∃ qa r b, valV kvs (Sum.inr e.1) = some (.ref qa) ∧ H qa = some (.tup [.ref r, .ref b]) ∧ H r = some (.tup (e.2.1.map V.str)) ∧ PAt H e.2.2 b
theorem ErT.ix {CR : Addr} {H H' : Hp} (s : Ix CR H H') {es : List TEr} {D : Addr} (h : ErT H es D) : ErT H' es D :=
  let ⟨kvs, a, b⟩ := h; ⟨kvs, s.d a, fun e he => let ⟨qa, r, b, c1, c2, c3, c4⟩ := b e he; ⟨qa, r, b, c1, s.t c2, s.t c3, PAt.tk s.tk c4⟩⟩
def tvOf (a : AdT) (c : CT) (pv wv hv : V) : TV := ⟨.ref a.ed, .int (c.most : Int), .ref a.tl, a.ev, .int c.deepest, .int c.made, .int (c.asked : Int), pv, wv, hv⟩
/-- all but the part that is due -/
structure RunB_J7 (CR : Addr) (TT : List (Addr × Str)) (H0 H : Hp) (es : List TEr) (p : Addr) (c : CT) (a : AdT) (pv wv hv : V) : Prop where
  n0 : H0 p = none
  nt : H0 a.tl = none
  sx : Ix CR H0 H
  tt : Tabs TT H
  ob : H p = some (.ins CR a.dx (fsT_J7 (tvOf a c pv wv hv)))
  er : ErT H es a.ed
  tr : H a.tl = some (.lst a.tv)
  te : All2 (EvV H) c.trail a.tv
  ev : FeV H c.fin a.ev
/-- the part that is due, with what is around -/
def PartAt {CH CR : Addr} (ne : CH ≠ CR) (H : Hp) (c : CT) (pv wv hv : V) : Prop := ∃ (pa wb hb : Addr) (n : Nat), pv = .ref pa ∧ wv = .ref wb ∧ hv = .ref hb ∧ PAt H c.part pa ∧ EnvN H c.env n wb ∧ HdN (MT ne) (gOf c) H c.hs n hb ∧ n + pcnt c.part ≤ 1000
end KB

namespace KB
open PySem L2 HT LamX NdefX

theorem big {n : Nat} (h : n ≤ 10000000) : n < sizeLine := Nat.lt_of_le_of_lt h (by decide)
theorem tabs_mutI {T : List (Addr × Str)} {H : Hp} (t : Tabs T H) {a c d : Addr} {fs : List (Str × V)} (h : H a = some (.ins c d fs)) (o : HO) : Tabs T (upd H a o) := fun p hp => by
  obtain ⟨ps, h1, h2, h3⟩ := t p hp
  refine ⟨ps, by rw [upd_ne (ne_of h1 h (fun z => nomatch z))]; exact h1, h2, fun pos cv hc => ?_⟩
  obtain ⟨c, e1, e2⟩ := h3 pos cv hc
  refine ⟨c, e1, ?_⟩
  rw [upd_ne (ne_of e2 h (fun z => by unfold CodeO at z; cases z))]
  exact e2
section
variable {CH CR : Addr} {ne : CH ≠ CR} {TT : List (Addr × Str)} {H0 H H' : Hp} {es : List TEr} {p : Addr} {c c' : CT} {a a' : AdT} {pv wv hv pv' wv' hv' : V}
theorem RunB_J7.sxs (R : RunB_J7 CR TT H0 H es p c a pv wv hv) (s : Sx H H') (t : Tabs TT H') : RunB_J7 CR TT H0 H' es p c a pv wv hv :=
  ⟨R.n0, R.nt, R.sx.trans (ix_sx s), t, s.at_ R.ob (fun _ z => nomatch z), R.er.ix (CR := CR) (ix_sx s), s.l R.tr, R.te.imp fun _ _ z => z.tk s.tk, R.ev.tk s.tk⟩
theorem RunB_J7.same (R : RunB_J7 CR TT H0 H es p c a pv wv hv) (s : Same H H') : RunB_J7 CR TT H0 H' es p c a pv wv hv := R.sxs (sx_same s) (tabs_new R.tt s)
/-- a field of the run's own is written -/
theorem RunB_J7.put (R : RunB_J7 CR TT H0 H es p c a pv wv hv) (e1 : a'.dx = a.dx := by rfl) (e2 : a'.ed = a.ed := by rfl) (e3 : a'.tl = a.tl := by rfl) (e4 : a'.tv = a.tv := by rfl) (e5 : c'.trail = c.trail := by rfl) (hev : FeV (upd H p (.ins CR a.dx (fsT_J7 (tvOf a' c' pv' wv' hv')))) c'.fin a'.ev) :
    RunB_J7 CR TT H0 (upd H p (.ins CR a.dx (fsT_J7 (tvOf a' c' pv' wv' hv')))) es p c' a' pv' wv' hv' := by
  have s : Ix CR H (upd H p (.ins CR a.dx (fsT_J7 (tvOf a' c' pv' wv' hv')))) := ix_ins (Ix.refl H) R.ob _
  refine ⟨R.n0, by rw [e3]; exact R.nt, ix_mut R.sx R.n0 _, tabs_mutI R.tt R.ob _, by rw [e1]; exact upd_same, by rw [e2]; exact R.er.ix s, by rw [e3, e4]; exact s.l R.tr, by rw [e5, e4]; exact R.te.imp fun _ _ z => z.tk s.tk, hev⟩
/-- something more is told -/
theorem RunB_J7.tell (R : RunB_J7 CR TT H0 H es p c a pv wv hv) {e : List Ev} {v : List V} (h : All2 (EvV H) e v) :
    RunB_J7 CR TT H0 (upd H a.tl (.lst (a.tv ++ v))) es p { c with trail := c.trail ++ e } { a with tv := a.tv ++ v } pv wv hv := by
  have tk : TK H (upd H a.tl (.lst (a.tv ++ v))) := tk_put R.tr
  obtain ⟨kvs, k1, k2⟩ := R.er
  refine ⟨R.n0, R.nt, ix_mut R.sx R.nt _, tabs_mut R.tt R.tr _, by rw [upd_ne (ne_of R.ob R.tr (fun z => nomatch z))]; exact R.ob, ⟨kvs, by rw [upd_ne (ne_of k1 R.tr (fun z => nomatch z))]; exact k1, fun e he => ?_⟩, upd_same, (R.te.imp fun _ _ z => z.tk tk).app (h.imp fun _ _ z => z.tk tk), R.ev.tk tk⟩
  obtain ⟨qa, r, b, c1, c2, c3, c4⟩ := k2 e he
  exact ⟨qa, r, b, c1, tk _ _ c2, tk _ _ c3, PAt.tk tk c4⟩
theorem PartAt.ix (s : Ix CR H H') (h : PartAt ne H c pv wv hv) : PartAt ne H' c pv wv hv :=
  let ⟨pa, wb, hb, n, a1, a2, a3, a4, a5, a6, a7⟩ := h; ⟨pa, wb, hb, n, a1, a2, a3, PAt.tk s.tk a4, a5.ix s, a6.ix s, a7⟩
end
section
variable {P : Program} {w : World} {K : PySem.W.Frag} {mg : Str → Option Value} {base : Heap} {CH CR : Addr}
/-! ### ask -/
end
end KB

namespace KB
open PySem L2 HT LamX NdefX

theorem RunB_J7.passed {CR : Addr} {TT : List (Addr × Str)} {H0 H H' : Hp} {es : List TEr} {p : Addr} {c c' : CT} {a : AdT} {pv wv hv : V} (R : RunB_J7 CR TT H0 H es p c a pv wv hv) (s : Ix CR H H') (t : Tabs TT H') (ob : H' p = some (.ins CR a.dx (fsT_J7 (tvOf a c' pv wv hv)))) (e : c'.trail = c.trail) (ef : c'.fin = c.fin) :
    RunB_J7 CR TT H0 H' es p c' a pv wv hv := ⟨R.n0, R.nt, R.sx.trans s, t, ob, R.er.ix s, s.l R.tr, by rw [e]; exact R.te.imp fun _ _ z => z.tk s.tk, by rw [ef]; exact R.ev.tk s.tk⟩
section
variable {P : Program} {w : World} {K : PySem.W.Frag} {mg : Str → Option Value} {base : Heap} {CH CR : Addr}
/-! ### pass_part -/
end
end KB

namespace KB
open PySem L2 HT LamX NdefX

/-! ### the law's hand-ons -/
def FrA (A : List Addr) (H H' : Hp) : Prop := ∀ b o, b ∉ A → H b = some o → H' b = some o
theorem FrA.refl (A : List Addr) (H : Hp) : FrA A H H := fun _ _ _ h => h
theorem FrA.trans {A : List Addr} {H H1 H2 : Hp} (a : FrA A H H1) (b : FrA A H1 H2) : FrA A H H2 := fun x o n h => b x o n (a x o n h)
theorem fr_same {A : List Addr} {H H' : Hp} (s : Same H H') : FrA A H H' := fun b o _ h => s b o h
inductive LHon (A : List Addr) (H : Hp) (tab : List HR) : Nat → V → Prop
  | fin (q : Addr) : H q = some (.tup [.int 0]) → LHon A H tab 0 (.ref q)
  | mk (k : Nat) (r : HR) (q tb nb hb : Addr) (n : Nat) (kvn kvs : List (Key × V)) (vf : Str → V) : tab[k]? = some r → H q = some (.tup [.int r.h, .str r.x, .ref tb, .ref nb, .ref hb]) → PAt H r.T tb → nb ∉ A → hb ∉ A → H nb = some (.dK kvn) → kvn.length ≤ n → (∀ x : Str, valV kvn (Sum.inr x) = (r.env x).map V.int) →
      H hb = some (.dK kvs) → kvs.length ≤ n → n + 1 + pcnt r.T ≤ 1000 → (∀ j i, r.hs j = some i → valV kvs (Sum.inr j) = some (vf j)) → (∀ j i, r.hs j = some i → LHon A H tab i (vf j)) → LHon A H tab (k + 1) (.ref q)
theorem LHon.keep {A : List Addr} {H H' : Hp} {tab tab' : List HR} (ht : ∀ (k : Nat) (r : HR), tab[k]? = some r → tab'[k]? = some r) (f : FrA A H H') (tk : TK H H') : ∀ {i : Nat} {v : V}, LHon A H tab i v → LHon A H' tab' i v := by
  intro i v h
  induction h with
  | fin q h => exact .fin q (tk _ _ h)
  | mk k r q tb nb hb n kvn kvs vf h1 h2 h3 h4 h5 h6 h7 h8 h9 h10 h11 h12 h13 ih =>
    exact .mk k r q tb nb hb n kvn kvs vf (ht _ _ h1) (tk _ _ h2) (PAt.tk tk h3) h4 h5 (f _ _ h4 h6) h7 h8 (f _ _ h5 h9) h10 h11 h12 ih
theorem LHon.fresh {A A' : List Addr} {H : Hp} {tab : List HR} (hA : ∀ a ∈ A', a ∈ A ∨ H a = none) : ∀ {i : Nat} {v : V}, LHon A H tab i v → LHon A' H tab i v := by
  intro i v h
  induction h with
  | fin q h => exact .fin q h
  | mk k r q tb nb hb n kvn kvs vf h1 h2 h3 h4 h5 h6 h7 h8 h9 h10 h11 h12 h13 ih =>
    refine .mk k r q tb nb hb n kvn kvs vf h1 h2 h3 (fun z => ?_) (fun z => ?_) h6 h7 h8 h9 h10 h11 h12 ih
    · rcases hA nb z with y | y
      · exact h4 y
      · rw [h6] at y
        cases y
    · rcases hA hb z with y | y
      · exact h5 y
      · rw [h9] at y
        cases y
/-! ### now, and what is around -/
def nowK (tl : Addr) (dp md mn : Int) : List (Key × V) := [(Sum.inr "trail", .ref tl), (Sum.inr "deepest", .int dp), (Sum.inr "made", .int md), (Sum.inr "many", .int mn)]
structure NowL (H : Hp) (nd tl : Addr) (c : CT) (tv : List V) : Prop where
  n : H nd = some (.dK (nowK tl c.deepest c.made c.asked))
  t : H tl = some (.lst tv)
  te : All2 (EvV H) c.trail tv
structure AroundL (A : List Addr) (H : Hp) (c : CT) (pa nm hb : Addr) (n : Nat) : Prop where
  p : PAt H c.part pa
  e : EnvN H c.env n nm
  h : ∃ kvs : List (Key × V), H hb = some (.dK kvs) ∧ kvs.length ≤ n ∧ ∀ (j : Str) (i : Nat), c.hs j = some i → ∃ v, LHon A H c.tab i v ∧ valV kvs (Sum.inr j) = some v
  n : n + pcnt c.part ≤ 1000
theorem NowL.same {H H' : Hp} {nd tl : Addr} {c : CT} {tv : List V} (s : Same H H') (N : NowL H nd tl c tv) : NowL H' nd tl c tv := ⟨s _ _ N.n, s _ _ N.t, N.te.imp fun _ _ z => z.tk (tk_same s)⟩
theorem AroundL.keep {A : List Addr} {H H' : Hp} {c : CT} {pa nm hb : Addr} {n : Nat} (R : AroundL A H c pa nm hb n) (f : FrA A H H') (tk : TK H H') (hn : ∀ kvs, H nm = some (.dK kvs) → H' nm = some (.dK kvs)) (hh : ∀ kvs, H hb = some (.dK kvs) → H' hb = some (.dK kvs)) : AroundL A H' c pa nm hb n :=
  ⟨PAt.tk tk R.p, let ⟨kvs, a, b⟩ := R.e; ⟨kvs, hn _ a, b⟩, let ⟨kvs, a, b, d⟩ := R.h; ⟨kvs, hh _ a, b, fun j i e => let ⟨v, x, y⟩ := d j i e; ⟨v, x.keep (fun _ _ z => z) f tk, y⟩⟩, R.n⟩
theorem AroundL.same {A : List Addr} {H H' : Hp} {c : CT} {pa nm hb : Addr} {n : Nat} (s : Same H H') (R : AroundL A H c pa nm hb n) : AroundL A H' c pa nm hb n := R.keep (fr_same s) (tk_same s) (fun _ h => s _ _ h) fun _ h => s _ _ h
section
variable {P : Program} {w : World} {K : PySem.W.Frag} {mg : Str → Option Value} {base : Heap}
/-! ### _law_along -/
end
end KB

namespace KB
open PySem L2 HT

/-! ### what a run tells, as Python's data -/
def pdEv : Ev → PyData
  | .ask f ns => .tuple [.str "ask", .str f, .tuple (ns.map PyData.int)]
  | .tell z => .tuple [.str "tell", .int z]
def pdFe : Fe → PyData
  | .no => .tuple []
  | .done z => .tuple [.str "done", .int z]
  | .long => .tuple [.str "long"]
def pdTr (t : List Ev) : PyData := .list (t.map pdEv)
def pdRun (c : CT) : PyData := .tuple [pdTr c.trail, pdFe c.fin, .int c.deepest, .int c.made]
theorem dp_ev {K : PySem.W.Frag} {H : Hp} {e : Ev} {v : V} (h : EvV H e v) : Dp K H v (pdEv e) := by
  cases e with
  | ask f ns =>
    obtain ⟨q, r, e1, h1, h2⟩ := h
    subst e1
    exact .tup (SqT.of h1) (.cons (.str _) (.cons (.str _) (.cons (.tup (SqT.of h2) (dp_ints ns)) .nil)))
  | tell z =>
    obtain ⟨q, e1, h1⟩ := h
    subst e1
    exact .tup (SqT.of h1) (.cons (.str _) (.cons (.int _) .nil))
theorem dp_tr {K : PySem.W.Frag} {H : Hp} : ∀ {t : List Ev} {vs : List V}, All2 (EvV H) t vs → DpAll K H vs (t.map pdEv)
  | [], [], _ => .nil
  | _ :: _, _ :: _, h => .cons (dp_ev h.1) (dp_tr h.2)
  | [], _ :: _, h => h.elim
  | _ :: _, [], h => h.elim
theorem dp_fe {K : PySem.W.Frag} {H : Hp} {f : Fe} {v : V} (h : FeV H f v) (hn : f ≠ .no) : Dp K H v (pdFe f) := by
  cases f with
  | no => exact absurd rfl hn
  | done z =>
    obtain ⟨q, e1, h1⟩ := h
    subst e1
    exact .tup (SqT.of h1) (.cons (.str _) (.cons (.int _) .nil))
  | long =>
    obtain ⟨q, e1, h1⟩ := h
    subst e1
    exact .tup (SqT.of h1) (.cons (.str _) .nil)
/-- what run tells, at q -/
structure RunV (H : Hp) (c : CT) (q : Addr) (tl : Addr) (tv : List V) (ev : V) : Prop where
  q : H q = some (.tup [.ref tl, ev, .int c.deepest, .int c.made])
  tl : H tl = some (.lst tv)
  te : All2 (EvV H) c.trail tv
  ev : FeV H c.fin ev
  nn : c.fin ≠ .no
theorem RunV.same {H H' : Hp} {c : CT} {q tl : Addr} {tv : List V} {ev : V} (s : Same H H') (h : RunV H c q tl tv ev) : RunV H' c q tl tv ev := ⟨s _ _ h.q, s _ _ h.tl, h.te.imp fun _ _ z => z.tk (tk_same s), h.ev.tk (tk_same s), h.nn⟩
theorem RunV.dp {K : PySem.W.Frag} {H : Hp} {c : CT} {q tl : Addr} {tv : List V} {ev : V} (h : RunV H c q tl tv ev) : Dp K H (.ref q) (pdRun c) :=
  .tup (SqT.of h.q) (.cons (.lst (SqL.of h.tl) (dp_tr h.te)) (.cons (dp_fe h.ev h.nn) (.cons (.int _) (.cons (.int _) .nil))))
/-! ### what a run tells can be written out -/
/-- what is asked of a thing that is told -/
structure Sho (d : PyData) (n : Nat) : Prop where
  w : d.weight ≤ n
  s : d.showable = true
  i : d.intsShort 13 = true
theorem Sho.le {d : PyData} {n m : Nat} (h : Sho d n) (e : n ≤ m) : Sho d m := ⟨Nat.le_trans h.w e, h.s, h.i⟩
/-- from a run there is just one end -/
theorem RchT.head {es : List TEr} {c c' : CT} (h : RchT es c c') : c' = c ∨ (c.fin = .no ∧ RchT es (stepT es c) c') := by
  induction h with
  | refl => exact .inl rfl
  | snoc h e ih =>
    rcases ih with z | ⟨z1, z2⟩
    · rw [z] at e ⊢
      exact .inr ⟨e, .refl _⟩
    · exact .inr ⟨z1, .snoc z2 e⟩
section
variable {P : Program} {w : World} {K : PySem.W.Frag} {mg : Str → Option Value} {base : Heap}
/-! ### _law_same_run -/
end
end KB

namespace KB
open PySem L2 HT LamX NdefX

theorem TBkAt.ix {CR : Addr} {H H' : Hp} (s : Ix CR H H') {es : List TEr} {vs : List V} {p : Addr} (h : TBkAt H es vs p) : TBkAt H' es vs p := ⟨s.t h.1, h.2.imp fun _ _ z => z.tk s.tk⟩
section
variable {P : Program} {w : World} {K : PySem.W.Frag} {mg : Str → Option Value} {base : Heap} {CR : Addr}
end
end KB

namespace KB
open PySem L2

/-! ### laid parts -/
/-- a simple term, good -/
structure LTm (t : Tm) : Prop where
  ok : okT t
  si : simple t = true
  cn : cnt t ≤ 13
  ht : HtLe 5 t
theorem HtLe.to : ∀ {n m : Nat} {t : Tm}, HtLe n t → n ≤ m → HtLe m t := fun h e => h.le e
theorem GdS.lt {H : Hp} {a : Addr} {hd : Str → Option Nat} {xs : List Str} {t : Tm} (g : GdS H a 3 2 hd xs t) : LTm t := ⟨g.g.ok, g.s, Nat.le_trans g.g.cn (by decide), g.g.dp.le (by decide)⟩
/-- a simple term at b, of at most n terms, within at most d -/
def TmB (H : Hp) (n d : Nat) (b : Addr) : Prop := ∃ t, At H t b ∧ okT t ∧ simple t = true ∧ cnt t ≤ n ∧ HtLe d t
theorem TmB.tk {H H' : Hp} {n d : Nat} {b : Addr} (k : TK H H') : TmB H n d b → TmB H' n d b := fun ⟨t, h1, h2⟩ => ⟨t, h1.tk k, h2⟩
theorem TmB.le {H : Hp} {n d m e : Nat} {b : Addr} (h1 : n ≤ m) (h2 : d ≤ e) : TmB H n d b → TmB H m e b := fun ⟨t, g1, g2, g3, g4, g5⟩ => ⟨t, g1, g2, g3, Nat.le_trans g4 h1, g5.le h2⟩
theorem TmB.lt {H : Hp} {b : Addr} : TmB H 13 5 b → ∃ t, At H t b ∧ LTm t := fun ⟨t, g1, g2, g3, g4, g5⟩ => ⟨t, g1, g2, g3, g4, g5⟩
theorem tb_two {H : Hp} {p a b : Addr} {n m d e : Nat} {h : Hd} (hh : h = .plus ∨ h = .less) (g1 : TmB H n d a) (g2 : TmB H m e b) (hp : H p = some (.tup [.str (hs h), .ref a, .ref b])) : TmB H (1 + n + m) (max d e + 1) p := by
  obtain ⟨t, a1, a2, a3, a4, a5⟩ := g1
  obtain ⟨u, b1, b2, b3, b4, b5⟩ := g2
  have both : ∀ (Pr : Tm → Prop), Pr t → Pr u → ∀ x ∈ [t, u], Pr x := fun Pr h1 h2 x hx => by
    rcases List.mem_cons.mp hx with z | z
    · rw [z]
      exact h1
    · rw [List.mem_singleton.mp z]
      exact h2
  have lay : Lay H p h [.ref a, .ref b] := by
    rcases hh with rfl | rfl
    · exact ⟨rfl, hp⟩
    · exact ⟨rfl, hp⟩
  refine ⟨mkL h [t, u], at_mkL lay ⟨⟨a, rfl, a1⟩, ⟨b, rfl, b1⟩, trivial⟩, ok_mkL (by rcases hh with rfl | rfl <;> trivial) (both _ a2 b2), simple_mkL (by rcases hh with rfl | rfl <;> rfl) (both _ a3 b3), ?_, ht_mkL (both _ (a5.le (by omega)) (b5.le (by omega)))⟩
  rw [cnt_mkL, cnts_cons, cnts_cons]
  show 1 + (_ + (_ + 0)) ≤ _
  omega
theorem tb_new {H : Hp} {p a b : Addr} {n m d e : Nat} {h : Hd} (hh : h = .plus ∨ h = .less) (g1 : TmB H n d a) (g2 : TmB H m e b) (hp : H p = none) : TmB (upd H p (.tup [.str (hs h), .ref a, .ref b])) (1 + n + m) (max d e + 1) p :=
  tb_two hh (g1.tk (tk_same (same_new hp _))) (g2.tk (tk_same (same_new hp _))) upd_same
/-- what is at hand while the terms are written: here, one, other, and the terms so far -/
structure AdS (H0 H : Hp) (tp p0 a1 a2 : Addr) (ds : List Addr) : Prop where
  b : But1 tp H0 H
  t : Tp H tp
  g0 : TmB H 1 1 p0
  g1 : TmB H 3 2 a1
  g2 : TmB H 3 2 a2
  ds : ∀ d ∈ ds, TmB H 13 5 d
theorem AdS.new {H0 H : Hp} {tp p0 a1 a2 : Addr} {ds : List Addr} (I : AdS H0 H tp p0 a1 a2 ds) {p : Addr} (hp : H p = none) (o : HO) : AdS H0 (upd H p o) tp p0 a1 a2 ds :=
  have s := same_new hp o
  ⟨I.b.trans (but_same s), I.t.same s, I.g0.tk (tk_same s), I.g1.tk (tk_same s), I.g2.tk (tk_same s), fun d hd => (I.ds d hd).tk (tk_same s)⟩
theorem AdS.put {H0 H : Hp} {tp p0 a1 a2 : Addr} {ds : List Addr} (I : AdS H0 H tp p0 a1 a2 ds) {d : Addr} (h : TmB H 13 5 d) : AdS H0 H tp p0 a1 a2 (ds ++ [d]) :=
  ⟨I.b, I.t, I.g0, I.g1, I.g2, fun e he => by
    rcases List.mem_append.mp he with z | z
    · exact I.ds e z
    · rw [List.mem_singleton.mp z]
      exact h⟩
theorem AdS.two {H0 H : Hp} {tp p0 a1 a2 : Addr} {ds : List Addr} (I : AdS H0 H tp p0 a1 a2 ds) {p a b : Addr} {n m d e : Nat} (h : Hd) (hh : h = .plus ∨ h = .less) (x : TmB H n d a) (y : TmB H m e b) (hp : H p = none) (c : 1 + n + m ≤ 13) (c2 : max d e + 1 ≤ 5) :
    AdS H0 (upd H p (.tup [.str (hs h), .ref a, .ref b])) tp p0 a1 a2 (ds ++ [p]) := (I.new hp _).put ((tb_new hh x y hp).le c c2)
theorem AdS.fin {H0 HJ H5 H6 : Hp} {tp p0 a1 a2 : Addr} {ds : List Addr} {Q : VK} (J : AdS H0 HJ tp p0 a1 a2 ds) (b5 : But1 tp HJ H5) (t5 : Tp H5 tp) (b6 : But1 tp H5 H6) (t6 : Tp H6 tp)
    (q : ∀ a t H', But1 tp H0 H' → Tp H' tp → At H' t a → LTm t → Q (.ref a) H') : (∀ d ∈ ds, Q (.ref d) H6) ∧ Q (.ref p0) H6 ∧ Q (.ref a1) H6 := by
  have k6 : TK HJ H6 := (tp_tk J.t b5).trans (tp_tk t5 b6)
  have fin : ∀ d, TmB HJ 13 5 d → Q (.ref d) H6 := fun d hd => by
    obtain ⟨t, h1, h2⟩ := (hd.tk k6).lt
    exact q d t H6 ((J.b.trans b5).trans b6) t6 h1 h2
  exact ⟨fun d hd => fin d (J.ds d hd), fin _ (J.g0.le (by decide) (by decide)), fin _ (J.g1.le (by decide) (by decide))⟩
section
variable {P : Program} {w : World} {K : PySem.W.Frag} {mg : Str → Option Value} {base : Heap}
/-! ### _law_adding -/
end
end KB

namespace KB
open PySem L2

abbrev kgO : Key := Sum.inr "own"
abbrev kgI : Key := Sum.inr "wild"
def klT (el hd wl pl : Addr) (own : Str) (wild : Int) : List (Key × V) := [(kgE, .ref el), (kgH, .ref hd), (kgW, .ref wl), (kgP, .ref pl), (kgO, .str own), (kgI, .int wild)]
/-- what the generator of laid parts has at hand -/
structure GL (H : Hp) (tp kd wl pl : Addr) (ws js : List Str) : Prop where
  t : Tp H tp
  w : Wls H wl ws
  p : Wls H pl js
  wn : ws.length ≤ 100
  pn : js.length ≤ 100
  wp : wl ≠ pl
  k : ∃ el hd fs kvs own wild, H kd = some (.dK (klT el hd wl pl own wild)) ∧ 1 ≤ wild ∧ wild ≤ 3 ∧ own ∈ fs ∧ el ≠ wl ∧ el ≠ pl ∧ Wls H el fs ∧ 0 < fs.length ∧ fs.length ≤ 100 ∧ H hd = some (.dK kvs) ∧ ∀ f ∈ fs, ∃ n : Int, valV kvs (Sum.inr f) = some (.int n) ∧ 0 ≤ n ∧ n ≤ 4
section
variable {H H' : Hp} {tp kd wl pl : Addr} {ws js ws' js' : List Str}
theorem GL.ntk (g : GL H tp kd wl pl ws js) {a : Addr} {o : HO} (h : H a = some o) (hn : ∀ xs, o ≠ .lst xs) : a ≠ tp ∧ a ≠ wl ∧ a ≠ pl := by
  obtain ⟨z, hz⟩ := g.t
  exact ⟨ne_of h hz (hn _), ne_of h g.w.1 (hn _), ne_of h g.p.1 (hn _)⟩
theorem GL.tk (g : GL H tp kd wl pl ws js) (b : But3 tp wl pl H H') : TK H H' := fun a _ h => by
  obtain ⟨n1, n2, n3⟩ := g.ntk h (fun _ z => nomatch z)
  exact b a _ n1 n2 n3 h
theorem GL.step (g : GL H tp kd wl pl ws js) (b : But3 tp wl pl H H') (t : Tp H' tp) (w : Wls H' wl ws') (p : Wls H' pl js') (wn : ws'.length ≤ 100) (pn : js'.length ≤ 100) : GL H' tp kd wl pl ws' js' := by
  obtain ⟨el, hd, fs, kvs, own, wild, k1, r1, r2, r3, k2, k2', k3, k4, k5, k6, k7⟩ := g.k
  refine ⟨t, w, p, wn, pn, g.wp, el, hd, fs, kvs, own, wild, ?_, r1, r2, r3, k2, k2', ⟨b _ _ (wls_tp k3.1 g.t) k2 k2' k3.1, k3.2⟩, k4, k5, ?_, k7⟩
  · obtain ⟨n1, n2, n3⟩ := g.ntk k1 (fun _ z => nomatch z)
    exact b _ _ n1 n2 n3 k1
  · obtain ⟨n1, n2, n3⟩ := g.ntk k6 (fun _ z => nomatch z)
    exact b _ _ n1 n2 n3 k6
theorem GL.one (g : GL H tp kd wl pl ws js) (b : But1 tp H H') (t : Tp H' tp) : GL H' tp kd wl pl ws js := g.step b.three t (g.w.but b g.t) (g.p.but b g.t) g.wn g.pn
theorem GL.same (g : GL H tp kd wl pl ws js) (e : Same H H') : GL H' tp kd wl pl ws js := g.one (but_same e) (g.t.same e)
theorem Wls.threeL {a : Addr} {xs : List Str} (e : But3 tp wl pl H H') (g : GL H tp kd wl pl ws js) (n : a ≠ wl) (m : a ≠ pl) (h : Wls H a xs) : Wls H' a xs := ⟨e _ _ (wls_tp h.1 g.t) n m h.1, h.2⟩
theorem GL.new (g : GL H tp kd wl pl ws js) {p : Addr} (h : H p = none) : p ≠ tp ∧ p ≠ wl ∧ p ≠ pl := by
  obtain ⟨z, hz⟩ := g.t
  exact ⟨(ne_of_none hz h).symm, (ne_of_none g.w.1 h).symm, (ne_of_none g.p.1 h).symm⟩
variable {el hd : Addr} {own : Str} {wild : Int}
end
section
variable {P : Program} {w : World} {K : PySem.W.Frag} {mg : Str → Option Value} {base : Heap}
/-! ### _law_laid_ask -/
end
end KB

namespace KB
open PySem L2

/-- what stands around a laid part that is to be drawn -/
structure PtL (H : Hp) (tp kd wl pl ar : Addr) (ws js xs : List Str) : Prop where
  g : GL H tp kd wl pl ws js
  w : Wls H ar xs
  a1 : ar ≠ wl
  a2 : ar ≠ pl
  wj : ws.length ≤ js.length
  l1 : xs.length + ws.length ≤ 200
theorem PtL.step {H H' : Hp} {tp kd wl pl ar : Addr} {ws js ws' js' xs : List Str} (I : PtL H tp kd wl pl ar ws js xs) (b : But3 tp wl pl H H') (g : GL H' tp kd wl pl ws' js') (wj : ws'.length ≤ js'.length) (l1 : ws'.length ≤ ws.length) : PtL H' tp kd wl pl ar ws' js' xs := by
  have h1 := I.l1
  exact ⟨g, I.w.threeL b I.g I.a1 I.a2, I.a1, I.a2, wj, by omega⟩
theorem PtL.one {H H' : Hp} {tp kd wl pl ar : Addr} {ws js xs : List Str} (I : PtL H tp kd wl pl ar ws js xs) (b : But1 tp H H') (t : Tp H' tp) : PtL H' tp kd wl pl ar ws js xs := I.step b.three (I.g.one b t) I.wj (Nat.le_refl _)
theorem PtL.same {H H' : Hp} {tp kd wl pl ar : Addr} {ws js xs : List Str} (I : PtL H tp kd wl pl ar ws js xs) (s : Same H H') : PtL H' tp kd wl pl ar ws js xs := I.one (but_same s) (I.g.t.same s)
section
variable {P : Program} {w : World} {K : PySem.W.Frag} {mg : Str → Option Value} {base : Heap}
/-! ### _law_laid_part -/
end
end KB

namespace KB
open PySem L2 HT
/-! ### terms as data -/
/-! ### parts of turned books as data -/
/-- a simple term, good -/
structure STm_5 (t : Tm) : Prop where
  ok : okT t
  si : simple t = true
  cn : cnt t ≤ 13
  ht : HtLe 5 t
/-! ### all parts and terms of a part, counted -/
end KB

namespace KB
open PySem L2

/-! ### simple terms, seen -/
inductive ST
  | num (z : Int)
  | nam (x : Str)
  | two (l : Bool) (a b : ST)
def hdB (l : Bool) : Hd := if l then .less else .plus
def SAt (H : Hp) : ST → Addr → Prop
  | .num z, a => H a = some (.tup [.str "number", .int z])
  | .nam x, a => H a = some (.tup [.str "name", .str x])
  | .two l s t, a => ∃ b c, H a = some (.tup [.str (hs (hdB l)), .ref b, .ref c]) ∧ SAt H s b ∧ SAt H t c
theorem SAt.tk {H H' : Hp} (k : TK H H') : ∀ {s : ST} {a : Addr}, SAt H s a → SAt H' s a
  | .num _, _, h => k _ _ h
  | .nam _, _, h => k _ _ h
  | .two _ _ _, _, ⟨b, c, h, h1, h2⟩ => ⟨b, c, k _ _ h, SAt.tk k h1, SAt.tk k h2⟩
section
variable {P : Program} {w : World} {K : PySem.W.Frag} {mg : Str → Option Value} {base : Heap}
/-! ### _law_names_in -/
/-! ### _law_taken -/
end
end KB

namespace KB
open PySem L2

/-! ### the least place -/
def ltL : List Int → List Int → Bool
  | _, [] => false
  | [], _ :: _ => true
  | a :: r, b :: s => decide (a < b) || (decide (a = b) && ltL r s)
theorem ltL_irr : ∀ xs : List Int, ltL xs xs = false
  | [] => rfl
  | a :: r => by
    unfold ltL
    rw [ltL_irr r]
    simp
theorem ltL_tr : ∀ {xs ys zs : List Int}, ltL xs ys = true → ltL ys zs = true → ltL xs zs = true
  | xs, [], zs, h, _ => by
    cases xs <;> cases h
  | xs, b :: s, [], _, h => by cases h
  | [], b :: s, c :: t, _, _ => rfl
  | a :: r, b :: s, c :: t, h1, h2 => by
    unfold ltL at h1 h2 ⊢
    simp only [Bool.or_eq_true, Bool.and_eq_true, decide_eq_true_eq] at h1 h2 ⊢
    rcases h1 with h1 | ⟨h1, g1⟩
    · rcases h2 with h2 | ⟨h2, g2⟩
      · left
        omega
      · left
        omega
    · rcases h2 with h2 | ⟨h2, g2⟩
      · left
        omega
      · right
        exact ⟨by omega, ltL_tr g1 g2⟩
theorem ltL_cons (k : Int) (xs ys : List Int) : ltL (k :: xs) (k :: ys) = ltL xs ys := by
  show (decide (k < k) || (decide (k = k) && ltL xs ys)) = _
  simp
theorem ltL_lt {k l : Int} (h : k < l) (xs ys : List Int) : ltL (k :: xs) (l :: ys) = true := by
  show (decide (k < l) || _) = true
  rw [decide_eq_true h]
  rfl
/-- d is a least one of these -/
def MinOf (xs : List (List Int)) : Option (List Int) → Prop
  | none => xs = []
  | some m => m ∈ xs ∧ ∀ y ∈ xs, ltL y m = false
theorem MinOf.less {xs : List (List Int)} {m x : List Int} (h : MinOf xs (some m)) (c : ltL x m = true) : MinOf (xs ++ [x]) (some x) := by
  refine ⟨List.mem_append_right _ List.mem_cons_self, fun y hy => ?_⟩
  rcases List.mem_append.mp hy with z | z
  · cases e : ltL y x with
    | false => rfl
    | true =>
      have h1 := ltL_tr e c
      rw [h.2 y z] at h1
      cases h1
  · rw [List.mem_singleton.mp z]
    exact ltL_irr x
theorem MinOf.keep {xs : List (List Int)} {m x : List Int} (h : MinOf xs (some m)) (c : ltL x m = false) : MinOf (xs ++ [x]) (some m) := by
  refine ⟨List.mem_append_left _ h.1, fun y hy => ?_⟩
  rcases List.mem_append.mp hy with z | z
  · exact h.2 y z
  · rw [List.mem_singleton.mp z]
    exact c
/-! ### the asks that are handed on, as the law meets them and as the program does -/
def orO {α : Type} : Option α → Option α → Option α
  | some a, _ => some a
  | none, b => b
/-- d is the least of these, all others are greater -/
def Least (xs : List (List Int)) : Option (List Int) → Prop
  | none => xs = []
  | some m => m ∈ xs ∧ ∀ y ∈ xs, y = m ∨ ltL m y = true
theorem Least.map {xs : List (List Int)} {d : Option (List Int)} (k : Int) (h : Least xs d) : Least (xs.map (k :: ·)) (d.map (k :: ·)) := by
  cases d with
  | none =>
    have h : xs = [] := h
    rw [h]
    rfl
  | some m =>
    refine ⟨List.mem_map.mpr ⟨m, h.1, rfl⟩, fun y hy => ?_⟩
    obtain ⟨z, hz, rfl⟩ := List.mem_map.mp hy
    rcases h.2 z hz with e | e
    · left
      rw [e]
    · right
      rw [ltL_cons]
      exact e
theorem Least.two {xs ys : List (List Int)} {d e : Option (List Int)} {k l : Int} (hkl : k < l) (h1 : Least xs d) (h2 : Least ys e) : Least (xs.map (k :: ·) ++ ys.map (l :: ·)) (orO (d.map (k :: ·)) (e.map (l :: ·))) := by
  have g1 := h1.map k
  have g2 := h2.map l
  cases d with
  | none =>
    have h1 : xs = [] := h1
    rw [h1]
    exact g2
  | some m =>
    refine ⟨List.mem_append_left _ g1.1, fun y hy => ?_⟩
    rcases List.mem_append.mp hy with z | z
    · exact g1.2 y z
    · obtain ⟨v, _, rfl⟩ := List.mem_map.mp z
      exact .inr (ltL_lt hkl _ _)
end KB

namespace KB
open PySem L2

/-! ### no place twice -/
theorem plL_head {N : Type} {pl : N → List (List Int × N)} : ∀ {ns : List N} {j : Nat} {e : List Int × N}, e ∈ plL pl j ns → ∃ (k : Nat) (r : List Int), j ≤ k ∧ e.1 = (k : Int) :: r
  | [], _, _, h => nomatch h
  | n :: ns, j, e, h => by
    rcases List.mem_append.mp h with z | z
    · obtain ⟨u, _, rfl⟩ := List.mem_map.mp z
      exact ⟨j, u.1, Nat.le_refl _, rfl⟩
    · obtain ⟨k, r, h1, h2⟩ := plL_head z
      exact ⟨k, r, by omega, h2⟩
theorem plL_nd {N : Type} {pl : N → List (List Int × N)} : ∀ {ns : List N} {j : Nat}, (∀ n ∈ ns, ((pl n).map (·.1)).Nodup) → ((plL pl j ns).map (·.1)).Nodup
  | [], _, _ => List.nodup_nil
  | n :: ns, j, h => by
    show (((pl n).map (fun e => ((j : Int) :: e.1, e.2)) ++ plL pl (j + 1) ns).map (·.1)).Nodup
    rw [List.map_append, List.nodup_append]
    refine ⟨?_, plL_nd fun m hm => h m (List.mem_cons_of_mem _ hm), ?_⟩
    · rw [List.map_map]
      have e : ((fun x : List Int × N => x.1) ∘ fun e : List Int × N => ((j : Int) :: e.1, e.2)) = (((j : Int) :: ·) ∘ (·.1)) := rfl
      rw [e, ← List.map_map]
      exact List.Pairwise.map _ (fun a b hab z => hab (List.cons.inj z).2) (h n List.mem_cons_self)
    · intro a ha b hb
      obtain ⟨u, hu, rfl⟩ := List.mem_map.mp ha
      obtain ⟨v, _, rfl⟩ := List.mem_map.mp hu
      obtain ⟨u2, hu2, rfl⟩ := List.mem_map.mp hb
      obtain ⟨k, r, h1, h2⟩ := plL_head hu2
      rw [h2]
      intro z
      have := (List.cons.inj z).1
      omega
theorem sz_mem {N : Type} (R : Tre N) : ∀ {ns : List N} {n : N}, n ∈ ns → R.sz n ≤ (ns.map R.sz).sum
  | m :: r, n, h => by
    rcases List.mem_cons.mp h with z | z
    · rw [z]
      show R.sz m ≤ R.sz m + (r.map R.sz).sum
      omega
    · have := sz_mem R z
      show R.sz n ≤ R.sz m + (r.map R.sz).sum
      omega
theorem pl_nd {N : Type} (R : Tre N) : ∀ (m : Nat) (n : N), R.sz n ≤ m → ((R.pl n).map (·.1)).Nodup
  | 0, n, h => by
    have := R.szk n
    omega
  | m + 1, n, h => by
    rw [R.plk, List.map_cons, List.nodup_cons]
    have hs := R.szk n
    refine ⟨fun z => ?_, plL_nd fun k hk => pl_nd R m k (by have := sz_mem R hk; omega)⟩
    obtain ⟨u, hu, e⟩ := List.mem_map.mp z
    obtain ⟨k, r, _, h2⟩ := plL_head hu
    rw [h2] at e
    cases e
/-! ### what is known of an entry -/
theorem LTm.st {t : Tm} (h : LTm t) : STm_5 t := ⟨h.ok, h.si, h.cn, h.ht⟩
end KB

namespace KB
open PySem PySem.Spec PyProof.Rows L2

/-! ### for k, v in d.items(), the keys tuples -/
section
variable {X : Cx} {pins : List (Addr × Obj)} {σ : L2.St} {H : Hp} {s : Shared} {d : Addr} {o : Obj}
theorem frz_tup {kvs : List (List L2.Key × L2.V)} (I : Inv X pins σ H s) (h : H d = some (.frz o (.dT kvs))) :
    (d == sysModules) = false ∧ s.heap.get? d = some o ∧ o.ExactDict ∧ ∃ (es : Array DictEntry) (ep : Nat), o.data = .dict es ep ∧ es.size = kvs.length ∧
      ∀ (i : Nat) (k : List L2.Key) (v : L2.V), kvs[i]? = some (k, v) → ∃ (en : DictEntry) (q : Addr), es[i]? = some en ∧ en.key = .ref q ∧ H q = some (.tup (k.map kV)) ∧ RelV v en.val := by
  obtain ⟨hd, z, hs, xs, pr, o', es, ep, ho, hx, hdt, he, _⟩ := I.hok d _ h
  rw [hd] at ho
  cases ho
  refine ⟨hs, hd, hx, es, ep, hdt, ?_, fun i k v e => ?_⟩
  · have l1 : es.size = xs.length := size_of_entries he
    have l2 : kvs.length = xs.length := Paired.length pr
    omega
  · obtain ⟨b, hb, e1, e2, e3⟩ := paired_get pr e
    have g := entry_at he i
    rw [hb] at g
    exact ⟨_, b.2.1, g, rfl, e2, e3⟩
end
/-- the pairs of the locked dict at d, each a new tuple: the key's own tuple, the value -/
def ItT (d : Addr) (o : Obj) (kvs : List (List L2.Key × L2.V)) : It :=
  ⟨fun i H => H d = some (.frz o (.dT kvs)) ∧ i < kvs.length, fun i H x H' => ∃ T k v q, kvs[i]? = some (k, v) ∧ H q = some (.tup (k.map kV)) ∧ x = .ref T ∧ H T = none ∧ H' = upd H T (.tup [.ref q, v]), fun i H => H d = some (.frz o (.dT kvs)) ∧ kvs.length ≤ i⟩
section
variable {P : Program} {w : World} {K : PySem.W.Frag} {d : Addr} {o : Obj} {es : Array DictEntry} {ep : Nat}
theorem turn_tup {kvs : List (List L2.Key × L2.V)} {elts : List Expr} {kk : Nat} {tpos : Pos} (it : Addr) (hod : o.data = .dict es ep) :
    Turn P w K (.Tuple elts kk tpos) (ItT d o kvs) [it] it (fun i h => ∃ ok ov, IsItemIter h it d i kvs.length ep ok ov) where
  mem := by simp
  obj := fun i h st b hb => by
    have e : b = it := by simpa using hb
    subst e
    obtain ⟨ok, ov, e⟩ := st
    exact ⟨_, e, fun v z => nomatch z⟩
  keep := fun i h h' st k => let ⟨ok, ov, e⟩ := st; ⟨ok, ov, k it (by simp) _ e⟩
  item := by
    intro X hP hw hK hc i pins s σ H E I hf st hg
    subst hP hw hK
    obtain ⟨hd, hi⟩ := hg
    obtain ⟨hs, hgd, hx, es', ep', hdt, hsz, ent⟩ := frz_tup I hd
    obtain ⟨rfl, rfl⟩ := dict_ep hod hdt
    obtain ⟨⟨k, v⟩, hkv⟩ : ∃ p, kvs[i]? = some p := ⟨kvs[i], List.getElem?_eq_getElem hi⟩
    obtain ⟨en, q, hen, hkey, hq, rv⟩ := ent i k v hkv
    obtain ⟨ok, ov, he⟩ := st
    rw [← hsz] at he
    have hlt : it < s.heap.objs.size := Heap.lt_size he
    have hie : i < es'.size := by omega
    have een : es'[i] = en := by
      rw [Array.getElem?_eq_getElem hie] at hen
      exact Option.some.inj hen
    refine DT.nextI he ⟨o, hgd, hx, hdt⟩ hie fun h' ho hT hz hk => ?_
    rw [een, hkey] at ho hT
    refine ⟨_, rfl, wpAny_letOwnedTupleGo_items (s := { s with heap := h' }) ho fun h'' he' sb => ?_⟩
    have hT2 : h''.get? s.heap.objs.size = some { cls := .type "tuple", data := .seq #[.ref q, en.val] } := (sb.2 _ (Nat.ne_of_gt hlt)).trans hT
    have new : ObjOk X.prog X.w (upd H s.heap.objs.size (.tup [.ref q, v])) h'' s.heap.objs.size (.tup [.ref q, v]) :=
      ⟨by show 2 ≤ sizeLine; decide, [.ref q, en.val], .cons rfl (.cons rv .nil), ⟨_, hT2, rfl, _, rfl⟩⟩
    have I1 : Inv X pins σ (upd H s.heap.objs.size (.tup [.ref q, v])) { s with heap := h'' } :=
      I.turnedNew (t' := s.toks) (ch := [it]) (fun b ob hb e => (sb.2 b (by simpa using hb)).trans (hk b ob (by simpa using hb) e)) hf (Nat.le_refl _) new
    refine ⟨.ref s.heap.objs.size, _, I1, rfl, ⟨_, k, v, q, hkv, hq, rfl, I.hok.fresh (Nat.le_refl _), rfl⟩, ⟨.ref q, en.val, ?_⟩, fun b hb => ?_⟩
    · rw [← hsz]; exact he'
    · have e : b = it := by simpa using hb
      rw [e, upd_ne (Nat.ne_of_lt hlt)]
      exact (hf it (by simp)).1
  done := by
    intro X hP hw hK hc i pins s σ H E I hf st hg
    subst hP hw hK
    obtain ⟨hd, hi⟩ := hg
    obtain ⟨f0, f1, f2, f3, f4, f5⟩ := hf it (by simp)
    obtain ⟨hs, hgd, hx, es', ep', hdt, hsz, ent⟩ := frz_tup I hd
    obtain ⟨rfl, rfl⟩ := dict_ep hod hdt
    obtain ⟨ok, ov, he⟩ := st
    rw [← hsz] at he
    exact DT.endI (I.ok.hd hc) he ⟨o, hgd, hx, hdt⟩ (by omega) fun h' eb => ⟨rfl, I.turned (t' := s.toks) (fun b ob hb e => eb b ob hb e) f0 f1 f3 f4 f5⟩
  self := fun A i s Q E st h => let ⟨_, _, e⟩ := st; PySem.W.kcp_self e h
end
def iTupItems (td : TE) : TI := fun σ H R => td σ H fun x H1 => ∃ d o kvs, x = .ref d ∧ H1 d = some (.frz o (.dT kvs)) ∧ R (ItT d o kvs) H1
theorem pi_tupItems {X : Cx} {e : Expr} {td : TE} {apos cpos : Pos} {elts : List Expr} {kk : Nat} {tpos : Pos} (he : PE X e td) (hbase : attributeBase e "items" X.env (eval e X.env) = eval e X.env := by rfl) (hline : (apos.endLine == cpos.line) = true := by rfl) :
    PI X (.Tuple elts kk tpos) (.Call (.Attribute e "items" apos) [] [] cpos) (iTupItems td) := by
  refine ⟨fun pins s σ H R I h => ?_⟩
  refine wpAny_Call_method (T := "dict") (id := "dict.items") hbase rfl hline F.plainAttrs_dict F.slot_dict_items F.type_dict_items (thn (he.run pins s σ H _ I h) fun u s1 ⟨x, H1, I1, rx, d, o, kvs, ex, hd, q⟩ => ?_)
  subst ex
  obtain rfl : u = Value.ref d := rx
  obtain ⟨hs, hgd, hx, es, ep, hdt, hsz, ent⟩ := frz_tup I1 hd
  have raw : DT.Raw s1.heap d es ep := ⟨o, hgd, hx, hdt⟩
  refine ⟨raw.typeIs, fun b z => ?_, ?_⟩
  · cases z
    exact ⟨o, hgd, hx.2.1⟩
  have I2 : Inv X pins σ H1 { s1 with heap := s1.heap.push { cls := .type "dict_items", data := .fields #[.ref d] } } := I1.kept (t' := s1.toks) fun b ob z => Heap.get?_push_of_some _ z
  have fin : wpAny (model X.prog X.w) X.A (pyIter (.ref s1.heap.objs.size)) (PIE X pins σ (.Tuple elts kk tpos) R) X.xe { s1 with heap := s1.heap.push { cls := .type "dict_items", data := .fields #[.ref d] } } := by
    refine DT.iterI (d := d) ⟨_, Heap.get?_push_size _ rfl, rfl, rfl⟩ (raw.push _) (pi_one (tk := s1.toks) I2 _ (turn_tup _ hdt) ⟨.none, .none, ?_⟩ q)
    rw [← hsz]
    exact Heap.get?_push_size _ rfl
  show wpAny _ _ (callWith cpos (.builtin "dict.items") [.ref d] [] []) _ X.xe s1
  exact method_meetsIn F.slot_dict_items F.entry_dict_items rfl (PySem.evalArgs_none ⟨rfl, raw.typeIs, F.args_dict_items_1 _, _, DT.meetsItems (es := es) (ep := ep) hs, raw, fin⟩)
theorem walk_tupItems {d : Addr} {o : Obj} {kvs : List (List L2.Key × L2.V)} : Walk (ItT d o kvs) kvs.length (fun H => H d = some (.frz o (.dT kvs))) (fun i H x H' => ∃ T k v q, kvs[i]? = some (k, v) ∧ H q = some (.tup (k.map kV)) ∧ x = .ref T ∧ H T = none ∧ H' = upd H T (.tup [.ref q, v])) :=
  ⟨fun _ _ hi g => ⟨g, hi⟩, fun _ g => ⟨g, Nat.le_refl _⟩, fun _ _ _ _ _ _ y => y⟩
end KB

namespace KB
open PySem L2 HT

theorem put_new {kvs : List (List L2.Key × L2.V)} {k : List L2.Key} {v : L2.V} (h : k ∉ kvs.map (·.1)) : putK kvs k v = kvs ++ [(k, v)] := by
  unfold putK
  rw [if_neg]
  intro z
  obtain ⟨x, hx, e⟩ := List.any_eq_true.mp z
  exact h (List.mem_map.mpr ⟨x, hx, of_decide_eq_true e⟩)
def keyP (f : Str) (pl : List Int) : List L2.Key := .inr f :: pl.map .inl
theorem keyP_V (f : Str) (pl : List Int) : (keyP f pl).map kV = .str f :: pl.map V.int := by
  unfold keyP
  rw [List.map_cons, List.map_map]
  rfl
theorem keyP_inj {f : Str} {a b : List Int} (h : keyP f a = keyP f b) : a = b := by
  have h := (List.cons.inj h).2
  induction a generalizing b with
  | nil =>
    cases b with
    | nil => rfl
    | cons y s => cases h
  | cons x r ih =>
    cases b with
    | nil => cases h
    | cons y s =>
      obtain ⟨h1, h2⟩ := List.cons.inj h
      rw [Sum.inl.inj h1, ih (b := s) (by unfold keyP; exact congrArg _ h2) h2]
section
variable {P : Program} {w : World} {K : PySem.W.Frag} {mg : Str → Option Value} {base : Heap} {CN : Addr}
/-! ### not_carried_at -/
end
end KB

namespace KB
open PySem L2

/-! ### asks, each by its place, and rows of them -/
abbrev Pl := Str × List Int
abbrev Ak := Pl × Str × Nat
inductive Row (A : List Ak) : Str → List Ak → Str → Prop
  | nil {f : Str} : Row A f [] f
  | cons {a : Ak} {r : List Ak} {g : Str} : a ∈ A → Row A a.2.1 r g → Row A a.1.1 (a :: r) g
def wtR (r : List Ak) : Nat := (r.map (·.2.2)).sum
theorem wtR_app (r q : List Ak) : wtR (r ++ q) = wtR r + wtR q := by
  unfold wtR
  rw [List.map_append, List.sum_append]
theorem wtR_cons (a : Ak) (r : List Ak) : wtR (a :: r) = a.2.2 + wtR r := rfl
theorem Row.cons' {A : List Ak} {a : Ak} {r : List Ak} {f g : Str} (h : a ∈ A) (e : a.1.1 = f) (k : Row A a.2.1 r g) : Row A f (a :: r) g := e ▸ .cons h k
theorem Row.app {A : List Ak} {f g h : Str} {r q : List Ak} (a : Row A f r g) (b : Row A g q h) : Row A f (r ++ q) h := by
  induction a with
  | nil => exact b
  | cons m _ ih => exact .cons m (ih b)
theorem Row.snoc {A : List Ak} {f g : Str} {r : List Ak} {a : Ak} (h : Row A f r g) (m : a ∈ A) (e : a.1.1 = g) : Row A f (r ++ [a]) a.2.1 := h.app (.cons' m e .nil)
theorem Row.mem {A : List Ak} {f g : Str} {r : List Ak} (h : Row A f r g) : ∀ a ∈ r, a ∈ A := by
  induction h with
  | nil => exact fun _ z => nomatch z
  | cons m _ ih =>
    intro b hb
    rcases List.mem_cons.mp hb with z | z
    · rw [z]; exact m
    · exact ih b z
theorem Row.to {A : List Ak} {f g : Str} {r : List Ak} (h : Row A f r g) : ∀ b ∈ r, ∃ q, Row A f q b.1.1 := by
  induction h with
  | nil => exact fun _ z => nomatch z
  | @cons a r g m _ ih =>
    intro b hb
    rcases List.mem_cons.mp hb with z | z
    · rw [z]; exact ⟨[], .nil⟩
    · obtain ⟨q, hq⟩ := ih b z
      exact ⟨a :: q, .cons m hq⟩
/-- names that no ask leads out of -/
def Cl (A : List Ak) (N : List Str) : Prop := ∀ a ∈ A, a.1.1 ∈ N → a.2.1 ∈ N
theorem Row.cl {A : List Ak} {N : List Str} (c : Cl A N) {f g : Str} {r : List Ak} (h : Row A f r g) : f ∈ N → g ∈ N ∧ ∀ a ∈ r, a.1.1 ∈ N := by
  induction h with
  | nil => exact fun m => ⟨m, fun _ z => nomatch z⟩
  | @cons a r g m _ ih =>
    intro hf
    obtain ⟨x, y⟩ := ih (c a m hf)
    refine ⟨x, fun b hb => ?_⟩
    rcases List.mem_cons.mp hb with z | z
    · rw [z]; exact hf
    · exact y b z
/-! ### no ring: so many weigh at most -/
def NR (A : List Ak) (N : List Str) : Prop := ∀ a ∈ A, 0 < a.2.2 → a.1.1 ∈ N → ∀ r, ¬ Row A a.2.1 r a.1.1
def srcs (r : List Ak) : List Str := (r.filter fun a => decide (0 < a.2.2)).map (·.1.1)
theorem srcs_mem {r : List Ak} {s : Str} (h : s ∈ srcs r) : ∃ a ∈ r, 0 < a.2.2 ∧ a.1.1 = s := by
  obtain ⟨a, ha, e⟩ := List.mem_map.mp h
  obtain ⟨h1, h2⟩ := List.mem_filter.mp ha
  exact ⟨a, h1, of_decide_eq_true h2, e⟩
theorem nodup_le : ∀ {xs ys : List Str}, xs.Nodup → (∀ x ∈ xs, x ∈ ys) → xs.length ≤ ys.length
  | [], ys, _, _ => Nat.zero_le _
  | x :: xs, ys, nd, h => by
    obtain ⟨n1, n2⟩ := List.nodup_cons.mp nd
    have hx : x ∈ ys := h x List.mem_cons_self
    have l := List.length_erase_of_mem hx
    have i := nodup_le (xs := xs) (ys := ys.erase x) n2 fun y hy => (List.mem_erase_of_ne (show y ≠ x from fun e => n1 (by rw [← e]; exact hy))).mpr (h y (List.mem_cons_of_mem _ hy))
    have p : 0 < ys.length := List.length_pos_of_mem hx
    rw [List.length_cons]
    omega
theorem srcs_ok {A : List Ak} {N : List Str} (c : Cl A N) (nr : NR A N) {f g : Str} {r : List Ak} (h : Row A f r g) : f ∈ N → (srcs r).Nodup ∧ ∀ s ∈ srcs r, s ∈ N := by
  induction h with
  | nil => exact fun _ => ⟨List.nodup_nil, fun _ z => nomatch z⟩
  | @cons a r g m k ih =>
    intro hf
    obtain ⟨x, y⟩ := ih (c a m hf)
    by_cases w : 0 < a.2.2
    · have e : srcs (a :: r) = a.1.1 :: srcs r := by
        unfold srcs
        rw [List.filter_cons_of_pos (by exact decide_eq_true w)]
        rfl
      rw [e]
      refine ⟨List.nodup_cons.mpr ⟨fun z => ?_, x⟩, fun s hs => ?_⟩
      · obtain ⟨b, hb, _, e2⟩ := srcs_mem z
        obtain ⟨q, hq⟩ := k.to b hb
        rw [e2] at hq
        exact nr a m w hf q hq
      · rcases List.mem_cons.mp hs with z | z
        · rw [z]; exact hf
        · exact y s z
    · have e : srcs (a :: r) = srcs r := by
        unfold srcs
        rw [List.filter_cons_of_neg (by show ¬ decide (0 < a.2.2) = true; rw [decide_eq_false w]; exact Bool.false_ne_true)]
      rw [e]
      exact ⟨x, y⟩
theorem wt_srcs {A : List Ak} (w1 : ∀ a ∈ A, a.2.2 ≤ 1) : ∀ {r : List Ak}, (∀ a ∈ r, a ∈ A) → wtR r = (srcs r).length
  | [], _ => rfl
  | a :: r, h => by
    have i := wt_srcs w1 (r := r) fun b hb => h b (List.mem_cons_of_mem _ hb)
    have ha := w1 a (h a List.mem_cons_self)
    rw [wtR_cons, i]
    by_cases w : 0 < a.2.2
    · have e : srcs (a :: r) = a.1.1 :: srcs r := by
        unfold srcs
        rw [List.filter_cons_of_pos (by exact decide_eq_true w)]
        rfl
      rw [e, List.length_cons]
      omega
    · have e : srcs (a :: r) = srcs r := by
        unfold srcs
        rw [List.filter_cons_of_neg (by show ¬ decide (0 < a.2.2) = true; rw [decide_eq_false w]; exact Bool.false_ne_true)]
      rw [e]
      omega
theorem wt_le {A : List Ak} {N : List Str} (c : Cl A N) (nr : NR A N) (w1 : ∀ a ∈ A, a.2.2 ≤ 1) {f g : Str} {r : List Ak} (h : Row A f r g) (hf : f ∈ N) : wtR r ≤ N.length := by
  obtain ⟨x, y⟩ := srcs_ok c nr h hf
  rw [wt_srcs w1 h.mem]
  exact nodup_le x y
/-! ### levels -/
def Up (A : List Ak) (N : List Str) (lv : Str → Nat) : Prop := ∀ a ∈ A, a.1.1 ∈ N → lv a.2.1 + a.2.2 ≤ lv a.1.1
def Re (A : List Ak) (N : List Str) (lv : Str → Nat) : Prop := ∀ n ∈ N, ∃ r g, Row A n r g ∧ wtR r = lv n
theorem Up.row {A : List Ak} {N : List Str} {lv : Str → Nat} (u : Up A N lv) (c : Cl A N) {f g : Str} {r : List Ak} (h : Row A f r g) : f ∈ N → wtR r + lv g ≤ lv f := by
  induction h with
  | nil => exact fun _ => by show 0 + _ ≤ _; omega
  | @cons a r g m k ih =>
    intro hf
    have := ih (c a m hf)
    have := u a m hf
    rw [wtR_cons]
    omega
theorem first_w {A : List Ak} {f g : Str} {r : List Ak} (h : Row A f r g) : 0 < wtR r → ∃ p a q, r = p ++ a :: q ∧ wtR p = 0 ∧ 0 < a.2.2 ∧ a ∈ A ∧ Row A f p a.1.1 ∧ Row A a.2.1 q g := by
  induction h with
  | nil => exact fun z => absurd z (Nat.lt_irrefl 0)
  | @cons a r g m k ih =>
    intro hw
    by_cases w : 0 < a.2.2
    · exact ⟨[], a, r, rfl, rfl, w, m, .nil, k⟩
    · rw [wtR_cons] at hw
      obtain ⟨p, b, q, e1, e2, e3, e4, e5, e6⟩ := ih (by omega)
      exact ⟨a :: p, b, q, by rw [e1]; rfl, by rw [wtR_cons]; omega, e3, e4, .cons m e5, e6⟩
/-- there is an ask to one level below -/
theorem step_there {A : List Ak} {N : List Str} {lv : Str → Nat} (u : Up A N lv) (re : Re A N lv) (c : Cl A N) (w1 : ∀ a ∈ A, a.2.2 ≤ 1) {f : Str} (hf : f ∈ N) (h : 0 < lv f) : ∃ p a, Row A f p a.1.1 ∧ a ∈ A ∧ 0 < a.2.2 ∧ lv a.2.1 + 1 = lv f := by
  obtain ⟨r, g, hr, e⟩ := re f hf
  obtain ⟨p, a, q, e1, e2, e3, e4, e5, e6⟩ := first_w hr (by omega)
  have hs := (e5.cl c hf).1
  have h1 := u.row c e6 (c a e4 hs)
  have h2 := u.row c e5 hf
  have h3 := u a e4 hs
  have h4 := w1 a e4
  rw [e1, wtR_app, wtR_cons] at e
  exact ⟨p, a, e5, e4, e3, by omega⟩
/-- rows to all that can be come to -/
structure RowsOk (A : List Ak) (f : Str) (R : List (Str × List Ak)) : Prop where
  nd : (R.map (·.1)).Nodup
  st : f ∈ R.map (·.1)
  so : ∀ x ∈ R, Row A f x.2 x.1
  cl : Cl A (R.map (·.1))
theorem RowsOk.all {A : List Ak} {f : Str} {R : List (Str × List Ak)} (h : RowsOk A f R) {g : Str} {r : List Ak} (k : Row A f r g) : g ∈ R.map (·.1) := (k.cl h.cl h.st).1
/-! ### levels found by rounds -/
def sumL (N : List Str) (lv : Str → Nat) : Nat := (N.map lv).sum
theorem sum_le {N : List Str} {lv : Str → Nat} {B : Nat} (h : ∀ n ∈ N, lv n ≤ B) : sumL N lv ≤ N.length * B := by
  unfold sumL
  induction N with
  | nil => exact Nat.zero_le _
  | cons n N ih =>
    have h1 := h n List.mem_cons_self
    have h2 := ih fun m hm => h m (List.mem_cons_of_mem _ hm)
    rw [List.map_cons, List.sum_cons, List.length_cons, Nat.succ_mul]
    omega
def setL (lv : Str → Nat) (x : Str) (v : Nat) : Str → Nat := fun y => if y = x then v else lv y
theorem sum_set {N : List Str} {lv : Str → Nat} {x : Str} {v : Nat} (hv : lv x < v) : x ∈ N → sumL N lv < sumL N (setL lv x v) := by
  have mono : ∀ M : List Str, sumL M lv ≤ sumL M (setL lv x v) := by
    intro M
    unfold sumL
    induction M with
    | nil => exact Nat.le_refl _
    | cons n M ih =>
      rw [List.map_cons, List.sum_cons, List.map_cons, List.sum_cons]
      have : lv n ≤ setL lv x v n := by
        unfold setL
        split
        · rename_i e; rw [e]; omega
        · exact Nat.le_refl _
      omega
  intro hx
  induction N with
  | nil => cases hx
  | cons n M ih =>
    have m := mono M
    show lv n + sumL M lv < setL lv x v n + sumL M (setL lv x v)
    rcases List.mem_cons.mp hx with z | z
    · have : setL lv x v n = v := if_pos z.symm
      rw [this, ← z]
      omega
    · have := ih z
      have : lv n ≤ setL lv x v n := by
        unfold setL
        split
        · rename_i e; rw [e]; omega
        · exact Nat.le_refl _
      omega
theorem Re.set {A : List Ak} {N : List Str} {lv : Str → Nat} (re : Re A N lv) (c : Cl A N) {a : Ak} (ha : a ∈ A) (hs : a.1.1 ∈ N) : Re A N (setL lv a.1.1 (lv a.2.1 + a.2.2)) := by
  intro n hn
  by_cases e : n = a.1.1
  · obtain ⟨r, g, hr, hw⟩ := re a.2.1 (c a ha hs)
    refine ⟨a :: r, g, .cons' ha e.symm hr, ?_⟩
    rw [wtR_cons, show setL lv a.1.1 (lv a.2.1 + a.2.2) n = lv a.2.1 + a.2.2 from if_pos e]
    omega
  · obtain ⟨r, g, hr, hw⟩ := re n hn
    refine ⟨r, g, hr, ?_⟩
    rw [show setL lv a.1.1 (lv a.2.1 + a.2.2) n = lv n from if_neg e]
    exact hw
theorem Re.le {A : List Ak} {N : List Str} {lv : Str → Nat} (re : Re A N lv) (c : Cl A N) (nr : NR A N) (w1 : ∀ a ∈ A, a.2.2 ≤ 1) : ∀ n ∈ N, lv n ≤ N.length := fun n hn => by
  obtain ⟨r, g, hr, hw⟩ := re n hn
  rw [← hw]
  exact wt_le c nr w1 hr hn
end KB

namespace KB
open PySem L2 HT LamX NdefX

/-! ### asks in the heap -/
def keyA (p : Pl) : List L2.Key := keyP p.1 p.2
def AkE (H : Hp) (a : Ak) (kv : List L2.Key × V) : Prop := kv.1 = keyA a.1 ∧ ∃ b, kv.2 = .ref b ∧ H b = some (.tup [.str a.2.1, .int (a.2.2 : Int)])
def AkL (H : Hp) : List Ak → List (List L2.Key × V) → Prop
  | [], [] => True
  | a :: as, kv :: kvs => AkE H a kv ∧ AkL H as kvs
  | _, _ => False
theorem AkL.tk {H H' : Hp} (t : TK H H') : ∀ {as : List Ak} {kvs : List (List L2.Key × V)}, AkL H as kvs → AkL H' as kvs
  | [], [], _ => trivial
  | _ :: _, _ :: _, ⟨⟨e, b, h1, h2⟩, r⟩ => ⟨⟨e, b, h1, t _ _ h2⟩, r.tk t⟩
  | [], _ :: _, h => h.elim
  | _ :: _, [], h => h.elim
theorem AkL.app {H : Hp} {a : Ak} {kv : List L2.Key × V} (s : AkE H a kv) : ∀ {as : List Ak} {kvs : List (List L2.Key × V)}, AkL H as kvs → AkL H (as ++ [a]) (kvs ++ [kv])
  | [], [], _ => ⟨s, trivial⟩
  | _ :: _, _ :: _, ⟨x, r⟩ => ⟨x, r.app s⟩
  | [], _ :: _, h => h.elim
  | _ :: _, [], h => h.elim
theorem AkL.keys {H : Hp} : ∀ {as : List Ak} {kvs : List (List L2.Key × V)}, AkL H as kvs → kvs.map (·.1) = as.map fun a => keyA a.1
  | [], [], _ => rfl
  | _ :: _, _ :: _, ⟨x, r⟩ => by rw [List.map_cons, List.map_cons, x.1, r.keys]
  | [], _ :: _, h => h.elim
  | _ :: _, [], h => h.elim
theorem AkL.len {H : Hp} {as : List Ak} {kvs : List (List L2.Key × V)} (h : AkL H as kvs) : kvs.length = as.length := by
  have := congrArg List.length h.keys
  rwa [List.length_map, List.length_map] at this
theorem AkL.get {H : Hp} : ∀ {as : List Ak} {kvs : List (List L2.Key × V)}, AkL H as kvs → ∀ {i : Nat} {kv : List L2.Key × V}, kvs[i]? = some kv → ∃ a, as[i]? = some a ∧ AkE H a kv
  | [], [], _, i, kv, h => by simp at h
  | a :: as, kv0 :: kvs, ⟨x, r⟩, 0, kv, h => by
    rw [List.getElem?_cons_zero] at h
    cases h
    exact ⟨a, rfl, x⟩
  | a :: as, kv0 :: kvs, ⟨x, r⟩, i + 1, kv, h => by
    rw [List.getElem?_cons_succ] at h
    exact r.get h
  | [], _ :: _, h, _, _, _ => h.elim
  | _ :: _, [], h, _, _, _ => h.elim
theorem keyA_inj {p q : Pl} (h : keyA p = keyA q) : p = q := by
  have h1 : (Sum.inr p.1 : L2.Key) = Sum.inr q.1 := (List.cons.inj h).1
  have e : p.1 = q.1 := Sum.inr.inj h1
  have h' : keyP p.1 p.2 = keyP p.1 q.2 := by
    have z : keyP p.1 p.2 = keyP q.1 q.2 := h
    rw [z, e]
  exact Prod.ext e (keyP_inj h')
theorem keyA_V (p : Pl) : (keyA p).map kV = .str p.1 :: p.2.map V.int := keyP_V p.1 p.2
def PlAt (H : Hp) (p : Pl) (b : Addr) : Prop := H b = some (.tup (.str p.1 :: p.2.map V.int))
/-! ### asks of parts -/
def akOf (nm : Str) (e : List Int × Nd) : Option Ak := match e.2 with
  | .inl (.ask g _ j) => some ((nm, e.1), g, if j = "home" then 0 else 1)
  | _ => none
def asksE (e : TEr) : List Ak := (plQ e.2.2).filterMap (akOf e.1)
def asksB (es : List TEr) : List Ak := (es.map asksE).flatten
theorem akOf_pl {nm : Str} {e : List Int × Nd} {a : Ak} (h : akOf nm e = some a) : a.1 = (nm, e.1) ∧ a.2.2 ≤ 1 := by
  obtain ⟨ks, n⟩ := e
  cases n with
  | inl p =>
    cases p with
    | ask g ts j =>
      have : some (((nm, ks), g, if j = "home" then 0 else 1) : Ak) = some a := h
      cases this
      refine ⟨rfl, ?_⟩
      show (if j = "home" then 0 else 1) ≤ 1
      split <;> decide
    | _ => cases h
  | inr t => cases h
theorem asks_take {es : List TEr} {i : Nat} {e : TEr} (h : es[i]? = some e) : asksB (es.take (i + 1)) = asksB (es.take i) ++ asksE e := by
  obtain ⟨hi, he⟩ := List.getElem?_eq_some_iff.mp h
  unfold asksB
  rw [List.take_succ_eq_append_getElem hi, List.map_append, List.flatten_append, he]
  simp
theorem asksE_nm {e : TEr} {a : Ak} (h : a ∈ asksE e) : a.1.1 = e.1 ∧ a.2.2 ≤ 1 := by
  obtain ⟨x, hx, hh⟩ := List.mem_filterMap.mp h
  obtain ⟨h1, h2⟩ := akOf_pl hh
  exact ⟨by rw [h1], h2⟩
theorem asksE_nd (e : TEr) : ((asksE e).map (·.1)).Nodup := by
  have h1 : ((plQ e.2.2).map (·.1)).Nodup := pl_nd TrN _ (.inl e.2.2) (Nat.le_refl _)
  have sub : ∀ l : List (List Int × Nd), ((l.filterMap (akOf e.1)).map (·.1)).Sublist (l.map fun x => (e.1, x.1)) := by
    intro l
    induction l with
    | nil => exact List.Sublist.slnil
    | cons x l ih =>
      rw [List.filterMap_cons]
      cases hx : akOf e.1 x with
      | none => exact ih.trans (List.sublist_cons_self _ _)
      | some a =>
        rw [List.map_cons, List.map_cons, (akOf_pl hx).1]
        exact ih.cons_cons _
  refine (sub _).nodup ?_
  rw [show (plQ e.2.2).map (fun x => (e.1, x.1)) = ((plQ e.2.2).map (·.1)).map fun k => (e.1, k) from (List.map_map ..).symm]
  exact List.pairwise_map.mpr (h1.imp fun hab z => hab (Prod.mk.inj z).2)
theorem asksB_nd {es : List TEr} (h : (es.map (·.1)).Nodup) : ((asksB es).map (·.1)).Nodup := by
  induction es with
  | nil => exact List.nodup_nil
  | cons e r ih =>
    obtain ⟨n1, n2⟩ := List.nodup_cons.mp h
    have e1 : asksB (e :: r) = asksE e ++ asksB r := rfl
    rw [e1, List.map_append]
    refine List.nodup_append.mpr ⟨asksE_nd e, ih n2, fun x hx y hy z => ?_⟩
    obtain ⟨a, ha, rfl⟩ := List.mem_map.mp hx
    obtain ⟨b, hb, rfl⟩ := List.mem_map.mp hy
    obtain ⟨l, hl, hb2⟩ := List.mem_flatten.mp hb
    obtain ⟨e2, he2, rfl⟩ := List.mem_map.mp hl
    have h1 := (asksE_nm ha).1
    have h2 := (asksE_nm hb2).1
    refine n1 (List.mem_map.mpr ⟨e2, he2, ?_⟩)
    exact h2.symm.trans ((congrArg Prod.fst z).symm.trans h1)
theorem asksB_w {es : List TEr} : ∀ a ∈ asksB es, a.2.2 ≤ 1 := fun a ha => by
  obtain ⟨l, hl, hb2⟩ := List.mem_flatten.mp ha
  obtain ⟨e2, he2, rfl⟩ := List.mem_map.mp hl
  exact (asksE_nm hb2).2
theorem asksE_len (e : TEr) : (asksE e).length ≤ ncnt e.2.2 := by
  have h1 : (plQ e.2.2).length = ncnt e.2.2 := TrN.pl_len _ (.inl e.2.2) (Nat.le_refl _)
  rw [← h1]
  exact List.length_filterMap_le _ _
theorem asksB_len {es : List TEr} (h : ∀ e ∈ es, ncnt e.2.2 ≤ 1000) : (asksB es).length ≤ 1000 * es.length := by
  induction es with
  | nil => exact Nat.zero_le _
  | cons e r ih =>
    have e1 : asksB (e :: r) = asksE e ++ asksB r := rfl
    have := ih fun x hx => h x (List.mem_cons_of_mem _ hx)
    have := asksE_len e
    have := h e List.mem_cons_self
    rw [e1, List.length_append, List.length_cons]
    omega
theorem But1.tkD {D : Addr} {H H' : Hp} {kvs : List (List L2.Key × V)} (h : H D = some (.dT kvs)) (e : But1 D H H') : TK H H' := fun a xs ha => e a _ (fun z => by rw [z, h] at ha; cases ha) ha
theorem head_ask {H : Hp} {n : Nd} {a : Addr} (h : NAt H n a) : ∃ (x : Str) (r : List V), H a = some (.tup (.str x :: r)) ∧ (x = "ask" → ∃ g ts j, n = .inl (.ask g ts j)) := by
  cases n with
  | inl p =>
    obtain ⟨r, hr⟩ := h.1.head
    refine ⟨hsP p, r, hr, fun e => ?_⟩
    obtain ⟨g, ts, j, rfl⟩ := hsP_ask e
    exact ⟨g, ts, j, rfl⟩
  | inr t =>
    obtain ⟨hT, hsi⟩ := h
    obtain ⟨hh, n, k⟩ := t
    obtain ⟨ys, l, _⟩ := hT
    obtain ⟨r, hd⟩ := l.head
    refine ⟨_, r, hd, fun e => ?_⟩
    have e1 := (simple_mk hsi).1
    cases hh with
    | num z => exact absurd (show ("number" : Str) = "ask" from e) (by decide)
    | nam z => exact absurd (show ("name" : Str) = "ask" from e) (by decide)
    | plus => exact absurd (show ("plus" : Str) = "ask" from e) (by decide)
    | less => exact absurd (show ("less" : Str) = "ask" from e) (by decide)
    | _ => cases e1
section
variable {P : Program} {w : World} {K : PySem.W.Frag} {mg : Str → Option Value} {base : Heap}
/-! ### asks_placed -/
def spAsks : Sp := fun vs H Q _ => ∃ (p : Addr) (es : List TEr) (us : List V), vs = [.ref p] ∧ TBkAt H es us p ∧ es.length ≤ 6 ∧ (∀ e ∈ es, kP e.2.2 ∧ ncnt e.2.2 ≤ 1000) ∧ (es.map (·.1)).Nodup ∧
  ∀ D H' kvs, H D = none → Same H H' → H' D = some (.dT kvs) → AkL H' (asksB es) kvs → Q (.ref D) H'
abbrev sasks_placed : Stmt := top 21
theorem scasks_placed : FnScope ["turned", "asks", "name", "names", "body", "place", "part"] ["turned"] (defScope sasks_placed) := ⟨rfl, rfl, rfl, by decide +kernel, rfl, by decide +kernel, by decide +kernel⟩
theorem ok_asks {th : Value} (eh : mg "HOME" = some th) (rh : RelV (.str "home") th) {f f1 f2 : Addr} {fd d1 d2 : FuncData} (F : Fun K "asks_placed" "asks_placed" sasks_placed f fd)
    (Gplaced : FnOk P w K mg base CX0 3 f1 d1 ["name", "body", "parts"] (spPlaced TrN f2)) (Rplaced : Ref K mg "placed" f1 d1 ["name", "body", "parts"]) (Rturned_parts : Ref K mg "turned_parts" f2 d2 ["part"]) : FnOk P w K mg base CX0 4 f fd ["turned"] spAsks := by
  refine F.ok scasks_placed (fun vs H Q E h => ?_) (fun cdv A outer s H vs Q E hr h => ?_)
  · obtain ⟨p, es, us, rfl, _⟩ := h
    rfl
  obtain ⟨p, es, us, rfl, hB, hl6, hk, hnd, q⟩ := h
  refine ⟨_, (pss_cons (ps_set (i := 1) scasks_placed.nd rfl (Or.inl rfl) pe_dnewT)
    (pss_cons (ps_for PassesOwn.never rfl (pi_tup (pv 0)) (pg_tup rfl (pgs_cons (pg_name (i := 2) scasks_placed.nd rfl (Or.inl rfl)) (pgs_cons (pg_name (i := 3) scasks_placed.nd rfl (Or.inl rfl)) (pgs_cons (pg_name (i := 4) scasks_placed.nd rfl (Or.inl rfl)) pgs_nil)))) (pss_one (ps_for PassesOwn.never rfl (pi_list (pe_call Gplaced (hr.mono (by omega)) rfl Rplaced.m Rplaced.k Rplaced.b .nil pass0 (pa_cons (pv 2) (pa_cons (pv 4) (pa_cons (pe_glob (v := .ref f2) rfl Rturned_parts.m rfl) pa_nil))))) (pg_tup rfl (pgs_cons (pg_name (i := 5) scasks_placed.nd rfl (Or.inl rfl)) (pgs_cons (pg_name (i := 6) scasks_placed.nd rfl (Or.inl rfl)) pgs_nil))) (pss_one (ps_if (pt_cmpR op_eq (pe_ix ix_tup (pv 6) pe_int (fun _ _ => rfl)) pe_str (nomark _)) (pss_one (ps_dput (hu_of hr) (pv 1) (pv 5) (pe_tup (pa_cons (pe_ix ix_tup (pv 6) pe_int (fun _ _ => rfl)) (pa_cons (pe_ifExp (pt_cmpR op_eq (pe_ix ix_tup (pv 6) pe_int (fun _ _ => rfl)) (pe_glob (v := .str "home") rfl eh rh) (nomark _)) pe_int pe_int) pa_nil))) rfl)) pss_nil)))))
    (pss_one (ps_ret (pv 1))))), ?_⟩
  refine fun D hD => ?_
  have s0 := same_new hD (.dT [])
  have hndA := asksB_nd hnd
  refine ⟨_, rfl, p, rfl, ⟨_, SqT.of (s0 _ _ hB.1)⟩, for_tup (xs := us) (fun i σ H' => ∃ o2 o3 o4 o5 o6 kvs, σ = [some (.ref p), some (.ref D), o2, o3, o4, o5, o6] ∧ Same H H' ∧ H' D = some (.dT kvs) ∧ AkL H' (asksB (es.take i)) kvs) ⟨_, _, _, _, _, [], rfl, s0, upd_same, by rw [List.take_zero]; exact trivial⟩ ?_ ?_ ?_⟩
  · rintro i σ H' _ ⟨o2, o3, o4, o5, o6, kvs, rfl, s1, _⟩
    exact SqT.of (s1 _ _ hB.1)
  · rintro i x σ H1 hx ⟨o2, o3, o4, o5, o6, kvs, rfl, s1, h1, k1⟩
    obtain ⟨e, he, qa, r, b, rfl, g1, g2, g3⟩ := hB.2.get hx
    obtain ⟨hke, hne⟩ := hk e (mem_of_get he)
    refine ⟨qa, _, rfl, SqT.of (s1 _ _ g1), rfl, _, _, rfl, _, _, rfl, _, _, rfl, rfl, ?_⟩
    refine ⟨_, rfl, _, rfl, e.1, b, .inl e.2.2, rfl, ⟨PAt.tk (tk_same s1) g3, hke⟩, hne, fun L H2 its hL s2 h2 k2 => ?_⟩
    have k2' : All2 (EntV NAt H2 [.str e.1]) (plQ e.2.2) its := k2
    have hlp : its.length = ncnt e.2.2 := k2'.len.trans (TrN.pl_len _ (.inl e.2.2) (Nat.le_refl _))
    have nL : L ≠ D := fun z => by rw [z, h1] at hL; cases hL
    have hD2 := s2 _ _ h1
    have k12 := k1.tk (tk_same s2)
    have fD : ∀ {X : Hp} {A : List Ak} {kv : List (List L2.Key × V)}, AkL X A kv → A.length ≤ 6000 → kv.length ≤ 6000 := fun k h => by rw [k.len]; exact h
    have big := asksB_len (es := es.take (i + 1)) fun x hx => (hk x (List.mem_of_mem_take hx)).2
    have hl6' : (es.take (i + 1)).length ≤ es.length := by rw [List.length_take]; omega
    rw [asks_take he, List.length_append] at big
    refine ⟨L, rfl, ⟨_, SqL.of h2⟩, for_list (K := K) (a := L) (xs := its) (fun j σ H' => ∃ o5 o6 kvs, σ = [some (.ref p), some (.ref D), some (.str e.1), some (.ref r), some (.ref b), o5, o6] ∧ But1 D H2 H' ∧ H' D = some (.dT kvs) ∧ AkL H' (asksB (es.take i) ++ ((plQ e.2.2).take j).filterMap (akOf e.1)) kvs) ⟨_, _, kvs, rfl, But1.refl _ _, hD2, by rw [List.take_zero]; simpa using k12⟩ ?_ ?_ ?_⟩
    · rintro j σ H' _ ⟨o5, o6, kvs, rfl, b3, _⟩
      exact SqL.of (b3 _ _ nL h2)
    · rintro j x σ H3 hx ⟨o5, o6, kvs3, rfl, b3, h3, k3⟩
      obtain ⟨en, hen, q2, r2, b2, rfl, e1, e2, e3⟩ := k2'.get hx
      obtain ⟨hj, hj2⟩ := List.getElem?_eq_some_iff.mp hen
      have tk3 := But1.tkD hD2 b3
      refine ⟨q2, _, rfl, SqT.of (tk3 _ _ e1), rfl, _, _, rfl, _, _, rfl, rfl, ?_⟩
      obtain ⟨hx0, rr, hh, hask⟩ := head_ask e3
      have bj : (((plQ e.2.2).take j).filterMap (akOf e.1)).length ≤ (asksE e).length := (List.Sublist.filterMap _ (List.take_sublist j _)).length_le
      have step : (asksB (es.take i) ++ ((plQ e.2.2).take (j + 1)).filterMap (akOf e.1)) = (asksB (es.take i) ++ ((plQ e.2.2).take j).filterMap (akOf e.1)) ++ [en].filterMap (akOf e.1) := by
        rw [List.take_succ_eq_append_getElem hj, hj2, List.filterMap_append, List.append_assoc]
      refine ⟨_, rfl, b2, _, _, _, rfl, rfl, SqT.of (tk3 _ _ hh), at0, rfl, _, rfl, ?_⟩
      refine ite2 (fun c => ?_) (fun c => ?_)
      · obtain ⟨g, ts, jj, hn⟩ := hask (V.str.inj (of_decide_eq_true c))
        obtain ⟨ks, nd⟩ := en
        dsimp only at hn
        subst hn
        obtain ⟨⟨tb, tvs, t1, t2, t3⟩, _⟩ : PAt H2 (.ask g ts jj) b2 ∧ kP (.ask g ts jj) := e3
        have hak : akOf e.1 (ks, .inl (.ask g ts jj)) = some ((e.1, ks), g, if jj = "home" then 0 else 1) := rfl
        have e2' : H2 r2 = some (.tup (.str e.1 :: ks.map V.int)) := e2
        have fin : ∀ (wv : Nat) (tt : Addr) (H4 : Hp), wv = (if jj = "home" then 0 else 1) → H3 tt = none → H4 = upd H3 tt (.tup [.str g, .int (wv : Int)]) → ∃ o5 o6 kvs, [some (V.ref p), some (.ref D), some (.str e.1), some (.ref r), some (.ref b), some (.ref r2), some (.ref b2)] = [some (V.ref p), some (.ref D), some (.str e.1), some (.ref r), some (.ref b), o5, o6] ∧ But1 D H2 (upd H4 D (.dT (putK kvs3 (keyA (e.1, ks)) (.ref tt)))) ∧ (upd H4 D (.dT (putK kvs3 (keyA (e.1, ks)) (.ref tt)))) D = some (.dT kvs) ∧ AkL (upd H4 D (.dT (putK kvs3 (keyA (e.1, ks)) (.ref tt)))) (asksB (es.take i) ++ ((plQ e.2.2).take (j + 1)).filterMap (akOf e.1)) kvs := by
          intro wv tt H4 hw htt hH4
          have s4 : Same H3 H4 := by rw [hH4]; exact same_new htt _
          have ht4 : H4 tt = some (.tup [.str g, .int (wv : Int)]) := by rw [hH4]; exact upd_same
          have ntD : tt ≠ D := fun z => by rw [z, h3] at htt; cases htt
          have hnew : keyA (e.1, ks) ∉ kvs3.map (·.1) := by
            rw [k3.keys]
            intro z
            obtain ⟨a, ha, ea⟩ := List.mem_map.mp z
            have ea' : a.1 = (e.1, ks) := keyA_inj ea
            have full : ((asksB (es.take i) ++ ((plQ e.2.2).take (j + 1)).filterMap (akOf e.1)).map (·.1)).Sublist ((asksB es).map (·.1)) := by
              refine List.Sublist.map _ ?_
              have a1 : (asksB (es.take i) ++ asksE e).Sublist (asksB es) := by
                rw [← asks_take he]
                unfold asksB
                have : (es.take (i + 1)) ++ es.drop (i + 1) = es := List.take_append_drop _ _
                conv => rhs; rw [← this, List.map_append, List.flatten_append]
                exact List.sublist_append_left _ _
              exact (List.Sublist.append (List.Sublist.refl _) (List.Sublist.filterMap _ (List.take_sublist _ _))).trans a1
            have nd := full.nodup hndA
            rw [step, List.map_append] at nd
            have hl : [(ks, (.inl (.ask g ts jj) : Nd))].filterMap (akOf e.1) = [((e.1, ks), g, if jj = "home" then 0 else 1)] := rfl
            rw [hl] at nd
            exact (List.nodup_append.mp nd).2.2 _ (List.mem_map.mpr ⟨a, ha, rfl⟩) _ List.mem_cons_self ea'
          rw [put_new hnew]
          have tkD : TK H4 (upd H4 D (.dT (kvs3 ++ [(keyA (e.1, ks), .ref tt)]))) := fun y ys hy => by
            rw [upd_ne (fun z => by rw [z, s4 _ _ h3] at hy; cases hy)]
            exact hy
          refine ⟨_, _, _, rfl, fun y o ny hy => ?_, upd_same, ?_⟩
          · rw [upd_ne ny]
            exact s4 _ _ (b3 y o ny hy)
          · rw [step]
            exact ((k3.tk ((tk_same s4).trans tkD)).app ⟨rfl, tt, rfl, by rw [← hw]; exact tkD _ _ ht4⟩)
        refine ⟨_, rfl, b2, _, _, _, rfl, rfl, SqT.of (tk3 _ _ t1), at1, ?_⟩
        refine ⟨_, rfl, b2, _, _, _, rfl, rfl, SqT.of (tk3 _ _ t1), at3, rfl, _, rfl, ?_⟩
        refine ite2 (fun c2 => ?_) (fun c2 => ?_)
        · have hjj : jj = "home" := V.str.inj (of_decide_eq_true c2)
          refine ⟨sz (by show 2 ≤ 100000; decide), fun tt htt => ?_⟩
          refine ⟨_, rfl, _, rfl, D, _, rfl, DPut.t (k := keyA (e.1, ks)) ((same_new htt _) _ _ h3) ((same_new htt _) _ _ (by rw [keyA_V]; exact tk3 _ _ e2')) (Nat.lt_of_le_of_lt (fD k3 ?_) (by decide)), fin 0 tt _ (by rw [if_pos hjj]) htt rfl⟩
          rw [List.length_append]
          omega
        · have hjj : ¬ jj = "home" := fun z => c2 (decide_eq_true (congrArg V.str z))
          refine ⟨sz (by show 2 ≤ 100000; decide), fun tt htt => ?_⟩
          refine ⟨_, rfl, _, rfl, D, _, rfl, DPut.t (k := keyA (e.1, ks)) ((same_new htt _) _ _ h3) ((same_new htt _) _ _ (by rw [keyA_V]; exact tk3 _ _ e2')) (Nat.lt_of_le_of_lt (fD k3 ?_) (by decide)), fin 1 tt _ (by rw [if_neg hjj]) htt rfl⟩
          rw [List.length_append]
          omega
      · refine ⟨_, _, kvs3, rfl, b3, h3, ?_⟩
        rw [step]
        have : akOf e.1 en = none := by
          cases hq : akOf e.1 en with
          | none => rfl
          | some a =>
            obtain ⟨ks, nd⟩ := en
            cases nd with
            | inl p =>
              cases p with
              | ask g ts jj =>
                obtain ⟨⟨tb, tvs, t1, _⟩, _⟩ : PAt H2 (.ask g ts jj) b2 ∧ kP (.ask g ts jj) := e3
                rw [t1] at hh
                cases hh
                exact absurd (decide_eq_true rfl) c
              | _ => cases hq
            | inr t => cases hq
        rw [show [en].filterMap (akOf e.1) = [] by rw [List.filterMap_cons, this]; rfl, List.append_nil]
        exact k3
    · rintro σ H3 ⟨o5, o6, kvs3, rfl, b3, h3, k3⟩
      rw [hlp, show ncnt e.2.2 = (plQ e.2.2).length from (TrN.pl_len _ (.inl e.2.2) (Nat.le_refl _)).symm, List.take_length] at k3
      refine ⟨_, _, _, _, _, kvs3, rfl, fun y o hy => b3 _ _ (fun z => by rw [z, hD] at hy; cases hy) (s2 _ _ (s1 _ _ hy)), h3, ?_⟩
      rw [asks_take he]
      exact k3
  · rintro σ H1 ⟨o2, o3, o4, o5, o6, kvs, rfl, s1, h1, k1⟩
    rw [hB.2.len, List.take_length] at k1
    exact ⟨_, rfl, q D H1 kvs hD s1 h1 k1⟩
end
end KB

namespace KB
open PySem L2 HT LamX NdefX

/-! ### rows in the heap -/
def PlcV (H : Hp) (p : Pl) (v : V) : Prop := ∃ b, v = .ref b ∧ H b = some (.tup (.str p.1 :: p.2.map V.int))
theorem PlcV.tk {H H' : Hp} (t : TK H H') {p : Pl} {v : V} (h : PlcV H p v) : PlcV H' p v := let ⟨b, e, k⟩ := h; ⟨b, e, t _ _ k⟩
def RwE (H : Hp) (W : Addr → Prop) (x : Str × List Ak) (kv : L2.Key × V) : Prop := kv.1 = .inr x.1 ∧ ∃ l vs, kv.2 = .ref l ∧ W l ∧ H l = some (.lst vs) ∧ All2 (PlcV H) (x.2.map (·.1)) vs
def RwL (H : Hp) (W : Addr → Prop) : List (Str × List Ak) → List (L2.Key × V) → Prop
  | [], [] => True
  | x :: xs, kv :: kvs => RwE H W x kv ∧ RwL H W xs kvs
  | _, _ => False
def LK (W : Addr → Prop) (H H' : Hp) : Prop := ∀ l vs, W l → H l = some (.lst vs) → H' l = some (.lst vs)
theorem RwL.mono {H H' : Hp} {W : Addr → Prop} (l : LK W H H') (t : TK H H') : ∀ {R : List (Str × List Ak)} {kvs : List (L2.Key × V)}, RwL H W R kvs → RwL H' W R kvs
  | [], [], _ => trivial
  | _ :: _, _ :: _, ⟨⟨e, a, vs, h1, h2, h3, h4⟩, r⟩ => ⟨⟨e, a, vs, h1, h2, l _ _ h2 h3, h4.imp fun _ _ z => z.tk t⟩, r.mono l t⟩
  | [], _ :: _, h => h.elim
  | _ :: _, [], h => h.elim
theorem RwL.app {H : Hp} {W : Addr → Prop} {x : Str × List Ak} {kv : L2.Key × V} (s : RwE H W x kv) : ∀ {R : List (Str × List Ak)} {kvs : List (L2.Key × V)}, RwL H W R kvs → RwL H W (R ++ [x]) (kvs ++ [kv])
  | [], [], _ => ⟨s, trivial⟩
  | _ :: _, _ :: _, ⟨y, r⟩ => ⟨y, r.app s⟩
  | [], _ :: _, h => h.elim
  | _ :: _, [], h => h.elim
theorem RwL.keys {H : Hp} {W : Addr → Prop} : ∀ {R : List (Str × List Ak)} {kvs : List (L2.Key × V)}, RwL H W R kvs → kvs.map (·.1) = R.map fun x => (.inr x.1 : L2.Key)
  | [], [], _ => rfl
  | _ :: _, _ :: _, ⟨y, r⟩ => by rw [List.map_cons, List.map_cons, y.1, r.keys]
  | [], _ :: _, h => h.elim
  | _ :: _, [], h => h.elim
theorem RwL.len {H : Hp} {W : Addr → Prop} {R : List (Str × List Ak)} {kvs : List (L2.Key × V)} (h : RwL H W R kvs) : kvs.length = R.length := by
  have := congrArg List.length h.keys
  rwa [List.length_map, List.length_map] at this
theorem valV_no {κ : Type} [DecidableEq κ] : ∀ {kvs : List (κ × V)} {k : κ}, k ∉ kvs.map (·.1) → valV kvs k = none := by
  intro kvs k h
  unfold valV
  rw [List.find?_eq_none.mpr fun x hx => ?_]
  · rfl
  · intro e
    exact h (List.mem_map.mpr ⟨x, hx, of_decide_eq_true e⟩)
theorem RwL.there {H : Hp} {W : Addr → Prop} : ∀ {R : List (Str × List Ak)} {kvs : List (L2.Key × V)}, RwL H W R kvs → ∀ {n : Str}, n ∈ R.map (·.1) → ∃ x kv, x ∈ R ∧ x.1 = n ∧ valV kvs (.inr n) = some kv.2 ∧ RwE H W x kv
  | [], [], _, _, h => nomatch h
  | x :: R, kv :: kvs, ⟨y, r⟩, n, h => by
    by_cases c : x.1 = n
    · refine ⟨x, kv, List.mem_cons_self, c, ?_, y⟩
      unfold valV
      rw [List.find?_cons_of_pos (by exact decide_eq_true (by rw [y.1, c]))]
      rfl
    · have hn : n ∈ R.map (·.1) := by
        rcases List.mem_cons.mp h with z | z
        · exact absurd z.symm c
        · exact z
      obtain ⟨x', kv', a, b, e, f⟩ := r.there hn
      refine ⟨x', kv', List.mem_cons_of_mem _ a, b, ?_, f⟩
      unfold valV at e ⊢
      rw [List.find?_cons_of_neg (by show ¬ decide (kv.1 = .inr n) = true; rw [decide_eq_false (fun z => by rw [y.1] at z; exact c (Sum.inr.inj z))]; exact Bool.false_ne_true)]
      exact e
  | [], _ :: _, h, _, _ => h.elim
  | _ :: _, [], h, _, _ => h.elim
theorem RwL.val {H : Hp} {W : Addr → Prop} {R : List (Str × List Ak)} {kvs : List (L2.Key × V)} (h : RwL H W R kvs) (n : Str) : (valV kvs (.inr n)).isSome = decide (n ∈ R.map (·.1)) := by
  by_cases c : n ∈ R.map (·.1)
  · obtain ⟨_, kv, _, _, e, _⟩ := h.there c
    rw [e, decide_eq_true c]
    rfl
  · rw [valV_no (by rw [h.keys]; intro z; obtain ⟨x, hx, e⟩ := List.mem_map.mp z; exact c (List.mem_map.mpr ⟨x, hx, Sum.inr.inj e⟩)), decide_eq_false c]
    rfl
theorem putK_new {κ : Type} [DecidableEq κ] {kvs : List (κ × V)} {k : κ} {v : V} (h : k ∉ kvs.map (·.1)) : putK kvs k v = kvs ++ [(k, v)] := by
  unfold putK
  rw [if_neg]
  intro z
  obtain ⟨x, hx, e⟩ := List.any_eq_true.mp z
  exact h (List.mem_map.mpr ⟨x, hx, of_decide_eq_true e⟩)
/-! ### what is known of rows as they are found -/
structure RI (A : List Ak) (f : Str) (R : List (Str × List Ak)) (ws : List Str) : Prop where
  nd : (R.map (·.1)).Nodup
  st : f ∈ R.map (·.1)
  so : ∀ x ∈ R, Row A f x.2 x.1
  sub : ∀ x ∈ R.map (·.1), x ∈ f :: A.map (·.2.1)
  wk : ∀ x ∈ ws, x ∈ R.map (·.1)
  ln : ∀ x ∈ R, x.2.length < R.length
def meas (A : List Ak) (R : List (Str × List Ak)) (ws : List Str) : Nat := 2 * (A.length + 1 - R.length) + ws.length
theorem RI.len {A : List Ak} {f : Str} {R : List (Str × List Ak)} {ws : List Str} (h : RI A f R ws) : R.length ≤ A.length + 1 := by
  have := nodup_le h.nd h.sub
  rwa [List.length_map, List.length_cons, List.length_map] at this
theorem RI.add {A : List Ak} {f : Str} {R : List (Str × List Ak)} {ws : List Str} (h : RI A f R ws) {a : Ak} (ha : a ∈ A) {x : Str × List Ak} (hx : x ∈ R) (e : x.1 = a.1.1) (hn : a.2.1 ∉ R.map (·.1)) :
    RI A f (R ++ [(a.2.1, x.2 ++ [a])]) (ws ++ [a.2.1]) ∧ meas A (R ++ [(a.2.1, x.2 ++ [a])]) (ws ++ [a.2.1]) + 1 = meas A R ws := by
  have k : (R ++ [(a.2.1, x.2 ++ [a])]).map (·.1) = R.map (·.1) ++ [a.2.1] := by rw [List.map_append]; rfl
  have r : RI A f (R ++ [(a.2.1, x.2 ++ [a])]) (ws ++ [a.2.1]) := by
    refine ⟨?_, ?_, fun y hy => ?_, fun y hy => ?_, fun y hy => ?_, fun y hy => ?_⟩
    · rw [k]
      exact List.nodup_append.mpr ⟨h.nd, by simp, fun y hy z hz e => hn (by rw [← List.mem_singleton.mp hz, ← e]; exact hy)⟩
    · rw [k]; exact List.mem_append_left _ h.st
    · rcases List.mem_append.mp hy with z | z
      · exact h.so y z
      · rw [List.mem_singleton.mp z]
        exact (h.so x hx).snoc ha e.symm
    · rw [k] at hy
      rcases List.mem_append.mp hy with z | z
      · exact h.sub y z
      · rw [List.mem_singleton.mp z]
        exact List.mem_cons_of_mem _ (List.mem_map.mpr ⟨a, ha, rfl⟩)
    · rw [k]
      rcases List.mem_append.mp hy with z | z
      · exact List.mem_append_left _ (h.wk y z)
      · exact List.mem_append_right _ z
    · rw [List.length_append, List.length_singleton]
      rcases List.mem_append.mp hy with z | z
      · have := h.ln y z
        omega
      · rw [List.mem_singleton.mp z]
        have := h.ln x hx
        show (x.2 ++ [a]).length < _
        rw [List.length_append, List.length_singleton]
        omega
  refine ⟨r, ?_⟩
  have := r.len
  unfold meas
  rw [List.length_append, List.length_singleton] at this ⊢
  rw [List.length_append, List.length_singleton]
  omega
/-- nothing but these may be written -/
def Fr3 (D W a : Addr) (H H' : Hp) : Prop := ∀ b o, b ≠ D → b ≠ W → b ≠ a → H b = some o → H' b = some o
section
variable {P : Program} {w : World} {K : PySem.W.Frag} {mg : Str → Option Value} {base : Heap}
/-! ### rows_from -/
abbrev srows_from : Stmt := top 22
theorem scrows_from : FnScope ["f", "asks", "rows", "waiting", "name", "place", "asked", "weight"] ["f", "asks"] (defScope srows_from) := ⟨rfl, rfl, rfl, by decide +kernel, rfl, by decide +kernel, by decide +kernel⟩
def WN (H : Hp) (W : Addr) (l : Addr) : Prop := l ≠ W ∧ H l = none
theorem none_back {H H' : Hp} {a : Addr} (s : Same H H') (h : H' a = none) : H a = none := by
  cases e : H a with
  | none => rfl
  | some o => rw [s _ _ e] at h; cases h
def spRows : Sp := fun vs H Q _ => ∃ (f : Str) (aD : Addr) (A : List Ak) (akvs : List (List L2.Key × V)), vs = [.str f, .ref aD] ∧ H aD = some (.dT akvs) ∧ AkL H A akvs ∧ A.length ≤ 10000 ∧
  ∀ D H' R kvs (W : Addr → Prop), H D = none → Same H H' → (∀ l, W l → H l = none) → H' D = some (.dK kvs) → RwL H' W R kvs → RowsOk A f R → R.length ≤ A.length + 1 → (∀ x ∈ R, x.2.length < R.length) → Q (.ref D) H'
theorem ok_rows {f : Addr} {fd : FuncData} (F : Fun K "rows_from" "rows_from" srows_from f fd) : FnOk P w K mg base CX0 1 f fd ["f", "asks"] spRows := by
  refine F.ok scrows_from (fun vs H Q E h => ?_) (fun cdv A outer s H vs Q E hr h => ?_)
  · obtain ⟨f, aD, A, akvs, rfl, _⟩ := h
    rfl
  obtain ⟨f, aD, A, akvs, rfl, hA, hk, hlA, q⟩ := h
  refine ⟨_, (pss_cons (ps_set (i := 2) scrows_from.nd rfl (Or.inl rfl) (pe_disp (pps_cons (pv 0) (pe_lst pa_nil) pps_nil) (by rfl) (by rfl) (fun z => by cases z) (by decide)))
    (pss_cons (ps_set (i := 3) scrows_from.nd rfl (Or.inl rfl) (pe_lst (pa_cons (pv 0) pa_nil)))
    (pss_cons (ps_while PassesOwn.never (pt_truth (pv 3) (by intro _; rfl)) (pss_cons (ps_set (i := 4) scrows_from.nd rfl (Or.inl rfl) (pe_bm0 PySem.F.plainAttrs_list PySem.F.slot_list_pop PySem.F.type_list_pop mt_pop (pv 3)))
    (pss_one (ps_lock (ps_for PassesOwn.never rfl (pi_tupItems (pv 1)) (pg_tup rfl (pgs_cons (pg_name (i := 5) scrows_from.nd rfl (Or.inl rfl)) (pgs_cons (pg_tup rfl (pgs_cons (pg_name (i := 6) scrows_from.nd rfl (Or.inl rfl)) (pgs_cons (pg_name (i := 7) scrows_from.nd rfl (Or.inl rfl)) pgs_nil))) pgs_nil))) (pss_one (ps_if (PW.pt (pw_and (pt_cmpR op_eq (pe_ix ix_tup (pv 5) pe_int (fun _ _ => rfl)) (pv 4) (nomark _)) (pw_and1 (pt_cmp (pc_dnotin (hu_of hr) (pv 6) (pv 2)))))) (pss_cons (ps_dput (hu_of hr) (pv 2) (pv 6) (pe_lst (StX.pa_star (pe_dget (hu_of hr) (pv 2) (pv 4) (fun _ _ => rfl)) (pa_cons (pv 5) pa_nil))) rfl)
    (pss_one (ps_expr (pe_bm PySem.F.plainAttrs_list PySem.F.slot_list_append PySem.F.type_list_append mt_append (pv 3) (pa_cons (pv 6) pa_nil))))) pss_nil)))))))
    (pss_one (ps_ret (pv 2)))))), ?_⟩
  -- rows, waiting
  refine fun D hD => ⟨_, rfl, sz (by show 0 ≤ 100000; decide), fun l0 hl0 => ?_⟩
  have sD := same_new hD (.dK [])
  have s0 := same_new hl0 (.lst [])
  refine ⟨s0 _ _ upd_same, [((.inr f : L2.Key), .ref l0)], rfl, by show 1 ≤ 15; decide, ?_⟩
  rw [show mergeK [] [((.inr f : L2.Key), V.ref l0)] = [((.inr f : L2.Key), V.ref l0)] from rfl]
  have hl0' := hl0
  have nlD : l0 ≠ D := fun z => by rw [z, upd_same] at hl0; cases hl0
  have s1 : Same H (upd (upd (upd H D (.dK [])) l0 (.lst [])) D (.dK [((.inr f : L2.Key), V.ref l0)])) := same_mut (sD.trans s0) hD
  have g1 : (upd (upd (upd H D (.dK [])) l0 (.lst [])) D (.dK [((.inr f : L2.Key), V.ref l0)])) D = some (.dK [((.inr f : L2.Key), V.ref l0)]) := upd_same
  have g2 : (upd (upd (upd H D (.dK [])) l0 (.lst [])) D (.dK [((.inr f : L2.Key), V.ref l0)])) l0 = some (.lst []) := by rw [upd_ne nlD]; exact upd_same
  generalize upd (upd (upd H D (.dK [])) l0 (.lst [])) D (.dK [((.inr f : L2.Key), V.ref l0)]) = H1 at s1 g1 g2
  refine ⟨_, rfl, sz (by show 1 ≤ 100000; decide), fun W hW => ?_⟩
  have s2 := same_new hW (.lst [.str f])
  have nl0H : H l0 = none := none_back (sD) hl0'
  have nDW : D ≠ W := fun z => by rw [← z, g1] at hW; cases hW
  have nlW : l0 ≠ W := fun z => by rw [← z, g2] at hW; cases hW
  have naD : aD ≠ D := fun z => by rw [← z, hA] at hD; cases hD
  have hW0 : H W = none := by
    cases e : H W with
    | none => rfl
    | some o => rw [s1 _ _ e] at hW; cases hW
  have naW : aD ≠ W := fun z => by rw [← z, hA] at hW0; cases hW0
  -- while
  refine ⟨fun m σ H' => ∃ (o4 o5 o6 o7 : Option V) (R : List (Str × List Ak)) (ws : List Str) (kvs : List (L2.Key × V)), σ = [some (.str f), some (.ref aD), some (.ref D), some (.ref W), o4, o5, o6, o7] ∧ Same H H' ∧ H' D = some (.dK kvs) ∧ H' W = some (.lst (ws.map V.str)) ∧ RwL H' (WN H W) R kvs ∧ RI A f R ws ∧ (∀ a ∈ A, a.1.1 ∈ R.map (·.1) → a.1.1 ∉ ws → a.2.1 ∈ R.map (·.1)) ∧ m = meas A R ws ∧ meas A R ws ≤ 20001,
    ⟨_, _, _, _, _, [(f, [])], [f], _, rfl, s1.trans s2, s2 _ _ g1, upd_same, ⟨⟨rfl, l0, [], rfl, ⟨nlW, nl0H⟩, s2 _ _ g2, trivial⟩, trivial⟩, ⟨by simp, List.mem_cons_self, fun x hx => by rw [List.mem_singleton.mp hx]; exact .nil, fun x hx => by rw [List.mem_singleton.mp hx]; exact List.mem_cons_self, fun x hx => hx, fun x hx => by rw [List.mem_singleton.mp hx]; show 0 < 1; decide⟩, fun a _ h1 h2 => absurd (show a.1.1 ∈ [f] by simpa using h1) h2, rfl, by show 2 * (A.length + 1 - 1) + 1 ≤ 20001; omega⟩, ?_⟩
  rintro m σ H2 ⟨o4, o5, o6, o7, R, ws, kvs, rfl, s12, h1, h2, hR, hI, hcl, rfl, hle⟩
  refine ⟨_, rfl, _, .inl ⟨_, SqL.of h2, rfl⟩, ?_⟩
  rcases List.eq_nil_or_concat ws with rfl | ⟨ws', name, ews⟩
  · refine itF rfl ⟨_, rfl, q D H2 R kvs (WN H W) hD s12 (fun _ z => z.2) h1 hR ⟨hI.nd, hI.st, hI.so, fun a ha hs => hcl a ha hs (fun z => nomatch z)⟩ hI.len hI.ln⟩
  · rw [List.concat_eq_append] at ews
    subst ews
    have hne : ((ws' ++ [name]).map V.str).isEmpty = false := by cases ws' <;> rfl
    refine itT (by rw [hne]; rfl) ?_
    refine ⟨fun σ' H' => ∃ m', m' < meas A R (ws' ++ [name]) ∧ ∃ (o4 o5 o6 o7 : Option V) (R : List (Str × List Ak)) (ws : List Str) (kvs : List (L2.Key × V)), σ' = [some (.str f), some (.ref aD), some (.ref D), some (.ref W), o4, o5, o6, o7] ∧ Same H H' ∧ H' D = some (.dK kvs) ∧ H' W = some (.lst (ws.map V.str)) ∧ RwL H' (WN H W) R kvs ∧ RI A f R ws ∧ (∀ a ∈ A, a.1.1 ∈ R.map (·.1) → a.1.1 ∉ ws → a.2.1 ∈ R.map (·.1)) ∧ m' = meas A R ws ∧ meas A R ws ≤ 20001, fun _ _ z => z, ?_⟩
    have elast : ((ws' ++ [name]).map V.str)[((ws' ++ [name]).map V.str).length - 1]? = some (.str name) := by
      rw [List.map_append, List.length_append]
      simp
    have edrop : ((ws' ++ [name]).map V.str).dropLast = ws'.map V.str := by
      rw [List.map_append]
      simp
    refine ⟨_, rfl, .inl ⟨rfl, _, SqL.of h2⟩, W, _, .str name, rfl, rfl, h2, elast, ?_⟩
    rw [edrop]
    have tkW : TK H2 (upd H2 W (.lst (ws'.map V.str))) := tk_put h2
    have lkW : LK (WN H W) H2 (upd H2 W (.lst (ws'.map V.str))) := fun l vs n hl => by rw [upd_ne n.1]; exact hl
    have hR3 := hR.mono lkW tkW
    have h13 : (upd H2 W (.lst (ws'.map V.str))) D = some (.dK kvs) := by rw [upd_ne nDW]; exact h1
    have h23 : (upd H2 W (.lst (ws'.map V.str))) W = some (.lst (ws'.map V.str)) := upd_same
    have s13 : Same H (upd H2 W (.lst (ws'.map V.str))) := same_mut s12 hW0
    generalize upd H2 W (.lst (ws'.map V.str)) = H3 at hR3 h13 h23 s13
    clear hR tkW lkW h2 h1 s12
    have hI3 : RI A f R ws' := ⟨hI.nd, hI.st, hI.so, hI.sub, fun x hx => hI.wk x (List.mem_append_left _ hx), hI.ln⟩
    have hnk : name ∈ R.map (·.1) := hI.wk name (List.mem_append_right _ List.mem_cons_self)
    have hm3 : meas A R ws' + 1 = meas A R (ws' ++ [name]) := by unfold meas; rw [List.length_append, List.length_singleton]; omega
    have hcl3 : ∀ a ∈ A, a.1.1 ∈ R.map (·.1) → a.1.1 ∉ ws' → a.1.1 ≠ name → a.2.1 ∈ R.map (·.1) := fun a ha h1 h2 h3 => hcl a ha h1 fun z => by
      rcases List.mem_append.mp z with y | y
      · exact h2 y
      · exact h3 (List.mem_singleton.mp y)
    clear hcl hI
    have hA3 := s13 _ _ hA
    -- for
    obtain ⟨M0, hM0⟩ : ∃ M0, M0 = meas A R (ws' ++ [name]) := ⟨_, rfl⟩
    rw [← hM0] at hm3 ⊢
    have hbig : M0 ≤ 40000 := by rw [hM0]; omega
    refine ⟨aD, .dT akvs, hA3, trivial, fun od => ?_⟩
    have hA4 : (upd H3 aD (.frz od (.dT akvs))) aD = some (.frz od (.dT akvs)) := upd_same
    have f4 : ∀ b o, b ≠ aD → H b = some o → (upd H3 aD (.frz od (.dT akvs))) b = some o := fun b o n h => by rw [upd_ne n]; exact s13 _ _ h
    have h14 : (upd H3 aD (.frz od (.dT akvs))) D = some (.dK kvs) := by rw [upd_ne naD.symm]; exact h13
    have h24 : (upd H3 aD (.frz od (.dT akvs))) W = some (.lst (ws'.map V.str)) := by rw [upd_ne naW.symm]; exact h23
    have hR4 := hR3.mono (H' := upd H3 aD (.frz od (.dT akvs))) (fun l vs _ h => by rw [upd_ne (fun z => by rw [z, hA3] at h; cases h)]; exact h) (fun b xs h => by rw [upd_ne (fun z => by rw [z, hA3] at h; cases h)]; exact h)
    generalize upd H3 aD (.frz od (.dT akvs)) = H4 at hA4 f4 h14 h24 hR4
    refine ⟨_, rfl, aD, od, akvs, rfl, hA4, for_it walk_tupItems (fun i σ H' => ∃ (o5 o6 o7 : Option V) (R : List (Str × List Ak)) (ws : List Str) (kvs : List (L2.Key × V)), σ = [some (.str f), some (.ref aD), some (.ref D), some (.ref W), some (.str name), o5, o6, o7] ∧ (∀ b o, b ≠ aD → H b = some o → H' b = some o) ∧ H' aD = some (.frz od (.dT akvs)) ∧ H' D = some (.dK kvs) ∧ H' W = some (.lst (ws.map V.str)) ∧ RwL H' (WN H W) R kvs ∧ RI A f R ws ∧ name ∈ R.map (·.1) ∧
      (∀ a ∈ A, a.1.1 ∈ R.map (·.1) → a.1.1 ∉ ws → a.1.1 ≠ name → a.2.1 ∈ R.map (·.1)) ∧ (∀ k a, k < i → A[k]? = some a → a.1.1 = name → a.2.1 ∈ R.map (·.1)) ∧ meas A R ws + 1 ≤ M0) ?_ ?_ ?_ ?_⟩
    · exact ⟨_, _, _, R, ws', kvs, rfl, f4, hA4, h14, h24, hR4, hI3, hnk, hcl3, fun k a h => absurd h (Nat.not_lt_zero k), Nat.le_of_eq hm3⟩
    · rintro i σ H5 _ ⟨o5, o6, o7, R, ws, kvs, rfl, _, h, _⟩
      exact h
    · rintro i x σ H5 H6 hi ⟨o5, o6, o7, R5, ws5, kvs5, rfl, f5, a5, h15, h25, hR5, hI5, hn5, hcl5, hp5, hm5⟩ ⟨T', k, v, qk, hkv, hq, rfl, hT, rfl⟩
      have tk5 : TK H H5 := fun b xs hb => f5 b _ (fun z => by rw [z, hA] at hb; cases hb) hb
      obtain ⟨a, ha, hk1, bv, hv, hb⟩ := hk.get hkv
      dsimp only at hk1 hv
      subst hk1 hv
      have hb5 := tk5 _ _ hb
      have sT := same_new hT (.tup [.ref qk, .ref bv])
      have ham := mem_of_get ha
      rw [keyA_V] at hq
      refine ⟨T', _, rfl, SqT.of upd_same, rfl, _, _, rfl, _, _, rfl, ⟨bv, _, rfl, SqT.of (sT _ _ hb5), rfl, _, _, rfl, _, _, rfl, rfl, rfl, ?_⟩⟩
      have f6 : ∀ b o, b ≠ aD → H b = some o → (upd H5 T' (.tup [.ref qk, .ref bv])) b = some o := fun b o n h => sT _ _ (f5 b o n h)
      have a6 := sT _ _ a5
      have h16 := sT _ _ h15
      have h26 := sT _ _ h25
      have hR6 := hR5.mono (fun l vs _ h => sT _ _ h) (tk_same sT)
      have hq6 := sT _ _ hq
      generalize upd H5 T' (.tup [.ref qk, .ref bv]) = H6 at f6 a6 h16 h26 hR6 hq6
      have done : (a.1.1 = name → a.2.1 ∈ R5.map (·.1)) → ∀ k a', k < i + 1 → A[k]? = some a' → a'.1.1 = name → a'.2.1 ∈ R5.map (·.1) := fun hd k a' hk' ha' hn' => by
        by_cases c : k = i
        · rw [c, ha] at ha'
          cases ha'
          exact hd hn'
        · exact hp5 k a' (by omega) ha' hn'
      refine ⟨_, rfl, qk, _, _, _, rfl, rfl, SqT.of hq6, at0, _, rfl, rfl, _, rfl, ?_⟩
      refine ite2 (fun c => ?_) (fun c => ⟨_, _, _, R5, ws5, kvs5, rfl, f6, a6, h16, h26, hR6, hI5, hn5, hcl5, done fun z => absurd (decide_eq_true (congrArg V.str z)) c, hm5⟩)
      have hsn : a.1.1 = name := V.str.inj (of_decide_eq_true c)
      refine ⟨_, rfl, _, rfl, D, _, rfl, DGet.k (k := .inr a.2.1) h16, _, rfl, ?_⟩
      rw [hR6.val]
      by_cases hin : a.2.1 ∈ R5.map (·.1)
      · refine itF (by rw [decide_eq_true hin]; rfl) ⟨_, _, _, R5, ws5, kvs5, rfl, f6, a6, h16, h26, hR6, hI5, hn5, hcl5, done fun _ => hin, hm5⟩
      · refine itT (by rw [decide_eq_false hin]; rfl) ?_
        obtain ⟨y, kvy, hy1, hy2, hy3, hy4, ly, vy, hy5, hy6, hy7, hy8⟩ := hR6.there hn5
        rw [hy5] at hy3
        obtain ⟨hI7, hm7⟩ := hI5.add ham hy1 (hy2.trans hsn.symm) hin
        refine ⟨_, rfl, _, rfl, D, .ref ly, rfl, by rw [← hy3]; exact DGet.k (k := .inr name) h16, ly, _, rfl, .inr (SqL.of hy7), _, rfl, ?_⟩
        have hvl : vy.length ≤ 10000 := by
          have e1 := hy8.len
          rw [List.length_map] at e1
          have := hI5.ln y hy1
          have := hI5.len
          omega
        refine ⟨sz (by rw [List.length_append, List.length_singleton]; omega), fun l7 hl7 => ?_⟩
        have s7 := same_new hl7 (.lst (vy ++ [.ref qk]))
        have nl7W : l7 ≠ W := fun z => by rw [z, h26] at hl7; cases hl7
        have nl7H : H l7 = none := by
          cases e : H l7 with
          | none => rfl
          | some o => rw [f6 _ _ (fun z => by rw [z, a6] at hl7; cases hl7) e] at hl7; cases hl7
        have nl7D : l7 ≠ D := fun z => by rw [z, h16] at hl7; cases hl7
        have hkl := hR6.len
        have hI5l := hI5.len
        refine ⟨_, rfl, _, rfl, D, _, rfl, DPut.k (k := .inr a.2.1) (s7 _ _ h16) (Nat.lt_of_le_of_lt (m := 10001) (by omega) (by decide)), ?_⟩
        rw [putK_new (by rw [hR6.keys]; intro z; obtain ⟨x, hx, e⟩ := List.mem_map.mp z; exact hin (List.mem_map.mpr ⟨x, hx, Sum.inr.inj e⟩))]
        have tk8 : TK (upd H6 l7 (.lst (vy ++ [.ref qk]))) (upd (upd H6 l7 (.lst (vy ++ [.ref qk]))) D (.dK (kvs5 ++ [((.inr a.2.1 : L2.Key), .ref l7)]))) := fun b xs hb => by
          rw [upd_ne (fun z => by rw [z, s7 _ _ h16] at hb; cases hb)]
          exact hb
        have lk8 : LK (WN H W) (upd H6 l7 (.lst (vy ++ [.ref qk]))) (upd (upd H6 l7 (.lst (vy ++ [.ref qk]))) D (.dK (kvs5 ++ [((.inr a.2.1 : L2.Key), .ref l7)]))) := fun l vs _ hl => by
          rw [upd_ne (fun z => by rw [z, s7 _ _ h16] at hl; cases hl)]
          exact hl
        have hR8 := ((hR6.mono (fun l vs _ h => s7 _ _ h) (tk_same s7)).mono lk8 tk8).app (x := (a.2.1, y.2 ++ [a])) (kv := ((.inr a.2.1 : L2.Key), .ref l7)) ⟨rfl, l7, vy ++ [.ref qk], rfl, ⟨nl7W, nl7H⟩, by rw [upd_ne nl7D]; exact upd_same, by
          rw [List.map_append]
          exact (hy8.imp fun _ _ z => (z.tk (tk_same s7)).tk tk8).app ⟨⟨qk, rfl, tk8 _ _ (s7 _ _ hq6)⟩, trivial⟩⟩
        have f8 : ∀ b o, b ≠ aD → H b = some o → (upd (upd H6 l7 (.lst (vy ++ [.ref qk]))) D (.dK (kvs5 ++ [((.inr a.2.1 : L2.Key), .ref l7)]))) b = some o := fun b o n h => by
          rw [upd_ne (fun z => by rw [z, hD] at h; cases h)]
          exact s7 _ _ (f6 b o n h)
        have a8 : (upd (upd H6 l7 (.lst (vy ++ [.ref qk]))) D (.dK (kvs5 ++ [((.inr a.2.1 : L2.Key), .ref l7)]))) aD = some (.frz od (.dT akvs)) := by
          rw [upd_ne naD]; exact s7 _ _ a6
        have h18 : (upd (upd H6 l7 (.lst (vy ++ [.ref qk]))) D (.dK (kvs5 ++ [((.inr a.2.1 : L2.Key), .ref l7)]))) D = some (.dK (kvs5 ++ [((.inr a.2.1 : L2.Key), .ref l7)])) := upd_same
        have h28 : (upd (upd H6 l7 (.lst (vy ++ [.ref qk]))) D (.dK (kvs5 ++ [((.inr a.2.1 : L2.Key), .ref l7)]))) W = some (.lst (ws5.map V.str)) := by
          rw [upd_ne nDW.symm]; exact s7 _ _ h26
        generalize upd (upd H6 l7 (.lst (vy ++ [.ref qk]))) D (.dK (kvs5 ++ [((.inr a.2.1 : L2.Key), .ref l7)])) = H8 at hR8 f8 a8 h18 h28
        have hwl : ws5.length ≤ 40000 := by
          have : meas A R5 ws5 = 2 * (A.length + 1 - R5.length) + ws5.length := rfl
          have := hbig
          omega
        refine ⟨_, rfl, .inl ⟨rfl, _, SqL.of h28⟩, _, rfl, W, _, _, rfl, rfl, h28, Nat.lt_of_le_of_lt (m := 40000) (by rw [List.length_map]; exact hwl) (by decide), ?_⟩
        refine ⟨_, _, _, R5 ++ [(a.2.1, y.2 ++ [a])], ws5 ++ [a.2.1], kvs5 ++ [((.inr a.2.1 : L2.Key), .ref l7)], rfl, fun b o n h => ?_, ?_, ?_, ?_, ?_, hI7, ?_, ?_, ?_, ?_⟩
        · rw [upd_ne (fun z => by rw [z, hW0] at h; cases h)]
          exact f8 b o n h
        · rw [upd_ne naW]; exact a8
        · rw [upd_ne nDW]; exact h18
        · rw [upd_same, List.map_append]; rfl
        · exact hR8.mono (fun l vs n hl => by rw [upd_ne n.1]; exact hl) (tk_put h28)
        · rw [List.map_append]; exact List.mem_append_left _ hn5
        · intro b hb' h1 h2 h3
          rw [List.map_append] at h1 ⊢
          have h2' : b.1.1 ∉ ws5 := fun z => h2 (List.mem_append_left _ z)
          rcases List.mem_append.mp h1 with z | z
          · exact List.mem_append_left _ (hcl5 b hb' z h2' h3)
          · exact absurd (List.mem_append_right ws5 z) h2
        · intro k a' hk' ha' hn'
          rw [List.map_append]
          by_cases c : k = i
          · rw [c, ha] at ha'
            cases ha'
            exact List.mem_append_right _ List.mem_cons_self
          · exact List.mem_append_left _ (hp5 k a' (by omega) ha' hn')
        · omega
    · rintro σ H5 ⟨o5, o6, o7, R5, ws5, kvs5, rfl, f5, a5, h15, h25, hR5, hI5, hn5, hcl5, hp5, hm5⟩
      rw [hk.len] at hp5
      refine ⟨a5, meas A R5 ws5, by omega, _, _, _, _, R5, ws5, kvs5, rfl, fun b o h => ?_, ?_, ?_, ?_, hI5, ?_, rfl, by omega⟩
      · by_cases c : b = aD
        · rw [c, hA] at h
          rw [c, upd_same]
          exact h
        · rw [upd_ne c]
          exact f5 b o c h
      · rw [upd_ne naD.symm]; exact h15
      · rw [upd_ne naW.symm]; exact h25
      · exact hR5.mono (fun l vs _ h => by rw [upd_ne (fun z => by rw [z, a5] at h; cases h)]; exact h) (fun b xs h => by rw [upd_ne (fun z => by rw [z, a5] at h; cases h)]; exact h)
      · intro a ha h1 h2
        by_cases c : a.1.1 = name
        · obtain ⟨k, hk', e⟩ := List.getElem_of_mem ha
          exact hp5 k a hk' (by rw [List.getElem?_eq_getElem hk', e]) c
        · exact hcl5 a ha h1 h2 c
def spRowsZ : Sp := fun vs H Q _ => ∃ (f : Str) (aD : Addr) (A : List Ak) (akvs : List (List L2.Key × V)) (od : Obj), vs = [.str f, .ref aD] ∧ H aD = some (.frz od (.dT akvs)) ∧ AkL H A akvs ∧ A.length ≤ 10000 ∧
  ∀ D H' R kvs (W : Addr → Prop), H D = none → Same H H' → (∀ l, W l → H l = none) → H' D = some (.dK kvs) → RwL H' W R kvs → RowsOk A f R → R.length ≤ A.length + 1 → (∀ x ∈ R, x.2.length < R.length) → Q (.ref D) H'
theorem ok_rowsZ {f : Addr} {fd : FuncData} (F : Fun K "rows_from" "rows_from" srows_from f fd) : FnOk P w K mg base CX0 1 f fd ["f", "asks"] spRowsZ := by
  refine F.ok scrows_from (fun vs H Q E h => ?_) (fun cdv A outer s H vs Q E hr h => ?_)
  · obtain ⟨f, aD, A, akvs, od, rfl, _⟩ := h
    rfl
  obtain ⟨f, aD, A, akvs, od, rfl, hA, hk, hlA, q⟩ := h
  refine ⟨_, (pss_cons (ps_set (i := 2) scrows_from.nd rfl (Or.inl rfl) (pe_disp (pps_cons (pv 0) (pe_lst pa_nil) pps_nil) (by rfl) (by rfl) (fun z => by cases z) (by decide)))
    (pss_cons (ps_set (i := 3) scrows_from.nd rfl (Or.inl rfl) (pe_lst (pa_cons (pv 0) pa_nil)))
    (pss_cons (ps_while PassesOwn.never (pt_truth (pv 3) (by intro _; rfl)) (pss_cons (ps_set (i := 4) scrows_from.nd rfl (Or.inl rfl) (pe_bm0 PySem.F.plainAttrs_list PySem.F.slot_list_pop PySem.F.type_list_pop mt_pop (pv 3)))
    (pss_one (ps_for PassesOwn.never rfl (pi_tupItems (pv 1)) (pg_tup rfl (pgs_cons (pg_name (i := 5) scrows_from.nd rfl (Or.inl rfl)) (pgs_cons (pg_tup rfl (pgs_cons (pg_name (i := 6) scrows_from.nd rfl (Or.inl rfl)) (pgs_cons (pg_name (i := 7) scrows_from.nd rfl (Or.inl rfl)) pgs_nil))) pgs_nil))) (pss_one (ps_if (PW.pt (pw_and (pt_cmpR op_eq (pe_ix ix_tup (pv 5) pe_int (fun _ _ => rfl)) (pv 4) (nomark _)) (pw_and1 (pt_cmp (pc_dnotin (hu_of hr) (pv 6) (pv 2)))))) (pss_cons (ps_dput (hu_of hr) (pv 2) (pv 6) (pe_lst (StX.pa_star (pe_dget (hu_of hr) (pv 2) (pv 4) (fun _ _ => rfl)) (pa_cons (pv 5) pa_nil))) rfl)
    (pss_one (ps_expr (pe_bm PySem.F.plainAttrs_list PySem.F.slot_list_append PySem.F.type_list_append mt_append (pv 3) (pa_cons (pv 6) pa_nil))))) pss_nil))))))
    (pss_one (ps_ret (pv 2)))))), ?_⟩
  -- rows, waiting
  refine fun D hD => ⟨_, rfl, sz (by show 0 ≤ 100000; decide), fun l0 hl0 => ?_⟩
  have sD := same_new hD (.dK [])
  have s0 := same_new hl0 (.lst [])
  refine ⟨s0 _ _ upd_same, [((.inr f : L2.Key), .ref l0)], rfl, by show 1 ≤ 15; decide, ?_⟩
  rw [show mergeK [] [((.inr f : L2.Key), V.ref l0)] = [((.inr f : L2.Key), V.ref l0)] from rfl]
  have hl0' := hl0
  have nlD : l0 ≠ D := fun z => by rw [z, upd_same] at hl0; cases hl0
  have s1 : Same H (upd (upd (upd H D (.dK [])) l0 (.lst [])) D (.dK [((.inr f : L2.Key), V.ref l0)])) := same_mut (sD.trans s0) hD
  have g1 : (upd (upd (upd H D (.dK [])) l0 (.lst [])) D (.dK [((.inr f : L2.Key), V.ref l0)])) D = some (.dK [((.inr f : L2.Key), V.ref l0)]) := upd_same
  have g2 : (upd (upd (upd H D (.dK [])) l0 (.lst [])) D (.dK [((.inr f : L2.Key), V.ref l0)])) l0 = some (.lst []) := by rw [upd_ne nlD]; exact upd_same
  generalize upd (upd (upd H D (.dK [])) l0 (.lst [])) D (.dK [((.inr f : L2.Key), V.ref l0)]) = H1 at s1 g1 g2
  refine ⟨_, rfl, sz (by show 1 ≤ 100000; decide), fun W hW => ?_⟩
  have s2 := same_new hW (.lst [.str f])
  have nl0H : H l0 = none := none_back (sD) hl0'
  have nDW : D ≠ W := fun z => by rw [← z, g1] at hW; cases hW
  have nlW : l0 ≠ W := fun z => by rw [← z, g2] at hW; cases hW
  have naD : aD ≠ D := fun z => by rw [← z, hA] at hD; cases hD
  have hW0 : H W = none := by
    cases e : H W with
    | none => rfl
    | some o => rw [s1 _ _ e] at hW; cases hW
  have naW : aD ≠ W := fun z => by rw [← z, hA] at hW0; cases hW0
  -- while
  refine ⟨fun m σ H' => ∃ (o4 o5 o6 o7 : Option V) (R : List (Str × List Ak)) (ws : List Str) (kvs : List (L2.Key × V)), σ = [some (.str f), some (.ref aD), some (.ref D), some (.ref W), o4, o5, o6, o7] ∧ Same H H' ∧ H' D = some (.dK kvs) ∧ H' W = some (.lst (ws.map V.str)) ∧ RwL H' (WN H W) R kvs ∧ RI A f R ws ∧ (∀ a ∈ A, a.1.1 ∈ R.map (·.1) → a.1.1 ∉ ws → a.2.1 ∈ R.map (·.1)) ∧ m = meas A R ws ∧ meas A R ws ≤ 20001,
    ⟨_, _, _, _, _, [(f, [])], [f], _, rfl, s1.trans s2, s2 _ _ g1, upd_same, ⟨⟨rfl, l0, [], rfl, ⟨nlW, nl0H⟩, s2 _ _ g2, trivial⟩, trivial⟩, ⟨by simp, List.mem_cons_self, fun x hx => by rw [List.mem_singleton.mp hx]; exact .nil, fun x hx => by rw [List.mem_singleton.mp hx]; exact List.mem_cons_self, fun x hx => hx, fun x hx => by rw [List.mem_singleton.mp hx]; show 0 < 1; decide⟩, fun a _ h1 h2 => absurd (show a.1.1 ∈ [f] by simpa using h1) h2, rfl, by show 2 * (A.length + 1 - 1) + 1 ≤ 20001; omega⟩, ?_⟩
  rintro m σ H2 ⟨o4, o5, o6, o7, R, ws, kvs, rfl, s12, h1, h2, hR, hI, hcl, rfl, hle⟩
  refine ⟨_, rfl, _, .inl ⟨_, SqL.of h2, rfl⟩, ?_⟩
  rcases List.eq_nil_or_concat ws with rfl | ⟨ws', name, ews⟩
  · refine itF rfl ⟨_, rfl, q D H2 R kvs (WN H W) hD s12 (fun _ z => z.2) h1 hR ⟨hI.nd, hI.st, hI.so, fun a ha hs => hcl a ha hs (fun z => nomatch z)⟩ hI.len hI.ln⟩
  · rw [List.concat_eq_append] at ews
    subst ews
    have hne : ((ws' ++ [name]).map V.str).isEmpty = false := by cases ws' <;> rfl
    refine itT (by rw [hne]; rfl) ?_
    refine ⟨fun σ' H' => ∃ m', m' < meas A R (ws' ++ [name]) ∧ ∃ (o4 o5 o6 o7 : Option V) (R : List (Str × List Ak)) (ws : List Str) (kvs : List (L2.Key × V)), σ' = [some (.str f), some (.ref aD), some (.ref D), some (.ref W), o4, o5, o6, o7] ∧ Same H H' ∧ H' D = some (.dK kvs) ∧ H' W = some (.lst (ws.map V.str)) ∧ RwL H' (WN H W) R kvs ∧ RI A f R ws ∧ (∀ a ∈ A, a.1.1 ∈ R.map (·.1) → a.1.1 ∉ ws → a.2.1 ∈ R.map (·.1)) ∧ m' = meas A R ws ∧ meas A R ws ≤ 20001, fun _ _ z => z, ?_⟩
    have elast : ((ws' ++ [name]).map V.str)[((ws' ++ [name]).map V.str).length - 1]? = some (.str name) := by
      rw [List.map_append, List.length_append]
      simp
    have edrop : ((ws' ++ [name]).map V.str).dropLast = ws'.map V.str := by
      rw [List.map_append]
      simp
    refine ⟨_, rfl, .inl ⟨rfl, _, SqL.of h2⟩, W, _, .str name, rfl, rfl, h2, elast, ?_⟩
    rw [edrop]
    have tkW : TK H2 (upd H2 W (.lst (ws'.map V.str))) := tk_put h2
    have lkW : LK (WN H W) H2 (upd H2 W (.lst (ws'.map V.str))) := fun l vs n hl => by rw [upd_ne n.1]; exact hl
    have hR3 := hR.mono lkW tkW
    have h13 : (upd H2 W (.lst (ws'.map V.str))) D = some (.dK kvs) := by rw [upd_ne nDW]; exact h1
    have h23 : (upd H2 W (.lst (ws'.map V.str))) W = some (.lst (ws'.map V.str)) := upd_same
    have s13 : Same H (upd H2 W (.lst (ws'.map V.str))) := same_mut s12 hW0
    generalize upd H2 W (.lst (ws'.map V.str)) = H3 at hR3 h13 h23 s13
    clear hR tkW lkW h2 h1 s12
    have hI3 : RI A f R ws' := ⟨hI.nd, hI.st, hI.so, hI.sub, fun x hx => hI.wk x (List.mem_append_left _ hx), hI.ln⟩
    have hnk : name ∈ R.map (·.1) := hI.wk name (List.mem_append_right _ List.mem_cons_self)
    have hm3 : meas A R ws' + 1 = meas A R (ws' ++ [name]) := by unfold meas; rw [List.length_append, List.length_singleton]; omega
    have hcl3 : ∀ a ∈ A, a.1.1 ∈ R.map (·.1) → a.1.1 ∉ ws' → a.1.1 ≠ name → a.2.1 ∈ R.map (·.1) := fun a ha h1 h2 h3 => hcl a ha h1 fun z => by
      rcases List.mem_append.mp z with y | y
      · exact h2 y
      · exact h3 (List.mem_singleton.mp y)
    clear hcl hI
    have hA3 := s13 _ _ hA
    -- for
    obtain ⟨M0, hM0⟩ : ∃ M0, M0 = meas A R (ws' ++ [name]) := ⟨_, rfl⟩
    rw [← hM0] at hm3 ⊢
    have hbig : M0 ≤ 40000 := by rw [hM0]; omega
    have hA4 := hA3
    have f4 : ∀ b o, b ≠ aD → H b = some o → H3 b = some o := fun b o _ h => s13 _ _ h
    have h14 := h13
    have h24 := h23
    have hR4 := hR3
    refine ⟨_, rfl, aD, od, akvs, rfl, hA4, for_it walk_tupItems (fun i σ H' => ∃ (o5 o6 o7 : Option V) (R : List (Str × List Ak)) (ws : List Str) (kvs : List (L2.Key × V)), σ = [some (.str f), some (.ref aD), some (.ref D), some (.ref W), some (.str name), o5, o6, o7] ∧ (∀ b o, b ≠ aD → H b = some o → H' b = some o) ∧ H' aD = some (.frz od (.dT akvs)) ∧ H' D = some (.dK kvs) ∧ H' W = some (.lst (ws.map V.str)) ∧ RwL H' (WN H W) R kvs ∧ RI A f R ws ∧ name ∈ R.map (·.1) ∧
      (∀ a ∈ A, a.1.1 ∈ R.map (·.1) → a.1.1 ∉ ws → a.1.1 ≠ name → a.2.1 ∈ R.map (·.1)) ∧ (∀ k a, k < i → A[k]? = some a → a.1.1 = name → a.2.1 ∈ R.map (·.1)) ∧ meas A R ws + 1 ≤ M0) ?_ ?_ ?_ ?_⟩
    · exact ⟨_, _, _, R, ws', kvs, rfl, f4, hA4, h14, h24, hR4, hI3, hnk, hcl3, fun k a h => absurd h (Nat.not_lt_zero k), Nat.le_of_eq hm3⟩
    · rintro i σ H5 _ ⟨o5, o6, o7, R, ws, kvs, rfl, _, h, _⟩
      exact h
    · rintro i x σ H5 H6 hi ⟨o5, o6, o7, R5, ws5, kvs5, rfl, f5, a5, h15, h25, hR5, hI5, hn5, hcl5, hp5, hm5⟩ ⟨T', k, v, qk, hkv, hq, rfl, hT, rfl⟩
      have tk5 : TK H H5 := fun b xs hb => f5 b _ (fun z => by rw [z, hA] at hb; cases hb) hb
      obtain ⟨a, ha, hk1, bv, hv, hb⟩ := hk.get hkv
      dsimp only at hk1 hv
      subst hk1 hv
      have hb5 := tk5 _ _ hb
      have sT := same_new hT (.tup [.ref qk, .ref bv])
      have ham := mem_of_get ha
      rw [keyA_V] at hq
      refine ⟨T', _, rfl, SqT.of upd_same, rfl, _, _, rfl, _, _, rfl, ⟨bv, _, rfl, SqT.of (sT _ _ hb5), rfl, _, _, rfl, _, _, rfl, rfl, rfl, ?_⟩⟩
      have f6 : ∀ b o, b ≠ aD → H b = some o → (upd H5 T' (.tup [.ref qk, .ref bv])) b = some o := fun b o n h => sT _ _ (f5 b o n h)
      have a6 := sT _ _ a5
      have h16 := sT _ _ h15
      have h26 := sT _ _ h25
      have hR6 := hR5.mono (fun l vs _ h => sT _ _ h) (tk_same sT)
      have hq6 := sT _ _ hq
      generalize upd H5 T' (.tup [.ref qk, .ref bv]) = H6 at f6 a6 h16 h26 hR6 hq6
      have done : (a.1.1 = name → a.2.1 ∈ R5.map (·.1)) → ∀ k a', k < i + 1 → A[k]? = some a' → a'.1.1 = name → a'.2.1 ∈ R5.map (·.1) := fun hd k a' hk' ha' hn' => by
        by_cases c : k = i
        · rw [c, ha] at ha'
          cases ha'
          exact hd hn'
        · exact hp5 k a' (by omega) ha' hn'
      refine ⟨_, rfl, qk, _, _, _, rfl, rfl, SqT.of hq6, at0, _, rfl, rfl, _, rfl, ?_⟩
      refine ite2 (fun c => ?_) (fun c => ⟨_, _, _, R5, ws5, kvs5, rfl, f6, a6, h16, h26, hR6, hI5, hn5, hcl5, done fun z => absurd (decide_eq_true (congrArg V.str z)) c, hm5⟩)
      have hsn : a.1.1 = name := V.str.inj (of_decide_eq_true c)
      refine ⟨_, rfl, _, rfl, D, _, rfl, DGet.k (k := .inr a.2.1) h16, _, rfl, ?_⟩
      rw [hR6.val]
      by_cases hin : a.2.1 ∈ R5.map (·.1)
      · refine itF (by rw [decide_eq_true hin]; rfl) ⟨_, _, _, R5, ws5, kvs5, rfl, f6, a6, h16, h26, hR6, hI5, hn5, hcl5, done fun _ => hin, hm5⟩
      · refine itT (by rw [decide_eq_false hin]; rfl) ?_
        obtain ⟨y, kvy, hy1, hy2, hy3, hy4, ly, vy, hy5, hy6, hy7, hy8⟩ := hR6.there hn5
        rw [hy5] at hy3
        obtain ⟨hI7, hm7⟩ := hI5.add ham hy1 (hy2.trans hsn.symm) hin
        refine ⟨_, rfl, _, rfl, D, .ref ly, rfl, by rw [← hy3]; exact DGet.k (k := .inr name) h16, ly, _, rfl, .inr (SqL.of hy7), _, rfl, ?_⟩
        have hvl : vy.length ≤ 10000 := by
          have e1 := hy8.len
          rw [List.length_map] at e1
          have := hI5.ln y hy1
          have := hI5.len
          omega
        refine ⟨sz (by rw [List.length_append, List.length_singleton]; omega), fun l7 hl7 => ?_⟩
        have s7 := same_new hl7 (.lst (vy ++ [.ref qk]))
        have nl7W : l7 ≠ W := fun z => by rw [z, h26] at hl7; cases hl7
        have nl7H : H l7 = none := by
          cases e : H l7 with
          | none => rfl
          | some o => rw [f6 _ _ (fun z => by rw [z, a6] at hl7; cases hl7) e] at hl7; cases hl7
        have nl7D : l7 ≠ D := fun z => by rw [z, h16] at hl7; cases hl7
        have hkl := hR6.len
        have hI5l := hI5.len
        refine ⟨_, rfl, _, rfl, D, _, rfl, DPut.k (k := .inr a.2.1) (s7 _ _ h16) (Nat.lt_of_le_of_lt (m := 10001) (by omega) (by decide)), ?_⟩
        rw [putK_new (by rw [hR6.keys]; intro z; obtain ⟨x, hx, e⟩ := List.mem_map.mp z; exact hin (List.mem_map.mpr ⟨x, hx, Sum.inr.inj e⟩))]
        have tk8 : TK (upd H6 l7 (.lst (vy ++ [.ref qk]))) (upd (upd H6 l7 (.lst (vy ++ [.ref qk]))) D (.dK (kvs5 ++ [((.inr a.2.1 : L2.Key), .ref l7)]))) := fun b xs hb => by
          rw [upd_ne (fun z => by rw [z, s7 _ _ h16] at hb; cases hb)]
          exact hb
        have lk8 : LK (WN H W) (upd H6 l7 (.lst (vy ++ [.ref qk]))) (upd (upd H6 l7 (.lst (vy ++ [.ref qk]))) D (.dK (kvs5 ++ [((.inr a.2.1 : L2.Key), .ref l7)]))) := fun l vs _ hl => by
          rw [upd_ne (fun z => by rw [z, s7 _ _ h16] at hl; cases hl)]
          exact hl
        have hR8 := ((hR6.mono (fun l vs _ h => s7 _ _ h) (tk_same s7)).mono lk8 tk8).app (x := (a.2.1, y.2 ++ [a])) (kv := ((.inr a.2.1 : L2.Key), .ref l7)) ⟨rfl, l7, vy ++ [.ref qk], rfl, ⟨nl7W, nl7H⟩, by rw [upd_ne nl7D]; exact upd_same, by
          rw [List.map_append]
          exact (hy8.imp fun _ _ z => (z.tk (tk_same s7)).tk tk8).app ⟨⟨qk, rfl, tk8 _ _ (s7 _ _ hq6)⟩, trivial⟩⟩
        have f8 : ∀ b o, b ≠ aD → H b = some o → (upd (upd H6 l7 (.lst (vy ++ [.ref qk]))) D (.dK (kvs5 ++ [((.inr a.2.1 : L2.Key), .ref l7)]))) b = some o := fun b o n h => by
          rw [upd_ne (fun z => by rw [z, hD] at h; cases h)]
          exact s7 _ _ (f6 b o n h)
        have a8 : (upd (upd H6 l7 (.lst (vy ++ [.ref qk]))) D (.dK (kvs5 ++ [((.inr a.2.1 : L2.Key), .ref l7)]))) aD = some (.frz od (.dT akvs)) := by
          rw [upd_ne naD]; exact s7 _ _ a6
        have h18 : (upd (upd H6 l7 (.lst (vy ++ [.ref qk]))) D (.dK (kvs5 ++ [((.inr a.2.1 : L2.Key), .ref l7)]))) D = some (.dK (kvs5 ++ [((.inr a.2.1 : L2.Key), .ref l7)])) := upd_same
        have h28 : (upd (upd H6 l7 (.lst (vy ++ [.ref qk]))) D (.dK (kvs5 ++ [((.inr a.2.1 : L2.Key), .ref l7)]))) W = some (.lst (ws5.map V.str)) := by
          rw [upd_ne nDW.symm]; exact s7 _ _ h26
        generalize upd (upd H6 l7 (.lst (vy ++ [.ref qk]))) D (.dK (kvs5 ++ [((.inr a.2.1 : L2.Key), .ref l7)])) = H8 at hR8 f8 a8 h18 h28
        have hwl : ws5.length ≤ 40000 := by
          have : meas A R5 ws5 = 2 * (A.length + 1 - R5.length) + ws5.length := rfl
          have := hbig
          omega
        refine ⟨_, rfl, .inl ⟨rfl, _, SqL.of h28⟩, _, rfl, W, _, _, rfl, rfl, h28, Nat.lt_of_le_of_lt (m := 40000) (by rw [List.length_map]; exact hwl) (by decide), ?_⟩
        refine ⟨_, _, _, R5 ++ [(a.2.1, y.2 ++ [a])], ws5 ++ [a.2.1], kvs5 ++ [((.inr a.2.1 : L2.Key), .ref l7)], rfl, fun b o n h => ?_, ?_, ?_, ?_, ?_, hI7, ?_, ?_, ?_, ?_⟩
        · rw [upd_ne (fun z => by rw [z, hW0] at h; cases h)]
          exact f8 b o n h
        · rw [upd_ne naW]; exact a8
        · rw [upd_ne nDW]; exact h18
        · rw [upd_same, List.map_append]; rfl
        · exact hR8.mono (fun l vs n hl => by rw [upd_ne n.1]; exact hl) (tk_put h28)
        · rw [List.map_append]; exact List.mem_append_left _ hn5
        · intro b hb' h1 h2 h3
          rw [List.map_append] at h1 ⊢
          have h2' : b.1.1 ∉ ws5 := fun z => h2 (List.mem_append_left _ z)
          rcases List.mem_append.mp h1 with z | z
          · exact List.mem_append_left _ (hcl5 b hb' z h2' h3)
          · exact absurd (List.mem_append_right ws5 z) h2
        · intro k a' hk' ha' hn'
          rw [List.map_append]
          by_cases c : k = i
          · rw [c, ha] at ha'
            cases ha'
            exact List.mem_append_right _ List.mem_cons_self
          · exact List.mem_append_left _ (hp5 k a' (by omega) ha' hn')
        · omega
    · rintro σ H5 ⟨o5, o6, o7, R5, ws5, kvs5, rfl, f5, a5, h15, h25, hR5, hI5, hn5, hcl5, hp5, hm5⟩
      rw [hk.len] at hp5
      refine ⟨meas A R5 ws5, by omega, _, _, _, _, R5, ws5, kvs5, rfl, fun b o h => ?_, h15, h25, hR5, hI5, ?_, rfl, by omega⟩
      · by_cases c : b = aD
        · rw [c, hA] at h
          rw [c]
          cases h
          exact a5
        · exact f5 b o c h
      · intro a ha h1 h2
        by_cases c : a.1.1 = name
        · obtain ⟨k, hk', e⟩ := List.getElem_of_mem ha
          exact hp5 k a hk' (by rw [List.getElem?_eq_getElem hk', e]) c
        · exact hcl5 a ha h1 h2 c
end
end KB

set_option pp.maxSteps 400
namespace KB
open PySem L2 HT LamX NdefX PyProof.Rows

/-- a dict comprehension over any walk -/
theorem dc_walk {J : It} {n : Nat} {G : Hp → Prop} {Y : Nat → Hp → V → Hp → Prop} (w : Walk J n G Y) {g : L2.TG} {tt : TT} {tk tv : TE} {vs : List Nat} {σ : L2.St} {H1 : Hp} {D : Addr} {Qd : Hp → Prop} (Pv : Nat → Hp → Prop) (h0 : Pv 0 (upd H1 D (.dK [])))
    (hG : ∀ i H, i ≤ n → Pv i H → G H)
    (hs : ∀ i x H H', i < n → Pv i H → Y i H x H' → g x (wipe σ vs) H' fun σ2 H2 => wipe σ2 vs = wipe σ vs ∧ tt σ2 H2 fun b H3 =>
      if b = true then tk σ2 H3 fun y H4 => tv σ2 H4 fun z H5 => ∃ kvs k, y = kV k ∧ H5 D = some (.dK kvs) ∧ kvs.length < sizeLine ∧ Pv (i + 1) (upd H5 D (.dK (putK kvs k z))) else Pv (i + 1) H3) (hd : ∀ H, Pv n H → Qd H) :
    ∃ W : Nat → Nat → Hp → Prop, (∃ m, W 0 m (upd H1 D (.dK []))) ∧ ∀ i m H, W i m H →
      (J.stop i H ∧ Qd H) ∨ (J.go i H ∧ ∃ Nx : Hp → Prop, (∀ H', Nx H' → ∃ m', m' < m ∧ W (i + 1) m' H') ∧ ∀ x H', J.yld i H x H' → g x (wipe σ vs) H' fun σ2 H2 => wipe σ2 vs = wipe σ vs ∧ tt σ2 H2 fun b H3 =>
        if b = true then tk σ2 H3 fun y H4 => tv σ2 H4 fun z H5 => ∃ kvs k, y = kV k ∧ H5 D = some (.dK kvs) ∧ kvs.length < sizeLine ∧ Nx (upd H5 D (.dK (putK kvs k z))) else Nx H3) := by
  refine ⟨fun i m H => m = n - i ∧ i ≤ n ∧ Pv i H, ⟨n, by simp, Nat.zero_le _, h0⟩, ?_⟩
  rintro i m H ⟨rfl, hi, p⟩
  have g1 := hG i H hi p
  by_cases c : i < n
  · exact .inr ⟨w.goes i H c g1, Pv (i + 1), fun H' p' => ⟨n - (i + 1), by omega, rfl, c, p'⟩, fun x H' y => hs i x H H' c p (w.yields i H x H' c g1 y)⟩
  · have e : i = n := by omega
    subst e
    exact .inl ⟨w.stops H g1, hd H p⟩
/-- a list comprehension over any walk -/
theorem lc_walk {J : It} {n : Nat} {G : Hp → Prop} {Y : Nat → Hp → V → Hp → Prop} (w : Walk J n G Y) {g : L2.TG} {tt : TT} {te : TE} {vs : List Nat} {σ : L2.St} {H1 : Hp} {D : Addr} {Qd : Hp → Prop} (Pv : Nat → Hp → Prop) (h0 : Pv 0 (upd H1 D (.lst [])))
    (hG : ∀ i H, i ≤ n → Pv i H → G H)
    (hs : ∀ i x H H', i < n → Pv i H → Y i H x H' → g x (wipe σ vs) H' fun σ2 H2 => wipe σ2 vs = wipe σ vs ∧ tt σ2 H2 fun b H3 =>
      if b = true then te σ2 H3 fun y H4 => ∃ acc, H4 D = some (.lst acc) ∧ acc.length < sizeLine ∧ Pv (i + 1) (upd H4 D (.lst (acc ++ [y]))) else Pv (i + 1) H3) (hd : ∀ H, Pv n H → Qd H) :
    ∃ W : Nat → Nat → Hp → Prop, (∃ m, W 0 m (upd H1 D (.lst []))) ∧ ∀ i m H, W i m H →
      (J.stop i H ∧ Qd H) ∨ (J.go i H ∧ ∃ Nx : Hp → Prop, (∀ H', Nx H' → ∃ m', m' < m ∧ W (i + 1) m' H') ∧ ∀ x H', J.yld i H x H' → g x (wipe σ vs) H' fun σ2 H2 => wipe σ2 vs = wipe σ vs ∧ tt σ2 H2 fun b H3 =>
        if b = true then te σ2 H3 fun y H4 => ∃ acc, H4 D = some (.lst acc) ∧ acc.length < sizeLine ∧ Nx (upd H4 D (.lst (acc ++ [y]))) else Nx H3) := by
  refine ⟨fun i m H => m = n - i ∧ i ≤ n ∧ Pv i H, ⟨n, by simp, Nat.zero_le _, h0⟩, ?_⟩
  rintro i m H ⟨rfl, hi, p⟩
  have g1 := hG i H hi p
  by_cases c : i < n
  · exact .inr ⟨w.goes i H c g1, Pv (i + 1), fun H' p' => ⟨n - (i + 1), by omega, rfl, c, p'⟩, fun x H' y => hs i x H H' c p (w.yields i H x H' c g1 y)⟩
  · have e : i = n := by omega
    subst e
    exact .inl ⟨w.stops H g1, hd H p⟩
theorem sw_trueD {kx vx : Expr} {gs : List Comprehension} {scope : Scope} {pos py : Pos} {y : Str} {l : Nat} {env : PySem.Env} (hk : env.scope.kind = ScopeKind.function) (hy : List.lookup y env.scope.names = some NameKind.local) (hl : (py.line == pos.line) = true)
    (ha : (scope.names.any fun x => match x with | (n, k) => n == y && (k == NameKind.local || k == NameKind.cell)) = false) : swapsWith (kx.DictComp vx gs scope pos) (some (Expr.Name y py)) l env = pure true := sw_true (elt := kx) (gs := gs) (pos := pos) (l := l) hk hy hl ha
theorem ps_setDc {X : Cx} {i : Nat} {y : Str} {py : Pos} {kx vx tg iter : Expr} {ifs : List Expr} {scope : Scope} {own : List (Str × Nat)} {pos spos : Pos} {wi : TI} {g : L2.TG} {tt : TT} {tk tv : TE}
    (hc : X.calm = true) (hN : X.N.Nodup) (hy : X.N[i]? = some y) (hyl : List.lookup y X.env.scope.names = some NameKind.local)
    (hsw : swapsWith (kx.DictComp vx [{ target := tg, iter := iter, ifs := ifs, is_async := 0 }] scope pos) (some (Expr.Name y py)) spos.line X.env = pure true)
    (hi : PI X tg iter wi) (ok : BlkOk X.N X.env.scope scope own)
    (hg : ∀ (s : Shared) (H : Hp) (C : Addr) (cl : List (Str × Addr)) (fp : List Addr), PG (X.blk s H scope (compEnvC scope cl C X.env) fp) tg g)
    (ht : ∀ (s : Shared) (H : Hp) (C : Addr) (cl : List (Str × Addr)) (fp : List Addr), PTs (X.blk s H scope (compEnvC scope cl C X.env) fp) ifs tt)
    (hk : ∀ (s : Shared) (H : Hp) (C : Addr) (cl : List (Str × Addr)) (fp : List Addr), PE (X.blk s H scope (compEnvC scope cl C X.env) fp) kx tk)
    (he : ∀ (s : Shared) (H : Hp) (C : Addr) (cl : List (Str × Addr)) (fp : List Addr), PE (X.blk s H scope (compEnvC scope cl C X.env) fp) vx tv)
    (hs : ∀ x : Value, foldedSetIterable iter X.env x = pure x := by intro _; rfl) :
    PS X (Stmt.Assign [Expr.Name y py] (kx.DictComp vx [{ target := tg, iter := iter, ifs := ifs, is_async := 0 }] scope pos) spos) (tAsg (tDc wi g tt tk tv (own.map (·.2))) (gName i)) := by
  refine ⟨fun pins s σ H D I h => ?_⟩
  rw [exec_Assign_Name_used y py _ spos hsw]
  refine wpAny_bind (wpAny_standAt (wpAny_bind ?_))
  refine wpAny_bind (thn (dc_core hc hN I hi ok hg ht hk he hs h fun L C s' m H' I' q hn f => ?_) fun x s' hq => wpAny_pure (wpAny_pure hq))
  refine wpAny_assign_Name (store_ok2 (v := .ref L) I' hN hy (Or.inl hyl) rfl (fun s2 I2 ⟨a, sb, ha⟩ => ?_) (Or.inr hyl))
  obtain ⟨f0, f1, f2, f3, f4, f5⟩ := f
  have haC : C ≠ a := by
    rcases ha with z | z
    · rw [z]; exact f1
    · intro e; exact f4 y a z e.symm
  exact ⟨m, Heap.Ns.sameBut hn sb haC, fun h3 sb3 => ⟨σ.set i (some (.ref L)), H', Inv.turned I2 (fun b o hb e => (sb3.right b hb).trans e) f0 f1 f3 f4 f5, q⟩⟩
/-! ### levels in the heap -/
def LvK (N : List Str) (lv : Str → Nat) : List (L2.Key × V) := N.map fun n => (.inr n, .int (lv n : Int))
theorem LvK.keys (N : List Str) (lv : Str → Nat) : (LvK N lv).map (·.1) = N.map fun n => (.inr n : L2.Key) := by unfold LvK; rw [List.map_map]; rfl
theorem lvK_val {N : List Str} {lv : Str → Nat} {n : Str} (h : n ∈ N) : valV (LvK N lv) (.inr n) = some (.int (lv n : Int)) := by
  induction N with
  | nil => cases h
  | cons m M ih =>
    unfold valV LvK
    rw [List.map_cons]
    by_cases c : m = n
    · rw [List.find?_cons_of_pos (by exact decide_eq_true (by rw [c])), c]
      rfl
    · rw [List.find?_cons_of_neg (by show ¬ decide ((Sum.inr m : L2.Key) = .inr n) = true; rw [decide_eq_false fun z => c (Sum.inr.inj z)]; exact Bool.false_ne_true)]
      rcases List.mem_cons.mp h with z | z
      · exact absurd z.symm c
      · exact ih z
theorem lvK_no {N : List Str} {lv : Str → Nat} {n : Str} (h : n ∉ N) : valV (LvK N lv) (.inr n) = none := valV_no (by
  rw [LvK.keys]
  intro z
  obtain ⟨x, hx, e⟩ := List.mem_map.mp z
  exact h (by rw [← Sum.inr.inj e]; exact hx))
theorem lvK_put {N : List Str} {lv : Str → Nat} {x : Str} {v : Nat} (h : x ∈ N) : putK (LvK N lv) (.inr x) (.int (v : Int)) = LvK N (setL lv x v) := by
  unfold putK
  rw [if_pos (show (LvK N lv).any (fun kv => decide (kv.1 = Sum.inr x)) = true from List.any_eq_true.mpr ⟨(.inr x, .int (lv x : Int)), List.mem_map.mpr ⟨x, h, rfl⟩, decide_eq_true rfl⟩)]
  unfold LvK
  rw [List.map_map]
  refine List.map_congr_left fun n _ => ?_
  show (if (Sum.inr n : L2.Key) = .inr x then ((Sum.inr n : L2.Key), V.int (v : Int)) else (.inr n, .int (lv n : Int))) = (.inr n, .int (setL lv x v n : Int))
  unfold setL
  by_cases c : n = x
  · rw [if_pos (by rw [c]), if_pos c]
  · rw [if_neg (fun z => c (Sum.inr.inj z)), if_neg c]
section
variable {P : Program} {w : World} {K : PySem.W.Frag} {mg : Str → Option Value} {base : Heap}
/-! ### least_levels -/
abbrev sleast_levels : Stmt := top 23
theorem scleast_levels : FnScope ["asks", "names", "levels", "name", "is_settled", "place", "asked", "weight"] ["asks", "names"] (defScope sleast_levels) := ⟨rfl, rfl, rfl, by decide +kernel, rfl, by decide +kernel, by decide +kernel⟩
def spLeast : Sp := fun vs H Q _ => ∃ (aD nL : Addr) (A : List Ak) (akvs : List (List L2.Key × V)) (N : List Str), vs = [.ref aD, .ref nL] ∧ H aD = some (.dT akvs) ∧ AkL H A akvs ∧ H nL = some (.lst (N.map V.str)) ∧ N.Nodup ∧ N.length ≤ 10001 ∧ A.length ≤ 10000 ∧ Cl A N ∧ NR A N ∧ (∀ a ∈ A, a.2.2 ≤ 1) ∧
  ∀ D H' lv, H D = none → Same H H' → H' D = some (.dK (LvK N lv)) → Up A N lv → Re A N lv → Q (.ref D) H'
theorem ok_least {f : Addr} {fd : FuncData} (F : Fun K "least_levels" "least_levels" sleast_levels f fd) : FnOk P w K mg base CX0 1 f fd ["asks", "names"] spLeast := by
  refine F.ok scleast_levels (fun vs H Q E h => ?_) (fun cdv A outer s H vs Q E hr h => ?_)
  · obtain ⟨aD, nL, A, akvs, N, rfl, _⟩ := h
    rfl
  obtain ⟨aD, nL, A, akvs, N, rfl, hA, hk, hN, hnd, hlN, hlA, hcl, hnr, hw1, q⟩ := h
  refine ⟨_, (pss_cons (ps_setDc (i := 2) (own := [("name", 3)]) (g := gName 3) (tt := tYes) (tk := tVar 3) (tv := tC (.int 0)) (by rfl) scleast_levels.nd rfl rfl (sw_trueD rfl rfl rfl (by decide +kernel)) (pi_list (pv 1)) (blkOk_by (own := [("name", 3)]) (N := ["asks", "names", "levels", "name", "is_settled", "place", "asked", "weight"]) (sc := defScope sleast_levels) (by decide +kernel)) (fun _ _ _ _ _ => (pg_name (i := 3) scleast_levels.nd rfl (Or.inl rfl))) (fun _ _ _ _ _ => pts_nil) (fun _ _ _ _ _ => (pv 3)) (fun _ _ _ _ _ => pe_int))
    (pss_cons (ps_set (i := 4) scleast_levels.nd rfl (Or.inl rfl) pe_bl)
    (pss_cons (ps_while PassesOwn.never (pt_not (pt_val (pv 4))) (pss_cons (ps_set (i := 4) scleast_levels.nd rfl (Or.inl rfl) pe_bl)
    (pss_one (ps_lock (ps_for PassesOwn.never rfl (pi_tupItems (pv 0)) (pg_tup rfl (pgs_cons (pg_name (i := 5) scleast_levels.nd rfl (Or.inl rfl)) (pgs_cons (pg_tup rfl (pgs_cons (pg_name (i := 6) scleast_levels.nd rfl (Or.inl rfl)) (pgs_cons (pg_name (i := 7) scleast_levels.nd rfl (Or.inl rfl)) pgs_nil))) pgs_nil))) (pss_one (ps_if (PW.pt (pw_and (pt_cmp (pc_din (hu_of hr) (pe_ix ix_tup (pv 5) pe_int (fun _ _ => rfl)) (pv 2))) (pw_and1 (pt_cmpR op_lt (pe_dget (hu_of hr) (pv 2) (pe_ix ix_tup (pv 5) pe_int (fun _ _ => rfl)) (fun _ _ => rfl)) (pe_op op_add (pe_dget (hu_of hr) (pv 2) (pv 6) (fun _ _ => rfl)) (pv 7)) (nomark _))))) (pss_cons (ps_dput (hu_of hr) (pv 2) (pe_ix ix_tup (pv 5) pe_int (fun _ _ => rfl)) (pe_op op_add (pe_dget (hu_of hr) (pv 2) (pv 6) (fun _ _ => rfl)) (pv 7)) rfl)
    (pss_one (ps_set (i := 4) scleast_levels.nd rfl (Or.inl rfl) pe_bl))) pss_nil)))))))
    (pss_one (ps_ret (pv 2)))))), ?_⟩
  refine ⟨_, rfl, nL, rfl, ⟨_, SqL.of hN⟩, fun D hD => ?_⟩
  have naD : aD ≠ D := fun z => by rw [← z, hA] at hD; cases hD
  refine dc_walk (walk_list (K := K) (a := nL) (xs := N.map V.str)) (fun i H' => Same H H' ∧ H' D = some (.dK (LvK (N.take i) fun _ => 0))) ⟨same_new hD _, upd_same⟩ ?_ ?_ ?_
  · rintro i H' _ ⟨s1, _⟩
    exact SqL.of (s1 _ _ hN)
  · rintro i x H1 H2 hi ⟨s1, h1⟩ ⟨e', hx⟩
    subst e'
    rw [List.getElem?_map] at hx
    obtain ⟨n, hn, rfl⟩ := Option.map_eq_some_iff.mp hx
    obtain ⟨hj, hj2⟩ := List.getElem?_eq_some_iff.mp hn
    refine ⟨rfl, ?_⟩
    dsimp only [tYes]
    rw [if_pos rfl]
    refine ⟨_, rfl, LvK (N.take i) (fun _ => 0), Sum.inr n, rfl, h1, Nat.lt_of_le_of_lt (m := 10001) (by unfold LvK; rw [List.length_map, List.length_take]; omega) (by decide), same_mut s1 hD, ?_⟩
    rw [upd_same, putK_new, List.take_succ_eq_append_getElem hj, hj2]
    · unfold LvK
      rw [List.map_append]
      rfl
    · rw [LvK.keys]
      intro z
      obtain ⟨y, hy, e⟩ := List.mem_map.mp z
      have e2 : y = n := Sum.inr.inj e
      obtain ⟨k, hk', e3⟩ := List.getElem_of_mem hy
      rw [List.getElem_take] at e3
      have hk2 : k < i := by rw [List.length_take] at hk'; omega
      exact List.pairwise_iff_getElem.mp hnd k i (by omega) hj hk2 (e3.trans (e2.trans hj2.symm))
  rintro H1 ⟨s1, h1⟩
  rw [List.length_map, List.take_length] at h1
  -- while
  refine ⟨fun m σ H' => ∃ (o3 o5 o6 o7 : Option V) (lv : Str → Nat) (st : Bool), σ = [some (.ref aD), some (.ref nL), some (.ref D), o3, some (.bl st), o5, o6, o7] ∧ Same H H' ∧ H' D = some (.dK (LvK N lv)) ∧ Re A N lv ∧ (st = true → Up A N lv) ∧ m = (if st = true then 0 else 1) + (N.length * N.length - sumL N lv),
    ⟨_, _, _, _, _, fun _ => 0, false, rfl, s1, h1, fun n hn => ⟨[], n, .nil, rfl⟩, (by intro z; cases z), rfl⟩, ?_⟩
  rintro m σ H2 ⟨o3, o5, o6, o7, lv, st, rfl, s2, h2, re, up, rfl⟩
  refine ⟨_, rfl, _, rfl, ?_⟩
  cases st with
  | true => exact itF rfl ⟨_, rfl, q D H2 lv hD s2 h2 (up rfl) re⟩
  | false =>
    refine itT rfl ?_
    refine ⟨fun σ' H' => ∃ m', m' < (if false = true then 0 else 1) + (N.length * N.length - sumL N lv) ∧ ∃ (o3 o5 o6 o7 : Option V) (lv : Str → Nat) (st : Bool), σ' = [some (.ref aD), some (.ref nL), some (.ref D), o3, some (.bl st), o5, o6, o7] ∧ Same H H' ∧ H' D = some (.dK (LvK N lv)) ∧ Re A N lv ∧ (st = true → Up A N lv) ∧ m' = (if st = true then 0 else 1) + (N.length * N.length - sumL N lv), fun _ _ z => z, ?_⟩
    have hA2 := s2 _ _ hA
    refine ⟨aD, .dT akvs, hA2, trivial, fun od => ?_⟩
    have hA4 : (upd H2 aD (.frz od (.dT akvs))) aD = some (.frz od (.dT akvs)) := upd_same
    have f4 : ∀ b o, b ≠ aD → H b = some o → (upd H2 aD (.frz od (.dT akvs))) b = some o := fun b o n h => by rw [upd_ne n]; exact s2 _ _ h
    have h14 : (upd H2 aD (.frz od (.dT akvs))) D = some (.dK (LvK N lv)) := by rw [upd_ne naD.symm]; exact h2
    generalize upd H2 aD (.frz od (.dT akvs)) = H4 at hA4 f4 h14
    refine ⟨_, rfl, aD, od, akvs, rfl, hA4, for_it walk_tupItems (fun i σ H' => ∃ (o5 o6 o7 : Option V) (lv1 : Str → Nat) (st : Bool), σ = [some (.ref aD), some (.ref nL), some (.ref D), o3, some (.bl st), o5, o6, o7] ∧ (∀ b o, b ≠ aD → H b = some o → H' b = some o) ∧ H' aD = some (.frz od (.dT akvs)) ∧ H' D = some (.dK (LvK N lv1)) ∧ Re A N lv1 ∧
      ((st = true ∧ lv1 = lv ∧ ∀ k a, k < i → A[k]? = some a → a.1.1 ∈ N → lv1 a.2.1 + a.2.2 ≤ lv1 a.1.1) ∨ (st = false ∧ sumL N lv < sumL N lv1))) ?_ ?_ ?_ ?_⟩
    · exact ⟨_, _, _, lv, true, rfl, f4, hA4, h14, re, .inl ⟨rfl, rfl, fun k a h => absurd h (Nat.not_lt_zero k)⟩⟩
    · rintro i σ H5 _ ⟨o5, o6, o7, lv1, st, rfl, _, h, _⟩
      exact h
    · rintro i x σ H5 H6 hi ⟨o5, o6, o7, lv1, st, rfl, f5, a5, h15, re5, hst⟩ ⟨T', k, v, qk, hkv, hq, rfl, hT, rfl⟩
      have tk5 : TK H H5 := fun b xs hb => f5 b _ (fun z => by rw [z, hA] at hb; cases hb) hb
      obtain ⟨a, ha, hk1, bv, hv, hb⟩ := hk.get hkv
      dsimp only at hk1 hv
      subst hk1 hv
      have hb5 := tk5 _ _ hb
      have sT := same_new hT (.tup [.ref qk, .ref bv])
      have ham := mem_of_get ha
      rw [keyA_V] at hq
      refine ⟨T', _, rfl, SqT.of upd_same, rfl, _, _, rfl, _, _, rfl, ⟨bv, _, rfl, SqT.of (sT _ _ hb5), rfl, _, _, rfl, _, _, rfl, rfl, rfl, ?_⟩⟩
      have f6 : ∀ b o, b ≠ aD → H b = some o → (upd H5 T' (.tup [.ref qk, .ref bv])) b = some o := fun b o n h => sT _ _ (f5 b o n h)
      have a6 := sT _ _ a5
      have h16 := sT _ _ h15
      have hq6 := sT _ _ hq
      generalize upd H5 T' (.tup [.ref qk, .ref bv]) = H6 at f6 a6 h16 hq6
      have done : (a.1.1 ∈ N → lv1 a.2.1 + a.2.2 ≤ lv1 a.1.1) → ((st = true ∧ lv1 = lv ∧ ∀ k a, k < i + 1 → A[k]? = some a → a.1.1 ∈ N → lv1 a.2.1 + a.2.2 ≤ lv1 a.1.1) ∨ (st = false ∧ sumL N lv < sumL N lv1)) := fun hd => by
        rcases hst with ⟨e1, e2, e3⟩ | z
        · refine .inl ⟨e1, e2, fun k a' hk' ha' hn' => ?_⟩
          by_cases c : k = i
          · rw [c, ha] at ha'
            cases ha'
            exact hd hn'
          · exact e3 k a' (by omega) ha' hn'
        · exact .inr z
      refine ⟨_, rfl, qk, _, _, _, rfl, rfl, SqT.of hq6, at0, _, rfl, D, _, rfl, DGet.k (k := .inr a.1.1) h16, _, rfl, ?_⟩
      by_cases hin : a.1.1 ∈ N
      · refine itT (by rw [lvK_val hin]; rfl) ?_
        have hin2 := hcl a ham hin
        refine ⟨_, rfl, _, rfl, qk, _, _, _, rfl, rfl, SqT.of hq6, at0, D, _, rfl, by rw [← lvK_val hin]; exact DGet.k (k := .inr a.1.1) h16, _, rfl, _, rfl, D, _, rfl, by rw [← lvK_val hin2]; exact DGet.k (k := .inr a.2.1) h16, _, rfl, _, _, rfl, rfl, _, _, rfl, rfl, _, rfl, ?_⟩
        refine ite2 (fun c => ?_) (fun c => ⟨_, _, _, lv1, st, rfl, f6, a6, h16, re5, done fun _ => by
          have c' : ¬ ((lv1 a.1.1 : Int) < (lv1 a.2.1 : Int) + (a.2.2 : Int)) := fun z => c (decide_eq_true z)
          omega⟩)
        have c' : ((lv1 a.1.1 : Int) < (lv1 a.2.1 : Int) + (a.2.2 : Int)) := of_decide_eq_true c
        refine ⟨_, rfl, _, rfl, D, _, rfl, by rw [← lvK_val hin2]; exact DGet.k (k := .inr a.2.1) h16, _, rfl, _, _, rfl, rfl, _, rfl, _, rfl, qk, _, _, _, rfl, rfl, SqT.of hq6, at0, D, _, rfl, DPut.k (k := .inr a.1.1) h16 (Nat.lt_of_le_of_lt (m := 10001) (by unfold LvK; rw [List.length_map]; omega) (by decide)), ?_⟩
        refine ⟨_, _, _, setL lv1 a.1.1 (lv1 a.2.1 + a.2.2), false, rfl, fun b o n h => ?_, ?_, by rw [← lvK_put hin, Int.natCast_add]; exact upd_same, re5.set hcl ham hin, .inr ⟨rfl, ?_⟩⟩
        · rw [upd_ne (fun z => by rw [z, hD] at h; cases h)]
          exact f6 b o n h
        · rw [upd_ne naD]; exact a6
        · have := sum_set (N := N) (lv := lv1) (x := a.1.1) (v := lv1 a.2.1 + a.2.2) (by omega) hin
          rcases hst with ⟨_, e2, _⟩ | ⟨_, z⟩
          · rw [← e2]; exact this
          · omega
      · refine itF (by rw [lvK_no hin]; rfl) ⟨_, _, _, lv1, st, rfl, f6, a6, h16, re5, done fun z => absurd z hin⟩
    · rintro σ H5 ⟨o5, o6, o7, lv1, st, rfl, f5, a5, h15, re5, hst⟩
      rw [hk.len] at hst
      have b1 := sum_le (N := N) (lv := lv1) (B := N.length) (re5.le hcl hnr hw1)
      refine ⟨a5, (if st = true then 0 else 1) + (N.length * N.length - sumL N lv1), ?_, _, _, _, _, lv1, st, rfl, fun b o h => ?_, ?_, re5, fun e => ?_, rfl⟩
      · rcases hst with ⟨e1, e2, _⟩ | ⟨e1, z⟩
        · rw [e1, e2]
          show 0 + _ < 1 + _
          omega
        · rw [e1]
          show 1 + _ < 1 + _
          omega
      · by_cases c : b = aD
        · rw [c, hA] at h
          rw [c, upd_same]
          exact h
        · rw [upd_ne c]
          exact f5 b o c h
      · rw [upd_ne naD.symm]; exact h15
      · rcases hst with ⟨_, _, e3⟩ | ⟨e1, _⟩
        · intro a ha hs
          obtain ⟨k, hk', e⟩ := List.getElem_of_mem ha
          exact e3 k a hk' (by rw [List.getElem?_eq_getElem hk', e]) hs
        · rw [e1] at e
          cases e
/-! ### is_step_to -/
abbrev sis_step_to : Stmt := top 26
theorem scis_step_to : FnScope ["level", "ask", "levels", "asked", "weight"] ["level", "ask", "levels"] (defScope sis_step_to) := ⟨rfl, rfl, rfl, by decide +kernel, rfl, by decide +kernel, by decide +kernel⟩
def spStep : Sp := fun vs H Q _ => ∃ (v : Int) (b D : Addr) (a : Str) (wt : Nat) (N : List Str) (lv : Str → Nat), vs = [.int v, .ref b, .ref D] ∧ H b = some (.tup [.str a, .int (wt : Int)]) ∧ H D = some (.dK (LvK N lv)) ∧ a ∈ N ∧ Q (.bl (decide (0 < wt ∧ (lv a : Int) = v))) H
theorem ok_step {f : Addr} {fd : FuncData} (F : Fun K "is_step_to" "is_step_to" sis_step_to f fd) : FnOk P w K mg base CX0 1 f fd ["level", "ask", "levels"] spStep := by
  refine F.ok scis_step_to (fun vs H Q E h => ?_) (fun cdv A outer s H vs Q E hr h => ?_)
  · obtain ⟨v, b, D, a, wt, N, lv, rfl, _⟩ := h
    rfl
  obtain ⟨v, b, D, a, wt, N, lv, rfl, hb, hD, hin, q⟩ := h
  refine ⟨_, (pss_cons (ps_asg (pv 1) (pg_tup rfl (pgs_cons (pg_name (i := 3) scis_step_to.nd rfl (Or.inl rfl)) (pgs_cons (pg_name (i := 4) scis_step_to.nd rfl (Or.inl rfl)) pgs_nil))))
    (pss_one (ps_ret (pe_and (pe_cmpR op_gt (pv 4) pe_int (nomark _)) (pe_one (pe_cmpR op_eq (pe_dget (hu_of hr) (pv 2) (pv 3) (fun _ _ => rfl)) (pv 0) (nomark _))))))), ?_⟩
  refine ⟨_, rfl, b, _, rfl, SqT.of hb, rfl, _, _, rfl, _, _, rfl, rfl, ?_⟩
  refine ⟨_, rfl, _, _, rfl, rfl, _, rfl, ?_⟩
  refine ite2 (fun c => ?_) (fun c => ?_)
  · refine ⟨_, rfl, _, rfl, D, _, rfl, by rw [← lvK_val hin]; exact DGet.k (k := .inr a) hD, _, rfl, rfl, ?_⟩
    have c' : (0 : Int) < (wt : Int) := of_decide_eq_true c
    refine Eq.mp ?_ q
    congr 2
    refine decide_eq_decide.mpr ⟨fun z => by rw [z.2], fun z => ⟨by omega, V.int.inj z⟩⟩
  · have c' : ¬ (0 : Int) < (wt : Int) := fun z => c (decide_eq_true z)
    rw [decide_eq_false (fun z => c' (by omega))] at q
    exact q
end
end KB

set_option pp.maxSteps 400
namespace KB
open PySem L2 HT LamX NdefX

theorem AkL.val {H : Hp} : ∀ {as : List Ak} {kvs : List (List L2.Key × V)}, AkL H as kvs → (as.map (·.1)).Nodup → ∀ {i : Nat} {kv : List L2.Key × V}, kvs[i]? = some kv → valV kvs kv.1 = some kv.2
  | [], [], _, _, i, kv, h => by simp at h
  | a :: as, kv0 :: kvs, ⟨x, r⟩, nd, i, kv, h => by
    obtain ⟨n1, n2⟩ := List.nodup_cons.mp nd
    cases i with
    | zero =>
      rw [List.getElem?_cons_zero] at h
      cases h
      unfold valV
      rw [List.find?_cons_of_pos (by exact decide_eq_true rfl)]
      rfl
    | succ i =>
      rw [List.getElem?_cons_succ] at h
      have ih := r.val n2 h
      obtain ⟨b, hb, hk, _⟩ := r.get h
      unfold valV at ih ⊢
      rw [List.find?_cons_of_neg]
      · exact ih
      · intro z
        have e : kv0.1 = kv.1 := of_decide_eq_true z
        rw [x.1, hk] at e
        exact n1 (List.mem_map.mpr ⟨b, mem_of_get hb, (keyA_inj e).symm⟩)
  | [], _ :: _, h, _, _, _, _ => h.elim
  | _ :: _, [], h, _, _, _, _ => h.elim
theorem AkL.has {H : Hp} {as : List Ak} {kvs : List (List L2.Key × V)} (h : AkL H as kvs) (nd : (as.map (·.1)).Nodup) {a : Ak} (ha : a ∈ as) : ∃ b, valV kvs (keyA a.1) = some (.ref b) ∧ H b = some (.tup [.str a.2.1, .int (a.2.2 : Int)]) := by
  obtain ⟨i, hi, e⟩ := List.getElem_of_mem ha
  have hi' : i < kvs.length := by rw [h.len]; exact hi
  obtain ⟨a', ha', hk, b, hb, hc⟩ := h.get (List.getElem?_eq_getElem hi')
  rw [List.getElem?_eq_getElem hi, e] at ha'
  cases ha'
  refine ⟨b, ?_, hc⟩
  rw [← hk, ← hb]
  exact h.val nd (List.getElem?_eq_getElem hi')
section
variable {P : Program} {w : World} {K : PySem.W.Frag} {mg : Str → Option Value} {base : Heap}
/-! ### step_down -/
abbrev sstep_down : Stmt := top 25
theorem scstep_down : FnScope ["f", "asks", "levels", "rows", "below", "last", "place"] ["f", "asks", "levels"] (defScope sstep_down) := ⟨rfl, rfl, rfl, by decide +kernel, rfl, by decide +kernel, by decide +kernel⟩
def spDown : Sp := fun vs H Q _ => ∃ (f : Str) (aD D : Addr) (A : List Ak) (akvs : List (List L2.Key × V)) (N : List Str) (lv : Str → Nat), vs = [.str f, .ref aD, .ref D] ∧ H aD = some (.dT akvs) ∧ AkL H A akvs ∧ A.length ≤ 10000 ∧ (A.map (·.1)).Nodup ∧ H D = some (.dK (LvK N lv)) ∧ f ∈ N ∧ Cl A N ∧ Up A N lv ∧ Re A N lv ∧ (∀ a ∈ A, a.2.2 ≤ 1) ∧ 0 < lv f ∧
  ∀ L H' p a vp q, H L = none → Same H H' → H' L = some (.lst (vp ++ [.ref q])) → All2 (PlcV H') (p.map (·.1)) vp → PlAt H' a.1 q → Row A f p a.1.1 → a ∈ A → 0 < a.2.2 → lv a.2.1 + 1 = lv f → vp.length ≤ A.length + 1 → Q (.ref L) H'
theorem ok_down {f f1 f2 : Addr} {fd d1 d2 : FuncData} (F : Fun K "step_down" "step_down" sstep_down f fd)
    (Grows_from : FnOk P w K mg base CX0 1 f1 d1 ["f", "asks"] spRows) (Rrows_from : Ref K mg "rows_from" f1 d1 ["f", "asks"])
    (Gis_step_to : FnOk P w K mg base CX0 1 f2 d2 ["level", "ask", "levels"] spStep) (Ris_step_to : Ref K mg "is_step_to" f2 d2 ["level", "ask", "levels"]) : FnOk P w K mg base CX0 2 f fd ["f", "asks", "levels"] spDown := by
  refine F.ok scstep_down (fun vs H Q E h => ?_) (fun cdv A outer s H vs Q E hr h => ?_)
  · obtain ⟨f, aD, D, A, akvs, N, lv, rfl, _⟩ := h
    rfl
  obtain ⟨f, aD, D, A, akvs, N, lv, rfl, hA, hk, hlA, hnd, hD, hf, hcl, up, re, hw1, hpos, q⟩ := h
  refine ⟨_, (pss_cons (ps_set (i := 3) scstep_down.nd rfl (Or.inr rfl) (pe_call Grows_from (hr.mono (by omega)) rfl Rrows_from.m Rrows_from.k Rrows_from.b .nil pass0 (pa_cons (pv 0) (pa_cons (pv 1) pa_nil))))
    (pss_cons (ps_set (i := 4) scstep_down.nd rfl (Or.inr rfl) (pe_op op_sub (pe_dget (hu_of hr) (pv 2) (pv 0) (fun _ _ => rfl)) pe_int))
    (pss_cons (ps_lock (ps_setLc (i := 5) (own := [("place", 6)]) (g := gName 6) (tt := tAnd (tB (tDIn (tOp (rIxT K) (tVar 6) (tC (.int 0))) (tVar 3))) (tB (tCall spStep [] E0 (tCons (tVar 4) (tCons (tDGet (tVar 1) (tVar 6)) (tCons (tVar 2) tNil)))))) (te := tVar 6) (by rfl) scstep_down.nd rfl rfl (sw_true rfl rfl rfl (by decide +kernel)) (pi_keys (pv 1)) (blkOk_by (own := [("place", 6)]) (N := ["f", "asks", "levels", "rows", "below", "last", "place"]) (sc := defScope sstep_down) (by decide +kernel)) (fun _ _ _ _ _ => (pg_name (i := 6) scstep_down.nd rfl (Or.inl rfl))) (fun _ _ _ _ _ => (pts_one (PW.pt (pw_and (pt_cmp (pc_din (hu_of hr) (pe_ix ix_tup (pv 6) pe_int (fun _ _ => rfl)) (pv 3))) (pw_and1 (pt_val (pe_call Gis_step_to (hr.mono (by omega)) rfl Ris_step_to.m Ris_step_to.k Ris_step_to.b .nil pass0 (pa_cons (pv 4) (pa_cons (pe_dget (hu_of hr) (pv 1) (pv 6) (fun _ _ => rfl)) (pa_cons (pv 2) pa_nil)))))))))) (fun _ _ _ _ _ => (pv 6))))
    (pss_one (ps_ret (pe_lst (StX.pa_star (pe_dget (hu_of hr) (pv 3) (pe_ix ix_tup (pe_ix ix_list (pv 5) pe_int (fun _ _ => rfl)) pe_int (fun _ _ => rfl)) (fun _ _ => rfl)) (pa_cons (pe_ix ix_list (pv 5) pe_int (fun _ _ => rfl)) pa_nil)))))))), ?_⟩
  refine ⟨_, rfl, _, rfl, f, aD, A, akvs, rfl, hA, hk, hlA, fun D2 H1 R kvs W hD2 s1 hWn h1 hR ok hRl hRn => ?_⟩
  have hD1 := s1 _ _ hD
  have hA1 := s1 _ _ hA
  have n2A : D2 ≠ aD := fun z => by rw [z, hA] at hD2; cases hD2
  have nDA : D ≠ aD := fun z => by rw [z, hA] at hD; cases hD
  refine ⟨_, rfl, _, rfl, D, _, rfl, by rw [← lvK_val hf]; exact DGet.k (k := .inr f) hD1, _, _, rfl, rfl, ?_⟩
  refine ⟨aD, .dT akvs, hA1, trivial, fun od => ?_⟩
  have hA2 : (upd H1 aD (.frz od (.dT akvs))) aD = some (.frz od (.dT akvs)) := upd_same
  have f2 : ∀ b o, b ≠ aD → H b = some o → (upd H1 aD (.frz od (.dT akvs))) b = some o := fun b o n h => by rw [upd_ne n]; exact s1 _ _ h
  have hD3 : (upd H1 aD (.frz od (.dT akvs))) D = some (.dK (LvK N lv)) := by rw [upd_ne nDA]; exact hD1
  have h2 : (upd H1 aD (.frz od (.dT akvs))) D2 = some (.dK kvs) := by rw [upd_ne n2A]; exact h1
  have lk0 : LK W H1 (upd H1 aD (.frz od (.dT akvs))) := fun l vs _ h => by rw [upd_ne (fun z => by rw [z, hA1] at h; cases h)]; exact h
  have tk0 : TK H1 (upd H1 aD (.frz od (.dT akvs))) := fun b xs h => by rw [upd_ne (fun z => by rw [z, hA1] at h; cases h)]; exact h
  have hR2 := hR.mono lk0 tk0
  generalize upd H1 aD (.frz od (.dT akvs)) = H2 at hA2 f2 hD3 h2 hR2
  have tk2 : TK H H2 := fun b xs hb => f2 b _ (fun z => by rw [z, hA] at hb; cases hb) hb
  have hk2 := hk.tk tk2
  have hRN : ∀ n, n ∈ R.map (·.1) → n ∈ N := fun n hn => by
    obtain ⟨x, hx, e⟩ := List.mem_map.mp hn
    rw [← e]
    exact ((ok.so x hx).cl hcl hf).1
  have hgood : ∀ a : Ak, a ∈ A → (a.1.1 ∈ R.map (·.1) ∧ 0 < a.2.2 ∧ (lv a.2.1 : Int) = (lv f : Int) - 1) → (0 < a.2.2 ∧ lv a.2.1 + 1 = lv f) := fun a _ z => ⟨z.2.1, by have := z.2.2; omega⟩
  refine ⟨_, rfl, aD, od, rfl, .inr ⟨akvs, hA2, fun L hL => ?_⟩⟩
  have nLA : L ≠ aD := fun z => by rw [z, hA2] at hL; cases hL
  refine lc_walk walk_keysT (fun i H' => ∃ (as : List Ak) (vs : List V), Same H2 H' ∧ H' L = some (.lst vs) ∧ All2 (PlcV H') (as.map (·.1)) vs ∧ vs.length ≤ i ∧ (∀ a ∈ as, a ∈ A ∧ a.1.1 ∈ R.map (·.1) ∧ 0 < a.2.2 ∧ (lv a.2.1 : Int) = (lv f : Int) - 1) ∧ (∀ k a, k < i → A[k]? = some a → a.1.1 ∈ R.map (·.1) → 0 < a.2.2 → (lv a.2.1 : Int) = (lv f : Int) - 1 → as ≠ [])) ?_ ?_ ?_ ?_
  · exact ⟨[], [], same_new hL _, upd_same, trivial, Nat.le_refl _, (fun _ h => nomatch h), fun k a h => absurd h (Nat.not_lt_zero k)⟩
  · rintro i H3 _ ⟨as, vs, s3, _⟩
    exact s3 _ _ hA2
  · rintro i x H3 H4 hi ⟨as, vs, s3, h3, hv, hvl, hg, hc⟩ ⟨e', k, v, qk, hkv, rfl, hq⟩
    subst e'
    obtain ⟨a, ha, hk1, bv, hv1, hb⟩ := hk2.get hkv
    have hval := hk2.val hnd hkv
    dsimp only at hk1 hv1 hval
    subst hk1 hv1
    have ham := mem_of_get ha
    have hq' := hq
    rw [keyA_V] at hq'
    have hA3 := s3 _ _ hA2
    refine ⟨rfl, ?_⟩
    refine ⟨_, rfl, qk, _, _, _, rfl, rfl, SqT.of hq', at0, _, rfl, D2, _, rfl, DGet.k (k := .inr a.1.1) (s3 _ _ h2), _, rfl, ?_⟩
    rw [hR2.val]
    have skip : ¬ (a.1.1 ∈ R.map (·.1) ∧ 0 < a.2.2 ∧ (lv a.2.1 : Int) = (lv f : Int) - 1) → ∃ (as : List Ak) (vs : List V), Same H2 H4 ∧ H4 L = some (.lst vs) ∧ All2 (PlcV H4) (as.map (·.1)) vs ∧ vs.length ≤ i + 1 ∧ (∀ a ∈ as, a ∈ A ∧ a.1.1 ∈ R.map (·.1) ∧ 0 < a.2.2 ∧ (lv a.2.1 : Int) = (lv f : Int) - 1) ∧ (∀ k a, k < i + 1 → A[k]? = some a → a.1.1 ∈ R.map (·.1) → 0 < a.2.2 → (lv a.2.1 : Int) = (lv f : Int) - 1 → as ≠ []) := fun hno => by
      refine ⟨as, vs, s3, h3, hv, by omega, hg, fun k a' hk' ha' x1 x2 x3 => ?_⟩
      by_cases c : k = i
      · rw [c, ha] at ha'
        cases ha'
        exact absurd ⟨x1, x2, x3⟩ hno
      · exact hc k a' (by omega) ha' x1 x2 x3
    by_cases hin : a.1.1 ∈ R.map (·.1)
    · refine itT (by rw [decide_eq_true hin]) ?_
      have hin2 : a.2.1 ∈ N := hcl a ham (hRN _ hin)
      refine ⟨_, rfl, _, rfl, _, rfl, aD, .ref bv, rfl, .inr ⟨akvs, keyA a.1, qk, .inr ⟨od, hA3⟩, rfl, hq, hval.symm⟩, _, rfl, _, bv, D, a.2.1, a.2.2, N, lv, rfl, s3 _ _ hb, s3 _ _ hD3, hin2, _, rfl, ?_⟩
      refine ite2 (fun c => ?_) (fun c => skip fun z => c (decide_eq_true z.2))
      obtain ⟨c1, c2⟩ := of_decide_eq_true c
      refine ⟨_, rfl, vs, h3, Nat.lt_of_le_of_lt (m := 10000) (by rw [hk2.len] at hi; omega) (by decide), as ++ [a], vs ++ [.ref qk], same_mut s3 hL, upd_same, ?_, ?_, fun b hb => ?_, fun _ _ _ _ _ _ _ z => ?_⟩
      · rw [List.map_append]
        exact (hv.imp fun _ _ z => z.tk (tk_put h3)).app ⟨⟨qk, rfl, tk_put h3 _ _ hq'⟩, trivial⟩
      · rw [List.length_append, List.length_singleton]; omega
      · rcases List.mem_append.mp hb with z | z
        · exact hg b z
        · rw [List.mem_singleton.mp z]
          exact ⟨ham, hin, c1, c2⟩
      · exact absurd z (by simp)
    · refine itF (by rw [decide_eq_false hin]) (itF rfl (skip fun z => hin z.1))
  rintro H3 ⟨as, vs, s3, h3, hv, hvl, hg, hc⟩
  rw [hk2.len] at hc hvl
  have hA3 := s3 _ _ hA2
  refine ⟨hA3, ?_⟩
  obtain ⟨p0, a0, hp0, ha0, hw0, hl0⟩ := step_there up re hcl hw1 hf hpos
  have hne : as ≠ [] := by
    obtain ⟨k, hk', e⟩ := List.getElem_of_mem ha0
    exact hc k a0 hk' (by rw [List.getElem?_eq_getElem hk', e]) (ok.all hp0) hw0 (by omega)
  cases as with
  | nil => exact absurd rfl hne
  | cons a as =>
    cases vs with
    | nil => exact hv.elim
    | cons v vs =>
      obtain ⟨⟨qk, rfl, hq⟩, hv'⟩ := hv
      obtain ⟨ham, hin, hw, hl⟩ := hg a List.mem_cons_self
      have f4 : ∀ b o, b ≠ aD → H3 b = some o → (upd H3 aD (.dT akvs)) b = some o := fun b o n h => by rw [upd_ne n]; exact h
      have s4 : Same H (upd H3 aD (.dT akvs)) := fun b o h => by
        by_cases c : b = aD
        · rw [c, hA] at h
          rw [c, upd_same]
          exact h
        · exact f4 b o c (s3 _ _ (f2 b o c h))
      have h4L : (upd H3 aD (.dT akvs)) L = some (.lst (.ref qk :: vs)) := f4 _ _ nLA h3
      have h4D : (upd H3 aD (.dT akvs)) D2 = some (.dK kvs) := f4 _ _ n2A (s3 _ _ h2)
      have hR4 : RwL (upd H3 aD (.dT akvs)) W R kvs := (hR2.mono (fun l vs _ h => s3 _ _ h) (tk_same s3)).mono (fun l vs _ h => f4 _ _ (fun z => by rw [z, hA3] at h; cases h) h) (fun l vs h => f4 _ _ (fun z => by have h' : H3 _ = _ := h; rw [z, hA3] at h'; cases h') h)
      have hq4 : (upd H3 aD (.dT akvs)) qk = some (.tup (.str a.1.1 :: a.1.2.map V.int)) := f4 _ _ (fun z => by rw [z, hA3] at hq; cases hq) hq
      generalize upd H3 aD (.dT akvs) = H4 at s4 h4L h4D hR4 hq4
      obtain ⟨y, kvy, hy1, hy2, hy3, hy4, ly, vy, hy5, hy6, hy7, hy8⟩ := hR4.there hin
      rw [hy5] at hy3
      refine ⟨_, rfl, _, rfl, L, _, _, _, rfl, rfl, SqL.of h4L, at0, qk, _, _, _, rfl, rfl, SqT.of hq4, at0, D2, .ref ly, rfl, by rw [← hy3]; exact DGet.k (k := .inr a.1.1) h4D, ly, _, rfl, .inr (SqL.of hy7), _, rfl, L, _, _, _, rfl, rfl, SqL.of h4L, at0, ?_⟩
      have hvl : vy.length ≤ A.length + 1 := by
        have e1 := hy8.len
        rw [List.length_map] at e1
        have := hRn y hy1
        omega
      refine ⟨sz (by rw [List.length_append, List.length_singleton]; omega), fun l7 hl7 => ?_⟩
      have s7 := same_new hl7 (.lst (vy ++ [.ref qk]))
      have hrow := ok.so y hy1
      rw [hy2] at hrow
      refine q l7 _ y.2 a vy qk ?_ (s4.trans s7) upd_same (hy8.imp fun _ _ z => z.tk (tk_same s7)) (s7 _ _ hq4) hrow ham hw (by omega) hvl
      cases e : H l7 with
      | none => rfl
      | some o => rw [s4 _ _ e] at hl7; cases hl7
/-! ### greatest_row -/
abbrev sgreatest_row : Stmt := top 24
theorem scgreatest_row : FnScope ["f", "asks", "levels", "row", "name", "step"] ["f", "asks", "levels"] (defScope sgreatest_row) := ⟨rfl, rfl, rfl, by decide +kernel, rfl, by decide +kernel, by decide +kernel⟩
def spGreat : Sp := fun vs H Q _ => ∃ (f : Str) (aD D : Addr) (A : List Ak) (akvs : List (List L2.Key × V)) (N : List Str) (lv : Str → Nat), vs = [.str f, .ref aD, .ref D] ∧ H aD = some (.dT akvs) ∧ AkL H A akvs ∧ A.length ≤ 300 ∧ N.length ≤ 301 ∧ (∀ n ∈ N, lv n ≤ N.length) ∧ (A.map (·.1)).Nodup ∧ H D = some (.dK (LvK N lv)) ∧ f ∈ N ∧ Cl A N ∧ Up A N lv ∧ Re A N lv ∧ (∀ a ∈ A, a.2.2 ≤ 1) ∧
  ∀ L H' r vs g, H L = none → Same H H' → H' L = some (.lst vs) → All2 (PlcV H') (r.map (·.1)) vs → Row A f r g → wtR r = lv f → vs.length ≤ 100000 → Q (.ref L) H'
theorem ok_great {f f1 : Addr} {fd d1 : FuncData} (F : Fun K "greatest_row" "greatest_row" sgreatest_row f fd)
    (Gstep_down : FnOk P w K mg base CX0 2 f1 d1 ["f", "asks", "levels"] spDown) (Rstep_down : Ref K mg "step_down" f1 d1 ["f", "asks", "levels"]) : FnOk P w K mg base CX0 3 f fd ["f", "asks", "levels"] spGreat := by
  refine F.ok scgreatest_row (fun vs H Q E h => ?_) (fun cdv A outer s H vs Q E hr h => ?_)
  · obtain ⟨f, aD, D, A, akvs, N, lv, rfl, _⟩ := h
    rfl
  obtain ⟨f, aD, D, A, akvs, N, lv, rfl, hA, hk, hlA, hlN, hlv, hnd, hD, hf, hcl, up, re, hw1, q⟩ := h
  refine ⟨_, (pss_cons (ps_set (i := 3) scgreatest_row.nd rfl (Or.inl rfl) (pe_lst pa_nil))
    (pss_cons (ps_set (i := 4) scgreatest_row.nd rfl (Or.inl rfl) (pv 0))
    (pss_cons (ps_while PassesOwn.never (pt_cmpR op_gt (pe_dget (hu_of hr) (pv 2) (pv 4) (fun _ _ => rfl)) pe_int (nomark _)) (pss_cons (ps_set (i := 5) scgreatest_row.nd rfl (Or.inl rfl) (pe_call Gstep_down (hr.mono (by omega)) rfl Rstep_down.m Rstep_down.k Rstep_down.b .nil pass0 (pa_cons (pv 4) (pa_cons (pv 1) (pa_cons (pv 2) pa_nil)))))
    (pss_cons (ps_expr (pe_bm PySem.F.plainAttrs_list PySem.F.slot_list_extend PySem.F.type_list_extend mt_extend (pv 3) (pa_cons (pv 5) pa_nil)))
    (pss_one (ps_set (i := 4) scgreatest_row.nd rfl (Or.inl rfl) (pe_ix ix_tup (pe_dget (hu_of hr) (pv 1) (pe_ix ix_list (pv 5) (pe_un un_neg pe_int) (fun _ _ => rfl)) (fun _ _ => rfl)) pe_int (fun _ _ => rfl)))))))
    (pss_one (ps_ret (pv 3)))))), ?_⟩
  refine ⟨sz (by show 0 ≤ 100000; decide), fun Lr hLr => ?_⟩
  refine ⟨_, rfl, ?_⟩
  have s0 := same_new hLr (.lst [])
  refine ⟨fun m σ H' => ∃ (o5 : Option V) (r : List Ak) (vs : List V) (g : Str), σ = [some (.str f), some (.ref aD), some (.ref D), some (.ref Lr), some (.str g), o5] ∧ Same H H' ∧ H' Lr = some (.lst vs) ∧ All2 (PlcV H') (r.map (·.1)) vs ∧ Row A f r g ∧ wtR r + lv g = lv f ∧ vs.length ≤ (lv f - lv g) * 302 ∧ lv g ≤ lv f ∧ m = lv g,
    ⟨_, _, [], [], f, rfl, s0, upd_same, trivial, .nil, by show 0 + _ = _; omega, Nat.zero_le _, Nat.le_refl _, rfl⟩, ?_⟩
  rintro m σ H1 ⟨o5, r, vs, g, rfl, s1, h1, hv, hrow, hwt, hvl, hgf, rfl⟩
  have hg := (hrow.cl hcl hf).1
  have hD1 := s1 _ _ hD
  have hA1 := s1 _ _ hA
  refine ⟨_, rfl, _, rfl, D, _, rfl, by rw [← lvK_val hg]; exact DGet.k (k := .inr g) hD1, _, _, rfl, rfl, _, rfl, ?_⟩
  refine ite2 (fun c => ?_) (fun c => ?_)
  · have hpos : 0 < lv g := by
      have : (0 : Int) < (lv g : Int) := of_decide_eq_true c
      omega
    refine ⟨fun σ' H' => ∃ m', m' < lv g ∧ ∃ (o5 : Option V) (r : List Ak) (vs : List V) (g : Str), σ' = [some (.str f), some (.ref aD), some (.ref D), some (.ref Lr), some (.str g), o5] ∧ Same H H' ∧ H' Lr = some (.lst vs) ∧ All2 (PlcV H') (r.map (·.1)) vs ∧ Row A f r g ∧ wtR r + lv g = lv f ∧ vs.length ≤ (lv f - lv g) * 302 ∧ lv g ≤ lv f ∧ m' = lv g, fun _ _ z => z, ?_⟩
    have hk1 := hk.tk (tk_same s1)
    refine ⟨_, rfl, _, rfl, _, rfl, g, aD, D, A, akvs, N, lv, rfl, hA1, hk1, by omega, hnd, hD1, hg, hcl, up, re, hw1, hpos, fun L H2 p a vp qk hL s2 h2 hvp hqk hrp ham haw hal hpl => ?_⟩
    have h12 := s2 _ _ h1
    have nLL : L ≠ Lr := fun z => by rw [z, h1] at hL; cases hL
    have hmul : (lv f - lv a.2.1) * 302 = (lv f - lv g) * 302 + 302 := by
      have : lv f - lv a.2.1 = (lv f - lv g) + 1 := by omega
      rw [this, Nat.succ_mul]
    have hfb : (lv f - lv g) * 302 ≤ 301 * 302 := Nat.mul_le_mul_right _ (by have := hlv f hf; omega)
    refine ⟨_, rfl, .inl ⟨rfl, _, SqL.of h12⟩, _, rfl, Lr, L, _, _, rfl, rfl, h12, h2, Nat.le_of_lt (Nat.lt_of_le_of_lt (m := 100000) (by rw [List.length_append, List.length_singleton]; omega) (by decide)), ?_⟩
    have tk3 : TK H2 (upd H2 Lr (.lst (vs ++ (vp ++ [.ref qk])))) := tk_put h12
    have hA3 : (upd H2 Lr (.lst (vs ++ (vp ++ [.ref qk])))) aD = some (.dT akvs) := by
      have hA2 := s2 _ _ hA1
      rw [upd_ne (fun z => by rw [z, h12] at hA2; cases hA2)]
      exact hA2
    have h3 : (upd H2 Lr (.lst (vs ++ (vp ++ [.ref qk])))) L = some (.lst (vp ++ [.ref qk])) := by rw [upd_ne nLL]; exact h2
    have s3 : Same H (upd H2 Lr (.lst (vs ++ (vp ++ [.ref qk])))) := same_mut (s1.trans s2) hLr
    have h3r : (upd H2 Lr (.lst (vs ++ (vp ++ [.ref qk])))) Lr = some (.lst (vs ++ (vp ++ [.ref qk]))) := upd_same
    generalize upd H2 Lr (.lst (vs ++ (vp ++ [.ref qk]))) = H3 at tk3 hA3 h3 s3 h3r
    obtain ⟨bv, hval, hb⟩ := hk.has hnd ham
    have hq3 := tk3 _ _ hqk
    refine ⟨_, rfl, _, rfl, _, rfl, L, _, _, _, rfl, rfl, SqL.of h3, atI_last _ _, aD, .ref bv, rfl, by rw [← hval]; exact DGet.t (k := keyA a.1) hA3 (by rw [keyA_V]; exact hq3), bv, _, _, _, rfl, rfl, SqT.of (s3 _ _ hb), at0, ?_⟩
    refine ⟨lv a.2.1, by omega, _, r ++ (p ++ [a]), vs ++ (vp ++ [.ref qk]), a.2.1, rfl, s3, h3r, ?_, hrow.app (hrp.snoc ham rfl), ?_, ?_, by omega, rfl⟩
    · rw [List.map_append, List.map_append]
      exact (hv.imp fun _ _ z => (z.tk (tk_same s2)).tk tk3).app ((hvp.imp fun _ _ z => z.tk tk3).app ⟨⟨qk, rfl, hq3⟩, trivial⟩)
    · have h1' := up.row hcl hrp hg
      have h2' := up a ham (hrp.cl hcl hg).1
      rw [wtR_app, wtR_app, wtR_cons]
      show _ + (_ + (_ + 0)) + _ = _
      have := hw1 a ham
      omega
    · rw [List.length_append, List.length_append, List.length_singleton, hmul]
      omega
  · have h0 : lv g = 0 := by
      have : ¬ (0 : Int) < (lv g : Int) := fun z => c (decide_eq_true z)
      omega
    exact ⟨_, rfl, q Lr H1 r vs g hLr s1 h1 hv hrow (by omega) (by
      have hfb : (lv f - lv g) * 302 ≤ 301 * 302 := Nat.mul_le_mul_right _ (by have := hlv f hf; omega)
      omega)⟩
end
end KB

set_option pp.maxSteps 400
namespace KB
open PySem L2 HT LamX NdefX

section
variable {P : Program} {w : World} {K : PySem.W.Frag} {mg : Str → Option Value} {base : Heap} {CN : Addr}
/-! ### most_waiting -/
abbrev smost_waiting : Stmt := top 20
theorem scmost_waiting : FnScope ["turned", "f", "asks", "rows", "place", "asked", "weight", "rows_on", "levels"] ["turned", "f"] (defScope smost_waiting) := ⟨rfl, rfl, rfl, by decide +kernel, rfl, by decide +kernel, by decide +kernel⟩
/-- what a told ring is -/
structure RingT (H H' : Hp) (A : List Ak) (f : Str) (l1 l2 : Addr) (r1 r2 : List Ak) (v1 v2 : List V) (g : Str) : Prop where
  n1 : H l1 = none
  n2 : H l2 = none
  ne : l1 ≠ l2
  h1 : H' l1 = some (.lst v1)
  h2 : H' l2 = some (.lst v2)
  p1 : All2 (PlcV H') (r1.map (·.1)) v1
  p2 : All2 (PlcV H') (r2.map (·.1)) v2
  w1 : Row A f r1 g
  w2 : Row A g r2 g
  wt : 0 < wtR r2
  b1 : v1.length ≤ 100000
/-- what a told row and its levels are -/
structure MostT (H H' : Hp) (A : List Ak) (f : Str) (L D : Addr) (N : List Str) (lv : Str → Nat) (r : List Ak) (vs : List V) (g : Str) : Prop where
  nL : H L = none
  nD : H D = none
  ne : L ≠ D
  hL : H' L = some (.lst vs)
  hD : H' D = some (.dK (LvK N lv))
  pv : All2 (PlcV H') (r.map (·.1)) vs
  row : Row A f r g
  wt : wtR r = lv f
  st : f ∈ N
  cl : Cl A N
  up : Up A N lv
  re : Re A N lv
  nr : NR A N
  so : ∀ n ∈ N, ∃ r, Row A f r n
  nd : N.Nodup
  b1 : vs.length ≤ 100000
def spMW : Sp := fun vs H Q _ => ∃ (p : Addr) (es : List TEr) (us : List V) (f : Str), vs = [.ref p, .str f] ∧ TBkAt H es us p ∧ es.length ≤ 6 ∧ (∀ e ∈ es, kP e.2.2 ∧ ncnt e.2.2 ≤ 1000) ∧ (es.map (·.1)).Nodup ∧ (∃ e ∈ es, e.1 = f) ∧ (asksB es).length ≤ 300 ∧
  (∀ H' t l1 l2 r1 r2 v1 v2 g, Same H H' → H' t = some (.tup [.str "ring", .ref l1, .ref l2]) → RingT H H' (asksB es) f l1 l2 r1 r2 v1 v2 g → Q (.ref t) H') ∧
  (∀ H' t L D N lv r vs g, Same H H' → H' t = some (.tup [.str "most", .ref L, .ref D]) → MostT H H' (asksB es) f L D N lv r vs g → Q (.ref t) H')
theorem ok_mw {f f1 f2 f3 f4 f5 : Addr} {fd d1 d2 d3 d4 d5 : FuncData} (F : Fun K "most_waiting" "most_waiting" smost_waiting f fd)
    (Gneed_errand : FnOk P w K mg base (L2.CX P w) 2 f1 d1 ["book", "f"] (spNeedE CN)) (Rneed_errand : Ref K mg "need_errand" f1 d1 ["book", "f"])
    (Gasks_placed : FnOk P w K mg base CX0 4 f2 d2 ["turned"] spAsks) (Rasks_placed : Ref K mg "asks_placed" f2 d2 ["turned"])
    (Grows_from : FnOk P w K mg base CX0 1 f3 d3 ["f", "asks"] spRows) (GrowsZ : FnOk P w K mg base CX0 1 f3 d3 ["f", "asks"] spRowsZ) (Rrows_from : Ref K mg "rows_from" f3 d3 ["f", "asks"])
    (Gleast_levels : FnOk P w K mg base CX0 1 f4 d4 ["asks", "names"] spLeast) (Rleast_levels : Ref K mg "least_levels" f4 d4 ["asks", "names"])
    (Ggreatest_row : FnOk P w K mg base CX0 3 f5 d5 ["f", "asks", "levels"] spGreat) (Rgreatest_row : Ref K mg "greatest_row" f5 d5 ["f", "asks", "levels"])
    (T : Txt K mg) : FnOk P w K mg base CX0 5 f fd ["turned", "f"] spMW := by
  refine F.ok scmost_waiting (fun vs H Q E h => ?_) (fun cdv A outer s H vs Q E hr h => ?_)
  · obtain ⟨p, es, us, f, rfl, _⟩ := h
    rfl
  obtain ⟨p, es, us, f, rfl, hB, hl6, hk0, hnd, ⟨e0, he0, hf⟩, hl3, qr, qm⟩ := h
  refine ⟨_, (pss_cons (ps_expr (pe_call Gneed_errand (hr.mono (by omega)) rfl Rneed_errand.m Rneed_errand.k Rneed_errand.b .nil passX (pa_cons (pv 0) (pa_cons (pv 1) pa_nil))))
    (pss_cons (ps_set (i := 2) scmost_waiting.nd rfl (Or.inl rfl) (pe_call Gasks_placed (hr.mono (by omega)) rfl Rasks_placed.m Rasks_placed.k Rasks_placed.b .nil pass0 (pa_cons (pv 0) pa_nil)))
    (pss_cons (ps_set (i := 3) scmost_waiting.nd rfl (Or.inl rfl) (pe_call Grows_from (hr.mono (by omega)) rfl Rrows_from.m Rrows_from.k Rrows_from.b .nil pass0 (pa_cons (pv 1) (pa_cons (pv 2) pa_nil))))
    (pss_cons (ps_lock (ps_for PassesOwn.never rfl (pi_tupItems (pv 2)) (pg_tup rfl (pgs_cons (pg_name (i := 4) scmost_waiting.nd rfl (Or.inl rfl)) (pgs_cons (pg_tup rfl (pgs_cons (pg_name (i := 5) scmost_waiting.nd rfl (Or.inl rfl)) (pgs_cons (pg_name (i := 6) scmost_waiting.nd rfl (Or.inl rfl)) pgs_nil))) pgs_nil))) (pss_one (ps_if (PW.pt (pw_and (pt_cmpR op_gt (pv 6) pe_int (nomark _)) (pw_and1 (pt_cmp (pc_din (hu_of hr) (pe_ix ix_tup (pv 4) pe_int (fun _ _ => rfl)) (pv 3)))))) (pss_cons (ps_set (i := 7) scmost_waiting.nd rfl (Or.inl rfl) (pe_call GrowsZ (hr.mono (by omega)) rfl Rrows_from.m Rrows_from.k Rrows_from.b .nil pass0 (pa_cons (pv 5) (pa_cons (pv 2) pa_nil))))
    (pss_one (ps_if (pt_cmp (pc_din (hu_of hr) (pe_ix ix_tup (pv 4) pe_int (fun _ _ => rfl)) (pv 7))) (pss_one (ps_ret (pe_tup (pa_cons pe_str (pa_cons (pe_dget (hu_of hr) (pv 3) (pe_ix ix_tup (pv 4) pe_int (fun _ _ => rfl)) (fun _ _ => rfl)) (pa_cons (pe_lst (pa_cons (pv 4) (StX.pa_star (pe_dget (hu_of hr) (pv 7) (pe_ix ix_tup (pv 4) pe_int (fun _ _ => rfl)) (fun _ _ => rfl)) pa_nil))) pa_nil)))))) pss_nil))) pss_nil))))
    (pss_cons (ps_set (i := 8) scmost_waiting.nd rfl (Or.inl rfl) (pe_call Gleast_levels (hr.mono (by omega)) rfl Rleast_levels.m Rleast_levels.k Rleast_levels.b .nil pass0 (pa_cons (pv 2) (pa_cons (pe_callTy (call_list_dK rfl) (by rfl) T.m_list (by decide +kernel) (pa_cons (pv 3) pa_nil)) pa_nil))))
    (pss_one (ps_ret (pe_tup (pa_cons pe_str (pa_cons (pe_call Ggreatest_row (hr.mono (by omega)) rfl Rgreatest_row.m Rgreatest_row.k Rgreatest_row.b .nil pass0 (pa_cons (pv 1) (pa_cons (pv 2) (pa_cons (pv 8) pa_nil)))) (pa_cons (pv 8) pa_nil))))))))))), ?_⟩
  refine ⟨_, rfl, _, rfl, p, es, us, f, rfl, hB, fun _ => ?_, fun hno => absurd hf (hno e0 he0)⟩
  refine ⟨_, rfl, p, es, us, rfl, hB, hl6, hk0, hnd, fun aD H1 akvs hA0 s1 hA hk => ?_⟩
  have hw1 : ∀ a ∈ asksB es, a.2.2 ≤ 1 := asksB_w
  have hndA := asksB_nd hnd
  generalize asksB es = A at hk hl3 hw1 hndA qm qr
  refine ⟨_, rfl, _, rfl, f, aD, A, akvs, rfl, hA, hk, by omega, fun D H2 R kvs W hD s2 hWn h2 hR ok hRl hRn => ?_⟩
  have hA2 := s2 _ _ hA
  have nDA : D ≠ aD := fun z => by rw [z, hA] at hD; cases hD
  refine ⟨aD, .dT akvs, hA2, trivial, fun od => ?_⟩
  have hA3 : (upd H2 aD (.frz od (.dT akvs))) aD = some (.frz od (.dT akvs)) := upd_same
  have f3 : ∀ b o, b ≠ aD → H2 b = some o → (upd H2 aD (.frz od (.dT akvs))) b = some o := fun b o n h => by rw [upd_ne n]; exact h
  generalize upd H2 aD (.frz od (.dT akvs)) = H3 at hA3 f3
  have back : ∀ H', (∀ b o, b ≠ aD → H2 b = some o → H' b = some o) → Same H2 (upd H' aD (.dT akvs)) := fun H' f4 b o h => by
    by_cases c : b = aD
    · rw [c, hA2] at h
      rw [c, upd_same]
      exact h
    · rw [upd_ne c]
      exact f4 b o c h
  have nst : ∀ {b : Addr} {u : HO}, H2 b = some u → (∀ kk, u ≠ .dT kk) → b ≠ aD := fun h n z => by
    rw [z, hA2] at h
    exact n _ (Option.some.inj h).symm
  refine ⟨_, rfl, aD, od, akvs, rfl, hA3, for_it walk_tupItems (fun i σ H' => ∃ (o4 o5 o6 o7 : Option V), σ = [some (.ref p), some (.str f), some (.ref aD), some (.ref D), o4, o5, o6, o7, none] ∧ (∀ b o, b ≠ aD → H2 b = some o → H' b = some o) ∧ H' aD = some (.frz od (.dT akvs)) ∧
      (∀ k a, k < i → A[k]? = some a → 0 < a.2.2 → a.1.1 ∈ R.map (·.1) → ∀ r, ¬ Row A a.2.1 r a.1.1)) ?_ ?_ ?_ ?_⟩
  · exact ⟨_, _, _, _, rfl, f3, hA3, fun k a h => absurd h (Nat.not_lt_zero k)⟩
  · rintro i σ H5 _ ⟨o4, o5, o6, o7, rfl, _, h, _⟩
    exact h
  · rintro i x σ H5 H6 hi ⟨o4, o5, o6, o7, rfl, f5, a5, hp5⟩ ⟨T', k, v, qk, hkv, hq, rfl, hT, rfl⟩
    have tk5 : TK H2 H5 := fun b xs hb => f5 b _ (nst hb (fun _ z => nomatch z)) hb
    have hk5 := (hk.tk (tk_same s2)).tk tk5
    obtain ⟨a, ha, hk1, bv, hv, hb⟩ := hk5.get hkv
    dsimp only at hk1 hv
    subst hk1 hv
    have sT := same_new hT (.tup [.ref qk, .ref bv])
    have ham := mem_of_get ha
    rw [keyA_V] at hq
    refine ⟨T', _, rfl, SqT.of upd_same, rfl, _, _, rfl, _, _, rfl, ⟨bv, _, rfl, SqT.of (sT _ _ hb), rfl, _, _, rfl, _, _, rfl, rfl, rfl, ?_⟩⟩
    have f6 : ∀ b o, b ≠ aD → H2 b = some o → (upd H5 T' (.tup [.ref qk, .ref bv])) b = some o := fun b o n h => sT _ _ (f5 b o n h)
    have a6 := sT _ _ a5
    have hq6 := sT _ _ hq
    have hk6 := hk5.tk (tk_same sT)
    generalize upd H5 T' (.tup [.ref qk, .ref bv]) = H6 at f6 a6 hq6 hk6
    have h26 := f6 _ _ nDA h2
    have hR6 : RwL H6 W R kvs := hR.mono (fun l vs _ h => f6 _ _ (nst h (fun _ z => nomatch z)) h) (fun l vs h => f6 _ _ (nst h (fun _ z => nomatch z)) h)
    have done : (0 < a.2.2 → a.1.1 ∈ R.map (·.1) → ∀ r, ¬ Row A a.2.1 r a.1.1) → (∀ k a, k < i + 1 → A[k]? = some a → 0 < a.2.2 → a.1.1 ∈ R.map (·.1) → ∀ r, ¬ Row A a.2.1 r a.1.1) := fun hd k a' hk' ha' x1 x2 => by
      by_cases c : k = i
      · rw [c, ha] at ha'
        cases ha'
        exact hd x1 x2
      · exact hp5 k a' (by omega) ha' x1 x2
    refine ⟨_, rfl, _, _, rfl, rfl, _, rfl, ?_⟩
    refine ite2 (fun c => ?_) (fun c => itF rfl ⟨_, _, _, _, rfl, f6, a6, done fun z => absurd (decide_eq_true (by omega : (0 : Int) < (a.2.2 : Int))) c⟩)
    refine ⟨_, rfl, qk, _, _, _, rfl, rfl, SqT.of hq6, at0, _, rfl, D, _, rfl, DGet.k (k := .inr a.1.1) h26, _, rfl, ?_⟩
    rw [hR6.val]
    by_cases hin : a.1.1 ∈ R.map (·.1)
    · refine itT (by rw [decide_eq_true hin]) ?_
      refine ⟨_, rfl, _, rfl, a.2.1, aD, A, akvs, od, rfl, a6, hk6, by omega, fun D3 H7 R3 kvs3 W3 hD3 s7 hWn3 h7 hR7 ok7 hR7l hR7n => ?_⟩
      have hq7 := s7 _ _ hq6
      have f7 : ∀ b o, b ≠ aD → H2 b = some o → H7 b = some o := fun b o n h => s7 _ _ (f6 b o n h)
      have a7 := s7 _ _ a6
      have h27 := s7 _ _ h26
      have hR7' := hR6.mono (fun l vs _ h => s7 _ _ h) (tk_same s7)
      refine ⟨_, rfl, qk, _, _, _, rfl, rfl, SqT.of hq7, at0, _, rfl, D3, _, rfl, DGet.k (k := .inr a.1.1) h7, _, rfl, ?_⟩
      rw [hR7.val]
      by_cases hin3 : a.1.1 ∈ R3.map (·.1)
      · refine itT (by rw [decide_eq_true hin3]) ?_
        obtain ⟨y, kvy, hy1, hy2, hy3, hy4, ly, vy, hy5, hy6, hy7, hy8⟩ := hR7'.there hin
        obtain ⟨y3, kvy3, hz1, hz2, hz3, hz4, lz, vz, hz5, hz6, hz7, hz8⟩ := hR7.there hin3
        rw [hy5] at hy3
        rw [hz5] at hz3
        have hzl : vz.length ≤ 301 := by
          have e1 := hz8.len
          rw [List.length_map] at e1
          have := hR7n y3 hz1
          omega
        refine ⟨_, rfl, _, rfl, qk, _, _, _, rfl, rfl, SqT.of hq7, at0, D, .ref ly, rfl, by rw [← hy3]; exact DGet.k (k := .inr a.1.1) h27, _, rfl, _, rfl, _, rfl, qk, _, _, _, rfl, rfl, SqT.of hq7, at0, D3, .ref lz, rfl, by rw [← hz3]; exact DGet.k (k := .inr a.1.1) h7, lz, _, rfl, .inr (SqL.of hz7), ?_⟩
        refine ⟨sz (by rw [List.append_nil, List.length_cons]; omega), fun l8 hl8 => ?_⟩
        refine ⟨sz (by show 3 ≤ 100000; decide), fun t ht => ?_⟩
        have s8 := (same_new hl8 (.lst (.ref qk :: (vz ++ [])))).trans (same_new ht (.tup [.str "ring", .ref ly, .ref l8]))
        refine ⟨s8 _ _ a7, ?_⟩
        have sF := (s1.trans s2).trans (back _ fun b o n h => s8 _ _ (f7 b o n h))
        have nlA : l8 ≠ aD := fun z => by rw [z, a7] at hl8; cases hl8
        have ntA : t ≠ aD := fun z => by rw [z, (same_new hl8 _) _ _ a7] at ht; cases ht
        have hy7' : H7 ly = some (.lst vy) := hy7
        have n1A : ly ≠ aD := fun z => by rw [z, a7] at hy7'; cases hy7'
        have ntl : l8 ≠ t := fun z => by rw [← z, upd_same] at ht; cases ht
        have nly : ly ≠ l8 := fun z => by rw [← z, hy7'] at hl8; cases hl8
        have hl8n : H7 l8 = none := hl8
        have tkF : TK H7 (upd (upd (upd H7 l8 (.lst (.ref qk :: (vz ++ [])))) t (.tup [.str "ring", .ref ly, .ref l8])) aD (.dT akvs)) := fun b xs hb => by
          rw [upd_ne (fun z => by rw [z, a7] at hb; cases hb)]
          exact s8 _ _ hb
        refine qr _ t ly l8 y.2 (a :: y3.2) vy (.ref qk :: (vz ++ [])) a.1.1 sF (by rw [upd_ne ntA]; exact upd_same) ⟨none_back s1 (hWn ly hy6), ?_, nly, by rw [upd_ne n1A]; exact s8 _ _ hy7, by rw [upd_ne nlA, upd_ne ntl]; exact upd_same, hy8.imp fun _ _ z => z.tk tkF, ?_, ?_, ?_, ?_, ?_⟩
        · cases e : H l8 with
          | none => rfl
          | some o =>
            have := f7 l8 o nlA (s2 _ _ (s1 _ _ e))
            rw [hl8n] at this
            cases this
        · exact ⟨⟨qk, rfl, tkF _ _ hq7⟩, cast (congrArg (All2 (PlcV _) _) (List.append_nil vz).symm) (hz8.imp fun _ _ z => z.tk tkF)⟩
        · have := ok.so y hy1
          rw [hy2] at this
          exact this
        · have := ok7.so y3 hz1
          rw [hz2] at this
          exact .cons ham this
        · rw [wtR_cons]
          have : 0 < a.2.2 := by
            have := of_decide_eq_true c
            omega
          omega
        · have e1 := hy8.len
          rw [List.length_map] at e1
          have := hRn y hy1
          omega
      · refine itF (by rw [decide_eq_false hin3]) ⟨_, _, _, _, rfl, f7, a7, done fun _ _ r hr => hin3 (ok7.all hr)⟩
    · refine itF (by rw [decide_eq_false hin]) ⟨_, _, _, _, rfl, f6, a6, done fun _ z => absurd z hin⟩
  · rintro σ H5 ⟨o4, o5, o6, o7, rfl, f5, a5, hp5⟩
    rw [hk.len] at hp5
    refine ⟨a5, ?_⟩
    have s6 := back H5 f5
    have hA6 : (upd H5 aD (.dT akvs)) aD = some (.dT akvs) := upd_same
    generalize upd H5 aD (.dT akvs) = H6 at s6 hA6
    have h26 := s6 _ _ h2
    have hk6 := (hk.tk (tk_same s2)).tk (tk_same s6)
    have hnr : NR A (R.map (·.1)) := fun a ha hw hin => by
      obtain ⟨k, hk', e⟩ := List.getElem_of_mem ha
      exact hp5 k a hk' (by rw [List.getElem?_eq_getElem hk', e]) hw hin
    refine ⟨_, rfl, _, rfl, D, kvs, rfl, h26, fun nL hnL => ?_⟩
    have s7 := same_new hnL (.lst (kvs.map fun kv => kV kv.1))
    have hN : (upd H6 nL (.lst (kvs.map fun kv => kV kv.1))) nL = some (.lst ((R.map (·.1)).map V.str)) := by
      rw [upd_same, show (kvs.map fun kv => kV kv.1) = (kvs.map (·.1)).map kV by rw [List.map_map]; rfl, hR.keys, List.map_map, List.map_map]
      rfl
    generalize upd H6 nL (.lst (kvs.map fun kv => kV kv.1)) = H7 at s7 hN
    refine ⟨aD, nL, A, akvs, R.map (·.1), rfl, s7 _ _ hA6, hk6.tk (tk_same s7), hN, ok.nd, by rw [List.length_map]; omega, by omega, ok.cl, hnr, hw1, fun Dl H8 lv hDl s8 h8 up re => ?_⟩
    have s68 := s7.trans s8
    refine ⟨_, rfl, _, rfl, _, rfl, f, aD, Dl, A, akvs, R.map (·.1), lv, rfl, s68 _ _ hA6, hk6.tk (tk_same s68), hl3, by rw [List.length_map]; omega, re.le ok.cl hnr hw1, hndA, h8, ok.st, ok.cl, up, re, hw1, fun L H9 r vs g hL s9 h9 hv hrow hwt hvb => ?_⟩
    have hso : ∀ n ∈ R.map (·.1), ∃ r, Row A f r n := fun n hn => by
      obtain ⟨x, hx, e⟩ := List.mem_map.mp hn
      exact ⟨x.2, by rw [← e]; exact ok.so x hx⟩
    refine ⟨_, rfl, sz (by show 3 ≤ 100000; decide), fun t ht => ?_⟩
    have s10 := same_new ht (.tup [.str "most", .ref L, .ref Dl])
    exact qm _ t L Dl (R.map (·.1)) lv r vs g (s1.trans (s2.trans (s6.trans (s68.trans (s9.trans s10))))) upd_same ⟨none_back (s1.trans (s2.trans (s6.trans s68))) hL, none_back (s1.trans (s2.trans (s6.trans s7))) hDl, (fun z => by rw [z, h8] at hL; cases hL), s10 _ _ h9, s10 _ _ (s9 _ _ h8), hv.imp fun _ _ z => z.tk (tk_same s10), hrow, hwt, ok.st, ok.cl, up, re, hnr, hso, ok.nd, hvb⟩
/-- a name of no errand -/
def spMWZ (CN : Addr) : Sp := fun vs H Q E => ∃ (p : Addr) (es : List TEr) (us : List V) (f : Str), vs = [.ref p, .str f] ∧ TBkAt H es us p ∧ (∀ e ∈ es, e.1 ≠ f) ∧ E (.ref CN) none H
theorem ok_mwZ {f f1 f2 f3 f4 f5 : Addr} {fd d1 d2 d3 d4 d5 : FuncData} (F : Fun K "most_waiting" "most_waiting" smost_waiting f fd)
    (Gneed_errand : FnOk P w K mg base (L2.CX P w) 2 f1 d1 ["book", "f"] (spNeedE CN)) (Rneed_errand : Ref K mg "need_errand" f1 d1 ["book", "f"])
    (Gasks_placed : FnOk P w K mg base CX0 4 f2 d2 ["turned"] spAsks) (Rasks_placed : Ref K mg "asks_placed" f2 d2 ["turned"])
    (Grows_from : FnOk P w K mg base CX0 1 f3 d3 ["f", "asks"] spRows) (GrowsZ : FnOk P w K mg base CX0 1 f3 d3 ["f", "asks"] spRowsZ) (Rrows_from : Ref K mg "rows_from" f3 d3 ["f", "asks"])
    (Gleast_levels : FnOk P w K mg base CX0 1 f4 d4 ["asks", "names"] spLeast) (Rleast_levels : Ref K mg "least_levels" f4 d4 ["asks", "names"])
    (Ggreatest_row : FnOk P w K mg base CX0 3 f5 d5 ["f", "asks", "levels"] spGreat) (Rgreatest_row : Ref K mg "greatest_row" f5 d5 ["f", "asks", "levels"])
    (T : Txt K mg) : FnOk P w K mg base (L2.CX P w) 5 f fd ["turned", "f"] (spMWZ CN) := by
  refine F.okX scmost_waiting (fun vs H Q E h => ?_) (fun cdv A outer s H vs Q E hr h => ?_)
  · obtain ⟨p, es, us, f, rfl, _⟩ := h
    rfl
  obtain ⟨p, es, us, nm, rfl, hB, hno, q⟩ := h
  have tk : Takes (cxOf (L2.CX P w) P w K mg base ["turned", "f", "asks", "rows", "place", "asked", "weight", "rows_on", "levels"] "most_waiting" (defScope smost_waiting) f cdv A outer s H E) (fun cls d σ H' => E cls d H') := takes_of rfl rfl rfl rfl
  refine ⟨_, (pss_cons (ps_expr (pe_callS Gneed_errand (hr.mono (by omega)) rfl Rneed_errand.m Rneed_errand.k Rneed_errand.b (fun σ => passAt tk σ) (pa_cons (pv 0) (pa_cons (pv 1) pa_nil))))
    (pss_cons (ps_set (i := 2) scmost_waiting.nd rfl (Or.inl rfl) (pe_call Gasks_placed (hr.mono (by omega)) rfl Rasks_placed.m Rasks_placed.k Rasks_placed.b .nil pass0 (pa_cons (pv 0) pa_nil)))
    (pss_cons (ps_set (i := 3) scmost_waiting.nd rfl (Or.inl rfl) (pe_call Grows_from (hr.mono (by omega)) rfl Rrows_from.m Rrows_from.k Rrows_from.b .nil pass0 (pa_cons (pv 1) (pa_cons (pv 2) pa_nil))))
    (pss_cons (ps_lock (ps_for (passes_of rfl) rfl (pi_tupItems (pv 2)) (pg_tup rfl (pgs_cons (pg_name (i := 4) scmost_waiting.nd rfl (Or.inl rfl)) (pgs_cons (pg_tup rfl (pgs_cons (pg_name (i := 5) scmost_waiting.nd rfl (Or.inl rfl)) (pgs_cons (pg_name (i := 6) scmost_waiting.nd rfl (Or.inl rfl)) pgs_nil))) pgs_nil))) (pss_one (ps_if (PW.pt (pw_and (pt_cmpR op_gt (pv 6) pe_int (nomark _)) (pw_and1 (pt_cmp (pc_din (hu_of hr) (pe_ix ix_tup (pv 4) pe_int (fun _ _ => rfl)) (pv 3)))))) (pss_cons (ps_set (i := 7) scmost_waiting.nd rfl (Or.inl rfl) (pe_call GrowsZ (hr.mono (by omega)) rfl Rrows_from.m Rrows_from.k Rrows_from.b .nil pass0 (pa_cons (pv 5) (pa_cons (pv 2) pa_nil))))
    (pss_one (ps_if (pt_cmp (pc_din (hu_of hr) (pe_ix ix_tup (pv 4) pe_int (fun _ _ => rfl)) (pv 7))) (pss_one (ps_ret (pe_tup (pa_cons pe_str (pa_cons (pe_dget (hu_of hr) (pv 3) (pe_ix ix_tup (pv 4) pe_int (fun _ _ => rfl)) (fun _ _ => rfl)) (pa_cons (pe_lst (pa_cons (pv 4) (StX.pa_star (pe_dget (hu_of hr) (pv 7) (pe_ix ix_tup (pv 4) pe_int (fun _ _ => rfl)) (fun _ _ => rfl)) pa_nil))) pa_nil)))))) pss_nil))) pss_nil))))
    (pss_cons (ps_set (i := 8) scmost_waiting.nd rfl (Or.inl rfl) (pe_call Gleast_levels (hr.mono (by omega)) rfl Rleast_levels.m Rleast_levels.k Rleast_levels.b .nil pass0 (pa_cons (pv 2) (pa_cons (pe_callTy (call_list_dK rfl) (by rfl) T.m_list (by decide +kernel) (pa_cons (pv 3) pa_nil)) pa_nil))))
    (pss_one (ps_ret (pe_tup (pa_cons pe_str (pa_cons (pe_call Ggreatest_row (hr.mono (by omega)) rfl Rgreatest_row.m Rgreatest_row.k Rgreatest_row.b .nil pass0 (pa_cons (pv 1) (pa_cons (pv 2) (pa_cons (pv 8) pa_nil)))) (pa_cons (pv 8) pa_nil))))))))))), ?_⟩
  refine ⟨_, rfl, _, rfl, p, es, us, nm, rfl, hB, fun hex => ?_, fun _ => q⟩
  obtain ⟨e, he, z⟩ := hex
  exact absurd z (hno e he)
end
end KB

set_option pp.maxSteps 400
namespace KB
open PySem L2 HT LamX NdefX

/-! ### asks of a part -/
def asksOf : Pt → List (Str × Str)
  | .give _ _ => []
  | .ask f _ j => [(f, j)]
  | .tell _ _ p => asksOf p
  | .lett _ _ p => asksOf p
  | .iff _ p q => asksOf p ++ asksOf q
  | .post _ _ p q => asksOf p ++ asksOf q
def postsOk : Pt → Prop
  | .give _ _ => True
  | .ask _ _ _ => True
  | .tell _ _ p => postsOk p
  | .lett _ _ p => postsOk p
  | .iff _ p q => postsOk p ∧ postsOk q
  | .post j _ p q => j ≠ "home" ∧ postsOk p ∧ postsOk q
def inE (e : List Int × Nd) : Option (List Int × Pt) := match e.2 with
  | .inl p => some (e.1, p)
  | .inr _ => none
theorem in_map (k : Int) (l : List (List Int × Nd)) : (l.map fun e => (k :: e.1, e.2)).filterMap inE = (l.filterMap inE).map fun e => (k :: e.1, e.2) := by
  rw [List.filterMap_map, List.map_filterMap]
  congr 1
  funext e
  obtain ⟨ks, n⟩ := e
  cases n <;> rfl
theorem in_T : ∀ t : Tm, (plT_J7 t).filterMap inE = [] := by
  intro t
  induction t with
  | mk h n k ih =>
    rw [show plT_J7 (.mk h n k) = ([], .inr (.mk h n k)) :: (List.ofFn fun i : _root_.Fin n => (plT_J7 (k i)).map (fun e => ((i.val : Int) :: e.1, e.2))).flatten from rfl]
    rw [List.filterMap_cons]
    show List.filterMap inE _ = []
    rw [List.filterMap_eq_nil_iff]
    intro e he
    obtain ⟨l, hl, he2⟩ := List.mem_flatten.mp he
    obtain ⟨i, rfl⟩ := List.mem_ofFn.mp hl
    obtain ⟨e', he', rfl⟩ := List.mem_map.mp he2
    have := List.filterMap_eq_nil_iff.mp (ih i) e' he'
    obtain ⟨ks, nn⟩ := e'
    cases nn with
    | inl p => cases this
    | inr t => rfl
theorem in_Ts : ∀ (ts : List Tm) (j : Nat), (plTs j ts).filterMap inE = []
  | [], _ => rfl
  | t :: ts, j => by
    show (((plT_J7 t).map fun e => ((j : Int) :: e.1, e.2)) ++ plTs (j + 1) ts).filterMap inE = []
    rw [List.filterMap_append, in_map, in_T, in_Ts ts (j + 1)]
    rfl
theorem inl_same : ∀ p : Pt, (plQ p).filterMap inE = allP p
  | .give j t => by
    show ([], Pt.give j t) :: List.filterMap inE (((plT_J7 t).map fun e => (((0 : Nat) : Int) :: e.1, e.2)) ++ []) = _
    rw [List.append_nil, in_map, in_T]
    rfl
  | .ask f ts j => by
    show ([], Pt.ask f ts j) :: List.filterMap inE (plTs 0 ts) = _
    rw [in_Ts]
    rfl
  | .tell x t p => by
    show ([], Pt.tell x t p) :: List.filterMap inE (((plT_J7 t).map fun e => (((0 : Nat) : Int) :: e.1, e.2)) ++ (((plQ p).map fun e => (((1 : Nat) : Int) :: e.1, e.2)) ++ [])) = _
    rw [List.append_nil, List.filterMap_append, in_map, in_map, in_T, inl_same p]
    show _ = _ :: (_ ++ [])
    rw [List.append_nil]
    rfl
  | .lett x t p => by
    show ([], Pt.lett x t p) :: List.filterMap inE (((plT_J7 t).map fun e => (((0 : Nat) : Int) :: e.1, e.2)) ++ (((plQ p).map fun e => (((1 : Nat) : Int) :: e.1, e.2)) ++ [])) = _
    rw [List.append_nil, List.filterMap_append, in_map, in_map, in_T, inl_same p]
    show _ = _ :: (_ ++ [])
    rw [List.append_nil]
    rfl
  | .iff t p q => by
    show ([], Pt.iff t p q) :: List.filterMap inE (((plT_J7 t).map fun e => (((0 : Nat) : Int) :: e.1, e.2)) ++ (((plQ p).map fun e => (((1 : Nat) : Int) :: e.1, e.2)) ++ (((plQ q).map fun e => (((2 : Nat) : Int) :: e.1, e.2)) ++ []))) = _
    rw [List.append_nil, List.filterMap_append, List.filterMap_append, in_map, in_map, in_map, in_T, inl_same p, inl_same q]
    show _ = _ :: (_ ++ (_ ++ []))
    rw [List.append_nil]
    rfl
  | .post j x p q => by
    show ([], Pt.post j x p q) :: List.filterMap inE (((plQ p).map fun e => (((0 : Nat) : Int) :: e.1, e.2)) ++ (((plQ q).map fun e => (((1 : Nat) : Int) :: e.1, e.2)) ++ [])) = _
    rw [List.append_nil, List.filterMap_append, in_map, in_map, inl_same p, inl_same q]
    show _ = _ :: (_ ++ (_ ++ []))
    rw [List.append_nil]
    rfl
def akP (nm : Str) (e : List Int × Pt) : Option Ak := match e.2 with
  | .ask g _ j => some ((nm, e.1), g, if j = "home" then 0 else 1)
  | _ => none
theorem asksE_same (e : TEr) : asksE e = (allP e.2.2).filterMap (akP e.1) := by
  rw [← inl_same, List.filterMap_filterMap]
  unfold asksE
  congr 1
  funext x
  obtain ⟨ks, n⟩ := x
  cases n with
  | inl p => cases p <;> rfl
  | inr t => rfl
structure AskP (A : List Ak) (g : Str) (p : Pt) : Prop where
  po : postsOk p
  a : ∀ x ∈ asksOf p, ∃ a ∈ A, a.1.1 = g ∧ a.2.1 = x.1 ∧ a.2.2 = if x.2 = "home" then 0 else 1
/-! ### a run's heights stay below the levels -/
structure FrL (A : List Ak) (N : List Str) (lv : Str → Nat) (L : Nat) (tab : List HR) (n : Nat) (p : Pt) (hs : Str → Option Nat) : Prop where
  x : ∃ (g : Str) (h : Nat), g ∈ N ∧ AskP A g p ∧ (∃ i, hs "home" = some i ∧ hiAt tab i = (h : Int)) ∧ h + lv g ≤ L ∧ ∀ j i, hs j = some i → i ≤ n ∧ (j ≠ "home" → hiAt tab i = (h : Int) + 1)
theorem hiAt_app {tab : List HR} {r : HR} {i : Nat} (h : i ≤ tab.length) : hiAt (tab ++ [r]) i = hiAt tab i := by
  cases i with
  | zero => rfl
  | succ k =>
    show (((tab ++ [r])[k]?).map (·.h)).getD 0 = ((tab[k]?).map (·.h)).getD 0
    rw [List.getElem?_append_left (by omega)]
theorem FrL.app {A : List Ak} {N : List Str} {lv : Str → Nat} {L : Nat} {tab : List HR} {r : HR} {n : Nat} {p : Pt} {hs : Str → Option Nat} (f : FrL A N lv L tab n p hs) (hn : n ≤ tab.length) : FrL A N lv L (tab ++ [r]) n p hs := by
  obtain ⟨g, h, h1, h2, ⟨i, h3, h4⟩, h5, h6⟩ := f.x
  refine ⟨g, h, h1, h2, ⟨i, h3, ?_⟩, h5, fun j i hj => ⟨(h6 j i hj).1, fun hne => ?_⟩⟩
  · rw [hiAt_app (by have := (h6 _ _ h3).1; omega)]; exact h4
  · rw [hiAt_app (by have := (h6 _ _ hj).1; omega)]; exact (h6 j i hj).2 hne
theorem FrL.sub {A : List Ak} {N : List Str} {lv : Str → Nat} {L : Nat} {tab : List HR} {n : Nat} {p q : Pt} {hs : Str → Option Nat} (f : FrL A N lv L tab n p hs) (k : postsOk p → postsOk q) (s : ∀ x ∈ asksOf q, x ∈ asksOf p) : FrL A N lv L tab n q hs := by
  obtain ⟨g, h, h1, h2, h3, h5, h6⟩ := f.x
  exact ⟨g, h, h1, ⟨k h2.po, fun x hx => h2.a x (s x hx)⟩, h3, h5, h6⟩
theorem FrL.le {A : List Ak} {N : List Str} {lv : Str → Nat} {L : Nat} {tab : List HR} {n m : Nat} {p : Pt} {hs : Str → Option Nat} (f : FrL A N lv L tab n p hs) (k : n ≤ m) : FrL A N lv L tab m p hs := by
  obtain ⟨g, h, h1, h2, h3, h5, h6⟩ := f.x
  exact ⟨g, h, h1, h2, h3, h5, fun j i hj => ⟨Nat.le_trans (h6 j i hj).1 k, (h6 j i hj).2⟩⟩
end KB

namespace KB
open PySem L2

/-! ### new words are words -/
theorem digs_smallZ : ∀ n k : Nat, k ≤ n → ∀ c ∈ digs k, small c = true := by
  intro n
  induction n with
  | zero =>
    intro k hk c hc
    have h0 : k = 0 := by omega
    subst h0
    rw [digs_eq, if_pos rfl, List.nil_append] at hc
    rw [List.mem_singleton.mp hc]
    decide
  | succ n ih =>
    intro k hk c hc
    rw [digs_eq] at hc
    rcases List.mem_append.mp hc with z | z
    · by_cases d : k / 26 = 0
      · rw [if_pos d] at z
        cases z
      · rw [if_neg d] at z
        exact ih (k / 26) (by omega) c z
    · rw [List.mem_singleton.mp z]
      unfold small
      rw [decide_eq_true (by omega), decide_eq_true (by omega)]
      rfl
theorem isW_wordOfZ {k : Nat} (h : k < 26 ^ 7) : isW (wordOf k) = true := by
  have hl := digs_len 6 k h
  have hz : (wordOf k).length = (digs k).length + 1 := by
    show ((digs k ++ [113]).toArray).size = _
    rw [List.size_toArray, List.length_append]
    rfl
  have hk : keptW.contains (wordOf k) = false := by
    cases hc : keptW.contains (wordOf k) with
    | false => rfl
    | true =>
      exfalso
      have hm : wordOf k ∈ keptW := by simpa using hc
      have hlast : (wordOf k).cps.toList.getLast? = some 113 := by
        show (digs k ++ [113]).toArray.toList.getLast? = some 113
        rw [List.getLast?_append]
        rfl
      have all : ∀ z ∈ keptW, z.cps.toList.getLast? ≠ some 113 := by decide +kernel
      exact all _ hm hlast
  unfold isW
  rw [hk, hz]
  have a1 : decide (1 ≤ (digs k).length + 1) = true := decide_eq_true (by omega)
  have a2 : decide ((digs k).length + 1 ≤ 8) = true := decide_eq_true (by omega)
  rw [a1, a2]
  have a3 : (wordOf k).cps.toList.all small = true := by
    show (digs k ++ [113]).toArray.toList.all small = true
    rw [List.all_eq_true]
    intro c hc
    rcases List.mem_append.mp (show c ∈ digs k ++ [113] from hc) with z | z
    · exact digs_smallZ k k (Nat.le_refl _) c z
    · rw [List.mem_singleton.mp z]
      decide
  rw [a3]
  rfl
theorem isW_new {tk : List Str} {m m1 : Nat} {w : Str} (h : NwR tk m w m1) (e : m1 ≤ 26 ^ 7) : isW w = true := by
  obtain ⟨k, _, _, rfl, _, rfl, _⟩ := h
  exact isW_wordOfZ (by omega)
theorem ne_home {w : Str} (h : isW w = true) : w ≠ "home" := fun e => by
  rw [e] at h
  exact absurd h (by decide +kernel)
theorem okT_kidm {t u : Tm} (h : okT t) (e : u ∈ kidsT t) : okT u := by
  obtain ⟨hd, n, k⟩ := t
  obtain ⟨i, rfl⟩ := List.mem_ofFn.mp e
  exact h.2 i
theorem okH_of {t : Tm} (h : okT t) : okH (hdT t) := by
  obtain ⟨hd, n, k⟩ := t
  exact h.1
theorem ht_kidm {t u : Tm} {n : Nat} (h : HtLe (n + 1) t) (e : u ∈ kidsT t) : HtLe n u := by
  obtain ⟨hd, m, k⟩ := t
  obtain ⟨i, rfl⟩ := List.mem_ofFn.mp e
  exact h i
theorem ht_pos {t : Tm} {n : Nat} (h : HtLe n t) : ∃ m, n = m + 1 := by
  cases n with
  | zero => exact h.elim
  | succ n => exact ⟨n, rfl⟩
/-! ### what is laid ahead: its kinds, its size, its asks -/
def kL : List Ld → Prop
  | [] => True
  | .lett x s :: r => isW x = true ∧ STm s ∧ kL r
  | .tell x s :: r => isW x = true ∧ STm s ∧ kL r
  | .post j x u :: r => isW j = true ∧ isW x = true ∧ kP u ∧ kL r
theorem kL_put : ∀ {ls : List Ld} {q : Pt}, kL ls → kP q → kP (putAh ls q)
  | [], _, _, h => h
  | .lett _ _ :: _, _, ⟨a, b, c⟩, h => ⟨a, b, kL_put c h⟩
  | .tell _ _ :: _, _, ⟨a, b, c⟩, h => ⟨a, b, kL_put c h⟩
  | .post _ _ _ :: _, _, ⟨a, b, c, d⟩, h => ⟨isV_of a, isV_of b, kL_put d h, c⟩
theorem kL_app : ∀ {a b : List Ld}, kL a → kL b → kL (a ++ b)
  | [], _, _, h => h
  | .lett _ _ :: _, _, ⟨a, b, c⟩, h => ⟨a, b, kL_app c h⟩
  | .tell _ _ :: _, _, ⟨a, b, c⟩, h => ⟨a, b, kL_app c h⟩
  | .post _ _ _ :: _, _, ⟨a, b, c, d⟩, h => ⟨a, b, c, kL_app d h⟩
def ncL : List Ld → Nat
  | [] => 0
  | .lett _ s :: r => 1 + cnt s + ncL r
  | .tell _ s :: r => 1 + cnt s + ncL r
  | .post _ _ u :: r => 1 + ncnt u + ncL r
theorem ncL_put : ∀ (ls : List Ld) (q : Pt), ncnt (putAh ls q) = ncL ls + ncnt q
  | [], q => by show ncnt q = 0 + ncnt q; omega
  | .lett _ s :: r, q => by show 1 + cnt s + ncnt (putAh r q) = 1 + cnt s + ncL r + ncnt q; rw [ncL_put r q]; omega
  | .tell _ s :: r, q => by show 1 + cnt s + ncnt (putAh r q) = 1 + cnt s + ncL r + ncnt q; rw [ncL_put r q]; omega
  | .post _ _ u :: r, q => by show 1 + ncnt (putAh r q) + ncnt u = 1 + ncnt u + ncL r + ncnt q; rw [ncL_put r q]; omega
theorem ncL_app : ∀ (a b : List Ld), ncL (a ++ b) = ncL a + ncL b
  | [], b => by show ncL b = 0 + ncL b; omega
  | .lett _ s :: r, b => by show 1 + cnt s + ncL (r ++ b) = 1 + cnt s + ncL r + ncL b; rw [ncL_app r b]; omega
  | .tell _ s :: r, b => by show 1 + cnt s + ncL (r ++ b) = 1 + cnt s + ncL r + ncL b; rw [ncL_app r b]; omega
  | .post _ _ u :: r, b => by show 1 + ncnt u + ncL (r ++ b) = 1 + ncnt u + ncL r + ncL b; rw [ncL_app r b]; omega
def aW (j : Str) : Nat := if j = "home" then 0 else 1
def akN : Pt → List (Str × Nat)
  | .ask g _ j => [(g, aW j)]
  | _ => []
def cP (x : Str × Nat) : Pt → Nat
  | .give _ _ => 0
  | .ask g _ j => [(g, aW j)].count x
  | .tell _ _ p => cP x p
  | .lett _ _ p => cP x p
  | .iff _ p q => cP x p + cP x q
  | .post _ _ p q => cP x p + cP x q
def cL (x : Str × Nat) : List Ld → Nat
  | [] => 0
  | .lett _ _ :: r => cL x r
  | .tell _ _ :: r => cL x r
  | .post _ _ u :: r => cP x u + cL x r
theorem cL_put (x : Str × Nat) : ∀ (ls : List Ld) (q : Pt), cP x (putAh ls q) = cL x ls + cP x q
  | [], q => by show cP x q = 0 + cP x q; omega
  | .lett _ _ :: r, q => cL_put x r q
  | .tell _ _ :: r, q => cL_put x r q
  | .post _ _ u :: r, q => by show cP x (putAh r q) + cP x u = cP x u + cL x r + cP x q; rw [cL_put x r q]; omega
theorem cL_app (x : Str × Nat) : ∀ (a b : List Ld), cL x (a ++ b) = cL x a + cL x b
  | [], b => by show cL x b = 0 + cL x b; omega
  | .lett _ _ :: r, b => cL_app x r b
  | .tell _ _ :: r, b => cL_app x r b
  | .post _ _ u :: r, b => by show cP x u + cL x (r ++ b) = cP x u + cL x r + cL x b; rw [cL_app x r b]; omega
/-! ### the plain asks of a term -/
def hereH (h : Hd) (l : Bool) (i : Nat) : Bool := l && (match h with | .lett _ => decide (i = 1) | .iff => decide (0 < i) | _ => false)
theorem hereH_f (h : Hd) (i : Nat) : hereH h false i = false := rfl
def ownB (h : Hd) (l : Bool) : List (Str × Nat) := match h with | .ask f => [(f, if l = true then 0 else 1)] | _ => []
def plB : Tm → Bool → List (Str × Nat)
  | .mk h n k, l => ownB h l ++ (List.ofFn fun i : _root_.Fin n => plB (k i) (hereH h l i.val)).flatten
def plBs (h : Hd) (l : Bool) : Nat → List Tm → List (Str × Nat)
  | _, [] => []
  | i, t :: r => plB t (hereH h l i) ++ plBs h l (i + 1) r
theorem plBs_fn {h : Hd} {l : Bool} : ∀ {n : Nat} {i0 : Nat} {k : _root_.Fin n → Tm}, plBs h l i0 (List.ofFn k) = (List.ofFn fun i : _root_.Fin n => plB (k i) (hereH h l (i0 + i.val))).flatten
  | 0, _, _ => rfl
  | n + 1, i0, k => by
    rw [List.ofFn_succ, List.ofFn_succ, List.flatten_cons]
    show plB (k 0) (hereH h l i0) ++ plBs h l (i0 + 1) (List.ofFn fun i => k i.succ) = _
    rw [plBs_fn]
    congr 3
    funext i
    have e : i0 + (i.succ).val = i0 + 1 + i.val := by
      rw [_root_.Fin.val_succ]
      omega
    rw [e]
theorem plB_mk (t : Tm) (l : Bool) : plB t l = ownB (hdT t) l ++ plBs (hdT t) l 0 (kidsT t) := by
  cases t with
  | mk h n k =>
    show ownB h l ++ _ = ownB h l ++ plBs h l 0 (List.ofFn k)
    rw [plBs_fn]
    congr 3
    funext i
    rw [Nat.zero_add]
/-- asks within, none last -/
def cS (x : Str × Nat) : List Tm → Nat
  | [] => 0
  | t :: r => (plB t false).count x + cS x r
theorem plBs_no {h : Hd} {l : Bool} {x : Str × Nat} : ∀ {ts : List Tm} {i : Nat}, (∀ j, hereH h l j = false) → (plBs h l i ts).count x = cS x ts
  | [], _, _ => rfl
  | t :: r, i, hh => by
    show (plB t (hereH h l i) ++ plBs h l (i + 1) r).count x = (plB t false).count x + cS x r
    rw [List.count_append, hh i, plBs_no hh]
theorem cB_no {t : Tm} {l : Bool} {x : Str × Nat} (hh : ∀ j, hereH (hdT t) l j = false) : (plB t l).count x = (ownB (hdT t) l).count x + cS x (kidsT t) := by
  rw [plB_mk, List.count_append, plBs_no hh]
structure Sy (n : Nat) (s : Tm) : Prop where
  ok : okT s
  si : simple s = true
  ht : HtLe n s
theorem Sy.st {n : Nat} {s : Tm} (h : Sy n s) (hn : n ≤ 30) (hc : cnt s ≤ 200) : STm s := ⟨h.ok, h.si, hc, h.ht.le hn⟩
structure Hk (n : Nat) (t : Tm) : Prop where
  ar : arA t
  ok : okT t
  ht : HtLe n t
  cn : cnt t ≤ 200
  n : n ≤ 30
theorem Hk.kid {n : Nat} {t u : Tm} (h : Hk n t) (hu : u ∈ kidsT t) : Hk (n - 1) u := by
  obtain ⟨m, rfl⟩ := ht_pos h.ht
  exact ⟨h.ar.kid hu, okT_kidm h.ok hu, ht_kidm h.ht hu, by have := cnt_kid hu; have := h.cn; omega, by have := h.n; omega⟩
theorem Hk.up {n : Nat} {t u : Tm} (h : Hk n t) (hu : u ∈ kidsT t) : Hk n u := by
  obtain ⟨m, rfl⟩ := ht_pos h.ht
  exact ⟨h.ar.kid hu, okT_kidm h.ok hu, (ht_kidm h.ht hu).up, by have := cnt_kid hu; have := h.cn; omega, h.n⟩
section
variable {tk : List Str}
def GSs (tk : List Str) (t : Tm) : Prop := ∀ {m ls s m' n}, CpS tk t m ls s m' → m' ≤ 26 ^ 7 → Hk n t → kL ls ∧ Sy n s ∧ cnt s ≤ cnt t ∧ ncL ls + cnt s ≤ 6 * cnt t ∧ (plainH (hdT t) = true → ncL ls + cnt s ≤ 6 * cnt t - 4) ∧ ∀ x, cL x ls = (plB t false).count x
def GPp (tk : List Str) (t : Tm) : Prop := ∀ {y m ls m' n}, CpP tk t y m ls m' → m' ≤ 26 ^ 7 → Hk n t → isW y = true → kL ls ∧ ncL ls ≤ 6 * cnt t - 1 ∧ ∀ x, cL x ls = (plB t false).count x
def GDd (tk : List Str) (t : Tm) : Prop := ∀ {j m ls q m' n}, CpD tk t j m ls q m' → m' ≤ 26 ^ 7 → Hk n t → PySem.PyData.strOk j = true → kL ls ∧ kP q ∧ ncL ls + ncnt q ≤ 6 * cnt t + 1 ∧ ∀ x, cL x ls + cP x q = (plB t (decide (j = "home"))).count x
theorem gL : ∀ {ts : List Tm}, (∀ u ∈ ts, GSs tk u) → ∀ {m ls ss m' n}, CpL tk ts m ls ss m' → m' ≤ 26 ^ 7 → (∀ u ∈ ts, Hk n u) → kL ls ∧ (∀ s ∈ ss, Sy n s ∧ STm s) ∧ cnts ss ≤ cnts ts ∧ ncL ls + cnts ss ≤ 6 * cnts ts ∧ ∀ x, cL x ls = cS x ts
  | [], _, m, ls, ss, m', n, h, _, _ => by
    cases h
    exact ⟨trivial, fun _ z => absurd z List.not_mem_nil, Nat.le_refl _, Nat.zero_le _, fun _ => rfl⟩
  | t :: ts, ih, m, ls, ss, m', n, h, hm, H => by
    cases h with
    | cons h1 _ h2 =>
      have Ht := H t List.mem_cons_self
      obtain ⟨a1, a2, a3, a4, _, a5⟩ := ih t List.mem_cons_self h1 (Nat.le_trans h2.up hm) Ht
      obtain ⟨b1, b2, b0, b3, b4⟩ := gL (fun u hu => ih u (List.mem_cons_of_mem _ hu)) h2 hm fun u hu => H u (List.mem_cons_of_mem _ hu)
      refine ⟨kL_app a1 b1, fun s hs => ?_, by rw [cnts_cons, cnts_cons]; omega, by rw [ncL_app, cnts_cons, cnts_cons]; omega, fun x => ?_⟩
      · rcases List.mem_cons.mp hs with rfl | hs
        · exact ⟨a2, a2.st Ht.n (Nat.le_trans a3 Ht.cn)⟩
        · exact b2 s hs
      · rw [cL_app, a5 x, b4 x]
        rfl
theorem g_all (tk : List Str) (N0 : Nat) : ∀ t, cnt t ≤ N0 → GSs tk t ∧ GPp tk t ∧ GDd tk t := by
  induction N0 with
  | zero =>
    intro t h
    have := cnt_pos t
    omega
  | succ N0 ih =>
    intro t hn
    have kd : ∀ u ∈ kidsT t, GSs tk u ∧ GPp tk u ∧ GDd tk u := fun u hu => ih u (by have := cnt_kid hu; omega)
    have hk := cnt_kids t
    have hpos := cnt_pos t
    have oH : ∀ {n}, Hk n t → okH (hdT t) := fun H => okH_of H.ok
    -- a let's first under its word
    have hlet : ∀ {n} {y : Str} {a b : Tm} {m : Nat} {la : List Ld} {m1 : Nat}, Hk n t → hdT t = .lett y → kidsT t = [a, b] → CpP tk a y m la m1 → m1 ≤ 26 ^ 7 → kL la ∧ ncL la ≤ 6 * cnt a - 1 ∧ Hk n b ∧ ∀ x, cL x la = (plB a false).count x := by
      intro n y a b m la m1 H hh he h1 hm
      have ka : a ∈ kidsT t := by rw [he]; simp
      have kb : b ∈ kidsT t := by rw [he]; simp
      have oy := oH H
      rw [hh] at oy
      obtain ⟨z1, z2, z3⟩ := (kd a ka).2.1 h1 hm (H.kid ka) oy
      exact ⟨z1, z2, H.up kb, z3⟩
    have clet : ∀ {y : Str} {a b : Tm} {l : Bool} {x : Str × Nat}, hdT t = .lett y → kidsT t = [a, b] → (plB t l).count x = (plB a false).count x + (plB b l).count x := by
      intro y a b l x hh he
      rw [plB_mk, hh, he]
      show (plB a (l && decide ((0 : Nat) = 1)) ++ (plB b (l && decide ((0 : Nat) + 1 = 1)) ++ [])).count x = _
      rw [List.append_nil, List.count_append, show decide ((0 : Nat) = 1) = false from rfl, show decide ((0 : Nat) + 1 = 1) = true from rfl, Bool.and_false, Bool.and_true]
    have ciff : ∀ {a b c : Tm} {l : Bool} {x : Str × Nat}, hdT t = .iff → kidsT t = [a, b, c] → (plB t l).count x = (plB a false).count x + (plB b l).count x + (plB c l).count x := by
      intro a b c l x hh he
      rw [plB_mk, hh, he]
      show (plB a (l && decide ((0 : Nat) < 0)) ++ (plB b (l && decide ((0 : Nat) < 0 + 1)) ++ (plB c (l && decide ((0 : Nat) < 0 + 1 + 1)) ++ []))).count x = _
      rw [List.append_nil, List.count_append, List.count_append, show decide ((0 : Nat) < 0) = false from rfl, show decide ((0 : Nat) < 0 + 1) = true from rfl, show decide ((0 : Nat) < 0 + 1 + 1) = true from rfl, Bool.and_false, Bool.and_true]
      omega
    have hP1 : plainH (hdT t) = false → GPp tk t := by
      intro hp y m ls m' n h hm H hy
      cases h with
      | @lett _ _ y' a b _ la m1 lb _ hh he h1 _ h2 =>
        obtain ⟨z1, z2, Hb, z3⟩ := hlet H hh he h1 (Nat.le_trans h2.up hm)
        obtain ⟨y1, y2, y3⟩ := (kd b (by rw [he]; simp)).2.1 h2 hm Hb hy
        rw [he, cnts_two] at hk
        have := cnt_pos a
        have := cnt_pos b
        exact ⟨kL_app z1 y1, by rw [ncL_app]; omega, fun x => by rw [cL_app, z3, y3, clet hh he]⟩
      | @ask _ f _ w _ m1 la ss _ hh hn hL =>
        obtain ⟨z1, z2, z0, z3, z4⟩ := gL (fun u hu => (kd u hu).1) hL hm fun u hu => H.kid hu
        have hw := isW_new hn (Nat.le_trans hL.up hm)
        have of := oH H
        rw [hh] at of
        have har := H.ar.len
        rw [hh] at har
        have har : (kidsT t).length ≤ 4 := har
        refine ⟨kL_app z1 ⟨hw, hy, ⟨isW_ok hw, of, by rw [hL.len]; exact har, fun s hs => (z2 s hs).2⟩, trivial⟩, ?_, fun x => ?_⟩
        · rw [ncL_app]
          show ncL la + (1 + (1 + cnts ss) + 0) ≤ _
          omega
        · rw [cL_app, z4, cB_no (l := false) (fun _ => rfl), hh]
          show cS x (kidsT t) + ([(f, aW w)].count x + 0) = [(f, if false = true then 0 else 1)].count x + cS x (kidsT t)
          rw [show aW w = 1 from if_neg (ne_home hw), show (if false = true then 0 else 1) = 1 from rfl]
          omega
      | @iff _ _ w a b c _ m1 la s m2 lb qb m3 lc qc _ hh he hn h1 h2 _ h3 _ =>
        have ka : a ∈ kidsT t := by rw [he]; simp
        have kb : b ∈ kidsT t := by rw [he]; simp
        have kc : c ∈ kidsT t := by rw [he]; simp
        have u3 := h3.up
        have u2 := h2.up
        have u1 := h1.up
        have Ha := H.kid ka
        obtain ⟨z1, z2, z3, z4, _, z5⟩ := (kd a ka).1 h1 (by omega) Ha
        have hw := isW_new hn (by omega)
        obtain ⟨b1, b2, b3, b4⟩ := (kd b kb).2.2 h2 (by omega) (H.kid kb) (isW_ok hw)
        obtain ⟨c1, c2, c3, c4⟩ := (kd c kc).2.2 h3 hm (H.kid kc) (isW_ok hw)
        rw [he, cnts_three] at hk
        refine ⟨kL_app z1 ⟨hw, hy, ⟨z2.st Ha.n (Nat.le_trans z3 Ha.cn), kL_put b1 b2, kL_put c1 c2⟩, trivial⟩, ?_, fun x => ?_⟩
        · rw [ncL_app]
          show ncL la + (1 + (1 + cnt s + ncnt (putAh lb qb) + ncnt (putAh lc qc)) + 0) ≤ _
          rw [ncL_put, ncL_put]
          omega
        · rw [cL_app, z5, ciff hh he]
          show _ + (cP x (putAh lb qb) + cP x (putAh lc qc) + 0) = _
          have eb := b4 x
          have ec := c4 x
          rw [decide_eq_false (ne_home hw)] at eb ec
          rw [cL_put, cL_put]
          omega
      | @tell _ _ a _ la s _ hh he h1 =>
        have ka : a ∈ kidsT t := by rw [he]; simp
        have Ha := H.kid ka
        obtain ⟨z1, z2, z3, z4, _, z5⟩ := (kd a ka).1 h1 hm Ha
        rw [he, cnts_one] at hk
        refine ⟨kL_app z1 ⟨hy, z2.st Ha.n (Nat.le_trans z3 Ha.cn), trivial⟩, ?_, fun x => ?_⟩
        · rw [ncL_app]
          show ncL la + (1 + cnt s + 0) ≤ _
          omega
        · rw [cL_app, z5, cB_no (t := t) (l := false) (fun _ => rfl), hh, he]
          show _ + 0 = 0 + ((plB a false).count x + 0)
          omega
      | plain hp2 => rw [hp] at hp2; cases hp2
    have hS : GSs tk t := by
      intro m ls s m' n h hm H
      cases h with
      | leaf hl =>
        have har := H.ar.len
        have e0 : kidsT t = [] := by
          rcases hl with ⟨z, e1⟩ | ⟨z, e1⟩ <;> (rw [e1] at har; exact List.length_eq_zero_iff.mp har)
        have ec : cnt t = 1 := by rw [hk, e0]; rfl
        refine ⟨trivial, ⟨H.ok, ?_, H.ht⟩, Nat.le_refl _, by show 0 + cnt t ≤ _; omega, fun _ => by show 0 + cnt t ≤ _; omega, fun x => ?_⟩
        · obtain ⟨h0, n0, k0⟩ := t
          have e0' : n0 = 0 := by
            have e : (List.ofFn k0).length = n0 := List.length_ofFn
            have e2 : (List.ofFn k0) = [] := e0
            rw [e2] at e
            exact e.symm
          subst e0'
          rcases hl with ⟨z, e1⟩ | ⟨z, e1⟩ <;> (have e1 : h0 = _ := e1; subst e1; rfl)
        · rw [cB_no (l := false) (fun _ => rfl), e0]
          rcases hl with ⟨z, e1⟩ | ⟨z, e1⟩ <;> (rw [e1]; rfl)
      | @op _ _ _ sa sb _ lo hh hL =>
        obtain ⟨z1, z2, z0, z3, z4⟩ := gL (fun u hu => (kd u hu).1) hL hm fun u hu => H.kid hu
        obtain ⟨n', rfl⟩ := ht_pos H.ht
        have ec : cnt (mkOp lo sa sb) = 1 + cnts [sa, sb] := by unfold mkOp; rw [cnt_mkL]
        refine ⟨z1, ⟨ok_mkL (by cases lo <;> trivial) fun u hu => (z2 u hu).1.ok, simple_mkL (by cases lo <;> rfl) fun u hu => (z2 u hu).1.si, ht_mkL fun u hu => (z2 u hu).1.ht⟩, by omega, by omega, fun _ => by omega, fun x => ?_⟩
        rw [z4, cB_no (l := false) (fun _ => rfl), hh]
        cases lo <;> (show _ = 0 + _; omega)
      | @lett _ y a b _ la m1 lb _ _ hh he h1 _ h2 =>
        obtain ⟨z1, z2, Hb, z3⟩ := hlet H hh he h1 (Nat.le_trans h2.up hm)
        obtain ⟨y1, y2, y3, y4, _, y5⟩ := (kd b (by rw [he]; simp)).1 h2 hm Hb
        rw [he, cnts_two] at hk
        have := cnt_pos a
        have := cnt_pos b
        exact ⟨kL_app z1 y1, y2, by omega, by rw [ncL_app]; omega, (fun z => by rw [hh] at z; cases z), fun x => by rw [cL_app, z3, y5, clet hh he]⟩
      | @word _ _ w m1 _ _ hw hn h1 =>
        have hpl : plainH (hdT t) = false := by
          cases hh : hdT t <;> rw [hh] at hw <;> first | rfl | cases hw
        have iw := isW_new hn (Nat.le_trans h1.up hm)
        obtain ⟨z1, z2, z3⟩ := hP1 hpl h1 hm H iw
        obtain ⟨n', rfl⟩ := ht_pos H.ht
        have ec : cnt (mkL (.nam w) []) = 1 := by rw [cnt_mkL]; rfl
        exact ⟨z1, ⟨⟨iw, fun i => i.elim0⟩, rfl, fun i => i.elim0⟩, by omega, by omega, (fun z => by rw [hpl] at z; cases z), z3⟩
    have hP : GPp tk t := by
      cases hp : plainH (hdT t) with
      | false => exact hP1 hp
      | true =>
        intro y m ls m' n h hm H hy
        cases h with
        | @plain _ _ _ la s _ _ h1 =>
          obtain ⟨z1, z2, z3, z4, z5, z6⟩ := hS h1 hm H
          have z5 := z5 hp
          refine ⟨kL_app z1 ⟨hy, z2.st H.n (Nat.le_trans z3 H.cn), trivial⟩, ?_, fun x => ?_⟩
          · rw [ncL_app]
            show ncL la + (1 + cnt s + 0) ≤ _
            omega
          · rw [cL_app, z6]
            rfl
        | lett hh _ _ _ _ => rw [hh] at hp; cases hp
        | ask hh _ _ => rw [hh] at hp; cases hp
        | iff hh _ _ _ _ _ _ _ => rw [hh] at hp; cases hp
        | tell hh _ _ => rw [hh] at hp; cases hp
    refine ⟨hS, hP, ?_⟩
    intro j m ls q m' n h hm H hj
    cases h with
    | @lett _ _ y a b _ la m1 lb _ _ hh he h1 _ h2 =>
      obtain ⟨z1, z2, Hb, z3⟩ := hlet H hh he h1 (Nat.le_trans h2.up hm)
      obtain ⟨y1, y2, y3, y4⟩ := (kd b (by rw [he]; simp)).2.2 h2 hm Hb hj
      rw [he, cnts_two] at hk
      have := cnt_pos a
      refine ⟨kL_app z1 y1, y2, by rw [ncL_app]; omega, fun x => ?_⟩
      have := y4 x
      rw [cL_app, z3, clet hh he]
      omega
    | @ask _ f _ _ la ss _ hh hL =>
      obtain ⟨z1, z2, z0, z3, z4⟩ := gL (fun u hu => (kd u hu).1) hL hm fun u hu => H.kid hu
      have of := oH H
      rw [hh] at of
      have har := H.ar.len
      rw [hh] at har
      have har : (kidsT t).length ≤ 4 := har
      refine ⟨z1, ⟨hj, of, by rw [hL.len]; exact har, fun s hs => (z2 s hs).2⟩, ?_, fun x => ?_⟩
      · show ncL _ + (1 + cnts ss) ≤ _
        omega
      · rw [z4, cB_no (l := decide (j = "home")) (fun i => by rw [hh]; exact Bool.and_false _), hh]
        have e1 : ∀ z : Prop, ∀ [Decidable z], (if decide z = true then 0 else 1) = (if z then 0 else 1 : Nat) := fun z _ => by by_cases c : z <;> simp [c]
        show cS x (kidsT t) + [(f, aW j)].count x = [(f, if decide (j = "home") = true then 0 else 1)].count x + cS x (kidsT t)
        rw [e1]
        show cS x (kidsT t) + [(f, aW j)].count x = [(f, aW j)].count x + cS x (kidsT t)
        omega
    | @iff _ _ a b c _ la s m2 lb qb m3 lc qc _ hh he h1 h2 _ h3 =>
      have ka : a ∈ kidsT t := by rw [he]; simp
      have kb : b ∈ kidsT t := by rw [he]; simp
      have kc : c ∈ kidsT t := by rw [he]; simp
      have u3 := h3.up
      have u2 := h2.up
      have Ha := H.kid ka
      obtain ⟨z1, z2, z3, z4, _, z5⟩ := (kd a ka).1 h1 (by omega) Ha
      obtain ⟨b1, b2, b3, b4⟩ := (kd b kb).2.2 h2 (by omega) (H.kid kb) hj
      obtain ⟨c1, c2, c3, c4⟩ := (kd c kc).2.2 h3 hm (H.kid kc) hj
      rw [he, cnts_three] at hk
      refine ⟨z1, ⟨z2.st Ha.n (Nat.le_trans z3 Ha.cn), kL_put b1 b2, kL_put c1 c2⟩, ?_, fun x => ?_⟩
      · show ncL ls + (1 + cnt s + ncnt (putAh lb qb) + ncnt (putAh lc qc)) ≤ _
        rw [ncL_put, ncL_put]
        omega
      · rw [z5, ciff hh he]
        show _ + (cP x (putAh lb qb) + cP x (putAh lc qc)) = _
        have eb := b4 x
        have ec := c4 x
        rw [cL_put, cL_put]
        omega
    | @give _ _ _ _ s _ hl hwd h1 =>
      obtain ⟨z1, z2, z3, z4, _, z5⟩ := hS h1 hm H
      refine ⟨z1, ⟨hj, z2.st H.n (Nat.le_trans z3 H.cn)⟩, ?_, fun x => ?_⟩
      · show ncL ls + (1 + cnt s) ≤ _
        omega
      · have e1 : ∀ i, hereH (hdT t) (decide (j = "home")) i = false := fun i => by
          cases hh : hdT t <;> rw [hh] at hl <;> first | exact Bool.and_false _ | cases hl
        have e2 : ∀ l, ownB (hdT t) l = [] := fun l => by
          cases hh : hdT t <;> rw [hh] at hwd <;> first | rfl | cases hwd
        rw [z5, cB_no e1, cB_no (l := false) (fun _ => rfl), e2, e2]
        rfl
end
theorem kP_pcnt_le : ∀ p : Pt, pcnt p ≤ ncnt p
  | .give _ _ => by show 1 ≤ 1 + _; omega
  | .ask _ _ _ => by show 1 ≤ 1 + _; omega
  | .tell _ t p => by show 1 + pcnt p ≤ 1 + cnt t + ncnt p; have := kP_pcnt_le p; omega
  | .lett _ t p => by show 1 + pcnt p ≤ 1 + cnt t + ncnt p; have := kP_pcnt_le p; omega
  | .iff t p q => by show 1 + pcnt p + pcnt q ≤ 1 + cnt t + ncnt p + ncnt q; have := kP_pcnt_le p; have := kP_pcnt_le q; omega
  | .post _ _ p q => by show 1 + pcnt p + pcnt q ≤ 1 + ncnt p + ncnt q; have := kP_pcnt_le p; have := kP_pcnt_le q; omega
/-- what the turning of a body leaves -/
theorem turned_k {xs : List Str} {t : Tm} {p : Pt} (ha : arA t) (ok : okT t) (ht : HtLe 13 t) (cn : cnt t ≤ 40) (hx : xs.length ≤ 4) (h : RunB xs t p) : kP p ∧ ncnt p ≤ 241 ∧ pcnt p ≤ 161 ∧ ∀ x, cP x p = (plB t true).count x := by
  obtain ⟨ls, q, m, rfl, c⟩ := comB ha h
  have hb := ((bnd_ (wordsIn xs t) _ t (Nat.le_refl _)).2.2 c).1.le
  have hpc := ((bnd_ (wordsIn xs t) _ t (Nat.le_refl _)).2.2 c).2
  have hl := wordsIn_len xs t
  have hm : m ≤ 26 ^ 7 := by
    have h1 : 4 * cnt t * ((wordsIn xs t).length + 1) ≤ 160 * 45 := Nat.mul_le_mul (by omega) (by omega)
    have h2 : 160 * 45 ≤ 26 ^ 7 := by decide
    omega
  obtain ⟨z1, z2, z3, z4⟩ := (g_all (wordsIn xs t) _ t (Nat.le_refl _)).2.2 (n := 13) c hm ⟨ha, ok, ht, by omega, by decide⟩ (by decide +kernel)
  have e : ncnt (putAh ls q) ≤ 241 := by rw [ncL_put]; omega
  exact ⟨kL_put z1 z2, e, by rw [pcL_put]; omega, fun x => by rw [cL_put]; exact z4 x⟩
/-! ### asks of a part -/
theorem fm_ak (nm : Str) : ∀ l : List (List Int × Pt), ((l.filterMap (akP nm)).map (·.2)) = ((l.map (·.2)).map akN).flatten
  | [] => rfl
  | (ks, p) :: r => by
    rw [List.filterMap_cons, List.map_cons, List.map_cons, List.flatten_cons, ← fm_ak nm r]
    cases p <;> rfl
theorem snd_con (k : Int) (l : List (List Int × Pt)) : (l.map (fun e : List Int × Pt => (k :: e.1, e.2))).map (fun e : List Int × Pt => e.2) = l.map (fun e : List Int × Pt => e.2) := by
  rw [List.map_map]
  rfl
theorem ak_cP (x : Str × Nat) : ∀ p : Pt, ((((allP p).map (fun e : List Int × Pt => e.2)).map akN).flatten).count x = cP x p
  | .give _ _ => rfl
  | .ask g ts j => by
    show ([(g, aW j)] ++ []).count x = [(g, aW j)].count x
    rw [List.append_nil]
  | .tell y t p => by
    show _ = cP x p
    rw [← ak_cP x p]
    show (([] ++ ((((allP p).map (fun e : List Int × Pt => ((1 : Int) :: e.1, e.2)) ++ []).map (fun e : List Int × Pt => e.2)).map akN).flatten)).count x = _
    rw [List.nil_append, List.append_nil, snd_con]
  | .lett y t p => by
    show _ = cP x p
    rw [← ak_cP x p]
    show (([] ++ ((((allP p).map (fun e : List Int × Pt => ((1 : Int) :: e.1, e.2)) ++ []).map (fun e : List Int × Pt => e.2)).map akN).flatten)).count x = _
    rw [List.nil_append, List.append_nil, snd_con]
  | .iff t p q => by
    show _ = cP x p + cP x q
    rw [← ak_cP x p, ← ak_cP x q]
    show (([] ++ ((((allP p).map (fun e : List Int × Pt => ((1 : Int) :: e.1, e.2)) ++ ((allP q).map (fun e : List Int × Pt => ((2 : Int) :: e.1, e.2)) ++ [])).map (fun e : List Int × Pt => e.2)).map akN).flatten)).count x = _
    rw [List.nil_append, List.append_nil, List.map_append, List.map_append, List.flatten_append, List.count_append, snd_con, snd_con]
  | .post j y p q => by
    show _ = cP x p + cP x q
    rw [← ak_cP x p, ← ak_cP x q]
    show (([] ++ ((((allP p).map (fun e : List Int × Pt => ((0 : Int) :: e.1, e.2)) ++ ((allP q).map (fun e : List Int × Pt => ((1 : Int) :: e.1, e.2)) ++ [])).map (fun e : List Int × Pt => e.2)).map akN).flatten)).count x = _
    rw [List.nil_append, List.append_nil, List.map_append, List.map_append, List.flatten_append, List.count_append, snd_con, snd_con]
theorem asksE_cP (e : TEr) (x : Str × Nat) : ((asksE e).map (·.2)).count x = cP x e.2.2 := by
  rw [asksE_same, fm_ak, ak_cP]
end KB

set_option pp.maxSteps 400
namespace KB
open PySem L2 HT LamX NdefX

/-! ### webs -/
abbrev kwS : Key := Sum.inr "some"
abbrev kwM : Key := Sum.inr "many"
def knW (sl : Addr) (m : Int) : List (Key × V) := [(kwS, .ref sl), (kwM, .int m)]
def ButK (tp kd : Addr) (H H' : Hp) : Prop := ∀ b o, b ≠ tp → b ≠ kd → H b = some o → H' b = some o
theorem ButK.refl (tp kd : Addr) (H : Hp) : ButK tp kd H H := fun _ _ _ _ h => h
theorem ButK.trans {tp kd : Addr} {H H1 H2 : Hp} (a : ButK tp kd H H1) (b : ButK tp kd H1 H2) : ButK tp kd H H2 := fun x o n m h => b x o n m (a x o n m h)
theorem But1.two_J7 {tp kd : Addr} {H H' : Hp} (a : But1 tp H H') : ButK tp kd H H' := fun x o n _ h => a x o n h
structure GW (H : Hp) (tp kd sl : Addr) (hF : Str → Option Nat) (ss : List Str) (m : Nat) : Prop where
  t : Tp H tp
  k : H kd = some (.dK (knW sl (m : Int)))
  s : Wls H sl ss
  f : ∀ f ∈ ss, hF f = some 0
  n : ss.length ≤ 100
section
variable {H H' : Hp} {tp kd sl : Addr} {hF : Str → Option Nat} {ss : List Str} {m m' : Nat}
theorem GW.nkt (g : GW H tp kd sl hF ss m) : kd ≠ tp := by
  obtain ⟨z, hz⟩ := g.t
  exact ne_of g.k hz (fun y => nomatch y)
theorem GW.one (g : GW H tp kd sl hF ss m) (b : But1 tp H H') (t : Tp H' tp) : GW H' tp kd sl hF ss m := ⟨t, b _ _ g.nkt g.k, g.s.but b g.t, g.f, g.n⟩
theorem GW.same (g : GW H tp kd sl hF ss m) (e : Same H H') : GW H' tp kd sl hF ss m := g.one (but_same e) (g.t.same e)
theorem GW.tk (g : GW H tp kd sl hF ss m) (b : ButK tp kd H H') : TK H H' := fun a xs h => by
  obtain ⟨z, hz⟩ := g.t
  exact b a _ (ne_of h hz (fun y => nomatch y)) (fun e => by rw [e, g.k] at h; cases h) h
theorem Hls.two {hl : Addr} {hs : List Str} (g : GW H tp kd sl hF ss m) (b : ButK tp kd H H') (h : Hls H hl hs) (n : hl ≠ tp) : Hls H' hl hs := b _ _ n (fun e => by
  have h' : H hl = _ := h
  rw [e, g.k] at h'
  cases h') h
end
section
variable {P : Program} {w : World} {K : PySem.W.Frag} {mg : Str → Option Value} {base : Heap}
/-! ### _law_web_part -/
end
end KB

set_option pp.maxSteps 400
namespace KB
open PySem L2 HT LamX NdefX

/-! ### books of waits -/
structure WB (hd : Str → Option Nat) (es : List TEr) : Prop where
  rt : ∀ e ∈ es, RTE hd e
  dom : ∀ f n, hd f = some n → f ∈ es.map (·.1)
  nd : (es.map (·.1)).Nodup
  l1 : 1 ≤ es.length
  l6 : es.length ≤ 6
  kp : ∀ e ∈ es, kP e.2.2
  cn : ∀ e ∈ es, pcnt e.2.2 ≤ 31
  n4 : ∀ e ∈ es, e.2.1.length ≤ 4
theorem home_ok : ∀ j ∈ (["home"] : List Str), PySem.PyData.strOk j = true := fun j hj => by
  rw [List.mem_singleton.mp hj]
  decide +kernel
theorem GdTB.wb {es : List TEr} (g : GdTB es) : ∃ hd, WB hd es := by
  obtain ⟨hd, h1, h2⟩ := g.er
  exact ⟨hd, fun e he => (h1 e he).rt, h2, g.nd, g.len.1, g.len.2, fun e he => okP_kP home_ok (h1 e he).ok, fun e he => Nat.le_trans (h1 e he).cn (by decide), fun e he => (h1 e he).n4⟩
section
variable {P : Program} {w : World} {K : PySem.W.Frag} {mg : Str → Option Value} {base : Heap}
/-! ### _law_web -/
/-! ### _law_waits_book -/
end
end KB

set_option pp.maxSteps 400
namespace KB
open PySem L2 HT LamX NdefX

/-! ### asks as the law keeps them -/
def AtV (H : Hp) (a : Ak) (v : V) : Prop := ∃ t q, v = .ref t ∧ H t = some (.tup [.ref q, .str a.2.1, .int (a.2.2 : Int)]) ∧ PlAt H a.1 q
theorem AtV.tk {H H' : Hp} (k : TK H H') {a : Ak} {v : V} (h : AtV H a v) : AtV H' a v := let ⟨t, q, e, h1, h2⟩ := h; ⟨t, q, e, k _ _ h1, k _ _ h2⟩
def LaE (H : Hp) (e : TEr) (kv : L2.Key × V) : Prop := kv.1 = .inr e.1 ∧ ∃ l vs, kv.2 = .ref l ∧ H l = some (.lst vs) ∧ All2 (AtV H) (asksE e) vs
def LaL (H : Hp) : List TEr → List (L2.Key × V) → Prop
  | [], [] => True
  | x :: xs, kv :: kvs => LaE H x kv ∧ LaL H xs kvs
  | _, _ => False
theorem LaL.mono {H H' : Hp} (k : ∀ l vs, H l = some (.lst vs) → H' l = some (.lst vs)) (t : TK H H') : ∀ {es : List TEr} {kvs : List (L2.Key × V)}, LaL H es kvs → LaL H' es kvs
  | [], [], _ => trivial
  | _ :: _, _ :: _, ⟨⟨e, l, vs, h1, h2, h3⟩, r⟩ => ⟨⟨e, l, vs, h1, k _ _ h2, h3.imp fun _ _ z => z.tk t⟩, r.mono k t⟩
  | [], _ :: _, h => h.elim
  | _ :: _, [], h => h.elim
theorem LaL.app {H : Hp} {e : TEr} {kv : L2.Key × V} (s : LaE H e kv) : ∀ {es : List TEr} {kvs : List (L2.Key × V)}, LaL H es kvs → LaL H (es ++ [e]) (kvs ++ [kv])
  | [], [], _ => ⟨s, trivial⟩
  | _ :: _, _ :: _, ⟨y, r⟩ => ⟨y, r.app s⟩
  | [], _ :: _, h => h.elim
  | _ :: _, [], h => h.elim
theorem LaL.keys {H : Hp} : ∀ {es : List TEr} {kvs : List (L2.Key × V)}, LaL H es kvs → kvs.map (·.1) = es.map fun x => (.inr x.1 : L2.Key)
  | [], [], _ => rfl
  | _ :: _, _ :: _, ⟨y, r⟩ => by rw [List.map_cons, List.map_cons, y.1, r.keys]
  | [], _ :: _, h => h.elim
  | _ :: _, [], h => h.elim
theorem LaL.len {H : Hp} {es : List TEr} {kvs : List (L2.Key × V)} (h : LaL H es kvs) : kvs.length = es.length := by
  have := congrArg List.length h.keys
  rwa [List.length_map, List.length_map] at this
theorem LaL.there {H : Hp} : ∀ {es : List TEr} {kvs : List (L2.Key × V)}, LaL H es kvs → ∀ {e : TEr}, (es.map (·.1)).Nodup → e ∈ es → ∃ kv, valV kvs (.inr e.1) = some kv.2 ∧ LaE H e kv
  | [], [], _, _, _, h => nomatch h
  | x :: es, kv :: kvs, ⟨y, r⟩, e, nd, h => by
    obtain ⟨n1, n2⟩ := List.nodup_cons.mp nd
    rcases List.mem_cons.mp h with z | z
    · refine ⟨kv, ?_, by rw [z]; exact y⟩
      unfold valV
      rw [List.find?_cons_of_pos (by exact decide_eq_true (by rw [y.1, z]))]
      rfl
    · obtain ⟨kv', a, b⟩ := r.there n2 z
      refine ⟨kv', ?_, b⟩
      unfold valV at a ⊢
      rw [List.find?_cons_of_neg]
      · exact a
      · intro c
        have e1 : kv.1 = .inr e.1 := of_decide_eq_true c
        rw [y.1] at e1
        exact n1 (List.mem_map.mpr ⟨e, z, (Sum.inr.inj e1).symm⟩)
  | [], _ :: _, h, _, _, _ => h.elim
  | _ :: _, [], h, _, _, _ => h.elim
theorem valV_snoc {kvs : List (L2.Key × V)} {k : L2.Key} {v : V} (h : k ∉ kvs.map (·.1)) : valV (kvs ++ [(k, v)]) k = some v := by
  unfold valV
  rw [List.find?_append, List.find?_eq_none.mpr fun x hx => ?_]
  · rw [Option.none_or, List.find?_cons_of_pos (by exact decide_eq_true rfl)]
    rfl
  · intro e
    exact h (List.mem_map.mpr ⟨x, hx, of_decide_eq_true e⟩)
def pdPl (p : Pl) : PyData := .tuple (.str p.1 :: p.2.map PyData.int)
theorem dp_intsW {K : PySem.W.Frag} {H : Hp} : ∀ ks : List Int, DpAll K H (ks.map V.int) (ks.map PyData.int)
  | [] => .nil
  | k :: ks => .cons (.int k) (dp_intsW ks)
theorem dp_pl {K : PySem.W.Frag} {H : Hp} {p : Pl} {q : Addr} (h : PlAt H p q) : Dp K H (.ref q) (pdPl p) := .tup (SqT.of h) (.cons (.str _) (dp_intsW _))
theorem lay_ints : ∀ ks : List Int, PySem.PyData.canLayAll0 (ks.map PyData.int) = true
  | [] => rfl
  | k :: ks => by
    show (true && PySem.PyData.canLayAll0 (ks.map PyData.int)) = true
    rw [lay_ints ks]
    rfl
theorem depth_ints : ∀ ks : List Int, PySem.PyData.depthAll (ks.map PyData.int) = 0
  | [] => rfl
  | x :: r => by
    show max (PySem.PyData.depth (.int x)) (PySem.PyData.depthAll (r.map PyData.int)) = 0
    rw [depth_ints r]
    rfl
theorem lay_pl {p : Pl} (h : isW p.1 = true) : (pdPl p).canLay0 = true := by
  show (PySem.PyData.strOk p.1 && PySem.PyData.canLayAll0 (p.2.map PyData.int)) = true
  rw [isW_ok h, lay_ints]
  rfl
theorem depth_pl (p : Pl) : (pdPl p).depth = 1 := by
  show max (PySem.PyData.depth (.str p.1)) (PySem.PyData.depthAll (p.2.map PyData.int)) + 1 = 1
  rw [depth_ints]
  rfl
theorem shaped_pl {p : Pl} (h : isW p.1 = true) : SeqAt.shaped (pdPl p) = true := shaped_of (lay_pl h) (by rw [depth_pl]; decide)
theorem eqv_ints : ∀ a b : List Int, PySem.PyData.eqvAll (a.map PyData.int) (b.map PyData.int) = decide (a = b)
  | [], [] => rfl
  | [], _ :: _ => rfl
  | _ :: _, [] => rfl
  | x :: a, y :: b => by
    show (PyData.eqv (.int x) (.int y) && PySem.PyData.eqvAll (a.map PyData.int) (b.map PyData.int)) = _
    rw [eqv_ints a b]
    show (decide (x = y) && decide (a = b)) = _
    by_cases c : x = y
    · by_cases d : a = b
      · rw [decide_eq_true c, decide_eq_true d, decide_eq_true (by rw [c, d])]; rfl
      · rw [decide_eq_true c, decide_eq_false d, decide_eq_false (fun z => d (List.cons.inj z).2)]; rfl
    · rw [decide_eq_false c, decide_eq_false (fun z => c (List.cons.inj z).1)]; rfl
theorem eqv_pl (p q : Pl) : PyData.eqv (pdPl p) (pdPl q) = decide (p = q) := by
  show (PyData.eqv (.str p.1) (.str q.1) && PySem.PyData.eqvAll (p.2.map PyData.int) (q.2.map PyData.int)) = _
  rw [eqv_ints]
  show (decide (p.1 = q.1) && decide (p.2 = q.2)) = _
  by_cases c : p.1 = q.1
  · by_cases d : p.2 = q.2
    · rw [decide_eq_true c, decide_eq_true d, decide_eq_true (Prod.ext c d)]; rfl
    · rw [decide_eq_true c, decide_eq_false d, decide_eq_false (fun z => d (by rw [z]))]; rfl
  · rw [decide_eq_false c, decide_eq_false (fun z : p = q => c (congrArg Prod.fst z)), Bool.false_and]
theorem filter_one : ∀ {as : List Ak} {a : Ak}, (as.map (·.1)).Nodup → a ∈ as → as.filter (fun x => decide (x.1 = a.1)) = [a]
  | [], _, _, h => nomatch h
  | x :: as, a, nd, h => by
    obtain ⟨n1, n2⟩ := List.nodup_cons.mp nd
    rcases List.mem_cons.mp h with z | z
    · subst z
      rw [List.filter_cons_of_pos (by exact decide_eq_true rfl), List.filter_eq_nil_iff.mpr]
      intro y hy c
      exact n1 (List.mem_map.mpr ⟨y, hy, of_decide_eq_true c⟩)
    · rw [List.filter_cons_of_neg, filter_one n2 z]
      intro c
      have e : x.1 = a.1 := of_decide_eq_true c
      exact n1 (List.mem_map.mpr ⟨a, z, e.symm⟩)
theorem Row.head {A : List Ak} {f g : Str} {a : Ak} {r : List Ak} (h : Row A f (a :: r) g) : a.1.1 = f ∧ a ∈ A ∧ Row A a.2.1 r g := by
  cases h with
  | cons m k => exact ⟨rfl, m, k⟩
theorem asksB_er {es : List TEr} {a : Ak} (h : a ∈ asksB es) : ∃ e ∈ es, a ∈ asksE e ∧ e.1 = a.1.1 := by
  obtain ⟨l, hl, hb2⟩ := List.mem_flatten.mp h
  obtain ⟨e2, he2, rfl⟩ := List.mem_map.mp hl
  exact ⟨e2, he2, hb2, (asksE_nm hb2).1.symm⟩
section
variable {P : Program} {w : World} {K : PySem.W.Frag} {mg : Str → Option Value} {base : Heap}
/-! ### _law_asks -/
def spLAsks : Sp := fun vs H Q _ => ∃ (p : Addr) (es : List TEr) (us : List V), vs = [.ref p] ∧ TBkAt H es us p ∧ es.length ≤ 6 ∧ (es.map (·.1)).Nodup ∧ (∀ e ∈ es, pcnt e.2.2 ≤ 161) ∧
  ∀ D H' kvs, H D = none → Same H H' → H' D = some (.dK kvs) → LaL H' es kvs → Q (.ref D) H'
abbrev s_law_asks : Stmt := top 55
theorem scLasks : FnScope ["turned", "found", "name", "names", "body", "place", "part"] ["turned"] (defScope s_law_asks) := ⟨rfl, rfl, rfl, by decide +kernel, rfl, by decide +kernel, by decide +kernel⟩
theorem ok_lasks (T : Txt K mg) {f f1 : Addr} {fd d1 : FuncData} (F : Fun K "_law_asks" "_law_asks" s_law_asks f fd)
    (G_law_all : FnOk P w K mg base CX0 162 f1 d1 ["part", "place"] (spLAll 161)) (R_law_all : Ref K mg "_law_all" f1 d1 ["part", "place"]) : FnOk P w K mg base CX0 163 f fd ["turned"] spLAsks := by
  refine F.ok scLasks (fun vs H Q E h => ?_) (fun cdv A outer s H vs Q E hr h => ?_)
  · obtain ⟨p, es, us, rfl, _⟩ := h
    rfl
  obtain ⟨p, es, us, rfl, hB, hl6, hnd, hcn, q⟩ := h
  refine ⟨_, (pss_cons (ps_set (i := 1) scLasks.nd rfl (Or.inl rfl) pe_dnewK)
    (pss_cons (ps_for PassesOwn.never rfl (pi_tup (pv 0)) (pg_tup rfl (pgs_cons (pg_name (i := 2) scLasks.nd rfl (Or.inl rfl)) (pgs_cons (pg_name (i := 3) scLasks.nd rfl (Or.inl rfl)) (pgs_cons (pg_name (i := 4) scLasks.nd rfl (Or.inl rfl)) pgs_nil)))) (pss_cons (ps_dput (hu_of hr) (pv 1) (pv 2) (pe_lst pa_nil) rfl)
    (pss_one (ps_for PassesOwn.never rfl (pi_list (pe_call G_law_all (hr.mono (by omega)) rfl R_law_all.m R_law_all.k R_law_all.b .nil pass0 (pa_cons (pv 4) (pa_cons (pe_tup (pa_cons (pv 2) pa_nil)) pa_nil)))) (pg_tup rfl (pgs_cons (pg_name (i := 5) scLasks.nd rfl (Or.inl rfl)) (pgs_cons (pg_name (i := 6) scLasks.nd rfl (Or.inl rfl)) pgs_nil))) (pss_one (ps_if (pt_cmpR op_eq (pe_ix ix_tup (pv 6) pe_int (fun _ _ => rfl)) pe_str (nomark _)) (pss_one (ps_expr (pe_bm PySem.F.plainAttrs_list PySem.F.slot_list_append PySem.F.type_list_append mt_append (pe_dget (hu_of hr) (pv 1) (pv 2) (fun _ _ => rfl)) (pa_cons (pe_tup (pa_cons (pv 5) (pa_cons (pe_ix ix_tup (pv 6) pe_int (fun _ _ => rfl)) (pa_cons (pe_callTy call_int1 (by rfl) T.m_int (by decide +kernel) (pa_cons (pe_cmpR op_ne (pe_ix ix_tup (pv 6) pe_int (fun _ _ => rfl)) pe_str (nomark _)) pa_nil)) pa_nil)))) pa_nil)))) pss_nil))))))
    (pss_one (ps_ret (pv 1))))), ?_⟩
  refine fun D hD => ?_
  have s0 := same_new hD (.dK [])
  refine ⟨_, rfl, p, rfl, ⟨_, SqT.of (s0 _ _ hB.1)⟩, for_tup (xs := us) (fun i σ H' => ∃ (o2 o3 o4 o5 o6 : Option V) (kvs : List (L2.Key × V)), σ = [some (.ref p), some (.ref D), o2, o3, o4, o5, o6] ∧ Same H H' ∧ H' D = some (.dK kvs) ∧ LaL H' (es.take i) kvs) ⟨_, _, _, _, _, [], rfl, s0, upd_same, by rw [List.take_zero]; exact trivial⟩ ?_ ?_ ?_⟩
  · rintro i σ H' _ ⟨o2, o3, o4, o5, o6, kvs, rfl, s1, _⟩
    exact SqT.of (s1 _ _ hB.1)
  · rintro i x σ H1 hx ⟨o2, o3, o4, o5, o6, kvs, rfl, s1, h1, k1⟩
    obtain ⟨e, he, qa, r, b, rfl, g1, g2, g3⟩ := hB.2.get hx
    have hem := mem_of_get he
    obtain ⟨hi, hei⟩ := List.getElem?_eq_some_iff.mp he
    refine ⟨qa, _, rfl, SqT.of (s1 _ _ g1), rfl, _, _, rfl, _, _, rfl, _, _, rfl, rfl, ?_⟩
    refine ⟨sz (by show 0 ≤ 100000; decide), fun nl hnl => ?_⟩
    have sN := same_new hnl (.lst [])
    have hk6 := k1.len
    rw [List.length_take] at hk6
    have nD : nl ≠ D := fun z => by rw [z, h1] at hnl; cases hnl
    have hnew : (.inr e.1 : L2.Key) ∉ kvs.map (·.1) := by
      rw [k1.keys]
      intro z
      obtain ⟨y, hy, ey⟩ := List.mem_map.mp z
      have ey' : y.1 = e.1 := Sum.inr.inj ey
      obtain ⟨k, hk, e3⟩ := List.getElem_of_mem hy
      rw [List.getElem_take] at e3
      rw [List.length_take] at hk
      refine List.pairwise_iff_getElem.mp hnd k i (by rw [List.length_map]; omega) (by rw [List.length_map]; exact hi) (by omega) ?_
      rw [List.getElem_map, List.getElem_map, e3, hei, ey']
    refine ⟨_, rfl, _, rfl, D, _, rfl, DPut.k (k := .inr e.1) (sN _ _ h1) (Nat.lt_of_le_of_lt (m := 6) (by omega) (by decide)), ?_⟩
    rw [putK_new hnew]
    have hN2 : (upd (upd H1 nl (.lst [])) D (.dK (kvs ++ [((.inr e.1 : L2.Key), .ref nl)]))) nl = some (.lst []) := by rw [upd_ne nD]; exact upd_same
    have hD2 : (upd (upd H1 nl (.lst [])) D (.dK (kvs ++ [((.inr e.1 : L2.Key), .ref nl)]))) D = some (.dK (kvs ++ [((.inr e.1 : L2.Key), .ref nl)])) := upd_same
    have f2 : ∀ y o, y ≠ D → H1 y = some o → (upd (upd H1 nl (.lst [])) D (.dK (kvs ++ [((.inr e.1 : L2.Key), .ref nl)]))) y = some o := fun y o n h => by rw [upd_ne n]; exact sN _ _ h
    generalize upd (upd H1 nl (.lst [])) D (.dK (kvs ++ [((.inr e.1 : L2.Key), .ref nl)])) = H2 at hN2 hD2 f2
    have tk12 : TK H1 H2 := fun y xs h => f2 y _ (fun z => by rw [z, h1] at h; cases h) h
    refine ⟨_, rfl, _, rfl, sz (by show 1 ≤ 100000; decide), fun pl hpl => ?_⟩
    have s3 := same_new hpl (.tup [.str e.1])
    refine ⟨b, pl, e.2.2, [.str e.1], rfl, ((g3.tk (tk_same s1)).tk tk12).tk (tk_same s3), hcn e hem, Nat.le_trans (hcn e hem) (by decide), upd_same, by show 1 + 160 ≤ 2000; decide, fun L H4 its hL s4 h4 k4 => ?_⟩
    have s34 := s3.trans s4
    have hN4 := s34 _ _ hN2
    have hD4 := s34 _ _ hD2
    have nLn : L ≠ nl := fun z => by rw [z, s3 _ _ hN2] at hL; cases hL
    have hal : its.length = pcnt e.2.2 := k4.len.trans (allP_len _)
    have hpc := hcn e hem
    refine ⟨L, rfl, ⟨_, SqL.of h4⟩, for_list (K := K) (a := L) (xs := its) (fun j σ H' => ∃ (o5 o6 : Option V) (vs : List V), σ = [some (.ref p), some (.ref D), some (.str e.1), some (.ref r), some (.ref b), o5, o6] ∧ (∀ y o, y ≠ nl → H4 y = some o → H' y = some o) ∧ H' nl = some (.lst vs) ∧ All2 (AtV H') (((allP e.2.2).take j).filterMap (akP e.1)) vs ∧ vs.length ≤ j) ⟨_, _, [], rfl, fun _ _ _ h => h, hN4, by rw [List.take_zero]; exact trivial, Nat.le_refl _⟩ ?_ ?_ ?_⟩
    · rintro j σ H' _ ⟨o5, o6, vs, rfl, b5, _⟩
      exact SqL.of (b5 _ _ nLn h4)
    · rintro j x σ H5 hx ⟨o5, o6, vs, rfl, b5, h5, k5, l5⟩
      obtain ⟨en, hen, q2, r2, b2, rfl, e1, e2, e3⟩ := k4.get hx
      obtain ⟨hj, hj2⟩ := List.getElem?_eq_some_iff.mp hen
      rw [allP_len] at hj
      have tk5 : TK H4 H5 := fun y xs h => b5 y _ (fun z => by rw [z, hN4] at h; cases h) h
      have e1' := tk5 _ _ e1
      have e2' : H5 r2 = some (.tup (.str e.1 :: en.1.map V.int)) := tk5 _ _ e2
      have e3' := PAt.tk tk5 e3
      refine ⟨q2, _, rfl, SqT.of e1', rfl, _, _, rfl, _, _, rfl, rfl, ?_⟩
      have step : ((allP e.2.2).take (j + 1)).filterMap (akP e.1) = ((allP e.2.2).take j).filterMap (akP e.1) ++ [en].filterMap (akP e.1) := by
        rw [List.take_succ_eq_append_getElem (by rw [allP_len]; exact hj), hj2, List.filterMap_append]
      obtain ⟨rr, hh⟩ := e3'.head
      refine ⟨_, rfl, b2, _, _, _, rfl, rfl, SqT.of hh, at0, rfl, _, rfl, ?_⟩
      refine ite2 (fun c => ?_) (fun c => ?_)
      · obtain ⟨g, ts, jj, hn⟩ := hsP_ask (V.str.inj (of_decide_eq_true c))
        obtain ⟨ks, nd⟩ := en
        dsimp only at hn e2' e3'
        subst hn
        obtain ⟨tb, tvs, t1, t2, t3⟩ : PAt H5 (.ask g ts jj) b2 := e3'
        have hak : [((ks, Pt.ask g ts jj) : List Int × Pt)].filterMap (akP e.1) = [((e.1, ks), g, if jj = "home" then 0 else 1)] := rfl
        rw [hak] at step
        have hD5 := b5 _ _ nD.symm hD4
        refine ⟨_, rfl, _, rfl, D, .ref nl, rfl, by rw [← valV_snoc (v := .ref nl) hnew]; exact DGet.k (k := .inr e.1) hD5, .inl ⟨rfl, _, SqL.of h5⟩, _, rfl, _, rfl, b2, _, _, _, rfl, rfl, SqT.of t1, at1, _, rfl, b2, _, _, _, rfl, rfl, SqT.of t1, at3, rfl, .inr ⟨_, rfl, ?_⟩⟩
        refine ⟨sz (by show 3 ≤ 100000; decide), fun tt htt => ?_⟩
        have ew : (if (!decide (V.str jj = V.str "home")) = true then (1 : Int) else 0) = ((if jj = "home" then 0 else 1 : Nat) : Int) := by
          by_cases z : jj = "home"
          · rw [if_pos z, decide_eq_true (by rw [z])]; rfl
          · rw [if_neg z, decide_eq_false (fun y => z (V.str.inj y))]; rfl
        have s6 := same_new htt (.tup [.ref r2, .str g, .int (if (!decide (V.str jj = V.str "home")) = true then (1 : Int) else 0)])
        have h6 := s6 _ _ h5
        refine ⟨nl, _, _, rfl, rfl, h6, Nat.lt_of_le_of_lt (m := 1000) (by omega) (by decide), _, _, vs ++ [.ref tt], rfl, fun y o n h => ?_, upd_same, ?_, by rw [List.length_append, List.length_singleton]; omega⟩
        · rw [upd_ne n]
          exact s6 _ _ (b5 y o n h)
        · rw [step]
          refine (k5.imp fun _ _ z => (z.tk (tk_same s6)).tk (tk_put h6)).app ⟨⟨tt, r2, rfl, ?_, tk_put h6 _ _ (s6 _ _ e2')⟩, trivial⟩
          refine (tk_put h6 _ _ upd_same).trans ?_
          rw [ew]
      · refine ⟨_, _, vs, rfl, b5, h5, ?_, by omega⟩
        rw [step]
        have : akP e.1 en = none := by
          obtain ⟨ks, nd⟩ := en
          cases nd with
          | ask g ts jj =>
            obtain ⟨tb, tvs, t1, _⟩ : PAt H5 (.ask g ts jj) b2 := e3'
            rw [t1] at hh
            cases hh
            exact absurd (decide_eq_true rfl) c
          | _ => rfl
        rw [show [en].filterMap (akP e.1) = [] by rw [List.filterMap_cons, this]; rfl, List.append_nil]
        exact k5
    · rintro σ H5 ⟨o5, o6, vs, rfl, b5, h5, k5, l5⟩
      rw [hal, ← allP_len, List.take_length, ← asksE_same] at k5
      have l15 : ∀ l vs', H1 l = some (.lst vs') → H5 l = some (.lst vs') := fun l vs' h => b5 _ _ (fun z => by rw [z, hnl] at h; cases h) (s34 _ _ (f2 _ _ (fun z => by rw [z, h1] at h; cases h) h))
      have t15 : TK H1 H5 := fun l vs' h => b5 _ _ (fun z => by rw [z, hnl] at h; cases h) (s34 _ _ (f2 _ _ (fun z => by rw [z, h1] at h; cases h) h))
      have hnlH : H nl = none := by
        cases ee : H nl with
        | none => rfl
        | some o => rw [s1 _ _ ee] at hnl; cases hnl
      refine ⟨_, _, _, _, _, kvs ++ [((.inr e.1 : L2.Key), .ref nl)], rfl, fun y o hy => b5 _ _ (ne_of_none hy hnlH) (s34 _ _ (f2 _ _ (ne_of_none hy hD) (s1 _ _ hy))), b5 _ _ nD.symm hD4, ?_⟩
      rw [List.take_succ_eq_append_getElem hi, hei]
      exact (k1.mono l15 t15).app ⟨rfl, nl, vs, rfl, h5, k5⟩
  · rintro σ H1 ⟨o2, o3, o4, o5, o6, kvs, rfl, s1, h1, k1⟩
    rw [hB.2.len, List.take_length] at k1
    exact ⟨_, rfl, q D H1 kvs hD s1 h1 k1⟩
/-! ### _law_row_end -/
abbrev s_law_row_end : Stmt := top 58
theorem scLrow_end : FnScope ["asks", "f", "row", "weight", "place", "some", "ask"] ["asks", "f", "row"] (defScope s_law_row_end) := ⟨rfl, rfl, rfl, by decide +kernel, rfl, by decide +kernel, by decide +kernel⟩
theorem rd_same {H H' : Hp} (s : Same H H') {a : Addr} {u : HO} (h : Rd H a u) : Rd H' a u := h.elim (fun x => .inl (s _ _ x)) fun ⟨o, x⟩ => .inr ⟨o, s _ _ x⟩
theorem DGet.rk {H : Hp} {a : Addr} {kvs : List (L2.Key × V)} {k : L2.Key} (e : Rd H a (.dK kvs)) : DGet H a (kV k) (valV kvs k) := .inl ⟨kvs, k, e, rfl, rfl⟩
def spRowEnd : Sp := fun vs H Q _ => ∃ (D L : Addr) (es : List TEr) (kvs : List (L2.Key × V)) (f g : Str) (r : List Ak) (vs' : List V), vs = [.ref D, .str f, .ref L] ∧ Rd H D (.dK kvs) ∧ LaL H es kvs ∧ (es.map (·.1)).Nodup ∧ (∀ e ∈ es, isW e.1 = true ∧ (asksE e).length ≤ 300) ∧ (∀ a ∈ asksB es, isW a.2.1 = true) ∧ H L = some (.lst vs') ∧ All2 (PlcV H) (r.map (·.1)) vs' ∧ Row (asksB es) f r g ∧
  ∀ t H', Same H H' → H' t = some (.tup [.str g, .int (wtR r : Int)]) → Q (.ref t) H'
theorem ok_rowend {f : Addr} {fd : FuncData} (F : Fun K "_law_row_end" "_law_row_end" s_law_row_end f fd) : FnOk P w K mg base CX0 1 f fd ["asks", "f", "row"] spRowEnd := by
  refine F.ok scLrow_end (fun vs H Q E h => ?_) (fun cdv A outer s H vs Q E hr h => ?_)
  · obtain ⟨D, L, es, kvs, f, g, r, vs', rfl, _⟩ := h
    rfl
  obtain ⟨D, L, es, kvs, f, g, r, vs', rfl, hD, hk, hnd, hw, hwa, hL, hv, hrow, q⟩ := h
  refine ⟨_, (pss_cons (ps_set (i := 3) scLrow_end.nd rfl (Or.inl rfl) pe_int)
    (pss_cons (ps_for PassesOwn.never rfl (pi_list (pv 2)) (pg_name (i := 4) scLrow_end.nd rfl (Or.inr rfl)) (pss_cons (ps_setLc (i := 5) (own := [("ask", 6)]) (g := gName 6) (tt := tTest (tOp (rEqD K) (tOp (rIxT K) (tVar 6) (tC (.int 0))) (tVar 4))) (te := tVar 6) (by rfl) scLrow_end.nd rfl rfl (sw_true rfl rfl rfl (by decide +kernel)) (pi_list (pe_dget (hu_of hr) (pv 0) (pv 1) (fun _ _ => rfl))) (blkOk_by (own := [("ask", 6)]) (N := ["asks", "f", "row", "weight", "place", "some", "ask"]) (sc := defScope s_law_row_end) (by decide +kernel)) (fun _ _ _ _ _ => (pg_name (i := 6) scLrow_end.nd rfl (Or.inl rfl))) (fun _ _ _ _ _ => (pts_one (pt_cmpR (op_eqD hr.units) (pe_ix ix_tup (pv 6) pe_int (fun _ _ => rfl)) (pv 4) (nomark _)))) (fun _ _ _ _ _ => (pv 6)))
    (pss_cons (ps_if (pt_cmpR (op_eqD hr.units) (pv 5) (pe_lst pa_nil) (nomark _)) (pss_one (ps_ret (pe_tup (pa_cons pe_non (pa_cons pe_int pa_nil))))) pss_nil)
    (pss_cons (ps_set (i := 1) scLrow_end.nd rfl (Or.inl rfl) (pe_ix ix_tup (pe_ix ix_list (pv 5) pe_int (fun _ _ => rfl)) pe_int (fun _ _ => rfl)))
    (pss_one (ps_set (i := 3) scLrow_end.nd rfl (Or.inl rfl) (pe_op op_add (pv 3) (pe_ix ix_tup (pe_ix ix_list (pv 5) pe_int (fun _ _ => rfl)) pe_int (fun _ _ => rfl)))))))))
    (pss_one (ps_ret (pe_tup (pa_cons (pv 1) (pa_cons (pv 3) pa_nil))))))), ?_⟩
  refine ⟨_, rfl, L, rfl, ⟨_, SqL.of hL⟩, for_list (K := K) (a := L) (xs := vs') (fun i σ H' => ∃ (f' : Str) (o4 o5 o6 : Option V), σ = [some (.ref D), some (.str f'), some (.ref L), some (.int (wtR (r.take i) : Int)), o4, o5, o6] ∧ Same H H' ∧ Row (asksB es) f' (r.drop i) g) ⟨f, _, _, _, rfl, Same.refl _, hrow⟩ ?_ ?_ ?_⟩
  · rintro i σ H' _ ⟨f', o4, o5, o6, rfl, s1, _⟩
    exact SqL.of (s1 _ _ hL)
  · rintro i x σ H1 hx ⟨f', o4, o5, o6, rfl, s1, hrow1⟩
    obtain ⟨pl, hpl, qb, rfl, hq⟩ := hv.get hx
    rw [List.getElem?_map] at hpl
    obtain ⟨a, ha, rfl⟩ := Option.map_eq_some_iff.mp hpl
    obtain ⟨hi, hai⟩ := List.getElem?_eq_some_iff.mp ha
    rw [List.drop_eq_getElem_cons hi, hai] at hrow1
    obtain ⟨ef, ham, hrow2⟩ := hrow1.head
    obtain ⟨e, he, hae, hen⟩ := asksB_er ham
    obtain ⟨kv, hval, hk1, l, vl, hkv2, hl, hla⟩ := (hk.mono (fun l vs h => s1 _ _ h) (tk_same s1)).there hnd he
    have hen' : e.1 = f' := hen.trans ef
    rw [hen', hkv2] at hval
    have hD1 := rd_same s1 hD
    obtain ⟨hwe, hle⟩ := hw e he
    have hvll := hla.len
    refine ⟨_, rfl, _, rfl, D, .ref l, rfl, by rw [← hval]; exact DGet.rk (k := .inr f') hD1, l, rfl, ⟨_, SqL.of hl⟩, fun D2 hD2 => lc_list (K := K) (a := l) (xs := vl) (fun j H' => ∃ vs2, Same H1 H' ∧ H' D2 = some (.lst vs2) ∧ All2 (AtV H') (((asksE e).take j).filter fun x => decide (x.1 = a.1)) vs2 ∧ vs2.length ≤ j) ⟨[], same_new hD2 _, upd_same, by rw [List.take_zero]; exact trivial, Nat.le_refl _⟩ ?_ ?_ ?_⟩
    · rintro j H' _ ⟨vs2, s2, _⟩
      exact SqL.of (s2 _ _ hl)
    · rintro j x H2 hx2 ⟨vs2, s2, h2, k2, l2⟩
      obtain ⟨b, hb, hbv⟩ := hla.get hx2
      obtain ⟨hj, hbj⟩ := List.getElem?_eq_some_iff.mp hb
      obtain ⟨tb, qc, rfl, hb1, hb2⟩ := hbv.tk (tk_same s2)
      have hbw : isW b.1.1 = true := by rw [(asksE_nm (mem_of_get hb)).1]; exact hwe
      have haw : isW a.1.1 = true := by rw [← hen]; exact hwe
      refine ⟨rfl, ?_⟩
      refine ⟨_, rfl, tb, _, _, _, rfl, rfl, SqT.of hb1, at0, _, rfl, pdPl b.1, pdPl a.1, dp_pl hb2, dp_pl (s2 _ _ (s1 _ _ hq)), shaped_pl hbw, shaped_pl haw, _, rfl, ?_⟩
      rw [eqv_pl, List.take_succ_eq_append_getElem hj, hbj, List.filter_append]
      by_cases c : b.1 = a.1
      · refine itT (decide_eq_true c) ⟨_, rfl, vs2, h2, Nat.lt_of_le_of_lt (m := 300) (by omega) (by decide), vs2 ++ [.ref tb], same_mut s2 hD2, upd_same, ?_, by rw [List.length_append, List.length_singleton]; omega⟩
        rw [show [b].filter (fun x => decide (x.1 = a.1)) = [b] from List.filter_cons_of_pos (by exact decide_eq_true c)]
        exact (k2.imp fun _ _ z => z.tk (tk_put h2)).app ⟨⟨tb, qc, rfl, tk_put h2 _ _ hb1, tk_put h2 _ _ hb2⟩, trivial⟩
      · refine itF (decide_eq_false c) ⟨vs2, s2, h2, ?_, by omega⟩
        rw [show [b].filter (fun x => decide (x.1 = a.1)) = [] from List.filter_cons_of_neg (by show ¬ decide _ = true; rw [decide_eq_false c]; exact Bool.false_ne_true), List.append_nil]
        exact k2
    · rintro H2 ⟨vs2, s2, h2, k2, _⟩
      rw [hvll, List.take_length, filter_one (asksE_nd e) hae] at k2
      obtain ⟨v2, vr, rfl⟩ : ∃ v vr, vs2 = v :: vr := by
        cases vs2 with
        | nil => exact k2.elim
        | cons v vr => exact ⟨v, vr, rfl⟩
      obtain ⟨⟨tt, qd, rfl, ht1, ht2⟩, hvr⟩ := k2
      cases vr with
      | cons _ _ => exact hvr.elim
      | nil =>
      have haw : isW a.1.1 = true := by rw [← hen]; exact hwe
      refine ⟨_, rfl, sz (by show 0 ≤ 100000; decide), fun p0 hp0 => ?_⟩
      have s3 := same_new hp0 (.lst [])
      have dpt : Dp K (upd H2 p0 (.lst [])) (.ref D2) (.list [.tuple [pdPl a.1, .str a.2.1, .int (a.2.2 : Int)]]) := .lst (SqL.of (s3 _ _ h2)) (.cons (.tup (SqT.of (s3 _ _ ht1)) (.cons (dp_pl (s3 _ _ ht2)) (.cons (.str _) (.cons (.int _) .nil)))) .nil)
      have shp : SeqAt.shaped (.list [.tuple [pdPl a.1, .str a.2.1, .int (a.2.2 : Int)]]) = true := by
        refine shaped_of ?_ ?_
        · show (((pdPl a.1).canLay0 && (PySem.PyData.strOk a.2.1 && true)) && true) = true
          rw [lay_pl haw, isW_ok (hwa a ham)]
          rfl
        · show max (max (pdPl a.1).depth 0 + 1) 0 + 1 ≤ 64
          rw [depth_pl]
          decide
      refine ⟨_, _, dpt, .lst (SqL.of upd_same) .nil, shp, rfl, _, rfl, itF rfl ?_⟩
      have h3 := s3 _ _ h2
      have ht3 := s3 _ _ ht1
      refine ⟨_, rfl, D2, _, _, _, rfl, rfl, SqL.of h3, at0, tt, _, _, _, rfl, rfl, SqT.of ht3, at1, ?_⟩
      refine ⟨_, rfl, _, rfl, D2, _, _, _, rfl, rfl, SqL.of h3, at0, tt, _, _, _, rfl, rfl, SqT.of ht3, at2, _, _, rfl, rfl, ?_⟩
      have ew : ((wtR (r.take (i + 1)) : Nat) : Int) = (wtR (r.take i) : Int) + (a.2.2 : Int) := by
        rw [List.take_succ_eq_append_getElem hi, hai, wtR_app]
        show (((wtR (r.take i) + (a.2.2 + 0) : Nat)) : Int) = _
        omega
      refine ⟨a.2.1, some (.ref qb), some (.ref D2), o6, ?_, (s1.trans s2).trans s3, hrow2⟩
      rw [ew]
      rfl
  · rintro σ H1 ⟨f', o4, o5, o6, rfl, s1, hrow1⟩
    have hlen := hv.len
    rw [List.length_map] at hlen
    rw [hlen, List.drop_length] at hrow1
    rw [hlen, List.take_length]
    have efg : f' = g := by
      cases hrow1
      rfl
    refine ⟨_, rfl, _, rfl, sz (by show 2 ≤ 100000; decide), fun t ht => ?_⟩
    have s2 := same_new ht (.tup [.str f', .int (wtR r : Int)])
    exact q t _ (s1.trans s2) (by rw [upd_same, efg])
end
end KB

set_option pp.maxSteps 400
namespace KB
open PySem L2 HT LamX NdefX

theorem rP_asks {hd : Str → Option Nat} : ∀ {p : Pt} {xs js : List Str}, rP hd p xs js → ∀ x ∈ allP p, ∀ g ts j, x.2 = .ask g ts j → isW g = true
  | .give _ _, _, _, _, x, hx, g, ts, j, e => by
    rw [List.mem_singleton.mp hx] at e
    cases e
  | .ask f ts0 j0, _, _, h, x, hx, g, ts, j, e => by
    rw [List.mem_singleton.mp hx] at e
    cases e
    exact h.2.1
  | .tell _ _ p, _, _, h, x, hx, g, ts, j, e => by
    rcases List.mem_cons.mp hx with z | z
    · rw [z] at e; cases e
    · rw [List.append_nil] at z
      obtain ⟨y, hy, rfl⟩ := List.mem_map.mp z
      exact rP_asks (p := p) h.2.2 y hy g ts j e
  | .lett _ _ p, _, _, h, x, hx, g, ts, j, e => by
    rcases List.mem_cons.mp hx with z | z
    · rw [z] at e; cases e
    · rw [List.append_nil] at z
      obtain ⟨y, hy, rfl⟩ := List.mem_map.mp z
      exact rP_asks (p := p) h.2.2 y hy g ts j e
  | .iff _ p q, _, _, h, x, hx, g, ts, j, e => by
    rcases List.mem_cons.mp hx with z | z
    · rw [z] at e; cases e
    · rw [List.append_nil] at z
      rcases List.mem_append.mp z with z | z
      · obtain ⟨y, hy, rfl⟩ := List.mem_map.mp z
        exact rP_asks (p := p) h.2.1 y hy g ts j e
      · obtain ⟨y, hy, rfl⟩ := List.mem_map.mp z
        exact rP_asks (p := q) h.2.2 y hy g ts j e
  | .post _ _ p q, _, _, h, x, hx, g, ts, j, e => by
    rcases List.mem_cons.mp hx with z | z
    · rw [z] at e; cases e
    · rw [List.append_nil] at z
      rcases List.mem_append.mp z with z | z
      · obtain ⟨y, hy, rfl⟩ := List.mem_map.mp z
        exact rP_asks (p := p) h.2.2.1 y hy g ts j e
      · obtain ⟨y, hy, rfl⟩ := List.mem_map.mp z
        exact rP_asks (p := q) h.2.2.2 y hy g ts j e
theorem WB.as {hd : Str → Option Nat} {es : List TEr} (w : WB hd es) : ∀ a ∈ asksB es, isW a.2.1 = true := fun a ha => by
  obtain ⟨e, he, hae, _⟩ := asksB_er ha
  rw [asksE_same] at hae
  obtain ⟨x, hx, hh⟩ := List.mem_filterMap.mp hae
  obtain ⟨ks, p⟩ := x
  cases p with
  | ask g ts j =>
    have : some (((e.1, ks), g, if j = "home" then 0 else 1) : Ak) = some a := hh
    cases this
    exact rP_asks (w.rt e he).ok _ hx g ts j rfl
  | _ => cases hh
theorem WB.ws {hd : Str → Option Nat} {es : List TEr} (w : WB hd es) : ∀ e ∈ es, isW e.1 = true ∧ (asksE e).length ≤ 300 := fun e he => ⟨(w.rt e he).w, by
  have h3 : (asksE e).length ≤ pcnt e.2.2 := by
    rw [asksE_same, ← allP_len]
    exact List.length_filterMap_le _ _
  have := w.cn e he
  omega⟩
theorem LaL.ix {CR : Addr} {H H' : Hp} (s : Ix CR H H') {es : List TEr} {kvs : List (L2.Key × V)} (h : LaL H es kvs) : LaL H' es kvs := h.mono (fun _ _ z => s.l z) s.tk
section
variable {P : Program} {w : World} {K : PySem.W.Frag} {mg : Str → Option Value} {base : Heap} {CR : Addr}
end
end KB

namespace KB
open PySem L2 HT

/-! ### what can be come to, rings, and the most -/
def Rch (A : List Ak) (f g : Str) : Prop := ∃ r, Row A f r g
def RingA (A : List Ak) (f : Str) : Prop := ∃ a ∈ A, 0 < a.2.2 ∧ Rch A f a.1.1 ∧ Rch A a.2.1 a.1.1
def IsMax (A : List Ak) (f : Str) (m : Nat) : Prop := (∃ r g, Row A f r g ∧ wtR r = m) ∧ ∀ r g, Row A f r g → wtR r ≤ m
theorem IsMax.one {A : List Ak} {f : Str} {m n : Nat} (h : IsMax A f m) (k : IsMax A f n) : m = n := by
  obtain ⟨⟨r, g, h1, h2⟩, h3⟩ := h
  obtain ⟨⟨s, t, k1, k2⟩, k3⟩ := k
  have := k3 r g h1
  have := h3 s t k1
  omega
theorem Row.split {A : List Ak} : ∀ {p q : List Ak} {f g : Str}, Row A f (p ++ q) g → ∃ m, Row A f p m ∧ Row A m q g
  | [], q, f, g, h => ⟨f, .nil, h⟩
  | a :: p, q, f, g, h => by
    obtain ⟨e, m, k⟩ := Row.head h
    obtain ⟨x, h1, h2⟩ := Row.split k
    exact ⟨x, .cons' m e h1, h2⟩
theorem dup_src : ∀ r : List Ak, ¬ (r.map (·.1.1)).Nodup → ∃ p a q b s, r = p ++ a :: (q ++ b :: s) ∧ a.1.1 = b.1.1
  | [], h => absurd List.nodup_nil h
  | x :: r, h => by
    by_cases c : x.1.1 ∈ r.map (·.1.1)
    · obtain ⟨b, hb, e⟩ := List.mem_map.mp c
      obtain ⟨q, s, rfl⟩ := List.append_of_mem hb
      exact ⟨[], x, q, b, s, rfl, e.symm⟩
    · obtain ⟨p, a, q, b, s, e1, e2⟩ := dup_src r (fun z => h (by rw [List.map_cons]; exact List.nodup_cons.mpr ⟨c, z⟩))
      exact ⟨x :: p, a, q, b, s, by rw [e1]; rfl, e2⟩
theorem ring_zero {A : List Ak} {N : List Str} (c : Cl A N) (nr : NR A N) {x : Str} {r : List Ak} (h : Row A x r x) (hx : x ∈ N) : wtR r = 0 := by
  by_cases z : 0 < wtR r
  · obtain ⟨p, a, q, _, _, hw, ha, h1, h2⟩ := first_w h z
    exact absurd (h2.app h1) (nr a ha hw (h1.cl c hx).1 _)
  · omega
theorem row_short {A : List Ak} {N : List Str} (c : Cl A N) (nr : NR A N) : ∀ (n : Nat) {r : List Ak} {f g : Str}, r.length ≤ n → Row A f r g → f ∈ N → ∃ r', Row A f r' g ∧ wtR r' = wtR r ∧ r'.length ≤ N.length
  | 0, r, f, g, hl, h, hf => ⟨r, h, rfl, by omega⟩
  | n + 1, r, f, g, hl, h, hf => by
    by_cases z : r.length ≤ N.length
    · exact ⟨r, h, rfl, z⟩
    have nd : ¬ (r.map (·.1.1)).Nodup := fun nd => z (by
      have := nodup_le nd (ys := N) fun x hx => by
        obtain ⟨a, ha, e⟩ := List.mem_map.mp hx
        rw [← e]
        exact (h.cl c hf).2 a ha
      rwa [List.length_map] at this)
    obtain ⟨p, a, q, b, s, rfl, e⟩ := dup_src r nd
    obtain ⟨m1, h1, h2⟩ := Row.split h
    have h2' : Row A m1 ((a :: q) ++ (b :: s)) g := h2
    obtain ⟨m2, h3, h4⟩ := Row.split h2'
    have em1 := (Row.head h3).1
    have em2 := (Row.head h4).1
    have em : m1 = m2 := by rw [← em1, ← em2, e]
    subst em
    have hm := (h1.cl c hf).1
    have hz := ring_zero c nr h3 hm
    obtain ⟨r', k1, k2, k3⟩ := row_short c nr n (r := p ++ b :: s) (by
      simp only [List.length_append, List.length_cons] at hl ⊢
      omega) (h1.app h4) hf
    refine ⟨r', k1, ?_, k3⟩
    rw [k2, wtR_app, wtR_app, show a :: (q ++ b :: s) = (a :: q) ++ (b :: s) from rfl, wtR_app, hz]
    omega
/-! ### levels by rounds -/
structure Rnd (A : List Ak) (N : List Str) (k : Nat) (lv : Str → Nat) : Prop where
  re : Re A N lv
  ge : ∀ n ∈ N, ∀ r g, Row A n r g → r.length ≤ k → wtR r ≤ lv n
  dn : ∀ n ∈ N, lv n = 0 ∨ ∃ a ∈ A, a.1.1 = n ∧ lv n ≤ lv a.2.1 + a.2.2
theorem Rnd.zero (A : List Ak) (N : List Str) : Rnd A N 0 (fun _ => 0) := ⟨fun n _ => ⟨[], n, .nil, rfl⟩, fun n _ r g _ hl => by
  have : r = [] := List.length_eq_zero_iff.mp (by omega)
  rw [this]
  exact Nat.le_refl _, fun n _ => .inl rfl⟩
structure Mid (A : List Ak) (N : List Str) (k i : Nat) (lv : Str → Nat) : Prop extends Rnd A N k lv where
  gi : ∀ (j : Nat) n, j < i → N[j]? = some n → ∀ r g, Row A n r g → r.length ≤ k + 1 → wtR r ≤ lv n
theorem Rnd.mid {A : List Ak} {N : List Str} {k : Nat} {lv : Str → Nat} (h : Rnd A N k lv) : Mid A N k 0 lv := ⟨h, fun j n hj => absurd hj (Nat.not_lt_zero j)⟩
theorem Mid.fin {A : List Ak} {N : List Str} {k : Nat} {lv : Str → Nat} (h : Mid A N k N.length lv) : Rnd A N (k + 1) lv := ⟨h.re, fun n hn r g hr hl => by
  obtain ⟨j, hj, e⟩ := List.getElem_of_mem hn
  exact h.gi j n hj (by rw [List.getElem?_eq_getElem hj, e]) r g hr hl, h.dn⟩
theorem Mid.step {A : List Ak} {N : List Str} {k i : Nat} {lv : Str → Nat} (c : Cl A N) (h : Mid A N k i lv) {x : Str} (hx : N[i]? = some x) {v : Nat} (v1 : v = 0 ∨ ∃ a ∈ A, a.1.1 = x ∧ v = lv a.2.1 + a.2.2)
    (v2 : ∀ a ∈ A, a.1.1 = x → lv a.2.1 + a.2.2 ≤ v) : Mid A N k (i + 1) (setL lv x v) := by
  have hxN := mem_of_get hx
  have hlx : lv x ≤ v := by
    rcases h.dn x hxN with z | ⟨a, ha, e, z⟩
    · omega
    · have := v2 a ha e
      omega
  have mono : ∀ y, lv y ≤ setL lv x v y := fun y => by
    unfold setL
    split
    · rename_i e
      rw [e]
      exact hlx
    · exact Nat.le_refl _
  have hv : setL lv x v x = v := if_pos rfl
  have hxk : ∀ r g, Row A x r g → r.length ≤ k + 1 → wtR r ≤ setL lv x v x := fun r g hr hl => by
    rw [hv]
    cases r with
    | nil => exact Nat.zero_le _
    | cons a r =>
      obtain ⟨e, m, hr'⟩ := Row.head hr
      have := h.ge a.2.1 (c a m (by rw [e]; exact hxN)) r g hr' (by rw [List.length_cons] at hl; omega)
      have := v2 a m e
      rw [wtR_cons]
      omega
  refine ⟨⟨?_, fun n hn r g hr hl => ?_, fun n hn => ?_⟩, fun j n hj hjn r g hr hl => ?_⟩
  · rcases v1 with z | ⟨a, ha, e, z⟩
    · intro n hn
      by_cases en : n = x
      · exact ⟨[], n, .nil, by rw [en, hv, z]; rfl⟩
      · obtain ⟨r, g, h1, h2⟩ := h.re n hn
        exact ⟨r, g, h1, by rw [show setL lv x v n = lv n from if_neg en]; exact h2⟩
    · have := h.re.set c ha (by rw [e]; exact hxN)
      rw [e, ← z] at this
      exact this
  · exact Nat.le_trans (h.ge n hn r g hr hl) (mono n)
  · by_cases en : n = x
    · subst en
      rw [hv]
      rcases v1 with z | ⟨a, ha, e, z⟩
      · exact .inl z
      · refine .inr ⟨a, ha, e, ?_⟩
        have := mono a.2.1
        omega
    · rw [show setL lv x v n = lv n from if_neg en]
      rcases h.dn n hn with z | ⟨a, ha, e, z⟩
      · exact .inl z
      · refine .inr ⟨a, ha, e, ?_⟩
        have := mono a.2.1
        omega
  · by_cases c2 : j = i
    · rw [c2, hx] at hjn
      cases hjn
      exact hxk r g hr hl
    · exact Nat.le_trans (h.gi j n (by omega) hjn r g hr hl) (mono n)
theorem Rnd.max {A : List Ak} {N : List Str} {lv : Str → Nat} (h : Rnd A N N.length lv) (c : Cl A N) (nr : NR A N) {f : Str} (hf : f ∈ N) : IsMax A f (lv f) := by
  obtain ⟨r, g, h1, h2⟩ := h.re f hf
  refine ⟨⟨r, g, h1, h2⟩, fun r g hr => ?_⟩
  obtain ⟨r', k1, k2, k3⟩ := row_short c nr r.length (Nat.le_refl _) hr hf
  rw [← k2]
  exact h.ge f hf r' g k1 k3
theorem Rnd.le {A : List Ak} {N : List Str} {k : Nat} {lv : Str → Nat} (h : Rnd A N k lv) (c : Cl A N) (nr : NR A N) (w1 : ∀ a ∈ A, a.2.2 ≤ 1) : ∀ n ∈ N, lv n ≤ N.length := h.re.le c nr w1
/-! ### what is come to, by rounds -/
/-- at the start of a round -/
structure Cm (A : List Ak) (M : List Str) (f : Str) (k : Nat) (F : List Str) : Prop where
  nd : F.Nodup
  so : ∀ x ∈ F, Rch A f x
  st : f ∈ F
  inn : ∀ x ∈ F, x ∈ M
  ex : k + 1 ≤ F.length ∨ Cl A F
theorem Cm.start {A : List Ak} {M : List Str} {f : Str} (h : f ∈ M) : Cm A M f 0 [f] := ⟨by simp, fun x hx => by rw [List.mem_singleton.mp hx]; exact ⟨[], .nil⟩, List.mem_cons_self, fun x hx => by rw [List.mem_singleton.mp hx]; exact h, .inl (Nat.le_refl _)⟩
/-- within a round that began with S: targets of the first i of S, and of the first j asks of the next one -/
structure Cn (A : List Ak) (M : List Str) (f : Str) (S : List Str) (i : Nat) (F : List Str) : Prop where
  nd : F.Nodup
  so : ∀ x ∈ F, Rch A f x
  inn : ∀ x ∈ F, x ∈ M
  ex : ∃ E, F = S ++ E ∧ (Cl A S → E = [])
  tg : ∀ (j : Nat) n, j < i → S[j]? = some n → ∀ a ∈ A, a.1.1 = n → a.2.1 ∈ F
theorem Cm.in_ {A : List Ak} {M : List Str} {f : Str} {k : Nat} {F : List Str} (h : Cm A M f k F) : Cn A M f F 0 F := ⟨h.nd, h.so, h.inn, ⟨[], (List.append_nil _).symm, fun _ => rfl⟩, fun j n hj => absurd hj (Nat.not_lt_zero j)⟩
theorem Cn.out {A : List Ak} {M : List Str} {f : Str} {k : Nat} {S F : List Str} (s : Cm A M f k S) (h : Cn A M f S S.length F) : Cm A M f (k + 1) F := by
  obtain ⟨nd, so, inn, ⟨E, rfl, hE⟩, tg⟩ := h
  refine ⟨nd, so, List.mem_append_left _ s.st, inn, ?_⟩
  cases E with
  | nil =>
    refine .inr fun a ha hs => ?_
    rw [List.append_nil] at hs ⊢
    obtain ⟨j, hj, e⟩ := List.getElem_of_mem hs
    have := tg j a.1.1 hj (by rw [List.getElem?_eq_getElem hj, e]) a ha rfl
    rwa [List.append_nil] at this
  | cons x E =>
    rcases s.ex with z | z
    · left
      rw [List.length_append, List.length_cons]
      omega
    · exact absurd (hE z) (fun y => nomatch y)
/-- one ask -/
theorem Cn.ask {A : List Ak} {M : List Str} {f : Str} {S : List Str} {i : Nat} {F : List Str} (h : Cn A M f S i F) {a : Ak} (ha : a ∈ A) (hs : a.1.1 ∈ S) (hm : a.2.1 ∈ M) (hn : a.2.1 ∉ F) : Cn A M f S i (F ++ [a.2.1]) := by
  obtain ⟨nd, so, inn, ⟨E, rfl, hE⟩, tg⟩ := h
  refine ⟨List.nodup_append.mpr ⟨nd, by simp, fun x hx y hy e => hn (by rw [← List.mem_singleton.mp hy, ← e]; exact hx)⟩, fun x hx => ?_, fun x hx => ?_, ⟨E ++ [a.2.1], List.append_assoc _ _ _, fun c => ?_⟩, fun j n hj hjn b hb e => List.mem_append_left _ (tg j n hj hjn b hb e)⟩
  · rcases List.mem_append.mp hx with z | z
    · exact so x z
    · rw [List.mem_singleton.mp z]
      obtain ⟨r, hr⟩ := so a.1.1 (List.mem_append_left _ hs)
      exact ⟨r ++ [a], hr.snoc ha rfl⟩
  · rcases List.mem_append.mp hx with z | z
    · exact inn x z
    · rw [List.mem_singleton.mp z]; exact hm
  · exact absurd (List.mem_append_left E (c a ha hs)) hn
theorem Cn.next {A : List Ak} {M : List Str} {f : Str} {S : List Str} {i : Nat} {F : List Str} (h : Cn A M f S i F) {x : Str} (hx : S[i]? = some x) (ht : ∀ a ∈ A, a.1.1 = x → a.2.1 ∈ F) : Cn A M f S (i + 1) F :=
  ⟨h.nd, h.so, h.inn, h.ex, fun j n hj hjn a ha e => by
    by_cases c : j = i
    · rw [c, hx] at hjn
      cases hjn
      exact ht a ha e
    · exact h.tg j n (by omega) hjn a ha e⟩
theorem Cm.fin {A : List Ak} {M : List Str} {f : Str} {F : List Str} (h : Cm A M f M.length F) : ∀ x, x ∈ F ↔ Rch A f x := by
  have hc : Cl A F := by
    rcases h.ex with z | z
    · have := nodup_le h.nd h.inn
      omega
    · exact z
  exact fun x => ⟨h.so x, fun ⟨r, hr⟩ => (hr.cl hc h.st).1⟩
theorem cl_rch {A : List Ak} {f : Str} {N : List Str} (h : ∀ x, x ∈ N ↔ Rch A f x) : Cl A N := fun a ha hs => by
  obtain ⟨r, hr⟩ := (h _).mp hs
  exact (h _).mpr ⟨r ++ [a], hr.snoc ha rfl⟩
theorem nr_of {A : List Ak} {f : Str} {N : List Str} (h : ∀ x ∈ N, Rch A f x) (n : ¬ RingA A f) : NR A N := fun a ha hw hs r hr => n ⟨a, ha, hw, h _ hs, r, hr⟩
end KB

namespace KB
open PySem L2 HT LamX NdefX

theorem eqV_str (x y : Str) : eqV (.str x) (.str y) = decide (V.str x = V.str y) := by
  unfold eqV
  first | rfl | (by_cases c : x = y <;> simp [c])
theorem inV_mem {x : Str} {xs : List Str} (h : x ∈ xs) : inV (.str x) (xs.map V.str) = true := by
  unfold inV
  rw [List.any_eq_true]
  exact ⟨_, List.mem_map.mpr ⟨x, h, rfl⟩, by rw [eqV_str]; exact decide_eq_true rfl⟩
theorem inV_not {x : Str} {xs : List Str} (h : x ∉ xs) : inV (.str x) (xs.map V.str) = false := by
  cases e : inV (.str x) (xs.map V.str) with
  | false => rfl
  | true =>
    exfalso
    unfold inV at e
    rw [List.any_eq_true] at e
    obtain ⟨v, hv, e2⟩ := e
    obtain ⟨y, hy, rfl⟩ := List.mem_map.mp hv
    rw [eqV_str] at e2
    have e3 := V.str.inj (of_decide_eq_true e2)
    exact h (e3 ▸ hy)
section
variable {P : Program} {w : World} {K : PySem.W.Frag} {mg : Str → Option Value} {base : Heap}
/-! ### _law_is_word -/
/-! ### _law_whole -/
/-! ### _law_good_term -/
end
end KB

set_option pp.maxSteps 400
namespace KB
open PySem L2 HT LamX NdefX

/-! ### a statement that reads a dict, which may be locked already -/
def tLockR (t : TS) : TS := fun D σ H => ∃ d u, Rd H d u ∧ Mut (some u) ∧ ∀ od H1, H1 d = some (.frz od u) → (∀ b, b ≠ d → H1 b = H b) →
  t ⟨fun σ' H' => H' d = some (.frz od u) ∧ ∀ H2, (∀ b, b ≠ d → H2 b = H' b) → H2 d = H d → D.nx σ' H2, fun v H' => H' d = some (.frz od u) ∧ ∀ H2, (∀ b, b ≠ d → H2 b = H' b) → H2 d = H d → D.rt v H2,
    fun σ' H' => H' d = some (.frz od u) ∧ ∀ H2, (∀ b, b ≠ d → H2 b = H' b) → H2 d = H d → D.bk σ' H2, fun σ' H' => H' d = some (.frz od u) ∧ ∀ H2, (∀ b, b ≠ d → H2 b = H' b) → H2 d = H d → D.ct σ' H2⟩ σ H1
section
variable {X : Cx}
theorem ps_lockR {st : Stmt} {t : TS} (h : PS X st t) : PS X st (tLockR t) := by
  refine ⟨fun pins s σ H D I hw => ?_⟩
  obtain ⟨d, u, hd | ⟨od, hd⟩, mu, hw⟩ := hw
  · obtain ⟨od, I1⟩ := I.lock hd mu
    refine thn (h.run pins s σ _ _ I1 (hw od _ upd_same fun b n => upd_ne n)) fun f s1 q => ?_
    cases f with
    | next => obtain ⟨σ', H', I2, e, q⟩ := q; exact ⟨σ', _, I2.unlock e (I.nofrz hd mu), q _ (fun b n => upd_ne n) (by rw [upd_same, hd])⟩
    | brk => obtain ⟨σ', H', I2, e, q⟩ := q; exact ⟨σ', _, I2.unlock e (I.nofrz hd mu), q _ (fun b n => upd_ne n) (by rw [upd_same, hd])⟩
    | cont => obtain ⟨σ', H', I2, e, q⟩ := q; exact ⟨σ', _, I2.unlock e (I.nofrz hd mu), q _ (fun b n => upd_ne n) (by rw [upd_same, hd])⟩
    | ret v => obtain ⟨x, σ', H', I2, r, e, q⟩ := q; exact ⟨x, σ', _, I2.unlock e (I.nofrz hd mu), r, q _ (fun b n => upd_ne n) (by rw [upd_same, hd])⟩
  · refine thn (h.run pins s σ _ _ I (hw od H hd fun b n => rfl)) fun f s1 q => ?_
    cases f with
    | next => obtain ⟨σ', H', I2, e, q⟩ := q; exact ⟨σ', H', I2, q _ (fun b n => rfl) (by rw [e, hd])⟩
    | brk => obtain ⟨σ', H', I2, e, q⟩ := q; exact ⟨σ', H', I2, q _ (fun b n => rfl) (by rw [e, hd])⟩
    | cont => obtain ⟨σ', H', I2, e, q⟩ := q; exact ⟨σ', H', I2, q _ (fun b n => rfl) (by rw [e, hd])⟩
    | ret v => obtain ⟨x, σ', H', I2, r, e, q⟩ := q; exact ⟨x, σ', H', I2, r, q _ (fun b n => rfl) (by rw [e, hd])⟩
end
/-! ### all but one place stays -/
def Off (d : Addr) (H H' : Hp) : Prop := ∀ b o, b ≠ d → H b = some o → H' b = some o
theorem Off.refl (d : Addr) (H : Hp) : Off d H H := fun _ _ _ h => h
theorem Off.same {d : Addr} {H H1 H2 : Hp} (a : Off d H H1) (s : Same H1 H2) : Off d H H2 := fun b o n h => s _ _ (a b o n h)
theorem Off.lst {d : Addr} {kvs : List (L2.Key × V)} {H H' : Hp} (r : Rd H d (.dK kvs)) (a : Off d H H') {l : Addr} {vs : List V} (h : H l = some (.lst vs)) : H' l = some (.lst vs) := a _ _ (fun z => by
  rcases r with r | ⟨o, r⟩ <;> · rw [z, r] at h; cases h) h
theorem Off.tk {d : Addr} {kvs : List (L2.Key × V)} {H H' : Hp} (r : Rd H d (.dK kvs)) (a : Off d H H') : TK H H' := fun l xs h => a _ _ (fun z => by
  rcases r with r | ⟨o, r⟩ <;> · rw [z, r] at h; cases h) h
theorem Off.back {d : Addr} {H H' H2 : Hp} (a : Off d H H') (f : ∀ b, b ≠ d → H2 b = H' b) (e : H2 d = H d) : Same H H2 := fun b o h => by
  by_cases c : b = d
  · rw [c] at h ⊢
    rw [e]
    exact h
  · rw [f b c]
    exact a b o c h
theorem Off.of {d : Addr} {H H1 : Hp} (f : ∀ b, b ≠ d → H1 b = H b) : Off d H H1 := fun b o n h => by rw [f b n]; exact h
theorem Off.mut {d l : Addr} {H H' : Hp} {u : HO} (a : Off d H H') (h : H l = none) : Off d H (upd H' l u) := fun b o n e => by
  rw [upd_ne (fun z => by rw [z, h] at e; cases e)]
  exact a b o n e
theorem Off.none {d l : Addr} {H H' : Hp} (a : Off d H H') (n : l ≠ d) (h : H' l = none) : H l = none := by
  cases e : H l with
  | none => rfl
  | some o => rw [a _ _ n e] at h; cases h
theorem rd_some {H : Hp} {d : Addr} {u : HO} (r : Rd H d u) : ∃ o, H d = some o := by
  rcases r with r | ⟨o, r⟩
  · exact ⟨_, r⟩
  · exact ⟨_, r⟩
theorem flat_strs (xs : List Str) : (xs.map V.str).all flatV = true := by
  rw [List.all_eq_true]
  intro v hv
  obtain ⟨x, _, rfl⟩ := List.mem_map.mp hv
  rfl
/-! ### the law's asks -/
structure LB (H : Hp) (D : Addr) (es : List TEr) (kvs : List (L2.Key × V)) : Prop where
  rd : Rd H D (.dK kvs)
  la : LaL H es kvs
  nd : (es.map (·.1)).Nodup
  l6 : es.length ≤ 6
  ws : ∀ e ∈ es, isW e.1 = true ∧ (asksE e).length ≤ 300
  as : ∀ a ∈ asksB es, isW a.2.1 = true
  tg : ∀ a ∈ asksB es, a.2.1 ∈ es.map (·.1)
theorem LB.same {H H' : Hp} {D : Addr} {es : List TEr} {kvs : List (L2.Key × V)} (h : LB H D es kvs) (s : Same H H') : LB H' D es kvs :=
  ⟨rd_same s h.rd, h.la.mono (fun _ _ z => s _ _ z) (tk_same s), h.nd, h.l6, h.ws, h.as, h.tg⟩
theorem LB.frz {H H' : Hp} {D : Addr} {es : List TEr} {kvs : List (L2.Key × V)} {od : Obj} (h : LB H D es kvs) (a : Off D H H') (e : H' D = some (.frz od (.dK kvs))) : LB H' D es kvs :=
  ⟨.inr ⟨od, e⟩, h.la.mono (fun _ _ z => a.lst h.rd z) (a.tk h.rd), h.nd, h.l6, h.ws, h.as, h.tg⟩
theorem asks_of {es : List TEr} (nd : (es.map (·.1)).Nodup) {e : TEr} (he : e ∈ es) {a : Ak} (ha : a ∈ asksB es) (h : a.1.1 = e.1) : a ∈ asksE e := by
  obtain ⟨e2, he2, h2, h3⟩ := asksB_er ha
  have : e2 = e := by
    obtain ⟨i, hi, ei⟩ := List.getElem_of_mem he
    obtain ⟨j, hj, ej⟩ := List.getElem_of_mem he2
    by_cases c : i = j
    · subst c
      rw [← ei, ← ej]
    · exfalso
      have hn : (es.map (·.1))[i]'(by rw [List.length_map]; exact hi) = (es.map (·.1))[j]'(by rw [List.length_map]; exact hj) := by
        rw [List.getElem_map, List.getElem_map, ei, ej, h3, h]
      exact c ((List.getElem_inj nd).mp hn)
  rw [← this]
  exact h2
theorem asks_in {es : List TEr} {e : TEr} (he : e ∈ es) {a : Ak} (ha : a ∈ asksE e) : a ∈ asksB es := List.mem_flatten.mpr ⟨_, List.mem_map.mpr ⟨e, he, rfl⟩, ha⟩
theorem LB.at {H : Hp} {D : Addr} {es : List TEr} {kvs : List (L2.Key × V)} (h : LB H D es kvs) {n : Str} (hn : n ∈ es.map (·.1)) : ∃ (e : TEr) (l : Addr) (vl : List V), e ∈ es ∧ e.1 = n ∧ valV kvs (.inr n) = some (.ref l) ∧ H l = some (.lst vl) ∧ All2 (AtV H) (asksE e) vl := by
  obtain ⟨e, he, rfl⟩ := List.mem_map.mp hn
  obtain ⟨kv, hval, hk1, l, vl, hkv2, hl, hla⟩ := h.la.there h.nd he
  exact ⟨e, l, vl, he, rfl, by rw [← hkv2]; exact hval, hl, hla⟩
theorem DGet.at {H : Hp} {D : Addr} {kvs : List (L2.Key × V)} {n : Str} {v : V} (r : Rd H D (.dK kvs)) (h : valV kvs (.inr n) = some v) : DGet H D (.str n) (some v) := by
  rw [← h]
  exact DGet.rk (k := .inr n) r
section
variable {P : Program} {w : World} {K : PySem.W.Frag} {mg : Str → Option Value} {base : Heap}
/-! ### _law_come_to -/
def spCome : Sp := fun vs H Q _ => ∃ (D : Addr) (es : List TEr) (kvs : List (L2.Key × V)) (f : Str), vs = [.ref D, .str f] ∧ LB H D es kvs ∧ f ∈ es.map (·.1) ∧
  ∀ L H' N, H L = none → Same H H' → H' L = some (.lst (N.map V.str)) → N.Nodup → PyProof.Rows.sortedS N = true → (∀ x, x ∈ N ↔ Rch (asksB es) f x) → N.length ≤ 6 → Q (.ref L) H'
abbrev s_law_come_to : Stmt := top 56
theorem scLcome_to : FnScope ["asks", "f", "found", "name", "one", "ask"] ["asks", "f"] (defScope s_law_come_to) := ⟨rfl, rfl, rfl, by decide +kernel, rfl, by decide +kernel, by decide +kernel⟩
theorem ok_come (T : Txt K mg) (mso : mg "sorted" = none) {f : Addr} {fd : FuncData} (F : Fun K "_law_come_to" "_law_come_to" s_law_come_to f fd) : FnOk P w K mg base CX0 1 f fd ["asks", "f"] spCome := by
  refine F.ok scLcome_to (fun vs H Q E h => ?_) (fun cdv A outer s H vs Q E hr h => ?_)
  · obtain ⟨D, es, kvs, nm, rfl, _⟩ := h
    rfl
  obtain ⟨D, es, kvs, nm, rfl, hB, hf, q⟩ := h
  refine ⟨_, (pss_cons (ps_set (i := 2) scLcome_to.nd rfl (Or.inl rfl) (pe_lst (pa_cons (pv 1) pa_nil)))
    (pss_cons (ps_lockR (ps_for PassesOwn.never rfl (pi_keys (pv 0)) (pg_name (i := 3) scLcome_to.nd rfl (Or.inl rfl)) (pss_one (ps_for PassesOwn.never rfl (pi_list (pe_callTy call_list_of (by rfl) T.m_list (by decide +kernel) (pa_cons (pv 2) pa_nil))) (pg_name (i := 4) scLcome_to.nd rfl (Or.inl rfl)) (pss_one (ps_for PassesOwn.never rfl (pi_list (pe_dget (hu_of hr) (pv 0) (pv 4) (fun _ _ => rfl))) (pg_name (i := 5) scLcome_to.nd rfl (Or.inl rfl)) (pss_one (ps_if (pt_cmpR op_notIn_seq (pe_ix ix_tup (pv 5) pe_int (fun _ _ => rfl)) (pv 2) rfl) (pss_one (ps_expr (pe_bm PySem.F.plainAttrs_list PySem.F.slot_list_append PySem.F.type_list_append mt_append (pv 2) (pa_cons (pe_ix ix_tup (pv 5) pe_int (fun _ _ => rfl)) pa_nil)))) pss_nil))))))))
    (pss_one (ps_ret (pe_callB cr_sortedS (by rfl) mso (by decide +kernel) (pa_cons (pv 2) pa_nil)))))), ?_⟩
  have hml : (es.map (·.1)).length = es.length := List.length_map ..
  refine ⟨_, rfl, sz (by show 1 ≤ 100000; decide), fun Lf hLf => ?_⟩
  have s0 := same_new hLf (.lst [.str nm])
  have hL0 : (upd H Lf (.lst [.str nm])) Lf = some (.lst [.str nm]) := upd_same
  obtain ⟨oD, hoD⟩ := rd_some hB.rd
  have nLD : Lf ≠ D := fun z => by rw [z, hoD] at hLf; cases hLf
  have hB0 := hB.same s0
  have e0 : (upd H Lf (.lst [.str nm])) D = H D := upd_ne nLD.symm
  generalize upd H Lf (.lst [.str nm]) = H0 at s0 hL0 hB0 e0
  refine ⟨D, .dK kvs, hB0.rd, trivial, fun od H1 h1 f1 => ?_⟩
  have o1 : Off D H H1 := fun b o n h => by rw [f1 b n]; exact s0 _ _ h
  have hL1 : H1 Lf = some (.lst ([nm].map V.str)) := by rw [f1 _ nLD]; exact hL0
  refine ⟨_, rfl, D, od, rfl, .inl ⟨kvs, h1, for_it walk_keys (fun i σ H' => ∃ (o3 o4 o5 : Option V) (G : List Str), σ = [some (.ref D), some (.str nm), some (.ref Lf), o3, o4, o5] ∧ Off D H H' ∧ H' D = some (.frz od (.dK kvs)) ∧ H' Lf = some (.lst (G.map V.str)) ∧ Cm (asksB es) (es.map (·.1)) nm i G) ?_ ?_ ?_ ?_⟩⟩
  · exact ⟨_, _, _, [nm], rfl, o1, h1, hL1, Cm.start hf⟩
  · rintro i σ H' _ ⟨o3, o4, o5, G, rfl, _, h, _⟩
    exact h
  · rintro i x σ H2 H3 hi ⟨o3, o4, o5, S, rfl, o2, d2, l2, cm⟩ ⟨rfl, k, v, hkv, rfl⟩
    refine ⟨_, rfl, Lf, S.map V.str, rfl, .inl (SqL.of l2), fun l hl => ?_⟩
    have nlD : l ≠ D := fun z => by rw [z, d2] at hl; cases hl
    have nll : l ≠ Lf := fun z => by rw [z, l2] at hl; cases hl
    have hlH : H l = none := o2.none nlD hl
    have s3 := same_new hl (.lst (S.map V.str))
    refine ⟨l, rfl, ⟨_, SqL.of upd_same⟩, for_list (K := K) (a := l) (xs := S.map V.str) (fun j σ H' => ∃ (o4 o5 : Option V) (G : List Str), σ = [some (.ref D), some (.str nm), some (.ref Lf), some (kV k), o4, o5] ∧ Off D H H' ∧ H' D = some (.frz od (.dK kvs)) ∧ H' Lf = some (.lst (G.map V.str)) ∧ H' l = some (.lst (S.map V.str)) ∧ Cn (asksB es) (es.map (·.1)) nm S j G) ⟨_, _, S, rfl, o2.same s3, s3 _ _ d2, s3 _ _ l2, upd_same, cm.in_⟩ ?_ ?_ ?_⟩
    · rintro j σ H' _ ⟨o4, o5, G, rfl, _, _, _, h, _⟩
      exact SqL.of h
    · rintro j x σ H4 hx ⟨o4, o5, G, rfl, o4', d4, l4, m4, cn⟩
      obtain ⟨n, hn, rfl⟩ := Option.map_eq_some_iff.mp (by rw [List.getElem?_map] at hx; exact hx)
      have hnS := mem_of_get hn
      obtain ⟨e, la, vl, he, hen, hg, hla, hal⟩ := hB.at (cm.inn n hnS)
      have hvl := hal.len
      refine ⟨_, rfl, _, rfl, D, .ref la, rfl, DGet.at (.inr ⟨od, d4⟩) hg, la, rfl, ⟨_, SqL.of (o4'.lst hB.rd hla)⟩, for_list (K := K) (a := la) (xs := vl) (fun m σ H' => ∃ (o5 : Option V) (G : List Str), σ = [some (.ref D), some (.str nm), some (.ref Lf), some (kV k), some (.str n), o5] ∧ Off D H H' ∧ H' D = some (.frz od (.dK kvs)) ∧ H' Lf = some (.lst (G.map V.str)) ∧ H' l = some (.lst (S.map V.str)) ∧ Cn (asksB es) (es.map (·.1)) nm S j G ∧ ∀ a ∈ (asksE e).take m, a.2.1 ∈ G) ⟨_, G, rfl, o4', d4, l4, m4, cn, fun a h => by rw [List.take_zero] at h; cases h⟩ ?_ ?_ ?_⟩
      · rintro m σ H' _ ⟨o5, G, rfl, o5', _⟩
        exact SqL.of (o5'.lst hB.rd hla)
      · rintro m x σ H5 hx5 ⟨o5, G5, rfl, o5', d5, l5, m5, cn5, hall⟩
        obtain ⟨a, ha, tb, qc, rfl, hb1, hb2⟩ := hal.get hx5
        have hb1' := o5'.tk hB.rd _ _ hb1
        have haE := mem_of_get ha
        have haA := asks_in he haE
        have han : a.1.1 = n := (asksE_nm haE).1.trans hen
        have hst : (asksE e).take (m + 1) = (asksE e).take m ++ [a] := by
          obtain ⟨hm, ham⟩ := List.getElem?_eq_some_iff.mp ha
          rw [List.take_succ_eq_append_getElem hm, ham]
        refine ⟨_, rfl, tb, _, _, _, rfl, rfl, SqT.of hb1', at1, _, rfl, Lf, G5.map V.str, rfl, .inl (SqL.of l5), rfl, flat_strs _, _, rfl, ?_⟩
        by_cases c : a.2.1 ∈ G5
        · refine itF (by show (!inV _ _) = false; rw [inV_mem c]; rfl) ⟨_, G5, rfl, o5', d5, l5, m5, cn5, fun b hb => ?_⟩
          rw [hst] at hb
          rcases List.mem_append.mp hb with z | z
          · exact hall b z
          · rw [List.mem_singleton.mp z]; exact c
        · refine itT (by show (!inV _ _) = true; rw [inV_not c]; rfl) ?_
          have hlen := nodup_le cn5.nd cn5.inn
          have hml' := hB.l6
          refine ⟨_, rfl, .inl ⟨rfl, _, SqL.of l5⟩, _, rfl, tb, _, _, _, rfl, rfl, SqT.of hb1', at1, Lf, _, _, rfl, rfl, l5, Nat.lt_of_le_of_lt (m := 6) (by rw [List.length_map]; omega) (by decide), ?_⟩
          refine ⟨_, G5 ++ [a.2.1], rfl, o5'.mut hLf, by rw [upd_ne nLD.symm]; exact d5, by rw [upd_same, List.map_append]; rfl, by rw [upd_ne nll]; exact m5, cn5.ask haA (by rw [han]; exact hnS) (hB.tg a haA) c, fun b hb => ?_⟩
          rw [hst] at hb
          rcases List.mem_append.mp hb with z | z
          · exact List.mem_append_left _ (hall b z)
          · rw [List.mem_singleton.mp z]; exact List.mem_append_right _ List.mem_cons_self
      · rintro σ H5 ⟨o5, G5, rfl, o5', d5, l5, m5, cn5, hall⟩
        rw [hvl, List.take_length] at hall
        exact ⟨_, _, G5, rfl, o5', d5, l5, m5, cn5.next hn fun a ha e1 => hall a (asks_of hB.nd he ha (e1.trans hen.symm))⟩
    · rintro σ H4 ⟨o4, o5, G, rfl, o4', d4, l4, m4, cn⟩
      rw [List.length_map] at cn
      exact ⟨_, _, _, G, rfl, o4', d4, l4, cn.out cm⟩
  · rintro σ H2 ⟨o3, o4, o5, G, rfl, o2, d2, l2, cm⟩
    rw [hB.la.len, ← hml] at cm
    have hlen := nodup_le cm.nd cm.inn
    have hl6 := hB.l6
    refine ⟨d2, fun H3 f3 e3 => ?_⟩
    have s3 : Same H H3 := o2.back f3 (e3.trans e0)
    have l3 : H3 Lf = some (.lst (G.map V.str)) := by rw [f3 _ nLD]; exact l2
    refine ⟨_, rfl, Lf, G, rfl, SqL.of l3, by omega, fun ys p hp hs hpn => ?_⟩
    have := hp.length_eq
    exact q p _ ys (none_back s3 hpn) (s3.trans (same_new hpn _)) upd_same (hp.nodup_iff.mpr cm.nd) hs (fun x => (hp.mem_iff).trans (cm.fin x)) (by omega)
end
end KB

set_option pp.maxSteps 400
namespace KB
open PySem L2 HT LamX NdefX

noncomputable def ringB (A : List Ak) (n : Str) (a : Ak) : Bool := @decide (a.2.2 = 1 ∧ Rch A a.2.1 n) (Classical.propDecidable _)
theorem ringB_iff {A : List Ak} {n : Str} {a : Ak} : ringB A n a = true ↔ a.2.2 = 1 ∧ Rch A a.2.1 n := by
  unfold ringB
  exact @decide_eq_true_iff _ (Classical.propDecidable _)
theorem rch_in {A : List Ak} {M : List Str} {f n : Str} (hf : f ∈ M) (tg : ∀ a ∈ A, a.2.1 ∈ M) (h : Rch A f n) : n ∈ M := by
  obtain ⟨r, hr⟩ := h
  exact (hr.cl (N := M) (fun a ha _ => tg a ha) hf).1
section
variable {P : Program} {w : World} {K : PySem.W.Frag} {mg : Str → Option Value} {base : Heap}
/-! ### _law_weighs -/
def spWeighs : Sp := fun vs H Q _ => ∃ (D : Addr) (es : List TEr) (kvs : List (L2.Key × V)) (f : Str), vs = [.ref D, .str f] ∧ LB H D es kvs ∧ f ∈ es.map (·.1) ∧
  (RingA (asksB es) f → ∀ H', Same H H' → Q .non H') ∧ (¬ RingA (asksB es) f → ∀ H' (m : Nat), Same H H' → IsMax (asksB es) f m → Q (.int (m : Int)) H')
abbrev s_law_weighs : Stmt := top 57
theorem scLweighs : FnScope ["asks", "f", "some", "name", "place", "g", "weight", "levels", "turn"] ["asks", "f"] (defScope s_law_weighs) := ⟨rfl, rfl, rfl, by decide +kernel, rfl, by decide +kernel, by decide +kernel⟩
theorem ok_weighs (T : Txt K mg) (man : mg "any" = none) {f f1 : Addr} {fd d1 : FuncData} (F : Fun K "_law_weighs" "_law_weighs" s_law_weighs f fd) (G_law_come_to : FnOk P w K mg base CX0 1 f1 d1 ["asks", "f"] spCome) (R_law_come_to : Ref K mg "_law_come_to" f1 d1 ["asks", "f"]) : FnOk P w K mg base CX0 2 f fd ["asks", "f"] spWeighs := by
  refine F.ok scLweighs (fun vs H Q E h => ?_) (fun cdv A outer s H vs Q E hr h => ?_)
  · obtain ⟨D, es, kvs, nm, rfl, _⟩ := h
    rfl
  obtain ⟨D, es, kvs, nm, rfl, hB, hf, qn, qm⟩ := h
  refine ⟨_, (pss_cons (ps_set (i := 2) scLweighs.nd rfl (Or.inl rfl) (pe_call G_law_come_to (hr.mono (by omega)) rfl R_law_come_to.m R_law_come_to.k R_law_come_to.b .nil pass0 (pa_cons (pv 0) (pa_cons (pv 1) pa_nil))))
    (pss_cons (ps_for PassesOwn.never rfl (pi_list (pv 2)) (pg_name (i := 3) scLweighs.nd rfl (Or.inr rfl)) (pss_one (ps_if (pt_val (pe_callB (cr_any rfl) (by rfl) man (by decide +kernel) (pa_cons (pe_lc (own := [("place", 4), ("g", 5), ("weight", 6)]) (g := gTup K 3 (gCons (gName 4) (gCons (gName 5) (gCons (gName 6) gNil)))) (by rfl) scLweighs.nd (pi_list (pe_dget (hu_of hr) (pv 0) (pv 3) (fun _ _ => rfl))) (blkOk_by (own := [("place", 4), ("g", 5), ("weight", 6)]) (N := ["asks", "f", "some", "name", "place", "g", "weight", "levels", "turn"]) (sc := defScope s_law_weighs) (by decide +kernel)) (fun _ _ _ _ _ => (pg_tup rfl (pgs_cons (pg_name (i := 4) scLweighs.nd rfl (Or.inl rfl)) (pgs_cons (pg_name (i := 5) scLweighs.nd rfl (Or.inl rfl)) (pgs_cons (pg_name (i := 6) scLweighs.nd rfl (Or.inl rfl)) pgs_nil))))) (fun _ _ _ _ _ => pts_nil) (fun _ _ _ _ _ => (pe_and (pe_cmpR op_eq (pv 6) pe_int (nomark _)) (pe_one (pe_cmpR (show OpR _ (compareOp .In) (rIn K false) from op_in_seq) (pv 3) (pe_call G_law_come_to (hr.mono (by omega)) rfl R_law_come_to.m R_law_come_to.k R_law_come_to.b .nil pass0 (pa_cons (pv 0) (pa_cons (pv 5) pa_nil))) rfl))))) pa_nil))) (pss_one (ps_ret pe_non)) pss_nil)))
    (pss_cons (ps_set (i := 7) scLweighs.nd rfl (Or.inr rfl) pe_dnewK)
    (pss_cons (ps_for PassesOwn.never rfl (pi_list (pv 2)) (pg_name (i := 3) scLweighs.nd rfl (Or.inr rfl)) (pss_one (ps_dput (hu_of hr) (pv 7) (pv 3) pe_int rfl)))
    (pss_cons (ps_for PassesOwn.never rfl (pi_range1 rfl T.m_range (pa_cons (pe_callB call_len_seq (by rfl) T.m_len PySem.boot_len (pa_cons (pv 2) pa_nil)) pa_nil)) (pg_name (i := 8) scLweighs.nd rfl (Or.inl rfl)) (pss_one (ps_for PassesOwn.never rfl (pi_list (pv 2)) (pg_name (i := 3) scLweighs.nd rfl (Or.inr rfl)) (pss_one (ps_dput (hu_of hr) (pv 7) (pv 3) (pe_callB (cr_max rfl) (by rfl) T.m_max (by decide +kernel) (pa_cons (pe_op op_cat (pe_lst (pa_cons pe_int pa_nil)) (pe_lc (own := [("place", 4), ("g", 5), ("weight", 6)]) (g := gTup K 3 (gCons (gName 4) (gCons (gName 5) (gCons (gName 6) gNil)))) (by rfl) scLweighs.nd (pi_list (pe_dget (hu_of hr) (pv 0) (pv 3) (fun _ _ => rfl))) (blkOk_by (own := [("place", 4), ("g", 5), ("weight", 6)]) (N := ["asks", "f", "some", "name", "place", "g", "weight", "levels", "turn"]) (sc := defScope s_law_weighs) (by decide +kernel)) (fun _ _ _ _ _ => (pg_tup rfl (pgs_cons (pg_name (i := 4) scLweighs.nd rfl (Or.inl rfl)) (pgs_cons (pg_name (i := 5) scLweighs.nd rfl (Or.inl rfl)) (pgs_cons (pg_name (i := 6) scLweighs.nd rfl (Or.inl rfl)) pgs_nil))))) (fun _ _ _ _ _ => pts_nil) (fun _ _ _ _ _ => (pe_op op_add (pe_dget (hu_of hr) (pv 7) (pv 5) (fun _ _ => rfl)) (pv 6))))) pa_nil)) rfl)))))
    (pss_one (ps_ret (pe_dget (hu_of hr) (pv 7) (pv 1) (fun _ _ => rfl))))))))), ?_⟩
  have hw1 : ∀ a ∈ asksB es, a.2.2 ≤ 1 := asksB_w
  refine ⟨_, rfl, _, rfl, D, es, kvs, nm, rfl, hB, hf, fun Ls H1 N hLs s1 h1 hnd hso hmem hl6 => ?_⟩
  have hB1 := hB.same s1
  have hNM : ∀ n ∈ N, n ∈ es.map (·.1) := fun n hn => rch_in hf hB.tg ((hmem n).mp hn)
  have hcl : Cl (asksB es) N := cl_rch hmem
  have hfN : nm ∈ N := (hmem nm).mpr ⟨[], .nil⟩
  refine ⟨_, rfl, Ls, rfl, ⟨_, SqL.of h1⟩, for_list (K := K) (a := Ls) (xs := N.map V.str) (fun i σ H' => ∃ (o3 o4 o5 o6 : Option V), σ = [some (.ref D), some (.str nm), some (.ref Ls), o3, o4, o5, o6, none, none] ∧ Same H1 H' ∧ ∀ (j : Nat) n, j < i → N[j]? = some n → ∀ a ∈ asksB es, a.1.1 = n → 0 < a.2.2 → ¬ Rch (asksB es) a.2.1 n) ⟨_, _, _, _, rfl, Same.refl _, fun j n hj => absurd hj (Nat.not_lt_zero j)⟩ ?_ ?_ ?_⟩
  · rintro i σ H' _ ⟨o3, o4, o5, o6, rfl, s2, _⟩
    exact SqL.of (s2 _ _ h1)
  · rintro i x σ H2 hx ⟨o3, o4, o5, o6, rfl, s2, hno⟩
    obtain ⟨n, hn, rfl⟩ := Option.map_eq_some_iff.mp (by rw [List.getElem?_map] at hx; exact hx)
    have hnN := mem_of_get hn
    have hB2 := hB1.same s2
    obtain ⟨e, la, vl, he, hen, hg, hla, hal⟩ := hB2.at (hNM n hnN)
    have hvl := hal.len
    refine ⟨_, rfl, _, rfl, D, .ref la, rfl, DGet.at hB2.rd hg, la, rfl, ⟨_, SqL.of hla⟩, fun D2 hD2 => lc_list (K := K) (a := la) (xs := vl) (fun i H' => Same H2 H' ∧ H' D2 = some (.lst ((((asksE e).take i).map (ringB (asksB es) n)).map V.bl))) ⟨same_new hD2 _, upd_same⟩ ?_ ?_ ?_⟩
    · rintro i H' _ ⟨s3, _⟩
      exact SqL.of (s3 _ _ hla)
    · rintro j x H3 hx3 ⟨s3, h3⟩
      obtain ⟨a, ha, tb, qc, rfl, hb1, hb2⟩ := hal.get hx3
      obtain ⟨hj, haj⟩ := List.getElem?_eq_some_iff.mp ha
      have haE := mem_of_get ha
      have haA := asks_in he haE
      refine ⟨tb, _, rfl, SqT.of (s3 _ _ hb1), rfl, _, _, rfl, _, _, rfl, _, _, rfl, rfl, rfl, ?_⟩
      dsimp only [tYes]
      refine iteT ?_
      refine ⟨_, rfl, rfl, _, rfl, ?_⟩
      have hst : ((asksE e).take (j + 1)).map (ringB (asksB es) n) = ((asksE e).take j).map (ringB (asksB es) n) ++ [ringB (asksB es) n a] := by
        rw [List.take_succ_eq_append_getElem hj, haj, List.map_append]
        rfl
      have hlt : ∀ y : List Bool, (y.map V.bl).length = y.length := fun y => List.length_map ..
      have hle : (((asksE e).take j).map (ringB (asksB es) n)).length ≤ 300 := by
        have := (hB.ws e he).2
        rw [List.length_map, List.length_take]
        omega
      refine ite2 (fun c => ?_) (fun c => ?_)
      · have hw : a.2.2 = 1 := by
          have : V.int (a.2.2 : Int) = V.int 1 := of_decide_eq_true c
          have := V.int.inj this
          omega
        refine ⟨_, rfl, _, rfl, _, rfl, D, es, kvs, a.2.1, rfl, hB2.same s3, hB.tg a haA, fun L4 H4 N4 hL4 s4 h4 nd4 so4 mem4 l64 => ⟨L4, N4.map V.str, rfl, .inl (SqL.of h4), rfl, flat_strs _, _, s4 _ _ h3, Nat.lt_of_le_of_lt (m := 300) (by rw [hlt]; exact hle) (by decide), same_mut (s3.trans s4) hD2, ?_⟩⟩
        rw [upd_same, hst, List.map_append]
        have eb : ringB (asksB es) n a = inV (.str n) (N4.map V.str) := by
          by_cases z : n ∈ N4
          · rw [inV_mem z, ringB_iff.mpr ⟨hw, (mem4 n).mp z⟩]
          · rw [inV_not z]
            cases z2 : ringB (asksB es) n a with
            | false => rfl
            | true => exact absurd ((mem4 n).mpr (ringB_iff.mp z2).2) z
        rw [eb]
        rfl
      · refine ⟨_, h3, Nat.lt_of_le_of_lt (m := 300) (by rw [hlt]; exact hle) (by decide), same_mut s3 hD2, ?_⟩
        rw [upd_same, hst, List.map_append]
        have eb : ringB (asksB es) n a = false := by
          cases z2 : ringB (asksB es) n a with
          | false => rfl
          | true => exact absurd (decide_eq_true (show V.int (a.2.2 : Int) = V.int 1 by rw [(ringB_iff.mp z2).1]; rfl)) c
        rw [eb]
        rfl
    · rintro H3 ⟨s3, h3⟩
      rw [hvl, List.take_length] at h3
      refine ⟨D2, (asksE e).map (ringB (asksB es) n), rfl, SqL.of h3, _, rfl, ?_⟩
      refine ite2 (fun c => ?_) (fun c => ?_)
      · have c' : ((asksE e).map (ringB (asksB es) n)).any id = true := c
        obtain ⟨b, hb, hb2⟩ := List.any_eq_true.mp c'
        obtain ⟨a, ha, rfl⟩ := List.mem_map.mp hb
        obtain ⟨r1, r2⟩ := ringB_iff.mp hb2
        have han : a.1.1 = n := (asksE_nm ha).1.trans hen
        exact qn ⟨a, asks_in he ha, by omega, by rw [han]; exact (hmem n).mp hnN, by rw [han]; exact r2⟩ H3 ((s1.trans s2).trans s3)
      · refine ⟨_, _, _, _, rfl, s2.trans s3, fun j n' hj hn' a ha han hw hr => ?_⟩
        by_cases e1 : j = i
        · rw [e1, hn] at hn'
          cases hn'
          have haE := asks_of hB.nd he ha (han.trans hen.symm)
          have := hw1 a ha
          exact c (List.any_eq_true.mpr ⟨_, List.mem_map.mpr ⟨a, haE, rfl⟩, ringB_iff.mpr ⟨by omega, hr⟩⟩)
        · exact hno j n' (by omega) hn' a ha han hw hr
  · rintro σ H2 ⟨o3, o4, o5, o6, rfl, s2, hno⟩
    rw [List.length_map] at hno
    have hnr : NR (asksB es) N := fun a ha hw hs r hr => by
      obtain ⟨j, hj, e⟩ := List.getElem_of_mem hs
      exact hno j _ hj (by rw [List.getElem?_eq_getElem hj, e]) a ha rfl hw ⟨r, hr⟩
    have hring : ¬ RingA (asksB es) nm := fun ⟨a, ha, hw, h1, r, hr⟩ => hnr a ha hw ((hmem _).mpr h1) r hr
    refine fun Dv hDv => ?_
    have s3 := same_new hDv (.dK [])
    have hH1 := (s2.trans s3)
    refine ⟨_, rfl, Ls, rfl, ⟨_, SqL.of (hH1 _ _ h1)⟩, for_list (K := K) (a := Ls) (xs := N.map V.str) (fun i σ H' => ∃ (o3 : Option V), σ = [some (.ref D), some (.str nm), some (.ref Ls), o3, o4, o5, o6, some (.ref Dv), none] ∧ Same H2 H' ∧ H' Dv = some (.dK (LvK (N.take i) fun _ => 0))) ⟨_, rfl, s3, by rw [List.take_zero]; exact upd_same⟩ ?_ ?_ ?_⟩
    · rintro i σ H' _ ⟨o3, rfl, s4, _⟩
      exact SqL.of (s4 _ _ (s2 _ _ h1))
    · rintro i x σ H4 hx ⟨o3, rfl, s4, h4⟩
      obtain ⟨n, hn, rfl⟩ := Option.map_eq_some_iff.mp (by rw [List.getElem?_map] at hx; exact hx)
      obtain ⟨hi, hni⟩ := List.getElem?_eq_some_iff.mp hn
      have hl4 : (LvK (N.take i) fun _ => 0).length ≤ 6 := by
        unfold LvK
        rw [List.length_map, List.length_take]
        omega
      refine ⟨_, rfl, _, rfl, Dv, _, rfl, DPut.k (k := .inr n) h4 (Nat.lt_of_le_of_lt hl4 (by decide)), ?_⟩
      refine ⟨_, rfl, same_mut s4 hDv, ?_⟩
      rw [upd_same, putK_new, List.take_succ_eq_append_getElem hi, hni]
      · unfold LvK
        rw [List.map_append]
        rfl
      · rw [LvK.keys]
        intro z
        obtain ⟨y, hy, e⟩ := List.mem_map.mp z
        have e' : y = n := Sum.inr.inj e
        obtain ⟨k, hk, e3⟩ := List.getElem_of_mem hy
        rw [List.getElem_take] at e3
        rw [List.length_take] at hk
        have hk' : k < N.length := by omega
        have : N[k]'hk' = N[i]'hi := by rw [e3, hni, e']
        have := (List.getElem_inj hnd).mp this
        omega
    · rintro σ H4 ⟨o3, rfl, s4, h4⟩
      rw [List.length_map, List.take_length] at h4
      have s14 := s2.trans s4
      have h14 := s14 _ _ h1
      refine ⟨_, rfl, Ls, _, rfl, .inl (SqL.of h14), _, rfl, ?_⟩
      refine ⟨by omega, by rw [List.length_map]; omega, ?_⟩
      have hnl : (((N.map V.str).length : Nat) : Int).toNat = N.length := by
        rw [Int.toNat_natCast, List.length_map]
      refine for_range (lo := 0) (n := (((N.map V.str).length : Nat) : Int).toNat) (fun i σ H' => ∃ (o3 o4 o5 o6 o8 : Option V) (lv : Str → Nat), σ = [some (.ref D), some (.str nm), some (.ref Ls), o3, o4, o5, o6, some (.ref Dv), o8] ∧ Same H2 H' ∧ H' Dv = some (.dK (LvK N lv)) ∧ Rnd (asksB es) N i lv) ?_ ?_ ?_
      · exact ⟨_, _, _, _, _, _, rfl, s4, h4, Rnd.zero _ _⟩
      · rintro k σ H5 hk ⟨o3, o4, o5, o6, o8, lv0, rfl, s5, h5, rnd⟩
        refine ⟨_, rfl, Ls, rfl, ⟨_, SqL.of ((s2.trans s5) _ _ h1)⟩, for_list (K := K) (a := Ls) (xs := N.map V.str) (fun i σ H' => ∃ (o3 o4 o5 o6 : Option V) (lv : Str → Nat), σ = [some (.ref D), some (.str nm), some (.ref Ls), o3, o4, o5, o6, some (.ref Dv), some (.int (0 + k))] ∧ Same H2 H' ∧ H' Dv = some (.dK (LvK N lv)) ∧ Mid (asksB es) N k i lv) ⟨_, _, _, _, _, rfl, s5, h5, rnd.mid⟩ ?_ ?_ ?_⟩
        · rintro i σ H' _ ⟨o3, o4, o5, o6, lv, rfl, s6, _⟩
          exact SqL.of ((s2.trans s6) _ _ h1)
        · rintro i x σ H6 hx ⟨o3, o4, o5, o6, lv, rfl, s6, h6, mid⟩
          obtain ⟨n, hn, rfl⟩ := Option.map_eq_some_iff.mp (by rw [List.getElem?_map] at hx; exact hx)
          have hnN := mem_of_get hn
          have hB6 := hB1.same (s2.trans s6)
          obtain ⟨e, la, vl, he, hen, hg, hla, hal⟩ := hB6.at (hNM n hnN)
          have hvl := hal.len
          refine ⟨sz (by show 1 ≤ 100000; decide), fun p0 hp0 => ?_⟩
          have s7 := same_new hp0 (.lst [.int 0])
          have h70 : (upd H6 p0 (.lst [.int 0])) p0 = some (.lst [.int 0]) := upd_same
          have hla7 := s7 _ _ hla
          have h7 := s7 _ _ h6
          have hB7 := hB6.same s7
          have s67 := s6.trans s7
          generalize upd H6 p0 (.lst [.int 0]) = H7 at s7 h70 hla7 h7 hB7 s67
          refine ⟨_, rfl, _, rfl, D, .ref la, rfl, DGet.at hB7.rd hg, la, rfl, ⟨_, SqL.of hla7⟩, fun D2 hD2 => lc_list (K := K) (a := la) (xs := vl) (fun j H' => Same H7 H' ∧ H' D2 = some (.lst (((asksE e).take j).map fun a => V.int ((lv a.2.1 : Int) + (a.2.2 : Int))))) ⟨same_new hD2 _, upd_same⟩ ?_ ?_ ?_⟩
          · rintro j H' _ ⟨s8, _⟩
            exact SqL.of (s8 _ _ hla7)
          · rintro j x H8 hx8 ⟨s8, h8⟩
            obtain ⟨a, ha, tb, qc, rfl, hb1, hb2⟩ := hal.get hx8
            obtain ⟨hj, haj⟩ := List.getElem?_eq_some_iff.mp ha
            have haE := mem_of_get ha
            have haA := asks_in he haE
            have hgN : a.2.1 ∈ N := hcl a haA (by rw [(asksE_nm haE).1, hen]; exact hnN)
            refine ⟨tb, _, rfl, SqT.of (s8 _ _ (s7 _ _ hb1)), rfl, _, _, rfl, _, _, rfl, _, _, rfl, rfl, rfl, ?_⟩
            dsimp only [tYes]
            refine iteT ?_
            refine ⟨_, rfl, _, rfl, Dv, _, rfl, by rw [← lvK_val hgN]; exact DGet.k (k := .inr a.2.1) (s8 _ _ h7), _, rfl, _, _, rfl, rfl, _, h8, Nat.lt_of_le_of_lt (m := 300) ?_ (by decide), same_mut s8 hD2, ?_⟩
            · rw [List.length_map, List.length_take]
              have := (hB.ws e he).2
              omega
            · rw [upd_same, List.take_succ_eq_append_getElem hj, haj, List.map_append]
              rfl
          · rintro H8 ⟨s8, h8⟩
            rw [hvl, List.take_length] at h8
            have hxl : ((asksE e).map fun a => V.int ((lv a.2.1 : Int) + (a.2.2 : Int))).length ≤ 300 := by
              rw [List.length_map]
              exact (hB.ws e he).2
            refine ⟨p0, D2, _, _, rfl, rfl, s8 _ _ h70, h8, Nat.le_trans (m := 301) (by rw [List.length_singleton]; omega) (by decide), fun p9 hp9 => ?_⟩
            have s9 := same_new hp9 (.lst ([V.int 0] ++ (asksE e).map fun a => V.int ((lv a.2.1 : Int) + (a.2.2 : Int))))
            have h9 : (upd H8 p9 (.lst ([V.int 0] ++ (asksE e).map fun a => V.int ((lv a.2.1 : Int) + (a.2.2 : Int))))) p9 = some (.lst ((0 :: (asksE e).map fun a => ((lv a.2.1 : Int) + (a.2.2 : Int))).map V.int)) := by
              rw [upd_same, List.map_cons, List.map_map]
              rfl
            have h97 := s9 _ _ (s8 _ _ h7)
            have s69 := (s67.trans s8).trans s9
            generalize upd H8 p9 (.lst ([V.int 0] ++ (asksE e).map fun a => V.int ((lv a.2.1 : Int) + (a.2.2 : Int)))) = H9 at s9 h9 h97 s69
            refine ⟨p9, _, rfl, SqL.of h9, by rw [List.length_cons]; omega, fun m hm hmax => ?_⟩
            have hm0 : 0 ≤ m := hmax 0 List.mem_cons_self
            obtain ⟨v, rfl⟩ : ∃ v : Nat, m = (v : Int) := ⟨m.toNat, by omega⟩
            have v1 : v = 0 ∨ ∃ a ∈ asksB es, a.1.1 = n ∧ v = lv a.2.1 + a.2.2 := by
              rcases List.mem_cons.mp hm with z | z
              · left; omega
              · obtain ⟨a, ha, e1⟩ := List.mem_map.mp z
                exact .inr ⟨a, asks_in he ha, (asksE_nm ha).1.trans hen, by omega⟩
            have v2 : ∀ a ∈ asksB es, a.1.1 = n → lv a.2.1 + a.2.2 ≤ v := fun a ha e1 => by
              have := hmax _ (List.mem_cons_of_mem _ (List.mem_map.mpr ⟨a, asks_of hB.nd he ha (e1.trans hen.symm), rfl⟩))
              omega
            have hl9 : (LvK N lv).length ≤ 6 := by
              unfold LvK
              rw [List.length_map]
              omega
            refine ⟨_, rfl, _, rfl, Dv, _, rfl, DPut.k (k := .inr n) h97 (Nat.lt_of_le_of_lt hl9 (by decide)), ?_⟩
            rw [lvK_put hnN]
            have hDv2 : H2 Dv = none := hDv
            exact ⟨_, _, _, _, setL lv n v, rfl, same_mut s69 hDv2, upd_same, mid.step hcl hn v1 v2⟩
        · rintro σ H6 ⟨o3, o4, o5, o6, lv, rfl, s6, h6, mid⟩
          rw [List.length_map] at mid
          exact ⟨_, _, _, _, _, lv, rfl, s6, h6, mid.fin⟩
      · rintro σ H5 ⟨o3, o4, o5, o6, o8, lv, rfl, s5, h5, rnd⟩
        rw [hnl] at rnd
        refine ⟨_, rfl, _, rfl, Dv, _, rfl, by rw [← lvK_val hfN]; exact DGet.k (k := .inr nm) h5, ?_⟩
        exact qm hring H5 (lv nm) ((s1.trans s2).trans s5) (rnd.max hcl hnr hfN)
end
end KB

set_option pp.maxSteps 400
namespace KB
open PySem L2 HT LamX NdefX

theorem all_true : ∀ n : Nat, (List.replicate n true).all id = true
  | 0 => rfl
  | n + 1 => by
    rw [List.replicate_succ, List.all_cons, all_true n]
    rfl
theorem sIx_one (x : V) (r : List V) : HT.sIx (x :: r).length 0 (some 1) = 1 := by
  show min 1 (r.length + 1) = 1
  omega
theorem cut_one (x : V) (r : List V) : cutV (x :: r) (some 1) none = r := by
  unfold cutV
  rw [sIx_one]
  show List.take (r.length + 1 - 1) r = r
  rw [Nat.add_sub_cancel, List.take_length]
section
variable {P : Program} {w : World} {K : PySem.W.Frag} {mg : Str → Option Value} {base : Heap}
/-! ### _law_is_ring -/
def spRing : Sp := fun vs H Q _ => ∃ (D l1 l2 : Addr) (es : List TEr) (kvs : List (L2.Key × V)) (f g : Str) (r1 r2 : List Ak) (v1 v2 : List V), vs = [.ref D, .str f, .ref l1, .ref l2] ∧ LB H D es kvs ∧ H l1 = some (.lst v1) ∧ All2 (PlcV H) (r1.map (·.1)) v1 ∧ Row (asksB es) f r1 g ∧
  H l2 = some (.lst v2) ∧ All2 (PlcV H) (r2.map (·.1)) v2 ∧ Row (asksB es) g r2 g ∧ 0 < wtR r2 ∧ ∀ H', Same H H' → Q (.bl true) H'
abbrev s_law_is_ring : Stmt := top 59
theorem scLis_ring : FnScope ["asks", "f", "lead", "ring", "g"] ["asks", "f", "lead", "ring"] (defScope s_law_is_ring) := ⟨rfl, rfl, rfl, by decide +kernel, rfl, by decide +kernel, by decide +kernel⟩
theorem ok_ring (T : Txt K mg) {f f1 : Addr} {fd d1 : FuncData} (F : Fun K "_law_is_ring" "_law_is_ring" s_law_is_ring f fd) (G_law_row_end : FnOk P w K mg base CX0 1 f1 d1 ["asks", "f", "row"] spRowEnd) (R_law_row_end : Ref K mg "_law_row_end" f1 d1 ["asks", "f", "row"]) : FnOk P w K mg base CX0 2 f fd ["asks", "f", "lead", "ring"] spRing := by
  refine F.ok scLis_ring (fun vs H Q E h => ?_) (fun cdv A outer s H vs Q E hr h => ?_)
  · obtain ⟨D, l1, l2, es, kvs, nm, g, r1, r2, v1, v2, rfl, _⟩ := h
    rfl
  obtain ⟨D, l1, l2, es, kvs, nm, g, r1, r2, v1, v2, rfl, hB, h1, p1, w1, h2, p2, w2, hw, q⟩ := h
  refine ⟨_, (pss_cons (ps_set (i := 4) scLis_ring.nd rfl (Or.inl rfl) (pe_ix ix_tup (pe_call G_law_row_end (hr.mono (by omega)) rfl R_law_row_end.m R_law_row_end.k R_law_row_end.b .nil pass0 (pa_cons (pv 0) (pa_cons (pv 1) (pa_cons (pv 2) pa_nil)))) pe_int (fun _ _ => rfl)))
    (pss_cons (ps_if (pt_cmpR op_isN (pv 4) pe_non (nomark _)) (pss_one (ps_ret pe_bl)) pss_nil)
    (pss_one (ps_ret (pe_and (pe_cmpR op_eq (pe_ix ix_tup (pe_call G_law_row_end (hr.mono (by omega)) rfl R_law_row_end.m R_law_row_end.k R_law_row_end.b .nil pass0 (pa_cons (pv 0) (pa_cons (pv 4) (pa_cons (pv 3) pa_nil)))) pe_int (fun _ _ => rfl)) (pv 4) (nomark _)) (pe_one (pe_cmpR op_gt (pe_ix ix_tup (pe_call G_law_row_end (hr.mono (by omega)) rfl R_law_row_end.m R_law_row_end.k R_law_row_end.b .nil pass0 (pa_cons (pv 0) (pa_cons (pv 4) (pa_cons (pv 3) pa_nil)))) pe_int (fun _ _ => rfl)) pe_int (nomark _)))))))), ?_⟩
  refine ⟨_, rfl, _, rfl, _, rfl, D, l1, es, kvs, nm, g, r1, v1, rfl, hB.rd, hB.la, hB.nd, hB.ws, hB.as, h1, p1, w1, fun t3 H3 s3 h3 => ⟨t3, _, _, _, rfl, rfl, SqT.of h3, at0, ?_⟩⟩
  refine ⟨_, rfl, rfl, _, rfl, itF rfl ?_⟩
  have hB3 := hB.same s3
  refine ⟨_, rfl, _, rfl, _, rfl, D, l2, es, kvs, g, g, r2, v2, rfl, hB3.rd, hB3.la, hB.nd, hB.ws, hB.as, s3 _ _ h2, p2.imp fun _ _ z => z.tk (tk_same s3), w2, fun t4 H4 s4 h4 => ⟨t4, _, _, _, rfl, rfl, SqT.of h4, at0, ?_⟩⟩
  refine ⟨_, rfl, rfl, _, rfl, itT (decide_eq_true rfl) ?_⟩
  have hB4 := hB3.same s4
  have s34 := s3.trans s4
  refine ⟨_, rfl, _, rfl, _, rfl, D, l2, es, kvs, g, g, r2, v2, rfl, hB4.rd, hB4.la, hB.nd, hB.ws, hB.as, s34 _ _ h2, p2.imp fun _ _ z => z.tk (tk_same s34), w2, fun t5 H5 s5 h5 => ⟨t5, _, _, _, rfl, rfl, SqT.of h5, at1, ?_⟩⟩
  refine ⟨_, _, rfl, rfl, ?_⟩
  show Q (.bl (decide ((0 : Int) < (wtR r2 : Int)))) H5
  rw [decide_eq_true (show (0 : Int) < (wtR r2 : Int) by omega)]
  exact q H5 ((s3.trans s4).trans s5)
/-! ### _law_whole, _law_are_places -/
/-! ### _law_is_most -/
end
end KB

set_option pp.maxSteps 400
namespace KB
open PySem L2 HT LamX NdefX
namespace PA

/-- an errand's name and its asks -/
abbrev PEr := Str × List Ak
def pB (es : List PEr) : List Ak := (es.map (·.2)).flatten
theorem pB_er {es : List PEr} (nm : ∀ e ∈ es, ∀ a ∈ e.2, a.1.1 = e.1 ∧ a.2.2 ≤ 1) {a : Ak} (h : a ∈ pB es) : ∃ e ∈ es, a ∈ e.2 ∧ e.1 = a.1.1 := by
  obtain ⟨l, hl, hb2⟩ := List.mem_flatten.mp h
  obtain ⟨e2, he2, rfl⟩ := List.mem_map.mp hl
  exact ⟨e2, he2, hb2, (nm e2 he2 a hb2).1.symm⟩
def LaE (H : Hp) (e : PEr) (kv : L2.Key × V) : Prop := kv.1 = .inr e.1 ∧ ∃ l vs, kv.2 = .ref l ∧ H l = some (.lst vs) ∧ All2 (AtV H) (e.2) vs
def LaL (H : Hp) : List PEr → List (L2.Key × V) → Prop
  | [], [] => True
  | x :: xs, kv :: kvs => LaE H x kv ∧ LaL H xs kvs
  | _, _ => False
theorem LaL.mono {H H' : Hp} (k : ∀ l vs, H l = some (.lst vs) → H' l = some (.lst vs)) (t : TK H H') : ∀ {es : List PEr} {kvs : List (L2.Key × V)}, LaL H es kvs → LaL H' es kvs
  | [], [], _ => trivial
  | _ :: _, _ :: _, ⟨⟨e, l, vs, h1, h2, h3⟩, r⟩ => ⟨⟨e, l, vs, h1, k _ _ h2, h3.imp fun _ _ z => z.tk t⟩, r.mono k t⟩
  | [], _ :: _, h => h.elim
  | _ :: _, [], h => h.elim
theorem LaL.app {H : Hp} {e : PEr} {kv : L2.Key × V} (s : LaE H e kv) : ∀ {es : List PEr} {kvs : List (L2.Key × V)}, LaL H es kvs → LaL H (es ++ [e]) (kvs ++ [kv])
  | [], [], _ => ⟨s, trivial⟩
  | _ :: _, _ :: _, ⟨y, r⟩ => ⟨y, r.app s⟩
  | [], _ :: _, h => h.elim
  | _ :: _, [], h => h.elim
theorem LaL.keys {H : Hp} : ∀ {es : List PEr} {kvs : List (L2.Key × V)}, LaL H es kvs → kvs.map (·.1) = es.map fun x => (.inr x.1 : L2.Key)
  | [], [], _ => rfl
  | _ :: _, _ :: _, ⟨y, r⟩ => by rw [List.map_cons, List.map_cons, y.1, r.keys]
  | [], _ :: _, h => h.elim
  | _ :: _, [], h => h.elim
theorem LaL.len {H : Hp} {es : List PEr} {kvs : List (L2.Key × V)} (h : LaL H es kvs) : kvs.length = es.length := by
  have := congrArg List.length h.keys
  rwa [List.length_map, List.length_map] at this
theorem LaL.there {H : Hp} : ∀ {es : List PEr} {kvs : List (L2.Key × V)}, LaL H es kvs → ∀ {e : PEr}, (es.map (·.1)).Nodup → e ∈ es → ∃ kv, valV kvs (.inr e.1) = some kv.2 ∧ LaE H e kv
  | [], [], _, _, _, h => nomatch h
  | x :: es, kv :: kvs, ⟨y, r⟩, e, nd, h => by
    obtain ⟨n1, n2⟩ := List.nodup_cons.mp nd
    rcases List.mem_cons.mp h with z | z
    · refine ⟨kv, ?_, by rw [z]; exact y⟩
      unfold valV
      rw [List.find?_cons_of_pos (by exact decide_eq_true (by rw [y.1, z]))]
      rfl
    · obtain ⟨kv', a, b⟩ := r.there n2 z
      refine ⟨kv', ?_, b⟩
      unfold valV at a ⊢
      rw [List.find?_cons_of_neg]
      · exact a
      · intro c
        have e1 : kv.1 = .inr e.1 := of_decide_eq_true c
        rw [y.1] at e1
        exact n1 (List.mem_map.mpr ⟨e, z, (Sum.inr.inj e1).symm⟩)
  | [], _ :: _, h, _, _, _ => h.elim
  | _ :: _, [], h, _, _, _ => h.elim
/-! ### the law's asks -/
structure LB (H : Hp) (D : Addr) (es : List PEr) (kvs : List (L2.Key × V)) : Prop where
  rd : Rd H D (.dK kvs)
  la : LaL H es kvs
  nd : (es.map (·.1)).Nodup
  l6 : es.length ≤ 6
  ws : ∀ e ∈ es, isW e.1 = true ∧ (e.2).length ≤ 300
  as : ∀ a ∈ pB es, isW a.2.1 = true
  tg : ∀ a ∈ pB es, a.2.1 ∈ es.map (·.1)
  nm : ∀ e ∈ es, ∀ a ∈ e.2, a.1.1 = e.1 ∧ a.2.2 ≤ 1
theorem LB.w1 {H : Hp} {D : Addr} {es : List PEr} {kvs : List (L2.Key × V)} (h : LB H D es kvs) : ∀ a ∈ pB es, a.2.2 ≤ 1 := fun a ha => by
  obtain ⟨l, hl, hb2⟩ := List.mem_flatten.mp ha
  obtain ⟨e2, he2, rfl⟩ := List.mem_map.mp hl
  exact (h.nm e2 he2 a hb2).2
theorem LB.same {H H' : Hp} {D : Addr} {es : List PEr} {kvs : List (L2.Key × V)} (h : LB H D es kvs) (s : Same H H') : LB H' D es kvs :=
  ⟨rd_same s h.rd, h.la.mono (fun _ _ z => s _ _ z) (tk_same s), h.nd, h.l6, h.ws, h.as, h.tg, h.nm⟩
theorem LB.frz {H H' : Hp} {D : Addr} {es : List PEr} {kvs : List (L2.Key × V)} {od : Obj} (h : LB H D es kvs) (a : Off D H H') (e : H' D = some (.frz od (.dK kvs))) : LB H' D es kvs :=
  ⟨.inr ⟨od, e⟩, h.la.mono (fun _ _ z => a.lst h.rd z) (a.tk h.rd), h.nd, h.l6, h.ws, h.as, h.tg, h.nm⟩
theorem asks_of {es : List PEr} (nm : ∀ e ∈ es, ∀ a ∈ e.2, a.1.1 = e.1 ∧ a.2.2 ≤ 1) (nd : (es.map (·.1)).Nodup) {e : PEr} (he : e ∈ es) {a : Ak} (ha : a ∈ pB es) (h : a.1.1 = e.1) : a ∈ e.2 := by
  obtain ⟨e2, he2, h2, h3⟩ := pB_er nm ha
  have : e2 = e := by
    obtain ⟨i, hi, ei⟩ := List.getElem_of_mem he
    obtain ⟨j, hj, ej⟩ := List.getElem_of_mem he2
    by_cases c : i = j
    · subst c
      rw [← ei, ← ej]
    · exfalso
      have hn : (es.map (·.1))[i]'(by rw [List.length_map]; exact hi) = (es.map (·.1))[j]'(by rw [List.length_map]; exact hj) := by
        rw [List.getElem_map, List.getElem_map, ei, ej, h3, h]
      exact c ((List.getElem_inj nd).mp hn)
  rw [← this]
  exact h2
theorem asks_in {es : List PEr} {e : PEr} (he : e ∈ es) {a : Ak} (ha : a ∈ e.2) : a ∈ pB es := List.mem_flatten.mpr ⟨_, List.mem_map.mpr ⟨e, he, rfl⟩, ha⟩
theorem LB.at {H : Hp} {D : Addr} {es : List PEr} {kvs : List (L2.Key × V)} (h : LB H D es kvs) {n : Str} (hn : n ∈ es.map (·.1)) : ∃ (e : PEr) (l : Addr) (vl : List V), e ∈ es ∧ e.1 = n ∧ valV kvs (.inr n) = some (.ref l) ∧ H l = some (.lst vl) ∧ All2 (AtV H) (e.2) vl := by
  obtain ⟨e, he, rfl⟩ := List.mem_map.mp hn
  obtain ⟨kv, hval, hk1, l, vl, hkv2, hl, hla⟩ := h.la.there h.nd he
  exact ⟨e, l, vl, he, rfl, by rw [← hkv2]; exact hval, hl, hla⟩
theorem DGet.at {H : Hp} {D : Addr} {kvs : List (L2.Key × V)} {n : Str} {v : V} (r : Rd H D (.dK kvs)) (h : valV kvs (.inr n) = some v) : DGet H D (.str n) (some v) := by
  rw [← h]
  exact DGet.rk (k := .inr n) r
section
variable {P : Program} {w : World} {K : PySem.W.Frag} {mg : Str → Option Value} {base : Heap}
/-! ### _law_come_to -/
def spCome : Sp := fun vs H Q _ => ∃ (D : Addr) (es : List PEr) (kvs : List (L2.Key × V)) (f : Str), vs = [.ref D, .str f] ∧ LB H D es kvs ∧ f ∈ es.map (·.1) ∧
  ∀ L H' N, H L = none → Same H H' → H' L = some (.lst (N.map V.str)) → N.Nodup → PyProof.Rows.sortedS N = true → (∀ x, x ∈ N ↔ Rch (pB es) f x) → N.length ≤ 6 → Q (.ref L) H'
abbrev s_law_come_to : Stmt := top 56
theorem scLcome_to : FnScope ["asks", "f", "found", "name", "one", "ask"] ["asks", "f"] (defScope s_law_come_to) := ⟨rfl, rfl, rfl, by decide +kernel, rfl, by decide +kernel, by decide +kernel⟩
theorem ok_comeP (T : Txt K mg) (mso : mg "sorted" = none) {f : Addr} {fd : FuncData} (F : Fun K "_law_come_to" "_law_come_to" s_law_come_to f fd) : FnOk P w K mg base CX0 1 f fd ["asks", "f"] spCome := by
  refine F.ok scLcome_to (fun vs H Q E h => ?_) (fun cdv A outer s H vs Q E hr h => ?_)
  · obtain ⟨D, es, kvs, nm, rfl, _⟩ := h
    rfl
  obtain ⟨D, es, kvs, nm, rfl, hB, hf, q⟩ := h
  refine ⟨_, (pss_cons (ps_set (i := 2) scLcome_to.nd rfl (Or.inl rfl) (pe_lst (pa_cons (pv 1) pa_nil)))
    (pss_cons (ps_lockR (ps_for PassesOwn.never rfl (pi_keys (pv 0)) (pg_name (i := 3) scLcome_to.nd rfl (Or.inl rfl)) (pss_one (ps_for PassesOwn.never rfl (pi_list (pe_callTy call_list_of (by rfl) T.m_list (by decide +kernel) (pa_cons (pv 2) pa_nil))) (pg_name (i := 4) scLcome_to.nd rfl (Or.inl rfl)) (pss_one (ps_for PassesOwn.never rfl (pi_list (pe_dget (hu_of hr) (pv 0) (pv 4) (fun _ _ => rfl))) (pg_name (i := 5) scLcome_to.nd rfl (Or.inl rfl)) (pss_one (ps_if (pt_cmpR op_notIn_seq (pe_ix ix_tup (pv 5) pe_int (fun _ _ => rfl)) (pv 2) rfl) (pss_one (ps_expr (pe_bm PySem.F.plainAttrs_list PySem.F.slot_list_append PySem.F.type_list_append mt_append (pv 2) (pa_cons (pe_ix ix_tup (pv 5) pe_int (fun _ _ => rfl)) pa_nil)))) pss_nil))))))))
    (pss_one (ps_ret (pe_callB cr_sortedS (by rfl) mso (by decide +kernel) (pa_cons (pv 2) pa_nil)))))), ?_⟩
  have hml : (es.map (·.1)).length = es.length := List.length_map ..
  refine ⟨_, rfl, sz (by show 1 ≤ 100000; decide), fun Lf hLf => ?_⟩
  have s0 := same_new hLf (.lst [.str nm])
  have hL0 : (upd H Lf (.lst [.str nm])) Lf = some (.lst [.str nm]) := upd_same
  obtain ⟨oD, hoD⟩ := rd_some hB.rd
  have nLD : Lf ≠ D := fun z => by rw [z, hoD] at hLf; cases hLf
  have hB0 := hB.same s0
  have e0 : (upd H Lf (.lst [.str nm])) D = H D := upd_ne nLD.symm
  generalize upd H Lf (.lst [.str nm]) = H0 at s0 hL0 hB0 e0
  refine ⟨D, .dK kvs, hB0.rd, trivial, fun od H1 h1 f1 => ?_⟩
  have o1 : Off D H H1 := fun b o n h => by rw [f1 b n]; exact s0 _ _ h
  have hL1 : H1 Lf = some (.lst ([nm].map V.str)) := by rw [f1 _ nLD]; exact hL0
  refine ⟨_, rfl, D, od, rfl, .inl ⟨kvs, h1, for_it walk_keys (fun i σ H' => ∃ (o3 o4 o5 : Option V) (G : List Str), σ = [some (.ref D), some (.str nm), some (.ref Lf), o3, o4, o5] ∧ Off D H H' ∧ H' D = some (.frz od (.dK kvs)) ∧ H' Lf = some (.lst (G.map V.str)) ∧ Cm (pB es) (es.map (·.1)) nm i G) ?_ ?_ ?_ ?_⟩⟩
  · exact ⟨_, _, _, [nm], rfl, o1, h1, hL1, Cm.start hf⟩
  · rintro i σ H' _ ⟨o3, o4, o5, G, rfl, _, h, _⟩
    exact h
  · rintro i x σ H2 H3 hi ⟨o3, o4, o5, S, rfl, o2, d2, l2, cm⟩ ⟨rfl, k, v, hkv, rfl⟩
    refine ⟨_, rfl, Lf, S.map V.str, rfl, .inl (SqL.of l2), fun l hl => ?_⟩
    have nlD : l ≠ D := fun z => by rw [z, d2] at hl; cases hl
    have nll : l ≠ Lf := fun z => by rw [z, l2] at hl; cases hl
    have hlH : H l = none := o2.none nlD hl
    have s3 := same_new hl (.lst (S.map V.str))
    refine ⟨l, rfl, ⟨_, SqL.of upd_same⟩, for_list (K := K) (a := l) (xs := S.map V.str) (fun j σ H' => ∃ (o4 o5 : Option V) (G : List Str), σ = [some (.ref D), some (.str nm), some (.ref Lf), some (kV k), o4, o5] ∧ Off D H H' ∧ H' D = some (.frz od (.dK kvs)) ∧ H' Lf = some (.lst (G.map V.str)) ∧ H' l = some (.lst (S.map V.str)) ∧ Cn (pB es) (es.map (·.1)) nm S j G) ⟨_, _, S, rfl, o2.same s3, s3 _ _ d2, s3 _ _ l2, upd_same, cm.in_⟩ ?_ ?_ ?_⟩
    · rintro j σ H' _ ⟨o4, o5, G, rfl, _, _, _, h, _⟩
      exact SqL.of h
    · rintro j x σ H4 hx ⟨o4, o5, G, rfl, o4', d4, l4, m4, cn⟩
      obtain ⟨n, hn, rfl⟩ := Option.map_eq_some_iff.mp (by rw [List.getElem?_map] at hx; exact hx)
      have hnS := mem_of_get hn
      obtain ⟨e, la, vl, he, hen, hg, hla, hal⟩ := hB.at (cm.inn n hnS)
      have hvl := hal.len
      refine ⟨_, rfl, _, rfl, D, .ref la, rfl, DGet.at (.inr ⟨od, d4⟩) hg, la, rfl, ⟨_, SqL.of (o4'.lst hB.rd hla)⟩, for_list (K := K) (a := la) (xs := vl) (fun m σ H' => ∃ (o5 : Option V) (G : List Str), σ = [some (.ref D), some (.str nm), some (.ref Lf), some (kV k), some (.str n), o5] ∧ Off D H H' ∧ H' D = some (.frz od (.dK kvs)) ∧ H' Lf = some (.lst (G.map V.str)) ∧ H' l = some (.lst (S.map V.str)) ∧ Cn (pB es) (es.map (·.1)) nm S j G ∧ ∀ a ∈ (e.2).take m, a.2.1 ∈ G) ⟨_, G, rfl, o4', d4, l4, m4, cn, fun a h => by rw [List.take_zero] at h; cases h⟩ ?_ ?_ ?_⟩
      · rintro m σ H' _ ⟨o5, G, rfl, o5', _⟩
        exact SqL.of (o5'.lst hB.rd hla)
      · rintro m x σ H5 hx5 ⟨o5, G5, rfl, o5', d5, l5, m5, cn5, hall⟩
        obtain ⟨a, ha, tb, qc, rfl, hb1, hb2⟩ := hal.get hx5
        have hb1' := o5'.tk hB.rd _ _ hb1
        have haE := mem_of_get ha
        have haA := asks_in he haE
        have han : a.1.1 = n := (hB.nm _ he _ haE).1.trans hen
        have hst : (e.2).take (m + 1) = (e.2).take m ++ [a] := by
          obtain ⟨hm, ham⟩ := List.getElem?_eq_some_iff.mp ha
          rw [List.take_succ_eq_append_getElem hm, ham]
        refine ⟨_, rfl, tb, _, _, _, rfl, rfl, SqT.of hb1', at1, _, rfl, Lf, G5.map V.str, rfl, .inl (SqL.of l5), rfl, flat_strs _, _, rfl, ?_⟩
        by_cases c : a.2.1 ∈ G5
        · refine itF (by show (!inV _ _) = false; rw [inV_mem c]; rfl) ⟨_, G5, rfl, o5', d5, l5, m5, cn5, fun b hb => ?_⟩
          rw [hst] at hb
          rcases List.mem_append.mp hb with z | z
          · exact hall b z
          · rw [List.mem_singleton.mp z]; exact c
        · refine itT (by show (!inV _ _) = true; rw [inV_not c]; rfl) ?_
          have hlen := nodup_le cn5.nd cn5.inn
          have hml' := hB.l6
          refine ⟨_, rfl, .inl ⟨rfl, _, SqL.of l5⟩, _, rfl, tb, _, _, _, rfl, rfl, SqT.of hb1', at1, Lf, _, _, rfl, rfl, l5, Nat.lt_of_le_of_lt (m := 6) (by rw [List.length_map]; omega) (by decide), ?_⟩
          refine ⟨_, G5 ++ [a.2.1], rfl, o5'.mut hLf, by rw [upd_ne nLD.symm]; exact d5, by rw [upd_same, List.map_append]; rfl, by rw [upd_ne nll]; exact m5, cn5.ask haA (by rw [han]; exact hnS) (hB.tg a haA) c, fun b hb => ?_⟩
          rw [hst] at hb
          rcases List.mem_append.mp hb with z | z
          · exact List.mem_append_left _ (hall b z)
          · rw [List.mem_singleton.mp z]; exact List.mem_append_right _ List.mem_cons_self
      · rintro σ H5 ⟨o5, G5, rfl, o5', d5, l5, m5, cn5, hall⟩
        rw [hvl, List.take_length] at hall
        exact ⟨_, _, G5, rfl, o5', d5, l5, m5, cn5.next hn fun a ha e1 => hall a (asks_of hB.nm hB.nd he ha (e1.trans hen.symm))⟩
    · rintro σ H4 ⟨o4, o5, G, rfl, o4', d4, l4, m4, cn⟩
      rw [List.length_map] at cn
      exact ⟨_, _, _, G, rfl, o4', d4, l4, cn.out cm⟩
  · rintro σ H2 ⟨o3, o4, o5, G, rfl, o2, d2, l2, cm⟩
    rw [hB.la.len, ← hml] at cm
    have hlen := nodup_le cm.nd cm.inn
    have hl6 := hB.l6
    refine ⟨d2, fun H3 f3 e3 => ?_⟩
    have s3 : Same H H3 := o2.back f3 (e3.trans e0)
    have l3 : H3 Lf = some (.lst (G.map V.str)) := by rw [f3 _ nLD]; exact l2
    refine ⟨_, rfl, Lf, G, rfl, SqL.of l3, by omega, fun ys p hp hs hpn => ?_⟩
    have := hp.length_eq
    exact q p _ ys (none_back s3 hpn) (s3.trans (same_new hpn _)) upd_same (hp.nodup_iff.mpr cm.nd) hs (fun x => (hp.mem_iff).trans (cm.fin x)) (by omega)
end
section
variable {P : Program} {w : World} {K : PySem.W.Frag} {mg : Str → Option Value} {base : Heap}
/-! ### _law_weighs -/
def spWeighs : Sp := fun vs H Q _ => ∃ (D : Addr) (es : List PEr) (kvs : List (L2.Key × V)) (f : Str), vs = [.ref D, .str f] ∧ LB H D es kvs ∧ f ∈ es.map (·.1) ∧
  (RingA (pB es) f → ∀ H', Same H H' → Q .non H') ∧ (¬ RingA (pB es) f → ∀ H' (m : Nat), Same H H' → IsMax (pB es) f m → Q (.int (m : Int)) H')
abbrev s_law_weighs : Stmt := top 57
theorem scLweighs : FnScope ["asks", "f", "some", "name", "place", "g", "weight", "levels", "turn"] ["asks", "f"] (defScope s_law_weighs) := ⟨rfl, rfl, rfl, by decide +kernel, rfl, by decide +kernel, by decide +kernel⟩
theorem ok_weighsP (T : Txt K mg) (man : mg "any" = none) {f f1 : Addr} {fd d1 : FuncData} (F : Fun K "_law_weighs" "_law_weighs" s_law_weighs f fd) (G_law_come_to : FnOk P w K mg base CX0 1 f1 d1 ["asks", "f"] spCome) (R_law_come_to : Ref K mg "_law_come_to" f1 d1 ["asks", "f"]) : FnOk P w K mg base CX0 2 f fd ["asks", "f"] spWeighs := by
  refine F.ok scLweighs (fun vs H Q E h => ?_) (fun cdv A outer s H vs Q E hr h => ?_)
  · obtain ⟨D, es, kvs, nm, rfl, _⟩ := h
    rfl
  obtain ⟨D, es, kvs, nm, rfl, hB, hf, qn, qm⟩ := h
  refine ⟨_, (pss_cons (ps_set (i := 2) scLweighs.nd rfl (Or.inl rfl) (pe_call G_law_come_to (hr.mono (by omega)) rfl R_law_come_to.m R_law_come_to.k R_law_come_to.b .nil pass0 (pa_cons (pv 0) (pa_cons (pv 1) pa_nil))))
    (pss_cons (ps_for PassesOwn.never rfl (pi_list (pv 2)) (pg_name (i := 3) scLweighs.nd rfl (Or.inr rfl)) (pss_one (ps_if (pt_val (pe_callB (cr_any rfl) (by rfl) man (by decide +kernel) (pa_cons (pe_lc (own := [("place", 4), ("g", 5), ("weight", 6)]) (g := gTup K 3 (gCons (gName 4) (gCons (gName 5) (gCons (gName 6) gNil)))) (by rfl) scLweighs.nd (pi_list (pe_dget (hu_of hr) (pv 0) (pv 3) (fun _ _ => rfl))) (blkOk_by (own := [("place", 4), ("g", 5), ("weight", 6)]) (N := ["asks", "f", "some", "name", "place", "g", "weight", "levels", "turn"]) (sc := defScope s_law_weighs) (by decide +kernel)) (fun _ _ _ _ _ => (pg_tup rfl (pgs_cons (pg_name (i := 4) scLweighs.nd rfl (Or.inl rfl)) (pgs_cons (pg_name (i := 5) scLweighs.nd rfl (Or.inl rfl)) (pgs_cons (pg_name (i := 6) scLweighs.nd rfl (Or.inl rfl)) pgs_nil))))) (fun _ _ _ _ _ => pts_nil) (fun _ _ _ _ _ => (pe_and (pe_cmpR op_eq (pv 6) pe_int (nomark _)) (pe_one (pe_cmpR (show OpR _ (compareOp .In) (rIn K false) from op_in_seq) (pv 3) (pe_call G_law_come_to (hr.mono (by omega)) rfl R_law_come_to.m R_law_come_to.k R_law_come_to.b .nil pass0 (pa_cons (pv 0) (pa_cons (pv 5) pa_nil))) rfl))))) pa_nil))) (pss_one (ps_ret pe_non)) pss_nil)))
    (pss_cons (ps_set (i := 7) scLweighs.nd rfl (Or.inr rfl) pe_dnewK)
    (pss_cons (ps_for PassesOwn.never rfl (pi_list (pv 2)) (pg_name (i := 3) scLweighs.nd rfl (Or.inr rfl)) (pss_one (ps_dput (hu_of hr) (pv 7) (pv 3) pe_int rfl)))
    (pss_cons (ps_for PassesOwn.never rfl (pi_range1 rfl T.m_range (pa_cons (pe_callB call_len_seq (by rfl) T.m_len PySem.boot_len (pa_cons (pv 2) pa_nil)) pa_nil)) (pg_name (i := 8) scLweighs.nd rfl (Or.inl rfl)) (pss_one (ps_for PassesOwn.never rfl (pi_list (pv 2)) (pg_name (i := 3) scLweighs.nd rfl (Or.inr rfl)) (pss_one (ps_dput (hu_of hr) (pv 7) (pv 3) (pe_callB (cr_max rfl) (by rfl) T.m_max (by decide +kernel) (pa_cons (pe_op op_cat (pe_lst (pa_cons pe_int pa_nil)) (pe_lc (own := [("place", 4), ("g", 5), ("weight", 6)]) (g := gTup K 3 (gCons (gName 4) (gCons (gName 5) (gCons (gName 6) gNil)))) (by rfl) scLweighs.nd (pi_list (pe_dget (hu_of hr) (pv 0) (pv 3) (fun _ _ => rfl))) (blkOk_by (own := [("place", 4), ("g", 5), ("weight", 6)]) (N := ["asks", "f", "some", "name", "place", "g", "weight", "levels", "turn"]) (sc := defScope s_law_weighs) (by decide +kernel)) (fun _ _ _ _ _ => (pg_tup rfl (pgs_cons (pg_name (i := 4) scLweighs.nd rfl (Or.inl rfl)) (pgs_cons (pg_name (i := 5) scLweighs.nd rfl (Or.inl rfl)) (pgs_cons (pg_name (i := 6) scLweighs.nd rfl (Or.inl rfl)) pgs_nil))))) (fun _ _ _ _ _ => pts_nil) (fun _ _ _ _ _ => (pe_op op_add (pe_dget (hu_of hr) (pv 7) (pv 5) (fun _ _ => rfl)) (pv 6))))) pa_nil)) rfl)))))
    (pss_one (ps_ret (pe_dget (hu_of hr) (pv 7) (pv 1) (fun _ _ => rfl))))))))), ?_⟩
  have hw1 : ∀ a ∈ pB es, a.2.2 ≤ 1 := hB.w1
  refine ⟨_, rfl, _, rfl, D, es, kvs, nm, rfl, hB, hf, fun Ls H1 N hLs s1 h1 hnd hso hmem hl6 => ?_⟩
  have hB1 := hB.same s1
  have hNM : ∀ n ∈ N, n ∈ es.map (·.1) := fun n hn => rch_in hf hB.tg ((hmem n).mp hn)
  have hcl : Cl (pB es) N := cl_rch hmem
  have hfN : nm ∈ N := (hmem nm).mpr ⟨[], .nil⟩
  refine ⟨_, rfl, Ls, rfl, ⟨_, SqL.of h1⟩, for_list (K := K) (a := Ls) (xs := N.map V.str) (fun i σ H' => ∃ (o3 o4 o5 o6 : Option V), σ = [some (.ref D), some (.str nm), some (.ref Ls), o3, o4, o5, o6, none, none] ∧ Same H1 H' ∧ ∀ (j : Nat) n, j < i → N[j]? = some n → ∀ a ∈ pB es, a.1.1 = n → 0 < a.2.2 → ¬ Rch (pB es) a.2.1 n) ⟨_, _, _, _, rfl, Same.refl _, fun j n hj => absurd hj (Nat.not_lt_zero j)⟩ ?_ ?_ ?_⟩
  · rintro i σ H' _ ⟨o3, o4, o5, o6, rfl, s2, _⟩
    exact SqL.of (s2 _ _ h1)
  · rintro i x σ H2 hx ⟨o3, o4, o5, o6, rfl, s2, hno⟩
    obtain ⟨n, hn, rfl⟩ := Option.map_eq_some_iff.mp (by rw [List.getElem?_map] at hx; exact hx)
    have hnN := mem_of_get hn
    have hB2 := hB1.same s2
    obtain ⟨e, la, vl, he, hen, hg, hla, hal⟩ := hB2.at (hNM n hnN)
    have hvl := hal.len
    refine ⟨_, rfl, _, rfl, D, .ref la, rfl, DGet.at hB2.rd hg, la, rfl, ⟨_, SqL.of hla⟩, fun D2 hD2 => lc_list (K := K) (a := la) (xs := vl) (fun i H' => Same H2 H' ∧ H' D2 = some (.lst ((((e.2).take i).map (ringB (pB es) n)).map V.bl))) ⟨same_new hD2 _, upd_same⟩ ?_ ?_ ?_⟩
    · rintro i H' _ ⟨s3, _⟩
      exact SqL.of (s3 _ _ hla)
    · rintro j x H3 hx3 ⟨s3, h3⟩
      obtain ⟨a, ha, tb, qc, rfl, hb1, hb2⟩ := hal.get hx3
      obtain ⟨hj, haj⟩ := List.getElem?_eq_some_iff.mp ha
      have haE := mem_of_get ha
      have haA := asks_in he haE
      refine ⟨tb, _, rfl, SqT.of (s3 _ _ hb1), rfl, _, _, rfl, _, _, rfl, _, _, rfl, rfl, rfl, ?_⟩
      dsimp only [tYes]
      refine iteT ?_
      refine ⟨_, rfl, rfl, _, rfl, ?_⟩
      have hst : ((e.2).take (j + 1)).map (ringB (pB es) n) = ((e.2).take j).map (ringB (pB es) n) ++ [ringB (pB es) n a] := by
        rw [List.take_succ_eq_append_getElem hj, haj, List.map_append]
        rfl
      have hlt : ∀ y : List Bool, (y.map V.bl).length = y.length := fun y => List.length_map ..
      have hle : (((e.2).take j).map (ringB (pB es) n)).length ≤ 300 := by
        have := (hB.ws e he).2
        rw [List.length_map, List.length_take]
        omega
      refine ite2 (fun c => ?_) (fun c => ?_)
      · have hw : a.2.2 = 1 := by
          have : V.int (a.2.2 : Int) = V.int 1 := of_decide_eq_true c
          have := V.int.inj this
          omega
        refine ⟨_, rfl, _, rfl, _, rfl, D, es, kvs, a.2.1, rfl, hB2.same s3, hB.tg a haA, fun L4 H4 N4 hL4 s4 h4 nd4 so4 mem4 l64 => ⟨L4, N4.map V.str, rfl, .inl (SqL.of h4), rfl, flat_strs _, _, s4 _ _ h3, Nat.lt_of_le_of_lt (m := 300) (by rw [hlt]; exact hle) (by decide), same_mut (s3.trans s4) hD2, ?_⟩⟩
        rw [upd_same, hst, List.map_append]
        have eb : ringB (pB es) n a = inV (.str n) (N4.map V.str) := by
          by_cases z : n ∈ N4
          · rw [inV_mem z, ringB_iff.mpr ⟨hw, (mem4 n).mp z⟩]
          · rw [inV_not z]
            cases z2 : ringB (pB es) n a with
            | false => rfl
            | true => exact absurd ((mem4 n).mpr (ringB_iff.mp z2).2) z
        rw [eb]
        rfl
      · refine ⟨_, h3, Nat.lt_of_le_of_lt (m := 300) (by rw [hlt]; exact hle) (by decide), same_mut s3 hD2, ?_⟩
        rw [upd_same, hst, List.map_append]
        have eb : ringB (pB es) n a = false := by
          cases z2 : ringB (pB es) n a with
          | false => rfl
          | true => exact absurd (decide_eq_true (show V.int (a.2.2 : Int) = V.int 1 by rw [(ringB_iff.mp z2).1]; rfl)) c
        rw [eb]
        rfl
    · rintro H3 ⟨s3, h3⟩
      rw [hvl, List.take_length] at h3
      refine ⟨D2, (e.2).map (ringB (pB es) n), rfl, SqL.of h3, _, rfl, ?_⟩
      refine ite2 (fun c => ?_) (fun c => ?_)
      · have c' : ((e.2).map (ringB (pB es) n)).any id = true := c
        obtain ⟨b, hb, hb2⟩ := List.any_eq_true.mp c'
        obtain ⟨a, ha, rfl⟩ := List.mem_map.mp hb
        obtain ⟨r1, r2⟩ := ringB_iff.mp hb2
        have han : a.1.1 = n := (hB.nm _ he _ ha).1.trans hen
        exact qn ⟨a, asks_in he ha, by omega, by rw [han]; exact (hmem n).mp hnN, by rw [han]; exact r2⟩ H3 ((s1.trans s2).trans s3)
      · refine ⟨_, _, _, _, rfl, s2.trans s3, fun j n' hj hn' a ha han hw hr => ?_⟩
        by_cases e1 : j = i
        · rw [e1, hn] at hn'
          cases hn'
          have haE := asks_of hB.nm hB.nd he ha (han.trans hen.symm)
          have := hw1 a ha
          exact c (List.any_eq_true.mpr ⟨_, List.mem_map.mpr ⟨a, haE, rfl⟩, ringB_iff.mpr ⟨by omega, hr⟩⟩)
        · exact hno j n' (by omega) hn' a ha han hw hr
  · rintro σ H2 ⟨o3, o4, o5, o6, rfl, s2, hno⟩
    rw [List.length_map] at hno
    have hnr : NR (pB es) N := fun a ha hw hs r hr => by
      obtain ⟨j, hj, e⟩ := List.getElem_of_mem hs
      exact hno j _ hj (by rw [List.getElem?_eq_getElem hj, e]) a ha rfl hw ⟨r, hr⟩
    have hring : ¬ RingA (pB es) nm := fun ⟨a, ha, hw, h1, r, hr⟩ => hnr a ha hw ((hmem _).mpr h1) r hr
    refine fun Dv hDv => ?_
    have s3 := same_new hDv (.dK [])
    have hH1 := (s2.trans s3)
    refine ⟨_, rfl, Ls, rfl, ⟨_, SqL.of (hH1 _ _ h1)⟩, for_list (K := K) (a := Ls) (xs := N.map V.str) (fun i σ H' => ∃ (o3 : Option V), σ = [some (.ref D), some (.str nm), some (.ref Ls), o3, o4, o5, o6, some (.ref Dv), none] ∧ Same H2 H' ∧ H' Dv = some (.dK (LvK (N.take i) fun _ => 0))) ⟨_, rfl, s3, by rw [List.take_zero]; exact upd_same⟩ ?_ ?_ ?_⟩
    · rintro i σ H' _ ⟨o3, rfl, s4, _⟩
      exact SqL.of (s4 _ _ (s2 _ _ h1))
    · rintro i x σ H4 hx ⟨o3, rfl, s4, h4⟩
      obtain ⟨n, hn, rfl⟩ := Option.map_eq_some_iff.mp (by rw [List.getElem?_map] at hx; exact hx)
      obtain ⟨hi, hni⟩ := List.getElem?_eq_some_iff.mp hn
      have hl4 : (LvK (N.take i) fun _ => 0).length ≤ 6 := by
        unfold LvK
        rw [List.length_map, List.length_take]
        omega
      refine ⟨_, rfl, _, rfl, Dv, _, rfl, DPut.k (k := .inr n) h4 (Nat.lt_of_le_of_lt hl4 (by decide)), ?_⟩
      refine ⟨_, rfl, same_mut s4 hDv, ?_⟩
      rw [upd_same, putK_new, List.take_succ_eq_append_getElem hi, hni]
      · unfold LvK
        rw [List.map_append]
        rfl
      · rw [LvK.keys]
        intro z
        obtain ⟨y, hy, e⟩ := List.mem_map.mp z
        have e' : y = n := Sum.inr.inj e
        obtain ⟨k, hk, e3⟩ := List.getElem_of_mem hy
        rw [List.getElem_take] at e3
        rw [List.length_take] at hk
        have hk' : k < N.length := by omega
        have : N[k]'hk' = N[i]'hi := by rw [e3, hni, e']
        have := (List.getElem_inj hnd).mp this
        omega
    · rintro σ H4 ⟨o3, rfl, s4, h4⟩
      rw [List.length_map, List.take_length] at h4
      have s14 := s2.trans s4
      have h14 := s14 _ _ h1
      refine ⟨_, rfl, Ls, _, rfl, .inl (SqL.of h14), _, rfl, ?_⟩
      refine ⟨by omega, by rw [List.length_map]; omega, ?_⟩
      have hnl : (((N.map V.str).length : Nat) : Int).toNat = N.length := by
        rw [Int.toNat_natCast, List.length_map]
      refine for_range (lo := 0) (n := (((N.map V.str).length : Nat) : Int).toNat) (fun i σ H' => ∃ (o3 o4 o5 o6 o8 : Option V) (lv : Str → Nat), σ = [some (.ref D), some (.str nm), some (.ref Ls), o3, o4, o5, o6, some (.ref Dv), o8] ∧ Same H2 H' ∧ H' Dv = some (.dK (LvK N lv)) ∧ Rnd (pB es) N i lv) ?_ ?_ ?_
      · exact ⟨_, _, _, _, _, _, rfl, s4, h4, Rnd.zero _ _⟩
      · rintro k σ H5 hk ⟨o3, o4, o5, o6, o8, lv0, rfl, s5, h5, rnd⟩
        refine ⟨_, rfl, Ls, rfl, ⟨_, SqL.of ((s2.trans s5) _ _ h1)⟩, for_list (K := K) (a := Ls) (xs := N.map V.str) (fun i σ H' => ∃ (o3 o4 o5 o6 : Option V) (lv : Str → Nat), σ = [some (.ref D), some (.str nm), some (.ref Ls), o3, o4, o5, o6, some (.ref Dv), some (.int (0 + k))] ∧ Same H2 H' ∧ H' Dv = some (.dK (LvK N lv)) ∧ Mid (pB es) N k i lv) ⟨_, _, _, _, _, rfl, s5, h5, rnd.mid⟩ ?_ ?_ ?_⟩
        · rintro i σ H' _ ⟨o3, o4, o5, o6, lv, rfl, s6, _⟩
          exact SqL.of ((s2.trans s6) _ _ h1)
        · rintro i x σ H6 hx ⟨o3, o4, o5, o6, lv, rfl, s6, h6, mid⟩
          obtain ⟨n, hn, rfl⟩ := Option.map_eq_some_iff.mp (by rw [List.getElem?_map] at hx; exact hx)
          have hnN := mem_of_get hn
          have hB6 := hB1.same (s2.trans s6)
          obtain ⟨e, la, vl, he, hen, hg, hla, hal⟩ := hB6.at (hNM n hnN)
          have hvl := hal.len
          refine ⟨sz (by show 1 ≤ 100000; decide), fun p0 hp0 => ?_⟩
          have s7 := same_new hp0 (.lst [.int 0])
          have h70 : (upd H6 p0 (.lst [.int 0])) p0 = some (.lst [.int 0]) := upd_same
          have hla7 := s7 _ _ hla
          have h7 := s7 _ _ h6
          have hB7 := hB6.same s7
          have s67 := s6.trans s7
          generalize upd H6 p0 (.lst [.int 0]) = H7 at s7 h70 hla7 h7 hB7 s67
          refine ⟨_, rfl, _, rfl, D, .ref la, rfl, DGet.at hB7.rd hg, la, rfl, ⟨_, SqL.of hla7⟩, fun D2 hD2 => lc_list (K := K) (a := la) (xs := vl) (fun j H' => Same H7 H' ∧ H' D2 = some (.lst (((e.2).take j).map fun a => V.int ((lv a.2.1 : Int) + (a.2.2 : Int))))) ⟨same_new hD2 _, upd_same⟩ ?_ ?_ ?_⟩
          · rintro j H' _ ⟨s8, _⟩
            exact SqL.of (s8 _ _ hla7)
          · rintro j x H8 hx8 ⟨s8, h8⟩
            obtain ⟨a, ha, tb, qc, rfl, hb1, hb2⟩ := hal.get hx8
            obtain ⟨hj, haj⟩ := List.getElem?_eq_some_iff.mp ha
            have haE := mem_of_get ha
            have haA := asks_in he haE
            have hgN : a.2.1 ∈ N := hcl a haA (by rw [(hB.nm _ he _ haE).1, hen]; exact hnN)
            refine ⟨tb, _, rfl, SqT.of (s8 _ _ (s7 _ _ hb1)), rfl, _, _, rfl, _, _, rfl, _, _, rfl, rfl, rfl, ?_⟩
            dsimp only [tYes]
            refine iteT ?_
            refine ⟨_, rfl, _, rfl, Dv, _, rfl, by rw [← lvK_val hgN]; exact DGet.k (k := .inr a.2.1) (s8 _ _ h7), _, rfl, _, _, rfl, rfl, _, h8, Nat.lt_of_le_of_lt (m := 300) ?_ (by decide), same_mut s8 hD2, ?_⟩
            · rw [List.length_map, List.length_take]
              have := (hB.ws e he).2
              omega
            · rw [upd_same, List.take_succ_eq_append_getElem hj, haj, List.map_append]
              rfl
          · rintro H8 ⟨s8, h8⟩
            rw [hvl, List.take_length] at h8
            have hxl : ((e.2).map fun a => V.int ((lv a.2.1 : Int) + (a.2.2 : Int))).length ≤ 300 := by
              rw [List.length_map]
              exact (hB.ws e he).2
            refine ⟨p0, D2, _, _, rfl, rfl, s8 _ _ h70, h8, Nat.le_trans (m := 301) (by rw [List.length_singleton]; omega) (by decide), fun p9 hp9 => ?_⟩
            have s9 := same_new hp9 (.lst ([V.int 0] ++ (e.2).map fun a => V.int ((lv a.2.1 : Int) + (a.2.2 : Int))))
            have h9 : (upd H8 p9 (.lst ([V.int 0] ++ (e.2).map fun a => V.int ((lv a.2.1 : Int) + (a.2.2 : Int))))) p9 = some (.lst ((0 :: (e.2).map fun a => ((lv a.2.1 : Int) + (a.2.2 : Int))).map V.int)) := by
              rw [upd_same, List.map_cons, List.map_map]
              rfl
            have h97 := s9 _ _ (s8 _ _ h7)
            have s69 := (s67.trans s8).trans s9
            generalize upd H8 p9 (.lst ([V.int 0] ++ (e.2).map fun a => V.int ((lv a.2.1 : Int) + (a.2.2 : Int)))) = H9 at s9 h9 h97 s69
            refine ⟨p9, _, rfl, SqL.of h9, by rw [List.length_cons]; omega, fun m hm hmax => ?_⟩
            have hm0 : 0 ≤ m := hmax 0 List.mem_cons_self
            obtain ⟨v, rfl⟩ : ∃ v : Nat, m = (v : Int) := ⟨m.toNat, by omega⟩
            have v1 : v = 0 ∨ ∃ a ∈ pB es, a.1.1 = n ∧ v = lv a.2.1 + a.2.2 := by
              rcases List.mem_cons.mp hm with z | z
              · left; omega
              · obtain ⟨a, ha, e1⟩ := List.mem_map.mp z
                exact .inr ⟨a, asks_in he ha, (hB.nm _ he _ ha).1.trans hen, by omega⟩
            have v2 : ∀ a ∈ pB es, a.1.1 = n → lv a.2.1 + a.2.2 ≤ v := fun a ha e1 => by
              have := hmax _ (List.mem_cons_of_mem _ (List.mem_map.mpr ⟨a, asks_of hB.nm hB.nd he ha (e1.trans hen.symm), rfl⟩))
              omega
            have hl9 : (LvK N lv).length ≤ 6 := by
              unfold LvK
              rw [List.length_map]
              omega
            refine ⟨_, rfl, _, rfl, Dv, _, rfl, DPut.k (k := .inr n) h97 (Nat.lt_of_le_of_lt hl9 (by decide)), ?_⟩
            rw [lvK_put hnN]
            have hDv2 : H2 Dv = none := hDv
            exact ⟨_, _, _, _, setL lv n v, rfl, same_mut s69 hDv2, upd_same, mid.step hcl hn v1 v2⟩
        · rintro σ H6 ⟨o3, o4, o5, o6, lv, rfl, s6, h6, mid⟩
          rw [List.length_map] at mid
          exact ⟨_, _, _, _, _, lv, rfl, s6, h6, mid.fin⟩
      · rintro σ H5 ⟨o3, o4, o5, o6, o8, lv, rfl, s5, h5, rnd⟩
        rw [hnl] at rnd
        refine ⟨_, rfl, _, rfl, Dv, _, rfl, by rw [← lvK_val hfN]; exact DGet.k (k := .inr nm) h5, ?_⟩
        exact qm hring H5 (lv nm) ((s1.trans s2).trans s5) (rnd.max hcl hnr hfN)
end
end PA
end KB

set_option pp.maxSteps 400
namespace KB
open PySem L2 HT LamX NdefX

/-! ### plain asks, each by its place -/
abbrev Pk := List Int × Str × Nat
def ownA (h : Hd) (l : Bool) (pre : List Int) : List Pk := match h with | .ask f => [(pre, f, if l = true then 0 else 1)] | _ => []
def plA : Tm → Bool → List Int → List Pk
  | .mk h n k, l, pre => ownA h l pre ++ (List.ofFn fun i : _root_.Fin n => plA (k i) (hereH h l i.val) (pre ++ [(i.val : Int)])).flatten
def plAs (h : Hd) (l : Bool) (pre : List Int) : Nat → List Tm → List Pk
  | _, [] => []
  | i, t :: r => plA t (hereH h l i) (pre ++ [(i : Int)]) ++ plAs h l pre (i + 1) r
theorem plAs_fn {h : Hd} {l : Bool} {pre : List Int} : ∀ {n : Nat} {i0 : Nat} {k : _root_.Fin n → Tm}, plAs h l pre i0 (List.ofFn k) = (List.ofFn fun i : _root_.Fin n => plA (k i) (hereH h l (i0 + i.val)) (pre ++ [((i0 + i.val : Nat) : Int)])).flatten
  | 0, _, _ => rfl
  | n + 1, i0, k => by
    rw [List.ofFn_succ, List.ofFn_succ, List.flatten_cons]
    show plA (k 0) (hereH h l i0) (pre ++ [(i0 : Int)]) ++ plAs h l pre (i0 + 1) (List.ofFn fun i => k i.succ) = _
    rw [plAs_fn]
    congr 3
    funext i
    have e : i0 + (i.succ).val = i0 + 1 + i.val := by
      rw [_root_.Fin.val_succ]
      omega
    rw [e]
theorem plA_mk (t : Tm) (l : Bool) (pre : List Int) : plA t l pre = ownA (hdT t) l pre ++ plAs (hdT t) l pre 0 (kidsT t) := by
  cases t with
  | mk h n k =>
    show ownA h l pre ++ _ = ownA h l pre ++ plAs h l pre 0 (List.ofFn k)
    rw [plAs_fn]
    congr 3
    funext i
    rw [Nat.zero_add]
theorem plAs_take {h : Hd} {l : Bool} {pre : List Int} : ∀ {ts : List Tm} {i0 i : Nat} {t : Tm}, ts[i]? = some t → plAs h l pre i0 (ts.take (i + 1)) = plAs h l pre i0 (ts.take i) ++ plA t (hereH h l (i0 + i)) (pre ++ [((i0 + i : Nat) : Int)])
  | [], _, _, _, e => by simp at e
  | t0 :: r, i0, 0, t, e => by
    have : t0 = t := by simpa using e
    subst this
    show plA t0 (hereH h l i0) (pre ++ [(i0 : Int)]) ++ plAs h l pre (i0 + 1) (r.take 0) = [] ++ plA t0 (hereH h l (i0 + 0)) (pre ++ [((i0 + 0 : Nat) : Int)])
    rw [List.take_zero]
    exact List.append_nil _
  | t0 :: r, i0, i + 1, t, e => by
    show plA t0 (hereH h l i0) (pre ++ [(i0 : Int)]) ++ plAs h l pre (i0 + 1) (r.take (i + 1)) = (plA t0 (hereH h l i0) (pre ++ [(i0 : Int)]) ++ plAs h l pre (i0 + 1) (r.take i)) ++ _
    rw [plAs_take (ts := r) (i0 := i0 + 1) (i := i) (t := t) (by simpa using e), List.append_assoc, show i0 + 1 + i = i0 + (i + 1) by omega]
theorem ownA_B (h : Hd) (l : Bool) (pre : List Int) : (ownA h l pre).map (·.2) = ownB h l := by cases h <;> rfl
theorem plA_B : ∀ (t : Tm) (l : Bool) (pre : List Int), (plA t l pre).map (·.2) = plB t l
  | .mk h n k, l, pre => by
    show (ownA h l pre ++ (List.ofFn fun i : _root_.Fin n => plA (k i) (hereH h l i.val) (pre ++ [(i.val : Int)])).flatten).map (·.2) = ownB h l ++ (List.ofFn fun i : _root_.Fin n => plB (k i) (hereH h l i.val)).flatten
    rw [List.map_append, ownA_B, List.map_flatten, List.map_ofFn]
    congr 3
    funext i
    exact plA_B (k i) _ _
theorem ownB_len (h : Hd) (l : Bool) : (ownB h l).length ≤ 1 := by cases h <;> first | exact Nat.le_refl 1 | exact Nat.zero_le 1
theorem plB_len : ∀ (n : Nat) (t : Tm) (l : Bool), cnt t ≤ n → (plB t l).length ≤ cnt t
  | 0, t, _, h => by
    have := cnt_pos t
    omega
  | n + 1, t, l, h => by
    have hk := cnt_kids t
    have kd : ∀ u ∈ kidsT t, ∀ l, (plB u l).length ≤ cnt u := fun u hu l => plB_len n u l (by have := cnt_kid hu; omega)
    have go : ∀ (ts : List Tm) (i : Nat), (∀ u ∈ ts, ∀ l, (plB u l).length ≤ cnt u) → (plBs (hdT t) l i ts).length ≤ cnts ts := by
      intro ts
      induction ts with
      | nil => exact fun _ _ => Nat.zero_le _
      | cons u r ih =>
        intro i hu
        show (plB u _ ++ plBs (hdT t) l (i + 1) r).length ≤ _
        have h1 := hu u List.mem_cons_self (hereH (hdT t) l i)
        have h2 := ih (i + 1) fun x hx => hu x (List.mem_cons_of_mem _ hx)
        rw [List.length_append, cnts_cons]
        omega
    have h1 := go (kidsT t) 0 kd
    have h2 := ownB_len (hdT t) l
    rw [plB_mk, List.length_append]
    omega
theorem plA_len (t : Tm) (l : Bool) (pre : List Int) : (plA t l pre).length ≤ cnt t := by
  have := plB_len _ t l (Nat.le_refl _)
  rw [← plA_B t l pre, List.length_map] at this
  exact this
def akE (nm : Str) (e : Pk) : Ak := ((nm, e.1), e.2)
theorem akE_nm {nm : Str} {t : Tm} : ∀ {a : Ak}, a ∈ (plA t true []).map (akE nm) → a.1.1 = nm := fun h => by
  obtain ⟨e, _, rfl⟩ := List.mem_map.mp h
  rfl
theorem cnts_takeZ : ∀ (ts : List Tm) (i : Nat), cnts (ts.take i) ≤ cnts ts
  | [], i => by rw [List.take_nil]; exact Nat.le_refl _
  | t :: r, 0 => Nat.zero_le _
  | t :: r, i + 1 => by
    rw [List.take_succ_cons, cnts_cons, cnts_cons]
    have := cnts_takeZ r i
    omega
theorem len_cntsZ : ∀ ts : List Tm, ts.length ≤ cnts ts
  | [] => Nat.le_refl _
  | t :: r => by
    rw [List.length_cons, cnts_cons]
    have := len_cntsZ r
    have := cnt_pos t
    omega
/-! ### `and` and `or` of what is known -/
theorem andV_of {ta tb : TE} {σ : St} {H : Hp} {Q : VK} {a b : Bool} (h1 : ∀ Q' : VK, Q' (.bl a) H → ta σ H Q') (h2 : ∀ Q' : VK, Q' (.bl b) H → tb σ H Q') (q : Q (.bl (a && b)) H) : tAndV ta tb σ H Q := by
  refine h1 _ ⟨a, rfl, ?_⟩
  cases a with
  | false => exact itF rfl q
  | true => exact itT rfl (h2 _ q)
theorem orV_of {ta tb : TE} {σ : St} {H : Hp} {Q : VK} {a b : Bool} (h1 : ∀ Q' : VK, Q' (.bl a) H → ta σ H Q') (h2 : ∀ Q' : VK, Q' (.bl b) H → tb σ H Q') (q : Q (.bl (a || b)) H) : tOrV ta tb σ H Q := by
  refine h1 _ ⟨a, rfl, ?_⟩
  cases a with
  | false => exact itF rfl (h2 _ q)
  | true => exact itT rfl q
theorem here_eq (h : Hd) (l : Bool) (i : Nat) : (l && ((decide (V.str (hs h) = V.str "let") && decide (V.int ((0 : Int) + i) = V.int 1)) || (decide (V.str (hs h) = V.str "if") && decide ((0 : Int) < (0 : Int) + i)))) = hereH h l i := by
  have e1 : decide (V.int ((0 : Int) + i) = V.int 1) = decide (i = 1) := by
    by_cases c : i = 1
    · rw [decide_eq_true c, decide_eq_true (by rw [c]; rfl)]
    · rw [decide_eq_false c, decide_eq_false (fun z => c (by have := V.int.inj z; omega))]
  have e2 : decide ((0 : Int) < (0 : Int) + i) = decide (0 < i) := by
    by_cases c : 0 < i
    · rw [decide_eq_true c, decide_eq_true (by omega)]
    · rw [decide_eq_false c, decide_eq_false (by omega)]
  rw [e1, e2]
  have no : ∀ {a b : Str}, a ≠ b → decide (V.str a = V.str b) = false := fun z => decide_eq_false fun y => z (V.str.inj y)
  unfold hereH
  cases h with
  | lett x =>
    rw [show decide (V.str (hs (.lett x)) = V.str "let") = true from decide_eq_true rfl, no (show hs (.lett x) ≠ "if" from by show ("let" : Str) ≠ "if"; decide)]
    cases l <;> simp
  | iff =>
    rw [show decide (V.str (hs .iff) = V.str "if") = true from decide_eq_true rfl, no (show hs .iff ≠ "let" from by show ("if" : Str) ≠ "let"; decide)]
    cases l <;> simp
  | num z => rw [no (show hs (.num z) ≠ "let" from by show ("number" : Str) ≠ "let"; decide), no (show hs (.num z) ≠ "if" from by show ("number" : Str) ≠ "if"; decide)]; cases l <;> rfl
  | nam z => rw [no (show hs (.nam z) ≠ "let" from by show ("name" : Str) ≠ "let"; decide), no (show hs (.nam z) ≠ "if" from by show ("name" : Str) ≠ "if"; decide)]; cases l <;> rfl
  | ask z => rw [no (show hs (.ask z) ≠ "let" from by show ("ask" : Str) ≠ "let"; decide), no (show hs (.ask z) ≠ "if" from by show ("ask" : Str) ≠ "if"; decide)]; cases l <;> rfl
  | plus => rw [no (show hs .plus ≠ "let" from by show ("plus" : Str) ≠ "let"; decide), no (show hs .plus ≠ "if" from by show ("plus" : Str) ≠ "if"; decide)]; cases l <;> rfl
  | less => rw [no (show hs .less ≠ "let" from by show ("less" : Str) ≠ "let"; decide), no (show hs .less ≠ "if" from by show ("less" : Str) ≠ "if"; decide)]; cases l <;> rfl
  | tell => rw [no (show hs .tell ≠ "let" from by show ("tell" : Str) ≠ "let"; decide), no (show hs .tell ≠ "if" from by show ("tell" : Str) ≠ "if"; decide)]; cases l <;> rfl
theorem hs_askZ {h : Hd} (e : hs h = "ask") : ∃ f, h = .ask f := by
  cases h with
  | ask f => exact ⟨f, rfl⟩
  | num z => exact absurd (show ("number" : Str) = "ask" from e) (by decide)
  | nam z => exact absurd (show ("name" : Str) = "ask" from e) (by decide)
  | plus => exact absurd (show ("plus" : Str) = "ask" from e) (by decide)
  | less => exact absurd (show ("less" : Str) = "ask" from e) (by decide)
  | tell => exact absurd (show ("tell" : Str) = "ask" from e) (by decide)
  | iff => exact absurd (show ("if" : Str) = "ask" from e) (by decide)
  | lett z => exact absurd (show ("let" : Str) = "ask" from e) (by decide)
section
variable {P : Program} {w : World} {K : PySem.W.Frag} {mg : Str → Option Value} {base : Heap}
/-! ### _law_parts -/
abbrev s_law_parts : Stmt := top 52
theorem scLparts : FnScope ["term"] ["term"] (defScope s_law_parts) := ⟨rfl, rfl, rfl, by decide +kernel, rfl, by decide +kernel, by decide +kernel⟩
theorem ok_Lparts (T : Txt K mg) {f : Addr} {fd : FuncData} (F : Fun K "_law_parts" "_law_parts" s_law_parts f fd) : FnOk P w K mg base CX0 1 f fd ["term"] spParts := by
  refine F.ok scLparts (fun vs H Q E h => ?_) (fun cdv A outer s H vs Q E hr h => ?_)
  · obtain ⟨a, h, xs, rfl, _⟩ := h
    rfl
  obtain ⟨a, h, xs, rfl, l, q⟩ := h
  refine ⟨_, (pss_cons (ps_if (pt_cmpR op_in_seq (pe_ix ix_tup (pv 0) pe_int (fun _ _ => rfl)) (pe_tup (pa_cons pe_str (pa_cons pe_str pa_nil))) rfl) (pss_one (ps_ret (pe_tup pa_nil))) pss_nil)
    (pss_cons (ps_if (pt_cmpR op_eq (pe_ix ix_tup (pv 0) pe_int (fun _ _ => rfl)) pe_str (nomark _)) (pss_one (ps_ret (pe_ix ix_tup (pv 0) pe_int (fun _ _ => rfl)))) pss_nil)
    (pss_one (ps_ret (pe_slice sl_tupA (pv 0) (po_some (pe_op op_add pe_int (pe_callTy call_int1 (by rfl) T.m_int (by decide +kernel) (pa_cons (pe_cmpR op_eq (pe_ix ix_tup (pv 0) pe_int (fun _ _ => rfl)) pe_str (nomark _)) pa_nil)))) po_none))))), ?_⟩
  obtain ⟨r, hd⟩ := l.head
  refine ⟨_, rfl, a, _, _, _, rfl, rfl, SqT.of hd, at0, sz (by show 2 ≤ 100000; decide), fun t ht => ?_⟩
  have s1 := same_new ht (.tup [.str "number", .str "name"])
  refine ⟨t, _, rfl, .inr (SqT.of upd_same), rfl, rfl, _, rfl, ?_⟩
  cases h with
  | num z =>
    refine itT rfl ⟨sz (by decide), fun p hp => q p _ (s1.trans (same_new hp _)) ?_⟩
    rw [l.1, upd_same]
  | nam z =>
    refine itT rfl ⟨sz (by decide), fun p hp => q p _ (s1.trans (same_new hp _)) ?_⟩
    rw [l.1, upd_same]
  | ask f =>
    obtain ⟨l1, p, l2, l3⟩ := l
    refine itF rfl ⟨_, rfl, a, _, _, _, rfl, rfl, SqT.of (s1 _ _ l2), at0, rfl, _, rfl, ?_⟩
    refine itT rfl ⟨_, rfl, a, _, _, _, rfl, rfl, SqT.of (s1 _ _ l2), at2, ?_⟩
    exact q p _ s1 (s1 _ _ l3)
  | lett x =>
    refine itF rfl ⟨_, rfl, a, _, _, _, rfl, rfl, SqT.of (s1 _ _ l.2), at0, rfl, _, rfl, ?_⟩
    refine itF rfl ⟨_, rfl, _, rfl, a, _, _, _, rfl, rfl, SqT.of (s1 _ _ l.2), at0, rfl, .inr ⟨_, rfl, _, _, rfl, rfl, _, rfl, a, _, rfl, SqT.of (s1 _ _ l.2), ?_, ?_⟩⟩
    · exact fun z => absurd z (not_whole (i := 2) (by decide) len2)
    · intro _ p hp
      refine q p _ (s1.trans (same_new hp _)) ?_
      rw [upd_same]
      exact congrArg (fun z => some (HO.tup z)) cut2
  | plus | less | tell | iff =>
    refine itF rfl ⟨_, rfl, a, _, _, _, rfl, rfl, SqT.of (s1 _ _ l.2), at0, rfl, _, rfl, ?_⟩
    refine itF rfl ⟨_, rfl, _, rfl, a, _, _, _, rfl, rfl, SqT.of (s1 _ _ l.2), at0, rfl, .inr ⟨_, rfl, _, _, rfl, rfl, _, rfl, a, _, rfl, SqT.of (s1 _ _ l.2), ?_, ?_⟩⟩
    · exact fun z => absurd z (not_whole (i := 1) (by decide) len1)
    · intro _ p hp
      refine q p _ (s1.trans (same_new hp _)) ?_
      rw [upd_same]
      exact congrArg (fun z => some (HO.tup z)) cut1
/-! ### _law_plain_asks -/
def spPl (n : Nat) : Sp := fun vs H Q _ => ∃ (a pl : Addr) (l : Bool) (t : Tm) (nm : Str) (pre : List Int), vs = [.ref a, .ref pl, .bl l] ∧ At H t a ∧ H pl = some (.tup (.str nm :: pre.map V.int)) ∧ cnt t ≤ n ∧ pre.length + cnt t ≤ 1000 ∧
  ∀ p' H' its, H p' = none → Same H H' → H' p' = some (.lst its) → All2 (AtV H') ((plA t l pre).map (akE nm)) its → Q (.ref p') H'
abbrev s_law_plain_asks : Stmt := top 60
theorem scLplain_asks : FnScope ["term", "place", "last", "found", "parts", "k", "here"] ["term", "place", "last"] (defScope s_law_plain_asks) := ⟨rfl, rfl, rfl, by decide +kernel, rfl, by decide +kernel, by decide +kernel⟩
theorem ok_plain (T : Txt K mg) {n : Nat} {f g : Addr} {fd gd : FuncData} (F : Fun K "_law_plain_asks" "_law_plain_asks" s_law_plain_asks f fd) (G_law_plain_asks : FnOk P w K mg base CX0 (n + 1) f fd ["term", "place", "last"] (spPl n)) (R_law_plain_asks : Ref K mg "_law_plain_asks" f fd ["term", "place", "last"])
    (G_law_parts : FnOk P w K mg base CX0 1 g gd ["term"] (spKids TrT)) (R_law_parts : Ref K mg "_law_parts" g gd ["term"]) : FnOk P w K mg base CX0 (n + 2) f fd ["term", "place", "last"] (spPl (n + 1)) := by
  refine F.ok scLplain_asks (fun vs H Q E h => ?_) (fun cdv A outer s H vs Q E hr h => ?_)
  · obtain ⟨a, pl, l, t, nm, pre, rfl, _⟩ := h
    rfl
  obtain ⟨a, pl, l, t, nm, pre, rfl, hA, hp, hc, hl, q⟩ := h
  refine ⟨_, (pss_cons (ps_set (i := 3) scLplain_asks.nd rfl (Or.inl rfl) (pe_lst pa_nil))
    (pss_cons (ps_if (pt_cmpR op_eq (pe_ix ix_tup (pv 0) pe_int (fun _ _ => rfl)) pe_str (nomark _)) (pss_one (ps_set (i := 3) scLplain_asks.nd rfl (Or.inl rfl) (pe_lst (pa_cons (pe_tup (pa_cons (pv 1) (pa_cons (pe_ix ix_tup (pv 0) pe_int (fun _ _ => rfl)) (pa_cons (pe_callTy call_int1 (by rfl) T.m_int (by decide +kernel) (pa_cons (pe_not (pv 2)) pa_nil)) pa_nil)))) pa_nil)))) pss_nil)
    (pss_cons (ps_set (i := 4) scLplain_asks.nd rfl (Or.inl rfl) (pe_call G_law_parts (hr.mono (by omega)) rfl R_law_parts.m R_law_parts.k R_law_parts.b .nil pass0 (pa_cons (pv 0) pa_nil)))
    (pss_cons (ps_for PassesOwn.never rfl (pi_range1 rfl T.m_range (pa_cons (pe_callB call_len_seq (by rfl) T.m_len PySem.boot_len (pa_cons (pv 4) pa_nil)) pa_nil)) (pg_name (i := 5) scLplain_asks.nd rfl (Or.inl rfl)) (pss_cons (ps_set (i := 6) scLplain_asks.nd rfl (Or.inl rfl) (pe_and (pv 2) (pe_one (pe_or (pe_and (pe_cmpR op_eq (pe_ix ix_tup (pv 0) pe_int (fun _ _ => rfl)) pe_str (nomark _)) (pe_one (pe_cmpR op_eq (pv 5) pe_int (nomark _)))) (pe_one (pe_and (pe_cmpR op_eq (pe_ix ix_tup (pv 0) pe_int (fun _ _ => rfl)) pe_str (nomark _)) (pe_one (pe_cmpR op_gt (pv 5) pe_int (nomark _)))))))))
    (pss_one (ps_set (i := 3) scLplain_asks.nd rfl (Or.inl rfl) (pe_op op_cat (pv 3) (pe_call G_law_plain_asks hr rfl R_law_plain_asks.m R_law_plain_asks.k R_law_plain_asks.b .nil pass0 (pa_cons (pe_ix ix_tup (pv 4) (pv 5) (fun _ _ => rfl)) (pa_cons (pe_op op_catA (pv 1) (pe_tup (pa_cons (pv 5) pa_nil))) (pa_cons (pv 6) pa_nil)))))))))
    (pss_one (ps_ret (pv 3))))))), ?_⟩
  have hck := cnt_kids t
  obtain ⟨xs0, hlay, _⟩ := At.kids hA
  obtain ⟨rr, hd⟩ := hlay.head
  refine ⟨sz (by show 0 ≤ 100000; decide), fun f0 hf0 => ?_⟩
  have s0 := same_new hf0 (.lst [])
  have h00 : (upd H f0 (.lst [])) f0 = some (.lst []) := upd_same
  refine ⟨_, rfl, a, _, _, _, rfl, rfl, SqT.of (s0 _ _ hd), at0, rfl, _, rfl, ?_⟩
  refine ite2 (fun c => ?a) (fun c => ?b)
  case' a =>
    obtain ⟨g0, hg0⟩ := hs_askZ (V.str.inj (of_decide_eq_true c))
    have hlay2 := hlay
    rw [hg0] at hlay2
    obtain ⟨l1, p0, l2, l3⟩ := hlay2
    refine ⟨_, rfl, _, rfl, a, _, _, _, rfl, rfl, SqT.of (s0 _ _ l2), at1, _, rfl, l, rfl, .inr ⟨_, rfl, ?_⟩⟩
    refine ⟨sz (by show 3 ≤ 100000; decide), fun tt htt => ?_⟩
    have s1 := same_new htt (.tup [.ref pl, .str g0, .int (if (!l) = true then (1 : Int) else 0)])
    refine ⟨sz (by show 1 ≤ 100000; decide), fun fl hfl => ?_⟩
    have s2 := same_new hfl (.lst [.ref tt])
    have e1 := s2 _ _ (upd_same (H := upd H f0 (.lst [])) (a := tt) (o := .tup [.ref pl, .str g0, .int (if (!l) = true then (1 : Int) else 0)]))
    have hfl0 : (upd (upd (upd H f0 (.lst [])) tt (.tup [.ref pl, .str g0, .int (if (!l) = true then (1 : Int) else 0)])) fl (.lst [.ref tt])) fl = some (.lst [.ref tt]) := upd_same
    have hflH : H fl = none := none_back s0 (none_back s1 hfl)
    have s02 := s0.trans (s1.trans s2)
    generalize upd (upd (upd H f0 (.lst [])) tt (.tup [.ref pl, .str g0, .int (if (!l) = true then (1 : Int) else 0)])) fl (.lst [.ref tt]) = H1 at s02 hfl0 e1
    have hk1 : ∃ its, H1 fl = some (.lst its) ∧ All2 (AtV H1) ((ownA (hdT t) l pre).map (akE nm)) its := by
      refine ⟨_, hfl0, ?_⟩
      rw [hg0]
      refine ⟨⟨tt, pl, rfl, ?_, s02 _ _ hp⟩, trivial⟩
      rw [e1]
      cases l <;> rfl
    clear hfl0 e1 s1 s2 hfl
  case' b =>
    have s02 := s0
    have hk1 : ∃ its, (upd H f0 (.lst [])) f0 = some (.lst its) ∧ All2 (AtV (upd H f0 (.lst []))) ((ownA (hdT t) l pre).map (akE nm)) its := by
      refine ⟨_, h00, ?_⟩
      have : ownA (hdT t) l pre = [] := by
        cases hh : hdT t with
        | ask f => rw [hh] at c; exact absurd (decide_eq_true rfl) c
        | _ => rfl
      rw [this]
      trivial
    have hflH : H f0 = none := hf0
    generalize upd H f0 (.lst []) = H1 at s02 hk1 s0 h00
  all_goals (
    obtain ⟨its0, hf1, hk1⟩ := hk1
    refine ⟨_, rfl, t, a, rfl, hA.tk (tk_same s02), fun pp H2 us s2 h2 k2 => ?_⟩
    have hul := k2.len
    have hul2 : us.length < 1000 := by
      rw [hul]
      show (kidsT t).length < 1000
      have := len_cntsZ (kidsT t)
      omega
    refine ⟨_, rfl, pp, us, rfl, .inr (SqT.of h2), _, rfl, ?_⟩
    refine ⟨by omega, by omega, ?_⟩
    have hnl : ((us.length : Nat) : Int).toNat = (kidsT t).length := by
      rw [Int.toNat_natCast, hul]
      rfl
    refine for_range (lo := 0) (n := ((us.length : Nat) : Int).toNat) (fun i σ H' => ∃ (fl : Addr) (its : List V) (o5 o6 : Option V), σ = [some (.ref a), some (.ref pl), some (.bl l), some (.ref fl), some (.ref pp), o5, o6] ∧ Same H2 H' ∧ H fl = none ∧ H' fl = some (.lst its) ∧ All2 (AtV H') ((ownA (hdT t) l pre ++ plAs (hdT t) l pre 0 ((kidsT t).take i)).map (akE nm)) its) ?_ ?_ ?_
    · refine ⟨_, its0, _, _, rfl, Same.refl _, hflH, s2 _ _ hf1, ?_⟩
      rw [List.take_zero]
      show All2 _ ((ownA (hdT t) l pre ++ []).map (akE nm)) its0
      rw [List.append_nil]
      exact hk1.imp fun _ _ z => z.tk (tk_same s2)
    · rintro i σ H3 hi ⟨fl, its, o5, o6, rfl, s3, hfl, h3, k3⟩
      rw [hnl] at hi
      obtain ⟨v, hv⟩ : ∃ v, us[i]? = some v := ⟨us[i]'(by rw [hul]; exact hi), List.getElem?_eq_getElem _⟩
      obtain ⟨ti, hti, b, rfl, hb⟩ := k2.get hv
      have hti : (kidsT t)[i]? = some ti := hti
      have hmem := mem_of_get hti
      have hct := cnt_kid hmem
      have s02' := s02.trans (s2.trans s3)
      have hd3 := s02' _ _ hd
      refine andV_of (a := l) (fun Q' h => ⟨_, rfl, h⟩) (fun Q' h => orV_of (fun Q'' h => andV_of (fun _ h => ⟨_, rfl, a, _, _, _, rfl, rfl, SqT.of hd3, at0, rfl, h⟩) (fun _ h => ⟨_, rfl, rfl, h⟩) h) (fun Q'' h => andV_of (fun _ h => ⟨_, rfl, a, _, _, _, rfl, rfl, SqT.of hd3, at0, rfl, h⟩) (fun _ h => ⟨_, rfl, _, _, rfl, rfl, h⟩) h) h) ?_
      rw [here_eq]
      refine ⟨_, rfl, _, rfl, _, rfl, pp, us, _, .ref b, rfl, rfl, SqT.of (s3 _ _ h2), at_of (j := i) (by omega) hv, _, rfl, _, rfl, sz (by show 1 ≤ 100000; decide), fun p2 hp2 => ?_⟩
      have s4 := same_new hp2 (.tup [.int ((0 : Int) + i)])
      refine catA_of (s4 _ _ (s02' _ _ hp)) upd_same (by rw [List.length_cons, List.length_map]; show pre.length + 1 + 1 ≤ 100000; omega) fun p3 H4 s5 h5 => ?_
      have s35 := s4.trans s5
      refine ⟨_, rfl, b, p3, hereH (hdT t) l i, ti, nm, pre ++ [(i : Int)], rfl, At.tk (tk_same (s3.trans s35)) hb, ?_, by omega, by rw [List.length_append, List.length_singleton]; omega, fun p4 H5 its4 hp4 s6 h6 k6 => ?_⟩
      · rw [h5, List.map_append, Int.zero_add]
        rfl
      · have s36 := s35.trans s6
        have l6 := k6.len
        rw [List.length_map] at l6
        have l6' := plA_len ti (hereH (hdT t) l i) (pre ++ [(i : Int)])
        have l3 := k3.len
        rw [List.length_map] at l3
        have l3' : its.length ≤ 2000 := by
          rw [l3, List.length_append]
          have e1 := plA_len (mkL (hdT t) ((kidsT t).take i)) l pre
          rw [plA_mk, List.length_append, cnt_mkL] at e1
          have e2 := cnts_takeZ (kidsT t) i
          have e3 : hdT (mkL (hdT t) ((kidsT t).take i)) = hdT t := rfl
          have e4 : kidsT (mkL (hdT t) ((kidsT t).take i)) = (kidsT t).take i := ofFn_get _
          rw [e3, e4] at e1
          omega
        refine ⟨fl, p4, _, _, rfl, rfl, s36 _ _ h3, h6, sz (by omega), fun p9 hp9 => ?_⟩
        have s9 := same_new hp9 (.lst (its ++ its4))
        have s39 := s36.trans s9
        refine ⟨p9, _, _, _, rfl, s3.trans s39, none_back s02 (none_back s2 (none_back s3 (none_back s36 hp9))), upd_same, ?_⟩
        rw [plAs_take hti, ← List.append_assoc, List.map_append, Nat.zero_add]
        exact (k3.imp fun _ _ z => z.tk (tk_same s39)).app (k6.imp fun _ _ z => z.tk (tk_same s9))
    · rintro σ H3 ⟨fl, its, o5, o6, rfl, s3, hfl, h3, k3⟩
      rw [hnl, List.take_length, ← plA_mk] at k3
      exact ⟨_, rfl, q fl H3 its hfl (s02.trans (s2.trans s3)) h3 k3⟩)
theorem no_plain {f : Addr} {fd : FuncData} : FnOk P w K mg base CX0 1 f fd ["term", "place", "last"] (spPl 0) := by
  have no : ∀ vs H Q E, ¬ spPl 0 vs H Q E := fun vs H Q E h => by
    obtain ⟨a, pl, l, t, nm, pre, _, _, _, h0, _⟩ := h
    have := cnt_pos t
    omega
  exact ⟨fun vs H Q E h => absurd h (no vs H Q E), fun A outer s H args us vs Q E _ _ _ _ h => absurd h (no vs H Q E)⟩
theorem all_plain (T : Txt K mg) {f g : Addr} {fd gd : FuncData} (F : Fun K "_law_plain_asks" "_law_plain_asks" s_law_plain_asks f fd) (R_law_plain_asks : Ref K mg "_law_plain_asks" f fd ["term", "place", "last"])
    (G_law_parts : FnOk P w K mg base CX0 1 g gd ["term"] (spKids TrT)) (R_law_parts : Ref K mg "_law_parts" g gd ["term"]) : ∀ n : Nat, FnOk P w K mg base CX0 (n + 1) f fd ["term", "place", "last"] (spPl n)
  | 0 => no_plain
  | n + 1 => ok_plain T F (all_plain T F R_law_plain_asks G_law_parts R_law_parts n) R_law_plain_asks G_law_parts R_law_parts
end
end KB

set_option pp.maxSteps 400
namespace KB
open PySem L2 HT LamX NdefX

theorem At.arA {H : Hp} : ∀ {t : Tm} {a : Addr}, At H t a → arA t := by
  intro t
  induction t with
  | mk h n k ih =>
    rintro a ⟨ys, l, r⟩
    refine ⟨?_, fun i => ih i (r i)⟩
    have e : (Rfs ys).length = n := by
      unfold Rfs
      rw [List.length_ofFn]
    cases h with
    | num z => exact e.symm.trans (congrArg List.length l.1)
    | nam z => exact e.symm.trans (congrArg List.length l.1)
    | ask f => exact e ▸ l.1
    | _ => exact e.symm.trans l.1
/-! ### asks that are others' too -/
def Sub (A B : List Ak) : Prop := ∀ a ∈ A, ∃ b ∈ B, b.1.1 = a.1.1 ∧ b.2 = a.2
theorem Row.sub {A B : List Ak} (s : Sub A B) {f g : Str} {r : List Ak} (h : Row A f r g) : ∃ r', Row B f r' g ∧ wtR r' = wtR r := by
  induction h with
  | nil => exact ⟨[], .nil, rfl⟩
  | @cons a r g m _ ih =>
    obtain ⟨r', h1, h2⟩ := ih
    obtain ⟨b, hb, e1, e2⟩ := s a m
    refine ⟨b :: r', .cons' hb e1 (by rw [e2]; exact h1), ?_⟩
    rw [wtR_cons, wtR_cons, h2, e2]
theorem Rch.sub {A B : List Ak} (s : Sub A B) {f g : Str} (h : Rch A f g) : Rch B f g := by
  obtain ⟨r, hr⟩ := h
  obtain ⟨r', h1, _⟩ := hr.sub s
  exact ⟨r', h1⟩
theorem RingA.sub {A B : List Ak} (s : Sub A B) {f : Str} (h : RingA A f) : RingA B f := by
  obtain ⟨a, ha, hw, h1, h2⟩ := h
  obtain ⟨b, hb, e1, e2⟩ := s a ha
  exact ⟨b, hb, by rw [e2]; exact hw, by rw [e1]; exact Rch.sub s h1, by rw [e1, e2]; exact Rch.sub s h2⟩
theorem IsMax.sub {A B : List Ak} (s : Sub A B) (t : Sub B A) {f : Str} {m : Nat} (h : IsMax A f m) : IsMax B f m := by
  obtain ⟨⟨r, g, h1, h2⟩, h3⟩ := h
  obtain ⟨r', k1, k2⟩ := h1.sub s
  refine ⟨⟨r', g, k1, k2.trans h2⟩, fun q x hq => ?_⟩
  obtain ⟨q', z1, z2⟩ := hq.sub t
  rw [← z2]
  exact h3 q' x z1
theorem ring_of {A : List Ak} {f g : Str} {r1 r2 : List Ak} (h1 : Row A f r1 g) (h2 : Row A g r2 g) (hw : 0 < wtR r2) : RingA A f := by
  obtain ⟨p, a, q, _, _, haw, ha, k1, k2⟩ := first_w h2 hw
  exact ⟨a, ha, haw, ⟨_, h1.app k1⟩, ⟨_, k2.app k1⟩⟩
theorem MostT.ring {H H' : Hp} {A : List Ak} {f : Str} {L D : Addr} {N : List Str} {lv : Str → Nat} {r : List Ak} {vs : List V} {g : Str} (h : MostT H H' A f L D N lv r vs g) : ¬ RingA A f := fun ⟨a, ha, hw, ⟨r1, k1⟩, r2, k2⟩ => h.nr a ha hw (k1.cl h.cl h.st).1 r2 k2
theorem MostT.max {H H' : Hp} {A : List Ak} {f : Str} {L D : Addr} {N : List Str} {lv : Str → Nat} {r : List Ak} {vs : List V} {g : Str} (h : MostT H H' A f L D N lv r vs g) : IsMax A f (wtR r) := ⟨⟨r, g, h.row, rfl⟩, fun r' g' k => by
  have := h.up.row h.cl k h.st
  have := h.wt
  omega⟩
/-! ### a book, and the book turned -/
structure TE2 (e : Er) (te : TEr) : Prop where
  nm : te.1 = e.1
  ns : te.2.1 = e.2.1
  run : RunB e.2.1 e.2.2 te.2.2
theorem tur_te {H : Hp} : ∀ {es : List Er} {vs : List V}, All2 (TurV H) es vs → ∃ tes : List TEr, All2 (TErV H) tes vs ∧ tes.map (·.1) = es.map (·.1) ∧ (∀ te ∈ tes, ∃ e ∈ es, TE2 e te) ∧ ∀ e ∈ es, ∃ te ∈ tes, TE2 e te
  | [], [], _ => ⟨[], trivial, rfl, fun _ z => absurd z List.not_mem_nil, fun _ z => absurd z List.not_mem_nil⟩
  | e :: es, v :: vs, ⟨⟨q, r, b, p, e1, h1, h2, h3, h4⟩, h⟩ => by
    obtain ⟨tes, a1, a2, a3, a4⟩ := tur_te h
    refine ⟨(e.1, e.2.1, p) :: tes, ⟨⟨q, r, b, e1, h1, h2, h4⟩, a1⟩, by rw [List.map_cons, List.map_cons, a2], fun te hte => ?_, fun e' he' => ?_⟩
    · rcases List.mem_cons.mp hte with z | z
      · rw [z]
        exact ⟨e, List.mem_cons_self, rfl, rfl, h3⟩
      · obtain ⟨e0, h0, h1⟩ := a3 te z
        exact ⟨e0, List.mem_cons_of_mem _ h0, h1⟩
    · rcases List.mem_cons.mp he' with z | z
      · rw [z]
        exact ⟨_, List.mem_cons_self, rfl, rfl, h3⟩
      · obtain ⟨e0, h0, h1⟩ := a4 e' z
        exact ⟨e0, List.mem_cons_of_mem _ h0, h1⟩
  | [], _ :: _, h => h.elim
  | _ :: _, [], h => h.elim
def plE (e : Er) : List Ak := (plA e.2.2 true []).map (akE e.1)
def pes (es : List Er) : List PA.PEr := es.map fun e => (e.1, plE e)
theorem plE_B (e : Er) : (plE e).map (·.2) = plB e.2.2 true := by
  unfold plE
  rw [List.map_map]
  exact plA_B e.2.2 true []
theorem pes_nm (es : List Er) : (pes es).map (·.1) = es.map (·.1) := by
  unfold pes
  rw [List.map_map]
  rfl
theorem plE_len (e : Er) : (plE e).length ≤ cnt e.2.2 := by
  unfold plE
  rw [List.length_map]
  exact plA_len _ _ _
theorem plB_hd {hd : Str → Option Nat} : ∀ (t : Tm) (l : Bool) (xs : List Str), okS hd t xs → ∀ x ∈ plB t l, (∃ n, hd x.1 = some n) ∧ x.2 ≤ 1
  | .mk h n k, l, xs, ⟨o, r⟩, x, hx => by
    rcases List.mem_append.mp hx with z | z
    · cases h with
      | ask f =>
        rw [List.mem_singleton.mp z]
        exact ⟨⟨n, o⟩, by show (if l = true then 0 else 1) ≤ 1; cases l <;> decide⟩
      | _ => cases z
    · obtain ⟨l', hl', hx'⟩ := List.mem_flatten.mp z
      obtain ⟨i, rfl⟩ := List.mem_ofFn.mp hl'
      exact plB_hd (k i) _ _ (r i) x hx'
/-- what is known of a book and of the book turned -/
structure BT (es : List Er) (tes : List TEr) : Prop where
  l6 : es.length ≤ 6
  tl : tes.length ≤ 6
  nm : tes.map (·.1) = es.map (·.1)
  nd : (es.map (·.1)).Nodup
  kp : ∀ te ∈ tes, kP te.2.2 ∧ ncnt te.2.2 ≤ 1000
  pc : ∀ te ∈ tes, pcnt te.2.2 ≤ 161
  al : (asksB tes).length ≤ 300
  ws : ∀ te ∈ tes, isW te.1 = true ∧ (asksE te).length ≤ 300
  as : ∀ a ∈ asksB tes, isW a.2.1 = true
  tg : ∀ a ∈ asksB tes, a.2.1 ∈ tes.map (·.1)
  pws : ∀ e ∈ pes es, isW e.1 = true ∧ e.2.length ≤ 300
  pas : ∀ a ∈ PA.pB (pes es), isW a.2.1 = true
  ptg : ∀ a ∈ PA.pB (pes es), a.2.1 ∈ (pes es).map (·.1)
  pnm : ∀ e ∈ pes es, ∀ a ∈ e.2, a.1.1 = e.1 ∧ a.2.2 ≤ 1
  s1 : Sub (asksB tes) (PA.pB (pes es))
  s2 : Sub (PA.pB (pes es)) (asksB tes)
theorem asks40 {es : List TEr} (h : ∀ e ∈ es, (asksE e).length ≤ 40) : (asksB es).length ≤ 40 * es.length := by
  induction es with
  | nil => exact Nat.zero_le _
  | cons e r ih =>
    have e1 : asksB (e :: r) = asksE e ++ asksB r := rfl
    have := ih fun x hx => h x (List.mem_cons_of_mem _ hx)
    have := h e List.mem_cons_self
    rw [e1, List.length_append, List.length_cons]
    omega
theorem bt_of {es : List Er} {tes : List TEr} (g : GdB es) (ar : ∀ e ∈ es, arA e.2.2) (nm : tes.map (·.1) = es.map (·.1)) (h1 : ∀ te ∈ tes, ∃ e ∈ es, TE2 e te) (h2 : ∀ e ∈ es, ∃ te ∈ tes, TE2 e te) : BT es tes := by
  obtain ⟨hF, ge, gn⟩ := g.er
  have tl : tes.length = es.length := by
    have := congrArg List.length nm
    rwa [List.length_map, List.length_map] at this
  have tk : ∀ e ∈ es, ∀ te, TE2 e te → kP te.2.2 ∧ ncnt te.2.2 ≤ 241 ∧ pcnt te.2.2 ≤ 161 ∧ ((asksE te).map (·.2)).Perm (plB e.2.2 true) := fun e he te t2 => by
    have G := ge e he
    obtain ⟨a1, a2, a3, a4⟩ := turned_k (ar e he) G.ok G.dp G.cn G.n4 t2.run
    exact ⟨a1, a2, a3, List.perm_iff_count.mpr fun x => by rw [asksE_cP]; exact a4 x⟩
  have wE : ∀ e ∈ es, isW e.1 = true := fun e he => (ge e he).w
  have wN : ∀ f ∈ es.map (·.1), isW f = true := fun f hf => by
    obtain ⟨e, he, rfl⟩ := List.mem_map.mp hf
    exact wE e he
  have pf : ∀ e ∈ es, ∀ x ∈ plB e.2.2 true, x.1 ∈ es.map (·.1) ∧ x.2 ≤ 1 := fun e he x hx => by
    obtain ⟨⟨n, hn⟩, hw⟩ := plB_hd (hd := hF) e.2.2 true e.2.1 (ge e he).sc x hx
    exact ⟨gn _ n hn, hw⟩
  have pin : ∀ e ∈ es, ∀ b ∈ plE e, b ∈ PA.pB (pes es) := fun e he b hb => List.mem_flatten.mpr ⟨plE e, List.mem_map.mpr ⟨_, List.mem_map.mpr ⟨e, he, rfl⟩, rfl⟩, hb⟩
  have pout : ∀ b ∈ PA.pB (pes es), ∃ e ∈ es, b ∈ plE e := fun b hb => by
    obtain ⟨l, hl, hb2⟩ := List.mem_flatten.mp hb
    obtain ⟨pe, hpe, rfl⟩ := List.mem_map.mp hl
    obtain ⟨e, he, rfl⟩ := List.mem_map.mp hpe
    exact ⟨e, he, hb2⟩
  have pE : ∀ e ∈ es, ∀ b ∈ plE e, b.1.1 = e.1 ∧ b.2.1 ∈ es.map (·.1) ∧ b.2.2 ≤ 1 := fun e he b hb => by
    have hm : b.2 ∈ plB e.2.2 true := by rw [← plE_B]; exact List.mem_map.mpr ⟨b, hb, rfl⟩
    exact ⟨akE_nm hb, pf e he _ hm⟩
  have tE : ∀ te ∈ tes, ∀ a ∈ asksE te, a.2.1 ∈ es.map (·.1) := fun te hte a ha => by
    obtain ⟨e, he, t2⟩ := h1 te hte
    have hm : a.2 ∈ plB e.2.2 true := (tk e he te t2).2.2.2.mem_iff.mp (List.mem_map.mpr ⟨a, ha, rfl⟩)
    exact (pf e he _ hm).1
  have t40 : ∀ te ∈ tes, (asksE te).length ≤ 40 := fun te hte => by
    obtain ⟨e, he, t2⟩ := h1 te hte
    have h3 := (tk e he te t2).2.2.2.length_eq
    rw [List.length_map] at h3
    have h4 := plB_len _ e.2.2 true (Nat.le_refl _)
    have h5 := (ge e he).cn
    omega
  have l6 := g.len.2
  refine ⟨l6, by omega, nm, g.nd, fun te hte => ?_, fun te hte => ?_, ?_, fun te hte => ?_, fun a ha => ?_, fun a ha => ?_, fun pe hpe => ?_, fun b hb => ?_, fun b hb => ?_, fun pe hpe b hb => ?_, fun a ha => ?_, fun b hb => ?_⟩
  · obtain ⟨e, he, t2⟩ := h1 te hte
    have := tk e he te t2
    exact ⟨this.1, Nat.le_trans this.2.1 (by decide)⟩
  · obtain ⟨e, he, t2⟩ := h1 te hte
    exact (tk e he te t2).2.2.1
  · have := asks40 t40
    omega
  · obtain ⟨e, he, t2⟩ := h1 te hte
    have := t40 te hte
    exact ⟨by rw [t2.nm]; exact wE e he, by omega⟩
  · obtain ⟨te, hte, ha2, _⟩ := asksB_er ha
    exact wN _ (tE te hte a ha2)
  · obtain ⟨te, hte, ha2, _⟩ := asksB_er ha
    rw [nm]
    exact tE te hte a ha2
  · obtain ⟨e, he, rfl⟩ := List.mem_map.mp hpe
    have h3 := plE_len e
    have h5 := (ge e he).cn
    exact ⟨wE e he, by show (plE e).length ≤ 300; omega⟩
  · obtain ⟨e, he, hb2⟩ := pout b hb
    exact wN _ (pE e he b hb2).2.1
  · obtain ⟨e, he, hb2⟩ := pout b hb
    rw [pes_nm]
    exact (pE e he b hb2).2.1
  · obtain ⟨e, he, rfl⟩ := List.mem_map.mp hpe
    exact ⟨(pE e he b hb).1, (pE e he b hb).2.2⟩
  · obtain ⟨te, hte, ha2, ha3⟩ := asksB_er ha
    obtain ⟨e, he, t2⟩ := h1 te hte
    have hm : a.2 ∈ plB e.2.2 true := (tk e he te t2).2.2.2.mem_iff.mp (List.mem_map.mpr ⟨a, ha2, rfl⟩)
    rw [← plE_B] at hm
    obtain ⟨b, hb, eb⟩ := List.mem_map.mp hm
    exact ⟨b, pin e he b hb, by rw [(pE e he b hb).1, ← t2.nm, ha3], eb⟩
  · obtain ⟨e, he, hb2⟩ := pout b hb
    obtain ⟨te, hte, t2⟩ := h2 e he
    have hm : b.2 ∈ (asksE te).map (·.2) := (tk e he te t2).2.2.2.mem_iff.mpr (by rw [← plE_B]; exact List.mem_map.mpr ⟨b, hb2, rfl⟩)
    obtain ⟨a, ha, ea⟩ := List.mem_map.mp hm
    exact ⟨a, asks_in hte ha, by rw [(asksE_nm ha).1, t2.nm, (pE e he b hb2).1], ea⟩
theorem LB.other {H H' : Hp} {D Dl : Addr} {es : List TEr} {kvs zs : List (L2.Key × V)} (h : LB H D es kvs) (hD : H Dl = some (.dK zs)) (a : Off Dl H H') (n : D ≠ Dl) : LB H' D es kvs :=
  ⟨h.rd.elim (fun z => .inl (a _ _ n z)) fun ⟨o, z⟩ => .inr ⟨o, a _ _ n z⟩, LaL.mono (H := H) (H' := H') (fun _ _ z => Off.lst (d := Dl) (.inl hD) a z) (Off.tk (d := Dl) (.inl hD) a) h.la, h.nd, h.l6, h.ws, h.as, h.tg⟩
theorem bk_tk {H H' : Hp} (t : TK H H') {es : List TEr} {us : List V} {p : Addr} (h : TBkAt H es us p) : TBkAt H' es us p := ⟨t _ _ h.1, h.2.imp fun _ _ z => TErV.tk t z⟩
section
variable {P : Program} {w : World} {K : PySem.W.Frag} {mg : Str → Option Value} {base : Heap}
/-! ### law -/
def spLaw (K : PySem.W.Frag) : Sp := fun vs H Q _ => ∃ (a : Addr) (ns : List Int), vs = [.ref a] ∧ SqL K H a (ns.map V.int) ∧ ns.length ≤ 63 ∧ ∀ H', Q (.bl true) H'
abbrev slaw : Stmt := top 61
theorem sclaw : FnScope ["script", "book", "asks", "name", "names", "body", "found", "here", "f", "due", "word", "row", "more"] ["script"] (defScope slaw) := ⟨rfl, rfl, rfl, by decide +kernel, rfl, by decide +kernel, by decide +kernel⟩
theorem ok_law (T : Txt K mg) {f f1 f2 f3 f4 f5 f6 f7 f8 : Addr} {fd d1 d2 d3 d4 d5 d6 d7 d8 : FuncData} (F : Fun K "law" "law" slaw f fd)
    (G_law_book : FnOk P w K mg base CX0 30 f1 d1 ["script", "start"] (spBook K)) (R_law_book : Ref K mg "_law_book" f1 d1 ["script", "start"])
    (G_law_plain_asks : FnOk P w K mg base CX0 42 f2 d2 ["term", "place", "last"] (spPl 41)) (R_law_plain_asks : Ref K mg "_law_plain_asks" f2 d2 ["term", "place", "last"])
    (Gturn_book : FnOk P w K mg base CX0 7 f3 d3 ["book"] spTBook) (Rturn_book : Ref K mg "turn_book" f3 d3 ["book"])
    (G_law_asks : FnOk P w K mg base CX0 163 f4 d4 ["turned"] spLAsks) (R_law_asks : Ref K mg "_law_asks" f4 d4 ["turned"])
    (G_law_weighs : FnOk P w K mg base CX0 2 f5 d5 ["asks", "f"] PA.spWeighs) (R_law_weighs : Ref K mg "_law_weighs" f5 d5 ["asks", "f"])
    (Gmost_waiting : FnOk P w K mg base CX0 5 f6 d6 ["turned", "f"] spMW) (Rmost_waiting : Ref K mg "most_waiting" f6 d6 ["turned", "f"])
    (G_law_is_ring : FnOk P w K mg base CX0 2 f7 d7 ["asks", "f", "lead", "ring"] spRing) (R_law_is_ring : Ref K mg "_law_is_ring" f7 d7 ["asks", "f", "lead", "ring"])
    (G_law_row_end : FnOk P w K mg base CX0 1 f8 d8 ["asks", "f", "row"] spRowEnd) (R_law_row_end : Ref K mg "_law_row_end" f8 d8 ["asks", "f", "row"]) : FnOk P w K mg base CX0 164 f fd ["script"] (spLaw K) := by
  refine F.ok sclaw (fun vs H Q E h => ?_) (fun cdv A outer s H vs Q E hr h => ?_)
  · obtain ⟨a, ns, rfl, _⟩ := h
    rfl
  obtain ⟨sc, ns, rfl, hS, hn63, q⟩ := h
  refine ⟨_, (pss_cons (ps_set (i := 1) sclaw.nd rfl (Or.inl rfl) (pe_call G_law_book (hr.mono (by omega)) rfl R_law_book.m R_law_book.k R_law_book.b .nil pass0 (pa_cons (pv 0) (pa_cons pe_int pa_nil))))
    (pss_cons (ps_set (i := 2) sclaw.nd rfl (Or.inl rfl) pe_dnewK)
    (pss_cons (ps_for PassesOwn.never rfl (pi_tup (pv 1)) (pg_tup rfl (pgs_cons (pg_name (i := 3) sclaw.nd rfl (Or.inl rfl)) (pgs_cons (pg_name (i := 4) sclaw.nd rfl (Or.inl rfl)) (pgs_cons (pg_name (i := 5) sclaw.nd rfl (Or.inl rfl)) pgs_nil)))) (pss_one (ps_dput (hu_of hr) (pv 2) (pv 3) (pe_call G_law_plain_asks (hr.mono (by omega)) rfl R_law_plain_asks.m R_law_plain_asks.k R_law_plain_asks.b .nil pass0 (pa_cons (pv 5) (pa_cons (pe_tup (pa_cons (pv 3) pa_nil)) (pa_cons pe_bl pa_nil)))) rfl)))
    (pss_cons (ps_set (i := 6) sclaw.nd rfl (Or.inl rfl) (pe_call Gturn_book (hr.mono (by omega)) rfl Rturn_book.m Rturn_book.k Rturn_book.b .nil pass0 (pa_cons (pv 1) pa_nil)))
    (pss_cons (ps_set (i := 7) sclaw.nd rfl (Or.inl rfl) (pe_call G_law_asks (hr.mono (by omega)) rfl R_law_asks.m R_law_asks.k R_law_asks.b .nil pass0 (pa_cons (pv 6) pa_nil)))
    (pss_cons (ps_lockR (ps_for PassesOwn.never rfl (pi_keys (pv 2)) (pg_name (i := 8) sclaw.nd rfl (Or.inl rfl)) (pss_cons (ps_set (i := 9) sclaw.nd rfl (Or.inl rfl) (pe_call G_law_weighs (hr.mono (by omega)) rfl R_law_weighs.m R_law_weighs.k R_law_weighs.b .nil pass0 (pa_cons (pv 2) (pa_cons (pv 8) pa_nil))))
    (pss_cons (ps_asg (pe_call Gmost_waiting (hr.mono (by omega)) rfl Rmost_waiting.m Rmost_waiting.k Rmost_waiting.b .nil pass0 (pa_cons (pv 6) (pa_cons (pv 8) pa_nil))) (pg_tup rfl (pgs_cons (pg_name (i := 10) sclaw.nd rfl (Or.inl rfl)) (pgs_cons (pg_name (i := 11) sclaw.nd rfl (Or.inl rfl)) (pgs_cons (pg_name (i := 12) sclaw.nd rfl (Or.inl rfl)) pgs_nil)))))
    (pss_one (ps_if (pt_cmpR op_isN (pv 9) pe_non (nomark _)) (pss_one (ps_if (PW.pt (pw_or (pt_cmpR op_ne (pv 10) pe_str (nomark _)) (pw_or1 (pt_not (pt_val (pe_call G_law_is_ring (hr.mono (by omega)) rfl R_law_is_ring.m R_law_is_ring.k R_law_is_ring.b .nil pass0 (pa_cons (pv 7) (pa_cons (pv 8) (pa_cons (pv 11) (pa_cons (pv 12) pa_nil)))))))))) (pss_one (ps_ret pe_bl)) pss_nil)) (pss_one (ps_if (PW.pt (pw_or (pt_cmpR op_ne (pv 10) pe_str (nomark _)) (pw_or1 (pt_cmpR op_ne (pe_ix ix_tup (pe_call G_law_row_end (hr.mono (by omega)) rfl R_law_row_end.m R_law_row_end.k R_law_row_end.b .nil pass0 (pa_cons (pv 7) (pa_cons (pv 8) (pa_cons (pv 11) pa_nil)))) pe_int (fun _ _ => rfl)) (pv 9) (nomark _))))) (pss_one (ps_ret pe_bl)) pss_nil))))))))
    (pss_one (ps_ret pe_bl)))))))), ?_⟩
  refine ⟨_, rfl, sc, ns, 1, rfl, hS, by decide, by decide, fun p es us H1 s1 hB hG => ?_⟩
  have hl6 := hG.len.2
  have hnd := hG.nd
  obtain ⟨hF, ge, gn⟩ := hG.er
  refine fun D hD => ?_
  have sD := same_new hD (.dK [])
  have hB0 := hB.tk (tk_same sD)
  refine ⟨_, rfl, p, rfl, ⟨_, SqT.of hB0.1⟩, for_tup (K := K) (a := p) (xs := us) (fun i σ H' => ∃ (o3 o4 o5 : Option V) (kvs : List (L2.Key × V)), σ = [some (.ref sc), some (.ref p), some (.ref D), o3, o4, o5, none, none, none, none, none, none, none] ∧ Same H1 H' ∧ H' D = some (.dK kvs) ∧ PA.LaL H' ((pes es).take i) kvs) ⟨_, _, _, [], rfl, sD, upd_same, by rw [List.take_zero]; exact trivial⟩ ?_ ?_ ?_⟩
  · rintro i σ H' _ ⟨o3, o4, o5, kvs, rfl, s2, _⟩
    exact SqT.of (s2 _ _ hB.1)
  · rintro i x σ H2 hx ⟨o3, o4, o5, kvs, rfl, s2, h2, k2⟩
    obtain ⟨e, he, qa, r, b, rfl, g1, g2, g3⟩ := hB.2.get hx
    have hem := mem_of_get he
    obtain ⟨hi, hei⟩ := List.getElem?_eq_some_iff.mp he
    refine ⟨qa, _, rfl, SqT.of (s2 _ _ g1), rfl, _, _, rfl, _, _, rfl, _, _, rfl, rfl, ?_⟩
    refine ⟨_, rfl, _, rfl, sz (by show 1 ≤ 100000; decide), fun pl hpl => ?_⟩
    have s3 := same_new hpl (.tup [.str e.1])
    have hcn := (ge e hem).cn
    refine ⟨b, pl, true, e.2.2, e.1, [], rfl, g3.tk (tk_same (s2.trans s3)), upd_same, by omega, by show 0 + cnt e.2.2 ≤ 1000; omega, fun L H3 its hL s4 h4 k4 => ?_⟩
    have s34 := s3.trans s4
    have h3 := s34 _ _ h2
    have hk6 := k2.len
    rw [List.length_take] at hk6
    have hnew : (.inr e.1 : L2.Key) ∉ kvs.map (·.1) := by
      rw [k2.keys]
      intro z
      obtain ⟨y, hy, ey⟩ := List.mem_map.mp z
      have ey' : y.1 = e.1 := Sum.inr.inj ey
      obtain ⟨k, hk, e3⟩ := List.getElem_of_mem hy
      rw [List.getElem_take] at e3
      rw [List.length_take] at hk
      have hpl : (pes es).length = es.length := List.length_map ..
      have e4 : (es[k]'(by omega)).1 = e.1 := by
        have : (pes es)[k]'(by omega) = ((es[k]'(by omega)).1, plE (es[k]'(by omega))) := by
          unfold pes
          rw [List.getElem_map]
        rw [this] at e3
        rw [← ey', ← e3]
      refine List.pairwise_iff_getElem.mp hnd k i (by rw [List.length_map]; omega) (by rw [List.length_map]; exact hi) (by omega) ?_
      rw [List.getElem_map, List.getElem_map, e4, hei]
    refine ⟨_, rfl, _, rfl, D, _, rfl, DPut.k (k := .inr e.1) h3 (Nat.lt_of_le_of_lt (m := 6) (by omega) (by decide)), ?_⟩
    rw [putK_new hnew]
    have h5 := s34 _ _ h2
    have off : ∀ y o, y ≠ D → H3 y = some o → (upd H3 D (.dK (kvs ++ [((.inr e.1 : L2.Key), .ref L)]))) y = some o := fun y o n h => by rw [upd_ne n]; exact h
    have nLD : L ≠ D := fun z => by rw [z, s3 _ _ h2] at hL; cases hL
    have lst : ∀ l vs', H3 l = some (.lst vs') → (upd H3 D (.dK (kvs ++ [((.inr e.1 : L2.Key), .ref L)]))) l = some (.lst vs') := fun l vs' h => off _ _ (fun z => by rw [z, h5] at h; cases h) h
    have tkk : TK H3 (upd H3 D (.dK (kvs ++ [((.inr e.1 : L2.Key), .ref L)]))) := fun l vs' h => off _ _ (fun z => by rw [z, h5] at h; cases h) h
    refine ⟨_, _, _, kvs ++ [((.inr e.1 : L2.Key), .ref L)], rfl, same_mut (s2.trans s34) hD, upd_same, ?_⟩
    have hpi : (pes es)[i]? = some (e.1, plE e) := by
      unfold pes
      rw [List.getElem?_map, he]
      rfl
    obtain ⟨hi2, hpi2⟩ := List.getElem?_eq_some_iff.mp hpi
    rw [List.take_succ_eq_append_getElem hi2, hpi2]
    exact ((k2.mono (fun _ _ z => s34 _ _ z) (tk_same s34)).mono lst tkk).app ⟨rfl, L, its, rfl, lst _ _ h4, k4.imp fun _ _ z => z.tk tkk⟩
  · rintro σ H2 ⟨o3, o4, o5, kvs, rfl, s2, h2, k2⟩
    have hB2 := hB.tk (tk_same s2)
    rw [hB.2.len, show es.length = (pes es).length from (List.length_map ..).symm, List.take_length] at k2
    refine ⟨_, rfl, p, es, us, rfl, hB2, hl6, fun e he => ⟨by have := (ge e he).cn; omega, by have := (ge e he).n4; omega⟩, fun H3 p' vs s3 h3 k3 => ?_⟩
    obtain ⟨tes, t1, t2, t3, t4⟩ := tur_te k3
    have ar : ∀ e ∈ es, arA e.2.2 := fun e he => by
      obtain ⟨i, hi, ei⟩ := List.getElem_of_mem he
      obtain ⟨v, hv⟩ : ∃ v, us[i]? = some v := ⟨us[i]'(by rw [hB.2.len]; exact hi), List.getElem?_eq_getElem _⟩
      obtain ⟨e', he', qa, r, b, _, _, _, g3⟩ := hB.2.get hv
      rw [List.getElem?_eq_getElem hi, ei] at he'
      cases he'
      exact g3.arA
    have bt := bt_of hG ar t2 t3 t4
    have hT3 : TBkAt H3 tes vs p' := ⟨h3, t1⟩
    refine ⟨_, rfl, p', tes, vs, rfl, hT3, bt.tl, by rw [t2]; exact hnd, bt.pc, fun D2 H4 kvs2 hD2 s4 h4 k4 => ?_⟩
    have hT4 := bk_tk (tk_same s4) hT3
    have L2' : LB H4 D2 tes kvs2 := ⟨.inl h4, k4, by rw [t2]; exact hnd, bt.tl, bt.ws, bt.as, bt.tg⟩
    have s34 := s3.trans s4
    have hD4 := s34 _ _ h2
    have L1' : PA.LB H4 D (pes es) kvs := ⟨.inl hD4, k2.mono (fun _ _ z => s34 _ _ z) (tk_same s34), by rw [pes_nm]; exact hnd, by rw [show (pes es).length = es.length from List.length_map ..]; exact hl6, bt.pws, bt.pas, bt.ptg, bt.pnm⟩
    have nDD : D2 ≠ D := fun z => by rw [z, s3 _ _ h2] at hD2; cases hD2
    refine ⟨D, .dK kvs, .inl hD4, trivial, fun od H5 h5 f5 => ?_⟩
    have o5' : Off D H4 H5 := Off.of f5
    have L15 := L1'.frz o5' h5
    have L25 := L2'.other hD4 o5' nDD
    have hT5 := bk_tk (o5'.tk (.inl hD4)) hT4
    refine ⟨_, rfl, D, od, rfl, .inl ⟨kvs, h5, for_it walk_keys (fun i σ H' => ∃ (o8 o9 o10 o11 o12 : Option V), σ = [some (.ref sc), some (.ref p), some (.ref D), o3, o4, o5, some (.ref p'), some (.ref D2), o8, o9, o10, o11, o12] ∧ Same H5 H') ?_ ?_ ?_ ?_⟩⟩
    · exact ⟨_, _, _, _, _, rfl, Same.refl _⟩
    · rintro i σ H' _ ⟨o8, o9, o10, o11, o12, rfl, s6⟩
      exact s6 _ _ h5
    · rintro i x σ H6 H6' hi ⟨o8, o9, o10, o11, o12, rfl, s6⟩ ⟨e', k, v, hkv, rfl⟩
      subst e'
      obtain ⟨nm, hnm, rfl⟩ : ∃ nm ∈ es.map (·.1), k = .inr nm := by
        have hk : (kvs.map (·.1))[i]? = some k := by rw [List.getElem?_map, hkv]; rfl
        rw [k2.keys, List.getElem?_map] at hk
        obtain ⟨e, he, e1⟩ := Option.map_eq_some_iff.mp hk
        exact ⟨e.1, by rw [← pes_nm]; exact List.mem_map.mpr ⟨e, mem_of_get he, rfl⟩, e1.symm⟩
      have hpn : nm ∈ (pes es).map (·.1) := by rw [pes_nm]; exact hnm
      obtain ⟨te, hte, hten⟩ : ∃ te ∈ tes, te.1 = nm := by
        rw [← t2] at hnm
        obtain ⟨te, h1, h2⟩ := List.mem_map.mp hnm
        exact ⟨te, h1, h2⟩
      have L16 := L15.same s6
      refine ⟨_, rfl, _, rfl, D, pes es, kvs, nm, rfl, L16, hpn, fun hring H7 s7 => ?_, fun hno H7 m s7 hm => ?_⟩
      · have s67 := s6.trans s7
        refine ⟨_, rfl, _, rfl, p', tes, vs, nm, rfl, bk_tk (tk_same s67) hT5, bt.tl, bt.kp, by rw [t2]; exact hnd, ⟨te, hte, hten⟩, bt.al, fun H8 t l1 l2 r1 r2 v1 v2 g s8 ht hR => ?_, fun H8 t L Dl N lv r vs' g s8 ht hM => absurd (hring.sub bt.s2) hM.ring⟩
        have s68 := s67.trans s8
        refine ⟨t, _, rfl, SqT.of ht, rfl, _, _, rfl, _, _, rfl, _, _, rfl, rfl, ?_⟩
        refine ⟨_, rfl, rfl, _, rfl, itT rfl ?_⟩
        refine ⟨_, rfl, rfl, _, rfl, itF (by rfl) ?_⟩
        refine ⟨_, rfl, _, rfl, _, rfl, _, rfl, D2, l1, l2, tes, kvs2, nm, g, r1, r2, v1, v2, rfl, L25.same s68, hR.h1, hR.p1, hR.w1, hR.h2, hR.p2, hR.w2, hR.wt, fun H9 s9 => ⟨_, rfl, ?_⟩⟩
        refine iteF ?_
        exact ⟨_, _, _, _, _, rfl, s68.trans s9⟩
      · have s67 := s6.trans s7
        refine ⟨_, rfl, _, rfl, p', tes, vs, nm, rfl, bk_tk (tk_same s67) hT5, bt.tl, bt.kp, by rw [t2]; exact hnd, ⟨te, hte, hten⟩, bt.al, fun H8 t l1 l2 r1 r2 v1 v2 g s8 ht hR => absurd ((ring_of hR.w1 hR.w2 hR.wt).sub bt.s1) hno, fun H8 t L Dl N lv r vs' g s8 ht hM => ?_⟩
        have s68 := s67.trans s8
        have em : wtR r = m := (hM.max.sub bt.s1 bt.s2).one hm
        refine ⟨t, _, rfl, SqT.of ht, rfl, _, _, rfl, _, _, rfl, _, _, rfl, rfl, ?_⟩
        refine ⟨_, rfl, rfl, _, rfl, itF rfl ?_⟩
        refine ⟨_, rfl, rfl, _, rfl, itF (by rfl) ?_⟩
        have L28 := L25.same s68
        refine ⟨_, rfl, _, rfl, _, rfl, D2, L, tes, kvs2, nm, g, r, vs', rfl, L28.rd, L28.la, L28.nd, L28.ws, L28.as, hM.hL, hM.pv, hM.row, fun t9 H9 s9 h9 => ⟨t9, _, _, _, rfl, rfl, SqT.of h9, at1, _, rfl, rfl, _, rfl, ?_⟩⟩
        refine itF (by rw [em, decide_eq_true rfl]; rfl) ?_
        exact ⟨_, _, _, _, _, rfl, s68.trans s9⟩
    · rintro σ H6 ⟨o8, o9, o10, o11, o12, rfl, s6⟩
      refine ⟨s6 _ _ h5, fun H7 f7 e7 => ?_⟩
      exact q H7
end
end KB

namespace KB
open PySem L2
theorem all_mk {l : PySem.W.OpenLaw} {w : World} {K : PySem.W.Frag} {h : Heap} {mg : Str → Option Value} {fa : Addr} (X : K.In h) (G : h.Ns mainGlobals mg) (hfa : mg "law" = some (.ref fa))
    {f1 f2 f3 f4 f5 f6 f7 f8 f9 f10 f11 f12 f13 f14 f15 f16 f17 f18 f19 f20 f21 f22 f23 f24 f25 f26 f27 f28 f29 f30 f31 f32 f33 f34 f35 f36 f37 f38 f39 f40 f41 f42 f43 f44 m1 m2 m3 m4 m5 m6 m7 m8 m9 CN CT CE tuSIMPLE_HEADS : Addr}
    {od1 an1 od2 an2 od3 an3 od4 an4 od5 an5 od6 an6 od7 an7 od8 an8 od9 an9 od10 an10 od11 an11 od12 an12 od13 an13 od14 an14 od15 an15 od16 an16 od17 an17 od18 an18 od19 an19 od20 an20 od21 an21 od22 an22 od23 an23 od24 an24 od25 an25 od26 an26 od27 an27 od28 an28 od29 an29 od30 an30 od31 an31 od32 an32 od33 an33 od34 an34 od35 an35 od36 an36 od37 an37 od38 an38 od39 an39 od40 an40 od41 an41 od42 an42 od43 an43 od44 an44 mod1 man1 mod2 man2 mod3 man3 mod4 man4 mod5 man5 mod6 man6 mod7 man7 mod8 man8 mod9 man9 : Option Addr}
    {sl1 sl2 sl3 sl4 sl5 sl6 sl7 sl8 sl9 sl10 sl11 sl12 sl13 sl14 sl15 sl16 sl17 sl18 sl19 sl20 sl21 sl22 sl23 sl24 sl25 sl26 sl27 sl28 sl29 sl30 sl31 sl32 sl33 sl34 sl35 sl36 sl37 sl38 sl39 sl40 sl41 sl42 sl43 sl44 msl1 msl2 msl3 msl4 msl5 msl6 msl7 msl8 msl9 : Array (Option Value)}
    {oc1 kV1 dc1 pm1 cd1 ct1 oc2 kV2 dc2 pm2 cd2 ct2 oc3 kV3 dc3 pm3 cd3 ct3 oc4 kV4 dc4 pm4 cd4 ct4 oc5 kV5 dc5 pm5 cd5 ct5 oc6 kV6 dc6 pm6 cd6 ct6 oc7 kV7 dc7 pm7 cd7 ct7 oc8 kV8 dc8 pm8 cd8 ct8 oc9 kV9 dc9 pm9 cd9 ct9 oc10 kV10 dc10 pm10 cd10 ct10 oc11 kV11 dc11 pm11 cd11 ct11 oc12 kV12 dc12 pm12 cd12 ct12 oc13 kV13 dc13 pm13 cd13 ct13 oc14 kV14 dc14 pm14 cd14 ct14 oc15 kV15 dc15 pm15 cd15 ct15 oc16 kV16 dc16 pm16 cd16 ct16 oc17 kV17 dc17 pm17 cd17 ct17 oc18 kV18 dc18 pm18 cd18 ct18 oc19 kV19 dc19 pm19 cd19 ct19 oc20 kV20 dc20 pm20 cd20 ct20 oc21 kV21 dc21 pm21 cd21 ct21 oc22 kV22 dc22 pm22 cd22 ct22 oc23 kV23 dc23 pm23 cd23 ct23 oc24 kV24 dc24 pm24 cd24 ct24 oc25 kV25 dc25 pm25 cd25 ct25 oc26 kV26 dc26 pm26 cd26 ct26 oc27 kV27 dc27 pm27 cd27 ct27 oc28 kV28 dc28 pm28 cd28 ct28 oc29 kV29 dc29 pm29 cd29 ct29 oc30 kV30 dc30 pm30 cd30 ct30 oc31 kV31 dc31 pm31 cd31 ct31 oc32 kV32 dc32 pm32 cd32 ct32 oc33 kV33 dc33 pm33 cd33 ct33 oc34 kV34 dc34 pm34 cd34 ct34 oc35 kV35 dc35 pm35 cd35 ct35 oc36 kV36 dc36 pm36 cd36 ct36 oc37 kV37 dc37 pm37 cd37 ct37 oc38 kV38 dc38 pm38 cd38 ct38 oc39 kV39 dc39 pm39 cd39 ct39 oc40 kV40 dc40 pm40 cd40 ct40 oc41 kV41 dc41 pm41 cd41 ct41 oc42 kV42 dc42 pm42 cd42 ct42 oc43 kV43 dc43 pm43 cd43 ct43 oc44 kV44 dc44 pm44 cd44 ct44 moc1 mkV1 mdc1 mpm1 mcd1 mct1 moc2 mkV2 mdc2 mpm2 mcd2 mct2 moc3 mkV3 mdc3 mpm3 mcd3 mct3 moc4 mkV4 mdc4 mpm4 mcd4 mct4 moc5 mkV5 mdc5 mpm5 mcd5 mct5 moc6 mkV6 mdc6 mpm6 mcd6 mct6 moc7 mkV7 mdc7 mpm7 mcd7 mct7 moc8 mkV8 mdc8 mpm8 mcd8 mct8 moc9 mkV9 mdc9 mpm9 mcd9 mct9 : Value}
    (a1 : PySem.W.nsIn K mainGlobals "met" = some (some (.ref f1)))
    (l1 : K.lookup f1 = some ⟨oc1, od1, .func (PySem.W.fnOf "met" "met" (defArgs smet) (defBody smet) (defScope smet) .none kV1 dc1 pm1 an1 cd1 ct1), sl1⟩)
    (c1 : PySem.W.codeIn K cd1 "met" = true)
    (k1 : PySem.W.keepIn K (.ref f1) = true)
    (a2 : PySem.W.nsIn K mainGlobals "placed" = some (some (.ref f2)))
    (l2 : K.lookup f2 = some ⟨oc2, od2, .func (PySem.W.fnOf "placed" "placed" (defArgs splaced) (defBody splaced) (defScope splaced) .none kV2 dc2 pm2 an2 cd2 ct2), sl2⟩)
    (c2 : PySem.W.codeIn K cd2 "placed" = true)
    (k2 : PySem.W.keepIn K (.ref f2) = true)
    (a3 : PySem.W.nsIn K mainGlobals "last_taken" = some (some (.ref f3)))
    (l3 : K.lookup f3 = some ⟨oc3, od3, .func (PySem.W.fnOf "last_taken" "last_taken" (defArgs slast_taken) (defBody slast_taken) (defScope slast_taken) .none kV3 dc3 pm3 an3 cd3 ct3), sl3⟩)
    (c3 : PySem.W.codeIn K cd3 "last_taken" = true)
    (k3 : PySem.W.keepIn K (.ref f3) = true)
    (a4 : PySem.W.nsIn K mainGlobals "parts_of" = some (some (.ref f4)))
    (l4 : K.lookup f4 = some ⟨oc4, od4, .func (PySem.W.fnOf "parts_of" "parts_of" (defArgs sparts_of) (defBody sparts_of) (defScope sparts_of) .none kV4 dc4 pm4 an4 cd4 ct4), sl4⟩)
    (c4 : PySem.W.codeIn K cd4 "parts_of" = true)
    (k4 : PySem.W.keepIn K (.ref f4) = true)
    (a5 : PySem.W.nsIn K mainGlobals "errand_named" = some (some (.ref f5)))
    (l5 : K.lookup f5 = some ⟨oc5, od5, .func (PySem.W.fnOf "errand_named" "errand_named" (defArgs serrand_named) (defBody serrand_named) (defScope serrand_named) .none kV5 dc5 pm5 an5 cd5 ct5), sl5⟩)
    (c5 : PySem.W.codeIn K cd5 "errand_named" = true)
    (k5 : PySem.W.keepIn K (.ref f5) = true)
    (a6 : PySem.W.nsIn K mainGlobals "words_in" = some (some (.ref f6)))
    (l6 : K.lookup f6 = some ⟨oc6, od6, .func (PySem.W.fnOf "words_in" "words_in" (defArgs swords_in) (defBody swords_in) (defScope swords_in) .none kV6 dc6 pm6 an6 cd6 ct6), sl6⟩)
    (c6 : PySem.W.codeIn K cd6 "words_in" = true)
    (k6 : PySem.W.keepIn K (.ref f6) = true)
    (a7 : PySem.W.nsIn K mainGlobals "need_errand" = some (some (.ref f7)))
    (l7 : K.lookup f7 = some ⟨oc7, od7, .func (PySem.W.fnOf "need_errand" "need_errand" (defArgs sneed_errand) (defBody sneed_errand) (defScope sneed_errand) .none kV7 dc7 pm7 an7 cd7 ct7), sl7⟩)
    (c7 : PySem.W.codeIn K cd7 "need_errand" = true)
    (k7 : PySem.W.keepIn K (.ref f7) = true)
    (a8 : PySem.W.nsIn K mainGlobals "terms_in" = some (some (.ref f8)))
    (l8 : K.lookup f8 = some ⟨oc8, od8, .func (PySem.W.fnOf "terms_in" "terms_in" (defArgs sterms_in) (defBody sterms_in) (defScope sterms_in) .none kV8 dc8 pm8 an8 cd8 ct8), sl8⟩)
    (c8 : PySem.W.codeIn K cd8 "terms_in" = true)
    (k8 : PySem.W.keepIn K (.ref f8) = true)
    (a9 : PySem.W.nsIn K mainGlobals "rest_of" = some (some (.ref f9)))
    (l9 : K.lookup f9 = some ⟨oc9, od9, .func (PySem.W.fnOf "rest_of" "rest_of" (defArgs srest_of) (defBody srest_of) (defScope srest_of) .none kV9 dc9 pm9 an9 cd9 ct9), sl9⟩)
    (c9 : PySem.W.codeIn K cd9 "rest_of" = true)
    (k9 : PySem.W.keepIn K (.ref f9) = true)
    (a10 : PySem.W.nsIn K mainGlobals "turned_parts" = some (some (.ref f10)))
    (l10 : K.lookup f10 = some ⟨oc10, od10, .func (PySem.W.fnOf "turned_parts" "turned_parts" (defArgs sturned_parts) (defBody sturned_parts) (defScope sturned_parts) .none kV10 dc10 pm10 an10 cd10 ct10), sl10⟩)
    (c10 : PySem.W.codeIn K cd10 "turned_parts" = true)
    (k10 : PySem.W.keepIn K (.ref f10) = true)
    (a11 : PySem.W.nsIn K mainGlobals "most_waiting" = some (some (.ref f11)))
    (l11 : K.lookup f11 = some ⟨oc11, od11, .func (PySem.W.fnOf "most_waiting" "most_waiting" (defArgs smost_waiting) (defBody smost_waiting) (defScope smost_waiting) .none kV11 dc11 pm11 an11 cd11 ct11), sl11⟩)
    (c11 : PySem.W.codeIn K cd11 "most_waiting" = true)
    (k11 : PySem.W.keepIn K (.ref f11) = true)
    (a12 : PySem.W.nsIn K mainGlobals "asks_placed" = some (some (.ref f12)))
    (l12 : K.lookup f12 = some ⟨oc12, od12, .func (PySem.W.fnOf "asks_placed" "asks_placed" (defArgs sasks_placed) (defBody sasks_placed) (defScope sasks_placed) .none kV12 dc12 pm12 an12 cd12 ct12), sl12⟩)
    (c12 : PySem.W.codeIn K cd12 "asks_placed" = true)
    (k12 : PySem.W.keepIn K (.ref f12) = true)
    (a13 : PySem.W.nsIn K mainGlobals "rows_from" = some (some (.ref f13)))
    (l13 : K.lookup f13 = some ⟨oc13, od13, .func (PySem.W.fnOf "rows_from" "rows_from" (defArgs srows_from) (defBody srows_from) (defScope srows_from) .none kV13 dc13 pm13 an13 cd13 ct13), sl13⟩)
    (c13 : PySem.W.codeIn K cd13 "rows_from" = true)
    (k13 : PySem.W.keepIn K (.ref f13) = true)
    (a14 : PySem.W.nsIn K mainGlobals "least_levels" = some (some (.ref f14)))
    (l14 : K.lookup f14 = some ⟨oc14, od14, .func (PySem.W.fnOf "least_levels" "least_levels" (defArgs sleast_levels) (defBody sleast_levels) (defScope sleast_levels) .none kV14 dc14 pm14 an14 cd14 ct14), sl14⟩)
    (c14 : PySem.W.codeIn K cd14 "least_levels" = true)
    (k14 : PySem.W.keepIn K (.ref f14) = true)
    (a15 : PySem.W.nsIn K mainGlobals "greatest_row" = some (some (.ref f15)))
    (l15 : K.lookup f15 = some ⟨oc15, od15, .func (PySem.W.fnOf "greatest_row" "greatest_row" (defArgs sgreatest_row) (defBody sgreatest_row) (defScope sgreatest_row) .none kV15 dc15 pm15 an15 cd15 ct15), sl15⟩)
    (c15 : PySem.W.codeIn K cd15 "greatest_row" = true)
    (k15 : PySem.W.keepIn K (.ref f15) = true)
    (a16 : PySem.W.nsIn K mainGlobals "step_down" = some (some (.ref f16)))
    (l16 : K.lookup f16 = some ⟨oc16, od16, .func (PySem.W.fnOf "step_down" "step_down" (defArgs sstep_down) (defBody sstep_down) (defScope sstep_down) .none kV16 dc16 pm16 an16 cd16 ct16), sl16⟩)
    (c16 : PySem.W.codeIn K cd16 "step_down" = true)
    (k16 : PySem.W.keepIn K (.ref f16) = true)
    (a17 : PySem.W.nsIn K mainGlobals "is_step_to" = some (some (.ref f17)))
    (l17 : K.lookup f17 = some ⟨oc17, od17, .func (PySem.W.fnOf "is_step_to" "is_step_to" (defArgs sis_step_to) (defBody sis_step_to) (defScope sis_step_to) .none kV17 dc17 pm17 an17 cd17 ct17), sl17⟩)
    (c17 : PySem.W.codeIn K cd17 "is_step_to" = true)
    (k17 : PySem.W.keepIn K (.ref f17) = true)
    (a18 : PySem.W.nsIn K mainGlobals "word_of" = some (some (.ref f18)))
    (l18 : K.lookup f18 = some ⟨oc18, od18, .func (PySem.W.fnOf "word_of" "word_of" (defArgs sword_of) (defBody sword_of) (defScope sword_of) .none kV18 dc18 pm18 an18 cd18 ct18), sl18⟩)
    (c18 : PySem.W.codeIn K cd18 "word_of" = true)
    (k18 : PySem.W.keepIn K (.ref f18) = true)
    (a19 : PySem.W.nsIn K mainGlobals "turn_book" = some (some (.ref f19)))
    (l19 : K.lookup f19 = some ⟨oc19, od19, .func (PySem.W.fnOf "turn_book" "turn_book" (defArgs sturn_book) (defBody sturn_book) (defScope sturn_book) .none kV19 dc19 pm19 an19 cd19 ct19), sl19⟩)
    (c19 : PySem.W.codeIn K cd19 "turn_book" = true)
    (k19 : PySem.W.keepIn K (.ref f19) = true)
    (a20 : PySem.W.nsIn K mainGlobals "turned_body" = some (some (.ref f20)))
    (l20 : K.lookup f20 = some ⟨oc20, od20, .func (PySem.W.fnOf "turned_body" "turned_body" (defArgs sturned_body) (defBody sturned_body) (defScope sturned_body) .none kV20 dc20 pm20 an20 cd20 ct20), sl20⟩)
    (c20 : PySem.W.codeIn K cd20 "turned_body" = true)
    (k20 : PySem.W.keepIn K (.ref f20) = true)
    (a21 : PySem.W.nsIn K mainGlobals "jobs_to_end" = some (some (.ref f21)))
    (l21 : K.lookup f21 = some ⟨oc21, od21, .func (PySem.W.fnOf "jobs_to_end" "jobs_to_end" (defArgs sjobs_to_end) (defBody sjobs_to_end) (defScope sjobs_to_end) .none kV21 dc21 pm21 an21 cd21 ct21), sl21⟩)
    (c21 : PySem.W.codeIn K cd21 "jobs_to_end" = true)
    (k21 : PySem.W.keepIn K (.ref f21) = true)
    (a22 : PySem.W.nsIn K mainGlobals "put_ahead" = some (some (.ref f22)))
    (l22 : K.lookup f22 = some ⟨oc22, od22, .func (PySem.W.fnOf "put_ahead" "put_ahead" (defArgs sput_ahead) (defBody sput_ahead) (defScope sput_ahead) .none kV22 dc22 pm22 an22 cd22 ct22), sl22⟩)
    (c22 : PySem.W.codeIn K cd22 "put_ahead" = true)
    (k22 : PySem.W.keepIn K (.ref f22) = true)
    (a23 : PySem.W.nsIn K mainGlobals "_law_cell_at" = some (some (.ref f23)))
    (l23 : K.lookup f23 = some ⟨oc23, od23, .func (PySem.W.fnOf "_law_cell_at" "_law_cell_at" (defArgs s_law_cell_at) (defBody s_law_cell_at) (defScope s_law_cell_at) .none kV23 dc23 pm23 an23 cd23 ct23), sl23⟩)
    (c23 : PySem.W.codeIn K cd23 "_law_cell_at" = true)
    (k23 : PySem.W.keepIn K (.ref f23) = true)
    (a24 : PySem.W.nsIn K mainGlobals "_law_tape" = some (some (.ref f24)))
    (l24 : K.lookup f24 = some ⟨oc24, od24, .func (PySem.W.fnOf "_law_tape" "_law_tape" (defArgs s_law_tape) (defBody s_law_tape) (defScope s_law_tape) .none kV24 dc24 pm24 an24 cd24 ct24), sl24⟩)
    (c24 : PySem.W.codeIn K cd24 "_law_tape" = true)
    (k24 : PySem.W.keepIn K (.ref f24) = true)
    (a25 : PySem.W.nsIn K mainGlobals "_law_digit" = some (some (.ref f25)))
    (l25 : K.lookup f25 = some ⟨oc25, od25, .func (PySem.W.fnOf "_law_digit" "_law_digit" (defArgs s_law_digit) (defBody s_law_digit) (defScope s_law_digit) .none kV25 dc25 pm25 an25 cd25 ct25), sl25⟩)
    (c25 : PySem.W.codeIn K cd25 "_law_digit" = true)
    (k25 : PySem.W.keepIn K (.ref f25) = true)
    (a26 : PySem.W.nsIn K mainGlobals "_law_words" = some (some (.ref f26)))
    (l26 : K.lookup f26 = some ⟨oc26, od26, .func (PySem.W.fnOf "_law_words" "_law_words" (defArgs s_law_words) (defBody s_law_words) (defScope s_law_words) .none kV26 dc26 pm26 an26 cd26 ct26), sl26⟩)
    (c26 : PySem.W.codeIn K cd26 "_law_words" = true)
    (k26 : PySem.W.keepIn K (.ref f26) = true)
    (a27 : PySem.W.nsIn K mainGlobals "_law_number" = some (some (.ref f27)))
    (l27 : K.lookup f27 = some ⟨oc27, od27, .func (PySem.W.fnOf "_law_number" "_law_number" (defArgs s_law_number) (defBody s_law_number) (defScope s_law_number) .none kV27 dc27 pm27 an27 cd27 ct27), sl27⟩)
    (c27 : PySem.W.codeIn K cd27 "_law_number" = true)
    (k27 : PySem.W.keepIn K (.ref f27) = true)
    (a28 : PySem.W.nsIn K mainGlobals "_law_leaf" = some (some (.ref f28)))
    (l28 : K.lookup f28 = some ⟨oc28, od28, .func (PySem.W.fnOf "_law_leaf" "_law_leaf" (defArgs s_law_leaf) (defBody s_law_leaf) (defScope s_law_leaf) .none kV28 dc28 pm28 an28 cd28 ct28), sl28⟩)
    (c28 : PySem.W.codeIn K cd28 "_law_leaf" = true)
    (k28 : PySem.W.keepIn K (.ref f28) = true)
    (a29 : PySem.W.nsIn K mainGlobals "_law_shares" = some (some (.ref f29)))
    (l29 : K.lookup f29 = some ⟨oc29, od29, .func (PySem.W.fnOf "_law_shares" "_law_shares" (defArgs s_law_shares) (defBody s_law_shares) (defScope s_law_shares) .none kV29 dc29 pm29 an29 cd29 ct29), sl29⟩)
    (c29 : PySem.W.codeIn K cd29 "_law_shares" = true)
    (k29 : PySem.W.keepIn K (.ref f29) = true)
    (a30 : PySem.W.nsIn K mainGlobals "_law_less_one" = some (some (.ref f30)))
    (l30 : K.lookup f30 = some ⟨oc30, od30, .func (PySem.W.fnOf "_law_less_one" "_law_less_one" (defArgs s_law_less_one) (defBody s_law_less_one) (defScope s_law_less_one) .none kV30 dc30 pm30 an30 cd30 ct30), sl30⟩)
    (c30 : PySem.W.codeIn K cd30 "_law_less_one" = true)
    (k30 : PySem.W.keepIn K (.ref f30) = true)
    (a31 : PySem.W.nsIn K mainGlobals "_law_ask" = some (some (.ref f31)))
    (l31 : K.lookup f31 = some ⟨oc31, od31, .func (PySem.W.fnOf "_law_ask" "_law_ask" (defArgs s_law_ask) (defBody s_law_ask) (defScope s_law_ask) .none kV31 dc31 pm31 an31 cd31 ct31), sl31⟩)
    (c31 : PySem.W.codeIn K cd31 "_law_ask" = true)
    (k31 : PySem.W.keepIn K (.ref f31) = true)
    (a32 : PySem.W.nsIn K mainGlobals "_law_term" = some (some (.ref f32)))
    (l32 : K.lookup f32 = some ⟨oc32, od32, .func (PySem.W.fnOf "_law_term" "_law_term" (defArgs s_law_term) (defBody s_law_term) (defScope s_law_term) .none kV32 dc32 pm32 an32 cd32 ct32), sl32⟩)
    (c32 : PySem.W.codeIn K cd32 "_law_term" = true)
    (k32 : PySem.W.keepIn K (.ref f32) = true)
    (a33 : PySem.W.nsIn K mainGlobals "_law_body" = some (some (.ref f33)))
    (l33 : K.lookup f33 = some ⟨oc33, od33, .func (PySem.W.fnOf "_law_body" "_law_body" (defArgs s_law_body) (defBody s_law_body) (defScope s_law_body) .none kV33 dc33 pm33 an33 cd33 ct33), sl33⟩)
    (c33 : PySem.W.codeIn K cd33 "_law_body" = true)
    (k33 : PySem.W.keepIn K (.ref f33) = true)
    (a34 : PySem.W.nsIn K mainGlobals "_law_book" = some (some (.ref f34)))
    (l34 : K.lookup f34 = some ⟨oc34, od34, .func (PySem.W.fnOf "_law_book" "_law_book" (defArgs s_law_book) (defBody s_law_book) (defScope s_law_book) .none kV34 dc34 pm34 an34 cd34 ct34), sl34⟩)
    (c34 : PySem.W.codeIn K cd34 "_law_book" = true)
    (k34 : PySem.W.keepIn K (.ref f34) = true)
    (a35 : PySem.W.nsIn K mainGlobals "_law_parts" = some (some (.ref f35)))
    (l35 : K.lookup f35 = some ⟨oc35, od35, .func (PySem.W.fnOf "_law_parts" "_law_parts" (defArgs s_law_parts) (defBody s_law_parts) (defScope s_law_parts) .none kV35 dc35 pm35 an35 cd35 ct35), sl35⟩)
    (c35 : PySem.W.codeIn K cd35 "_law_parts" = true)
    (k35 : PySem.W.keepIn K (.ref f35) = true)
    (a36 : PySem.W.nsIn K mainGlobals "_law_kids" = some (some (.ref f36)))
    (l36 : K.lookup f36 = some ⟨oc36, od36, .func (PySem.W.fnOf "_law_kids" "_law_kids" (defArgs s_law_kids) (defBody s_law_kids) (defScope s_law_kids) .none kV36 dc36 pm36 an36 cd36 ct36), sl36⟩)
    (c36 : PySem.W.codeIn K cd36 "_law_kids" = true)
    (k36 : PySem.W.keepIn K (.ref f36) = true)
    (a37 : PySem.W.nsIn K mainGlobals "_law_all" = some (some (.ref f37)))
    (l37 : K.lookup f37 = some ⟨oc37, od37, .func (PySem.W.fnOf "_law_all" "_law_all" (defArgs s_law_all) (defBody s_law_all) (defScope s_law_all) .none kV37 dc37 pm37 an37 cd37 ct37), sl37⟩)
    (c37 : PySem.W.codeIn K cd37 "_law_all" = true)
    (k37 : PySem.W.keepIn K (.ref f37) = true)
    (a38 : PySem.W.nsIn K mainGlobals "_law_asks" = some (some (.ref f38)))
    (l38 : K.lookup f38 = some ⟨oc38, od38, .func (PySem.W.fnOf "_law_asks" "_law_asks" (defArgs s_law_asks) (defBody s_law_asks) (defScope s_law_asks) .none kV38 dc38 pm38 an38 cd38 ct38), sl38⟩)
    (c38 : PySem.W.codeIn K cd38 "_law_asks" = true)
    (k38 : PySem.W.keepIn K (.ref f38) = true)
    (a39 : PySem.W.nsIn K mainGlobals "_law_come_to" = some (some (.ref f39)))
    (l39 : K.lookup f39 = some ⟨oc39, od39, .func (PySem.W.fnOf "_law_come_to" "_law_come_to" (defArgs s_law_come_to) (defBody s_law_come_to) (defScope s_law_come_to) .none kV39 dc39 pm39 an39 cd39 ct39), sl39⟩)
    (c39 : PySem.W.codeIn K cd39 "_law_come_to" = true)
    (k39 : PySem.W.keepIn K (.ref f39) = true)
    (a40 : PySem.W.nsIn K mainGlobals "_law_weighs" = some (some (.ref f40)))
    (l40 : K.lookup f40 = some ⟨oc40, od40, .func (PySem.W.fnOf "_law_weighs" "_law_weighs" (defArgs s_law_weighs) (defBody s_law_weighs) (defScope s_law_weighs) .none kV40 dc40 pm40 an40 cd40 ct40), sl40⟩)
    (c40 : PySem.W.codeIn K cd40 "_law_weighs" = true)
    (k40 : PySem.W.keepIn K (.ref f40) = true)
    (a41 : PySem.W.nsIn K mainGlobals "_law_row_end" = some (some (.ref f41)))
    (l41 : K.lookup f41 = some ⟨oc41, od41, .func (PySem.W.fnOf "_law_row_end" "_law_row_end" (defArgs s_law_row_end) (defBody s_law_row_end) (defScope s_law_row_end) .none kV41 dc41 pm41 an41 cd41 ct41), sl41⟩)
    (c41 : PySem.W.codeIn K cd41 "_law_row_end" = true)
    (k41 : PySem.W.keepIn K (.ref f41) = true)
    (a42 : PySem.W.nsIn K mainGlobals "_law_is_ring" = some (some (.ref f42)))
    (l42 : K.lookup f42 = some ⟨oc42, od42, .func (PySem.W.fnOf "_law_is_ring" "_law_is_ring" (defArgs s_law_is_ring) (defBody s_law_is_ring) (defScope s_law_is_ring) .none kV42 dc42 pm42 an42 cd42 ct42), sl42⟩)
    (c42 : PySem.W.codeIn K cd42 "_law_is_ring" = true)
    (k42 : PySem.W.keepIn K (.ref f42) = true)
    (a43 : PySem.W.nsIn K mainGlobals "_law_plain_asks" = some (some (.ref f43)))
    (l43 : K.lookup f43 = some ⟨oc43, od43, .func (PySem.W.fnOf "_law_plain_asks" "_law_plain_asks" (defArgs s_law_plain_asks) (defBody s_law_plain_asks) (defScope s_law_plain_asks) .none kV43 dc43 pm43 an43 cd43 ct43), sl43⟩)
    (c43 : PySem.W.codeIn K cd43 "_law_plain_asks" = true)
    (k43 : PySem.W.keepIn K (.ref f43) = true)
    (a44 : PySem.W.nsIn K mainGlobals "law" = some (some (.ref f44)))
    (l44 : K.lookup f44 = some ⟨oc44, od44, .func (PySem.W.fnOf "law" "law" (defArgs slaw) (defBody slaw) (defScope slaw) .none kV44 dc44 pm44 an44 cd44 ct44), sl44⟩)
    (c44 : PySem.W.codeIn K cd44 "law" = true)
    (k44 : PySem.W.keepIn K (.ref f44) = true)
    (gCN : PySem.W.nsIn K mainGlobals "NewWords" = some (some (.ref CN)))
    (gCT : PySem.W.nsIn K mainGlobals "Turning" = some (some (.ref CT)))
    (ma1 : PySem.W.findIn K (.ref CN) "__init__" = some (some (.ref m1)))
    (mi1 : PySem.W.isFn K (.ref m1) = true)
    (ml1 : K.lookup m1 = some ⟨moc1, mod1, .func (PySem.W.fnOf "__init__" "NewWords.__init__" (defArgs sNew0) (defBody sNew0) (defScope sNew0) .none mkV1 mdc1 mpm1 man1 mcd1 mct1), msl1⟩)
    (mc1 : PySem.W.codeIn K mcd1 "NewWords.__init__" = true)
    (mk1 : PySem.W.keepIn K (.ref m1) = true)
    (ma2 : PySem.W.findIn K (.ref CN) "one_more" = some (some (.ref m2)))
    (mi2 : PySem.W.isFn K (.ref m2) = true)
    (ml2 : K.lookup m2 = some ⟨moc2, mod2, .func (PySem.W.fnOf "one_more" "NewWords.one_more" (defArgs sMore) (defBody sMore) (defScope sMore) .none mkV2 mdc2 mpm2 man2 mcd2 mct2), msl2⟩)
    (mc2 : PySem.W.codeIn K mcd2 "NewWords.one_more" = true)
    (mk2 : PySem.W.keepIn K (.ref m2) = true)
    (ma3 : PySem.W.findIn K (.ref CT) "__init__" = some (some (.ref m3)))
    (mi3 : PySem.W.isFn K (.ref m3) = true)
    (ml3 : K.lookup m3 = some ⟨moc3, mod3, .func (PySem.W.fnOf "__init__" "Turning.__init__" (defArgs sT0) (defBody sT0) (defScope sT0) .none mkV3 mdc3 mpm3 man3 mcd3 mct3), msl3⟩)
    (mc3 : PySem.W.codeIn K mcd3 "Turning.__init__" = true)
    (mk3 : PySem.W.keepIn K (.ref m3) = true)
    (ma4 : PySem.W.findIn K (.ref CT) "go" = some (some (.ref m4)))
    (mi4 : PySem.W.isFn K (.ref m4) = true)
    (ml4 : K.lookup m4 = some ⟨moc4, mod4, .func (PySem.W.fnOf "go" "Turning.go" (defArgs sGo) (defBody sGo) (defScope sGo) .none mkV4 mdc4 mpm4 man4 mcd4 mct4), msl4⟩)
    (mc4 : PySem.W.codeIn K mcd4 "Turning.go" = true)
    (mk4 : PySem.W.keepIn K (.ref m4) = true)
    (ma5 : PySem.W.findIn K (.ref CT) "jobs_of" = some (some (.ref m5)))
    (mi5 : PySem.W.isFn K (.ref m5) = true)
    (ml5 : K.lookup m5 = some ⟨moc5, mod5, .func (PySem.W.fnOf "jobs_of" "Turning.jobs_of" (defArgs sJof) (defBody sJof) (defScope sJof) .none mkV5 mdc5 mpm5 man5 mcd5 mct5), msl5⟩)
    (mc5 : PySem.W.codeIn K mcd5 "Turning.jobs_of" = true)
    (mk5 : PySem.W.keepIn K (.ref m5) = true)
    (ma6 : PySem.W.findIn K (.ref CT) "jobs_done" = some (some (.ref m6)))
    (mi6 : PySem.W.isFn K (.ref m6) = true)
    (ml6 : K.lookup m6 = some ⟨moc6, mod6, .func (PySem.W.fnOf "jobs_done" "Turning.jobs_done" (defArgs sJdone) (defBody sJdone) (defScope sJdone) .none mkV6 mdc6 mpm6 man6 mcd6 mct6), msl6⟩)
    (mc6 : PySem.W.codeIn K mcd6 "Turning.jobs_done" = true)
    (mk6 : PySem.W.keepIn K (.ref m6) = true)
    (ma7 : PySem.W.findIn K (.ref CT) "jobs_put" = some (some (.ref m7)))
    (mi7 : PySem.W.isFn K (.ref m7) = true)
    (ml7 : K.lookup m7 = some ⟨moc7, mod7, .func (PySem.W.fnOf "jobs_put" "Turning.jobs_put" (defArgs sJput) (defBody sJput) (defScope sJput) .none mkV7 mdc7 mpm7 man7 mcd7 mct7), msl7⟩)
    (mc7 : PySem.W.codeIn K mcd7 "Turning.jobs_put" = true)
    (mk7 : PySem.W.keepIn K (.ref m7) = true)
    (ma8 : PySem.W.findIn K (.ref CT) "jobs_simple" = some (some (.ref m8)))
    (mi8 : PySem.W.isFn K (.ref m8) = true)
    (ml8 : K.lookup m8 = some ⟨moc8, mod8, .func (PySem.W.fnOf "jobs_simple" "Turning.jobs_simple" (defArgs sJsimp) (defBody sJsimp) (defScope sJsimp) .none mkV8 mdc8 mpm8 man8 mcd8 mct8), msl8⟩)
    (mc8 : PySem.W.codeIn K mcd8 "Turning.jobs_simple" = true)
    (mk8 : PySem.W.keepIn K (.ref m8) = true)
    (ma9 : PySem.W.findIn K (.ref CT) "finish" = some (some (.ref m9)))
    (mi9 : PySem.W.isFn K (.ref m9) = true)
    (ml9 : K.lookup m9 = some ⟨moc9, mod9, .func (PySem.W.fnOf "finish" "Turning.finish" (defArgs sFin) (defBody sFin) (defScope sFin) .none mkV9 mdc9 mpm9 man9 mcd9 mct9), msl9⟩)
    (mc9 : PySem.W.codeIn K mcd9 "Turning.finish" = true)
    (mk9 : PySem.W.keepIn K (.ref m9) = true)
    (pgCN : PySem.W.plainGet K CN Str.empty = true)
    (hdCN : PySem.W.hasDictIn K CN = true)
    (poCN : PySem.W.plainOver K CN = true)
    (saCN : PySem.W.findIn K (.ref CN) "__setattr__" = some (some (.builtin "object.__setattr__")))
    (msCN : PySem.W.makesIn K CN = true)
    (kcCN : PySem.W.keepIn K (.ref CN) = true)
    (nCNtaken : PySem.W.findIn K (.ref CN) "taken" = some none)
    (nCNmany : PySem.W.findIn K (.ref CN) "many" = some none)
    (pgCT : PySem.W.plainGet K CT Str.empty = true)
    (hdCT : PySem.W.hasDictIn K CT = true)
    (poCT : PySem.W.plainOver K CT = true)
    (saCT : PySem.W.findIn K (.ref CT) "__setattr__" = some (some (.builtin "object.__setattr__")))
    (msCT : PySem.W.makesIn K CT = true)
    (kcCT : PySem.W.keepIn K (.ref CT) = true)
    (nCTnew_words : PySem.W.findIn K (.ref CT) "new_words" = some none)
    (nCTjobs : PySem.W.findIn K (.ref CT) "jobs" = some none)
    (nCTrows : PySem.W.findIn K (.ref CT) "rows" = some none)
    (nCTgot : PySem.W.findIn K (.ref CT) "got" = some none)
    (gCE : PySem.W.nsIn K mainGlobals "NoAsking" = some (some (.ref CE)))
    (xCE : PySem.W.excIn K CE [.type "ValueError", .type "Exception", .type "BaseException", .type "object"] "ValueError.__new__" = true)
    (kCE : PySem.W.keepIn K (.ref CE) = true)
    (bCE : PySem.W.subIn K (.ref CE) (.type "BaseException") = some true)
    (tCE : PySem.W.typeIn K (.ref CE) = some (.type "type"))
    (z_len : PySem.W.nsIn K mainGlobals "len" = some none)
    (z_isinstance : PySem.W.nsIn K mainGlobals "isinstance" = some none)
    (z_int : PySem.W.nsIn K mainGlobals "int" = some none)
    (z_tuple : PySem.W.nsIn K mainGlobals "tuple" = some none)
    (z_list : PySem.W.nsIn K mainGlobals "list" = some none)
    (z_str : PySem.W.nsIn K mainGlobals "str" = some none)
    (z_bool : PySem.W.nsIn K mainGlobals "bool" = some none)
    (z_max : PySem.W.nsIn K mainGlobals "max" = some none)
    (z_all : PySem.W.nsIn K mainGlobals "all" = some none)
    (z_dict : PySem.W.nsIn K mainGlobals "dict" = some none)
    (z_range : PySem.W.nsIn K mainGlobals "range" = some none)
    (z_enumerate : PySem.W.nsIn K mainGlobals "enumerate" = some none)
    (z_reversed : PySem.W.nsIn K mainGlobals "reversed" = some none)
    (z_min : PySem.W.nsIn K mainGlobals "min" = some none)
    (z_sorted : PySem.W.nsIn K mainGlobals "sorted" = some none)
    (z_any : PySem.W.nsIn K mainGlobals "any" = some none)
    {tSIGNS : Tok}
    (qSIGNS : PySem.W.nsIn K mainGlobals "SIGNS" = some (some (.str lettersS tSIGNS)))
    {tBEHIND : Tok}
    (qBEHIND : PySem.W.nsIn K mainGlobals "BEHIND" = some (some (.str "q" tBEHIND)))
    {tHOME : Tok}
    (qHOME : PySem.W.nsIn K mainGlobals "HOME" = some (some (.str "home" tHOME)))
    (taSIMPLE_HEADS : PySem.W.nsIn K mainGlobals "SIMPLE_HEADS" = some (some (.ref tuSIMPLE_HEADS)))
    {tdSIMPLE_HEADS : Option Addr} {tnSIMPLE_HEADS : Nat} {tsSIMPLE_HEADS : Array (Option Value)} {tvSIMPLE_HEADS : Array Value}
    (tlSIMPLE_HEADS : K.lookup tuSIMPLE_HEADS = some ⟨.type "tuple", tdSIMPLE_HEADS, .seq tvSIMPLE_HEADS tnSIMPLE_HEADS, tsSIMPLE_HEADS⟩)
    (twSIMPLE_HEADS : Vals heads tvSIMPLE_HEADS.toList)
    : ∃ fd : FuncData, (∀ (s : Shared) (v : Value), BindsTo s fd ⟨[v], []⟩ [("script", v)]) ∧ ∀ base : Heap, K.In base → base.Ns mainGlobals mg → FnOk l.prog w K mg base CX0 164 fa fd ["script"] (spLaw K) := by
  have e := hfa.symm.trans (PySem.W.mg_of X G a44)
  cases e
  have T : Txt K mg := ⟨PySem.W.mg_none_of X G z_len, PySem.W.mg_none_of X G z_isinstance, PySem.W.mg_none_of X G z_int, PySem.W.mg_none_of X G z_tuple, PySem.W.mg_none_of X G z_list, PySem.W.mg_none_of X G z_str, PySem.W.mg_none_of X G z_bool, PySem.W.mg_none_of X G z_max, PySem.W.mg_none_of X G z_all, PySem.W.mg_none_of X G z_dict, PySem.W.mg_none_of X G z_range, PySem.W.mg_none_of X G z_enumerate, PySem.W.mg_none_of X G z_reversed⟩
  have hSIMPLE_HEADS : ∃ a, mg "SIMPLE_HEADS" = some (.ref a) ∧ ∀ H, SqT K H a heads := ⟨tuSIMPLE_HEADS, PySem.W.mg_of X G taSIMPLE_HEADS, fun H => .inr ⟨_, tvSIMPLE_HEADS, tnSIMPLE_HEADS, tlSIMPLE_HEADS, rfl, rfl, by
    have e9 := twSIMPLE_HEADS.length
    have e10 : heads.length = 4 := rfl
    rw [e10] at e9
    have e8 : tvSIMPLE_HEADS.size = 4 := by
      rw [← Array.length_toList]
      exact e9.symm
    rw [e8]
    decide, twSIMPLE_HEADS⟩⟩
  have XCE : XcT K mg "NoAsking" CE := ⟨PySem.W.mg_of X G gCE, xCE, kCE, bCE, tCE⟩
  have XN : TxN K mg CN CT := ⟨⟨pgCN, hdCN, poCN, saCN⟩, nCNtaken, nCNmany, ⟨pgCT, hdCT, poCT, saCT⟩, nCTnew_words, nCTjobs, nCTrows, nCTgot, PySem.W.mg_of X G gCN, PySem.W.mg_of X G gCT⟩
  have SX : TxS K mg := ⟨⟨_, PySem.W.mg_of X G qSIGNS⟩, ⟨_, PySem.W.mg_of X G qBEHIND⟩, ⟨_, PySem.W.mg_of X G qHOME⟩⟩
  have F1 := fun_mk (st := smet) l1 c1 k1
  have R1 : Ref K mg "met" f1 _ ["body", "parts"] := ⟨PySem.W.mg_of X G a1, k1, F1.binds (ps := ["body", "parts"]) fun _ _ _ _ _ _ us hl => match us, hl with | [_, _], _ => rfl⟩
  have F2 := fun_mk (st := splaced) l2 c2 k2
  have R2 : Ref K mg "placed" f2 _ ["name", "body", "parts"] := ⟨PySem.W.mg_of X G a2, k2, F2.binds (ps := ["name", "body", "parts"]) fun _ _ _ _ _ _ us hl => match us, hl with | [_, _, _], _ => rfl⟩
  have F3 := fun_mk (st := slast_taken) l3 c3 k3
  have R3 : Ref K mg "last_taken" f3 _ ["got", "many"] := ⟨PySem.W.mg_of X G a3, k3, F3.binds (ps := ["got", "many"]) fun _ _ _ _ _ _ us hl => match us, hl with | [_, _], _ => rfl⟩
  have F4 := fun_mk (st := sparts_of) l4 c4 k4
  have R4 : Ref K mg "parts_of" f4 _ ["term"] := ⟨PySem.W.mg_of X G a4, k4, F4.binds (ps := ["term"]) fun _ _ _ _ _ _ us hl => match us, hl with | [_], _ => rfl⟩
  have F5 := fun_mk (st := serrand_named) l5 c5 k5
  have R5 : Ref K mg "errand_named" f5 _ ["book", "f"] := ⟨PySem.W.mg_of X G a5, k5, F5.binds (ps := ["book", "f"]) fun _ _ _ _ _ _ us hl => match us, hl with | [_, _], _ => rfl⟩
  have F6 := fun_mk (st := swords_in) l6 c6 k6
  have R6 : Ref K mg "words_in" f6 _ ["names", "body"] := ⟨PySem.W.mg_of X G a6, k6, F6.binds (ps := ["names", "body"]) fun _ _ _ _ _ _ us hl => match us, hl with | [_, _], _ => rfl⟩
  have F7 := fun_mk (st := sneed_errand) l7 c7 k7
  have R7 : Ref K mg "need_errand" f7 _ ["book", "f"] := ⟨PySem.W.mg_of X G a7, k7, F7.binds (ps := ["book", "f"]) fun _ _ _ _ _ _ us hl => match us, hl with | [_, _], _ => rfl⟩
  have F8 := fun_mk (st := sterms_in) l8 c8 k8
  have R8 : Ref K mg "terms_in" f8 _ ["part"] := ⟨PySem.W.mg_of X G a8, k8, F8.binds (ps := ["part"]) fun _ _ _ _ _ _ us hl => match us, hl with | [_], _ => rfl⟩
  have F9 := fun_mk (st := srest_of) l9 c9 k9
  have R9 : Ref K mg "rest_of" f9 _ ["part"] := ⟨PySem.W.mg_of X G a9, k9, F9.binds (ps := ["part"]) fun _ _ _ _ _ _ us hl => match us, hl with | [_], _ => rfl⟩
  have F10 := fun_mk (st := sturned_parts) l10 c10 k10
  have R10 : Ref K mg "turned_parts" f10 _ ["part"] := ⟨PySem.W.mg_of X G a10, k10, F10.binds (ps := ["part"]) fun _ _ _ _ _ _ us hl => match us, hl with | [_], _ => rfl⟩
  have F11 := fun_mk (st := smost_waiting) l11 c11 k11
  have R11 : Ref K mg "most_waiting" f11 _ ["turned", "f"] := ⟨PySem.W.mg_of X G a11, k11, F11.binds (ps := ["turned", "f"]) fun _ _ _ _ _ _ us hl => match us, hl with | [_, _], _ => rfl⟩
  have F12 := fun_mk (st := sasks_placed) l12 c12 k12
  have R12 : Ref K mg "asks_placed" f12 _ ["turned"] := ⟨PySem.W.mg_of X G a12, k12, F12.binds (ps := ["turned"]) fun _ _ _ _ _ _ us hl => match us, hl with | [_], _ => rfl⟩
  have F13 := fun_mk (st := srows_from) l13 c13 k13
  have R13 : Ref K mg "rows_from" f13 _ ["f", "asks"] := ⟨PySem.W.mg_of X G a13, k13, F13.binds (ps := ["f", "asks"]) fun _ _ _ _ _ _ us hl => match us, hl with | [_, _], _ => rfl⟩
  have F14 := fun_mk (st := sleast_levels) l14 c14 k14
  have R14 : Ref K mg "least_levels" f14 _ ["asks", "names"] := ⟨PySem.W.mg_of X G a14, k14, F14.binds (ps := ["asks", "names"]) fun _ _ _ _ _ _ us hl => match us, hl with | [_, _], _ => rfl⟩
  have F15 := fun_mk (st := sgreatest_row) l15 c15 k15
  have R15 : Ref K mg "greatest_row" f15 _ ["f", "asks", "levels"] := ⟨PySem.W.mg_of X G a15, k15, F15.binds (ps := ["f", "asks", "levels"]) fun _ _ _ _ _ _ us hl => match us, hl with | [_, _, _], _ => rfl⟩
  have F16 := fun_mk (st := sstep_down) l16 c16 k16
  have R16 : Ref K mg "step_down" f16 _ ["f", "asks", "levels"] := ⟨PySem.W.mg_of X G a16, k16, F16.binds (ps := ["f", "asks", "levels"]) fun _ _ _ _ _ _ us hl => match us, hl with | [_, _, _], _ => rfl⟩
  have F17 := fun_mk (st := sis_step_to) l17 c17 k17
  have R17 : Ref K mg "is_step_to" f17 _ ["level", "ask", "levels"] := ⟨PySem.W.mg_of X G a17, k17, F17.binds (ps := ["level", "ask", "levels"]) fun _ _ _ _ _ _ us hl => match us, hl with | [_, _, _], _ => rfl⟩
  have F18 := fun_mk (st := sword_of) l18 c18 k18
  have R18 : Ref K mg "word_of" f18 _ ["k"] := ⟨PySem.W.mg_of X G a18, k18, F18.binds (ps := ["k"]) fun _ _ _ _ _ _ us hl => match us, hl with | [_], _ => rfl⟩
  have F19 := fun_mk (st := sturn_book) l19 c19 k19
  have R19 : Ref K mg "turn_book" f19 _ ["book"] := ⟨PySem.W.mg_of X G a19, k19, F19.binds (ps := ["book"]) fun _ _ _ _ _ _ us hl => match us, hl with | [_], _ => rfl⟩
  have F20 := fun_mk (st := sturned_body) l20 c20 k20
  have R20 : Ref K mg "turned_body" f20 _ ["names", "body"] := ⟨PySem.W.mg_of X G a20, k20, F20.binds (ps := ["names", "body"]) fun _ _ _ _ _ _ us hl => match us, hl with | [_, _], _ => rfl⟩
  have F21 := fun_mk (st := sjobs_to_end) l21 c21 k21
  have R21 : Ref K mg "jobs_to_end" f21 _ ["term", "j"] := ⟨PySem.W.mg_of X G a21, k21, F21.binds (ps := ["term", "j"]) fun _ _ _ _ _ _ us hl => match us, hl with | [_, _], _ => rfl⟩
  have F22 := fun_mk (st := sput_ahead) l22 c22 k22
  have R22 : Ref K mg "put_ahead" f22 _ ["leads", "part"] := ⟨PySem.W.mg_of X G a22, k22, F22.binds (ps := ["leads", "part"]) fun _ _ _ _ _ _ us hl => match us, hl with | [_, _], _ => rfl⟩
  have F23 := fun_mk (st := s_law_cell_at) l23 c23 k23
  have R23 : Ref K mg "_law_cell_at" f23 _ ["script", "k"] := ⟨PySem.W.mg_of X G a23, k23, F23.binds (ps := ["script", "k"]) fun _ _ _ _ _ _ us hl => match us, hl with | [_, _], _ => rfl⟩
  have F24 := fun_mk (st := s_law_tape) l24 c24 k24
  have R24 : Ref K mg "_law_tape" f24 _ ["script", "k"] := ⟨PySem.W.mg_of X G a24, k24, F24.binds (ps := ["script", "k"]) fun _ _ _ _ _ _ us hl => match us, hl with | [_, _], _ => rfl⟩
  have F25 := fun_mk (st := s_law_digit) l25 c25 k25
  have R25 : Ref K mg "_law_digit" f25 _ ["tape", "many"] := ⟨PySem.W.mg_of X G a25, k25, F25.binds (ps := ["tape", "many"]) fun _ _ _ _ _ _ us hl => match us, hl with | [_, _], _ => rfl⟩
  have F26 := fun_mk (st := s_law_words) l26 c26 k26
  have R26 : Ref K mg "_law_words" f26 _ ["tape", "many"] := ⟨PySem.W.mg_of X G a26, k26, F26.binds (ps := ["tape", "many"]) fun _ _ _ _ _ _ us hl => match us, hl with | [_, _], _ => rfl⟩
  have F27 := fun_mk (st := s_law_number) l27 c27 k27
  have R27 : Ref K mg "_law_number" f27 _ ["tape"] := ⟨PySem.W.mg_of X G a27, k27, F27.binds (ps := ["tape"]) fun _ _ _ _ _ _ us hl => match us, hl with | [_], _ => rfl⟩
  have F28 := fun_mk (st := s_law_leaf) l28 c28 k28
  have R28 : Ref K mg "_law_leaf" f28 _ ["tape", "known", "around"] := ⟨PySem.W.mg_of X G a28, k28, F28.binds (ps := ["tape", "known", "around"]) fun _ _ _ _ _ _ us hl => match us, hl with | [_, _, _], _ => rfl⟩
  have F29 := fun_mk (st := s_law_shares) l29 c29 k29
  have R29 : Ref K mg "_law_shares" f29 _ ["tape", "room", "many"] := ⟨PySem.W.mg_of X G a29, k29, F29.binds (ps := ["tape", "room", "many"]) fun _ _ _ _ _ _ us hl => match us, hl with | [_, _, _], _ => rfl⟩
  have F30 := fun_mk (st := s_law_less_one) l30 c30 k30
  have R30 : Ref K mg "_law_less_one" f30 _ ["around"] := ⟨PySem.W.mg_of X G a30, k30, F30.binds (ps := ["around"]) fun _ _ _ _ _ _ us hl => match us, hl with | [_], _ => rfl⟩
  have F31 := fun_mk (st := s_law_ask) l31 c31 k31
  have R31 : Ref K mg "_law_ask" f31 _ ["tape", "known", "around", "room", "deep"] := ⟨PySem.W.mg_of X G a31, k31, F31.binds (ps := ["tape", "known", "around", "room", "deep"]) fun _ _ _ _ _ _ us hl => match us, hl with | [_, _, _, _, _], _ => rfl⟩
  have F32 := fun_mk (st := s_law_term) l32 c32 k32
  have R32 : Ref K mg "_law_term" f32 _ ["tape", "known", "around", "room", "deep"] := ⟨PySem.W.mg_of X G a32, k32, F32.binds (ps := ["tape", "known", "around", "room", "deep"]) fun _ _ _ _ _ _ us hl => match us, hl with | [_, _, _, _, _], _ => rfl⟩
  have F33 := fun_mk (st := s_law_body) l33 c33 k33
  have R33 : Ref K mg "_law_body" f33 _ ["tape", "known", "names", "room"] := ⟨PySem.W.mg_of X G a33, k33, F33.binds (ps := ["tape", "known", "names", "room"]) fun _ _ _ _ _ _ us hl => match us, hl with | [_, _, _, _], _ => rfl⟩
  have F34 := fun_mk (st := s_law_book) l34 c34 k34
  have R34 : Ref K mg "_law_book" f34 _ ["script", "start"] := ⟨PySem.W.mg_of X G a34, k34, F34.binds (ps := ["script", "start"]) fun _ _ _ _ _ _ us hl => match us, hl with | [_, _], _ => rfl⟩
  have F35 := fun_mk (st := s_law_parts) l35 c35 k35
  have R35 : Ref K mg "_law_parts" f35 _ ["term"] := ⟨PySem.W.mg_of X G a35, k35, F35.binds (ps := ["term"]) fun _ _ _ _ _ _ us hl => match us, hl with | [_], _ => rfl⟩
  have F36 := fun_mk (st := s_law_kids) l36 c36 k36
  have R36 : Ref K mg "_law_kids" f36 _ ["part"] := ⟨PySem.W.mg_of X G a36, k36, F36.binds (ps := ["part"]) fun _ _ _ _ _ _ us hl => match us, hl with | [_], _ => rfl⟩
  have F37 := fun_mk (st := s_law_all) l37 c37 k37
  have R37 : Ref K mg "_law_all" f37 _ ["part", "place"] := ⟨PySem.W.mg_of X G a37, k37, F37.binds (ps := ["part", "place"]) fun _ _ _ _ _ _ us hl => match us, hl with | [_, _], _ => rfl⟩
  have F38 := fun_mk (st := s_law_asks) l38 c38 k38
  have R38 : Ref K mg "_law_asks" f38 _ ["turned"] := ⟨PySem.W.mg_of X G a38, k38, F38.binds (ps := ["turned"]) fun _ _ _ _ _ _ us hl => match us, hl with | [_], _ => rfl⟩
  have F39 := fun_mk (st := s_law_come_to) l39 c39 k39
  have R39 : Ref K mg "_law_come_to" f39 _ ["asks", "f"] := ⟨PySem.W.mg_of X G a39, k39, F39.binds (ps := ["asks", "f"]) fun _ _ _ _ _ _ us hl => match us, hl with | [_, _], _ => rfl⟩
  have F40 := fun_mk (st := s_law_weighs) l40 c40 k40
  have R40 : Ref K mg "_law_weighs" f40 _ ["asks", "f"] := ⟨PySem.W.mg_of X G a40, k40, F40.binds (ps := ["asks", "f"]) fun _ _ _ _ _ _ us hl => match us, hl with | [_, _], _ => rfl⟩
  have F41 := fun_mk (st := s_law_row_end) l41 c41 k41
  have R41 : Ref K mg "_law_row_end" f41 _ ["asks", "f", "row"] := ⟨PySem.W.mg_of X G a41, k41, F41.binds (ps := ["asks", "f", "row"]) fun _ _ _ _ _ _ us hl => match us, hl with | [_, _, _], _ => rfl⟩
  have F42 := fun_mk (st := s_law_is_ring) l42 c42 k42
  have R42 : Ref K mg "_law_is_ring" f42 _ ["asks", "f", "lead", "ring"] := ⟨PySem.W.mg_of X G a42, k42, F42.binds (ps := ["asks", "f", "lead", "ring"]) fun _ _ _ _ _ _ us hl => match us, hl with | [_, _, _, _], _ => rfl⟩
  have F43 := fun_mk (st := s_law_plain_asks) l43 c43 k43
  have R43 : Ref K mg "_law_plain_asks" f43 _ ["term", "place", "last"] := ⟨PySem.W.mg_of X G a43, k43, F43.binds (ps := ["term", "place", "last"]) fun _ _ _ _ _ _ us hl => match us, hl with | [_, _, _], _ => rfl⟩
  have F44 := fun_mk (st := slaw) l44 c44 k44
  have MF1 := fun_mk (st := sNew0) ml1 mc1 mk1
  have Mb1 := MF1.binds (ps := ["self", "taken"]) fun _ _ _ _ _ _ us hl => match us, hl with | [_, _], _ => rfl
  have MF2 := fun_mk (st := sMore) ml2 mc2 mk2
  have Mb2 := MF2.binds (ps := ["self"]) fun _ _ _ _ _ _ us hl => match us, hl with | [_], _ => rfl
  have MF3 := fun_mk (st := sT0) ml3 mc3 mk3
  have Mb3 := MF3.binds (ps := ["self", "new_words"]) fun _ _ _ _ _ _ us hl => match us, hl with | [_, _], _ => rfl
  have MF4 := fun_mk (st := sGo) ml4 mc4 mk4
  have Mb4 := MF4.binds (ps := ["self", "jobs"]) fun _ _ _ _ _ _ us hl => match us, hl with | [_, _], _ => rfl
  have MF5 := fun_mk (st := sJof) ml5 mc5 mk5
  have Mb5 := MF5.binds (ps := ["self", "job"]) fun _ _ _ _ _ _ us hl => match us, hl with | [_, _], _ => rfl
  have MF6 := fun_mk (st := sJdone) ml6 mc6 mk6
  have Mb6 := MF6.binds (ps := ["self", "term", "j"]) fun _ _ _ _ _ _ us hl => match us, hl with | [_, _, _], _ => rfl
  have MF7 := fun_mk (st := sJput) ml7 mc7 mk7
  have Mb7 := MF7.binds (ps := ["self", "term", "x"]) fun _ _ _ _ _ _ us hl => match us, hl with | [_, _, _], _ => rfl
  have MF8 := fun_mk (st := sJsimp) ml8 mc8 mk8
  have Mb8 := MF8.binds (ps := ["self", "term"]) fun _ _ _ _ _ _ us hl => match us, hl with | [_, _], _ => rfl
  have MF9 := fun_mk (st := sFin) ml9 mc9 mk9
  have Mb9 := MF9.binds (ps := ["self", "job"]) fun _ _ _ _ _ _ us hl => match us, hl with | [_, _], _ => rfl
  refine ⟨PySem.W.fnOf "law" "law" (defArgs slaw) (defBody slaw) (defScope slaw) .none kV44 dc44 pm44 an44 cd44 ct44, fun s v => .of_eq rfl, fun base _ _ => ?_⟩
  have G_law_cell_at := ok_cell (P := l.prog) (w := w) (mg := mg) (base := base) T F23
  have G_law_tape := ok_tape (P := l.prog) (w := w) (mg := mg) (base := base) T F24 G_law_cell_at R23
  have G_law_digit := ok_dig (P := l.prog) (w := w) (mg := mg) (base := base) F25
  have G_law_words := ok_words (P := l.prog) (w := w) (mg := mg) (base := base) T F26 G_law_digit R25
  have G_law_number := ok_num (P := l.prog) (w := w) (mg := mg) (base := base) F27 G_law_digit R25
  have G_law_leaf := ok_leaf (P := l.prog) (w := w) (mg := mg) (base := base) T F28 G_law_digit R25 G_law_number R27
  have G_law_shares := ok_shares (P := l.prog) (w := w) (mg := mg) (base := base) T F29 G_law_digit R25
  have G_law_less_one := ok_less (P := l.prog) (w := w) (mg := mg) (base := base) F30
  have G_law_term := all_term (P := l.prog) (w := w) (mg := mg) (base := base) T F32 F31 G_law_digit R25 G_law_leaf R28 G_law_shares R29 G_law_less_one R30 R32 R31 12
  have G_law_body := ok_body (P := l.prog) (w := w) (mg := mg) (base := base) T F33 G_law_digit R25 G_law_shares R29 G_law_term R32
  have G_law_book := ok_book (P := l.prog) (w := w) (mg := mg) (base := base) T F34 G_law_digit R25 G_law_tape R24 G_law_words R26 G_law_body R33
  have Gparts_of := ok_parts (P := l.prog) (w := w) (mg := mg) (base := base) F4
  have Gmet := ok_met (P := l.prog) (w := w) (mg := mg) (base := base) TrT F1 (parts_kids Gparts_of) R4.k R4.b
  have Gwords_in := ok_wordsIn (P := l.prog) (w := w) (mg := mg) (base := base) F6 Gmet R1 R4
  have Gword_of := ok_wordOf (P := l.prog) (w := w) (mg := mg) (base := base) T SX F18
  have GNewWords___init__ := ok_new0 (P := l.prog) (w := w) (mg := mg) (base := base) XN MF1
  have GNewWords_one_more := ok_more (P := l.prog) (w := w) (mg := mg) (base := base) XN MF2 Gword_of R18
  have Gjobs_to_end := ok_jend (P := l.prog) (w := w) (mg := mg) (base := base) T F21
  have Gput_ahead := ok_ahead (P := l.prog) (w := w) (mg := mg) (base := base) T F22
  have GTurning_jobs_done := ok_jdone (P := l.prog) (w := w) (mg := mg) (base := base) MF6 Gjobs_to_end R21
  have GTurning_jobs_put := ok_jput (P := l.prog) (w := w) (mg := mg) (base := base) XN MF7 Gjobs_to_end R21 GNewWords_one_more Mb2 ⟨ma2, mi2, mk2⟩
  have GTurning_jobs_simple := ok_jsimp (P := l.prog) (w := w) (mg := mg) (base := base) XN MF8 GNewWords_one_more Mb2 ⟨ma2, mi2, mk2⟩
  have GTurning_jobs_of := ok_jof (P := l.prog) (w := w) (mg := mg) (base := base) XN MF5 GTurning_jobs_done Mb6 ⟨ma6, mi6, mk6⟩ GTurning_jobs_put Mb7 ⟨ma7, mi7, mk7⟩ GTurning_jobs_simple Mb8 ⟨ma8, mi8, mk8⟩
  have Glast_taken := ok_last (P := l.prog) (w := w) (mg := mg) (base := base) T F3
  have GTurning_finish := ok_fin (P := l.prog) (w := w) (mg := mg) (base := base) T XN MF9 Gput_ahead R22 Glast_taken R3
  have GTurning_go := ok_go (P := l.prog) (w := w) (mg := mg) (base := base) XN MF4 GTurning_jobs_of Mb5 ⟨ma5, mi5, mk5⟩ GTurning_finish Mb9 ⟨ma9, mi9, mk9⟩
  have GTurning___init__ := ok_t0 (P := l.prog) (w := w) (mg := mg) (base := base) XN MF3
  have Gturned_body := ok_tbody (P := l.prog) (w := w) (mg := mg) (base := base) XN SX F20 Gwords_in R6 GNewWords___init__ Mb1 ⟨msCN, ma1, mi1, kcCN⟩ GTurning___init__ Mb3 ⟨msCT, ma3, mi3, kcCT⟩ GTurning_go Mb4 ⟨ma4, mi4, mk4⟩
  have Gturn_book := ok_tbook (P := l.prog) (w := w) (mg := mg) (base := base) T F19 Gturned_body R20
  have Gterms_in := ok_tin (P := l.prog) (w := w) (mg := mg) (base := base) F8
  have Grest_of := ok_rest (P := l.prog) (w := w) (mg := mg) (base := base) F9
  have Gturned_parts := ok_tparts (P := l.prog) (w := w) (mg := mg) (base := base) hSIMPLE_HEADS F10 Gparts_of R4 Gterms_in R8 Grest_of R9
  have Gplaced := ok_placed (P := l.prog) (w := w) (mg := mg) (base := base) TrN T F2 Gturned_parts R10.k R10.b
  have Gerrand_named := ok_nam (P := l.prog) (w := w) (mg := mg) (base := base) F5
  have Gneed_errand := ok_needE (P := l.prog) (w := w) (mg := mg) (base := base) XCE F7 Gerrand_named R5
  have Gasks_placed := ok_asks (P := l.prog) (w := w) (mg := mg) (base := base) (PySem.W.mg_of X G qHOME) ⟨_, rfl⟩ F12 Gplaced R2 R10
  have Grows_from := ok_rows (P := l.prog) (w := w) (mg := mg) (base := base) F13
  have GrowsZ := ok_rowsZ (P := l.prog) (w := w) (mg := mg) (base := base) F13
  have Gleast_levels := ok_least (P := l.prog) (w := w) (mg := mg) (base := base) F14
  have Gis_step_to := ok_step (P := l.prog) (w := w) (mg := mg) (base := base) F17
  have Gstep_down := ok_down (P := l.prog) (w := w) (mg := mg) (base := base) F16 Grows_from R13 Gis_step_to R17
  have Ggreatest_row := ok_great (P := l.prog) (w := w) (mg := mg) (base := base) F15 Gstep_down R16
  have Gmost_waiting := ok_mw (P := l.prog) (w := w) (mg := mg) (base := base) F11 Gneed_errand R7 Gasks_placed R12 Grows_from GrowsZ R13 Gleast_levels R14 Ggreatest_row R15 T
  have G_law_kids := ok_lkids (P := l.prog) (w := w) (mg := mg) (base := base) F36
  have G_law_all := all_lall (P := l.prog) (w := w) (mg := mg) (base := base) F37 G_law_kids R36 R37 161
  have G_law_asks := ok_lasks (P := l.prog) (w := w) (mg := mg) (base := base) T F38 G_law_all R37
  have G_law_row_end := ok_rowend (P := l.prog) (w := w) (mg := mg) (base := base) F41
  have G_law_come_to := PA.ok_comeP (P := l.prog) (w := w) (mg := mg) (base := base) T (PySem.W.mg_none_of X G z_sorted) F39
  have G_law_weighs := PA.ok_weighsP (P := l.prog) (w := w) (mg := mg) (base := base) T (PySem.W.mg_none_of X G z_any) F40 G_law_come_to R39
  have G_law_is_ring := ok_ring (P := l.prog) (w := w) (mg := mg) (base := base) T F42 G_law_row_end R41
  have G_law_parts := ok_Lparts (P := l.prog) (w := w) (mg := mg) (base := base) T F35
  have G_law_plain_asks := all_plain (P := l.prog) (w := w) (mg := mg) (base := base) T F43 R43 (parts_kids G_law_parts) R35 41
  exact ok_law T F44 G_law_book R34 G_law_plain_asks R43 Gturn_book R19 G_law_asks R38 G_law_weighs R40 Gmost_waiting R11 G_law_is_ring R42 G_law_row_end R41
theorem walk {l : PySem.W.OpenLaw} {q : Program} {loose : List Str} {XP : (Str → Option Value) → Heap → Prop} {YP : World → Heap → Prop} {d : DefRec} {K : Params → PySem.W.Frag} (hn : l.most = some 63) (hdf : d.params.defaults = [])
    (hY : ∀ (w : World) (h : Heap), YP w h → (K w.params).In h)
    (F : ∀ (w : World) (mg : Str → Option Value) (fa : Addr) (h : Heap), (K w.params).In h → h.Ns mainGlobals mg → mg d.name = some (.ref fa) →
      ∃ fd : FuncData, (∀ (s : Shared) (u : Value), BindsTo s fd ⟨[u], []⟩ [("script", u)]) ∧ ∀ base : Heap, (K w.params).In base → base.Ns mainGlobals mg → FnOk l.prog w (K w.params) mg base CX0 164 fa fd ["script"] (spLaw (K w.params))) :
    PySem.W.WalkO q loose XP YP l.row.toRowW d [] (fun f vs => PySem.call f vs) :=
  L2.walk_of (n := 63) (k := 164) (x := "script") (CX := fun _ => CX0) (sp := fun w => spLaw (K w.params)) hn (by decide) hdf ⟨rfl, by decide, by decide⟩ hY F (fun _ _ a ns hl _ hS => ⟨a, ns, rfl, hS, hl, fun _ => rfl⟩) fun _ _ _ _ _ z => z
end KB

open PySem PySem.W PyProof.Rows in
set_option maxRecDepth 100000 in
set_option maxHeartbeats 0 in
theorem PySem.Challenge.cw_whatnext_k58_whole_as_the_asks_that_are_holds : PySem.Challenge.rw_whatnext_k58_whole_as_the_asks_that_are.Holds := by
  w_on; o_law; k_head; (case hw => w_witness2)
  k_fill
  refine KB.walk (l := PySem.Challenge.rw_whatnext_k58_whole_as_the_asks_that_are) rfl rfl (fun w h Y => PySem.W.kIn_of Y) ?F
  case F =>
    intro w mg fa h KX G hmg
    refine' KB.all_mk KX G hmg ?a1 ?l1 ?c1 ?k1 ?a2 ?l2 ?c2 ?k2 ?a3 ?l3 ?c3 ?k3 ?a4 ?l4 ?c4 ?k4 ?a5 ?l5 ?c5 ?k5 ?a6 ?l6 ?c6 ?k6 ?a7 ?l7 ?c7 ?k7 ?a8 ?l8 ?c8 ?k8 ?a9 ?l9 ?c9 ?k9 ?a10 ?l10 ?c10 ?k10 ?a11 ?l11 ?c11 ?k11 ?a12 ?l12 ?c12 ?k12 ?a13 ?l13 ?c13 ?k13 ?a14 ?l14 ?c14 ?k14 ?a15 ?l15 ?c15 ?k15 ?a16 ?l16 ?c16 ?k16 ?a17 ?l17 ?c17 ?k17 ?a18 ?l18 ?c18 ?k18 ?a19 ?l19 ?c19 ?k19 ?a20 ?l20 ?c20 ?k20 ?a21 ?l21 ?c21 ?k21 ?a22 ?l22 ?c22 ?k22 ?a23 ?l23 ?c23 ?k23 ?a24 ?l24 ?c24 ?k24 ?a25 ?l25 ?c25 ?k25 ?a26 ?l26 ?c26 ?k26 ?a27 ?l27 ?c27 ?k27 ?a28 ?l28 ?c28 ?k28 ?a29 ?l29 ?c29 ?k29 ?a30 ?l30 ?c30 ?k30 ?a31 ?l31 ?c31 ?k31 ?a32 ?l32 ?c32 ?k32 ?a33 ?l33 ?c33 ?k33 ?a34 ?l34 ?c34 ?k34 ?a35 ?l35 ?c35 ?k35 ?a36 ?l36 ?c36 ?k36 ?a37 ?l37 ?c37 ?k37 ?a38 ?l38 ?c38 ?k38 ?a39 ?l39 ?c39 ?k39 ?a40 ?l40 ?c40 ?k40 ?a41 ?l41 ?c41 ?k41 ?a42 ?l42 ?c42 ?k42 ?a43 ?l43 ?c43 ?k43 ?a44 ?l44 ?c44 ?k44 ?gCN ?gCT ?ma1 ?mi1 ?ml1 ?mc1 ?mk1 ?ma2 ?mi2 ?ml2 ?mc2 ?mk2 ?ma3 ?mi3 ?ml3 ?mc3 ?mk3 ?ma4 ?mi4 ?ml4 ?mc4 ?mk4 ?ma5 ?mi5 ?ml5 ?mc5 ?mk5 ?ma6 ?mi6 ?ml6 ?mc6 ?mk6 ?ma7 ?mi7 ?ml7 ?mc7 ?mk7 ?ma8 ?mi8 ?ml8 ?mc8 ?mk8 ?ma9 ?mi9 ?ml9 ?mc9 ?mk9 ?pgCN ?hdCN ?poCN ?saCN ?msCN ?kcCN ?nCNtaken ?nCNmany ?pgCT ?hdCT ?poCT ?saCT ?msCT ?kcCT ?nCTnew_words ?nCTjobs ?nCTrows ?nCTgot ?gCE ?xCE ?kCE ?bCE ?tCE ?z_len ?z_isinstance ?z_int ?z_tuple ?z_list ?z_str ?z_bool ?z_max ?z_all ?z_dict ?z_range ?z_enumerate ?z_reversed ?z_min ?z_sorted ?z_any ?qSIGNS ?qBEHIND ?qHOME ?taSIMPLE_HEADS ?tlSIMPLE_HEADS ?twSIMPLE_HEADS
    (case a1 => k_is)
    (case l1 => k_is)
    (case c1 => k_is)
    (case k1 => k_is)
    (case a2 => k_is)
    (case l2 => k_is)
    (case c2 => k_is)
    (case k2 => k_is)
    (case a3 => k_is)
    (case l3 => k_is)
    (case c3 => k_is)
    (case k3 => k_is)
    (case a4 => k_is)
    (case l4 => k_is)
    (case c4 => k_is)
    (case k4 => k_is)
    (case a5 => k_is)
    (case l5 => k_is)
    (case c5 => k_is)
    (case k5 => k_is)
    (case a6 => k_is)
    (case l6 => k_is)
    (case c6 => k_is)
    (case k6 => k_is)
    (case a7 => k_is)
    (case l7 => k_is)
    (case c7 => k_is)
    (case k7 => k_is)
    (case a8 => k_is)
    (case l8 => k_is)
    (case c8 => k_is)
    (case k8 => k_is)
    (case a9 => k_is)
    (case l9 => k_is)
    (case c9 => k_is)
    (case k9 => k_is)
    (case a10 => k_is)
    (case l10 => k_is)
    (case c10 => k_is)
    (case k10 => k_is)
    (case a11 => k_is)
    (case l11 => k_is)
    (case c11 => k_is)
    (case k11 => k_is)
    (case a12 => k_is)
    (case l12 => k_is)
    (case c12 => k_is)
    (case k12 => k_is)
    (case a13 => k_is)
    (case l13 => k_is)
    (case c13 => k_is)
    (case k13 => k_is)
    (case a14 => k_is)
    (case l14 => k_is)
    (case c14 => k_is)
    (case k14 => k_is)
    (case a15 => k_is)
    (case l15 => k_is)
    (case c15 => k_is)
    (case k15 => k_is)
    (case a16 => k_is)
    (case l16 => k_is)
    (case c16 => k_is)
    (case k16 => k_is)
    (case a17 => k_is)
    (case l17 => k_is)
    (case c17 => k_is)
    (case k17 => k_is)
    (case a18 => k_is)
    (case l18 => k_is)
    (case c18 => k_is)
    (case k18 => k_is)
    (case a19 => k_is)
    (case l19 => k_is)
    (case c19 => k_is)
    (case k19 => k_is)
    (case a20 => k_is)
    (case l20 => k_is)
    (case c20 => k_is)
    (case k20 => k_is)
    (case a21 => k_is)
    (case l21 => k_is)
    (case c21 => k_is)
    (case k21 => k_is)
    (case a22 => k_is)
    (case l22 => k_is)
    (case c22 => k_is)
    (case k22 => k_is)
    (case a23 => k_is)
    (case l23 => k_is)
    (case c23 => k_is)
    (case k23 => k_is)
    (case a24 => k_is)
    (case l24 => k_is)
    (case c24 => k_is)
    (case k24 => k_is)
    (case a25 => k_is)
    (case l25 => k_is)
    (case c25 => k_is)
    (case k25 => k_is)
    (case a26 => k_is)
    (case l26 => k_is)
    (case c26 => k_is)
    (case k26 => k_is)
    (case a27 => k_is)
    (case l27 => k_is)
    (case c27 => k_is)
    (case k27 => k_is)
    (case a28 => k_is)
    (case l28 => k_is)
    (case c28 => k_is)
    (case k28 => k_is)
    (case a29 => k_is)
    (case l29 => k_is)
    (case c29 => k_is)
    (case k29 => k_is)
    (case a30 => k_is)
    (case l30 => k_is)
    (case c30 => k_is)
    (case k30 => k_is)
    (case a31 => k_is)
    (case l31 => k_is)
    (case c31 => k_is)
    (case k31 => k_is)
    (case a32 => k_is)
    (case l32 => k_is)
    (case c32 => k_is)
    (case k32 => k_is)
    (case a33 => k_is)
    (case l33 => k_is)
    (case c33 => k_is)
    (case k33 => k_is)
    (case a34 => k_is)
    (case l34 => k_is)
    (case c34 => k_is)
    (case k34 => k_is)
    (case a35 => k_is)
    (case l35 => k_is)
    (case c35 => k_is)
    (case k35 => k_is)
    (case a36 => k_is)
    (case l36 => k_is)
    (case c36 => k_is)
    (case k36 => k_is)
    (case a37 => k_is)
    (case l37 => k_is)
    (case c37 => k_is)
    (case k37 => k_is)
    (case a38 => k_is)
    (case l38 => k_is)
    (case c38 => k_is)
    (case k38 => k_is)
    (case a39 => k_is)
    (case l39 => k_is)
    (case c39 => k_is)
    (case k39 => k_is)
    (case a40 => k_is)
    (case l40 => k_is)
    (case c40 => k_is)
    (case k40 => k_is)
    (case a41 => k_is)
    (case l41 => k_is)
    (case c41 => k_is)
    (case k41 => k_is)
    (case a42 => k_is)
    (case l42 => k_is)
    (case c42 => k_is)
    (case k42 => k_is)
    (case a43 => k_is)
    (case l43 => k_is)
    (case c43 => k_is)
    (case k43 => k_is)
    (case a44 => k_is)
    (case l44 => k_is)
    (case c44 => k_is)
    (case k44 => k_is)
    (case gCN => k_is)
    (case gCT => k_is)
    (case ma1 => k_is)
    (case mi1 => k_is)
    (case ml1 => k_is)
    (case mc1 => k_is)
    (case mk1 => k_is)
    (case ma2 => k_is)
    (case mi2 => k_is)
    (case ml2 => k_is)
    (case mc2 => k_is)
    (case mk2 => k_is)
    (case ma3 => k_is)
    (case mi3 => k_is)
    (case ml3 => k_is)
    (case mc3 => k_is)
    (case mk3 => k_is)
    (case ma4 => k_is)
    (case mi4 => k_is)
    (case ml4 => k_is)
    (case mc4 => k_is)
    (case mk4 => k_is)
    (case ma5 => k_is)
    (case mi5 => k_is)
    (case ml5 => k_is)
    (case mc5 => k_is)
    (case mk5 => k_is)
    (case ma6 => k_is)
    (case mi6 => k_is)
    (case ml6 => k_is)
    (case mc6 => k_is)
    (case mk6 => k_is)
    (case ma7 => k_is)
    (case mi7 => k_is)
    (case ml7 => k_is)
    (case mc7 => k_is)
    (case mk7 => k_is)
    (case ma8 => k_is)
    (case mi8 => k_is)
    (case ml8 => k_is)
    (case mc8 => k_is)
    (case mk8 => k_is)
    (case ma9 => k_is)
    (case mi9 => k_is)
    (case ml9 => k_is)
    (case mc9 => k_is)
    (case mk9 => k_is)
    (case pgCN => k_is)
    (case hdCN => k_is)
    (case poCN => k_is)
    (case saCN => k_is)
    (case msCN => k_is)
    (case kcCN => k_is)
    (case nCNtaken => k_is)
    (case nCNmany => k_is)
    (case pgCT => k_is)
    (case hdCT => k_is)
    (case poCT => k_is)
    (case saCT => k_is)
    (case msCT => k_is)
    (case kcCT => k_is)
    (case nCTnew_words => k_is)
    (case nCTjobs => k_is)
    (case nCTrows => k_is)
    (case nCTgot => k_is)
    (case gCE => k_is)
    (case xCE => k_exc)
    (case kCE => k_is)
    (case bCE => k_is)
    (case tCE => k_is)
    (case z_len => k_is)
    (case z_isinstance => k_is)
    (case z_int => k_is)
    (case z_tuple => k_is)
    (case z_list => k_is)
    (case z_str => k_is)
    (case z_bool => k_is)
    (case z_max => k_is)
    (case z_all => k_is)
    (case z_dict => k_is)
    (case z_range => k_is)
    (case z_enumerate => k_is)
    (case z_reversed => k_is)
    (case z_min => k_is)
    (case z_sorted => k_is)
    (case z_any => k_is)
    (case qSIGNS => k_is)
    (case qBEHIND => k_is)
    (case qHOME => k_is)
    (case taSIMPLE_HEADS => k_is)
    (case tlSIMPLE_HEADS => k_is)
    (case twSIMPLE_HEADS => exact .cons ⟨_, rfl⟩ (.cons ⟨_, rfl⟩ (.cons ⟨_, rfl⟩ (.cons ⟨_, rfl⟩ (.nil)))))
#print axioms PySem.Challenge.cw_whatnext_k58_whole_as_the_asks_that_are_holds
